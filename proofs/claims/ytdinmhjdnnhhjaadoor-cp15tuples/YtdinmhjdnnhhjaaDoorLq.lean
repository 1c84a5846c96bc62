import Derived.Test.YtdinmhjdnnhhjaaDoorRg
import Derived.Test.YtdinmhjdnnhhjaaDoorLa
import Derived.Test.YtdinmhjdnnhhjaaDoorLb
import Derived.Test.YtdinmhjdnnhhjaaDoorPq
namespace Go.Proofs.YtdinmhjdnnhhjaaDoor
open Go.RowKit
set_option linter.unusedVariables false
set_option linter.unusedSimpArgs false
set_option maxRecDepth 100000 in
set_option maxHeartbeats 4000000 in
theorem alike_any (p q : Nat) (F : List Nat) (w : World) (hF : Fi 63 w p F) (hG : Fi 77 w q F) :
    Calls Tryd.prog 21 #[.pointer (some ⟨p, 0, none⟩), .pointer (some ⟨q, 0, none⟩)] w fun e w' => e = .returned (.bool true) ∧ Below w.heap.size w w' := by
  have hno := no_any
  have HF : Hid (Fi 63 w p F) := hF
  have HG : Hid (Fi 77 w q F) := hG
  have HGet : Hid (∀ (r : Nat), r < 13 → Calls Tryd.prog 15 #[.pointer (some ⟨p, 0, none⟩), .int .i64 (r : Int)] w fun e w' => e = .returned (.tuple #[.int .u32 ((F.getD r 0 : Nat) : Int), .int .i64 0]) ∧ w = w') := fun r hr => by
    have := get_any p F r w hF
    rwa [gt_yes F r hr] at this
  have heq := eqX (ctF F)
  have HC1 : Hid (∀ w, Fi 63 w p F → Calls Tryd.prog 19 #[.pointer (some ⟨p, 0, none⟩)] w fun e w' => e = .returned (.agg #[.bool ((ctF F)).on, .bool ((ctF F)).tre, .bool ((ctF F)).afe, .int .i64 (((ctF F)).n : Nat), .bool ((ctF F)).pd0, .bool ((ctF F)).pd1, .int .u64 (((ctF F)).b0 : Nat), .int .u64 (((ctF F)).b1 : Nat), .int .u32 (((ctF F)).dacr : Nat), .int .u32 (((ctF F)).prrr : Nat), .int .u32 (((ctF F)).nmrr : Nat), .int .i64 (((ctF F)).asid : Nat)]) ∧ Below w.heap.size w w') := fun w h => context_any p F w h
  have HC2 : Hid (∀ w, Fi 77 w q F → Calls Tryd.prog 28 #[.pointer (some ⟨q, 0, none⟩)] w fun e w' => e = .returned (.agg #[.bool ((ctF F)).on, .bool ((ctF F)).tre, .bool ((ctF F)).afe, .int .i64 (((ctF F)).n : Nat), .bool ((ctF F)).pd0, .bool ((ctF F)).pd1, .int .u64 (((ctF F)).b0 : Nat), .int .u64 (((ctF F)).b1 : Nat), .int .u32 (((ctF F)).dacr : Nat), .int .u32 (((ctF F)).prrr : Nat), .int .u32 (((ctF F)).nmrr : Nat), .int .i64 (((ctF F)).asid : Nat)]) ∧ Below w.heap.size w w') := fun w h => rcontext_any q F w h
  have hlt := hG.lt
  have HCell : Hid (∀ r, r < 13 → w.cell? ⟨q, r, none⟩ = some (.int .u32 ((F.getD r 0 : Nat) : Int))) := fun r hr => hG.cell hr
  clear hF hG
  generalize ctF F = C at *
  go_enter Tryd.func21, Tryd.ntmps21
  go_wp2
  go_loop [5] (fun s5 => ∃ k : Nat, k ≤ 13 ∧ s5 = .int .i64 k) (fun s5 => 13 - (intOf s5).toNat)
  case atStart => exact ⟨0, by omega, rfl⟩
  case round =>
    obtain ⟨k, hk, rfl⟩ := hrel
    by_cases h : k < 13
    · have hi : (k : Int) < 13 := by omega
      have hg := HGet.out k h
      have hc := HCell.out k h
      have hw : IntKind.i64.wrap ((k : Int) + 1) = ((k + 1 : Nat) : Int) := by rw [IntKind.wrap_i64]; omega
      clear hk HGet HCell HC1 HC2
      generalize F.getD k 0 = v at *
      go_wp2_with (first | (go_at_call 15; refine hg.mono ?_; clear hg; rintro e w' ⟨rfl, rfl⟩) | (go_at_call 13; refine (hno _ _).mono ?_; rintro e w' ⟨rfl, rfl⟩))
      go_round
      case rel => exact ⟨k + 1, by omega, rfl⟩
      case measure => simp [intOf]; omega
    · obtain rfl : k = 13 := by omega
      clear hk h HGet HCell
      go_wp2_with (fail)
      go_at_call 19
      refine (HC1.out _ HF.out).mono ?_
      rintro e w1 ⟨rfl, hb⟩
      have HB1 : Hid (Below w.heap.size w w1) := hb
      clear hb
      go_wp2_with (fail)
      go_at_call 28
      refine (HC2.out _ (HG.out.below HB1.out)).mono ?_
      rintro e w2 ⟨rfl, hb⟩
      have HB2 : Hid (Below w.heap.size w w2) := Below.step HB1.out hb
      clear hb
      go_wp2
      go_ret
      exact ⟨rfl, HB2.out⟩
end Go.Proofs.YtdinmhjdnnhhjaaDoor
