import Derived.Test.YtdelcknpaldngacLa
import Derived.Test.YtdelcknpaldngacRp
namespace Go.Proofs.Ytdelcknpaldngac
open Go.RowKit
set_option linter.unusedVariables false
set_option linter.unusedSimpArgs false
set_option maxRecDepth 100000 in
set_option maxHeartbeats 2000000 in
theorem law_smalls (op : Int) (x : Nat) (turn : Int) (w : World) (hx : x < 4294967296) :
    Calls Try.prog 3 #[.int .i64 op, .int .u32 x, .int .i64 turn] w fun e w' => e = .returned (.bool true) ∧ Below w.heap.size w w' := by
  have HG : Hid (∀ o w, Calls Try.prog 7 #[.int .i64 o, .int .u32 x, .int .i64 turn] w fun e w' => e = .returned (.tuple #[.int .u32 (smW o x turn), .bool (smO o)]) ∧ Below w.heap.size w w') := fun o w => gsmall_any o x turn w hx
  have HJ : Hid (∀ o w, Calls Try.prog 8 #[.int .i64 o, .int .u32 x, .int .i64 turn] w fun e w' => e = .returned (.tuple #[.int .u32 (smW o x turn), .bool (smO o)]) ∧ w' = w) := fun o w => jsmall_any o x turn w hx
  have HL : Hid (∀ w, Calls Try.prog 6 #[] w fun e w' => e = .returned (.bool true) ∧ Below w.heap.size w w') := live_any
  clear hx
  go_enter Try.func3, Try.ntmps3
  go_wp2_with (go_at_call 6; refine (HL.out _).mono ?_; rintro e w3 ⟨rfl, hb⟩; have HB : Hid (Below w.heap.size w w3) := hb; clear hb)
  go_loopw [7] (fun k wr => ∃ (n : Int), 23 ≤ n ∧ n ≤ 33 ∧ k = .int .i64 n ∧ Below w.heap.size w wr) (fun k _ => (33 - intOf k).toNat)
  case atStart => exact ⟨23, by omega, by omega, rfl, HB.out⟩
  case round =>
    obtain ⟨n, h1, h2, rfl, hB⟩ := hrel
    clear HB
    have HB : Hid (Below _ _ _) := hB
    clear hB
    by_cases h : n < 33
    · have hw : IntKind.i64.wrap (n + 1) = n + 1 := by rw [IntKind.wrap_i64]; omega
      have z1 : decide (n < 33) = true := decide_eq_true h
      by_cases hk : n = 23
      · have z2 : (n == 23) = true := by simp [hk]
        clear hk
        go_wp2_with (first
          | (go_at_call 7; refine (HG.out _ _).mono ?_; rintro e w1 ⟨rfl, hb⟩; have HB : Hid (Below _ _ _) := Below.step HB.out hb; clear hb)
          | (go_at_call 8; refine (HJ.out _ _).mono ?_; rintro e w' ⟨rfl, rfl⟩))
        go_roundw
        case rel => exact ⟨n + 1, by omega, by omega, rfl, HB.out⟩
        case measure => simp [intOf]; omega
      · have z2 : (n == 23) = false := by simp [hk]
        clear hk
        go_wp2_with (first
          | (go_at_call 7; refine (HG.out _ _).mono ?_; rintro e w1 ⟨rfl, hb⟩; have HB : Hid (Below _ _ _) := Below.step HB.out hb; clear hb)
          | (go_at_call 8; refine (HJ.out _ _).mono ?_; rintro e w' ⟨rfl, rfl⟩))
        go_roundw
        case rel => exact ⟨n + 1, by omega, by omega, rfl, HB.out⟩
        case measure => simp [intOf]; omega
    · obtain rfl : n = 33 := by omega
      go_wp2_with fail
      go_ret
      exact ⟨rfl, HB.out⟩
end Go.Proofs.Ytdelcknpaldngac
