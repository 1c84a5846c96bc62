import Derived.Test.YtdelcknpaldngacLa
import Derived.Test.YtdelcknpaldngacRn
namespace Go.Proofs.Ytdelcknpaldngac
open Go.RowKit
set_option linter.unusedVariables false
set_option linter.unusedSimpArgs false
set_option maxRecDepth 100000 in
set_option maxHeartbeats 2000000 in
theorem law_constants (i x : Nat) (c : Bool) (w : World) (hi : i < 4294967296) (hx : x < 4294967296) :
    Calls Try.prog 5 #[.int .u32 i, .int .u32 x, .bool c] w fun e w' => e = .returned (.bool true) ∧ Below w.heap.size w w' := by
  have HG : Hid (∀ w, Calls Try.prog 13 #[.int .u32 i, .bool c] w fun e w' => e = .returned (.tuple #[.int .u32 (expW i : Nat), .bool (expC i c)]) ∧ Below w.heap.size w w') := fun w => gexpand_any i c w hi
  have HJ : Hid (∀ w, Calls Try.prog 14 #[.int .u32 i, .bool c] w fun e w' => e = .returned (.tuple #[.int .u32 (expW i : Nat), .bool (expC i c)]) ∧ w' = w) := fun w => jexpand_any i c w hi
  have HP : Hid (∀ w, Calls Try.prog 15 #[.int .u32 x] w fun e w' => e = .returned (.tuple #[.int .u32 (pkW x : Nat), .bool (pkO x)]) ∧ Below w.heap.size w w') := fun w => gpack_any x w hx
  have HQ : Hid (∀ w, Calls Try.prog 16 #[.int .u32 x] w fun e w' => e = .returned (.tuple #[.int .u32 (pkW x : Nat), .bool (pkO x)]) ∧ w' = w) := fun w => jpack_any x w hx
  have HL : Hid (∀ w, Calls Try.prog 6 #[] w fun e w' => e = .returned (.bool true) ∧ Below w.heap.size w w') := live_any
  generalize expW i = a at *
  generalize expC i c = b at *
  generalize pkW x = p at *
  generalize pkO x = q at *
  clear hi hx
  have HB : Hid (Below w.heap.size w w) := Below.refl _ _
  go_enter Try.func5, Try.ntmps5
  go_wp2_with (first
    | (go_at_call 13; refine (HG.out _).mono ?_; rintro e w1 ⟨rfl, hb⟩; have HB : Hid (Below _ _ _) := Below.step HB.out hb; clear hb)
    | (go_at_call 14; refine (HJ.out _).mono ?_; rintro e w' ⟨rfl, rfl⟩)
    | (go_at_call 15; refine (HP.out _).mono ?_; rintro e w2 ⟨rfl, hb⟩; have HB : Hid (Below _ _ _) := Below.step HB.out hb; clear hb)
    | (go_at_call 16; refine (HQ.out _).mono ?_; rintro e w' ⟨rfl, rfl⟩)
    | (go_at_call 6; refine (HL.out _).mono ?_; rintro e w3 ⟨rfl, hb⟩; have HB : Hid (Below _ _ _) := Below.step HB.out hb; clear hb))
  go_ret
  exact ⟨by simp, HB.out⟩
end Go.Proofs.Ytdelcknpaldngac
