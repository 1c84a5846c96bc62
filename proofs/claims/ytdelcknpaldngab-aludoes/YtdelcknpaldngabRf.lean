import Derived.Test.YtdelcknpaldngabRc
namespace Go.Proofs.Ytdelcknpaldngab
open Go.RowKit
set_option linter.unusedVariables false
set_option linter.unusedSimpArgs false
theorem jbit_fb (x : Nat) (i : Int) (w : World) (hx : x < 4294967296) (hi : 0 ≤ i ∧ i < 32) :
    Calls Try.prog 29 #[.int .u32 x, .int .i64 i] w fun e w' => e = .returned (.bool (fb x i.toNat)) ∧ w' = w := by
  obtain ⟨I, rfl⟩ := Int.eq_ofNat_of_zero_le hi.1
  exact jbit_nat x I w hx (by omega)
set_option maxRecDepth 100000 in
theorem jflags_any (x : Nat) (w : World) (hx : x < 4294967296) :
    Calls Try.prog 14 #[.int .u32 x] w fun e w' => e = .returned (.agg #[.bool (fb x 31), .bool (fb x 30), .bool (fb x 29), .bool (fb x 28)]) ∧ Below w.heap.size w w' := by
  have HB : Hid (∀ i w, 0 ≤ i ∧ i < 32 → Calls Try.prog 29 #[.int .u32 x, .int .i64 i] w fun e w' => e = .returned (.bool (fb x i.toNat)) ∧ w' = w) := fun i w hi => jbit_fb x i w hx hi
  clear hx
  go_enter Try.func14, Try.ntmps14
  go_wp2_with (go_at_call 29; refine (HB.out _ _ (by omega)).mono ?_; rintro e w' ⟨rfl, rfl⟩)
  refine bodyPost_ret (v := .agg #[.bool (fb x 31), .bool (fb x 30), .bool (fb x 29), .bool (fb x 28)]) (by simp [results, Try.results14, go_sem]) rfl ⟨rfl, ?_⟩
  (repeat (first | apply below_drew | refine Below.setCell ?_ (by simp) _ | refine Below.alloc ?_ (by simp) _)); exact Below.refl _ _
end Go.Proofs.Ytdelcknpaldngab
