import Derived.Test.YtdelcknpaldngabDf
namespace Go.Proofs.Ytdelcknpaldngab
open Go.RowKit
set_option linter.unusedVariables false
set_option linter.unusedSimpArgs false
set_option maxRecDepth 100000 in
theorem gset_any (x i : Int) (w : World) (hx : 0 ≤ x ∧ x < 4294967296) (hi : 0 ≤ i ∧ i < 32) :
    Calls Try.prog 30 #[.int .u32 x, .int .i64 i] w fun e w' => e = .returned (.bool (bt x i.toNat)) ∧ w' = w := by
  have h3 := band1 (x / 2 ^ i.toNat) (shr_range x _ hx)
  have hm : 0 ≤ i := by omega
  have hm2 : i < 32 := by omega
  clear hx hi
  unfold bt
  go_enter Try.func30, Try.ntmps30
  go_wp2
  go_ret
  exact ⟨rfl, rfl⟩
theorem gset_nat (x i : Nat) (w : World) (hx : x < 4294967296) (hi : i < 32) :
    Calls Try.prog 30 #[.int .u32 x, .int .i64 i] w fun e w' => e = .returned (.bool (fb x i)) ∧ w' = w := by
  have := gset_any x i w (by omega) (by omega)
  rwa [show ((i : Int)).toNat = i by omega, bt_nat] at this
theorem gset_31 (x : Int) (w : World) (h0 : 0 ≤ x) (h1 : x < 4294967296) :
    Calls Try.prog 30 #[.int .u32 x, .int .i64 31] w fun e w' => e = .returned (.bool (decide (2147483648 ≤ x))) ∧ w' = w := by
  have := gset_any x 31 w ⟨h0, h1⟩ (by omega)
  have e : bt x (31 : Int).toNat = decide (2147483648 ≤ x) := by
    unfold bt
    rw [show (31 : Int).toNat = 31 by decide, show (2 : Int) ^ 31 = 2147483648 by decide]
    by_cases h : 2147483648 ≤ x
    · rw [decide_eq_true h, show x / 2147483648 % 2 = 1 by omega]; rfl
    · rw [decide_eq_false h, show x / 2147483648 % 2 = 0 by omega]; rfl
  rwa [e] at this
set_option maxRecDepth 100000 in
theorem gbit_any (c : Bool) (w : World) :
    Calls Try.prog 26 #[.bool c] w fun e w' => e = .returned (.int .u32 (cI c)) ∧ w' = w := by
  cases c
  all_goals
    go_enter Try.func26, Try.ntmps26
    go_wp2
    go_ret
    exact ⟨rfl, rfl⟩
set_option maxRecDepth 100000 in
theorem gflagsof_any (x : Int) (c v : Bool) (w : World) (h0 : 0 ≤ x) (h1 : x < 4294967296) :
    Calls Try.prog 27 #[.int .u32 x, .bool c, .bool v] w fun e w' => e = .returned (.agg #[.bool (decide (2147483648 ≤ x)), .bool (x == 0), .bool c, .bool v]) ∧ Below w.heap.size w w' := by
  have HB : Hid (∀ w, Calls Try.prog 30 #[.int .u32 x, .int .i64 31] w fun e w' => e = .returned (.bool (decide (2147483648 ≤ x))) ∧ w' = w) := fun w => gset_31 x w h0 h1
  clear h0 h1
  generalize decide (2147483648 ≤ x) = nb at *
  go_enter Try.func27, Try.ntmps27
  go_wp2_with (go_at_call 30; refine (HB.out _).mono ?_; rintro e w' ⟨rfl, rfl⟩)
  refine bodyPost_ret (v := .agg #[.bool nb, .bool (x == 0), .bool c, .bool v]) (by simp [results, Try.results27, go_sem]) rfl ⟨rfl, ?_⟩
  (repeat (first | apply below_drew | refine Below.setCell ?_ (by simp) _ | refine Below.alloc ?_ (by simp) _)); exact Below.refl _ _
end Go.Proofs.Ytdelcknpaldngab
