import Derived.Test.YtdelcknpaldngabRf
namespace Go.Proofs.Ytdelcknpaldngab
open Go.RowKit
set_option linter.unusedVariables false
set_option linter.unusedSimpArgs false
set_option maxRecDepth 100000 in
theorem jsigned_any (x : Nat) (w : World) (hx : x < 4294967296) :
    Calls Try.prog 28 #[.int .u32 x] w fun e w' => e = .returned (.int .i64 (sgN x)) ∧ w' = w := by
  unfold sgN
  by_cases h : x < 2147483648
  · have q : decide (2147483648 ≤ (x : Int)) = false := decide_eq_false (by omega)
    have hw : IntKind.i64.wrap (x : Int) = x := by rw [IntKind.wrap_i64]; omega
    rw [if_pos h]
    clear h
    go_enter Try.func28, Try.ntmps28
    go_wp2
    go_ret
    exact ⟨rfl, rfl⟩
  · have q : decide (2147483648 ≤ (x : Int)) = true := decide_eq_true (by omega)
    have hw : IntKind.i64.wrap (x : Int) = x := by rw [IntKind.wrap_i64]; omega
    have hw2 : IntKind.i64.wrap ((x : Int) - 4294967296) = (x : Int) - 4294967296 := by rw [IntKind.wrap_i64]; omega
    rw [if_neg h]
    clear h
    go_enter Try.func28, Try.ntmps28
    go_wp2
    go_ret
    exact ⟨rfl, rfl⟩
theorem jsigned_int (x : Int) (w : World) (h0 : 0 ≤ x) (h1 : x < 4294967296) :
    Calls Try.prog 28 #[.int .u32 x] w fun e w' => e = .returned (.int .i64 (sgn x)) ∧ w' = w := by
  obtain ⟨X, rfl⟩ := Int.eq_ofNat_of_zero_le h0
  rw [sgn_nat]
  exact jsigned_any X w (by omega)
end Go.Proofs.Ytdelcknpaldngab
