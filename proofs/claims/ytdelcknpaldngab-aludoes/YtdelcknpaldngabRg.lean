import Derived.Test.YtdelcknpaldngabRs
namespace Go.Proofs.Ytdelcknpaldngab
open Go.RowKit
set_option linter.unusedVariables false
set_option linter.unusedSimpArgs false
set_option maxRecDepth 100000 in
set_option maxHeartbeats 1000000 in
theorem jsum_0 (x y U : Int) (w : World) (x0 : 0 ≤ x) (x1 : x < 4294967296) (y0 : 0 ≤ y) (y1 : y < 4294967296) (hU : (x + y) % 4294967296 = U) :
    Calls Try.prog 13 #[.int .u32 x, .int .u32 y, .bool false] w fun e w' => e = .returned (.tuple #[.int .u32 U, .agg #[.bool (decide (2147483648 ≤ U)), .bool (U == 0), .bool (decide (4294967296 ≤ x + y)), .bool (sgn x + sgn y != sgn U)]]) ∧ Below w.heap.size w w' := by
  have HS : Hid (∀ z w, 0 ≤ z → z < 4294967296 → Calls Try.prog 28 #[.int .u32 z] w fun e w' => e = .returned (.int .i64 (sgn z)) ∧ w' = w) := fun z w h0 h1 => jsigned_int z w h0 h1
  have r1 := sgn_range x x0 x1
  have r2 := sgn_range y y0 y1
  have e7 : IntKind.i64.wrap (sgn x + sgn y) = sgn x + sgn y := by rw [IntKind.wrap_i64]; omega
  have e8 : IntKind.i64.wrap (sgn x + sgn y + 0) = sgn x + sgn y := by rw [IntKind.wrap_i64]; omega
  have u0 : 0 ≤ U := by omega
  have u1 : U < 4294967296 := by omega
  clear r1 r2
  go_enter Try.func13, Try.ntmps13
  go_wp2_with (go_at_call 28; refine (HS.out _ _ (by omega) (by omega)).mono ?_; rintro e w' ⟨rfl, rfl⟩)
  refine bodyPost_ret (v := .tuple #[.int .u32 U, .agg #[.bool (decide (2147483648 ≤ U)), .bool (U == 0), .bool (decide (4294967296 ≤ x + y)), .bool (sgn x + sgn y != sgn U)]]) (by simp [results, Try.results13, go_sem]) rfl ⟨rfl, ?_⟩
  (repeat (first | apply below_drew | refine Below.setCell ?_ (by simp) _ | refine Below.alloc ?_ (by simp) _)); exact Below.refl _ _
set_option maxRecDepth 100000 in
set_option maxHeartbeats 1000000 in
theorem jsum_1 (x y U : Int) (w : World) (x0 : 0 ≤ x) (x1 : x < 4294967296) (y0 : 0 ≤ y) (y1 : y < 4294967296) (hU : (x + y + 1) % 4294967296 = U) :
    Calls Try.prog 13 #[.int .u32 x, .int .u32 y, .bool true] w fun e w' => e = .returned (.tuple #[.int .u32 U, .agg #[.bool (decide (2147483648 ≤ U)), .bool (U == 0), .bool (decide (4294967296 ≤ x + y + 1)), .bool (sgn x + sgn y + 1 != sgn U)]]) ∧ Below w.heap.size w w' := by
  have HS : Hid (∀ z w, 0 ≤ z → z < 4294967296 → Calls Try.prog 28 #[.int .u32 z] w fun e w' => e = .returned (.int .i64 (sgn z)) ∧ w' = w) := fun z w h0 h1 => jsigned_int z w h0 h1
  have r1 := sgn_range x x0 x1
  have r2 := sgn_range y y0 y1
  have e7 : IntKind.i64.wrap (sgn x + sgn y) = sgn x + sgn y := by rw [IntKind.wrap_i64]; omega
  have e8 : IntKind.i64.wrap (sgn x + sgn y + 1) = sgn x + sgn y + 1 := by rw [IntKind.wrap_i64]; omega
  have u0 : 0 ≤ U := by omega
  have u1 : U < 4294967296 := by omega
  clear r1 r2
  go_enter Try.func13, Try.ntmps13
  go_wp2_with (go_at_call 28; refine (HS.out _ _ (by omega) (by omega)).mono ?_; rintro e w' ⟨rfl, rfl⟩)
  refine bodyPost_ret (v := .tuple #[.int .u32 U, .agg #[.bool (decide (2147483648 ≤ U)), .bool (U == 0), .bool (decide (4294967296 ≤ x + y + 1)), .bool (sgn x + sgn y + 1 != sgn U)]]) (by simp [results, Try.results13, go_sem]) rfl ⟨rfl, ?_⟩
  (repeat (first | apply below_drew | refine Below.setCell ?_ (by simp) _ | refine Below.alloc ?_ (by simp) _)); exact Below.refl _ _
theorem jsum_any (x y : Int) (c : Bool) (w : World) (x0 : 0 ≤ x) (x1 : x < 4294967296) (y0 : 0 ≤ y) (y1 : y < 4294967296) :
    Calls Try.prog 13 #[.int .u32 x, .int .u32 y, .bool c] w fun e w' => e = .returned (.tuple #[.int .u32 (suW x y c), .agg #[.bool (suF x y c).n, .bool (suF x y c).z, .bool (suF x y c).c, .bool (suF x y c).v]]) ∧ Below w.heap.size w w' := by
  cases c
  · have := jsum_0 x y (suW x y false) w x0 x1 y0 y1 (by simp [suW, cI])
    simpa [suF, cI] using this
  · exact jsum_1 x y (suW x y true) w x0 x1 y0 y1 rfl
end Go.Proofs.Ytdelcknpaldngab
