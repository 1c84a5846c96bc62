import Derived.Test.YtdelcknpaldngabGa
namespace Go.Proofs.Ytdelcknpaldngab
open Go.RowKit
set_option linter.unusedVariables false
set_option linter.unusedSimpArgs false
theorem wrap_i32 (x : Int) (h0 : 0 ≤ x) (h1 : x < 4294967296) : IntKind.i32.wrap x = sgn x := by
  rw [IntKind.wrap_i32]
  unfold sgn
  split <;> omega
theorem wrap_32 (x : Int) (h0 : 0 ≤ x) (h1 : x < 4294967296) : wrap32 x = sgn x := by
  rw [← wrap_i32 x h0 h1, IntKind.wrap_i32]
  unfold wrap32
  rfl
theorem gtr_max (a : Int) : decide (4294967295 < a) = decide (4294967296 ≤ a) := by
  by_cases h : 4294967296 ≤ a
  · rw [decide_eq_true h, decide_eq_true (by omega)]
  · rw [decide_eq_false h, decide_eq_false (by omega)]
set_option maxRecDepth 100000 in
set_option maxHeartbeats 1000000 in
theorem gsum_0 (x y U : Int) (w : World) (x0 : 0 ≤ x) (x1 : x < 4294967296) (y0 : 0 ≤ y) (y1 : y < 4294967296) (hU : (x + y) % 4294967296 = U) :
    Calls Try.prog 12 #[.int .u32 x, .int .u32 y, .bool false] w fun e w' => e = .returned (.tuple #[.int .u32 U, .agg #[.bool (decide (2147483648 ≤ U)), .bool (U == 0), .bool (decide (4294967296 ≤ x + y)), .bool (sgn x + sgn y != sgn U)]]) ∧ Below w.heap.size w w' := by
  have u0 : 0 ≤ U := by omega
  have u1 : U < 4294967296 := by omega
  have HF : Hid (∀ c v w, Calls Try.prog 27 #[.int .u32 U, .bool c, .bool v] w fun e w' => e = .returned (.agg #[.bool (decide (2147483648 ≤ U)), .bool (U == 0), .bool c, .bool v]) ∧ Below w.heap.size w w') := fun c v w => gflagsof_any U c v w u0 u1
  have HB : Hid (∀ w, Calls Try.prog 26 #[.bool false] w fun e w' => e = .returned (.int .u32 0) ∧ w' = w) := fun w => gbit_any false w
  have r1 := sgn_range x x0 x1
  have r2 := sgn_range y y0 y1
  have r3 := sgn_range U u0 u1
  have e1 := wrap_i32 x x0 x1
  have e2 := wrap_i32 y y0 y1
  have e3 := wrap_i32 U u0 u1
  have f1 := wrap_32 x x0 x1
  have f2 := wrap_32 y y0 y1
  have f3 := wrap_32 U u0 u1
  have g2 : IntKind.i64.wrap (sgn x + sgn y) = sgn x + sgn y := by rw [IntKind.wrap_i64]; omega
  have g3 : IntKind.i64.wrap (sgn x + sgn y) = sgn x + sgn y := by rw [IntKind.wrap_i64]; omega
  have e4 : IntKind.i64.wrap (sgn x) = sgn x := by rw [IntKind.wrap_i64]; omega
  have e5 : IntKind.i64.wrap (sgn y) = sgn y := by rw [IntKind.wrap_i64]; omega
  have e6 : IntKind.i64.wrap (sgn U) = sgn U := by rw [IntKind.wrap_i64]; omega
  have HG : Hid (decide (4294967295 < x + y) = decide (4294967296 ≤ x + y)) := gtr_max _
  clear r1 r2 r3
  go_enter Try.func12, Try.ntmps12
  go_wp2_with (first | (go_at_call 26; refine (HB.out _).mono ?_; rintro e w' ⟨rfl, rfl⟩) | (go_at_call 27; refine Hid.out ?_))
  show Calls _ _ _ _ _
  refine (HF.out _ _ _).mono ?_
  rintro e w' ⟨rfl, hb⟩
  have B := (Bl.new _ _ _).below hb
  have HW : Hid (Below w.heap.size w w') := Below.step (below_new _ _) hb
  obtain ⟨⟨c0, c1, c2, c3⟩, d0, d1, d2, d3⟩ := B.four
  clear B hb
  go_wp2_with fail
  rw [HG.out]
  refine bodyPost_ret (v := .tuple #[.int .u32 U, .agg #[.bool (decide (2147483648 ≤ U)), .bool (U == 0), .bool (decide (4294967296 ≤ x + y)), .bool (sgn x + sgn y != sgn U)]]) (by simp [results, Try.results12, go_sem, c0, c1, c2, c3]) rfl ⟨rfl, ?_⟩
  iterate 4 refine Below.setCell ?_ (by simp) _
  exact HW.out
set_option maxRecDepth 100000 in
set_option maxHeartbeats 1000000 in
theorem gsum_1 (x y U : Int) (w : World) (x0 : 0 ≤ x) (x1 : x < 4294967296) (y0 : 0 ≤ y) (y1 : y < 4294967296) (hU : (x + y + 1) % 4294967296 = U) :
    Calls Try.prog 12 #[.int .u32 x, .int .u32 y, .bool true] w fun e w' => e = .returned (.tuple #[.int .u32 U, .agg #[.bool (decide (2147483648 ≤ U)), .bool (U == 0), .bool (decide (4294967296 ≤ x + y + 1)), .bool (sgn x + sgn y + 1 != sgn U)]]) ∧ Below w.heap.size w w' := by
  have u0 : 0 ≤ U := by omega
  have u1 : U < 4294967296 := by omega
  have HF : Hid (∀ c v w, Calls Try.prog 27 #[.int .u32 U, .bool c, .bool v] w fun e w' => e = .returned (.agg #[.bool (decide (2147483648 ≤ U)), .bool (U == 0), .bool c, .bool v]) ∧ Below w.heap.size w w') := fun c v w => gflagsof_any U c v w u0 u1
  have HB : Hid (∀ w, Calls Try.prog 26 #[.bool true] w fun e w' => e = .returned (.int .u32 1) ∧ w' = w) := fun w => gbit_any true w
  have r1 := sgn_range x x0 x1
  have r2 := sgn_range y y0 y1
  have r3 := sgn_range U u0 u1
  have e1 := wrap_i32 x x0 x1
  have e2 := wrap_i32 y y0 y1
  have e3 := wrap_i32 U u0 u1
  have f1 := wrap_32 x x0 x1
  have f2 := wrap_32 y y0 y1
  have f3 := wrap_32 U u0 u1
  have g2 : IntKind.i64.wrap (sgn x + sgn y) = sgn x + sgn y := by rw [IntKind.wrap_i64]; omega
  have g3 : IntKind.i64.wrap (sgn x + sgn y + 1) = sgn x + sgn y + 1 := by rw [IntKind.wrap_i64]; omega
  have e4 : IntKind.i64.wrap (sgn x) = sgn x := by rw [IntKind.wrap_i64]; omega
  have e5 : IntKind.i64.wrap (sgn y) = sgn y := by rw [IntKind.wrap_i64]; omega
  have e6 : IntKind.i64.wrap (sgn U) = sgn U := by rw [IntKind.wrap_i64]; omega
  have HG : Hid (decide (4294967295 < x + y + 1) = decide (4294967296 ≤ x + y + 1)) := gtr_max _
  clear r1 r2 r3
  go_enter Try.func12, Try.ntmps12
  go_wp2_with (first | (go_at_call 26; refine (HB.out _).mono ?_; rintro e w' ⟨rfl, rfl⟩) | (go_at_call 27; refine Hid.out ?_))
  show Calls _ _ _ _ _
  refine (HF.out _ _ _).mono ?_
  rintro e w' ⟨rfl, hb⟩
  have B := (Bl.new _ _ _).below hb
  have HW : Hid (Below w.heap.size w w') := Below.step (below_new _ _) hb
  obtain ⟨⟨c0, c1, c2, c3⟩, d0, d1, d2, d3⟩ := B.four
  clear B hb
  go_wp2_with fail
  rw [HG.out]
  refine bodyPost_ret (v := .tuple #[.int .u32 U, .agg #[.bool (decide (2147483648 ≤ U)), .bool (U == 0), .bool (decide (4294967296 ≤ x + y + 1)), .bool (sgn x + sgn y + 1 != sgn U)]]) (by simp [results, Try.results12, go_sem, c0, c1, c2, c3]) rfl ⟨rfl, ?_⟩
  iterate 4 refine Below.setCell ?_ (by simp) _
  exact HW.out
theorem gsum_any (x y : Int) (c : Bool) (w : World) (x0 : 0 ≤ x) (x1 : x < 4294967296) (y0 : 0 ≤ y) (y1 : y < 4294967296) :
    Calls Try.prog 12 #[.int .u32 x, .int .u32 y, .bool c] w fun e w' => e = .returned (.tuple #[.int .u32 (suW x y c), .agg #[.bool (suF x y c).n, .bool (suF x y c).z, .bool (suF x y c).c, .bool (suF x y c).v]]) ∧ Below w.heap.size w w' := by
  cases c
  · have := gsum_0 x y (suW x y false) w x0 x1 y0 y1 (by simp [suW, cI])
    simpa [suF, cI] using this
  · exact gsum_1 x y (suW x y true) w x0 x1 y0 y1 rfl
end Go.Proofs.Ytdelcknpaldngab
