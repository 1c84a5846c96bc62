import Derived.Test.YtdelcknpaldngaaLn
namespace Go.Proofs.Ytdelcknpaldngaa
open Go.RowKit
set_option linter.unusedVariables false
set_option linter.unusedSimpArgs false
def sgD (d : Int) : Int := if d < 9223372036854775808 then d else d - 18446744073709551616
theorem wide_add (x y : Int) (x0 : 0 ≤ x) (x1 : x < 18446744073709551616) (y0 : 0 ≤ y) (y1 : y < 18446744073709551616) :
    suW (x / 4294967296) (y / 4294967296) (suF (x % 4294967296) (y % 4294967296) false).c * 4294967296 + suW (x % 4294967296) (y % 4294967296) false = (x + y) % 18446744073709551616 ∧
    (suF (x / 4294967296) (y / 4294967296) (suF (x % 4294967296) (y % 4294967296) false).c).c = decide ((x + y) % 18446744073709551616 < x) := by
  show suW _ _ (decide (4294967296 ≤ x % 4294967296 + y % 4294967296 + 0)) * 4294967296 + (x % 4294967296 + y % 4294967296 + 0) % 4294967296 = _ ∧ decide (4294967296 ≤ x / 4294967296 + y / 4294967296 + cI (decide (4294967296 ≤ x % 4294967296 + y % 4294967296 + 0))) = _
  by_cases h : 4294967296 ≤ x % 4294967296 + y % 4294967296 + 0
  · rw [decide_eq_true h]
    refine ⟨?_, ?_⟩
    · unfold suW cI; simp only [if_true]; omega
    · unfold cI
      simp only [if_true]
      by_cases g : 4294967296 ≤ x / 4294967296 + y / 4294967296 + 1
      · rw [decide_eq_true g, decide_eq_true (by omega)]
      · rw [decide_eq_false g, decide_eq_false (by omega)]
  · rw [decide_eq_false h]
    refine ⟨?_, ?_⟩
    · unfold suW cI; simp only [Bool.false_eq_true, if_false]; omega
    · unfold cI
      simp only [Bool.false_eq_true, if_false]
      by_cases g : 4294967296 ≤ x / 4294967296 + y / 4294967296 + 0
      · rw [decide_eq_true g, decide_eq_true (by omega)]
      · rw [decide_eq_false g, decide_eq_false (by omega)]
theorem wide_sub (x y : Int) (x0 : 0 ≤ x) (x1 : x < 18446744073709551616) (y0 : 0 ≤ y) (y1 : y < 18446744073709551616) :
    suW (x / 4294967296) (nt (y / 4294967296)) (suF (x % 4294967296) (nt (y % 4294967296)) true).c * 4294967296 + suW (x % 4294967296) (nt (y % 4294967296)) true = (x - y) % 18446744073709551616 ∧
    (suF (x / 4294967296) (nt (y / 4294967296)) (suF (x % 4294967296) (nt (y % 4294967296)) true).c).c = decide (y ≤ x) ∧
    (suF (x / 4294967296) (nt (y / 4294967296)) (suF (x % 4294967296) (nt (y % 4294967296)) true).c).n = decide (sgD ((x - y) % 18446744073709551616) < 0) := by
  show suW _ _ (decide (4294967296 ≤ x % 4294967296 + nt (y % 4294967296) + 1)) * 4294967296 + (x % 4294967296 + nt (y % 4294967296) + 1) % 4294967296 = _ ∧ decide (4294967296 ≤ x / 4294967296 + nt (y / 4294967296) + cI (decide (4294967296 ≤ x % 4294967296 + nt (y % 4294967296) + 1))) = _ ∧ decide (2147483648 ≤ suW (x / 4294967296) (nt (y / 4294967296)) (decide (4294967296 ≤ x % 4294967296 + nt (y % 4294967296) + 1))) = _
  by_cases h : 4294967296 ≤ x % 4294967296 + nt (y % 4294967296) + 1
  · rw [decide_eq_true h]
    unfold suW cI nt sgD at *
    simp only [if_true]
    refine ⟨by omega, ?_, ?_⟩
    · by_cases g : y ≤ x
      · rw [decide_eq_true g, decide_eq_true (by omega)]
      · rw [decide_eq_false g, decide_eq_false (by omega)]
    · split
      · rw [decide_eq_false (by omega), decide_eq_false (by omega)]
      · rw [decide_eq_true (by omega), decide_eq_true (by omega)]
  · rw [decide_eq_false h]
    unfold suW cI nt sgD at *
    simp only [Bool.false_eq_true, if_false]
    refine ⟨by omega, ?_, ?_⟩
    · by_cases g : y ≤ x
      · rw [decide_eq_true g, decide_eq_true (by omega)]
      · rw [decide_eq_false g, decide_eq_false (by omega)]
    · split
      · rw [decide_eq_false (by omega), decide_eq_false (by omega)]
      · rw [decide_eq_true (by omega), decide_eq_true (by omega)]
set_option maxRecDepth 100000 in
set_option maxHeartbeats 8000000 in
theorem law_wide (x y : Int) (f : Fl) (w : World) (x0 : 0 ≤ x) (x1 : x < 18446744073709551616) (y0 : 0 ≤ y) (y1 : y < 18446744073709551616) :
    Calls Try.prog 3 #[.int .u64 x, .int .u64 y, .agg #[.bool f.n, .bool f.z, .bool f.c, .bool f.v]] w fun e w' => e = .returned (.bool true) ∧ Below w.heap.size w w' := by
  obtain ⟨ea, eac⟩ := wide_add x y x0 x1 y0 y1
  obtain ⟨es, esc, esn⟩ := wide_sub x y x0 x1 y0 y1
  have H5 : Hid (∀ w, Calls Try.prog 9 #[.int .i64 5, .int .u32 (x % 4294967296), .int .u32 (y % 4294967296), .bool false, .agg #[.bool f.n, .bool f.z, .bool f.c, .bool f.v]] w fun e w' => e = .returned (.tuple #[.int .u32 (suW (x % 4294967296) (y % 4294967296) false), .bool true, .agg #[.bool (suF (x % 4294967296) (y % 4294967296) false).n, .bool (suF (x % 4294967296) (y % 4294967296) false).z, .bool (suF (x % 4294967296) (y % 4294967296) false).c, .bool (suF (x % 4294967296) (y % 4294967296) false).v]]) ∧ Below w.heap.size w w') := fun w => gdo_any 5 _ _ false f w (by omega) (by omega) (by omega) (by omega)
  have H3 : Hid (∀ w, Calls Try.prog 9 #[.int .i64 3, .int .u32 (x % 4294967296), .int .u32 (y % 4294967296), .bool false, .agg #[.bool f.n, .bool f.z, .bool f.c, .bool f.v]] w fun e w' => e = .returned (.tuple #[.int .u32 (suW (x % 4294967296) (nt (y % 4294967296)) true), .bool true, .agg #[.bool (suF (x % 4294967296) (nt (y % 4294967296)) true).n, .bool (suF (x % 4294967296) (nt (y % 4294967296)) true).z, .bool (suF (x % 4294967296) (nt (y % 4294967296)) true).c, .bool (suF (x % 4294967296) (nt (y % 4294967296)) true).v]]) ∧ Below w.heap.size w w') := fun w => gdo_any 3 _ _ false f w (by omega) (by omega) (by omega) (by omega)
  have r1 := suW_range (x % 4294967296) (y % 4294967296) false
  have r2 := suW_range (x % 4294967296) (nt (y % 4294967296)) true
  generalize suW (x % 4294967296) (y % 4294967296) false = W1 at *
  generalize suF (x % 4294967296) (y % 4294967296) false = F1 at *
  generalize suW (x % 4294967296) (nt (y % 4294967296)) true = W3 at *
  generalize suF (x % 4294967296) (nt (y % 4294967296)) true = F3 at *
  have H6 : Hid (∀ w, Calls Try.prog 9 #[.int .i64 6, .int .u32 (x / 4294967296), .int .u32 (y / 4294967296), .bool false, .agg #[.bool F1.n, .bool F1.z, .bool F1.c, .bool F1.v]] w fun e w' => e = .returned (.tuple #[.int .u32 (suW (x / 4294967296) (y / 4294967296) F1.c), .bool true, .agg #[.bool (suF (x / 4294967296) (y / 4294967296) F1.c).n, .bool (suF (x / 4294967296) (y / 4294967296) F1.c).z, .bool (suF (x / 4294967296) (y / 4294967296) F1.c).c, .bool (suF (x / 4294967296) (y / 4294967296) F1.c).v]]) ∧ Below w.heap.size w w') := fun w => gdo_any 6 _ _ false F1 w (by omega) (by omega) (by omega) (by omega)
  have H7 : Hid (∀ w, Calls Try.prog 9 #[.int .i64 7, .int .u32 (x / 4294967296), .int .u32 (y / 4294967296), .bool false, .agg #[.bool F3.n, .bool F3.z, .bool F3.c, .bool F3.v]] w fun e w' => e = .returned (.tuple #[.int .u32 (suW (x / 4294967296) (nt (y / 4294967296)) F3.c), .bool true, .agg #[.bool (suF (x / 4294967296) (nt (y / 4294967296)) F3.c).n, .bool (suF (x / 4294967296) (nt (y / 4294967296)) F3.c).z, .bool (suF (x / 4294967296) (nt (y / 4294967296)) F3.c).c, .bool (suF (x / 4294967296) (nt (y / 4294967296)) F3.c).v]]) ∧ Below w.heap.size w w') := fun w => gdo_any 7 _ _ false F3 w (by omega) (by omega) (by omega) (by omega)
  have r3 := suW_range (x / 4294967296) (y / 4294967296) F1.c
  have r4 := suW_range (x / 4294967296) (nt (y / 4294967296)) F3.c
  generalize suW (x / 4294967296) (y / 4294967296) F1.c = W2 at *
  generalize suF (x / 4294967296) (y / 4294967296) F1.c = F2 at *
  generalize suW (x / 4294967296) (nt (y / 4294967296)) F3.c = W4 at *
  generalize suF (x / 4294967296) (nt (y / 4294967296)) F3.c = F4 at *
  have HL : Hid (∀ w, Calls Try.prog 10 #[] w fun e w' => e = .returned (.bool true) ∧ Below w.heap.size w w') := live_any
  have oA : bits .or .u64 (W2 * 4294967296) W1 = (x + y) % 18446744073709551616 := by rw [or64 W2 W1 r3.1 r3.2 r1.1 r1.2]; exact ea
  have oS : bits .or .u64 (W4 * 4294967296) W3 = (x - y) % 18446744073709551616 := by rw [or64 W4 W3 r4.1 r4.2 r2.1 r2.2]; exact es
  have wA : IntKind.u64.wrap (x + y) = (x + y) % 18446744073709551616 := IntKind.wrap_u64 _
  have wS : IntKind.u64.wrap (x - y) = (x - y) % 18446744073709551616 := IntKind.wrap_u64 _
  have hS0 : 0 ≤ (x - y) % 18446744073709551616 := by omega
  have hS1 : (x - y) % 18446744073709551616 < 18446744073709551616 := by omega
  have wD : IntKind.i64.wrap ((x - y) % 18446744073709551616) = sgD ((x - y) % 18446744073709551616) := by rw [IntKind.wrap_i64]; unfold sgD; split <;> omega
  have wD2 : wrap64 ((x - y) % 18446744073709551616) = sgD ((x - y) % 18446744073709551616) := by unfold wrap64 sgD; split <;> omega
  obtain ⟨p1, p2⟩ := r1
  obtain ⟨p3, p4⟩ := r2
  obtain ⟨p5, p6⟩ := r3
  obtain ⟨p7, p8⟩ := r4
  clear ea es
  generalize (x + y) % 18446744073709551616 = SA at *
  generalize (x - y) % 18446744073709551616 = SS at *
  generalize sgD SS = SD at *
  obtain ⟨fn, fz, fc, fv⟩ := f
  obtain ⟨n1, z1, c1, v1⟩ := F1
  obtain ⟨n2, z2, c2, v2⟩ := F2
  obtain ⟨n3, z3, c3, v3⟩ := F3
  obtain ⟨n4, z4, c4, v4⟩ := F4
  simp only at *
  subst eac esc esn
  go_enter Try.func3, Try.ntmps3
  go_wp2_with (first
    | (go_at_call_of 9 (Value.int IntKind.i64 5); refine (H5.out _).mono ?_; rintro e w1 ⟨rfl, hb⟩; have B0 : Hid (Bl w1 w.heap.size 24 [.bool fn, .bool fz, .bool fc, .bool fv]) := (Bl.new w 24 [.bool fn, .bool fz, .bool fc, .bool fv]).below hb; have L01 : Hid (w.heap.size < w1.heap.size) := B0.out.lt; have HB : Hid (Below w.heap.size w w1) := Below.step (below_new _ _) hb; clear hb)
    | (go_at_call_of 9 (Value.int IntKind.i64 6); refine (H6.out _).mono ?_; rintro e w2 ⟨rfl, hb⟩; have B1 : Hid (Bl w2 w1.heap.size 24 [.bool n1, .bool z1, .bool c1, .bool v1]) := (Bl.new _ _ _).below hb; have B0 : Hid (Bl w2 w.heap.size 24 [.bool fn, .bool fz, .bool fc, .bool fv]) := (B0.out.alloc _).below hb; have L12 : Hid (w1.heap.size < w2.heap.size) := B1.out.lt; have HB : Hid (Below w.heap.size w w2) := Below.step (Below.step HB.out (below_new _ _)) hb; clear hb)
    | (go_at_call 10; refine Hid.out ?_))
  show Calls _ _ _ _ _
  refine (HL.out _).mono ?_
  rintro e w3 ⟨rfl, hb⟩
  have B2 := (Bl.new w2 24 [.bool n2, .bool z2, .bool (decide (SA < x)), .bool v2]).below hb
  have B1 : Hid (Bl w3 w1.heap.size 24 [.bool n1, .bool z1, .bool c1, .bool v1]) := (B1.out.alloc _).below hb
  have B0 : Hid (Bl w3 w.heap.size 24 [.bool fn, .bool fz, .bool fc, .bool fv]) := (B0.out.alloc _).below hb
  have HB : Hid (Below w.heap.size w w3) := Below.step (Below.step HB.out (below_new _ _)) hb
  have B2 : Hid (Bl w3 w2.heap.size 24 [.bool n2, .bool z2, .bool (decide (SA < x)), .bool v2]) := B2
  have L01 := L01.out
  have L12 := L12.out
  generalize w1.heap.size = q1 at B1 L01 L12 ⊢
  generalize w2.heap.size = q2 at B2 L12 ⊢
  have LL : Hid (w.heap.size < q1 ∧ q1 < q2) := ⟨L01, L12⟩
  obtain ⟨⟨c0, c1', c2', c3'⟩, -⟩ := B2.out.four
  obtain ⟨⟨k0, k1, k2, k3⟩, -⟩ := B0.out.four
  clear hb L01 L12
  go_wp2_with (first | (go_at_call_of 9 (Value.int IntKind.i64 3); refine (H3.out _).mono ?_; rintro e w5 ⟨rfl, hb⟩; clear c0 c1' c2' c3' k0 k1 k2 k3; have B0 : Hid (Bl w5 w.heap.size 24 [.bool fn, .bool fz, .bool fc, .bool fv]) := B0.out.below hb; have B1 : Hid (Bl w5 q1 24 [.bool n1, .bool z1, .bool c1, .bool v1]) := B1.out.below hb; have B2 : Hid (Bl w5 q2 24 [.bool n2, .bool z2, .bool (decide (SA < x)), .bool v2]) := B2.out.below hb; have HB : Hid (Below w.heap.size w w5) := Below.step HB.out hb; clear hb; obtain ⟨⟨c0, c1', c2', c3'⟩, d0, d1, d2, d3⟩ := B1.out.four) | (go_at_call_of 9 (Value.int IntKind.i64 7); refine Hid.out ?_))
  show Calls _ _ _ _ _
  refine (H7.out _).mono ?_
  rintro e w6 ⟨rfl, hb⟩
  obtain ⟨S1, S2, S0⟩ := put4 B1.out B2.out (by have := LL.out; omega) (.bool n3) (.bool z3) (.bool c3) (.bool v3)
  have B2 := S2.below hb
  have HB : Hid (Below w.heap.size w w6) := Below.step (S0 w.heap.size w (by have := LL.out; omega) HB.out) hb
  have HZ : Hid (Below w.heap.size w ((((w6.setCell ⟨q2, 0, none⟩ (.bool (decide (SD < 0)))).setCell ⟨q2, 1, none⟩ (.bool z4)).setCell ⟨q2, 2, none⟩ (.bool (decide (y ≤ x)))).setCell ⟨q2, 3, none⟩ (.bool v4))) := by
    have h : w.heap.size ≤ q2 := by have := LL.out; omega
    exact (((HB.out.setCell h _).setCell h _).setCell h _).setCell h _
  clear c0 c1' c2' c3' d0 d1 d2 d3 S1 S2 S0 hb
  obtain ⟨⟨c0, c1', c2', c3'⟩, d0, d1, d2, d3⟩ := B2.four
  have B2 : Hid (Bl _ _ _ _) := B2
  go_wp2_with fail
  go_ret
  exact ⟨by simp, HZ.out⟩
end Go.Proofs.Ytdelcknpaldngaa
