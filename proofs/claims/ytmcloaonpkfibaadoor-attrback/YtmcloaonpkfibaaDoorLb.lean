import Derived.Test.YtmcloaonpkfibaaDoorSt
namespace Go.Proofs.YtmcloaonpkfibaaDoor
open Go.RowKit
set_option linter.unusedVariables false
set_option linter.unusedSimpArgs false
set_option maxRecDepth 100000 in
set_option maxHeartbeats 1000000 in
theorem back_11 (m : Mem) (s : ByteArray) (w : World) (hT : TA w) (T : ByteArray) (n : Mem)
    (H1 : (∀ w, TA w → Calls Tryd.prog 9 #[.agg #[.int .i64 m.t, .int .i64 m.i, .int .i64 m.o, .int .i64 m.s]] w fun e w' => e = .returned (.tuple #[.string T, .int .i64 0]) ∧ Below w.heap.size w w'))
    (H2 : (∀ w, TA w → Calls Tryd.prog 14 #[.string T] w fun e w' => e = .returned (.tuple #[.agg #[.int .i64 m.t, .int .i64 m.i, .int .i64 m.o, .int .i64 m.s], .int .i64 0]) ∧ Below w.heap.size w w'))
    (H3 : (∀ w, TA w → Calls Tryd.prog 14 #[.string s] w fun e w' => e = .returned (.tuple #[.agg #[.int .i64 n.t, .int .i64 n.i, .int .i64 n.o, .int .i64 n.s], .int .i64 0]) ∧ Below w.heap.size w w'))
    (H4 : (∀ w, TA w → Calls Tryd.prog 9 #[.agg #[.int .i64 n.t, .int .i64 n.i, .int .i64 n.o, .int .i64 n.s]] w fun e w' => e = .returned (.tuple #[.string s, .int .i64 0]) ∧ Below w.heap.size w w')) :
    Calls Tryd.prog 4 #[.agg #[.int .i64 m.t, .int .i64 m.i, .int .i64 m.o, .int .i64 m.s], .string s] w fun e w' => e = .returned (.bool true) ∧ Below w.heap.size w w' := by
  have G1 : Hid _ := H1
  have G2 : Hid _ := H2
  have G3 : Hid _ := H3
  have G4 : Hid _ := H4
  clear H1 H2 H3 H4
  have HX0 : Hid (AX w w) := AX.new w hT
  have HT : Hid (TA w) := hT
  clear hT
  have eM := eqM m m
  have eZ := eqM mZ mZ
  rw [Mem.same_self] at eM eZ
  have eS : (s.toList == s.toList) = true := by simp
  unfold mZ at *
  simp only at *
  go_enter Tryd.func4, Tryd.ntmps4
  have HXaa : Hid (AX w (w.alloc (.cells #[.int .i64 m.t, .int .i64 m.i, .int .i64 m.o, .int .i64 m.s] 24))) := HX0.out.alloc _
  have HBa_0 : Hid (Bl (w.alloc (.cells #[.int .i64 m.t, .int .i64 m.i, .int .i64 m.o, .int .i64 m.s] 24)) w.heap.size 24 [.int .i64 m.t, .int .i64 m.i, .int .i64 m.o, .int .i64 m.s]) := Bl.new _ _ _
  clear HX0
  go_wp2_with (fail)
  go_at_call 9
  refine (G1.out _ HXaa.out.tab).mono ?_
  rintro e w1 ⟨rfl, hb⟩
  have HX1 : Hid (AX w w1) := HXaa.out.step hb
  have HBa_1 : Hid (Bl w1 w.heap.size 24 [.int .i64 m.t, .int .i64 m.i, .int .i64 m.o, .int .i64 m.s]) := HBa_0.out.below hb
  clear hb HXaa HBa_0
  go_wp2_with (fail)
  go_at_call 14
  refine (G2.out _ HX1.out.tab).mono ?_
  rintro e w2 ⟨rfl, hb⟩
  have HX2 : Hid (AX w w2) := HX1.out.step hb
  have HBa_2 : Hid (Bl w2 w.heap.size 24 [.int .i64 m.t, .int .i64 m.i, .int .i64 m.o, .int .i64 m.s]) := HBa_1.out.below hb
  clear hb HX1 HBa_1
  have Geb : Hid (w.heap.size ≤ w2.heap.size) := HX2.out.bel.size
  have Nab : Hid (w.heap.size ≠ w2.heap.size) := Nat.ne_of_lt HBa_2.out.lt
  have HXab : Hid (AX w (w2.alloc (.cells #[.int .i64 m.t, .int .i64 m.i, .int .i64 m.o, .int .i64 m.s] 24))) := HX2.out.alloc _
  have HBa_b : Hid (Bl (w2.alloc (.cells #[.int .i64 m.t, .int .i64 m.i, .int .i64 m.o, .int .i64 m.s] 24)) w.heap.size 24 [.int .i64 m.t, .int .i64 m.i, .int .i64 m.o, .int .i64 m.s]) := HBa_2.out.below (below_new _ _)
  have HBb_0 : Hid (Bl (w2.alloc (.cells #[.int .i64 m.t, .int .i64 m.i, .int .i64 m.o, .int .i64 m.s] 24)) w2.heap.size 24 [.int .i64 m.t, .int .i64 m.i, .int .i64 m.o, .int .i64 m.s]) := Bl.new _ _ _
  clear HX2 HBa_2
  go_wp2_with (fail)
  go_at_call 11
  refine (live_any _ HXab.out.tab).mono ?_
  rintro e w3 ⟨rfl, hb⟩
  have HX3 : Hid (AX w w3) := HXab.out.step hb
  have HBa_3 : Hid (Bl w3 w.heap.size 24 [.int .i64 m.t, .int .i64 m.i, .int .i64 m.o, .int .i64 m.s]) := HBa_b.out.below hb
  have HBb_3 : Hid (Bl w3 w2.heap.size 24 [.int .i64 m.t, .int .i64 m.i, .int .i64 m.o, .int .i64 m.s]) := HBb_0.out.below hb
  clear hb HXab HBa_b HBb_0
  have c0 := HBa_3.out.cell
  have f0 := HBa_3.out.frozen
  have l0 := HBa_3.out.lt
  have c1 := HBb_3.out.cell
  have f1 := HBb_3.out.frozen
  have l1 := HBb_3.out.lt
  have ne := Nab.out
  go_wp2_with (first | (go_at_call 12; refine (no_any _ _).mono ?_; rintro e wn ⟨rfl, rfl⟩))
  go_at_call 14
  refine (G3.out _ HX3.out.tab).mono ?_
  rintro e w4 ⟨rfl, hb⟩
  have HX4 : Hid (AX w w4) := HX3.out.step hb
  have HBa_4 : Hid (Bl w4 w.heap.size 24 [.int .i64 m.t, .int .i64 m.i, .int .i64 m.o, .int .i64 m.s]) := HBa_3.out.below hb
  have HBb_4 : Hid (Bl w4 w2.heap.size 24 [.int .i64 m.t, .int .i64 m.i, .int .i64 m.o, .int .i64 m.s]) := HBb_3.out.below hb
  clear c0 f0 l0 c1 f1 l1
  clear hb HX3 HBa_3 HBb_3
  have c0 := HBa_4.out.cell
  have f0 := HBa_4.out.frozen
  have l0 := HBa_4.out.lt
  have c1 := HBb_4.out.cell
  have f1 := HBb_4.out.frozen
  have l1 := HBb_4.out.lt
  have HXs3 : Hid (AX w ((((w4.setCell ⟨w2.heap.size, 0, none⟩ (.int .i64 n.t)).setCell ⟨w2.heap.size, 1, none⟩ (.int .i64 n.i)).setCell ⟨w2.heap.size, 2, none⟩ (.int .i64 n.o)).setCell ⟨w2.heap.size, 3, none⟩ (.int .i64 n.s))) := AX.st4 HT.out HX4.out Geb.out (n : Mem)
  have HBa_s3 : Hid (Bl ((((w4.setCell ⟨w2.heap.size, 0, none⟩ (.int .i64 n.t)).setCell ⟨w2.heap.size, 1, none⟩ (.int .i64 n.i)).setCell ⟨w2.heap.size, 2, none⟩ (.int .i64 n.o)).setCell ⟨w2.heap.size, 3, none⟩ (.int .i64 n.s)) w.heap.size 24 [.int .i64 m.t, .int .i64 m.i, .int .i64 m.o, .int .i64 m.s]) := Bl.st4_ne HBa_4.out Nab.out (n : Mem)
  have HBb_s3 : Hid (Bl ((((w4.setCell ⟨w2.heap.size, 0, none⟩ (.int .i64 n.t)).setCell ⟨w2.heap.size, 1, none⟩ (.int .i64 n.i)).setCell ⟨w2.heap.size, 2, none⟩ (.int .i64 n.o)).setCell ⟨w2.heap.size, 3, none⟩ (.int .i64 n.s)) w2.heap.size 24 [.int .i64 n.t, .int .i64 n.i, .int .i64 n.o, .int .i64 n.s]) := Bl.st4 HBb_4.out (n : Mem)
  clear HX4 HBa_4 HBb_4
  go_wp2_with (first | (go_at_call 12; refine (no_any _ _).mono ?_; rintro e wn ⟨rfl, rfl⟩))
  go_at_call 9
  refine (G4.out _ HXs3.out.tab).mono ?_
  rintro e w9 ⟨rfl, hb⟩
  have HX9 : Hid (AX w w9) := HXs3.out.step hb
  clear hb
  clear c0 f0 l0 c1 f1 l1
  go_wp2_with (first | (go_at_call 12; refine (no_any _ _).mono ?_; rintro e wn ⟨rfl, rfl⟩) | go_in)
  go_ret
  exact ⟨rfl, HX9.out.bel⟩
set_option maxRecDepth 100000 in
set_option maxHeartbeats 1000000 in
theorem back_10 (m : Mem) (s : ByteArray) (w : World) (hT : TA w) (T : ByteArray)
    (H1 : (∀ w, TA w → Calls Tryd.prog 9 #[.agg #[.int .i64 m.t, .int .i64 m.i, .int .i64 m.o, .int .i64 m.s]] w fun e w' => e = .returned (.tuple #[.string T, .int .i64 0]) ∧ Below w.heap.size w w'))
    (H2 : (∀ w, TA w → Calls Tryd.prog 14 #[.string T] w fun e w' => e = .returned (.tuple #[.agg #[.int .i64 m.t, .int .i64 m.i, .int .i64 m.o, .int .i64 m.s], .int .i64 0]) ∧ Below w.heap.size w w'))
    (H3 : (∀ w, TA w → Calls Tryd.prog 14 #[.string s] w fun e w' => e = .returned (.tuple #[.agg #[.int .i64 mZ.t, .int .i64 mZ.i, .int .i64 mZ.o, .int .i64 mZ.s], .int .i64 62]) ∧ Below w.heap.size w w')) :
    Calls Tryd.prog 4 #[.agg #[.int .i64 m.t, .int .i64 m.i, .int .i64 m.o, .int .i64 m.s], .string s] w fun e w' => e = .returned (.bool true) ∧ Below w.heap.size w w' := by
  have G1 : Hid _ := H1
  have G2 : Hid _ := H2
  have G3 : Hid _ := H3
  clear H1 H2 H3
  have HX0 : Hid (AX w w) := AX.new w hT
  have HT : Hid (TA w) := hT
  clear hT
  have eM := eqM m m
  have eZ := eqM mZ mZ
  rw [Mem.same_self] at eM eZ
  have eS : (s.toList == s.toList) = true := by simp
  unfold mZ at *
  simp only at *
  go_enter Tryd.func4, Tryd.ntmps4
  have HXaa : Hid (AX w (w.alloc (.cells #[.int .i64 m.t, .int .i64 m.i, .int .i64 m.o, .int .i64 m.s] 24))) := HX0.out.alloc _
  have HBa_0 : Hid (Bl (w.alloc (.cells #[.int .i64 m.t, .int .i64 m.i, .int .i64 m.o, .int .i64 m.s] 24)) w.heap.size 24 [.int .i64 m.t, .int .i64 m.i, .int .i64 m.o, .int .i64 m.s]) := Bl.new _ _ _
  clear HX0
  go_wp2_with (fail)
  go_at_call 9
  refine (G1.out _ HXaa.out.tab).mono ?_
  rintro e w1 ⟨rfl, hb⟩
  have HX1 : Hid (AX w w1) := HXaa.out.step hb
  have HBa_1 : Hid (Bl w1 w.heap.size 24 [.int .i64 m.t, .int .i64 m.i, .int .i64 m.o, .int .i64 m.s]) := HBa_0.out.below hb
  clear hb HXaa HBa_0
  go_wp2_with (fail)
  go_at_call 14
  refine (G2.out _ HX1.out.tab).mono ?_
  rintro e w2 ⟨rfl, hb⟩
  have HX2 : Hid (AX w w2) := HX1.out.step hb
  have HBa_2 : Hid (Bl w2 w.heap.size 24 [.int .i64 m.t, .int .i64 m.i, .int .i64 m.o, .int .i64 m.s]) := HBa_1.out.below hb
  clear hb HX1 HBa_1
  have Geb : Hid (w.heap.size ≤ w2.heap.size) := HX2.out.bel.size
  have Nab : Hid (w.heap.size ≠ w2.heap.size) := Nat.ne_of_lt HBa_2.out.lt
  have HXab : Hid (AX w (w2.alloc (.cells #[.int .i64 m.t, .int .i64 m.i, .int .i64 m.o, .int .i64 m.s] 24))) := HX2.out.alloc _
  have HBa_b : Hid (Bl (w2.alloc (.cells #[.int .i64 m.t, .int .i64 m.i, .int .i64 m.o, .int .i64 m.s] 24)) w.heap.size 24 [.int .i64 m.t, .int .i64 m.i, .int .i64 m.o, .int .i64 m.s]) := HBa_2.out.below (below_new _ _)
  have HBb_0 : Hid (Bl (w2.alloc (.cells #[.int .i64 m.t, .int .i64 m.i, .int .i64 m.o, .int .i64 m.s] 24)) w2.heap.size 24 [.int .i64 m.t, .int .i64 m.i, .int .i64 m.o, .int .i64 m.s]) := Bl.new _ _ _
  clear HX2 HBa_2
  go_wp2_with (fail)
  go_at_call 11
  refine (live_any _ HXab.out.tab).mono ?_
  rintro e w3 ⟨rfl, hb⟩
  have HX3 : Hid (AX w w3) := HXab.out.step hb
  have HBa_3 : Hid (Bl w3 w.heap.size 24 [.int .i64 m.t, .int .i64 m.i, .int .i64 m.o, .int .i64 m.s]) := HBa_b.out.below hb
  have HBb_3 : Hid (Bl w3 w2.heap.size 24 [.int .i64 m.t, .int .i64 m.i, .int .i64 m.o, .int .i64 m.s]) := HBb_0.out.below hb
  clear hb HXab HBa_b HBb_0
  have c0 := HBa_3.out.cell
  have f0 := HBa_3.out.frozen
  have l0 := HBa_3.out.lt
  have c1 := HBb_3.out.cell
  have f1 := HBb_3.out.frozen
  have l1 := HBb_3.out.lt
  have ne := Nab.out
  go_wp2_with (first | (go_at_call 12; refine (no_any _ _).mono ?_; rintro e wn ⟨rfl, rfl⟩))
  go_at_call 14
  refine (G3.out _ HX3.out.tab).mono ?_
  rintro e w4 ⟨rfl, hb⟩
  have HX4 : Hid (AX w w4) := HX3.out.step hb
  have HBa_4 : Hid (Bl w4 w.heap.size 24 [.int .i64 m.t, .int .i64 m.i, .int .i64 m.o, .int .i64 m.s]) := HBa_3.out.below hb
  have HBb_4 : Hid (Bl w4 w2.heap.size 24 [.int .i64 m.t, .int .i64 m.i, .int .i64 m.o, .int .i64 m.s]) := HBb_3.out.below hb
  clear c0 f0 l0 c1 f1 l1
  clear hb HX3 HBa_3 HBb_3
  have c0 := HBa_4.out.cell
  have f0 := HBa_4.out.frozen
  have l0 := HBa_4.out.lt
  have c1 := HBb_4.out.cell
  have f1 := HBb_4.out.frozen
  have l1 := HBb_4.out.lt
  have HXs3 : Hid (AX w ((((w4.setCell ⟨w2.heap.size, 0, none⟩ (.int .i64 0)).setCell ⟨w2.heap.size, 1, none⟩ (.int .i64 0)).setCell ⟨w2.heap.size, 2, none⟩ (.int .i64 0)).setCell ⟨w2.heap.size, 3, none⟩ (.int .i64 0))) := AX.st4 HT.out HX4.out Geb.out (⟨0, 0, 0, 0⟩ : Mem)
  have HBa_s3 : Hid (Bl ((((w4.setCell ⟨w2.heap.size, 0, none⟩ (.int .i64 0)).setCell ⟨w2.heap.size, 1, none⟩ (.int .i64 0)).setCell ⟨w2.heap.size, 2, none⟩ (.int .i64 0)).setCell ⟨w2.heap.size, 3, none⟩ (.int .i64 0)) w.heap.size 24 [.int .i64 m.t, .int .i64 m.i, .int .i64 m.o, .int .i64 m.s]) := Bl.st4_ne HBa_4.out Nab.out (⟨0, 0, 0, 0⟩ : Mem)
  have HBb_s3 : Hid (Bl ((((w4.setCell ⟨w2.heap.size, 0, none⟩ (.int .i64 0)).setCell ⟨w2.heap.size, 1, none⟩ (.int .i64 0)).setCell ⟨w2.heap.size, 2, none⟩ (.int .i64 0)).setCell ⟨w2.heap.size, 3, none⟩ (.int .i64 0)) w2.heap.size 24 [.int .i64 0, .int .i64 0, .int .i64 0, .int .i64 0]) := Bl.st4 HBb_4.out (⟨0, 0, 0, 0⟩ : Mem)
  clear HX4 HBa_4 HBb_4
  go_wp2_with (first | (go_at_call 12; refine (no_any _ _).mono ?_; rintro e wn ⟨rfl, rfl⟩) | go_in)
  go_ret
  exact ⟨rfl, HXs3.out.bel⟩
set_option maxRecDepth 100000 in
set_option maxHeartbeats 1000000 in
theorem back_01 (m : Mem) (s : ByteArray) (w : World) (hT : TA w) (n : Mem)
    (H1 : (∀ w, TA w → Calls Tryd.prog 9 #[.agg #[.int .i64 m.t, .int .i64 m.i, .int .i64 m.o, .int .i64 m.s]] w fun e w' => e = .returned (.tuple #[.string ⟨#[]⟩, .int .i64 62]) ∧ Below w.heap.size w w'))
    (H2 : (∀ w, TA w → Calls Tryd.prog 14 #[.string ⟨#[]⟩] w fun e w' => e = .returned (.tuple #[.agg #[.int .i64 mZ.t, .int .i64 mZ.i, .int .i64 mZ.o, .int .i64 mZ.s], .int .i64 62]) ∧ Below w.heap.size w w'))
    (H3 : (∀ w, TA w → Calls Tryd.prog 14 #[.string s] w fun e w' => e = .returned (.tuple #[.agg #[.int .i64 n.t, .int .i64 n.i, .int .i64 n.o, .int .i64 n.s], .int .i64 0]) ∧ Below w.heap.size w w'))
    (H4 : (∀ w, TA w → Calls Tryd.prog 9 #[.agg #[.int .i64 n.t, .int .i64 n.i, .int .i64 n.o, .int .i64 n.s]] w fun e w' => e = .returned (.tuple #[.string s, .int .i64 0]) ∧ Below w.heap.size w w')) :
    Calls Tryd.prog 4 #[.agg #[.int .i64 m.t, .int .i64 m.i, .int .i64 m.o, .int .i64 m.s], .string s] w fun e w' => e = .returned (.bool true) ∧ Below w.heap.size w w' := by
  have G1 : Hid _ := H1
  have G2 : Hid _ := H2
  have G3 : Hid _ := H3
  have G4 : Hid _ := H4
  clear H1 H2 H3 H4
  have HX0 : Hid (AX w w) := AX.new w hT
  have HT : Hid (TA w) := hT
  clear hT
  have eM := eqM m m
  have eZ := eqM mZ mZ
  rw [Mem.same_self] at eM eZ
  have eS : (s.toList == s.toList) = true := by simp
  unfold mZ at *
  simp only at *
  go_enter Tryd.func4, Tryd.ntmps4
  have HXaa : Hid (AX w (w.alloc (.cells #[.int .i64 m.t, .int .i64 m.i, .int .i64 m.o, .int .i64 m.s] 24))) := HX0.out.alloc _
  have HBa_0 : Hid (Bl (w.alloc (.cells #[.int .i64 m.t, .int .i64 m.i, .int .i64 m.o, .int .i64 m.s] 24)) w.heap.size 24 [.int .i64 m.t, .int .i64 m.i, .int .i64 m.o, .int .i64 m.s]) := Bl.new _ _ _
  clear HX0
  go_wp2_with (fail)
  go_at_call 9
  refine (G1.out _ HXaa.out.tab).mono ?_
  rintro e w1 ⟨rfl, hb⟩
  have HX1 : Hid (AX w w1) := HXaa.out.step hb
  have HBa_1 : Hid (Bl w1 w.heap.size 24 [.int .i64 m.t, .int .i64 m.i, .int .i64 m.o, .int .i64 m.s]) := HBa_0.out.below hb
  clear hb HXaa HBa_0
  go_wp2_with (fail)
  go_at_call 14
  refine (G2.out _ HX1.out.tab).mono ?_
  rintro e w2 ⟨rfl, hb⟩
  have HX2 : Hid (AX w w2) := HX1.out.step hb
  have HBa_2 : Hid (Bl w2 w.heap.size 24 [.int .i64 m.t, .int .i64 m.i, .int .i64 m.o, .int .i64 m.s]) := HBa_1.out.below hb
  clear hb HX1 HBa_1
  have Geb : Hid (w.heap.size ≤ w2.heap.size) := HX2.out.bel.size
  have Nab : Hid (w.heap.size ≠ w2.heap.size) := Nat.ne_of_lt HBa_2.out.lt
  have HXab : Hid (AX w (w2.alloc (.cells #[.int .i64 0, .int .i64 0, .int .i64 0, .int .i64 0] 24))) := HX2.out.alloc _
  have HBa_b : Hid (Bl (w2.alloc (.cells #[.int .i64 0, .int .i64 0, .int .i64 0, .int .i64 0] 24)) w.heap.size 24 [.int .i64 m.t, .int .i64 m.i, .int .i64 m.o, .int .i64 m.s]) := HBa_2.out.below (below_new _ _)
  have HBb_0 : Hid (Bl (w2.alloc (.cells #[.int .i64 0, .int .i64 0, .int .i64 0, .int .i64 0] 24)) w2.heap.size 24 [.int .i64 0, .int .i64 0, .int .i64 0, .int .i64 0]) := Bl.new _ _ _
  clear HX2 HBa_2
  go_wp2_with (fail)
  go_at_call 11
  refine (live_any _ HXab.out.tab).mono ?_
  rintro e w3 ⟨rfl, hb⟩
  have HX3 : Hid (AX w w3) := HXab.out.step hb
  have HBa_3 : Hid (Bl w3 w.heap.size 24 [.int .i64 m.t, .int .i64 m.i, .int .i64 m.o, .int .i64 m.s]) := HBa_b.out.below hb
  have HBb_3 : Hid (Bl w3 w2.heap.size 24 [.int .i64 0, .int .i64 0, .int .i64 0, .int .i64 0]) := HBb_0.out.below hb
  clear hb HXab HBa_b HBb_0
  have c0 := HBa_3.out.cell
  have f0 := HBa_3.out.frozen
  have l0 := HBa_3.out.lt
  have c1 := HBb_3.out.cell
  have f1 := HBb_3.out.frozen
  have l1 := HBb_3.out.lt
  have ne := Nab.out
  go_wp2_with (first | (go_at_call 12; refine (no_any _ _).mono ?_; rintro e wn ⟨rfl, rfl⟩))
  go_at_call 14
  refine (G3.out _ HX3.out.tab).mono ?_
  rintro e w4 ⟨rfl, hb⟩
  have HX4 : Hid (AX w w4) := HX3.out.step hb
  have HBa_4 : Hid (Bl w4 w.heap.size 24 [.int .i64 m.t, .int .i64 m.i, .int .i64 m.o, .int .i64 m.s]) := HBa_3.out.below hb
  have HBb_4 : Hid (Bl w4 w2.heap.size 24 [.int .i64 0, .int .i64 0, .int .i64 0, .int .i64 0]) := HBb_3.out.below hb
  clear c0 f0 l0 c1 f1 l1
  clear hb HX3 HBa_3 HBb_3
  have c0 := HBa_4.out.cell
  have f0 := HBa_4.out.frozen
  have l0 := HBa_4.out.lt
  have c1 := HBb_4.out.cell
  have f1 := HBb_4.out.frozen
  have l1 := HBb_4.out.lt
  have HXs3 : Hid (AX w ((((w4.setCell ⟨w2.heap.size, 0, none⟩ (.int .i64 n.t)).setCell ⟨w2.heap.size, 1, none⟩ (.int .i64 n.i)).setCell ⟨w2.heap.size, 2, none⟩ (.int .i64 n.o)).setCell ⟨w2.heap.size, 3, none⟩ (.int .i64 n.s))) := AX.st4 HT.out HX4.out Geb.out (n : Mem)
  have HBa_s3 : Hid (Bl ((((w4.setCell ⟨w2.heap.size, 0, none⟩ (.int .i64 n.t)).setCell ⟨w2.heap.size, 1, none⟩ (.int .i64 n.i)).setCell ⟨w2.heap.size, 2, none⟩ (.int .i64 n.o)).setCell ⟨w2.heap.size, 3, none⟩ (.int .i64 n.s)) w.heap.size 24 [.int .i64 m.t, .int .i64 m.i, .int .i64 m.o, .int .i64 m.s]) := Bl.st4_ne HBa_4.out Nab.out (n : Mem)
  have HBb_s3 : Hid (Bl ((((w4.setCell ⟨w2.heap.size, 0, none⟩ (.int .i64 n.t)).setCell ⟨w2.heap.size, 1, none⟩ (.int .i64 n.i)).setCell ⟨w2.heap.size, 2, none⟩ (.int .i64 n.o)).setCell ⟨w2.heap.size, 3, none⟩ (.int .i64 n.s)) w2.heap.size 24 [.int .i64 n.t, .int .i64 n.i, .int .i64 n.o, .int .i64 n.s]) := Bl.st4 HBb_4.out (n : Mem)
  clear HX4 HBa_4 HBb_4
  go_wp2_with (first | (go_at_call 12; refine (no_any _ _).mono ?_; rintro e wn ⟨rfl, rfl⟩))
  go_at_call 9
  refine (G4.out _ HXs3.out.tab).mono ?_
  rintro e w9 ⟨rfl, hb⟩
  have HX9 : Hid (AX w w9) := HXs3.out.step hb
  clear hb
  clear c0 f0 l0 c1 f1 l1
  go_wp2_with (first | (go_at_call 12; refine (no_any _ _).mono ?_; rintro e wn ⟨rfl, rfl⟩) | go_in)
  go_ret
  exact ⟨rfl, HX9.out.bel⟩
set_option maxRecDepth 100000 in
set_option maxHeartbeats 1000000 in
theorem back_00 (m : Mem) (s : ByteArray) (w : World) (hT : TA w)
    (H1 : (∀ w, TA w → Calls Tryd.prog 9 #[.agg #[.int .i64 m.t, .int .i64 m.i, .int .i64 m.o, .int .i64 m.s]] w fun e w' => e = .returned (.tuple #[.string ⟨#[]⟩, .int .i64 62]) ∧ Below w.heap.size w w'))
    (H2 : (∀ w, TA w → Calls Tryd.prog 14 #[.string ⟨#[]⟩] w fun e w' => e = .returned (.tuple #[.agg #[.int .i64 mZ.t, .int .i64 mZ.i, .int .i64 mZ.o, .int .i64 mZ.s], .int .i64 62]) ∧ Below w.heap.size w w'))
    (H3 : (∀ w, TA w → Calls Tryd.prog 14 #[.string s] w fun e w' => e = .returned (.tuple #[.agg #[.int .i64 mZ.t, .int .i64 mZ.i, .int .i64 mZ.o, .int .i64 mZ.s], .int .i64 62]) ∧ Below w.heap.size w w')) :
    Calls Tryd.prog 4 #[.agg #[.int .i64 m.t, .int .i64 m.i, .int .i64 m.o, .int .i64 m.s], .string s] w fun e w' => e = .returned (.bool true) ∧ Below w.heap.size w w' := by
  have G1 : Hid _ := H1
  have G2 : Hid _ := H2
  have G3 : Hid _ := H3
  clear H1 H2 H3
  have HX0 : Hid (AX w w) := AX.new w hT
  have HT : Hid (TA w) := hT
  clear hT
  have eM := eqM m m
  have eZ := eqM mZ mZ
  rw [Mem.same_self] at eM eZ
  have eS : (s.toList == s.toList) = true := by simp
  unfold mZ at *
  simp only at *
  go_enter Tryd.func4, Tryd.ntmps4
  have HXaa : Hid (AX w (w.alloc (.cells #[.int .i64 m.t, .int .i64 m.i, .int .i64 m.o, .int .i64 m.s] 24))) := HX0.out.alloc _
  have HBa_0 : Hid (Bl (w.alloc (.cells #[.int .i64 m.t, .int .i64 m.i, .int .i64 m.o, .int .i64 m.s] 24)) w.heap.size 24 [.int .i64 m.t, .int .i64 m.i, .int .i64 m.o, .int .i64 m.s]) := Bl.new _ _ _
  clear HX0
  go_wp2_with (fail)
  go_at_call 9
  refine (G1.out _ HXaa.out.tab).mono ?_
  rintro e w1 ⟨rfl, hb⟩
  have HX1 : Hid (AX w w1) := HXaa.out.step hb
  have HBa_1 : Hid (Bl w1 w.heap.size 24 [.int .i64 m.t, .int .i64 m.i, .int .i64 m.o, .int .i64 m.s]) := HBa_0.out.below hb
  clear hb HXaa HBa_0
  go_wp2_with (fail)
  go_at_call 14
  refine (G2.out _ HX1.out.tab).mono ?_
  rintro e w2 ⟨rfl, hb⟩
  have HX2 : Hid (AX w w2) := HX1.out.step hb
  have HBa_2 : Hid (Bl w2 w.heap.size 24 [.int .i64 m.t, .int .i64 m.i, .int .i64 m.o, .int .i64 m.s]) := HBa_1.out.below hb
  clear hb HX1 HBa_1
  have Geb : Hid (w.heap.size ≤ w2.heap.size) := HX2.out.bel.size
  have Nab : Hid (w.heap.size ≠ w2.heap.size) := Nat.ne_of_lt HBa_2.out.lt
  have HXab : Hid (AX w (w2.alloc (.cells #[.int .i64 0, .int .i64 0, .int .i64 0, .int .i64 0] 24))) := HX2.out.alloc _
  have HBa_b : Hid (Bl (w2.alloc (.cells #[.int .i64 0, .int .i64 0, .int .i64 0, .int .i64 0] 24)) w.heap.size 24 [.int .i64 m.t, .int .i64 m.i, .int .i64 m.o, .int .i64 m.s]) := HBa_2.out.below (below_new _ _)
  have HBb_0 : Hid (Bl (w2.alloc (.cells #[.int .i64 0, .int .i64 0, .int .i64 0, .int .i64 0] 24)) w2.heap.size 24 [.int .i64 0, .int .i64 0, .int .i64 0, .int .i64 0]) := Bl.new _ _ _
  clear HX2 HBa_2
  go_wp2_with (fail)
  go_at_call 11
  refine (live_any _ HXab.out.tab).mono ?_
  rintro e w3 ⟨rfl, hb⟩
  have HX3 : Hid (AX w w3) := HXab.out.step hb
  have HBa_3 : Hid (Bl w3 w.heap.size 24 [.int .i64 m.t, .int .i64 m.i, .int .i64 m.o, .int .i64 m.s]) := HBa_b.out.below hb
  have HBb_3 : Hid (Bl w3 w2.heap.size 24 [.int .i64 0, .int .i64 0, .int .i64 0, .int .i64 0]) := HBb_0.out.below hb
  clear hb HXab HBa_b HBb_0
  have c0 := HBa_3.out.cell
  have f0 := HBa_3.out.frozen
  have l0 := HBa_3.out.lt
  have c1 := HBb_3.out.cell
  have f1 := HBb_3.out.frozen
  have l1 := HBb_3.out.lt
  have ne := Nab.out
  go_wp2_with (first | (go_at_call 12; refine (no_any _ _).mono ?_; rintro e wn ⟨rfl, rfl⟩))
  go_at_call 14
  refine (G3.out _ HX3.out.tab).mono ?_
  rintro e w4 ⟨rfl, hb⟩
  have HX4 : Hid (AX w w4) := HX3.out.step hb
  have HBa_4 : Hid (Bl w4 w.heap.size 24 [.int .i64 m.t, .int .i64 m.i, .int .i64 m.o, .int .i64 m.s]) := HBa_3.out.below hb
  have HBb_4 : Hid (Bl w4 w2.heap.size 24 [.int .i64 0, .int .i64 0, .int .i64 0, .int .i64 0]) := HBb_3.out.below hb
  clear c0 f0 l0 c1 f1 l1
  clear hb HX3 HBa_3 HBb_3
  have c0 := HBa_4.out.cell
  have f0 := HBa_4.out.frozen
  have l0 := HBa_4.out.lt
  have c1 := HBb_4.out.cell
  have f1 := HBb_4.out.frozen
  have l1 := HBb_4.out.lt
  have HXs3 : Hid (AX w ((((w4.setCell ⟨w2.heap.size, 0, none⟩ (.int .i64 0)).setCell ⟨w2.heap.size, 1, none⟩ (.int .i64 0)).setCell ⟨w2.heap.size, 2, none⟩ (.int .i64 0)).setCell ⟨w2.heap.size, 3, none⟩ (.int .i64 0))) := AX.st4 HT.out HX4.out Geb.out (⟨0, 0, 0, 0⟩ : Mem)
  have HBa_s3 : Hid (Bl ((((w4.setCell ⟨w2.heap.size, 0, none⟩ (.int .i64 0)).setCell ⟨w2.heap.size, 1, none⟩ (.int .i64 0)).setCell ⟨w2.heap.size, 2, none⟩ (.int .i64 0)).setCell ⟨w2.heap.size, 3, none⟩ (.int .i64 0)) w.heap.size 24 [.int .i64 m.t, .int .i64 m.i, .int .i64 m.o, .int .i64 m.s]) := Bl.st4_ne HBa_4.out Nab.out (⟨0, 0, 0, 0⟩ : Mem)
  have HBb_s3 : Hid (Bl ((((w4.setCell ⟨w2.heap.size, 0, none⟩ (.int .i64 0)).setCell ⟨w2.heap.size, 1, none⟩ (.int .i64 0)).setCell ⟨w2.heap.size, 2, none⟩ (.int .i64 0)).setCell ⟨w2.heap.size, 3, none⟩ (.int .i64 0)) w2.heap.size 24 [.int .i64 0, .int .i64 0, .int .i64 0, .int .i64 0]) := Bl.st4 HBb_4.out (⟨0, 0, 0, 0⟩ : Mem)
  clear HX4 HBa_4 HBb_4
  go_wp2_with (first | (go_at_call 12; refine (no_any _ _).mono ?_; rintro e wn ⟨rfl, rfl⟩) | go_in)
  go_ret
  exact ⟨rfl, HXs3.out.bel⟩
theorem law_back (m : Mem) (s : ByteArray) (w : World) (hT : TA w) (hs : s.size < 4294967281) :
    Calls Tryd.prog 4 #[.agg #[.int .i64 m.t, .int .i64 m.i, .int .i64 m.o, .int .i64 m.s], .string s] w fun e w' => e = .returned (.bool true) ∧ Below w.heap.size w w' := by
  have S := fun w hw => show_any m w hw
  have R := fun w hw => read_any s w hs hw
  have E := rd_err s
  by_cases h : K m
  · simp only [if_pos h] at S
    have D := fun w hw => read_any (tx m) w tx_size hw
    rw [rd_tx h] at D
    rcases E with e | e
    · have e1 : rd s = (0, (rd s).2) := by rw [← e]
      obtain ⟨k1, k2⟩ := rd_ok e1
      rw [e] at R
      have S2 := fun w hw => show_any (rd s).2 w hw
      simp only [if_pos k1, k2] at S2
      exact back_11 m s w hT _ _ S D R S2
    · rw [e] at R
      exact back_10 m s w hT _ S D R
  · simp only [if_neg h] at S
    have D := fun w hw => read_any ⟨#[]⟩ w (by decide) hw
    rw [show rd ⟨#[]⟩ = (62, mZ) by kernel_rfl] at D
    rcases E with e | e
    · have e1 : rd s = (0, (rd s).2) := by rw [← e]
      obtain ⟨k1, k2⟩ := rd_ok e1
      rw [e] at R
      have S2 := fun w hw => show_any (rd s).2 w hw
      simp only [if_pos k1, k2] at S2
      exact back_01 m s w hT _ S D R S2
    · rw [e] at R
      exact back_00 m s w hT S D R
end Go.Proofs.YtmcloaonpkfibaaDoor
