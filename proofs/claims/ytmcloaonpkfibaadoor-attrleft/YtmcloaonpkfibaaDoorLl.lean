import Derived.Test.YtmcloaonpkfibaaDoorSt
namespace Go.Proofs.YtmcloaonpkfibaaDoor
open Go.RowKit
set_option linter.unusedVariables false
set_option linter.unusedSimpArgs false
theorem oF_left (p q p' q' : Int) (c : Nat) : oF false p q c = oF false p' q' c := rfl
theorem oF_low (p q : Int) (c : Nat) (hc : c < 64) : oF true p q (c % 16) = oF true p q c := by
  unfold oF
  rw [if_neg (by omega), if_pos rfl, if_neg (by omega), if_pos rfl, show c % 16 / 2 % 8 = c / 2 % 8 by omega, show c % 16 % 2 = c % 2 by omega]
theorem oF_nmrr (p q q' : Int) (c : Nat) (hc : c < 64) : (oF true p q c).1 = (oF true p q' c).1 ∧ (oF true p q c).2.t = (oF true p q' c).2.t ∧ (oF true p q c).2.s = (oF true p q' c).2.s ∧ ((oF true p q c).2.t = 2 ∨ (oF true p q c).2 = (oF true p q' c).2) := by
  unfold oF
  rw [if_neg (by omega), if_pos rfl, if_neg (by omega), if_pos rfl]
  unfold rM
  repeat' split
  all_goals simp
set_option maxRecDepth 100000 in
set_option maxHeartbeats 1000000 in
theorem left_core (p q p2 q2 : Int) (b c d : Nat) (w : World) (hT : TA w) (M N T : Mem) (E F X : Int) (a0 : bits .and .u32 (b : Int) 63 = (c : Int)) (a1 : bits .and .u32 (c : Int) 15 = (d : Int))
    (H1 : (∀ w, TA w → Calls Tryd.prog 13 #[.bool false, .int .u32 p, .int .u32 q, .int .u32 c] w fun e w' => e = .returned (.tuple #[.agg #[.int .i64 M.t, .int .i64 M.i, .int .i64 M.o, .int .i64 M.s], .int .i64 E]) ∧ Below w.heap.size w w'))
    (H2 : (∀ w, TA w → Calls Tryd.prog 13 #[.bool false, .int .u32 p2, .int .u32 q2, .int .u32 c] w fun e w' => e = .returned (.tuple #[.agg #[.int .i64 M.t, .int .i64 M.i, .int .i64 M.o, .int .i64 M.s], .int .i64 E]) ∧ Below w.heap.size w w'))
    (H3 : (∀ w, TA w → Calls Tryd.prog 13 #[.bool true, .int .u32 p, .int .u32 q, .int .u32 c] w fun e w' => e = .returned (.tuple #[.agg #[.int .i64 N.t, .int .i64 N.i, .int .i64 N.o, .int .i64 N.s], .int .i64 F]) ∧ Below w.heap.size w w'))
    (H4 : (∀ w, TA w → Calls Tryd.prog 13 #[.bool true, .int .u32 p, .int .u32 q, .int .u32 d] w fun e w' => e = .returned (.tuple #[.agg #[.int .i64 N.t, .int .i64 N.i, .int .i64 N.o, .int .i64 N.s], .int .i64 F]) ∧ Below w.heap.size w w'))
    (H5 : (∀ w, TA w → Calls Tryd.prog 13 #[.bool true, .int .u32 p, .int .u32 q2, .int .u32 c] w fun e w' => e = .returned (.tuple #[.agg #[.int .i64 T.t, .int .i64 T.i, .int .i64 T.o, .int .i64 T.s], .int .i64 X]) ∧ Below w.heap.size w w'))
    (hX : F = X) (ht : N.t = T.t) (hs : N.s = T.s) (S : Bool) (hS : N.same T = S) (A : Bool) (hA : (T.t == 2) = A) (hAS : (A || S) = true) :
    Calls Tryd.prog 6 #[.int .u32 p, .int .u32 q, .int .u32 p2, .int .u32 q2, .int .u32 b] w fun e w' => e = .returned (.bool true) ∧ Below w.heap.size w w' := by
  have G1 : Hid _ := H1
  have G2 : Hid _ := H2
  have G3 : Hid _ := H3
  have G4 : Hid _ := H4
  have G5 : Hid _ := H5
  clear H1 H2 H3 H4 H5
  have HX0 : Hid (AX w w) := AX.new w hT
  have HT : Hid (TA w) := hT
  clear hT
  subst hX
  have eM := eqM M M
  have eN := eqM N N
  have eT := eqM N T
  rw [Mem.same_self] at eM eN
  rw [hS] at eT
  clear hS
  obtain ⟨n1, n2, n3, n4⟩ := N
  obtain ⟨t1, t2, t3, t4⟩ := T
  simp only at ht hs
  subst ht hs
  simp only at *
  go_enter Tryd.func6, Tryd.ntmps6
  go_wp2_with (fail)
  go_at_call 13
  refine (G1.out _ HX0.out.tab).mono ?_
  rintro e w1 ⟨rfl, hb⟩
  have HX1 : Hid (AX w w1) := HX0.out.step hb
  clear hb HX0
  have Gea : Hid (w.heap.size ≤ w1.heap.size) := HX1.out.bel.size
  have HXaa : Hid (AX w (w1.alloc (.cells #[.int .i64 M.t, .int .i64 M.i, .int .i64 M.o, .int .i64 M.s] 24))) := HX1.out.alloc _
  have HBa_0 : Hid (Bl (w1.alloc (.cells #[.int .i64 M.t, .int .i64 M.i, .int .i64 M.o, .int .i64 M.s] 24)) w1.heap.size 24 [.int .i64 M.t, .int .i64 M.i, .int .i64 M.o, .int .i64 M.s]) := Bl.new _ _ _
  clear HX1
  go_wp2_with (fail)
  go_at_call 13
  refine (G2.out _ HXaa.out.tab).mono ?_
  rintro e w2 ⟨rfl, hb⟩
  have HX2 : Hid (AX w w2) := HXaa.out.step hb
  have HBa_2 : Hid (Bl w2 w1.heap.size 24 [.int .i64 M.t, .int .i64 M.i, .int .i64 M.o, .int .i64 M.s]) := HBa_0.out.below hb
  clear hb HXaa HBa_0
  have Geb : Hid (w.heap.size ≤ w2.heap.size) := HX2.out.bel.size
  have Nab : Hid (w1.heap.size ≠ w2.heap.size) := Nat.ne_of_lt HBa_2.out.lt
  have HXab : Hid (AX w (w2.alloc (.cells #[.int .i64 M.t, .int .i64 M.i, .int .i64 M.o, .int .i64 M.s] 24))) := HX2.out.alloc _
  have HBa_b : Hid (Bl (w2.alloc (.cells #[.int .i64 M.t, .int .i64 M.i, .int .i64 M.o, .int .i64 M.s] 24)) w1.heap.size 24 [.int .i64 M.t, .int .i64 M.i, .int .i64 M.o, .int .i64 M.s]) := HBa_2.out.below (below_new _ _)
  have HBb_0 : Hid (Bl (w2.alloc (.cells #[.int .i64 M.t, .int .i64 M.i, .int .i64 M.o, .int .i64 M.s] 24)) w2.heap.size 24 [.int .i64 M.t, .int .i64 M.i, .int .i64 M.o, .int .i64 M.s]) := Bl.new _ _ _
  clear HX2 HBa_2
  go_wp2_with (fail)
  go_at_call 11
  refine (live_any _ HXab.out.tab).mono ?_
  rintro e w3 ⟨rfl, hb⟩
  have HX3 : Hid (AX w w3) := HXab.out.step hb
  have HBa_3 : Hid (Bl w3 w1.heap.size 24 [.int .i64 M.t, .int .i64 M.i, .int .i64 M.o, .int .i64 M.s]) := HBa_b.out.below hb
  have HBb_3 : Hid (Bl w3 w2.heap.size 24 [.int .i64 M.t, .int .i64 M.i, .int .i64 M.o, .int .i64 M.s]) := HBb_0.out.below hb
  clear hb HXab HBa_b HBb_0
  have c0 := HBa_3.out.cell
  have f0 := HBa_3.out.frozen
  have l0 := HBa_3.out.lt
  have c1 := HBb_3.out.cell
  have f1 := HBb_3.out.frozen
  have l1 := HBb_3.out.lt
  have ne := Nab.out
  go_wp2_with (first | (go_at_call 12; refine (no_any _ _).mono ?_; rintro e wn ⟨rfl, rfl⟩))
  go_at_call 13
  refine (G3.out _ HX3.out.tab).mono ?_
  rintro e w4 ⟨rfl, hb⟩
  have HX4 : Hid (AX w w4) := HX3.out.step hb
  have HBa_4 : Hid (Bl w4 w1.heap.size 24 [.int .i64 M.t, .int .i64 M.i, .int .i64 M.o, .int .i64 M.s]) := HBa_3.out.below hb
  have HBb_4 : Hid (Bl w4 w2.heap.size 24 [.int .i64 M.t, .int .i64 M.i, .int .i64 M.o, .int .i64 M.s]) := HBb_3.out.below hb
  clear c0 f0 l0 c1 f1 l1
  clear hb HX3 HBa_3 HBb_3
  have c0 := HBa_4.out.cell
  have f0 := HBa_4.out.frozen
  have l0 := HBa_4.out.lt
  have c1 := HBb_4.out.cell
  have f1 := HBb_4.out.frozen
  have l1 := HBb_4.out.lt
  have HXs3 : Hid (AX w ((((w4.setCell ⟨w1.heap.size, 0, none⟩ (.int .i64 n1)).setCell ⟨w1.heap.size, 1, none⟩ (.int .i64 n2)).setCell ⟨w1.heap.size, 2, none⟩ (.int .i64 n3)).setCell ⟨w1.heap.size, 3, none⟩ (.int .i64 n4))) := AX.st4 HT.out HX4.out Gea.out (⟨n1, n2, n3, n4⟩ : Mem)
  have HBa_s3 : Hid (Bl ((((w4.setCell ⟨w1.heap.size, 0, none⟩ (.int .i64 n1)).setCell ⟨w1.heap.size, 1, none⟩ (.int .i64 n2)).setCell ⟨w1.heap.size, 2, none⟩ (.int .i64 n3)).setCell ⟨w1.heap.size, 3, none⟩ (.int .i64 n4)) w1.heap.size 24 [.int .i64 n1, .int .i64 n2, .int .i64 n3, .int .i64 n4]) := Bl.st4 HBa_4.out (⟨n1, n2, n3, n4⟩ : Mem)
  have HBb_s3 : Hid (Bl ((((w4.setCell ⟨w1.heap.size, 0, none⟩ (.int .i64 n1)).setCell ⟨w1.heap.size, 1, none⟩ (.int .i64 n2)).setCell ⟨w1.heap.size, 2, none⟩ (.int .i64 n3)).setCell ⟨w1.heap.size, 3, none⟩ (.int .i64 n4)) w2.heap.size 24 [.int .i64 M.t, .int .i64 M.i, .int .i64 M.o, .int .i64 M.s]) := Bl.st4_ne HBb_4.out Nab.out.symm (⟨n1, n2, n3, n4⟩ : Mem)
  clear HX4 HBa_4 HBb_4
  go_wp2_with (fail)
  go_at_call 13
  refine (G4.out _ HXs3.out.tab).mono ?_
  rintro e w5 ⟨rfl, hb⟩
  have HX5 : Hid (AX w w5) := HXs3.out.step hb
  have HBa_5 : Hid (Bl w5 w1.heap.size 24 [.int .i64 n1, .int .i64 n2, .int .i64 n3, .int .i64 n4]) := HBa_s3.out.below hb
  have HBb_5 : Hid (Bl w5 w2.heap.size 24 [.int .i64 M.t, .int .i64 M.i, .int .i64 M.o, .int .i64 M.s]) := HBb_s3.out.below hb
  clear c0 f0 l0 c1 f1 l1
  clear hb HXs3 HBa_s3 HBb_s3
  have c0 := HBa_5.out.cell
  have f0 := HBa_5.out.frozen
  have l0 := HBa_5.out.lt
  have c1 := HBb_5.out.cell
  have f1 := HBb_5.out.frozen
  have l1 := HBb_5.out.lt
  have HXs4 : Hid (AX w ((((w5.setCell ⟨w2.heap.size, 0, none⟩ (.int .i64 n1)).setCell ⟨w2.heap.size, 1, none⟩ (.int .i64 n2)).setCell ⟨w2.heap.size, 2, none⟩ (.int .i64 n3)).setCell ⟨w2.heap.size, 3, none⟩ (.int .i64 n4))) := AX.st4 HT.out HX5.out Geb.out (⟨n1, n2, n3, n4⟩ : Mem)
  have HBa_s4 : Hid (Bl ((((w5.setCell ⟨w2.heap.size, 0, none⟩ (.int .i64 n1)).setCell ⟨w2.heap.size, 1, none⟩ (.int .i64 n2)).setCell ⟨w2.heap.size, 2, none⟩ (.int .i64 n3)).setCell ⟨w2.heap.size, 3, none⟩ (.int .i64 n4)) w1.heap.size 24 [.int .i64 n1, .int .i64 n2, .int .i64 n3, .int .i64 n4]) := Bl.st4_ne HBa_5.out Nab.out (⟨n1, n2, n3, n4⟩ : Mem)
  have HBb_s4 : Hid (Bl ((((w5.setCell ⟨w2.heap.size, 0, none⟩ (.int .i64 n1)).setCell ⟨w2.heap.size, 1, none⟩ (.int .i64 n2)).setCell ⟨w2.heap.size, 2, none⟩ (.int .i64 n3)).setCell ⟨w2.heap.size, 3, none⟩ (.int .i64 n4)) w2.heap.size 24 [.int .i64 n1, .int .i64 n2, .int .i64 n3, .int .i64 n4]) := Bl.st4 HBb_5.out (⟨n1, n2, n3, n4⟩ : Mem)
  clear HX5 HBa_5 HBb_5
  go_wp2_with (first | (go_at_call 12; refine (no_any _ _).mono ?_; rintro e wn ⟨rfl, rfl⟩))
  go_at_call 13
  refine (G5.out _ HXs4.out.tab).mono ?_
  rintro e w6 ⟨rfl, hb⟩
  have HX6 : Hid (AX w w6) := HXs4.out.step hb
  have HBa_6 : Hid (Bl w6 w1.heap.size 24 [.int .i64 n1, .int .i64 n2, .int .i64 n3, .int .i64 n4]) := HBa_s4.out.below hb
  have HBb_6 : Hid (Bl w6 w2.heap.size 24 [.int .i64 n1, .int .i64 n2, .int .i64 n3, .int .i64 n4]) := HBb_s4.out.below hb
  clear c0 f0 l0 c1 f1 l1
  clear hb HXs4 HBa_s4 HBb_s4
  have c0 := HBa_6.out.cell
  have f0 := HBa_6.out.frozen
  have l0 := HBa_6.out.lt
  have c1 := HBb_6.out.cell
  have f1 := HBb_6.out.frozen
  have l1 := HBb_6.out.lt
  have HXs5 : Hid (AX w ((((w6.setCell ⟨w2.heap.size, 0, none⟩ (.int .i64 n1)).setCell ⟨w2.heap.size, 1, none⟩ (.int .i64 t2)).setCell ⟨w2.heap.size, 2, none⟩ (.int .i64 t3)).setCell ⟨w2.heap.size, 3, none⟩ (.int .i64 n4))) := AX.st4 HT.out HX6.out Geb.out (⟨n1, t2, t3, n4⟩ : Mem)
  have HBa_s5 : Hid (Bl ((((w6.setCell ⟨w2.heap.size, 0, none⟩ (.int .i64 n1)).setCell ⟨w2.heap.size, 1, none⟩ (.int .i64 t2)).setCell ⟨w2.heap.size, 2, none⟩ (.int .i64 t3)).setCell ⟨w2.heap.size, 3, none⟩ (.int .i64 n4)) w1.heap.size 24 [.int .i64 n1, .int .i64 n2, .int .i64 n3, .int .i64 n4]) := Bl.st4_ne HBa_6.out Nab.out (⟨n1, t2, t3, n4⟩ : Mem)
  have HBb_s5 : Hid (Bl ((((w6.setCell ⟨w2.heap.size, 0, none⟩ (.int .i64 n1)).setCell ⟨w2.heap.size, 1, none⟩ (.int .i64 t2)).setCell ⟨w2.heap.size, 2, none⟩ (.int .i64 t3)).setCell ⟨w2.heap.size, 3, none⟩ (.int .i64 n4)) w2.heap.size 24 [.int .i64 n1, .int .i64 t2, .int .i64 t3, .int .i64 n4]) := Bl.st4 HBb_6.out (⟨n1, t2, t3, n4⟩ : Mem)
  clear HX6 HBa_6 HBb_6
  clear G1 G2 G3 G4 G5 HT
  cases A <;> cases S
  · simp at hAS
  · go_wp2_with (first | (go_at_call 12; refine (no_any _ _).mono ?_; rintro e wn ⟨rfl, rfl⟩) | go_in)
    go_ret
    exact ⟨rfl, HXs5.out.bel⟩
  · go_wp2_with (first | (go_at_call 12; refine (no_any _ _).mono ?_; rintro e wn ⟨rfl, rfl⟩) | go_in)
    go_ret
    exact ⟨rfl, HXs5.out.bel⟩
  · go_wp2_with (first | (go_at_call 12; refine (no_any _ _).mono ?_; rintro e wn ⟨rfl, rfl⟩) | go_in)
    go_ret
    exact ⟨rfl, HXs5.out.bel⟩
theorem law_left (p q p2 q2 : Int) (b : Nat) (w : World) (hT : TA w) (hp : 0 ≤ p ∧ p < 4294967296) (hq : 0 ≤ q ∧ q < 4294967296) (hp2 : 0 ≤ p2 ∧ p2 < 4294967296) (hq2 : 0 ≤ q2 ∧ q2 < 4294967296) (hb : (b : Int) < 4294967296) :
    Calls Tryd.prog 6 #[.int .u32 p, .int .u32 q, .int .u32 p2, .int .u32 q2, .int .u32 b] w fun e w' => e = .returned (.bool true) ∧ Below w.heap.size w w' := by
  have a0 : bits .and .u32 (b : Int) 63 = ((b % 64 : Nat) : Int) := by
    have := and_low b 6 (by omega) (by decide)
    rw [Int.natCast_emod]
    exact this
  generalize hc : b % 64 = c at *
  have lc : c < 64 := by omega
  have a1 : bits .and .u32 (c : Int) 15 = ((c % 16 : Nat) : Int) := by
    have := and_low c 4 (by omega) (by decide)
    rw [Int.natCast_emod]
    exact this
  obtain ⟨h1, h2, h3, h4⟩ := oF_nmrr p q q2 c lc
  refine left_core p q p2 q2 b c (c % 16) w hT (oF false p q c).2 (oF true p q c).2 (oF true p q2 c).2 (oF false p q c).1 (oF true p q c).1 (oF true p q2 c).1 a0 a1 (fun w hw => of_any false p q c w hp hq hw.plain) (fun w hw => of_any false p2 q2 c w hp2 hq2 hw.plain) (fun w hw => of_any true p q c w hp hq hw.plain)
    (fun w hw => ?_) (fun w hw => of_any true p q2 c w hp hq2 hw.plain) h1 h2 h3 _ rfl _ rfl ?_
  · have h := of_any true p q (c % 16) w hp hq hw.plain
    rw [oF_low p q c lc] at h
    exact h
  · rcases h4 with h | h
    · rw [← h2, h]; rfl
    · rw [h, Mem.same_self]; simp
end Go.Proofs.YtmcloaonpkfibaaDoor
