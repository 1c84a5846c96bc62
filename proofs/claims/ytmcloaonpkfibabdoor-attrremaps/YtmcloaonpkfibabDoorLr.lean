import Derived.Test.YtmcloaonpkfibabDoorSt
import Derived.Test.YtmcloaonpkfibabDoorRo
namespace Go.Proofs.YtmcloaonpkfibabDoor
open Go.RowKit
set_option linter.unusedVariables false
set_option linter.unusedSimpArgs false
/-- Two boxes in a world behind. -/
structure RX (w wr : World) (b1 b2 : Nat) (A B : Mem) : Prop where
  ax : AX w wr
  g1 : w.heap.size ≤ b1
  ne : b1 < b2
  a : Bl wr b1 24 [.int .i64 A.t, .int .i64 A.i, .int .i64 A.o, .int .i64 A.s]
  b : Bl wr b2 24 [.int .i64 B.t, .int .i64 B.i, .int .i64 B.o, .int .i64 B.s]
theorem RX.step {w wr wn : World} {b1 b2 : Nat} {A B : Mem} (h : RX w wr b1 b2 A B) (hb : Below wr.heap.size wr wn) : RX w wn b1 b2 A B := ⟨h.ax.step hb, h.g1, h.ne, h.a.below hb, h.b.below hb⟩
theorem RX.sa {w wr : World} {b1 b2 : Nat} {A B : Mem} (hT : TA w) (h : RX w wr b1 b2 A B) (M : Mem) : RX w ((((wr.setCell ⟨b1, 0, none⟩ (.int .i64 M.t)).setCell ⟨b1, 1, none⟩ (.int .i64 M.i)).setCell ⟨b1, 2, none⟩ (.int .i64 M.o)).setCell ⟨b1, 3, none⟩ (.int .i64 M.s)) b1 b2 M B := ⟨h.ax.st4 hT h.g1 M, h.g1, h.ne, h.a.st4 M, h.b.st4_ne (Nat.ne_of_gt h.ne) M⟩
theorem RX.sb {w wr : World} {b1 b2 : Nat} {A B : Mem} (hT : TA w) (h : RX w wr b1 b2 A B) (M : Mem) : RX w ((((wr.setCell ⟨b2, 0, none⟩ (.int .i64 M.t)).setCell ⟨b2, 1, none⟩ (.int .i64 M.i)).setCell ⟨b2, 2, none⟩ (.int .i64 M.o)).setCell ⟨b2, 3, none⟩ (.int .i64 M.s)) b1 b2 A M := ⟨h.ax.st4 hT (Nat.le_trans h.g1 (Nat.le_of_lt h.ne)) M, h.g1, h.ne, h.a.st4_ne (Nat.ne_of_lt h.ne) M, h.b.st4 M⟩
set_option maxRecDepth 100000 in
set_option maxHeartbeats 4000000 in
theorem law_remaps (p q : Int) (b : Nat) (w : World) (hT : TA w) (hp : 0 ≤ p ∧ p < 4294967296) (hq : 0 ≤ q ∧ q < 4294967296) :
    Calls Tryd.prog 4 #[.int .u32 p, .int .u32 q, .int .u32 b] w fun e w' => e = .returned (.bool true) ∧ Below w.heap.size w w' := by
  have H1 : Hid (∀ (b : Nat) w, TA w → Calls Tryd.prog 6 #[.bool true, .int .u32 p, .int .u32 q, .int .u32 b] w fun e w' => e = .returned (.tuple #[.agg #[.int .i64 ((oF true p q b).2).t, .int .i64 ((oF true p q b).2).i, .int .i64 ((oF true p q b).2).o, .int .i64 ((oF true p q b).2).s], .int .i64 (oF true p q b).1]) ∧ Below w.heap.size w w') := fun b w hw => of_any true p q b w hp hq hw.plain
  have H2 : Hid (∀ (b : Nat) w, TA w → Calls Tryd.prog 7 #[.bool true, .int .u32 p, .int .u32 q, .int .u32 b] w fun e w' => e = .returned (.tuple #[.agg #[.int .i64 ((oF true p q b).2).t, .int .i64 ((oF true p q b).2).i, .int .i64 ((oF true p q b).2).o, .int .i64 ((oF true p q b).2).s], .int .i64 (oF true p q b).1]) ∧ Below w.heap.size w w') := fun b w hw => rof_any true p q b w hp hq
  have HX0 : Hid (AX w w) := AX.new w hT
  have HT : Hid (TA w) := hT
  have eM := fun m => eqM m m
  simp only [Mem.same_self] at eM
  clear hT hp hq
  go_enter Tryd.func4, Tryd.ntmps4
  go_wp2_with (fail)
  go_at_call 6
  refine (H1.out _ _ HX0.out.tab).mono ?_
  rintro e w1 ⟨rfl, hb⟩
  have HX1 : Hid (AX w w1) := HX0.out.step hb
  clear hb HX0
  have Gea : Hid (w.heap.size ≤ w1.heap.size) := HX1.out.bel.size
  have HXaa : Hid (AX w (w1.alloc (.cells #[.int .i64 (oF true p q b).2.t, .int .i64 (oF true p q b).2.i, .int .i64 (oF true p q b).2.o, .int .i64 (oF true p q b).2.s] 24))) := HX1.out.alloc _
  have HBa_0 : Hid (Bl (w1.alloc (.cells #[.int .i64 (oF true p q b).2.t, .int .i64 (oF true p q b).2.i, .int .i64 (oF true p q b).2.o, .int .i64 (oF true p q b).2.s] 24)) w1.heap.size 24 [.int .i64 (oF true p q b).2.t, .int .i64 (oF true p q b).2.i, .int .i64 (oF true p q b).2.o, .int .i64 (oF true p q b).2.s]) := Bl.new _ _ _
  clear HX1
  go_wp2_with (fail)
  go_at_call 7
  refine (H2.out _ _ HXaa.out.tab).mono ?_
  rintro e w2 ⟨rfl, hb⟩
  have HX2 : Hid (AX w w2) := HXaa.out.step hb
  have HBa_2 : Hid (Bl w2 w1.heap.size 24 [.int .i64 (oF true p q b).2.t, .int .i64 (oF true p q b).2.i, .int .i64 (oF true p q b).2.o, .int .i64 (oF true p q b).2.s]) := HBa_0.out.below hb
  clear hb HXaa HBa_0
  have Nab : Hid (w1.heap.size < w2.heap.size) := HBa_2.out.lt
  have HXab : Hid (AX w (w2.alloc (.cells #[.int .i64 (oF true p q b).2.t, .int .i64 (oF true p q b).2.i, .int .i64 (oF true p q b).2.o, .int .i64 (oF true p q b).2.s] 24))) := HX2.out.alloc _
  have HBa_b : Hid (Bl (w2.alloc (.cells #[.int .i64 (oF true p q b).2.t, .int .i64 (oF true p q b).2.i, .int .i64 (oF true p q b).2.o, .int .i64 (oF true p q b).2.s] 24)) w1.heap.size 24 [.int .i64 (oF true p q b).2.t, .int .i64 (oF true p q b).2.i, .int .i64 (oF true p q b).2.o, .int .i64 (oF true p q b).2.s]) := HBa_2.out.below (below_new _ _)
  have HBb_0 : Hid (Bl (w2.alloc (.cells #[.int .i64 (oF true p q b).2.t, .int .i64 (oF true p q b).2.i, .int .i64 (oF true p q b).2.o, .int .i64 (oF true p q b).2.s] 24)) w2.heap.size 24 [.int .i64 (oF true p q b).2.t, .int .i64 (oF true p q b).2.i, .int .i64 (oF true p q b).2.o, .int .i64 (oF true p q b).2.s]) := Bl.new _ _ _
  clear HX2 HBa_2
  go_wp2_with (fail)
  go_at_call 8
  refine (live_any _ HXab.out.tab).mono ?_
  rintro e w3 ⟨rfl, hb⟩
  have HX3 : Hid (AX w w3) := HXab.out.step hb
  have HBa_3 : Hid (Bl w3 w1.heap.size 24 [.int .i64 (oF true p q b).2.t, .int .i64 (oF true p q b).2.i, .int .i64 (oF true p q b).2.o, .int .i64 (oF true p q b).2.s]) := HBa_b.out.below hb
  have HBb_3 : Hid (Bl w3 w2.heap.size 24 [.int .i64 (oF true p q b).2.t, .int .i64 (oF true p q b).2.i, .int .i64 (oF true p q b).2.o, .int .i64 (oF true p q b).2.s]) := HBb_0.out.below hb
  clear hb HXab HBa_b HBb_0
  have HR : Hid (RX w w3 w1.heap.size w2.heap.size (oF true p q b).2 (oF true p q b).2) := ⟨HX3.out, Gea.out, Nab.out, HBa_3.out, HBb_3.out⟩
  have c0 := HBa_3.out.cell
  have f0 := HBa_3.out.frozen
  have l0 := HBa_3.out.lt
  have c1 := HBb_3.out.cell
  have f1 := HBb_3.out.frozen
  have l1 := HBb_3.out.lt
  generalize (oF true p q b).2 = M0 at *
  generalize (oF true p q b).1 = E0 at *
  generalize w1.heap.size = b1 at *
  generalize w2.heap.size = b2 at *
  go_wp2_with (first | (go_at_call 9; refine (no_any _ _).mono ?_; rintro e wn ⟨rfl, rfl⟩))
  go_loopw [11] (fun i wr => ∃ (k : Nat) (A B : Mem), k ≤ 66 ∧ i = .int .u32 k ∧ RX w wr b1 b2 A B) (fun i _ => 66 - (intOf i).toNat)
  case atStart => exact ⟨0, _, _, by omega, rfl, HR.out⟩
  case round =>
    obtain ⟨k, A, B, hk, rfl, hR⟩ := hrel
    have HR1 : Hid (RX w _ b1 b2 A B) := hR
    clear c0 f0 l0 c1 f1 l1 HR hR
    by_cases h : k < 66
    · have hi : (k : Int) < 66 := by omega
      have hw : IntKind.u32.wrap ((k : Int) + 1) = ((k + 1 : Nat) : Int) := by rw [IntKind.wrap_u32]; omega
      generalize hM : (oF true p q k).2 = M at *
      generalize hE : (oF true p q k).1 = E at *
      have H1k : Hid (∀ w, TA w → Calls Tryd.prog 6 #[.bool true, .int .u32 p, .int .u32 q, .int .u32 k] w fun e w' => e = .returned (.tuple #[.agg #[.int .i64 M.t, .int .i64 M.i, .int .i64 M.o, .int .i64 M.s], .int .i64 E]) ∧ Below w.heap.size w w') := fun w hw => by rw [← hM, ← hE]; exact H1.out k w hw
      have H2k : Hid (∀ w, TA w → Calls Tryd.prog 7 #[.bool true, .int .u32 p, .int .u32 q, .int .u32 k] w fun e w' => e = .returned (.tuple #[.agg #[.int .i64 M.t, .int .i64 M.i, .int .i64 M.o, .int .i64 M.s], .int .i64 E]) ∧ Below w.heap.size w w') := fun w hw => by rw [← hM, ← hE]; exact H2.out k w hw
      clear hM hE H1 H2 hk
      go_wp2_with (fail)
      go_at_call 6
      refine (H1k.out _ HR1.out.ax.tab).mono ?_
      rintro e w4 ⟨rfl, hb⟩
      have HR2 : Hid (RX w w4 b1 b2 A B) := HR1.out.step hb
      clear hb HR1
      have c0 := HR2.out.a.cell
      have f0 := HR2.out.a.frozen
      have l0 := HR2.out.a.lt
      have HR3 : Hid (RX w ((((w4.setCell ⟨b1, 0, none⟩ (.int .i64 M.t)).setCell ⟨b1, 1, none⟩ (.int .i64 M.i)).setCell ⟨b1, 2, none⟩ (.int .i64 M.o)).setCell ⟨b1, 3, none⟩ (.int .i64 M.s)) b1 b2 M B) := HR2.out.sa HT.out M
      go_wp2_with (fail)
      go_at_call 7
      refine (H2k.out _ HR3.out.ax.tab).mono ?_
      rintro e w5 ⟨rfl, hb⟩
      have HR4 : Hid (RX w w5 b1 b2 M B) := HR3.out.step hb
      clear hb HR2 HR3 c0 f0 l0
      have c0 := HR4.out.a.cell
      have f0 := HR4.out.a.frozen
      have l0 := HR4.out.a.lt
      have c1 := HR4.out.b.cell
      have f1 := HR4.out.b.frozen
      have l1 := HR4.out.b.lt
      have ne := HR4.out.ne
      have HR5 : Hid (RX w ((((w5.setCell ⟨b2, 0, none⟩ (.int .i64 M.t)).setCell ⟨b2, 1, none⟩ (.int .i64 M.i)).setCell ⟨b2, 2, none⟩ (.int .i64 M.o)).setCell ⟨b2, 3, none⟩ (.int .i64 M.s)) b1 b2 M M) := HR4.out.sb HT.out M
      clear HR4 H1k H2k
      go_wp2_with (first | (go_at_call 9; refine (no_any _ _).mono ?_; rintro e wn ⟨rfl, rfl⟩))
      go_roundw
      case rel => exact ⟨k + 1, M, M, by omega, congrArg _ (by omega), HR5.out⟩
      case measure => simp [intOf]; omega
    · obtain rfl : k = 66 := by omega
      go_wp2
      go_ret
      exact ⟨rfl, HR1.out.ax.bel⟩
end Go.Proofs.YtmcloaonpkfibabDoor
