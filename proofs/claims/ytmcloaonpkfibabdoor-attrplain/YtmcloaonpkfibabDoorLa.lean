import Derived.Test.YtmcloaonpkfibabDoorLv
import Derived.Test.YtmcloaonpkfibabDoorRo
namespace Go.Proofs.YtmcloaonpkfibabDoor
open Go.RowKit
set_option linter.unusedVariables false
set_option linter.unusedSimpArgs false
set_option maxRecDepth 100000 in
set_option maxHeartbeats 1000000 in
theorem law_plain (p q : Int) (b : Nat) (w : World) (hT : TA w) (hp : 0 ≤ p ∧ p < 4294967296) (hq : 0 ≤ q ∧ q < 4294967296) :
    Calls Tryd.prog 3 #[.int .u32 p, .int .u32 q, .int .u32 b] w fun e w' => e = .returned (.bool true) ∧ Below w.heap.size w w' := by
  have H1 : Hid (∀ w, TA w → Calls Tryd.prog 6 #[.bool false, .int .u32 p, .int .u32 q, .int .u32 b] w fun e w' => e = .returned (.tuple #[.agg #[.int .i64 ((oF false p q b).2).t, .int .i64 ((oF false p q b).2).i, .int .i64 ((oF false p q b).2).o, .int .i64 ((oF false p q b).2).s], .int .i64 (oF false p q b).1]) ∧ Below w.heap.size w w') := fun w hw => of_any false p q b w hp hq hw.plain
  have H2 : Hid (∀ w, TA w → Calls Tryd.prog 7 #[.bool false, .int .u32 p, .int .u32 q, .int .u32 b] w fun e w' => e = .returned (.tuple #[.agg #[.int .i64 ((oF false p q b).2).t, .int .i64 ((oF false p q b).2).i, .int .i64 ((oF false p q b).2).o, .int .i64 ((oF false p q b).2).s], .int .i64 (oF false p q b).1]) ∧ Below w.heap.size w w') := fun w hw => rof_any false p q b w hp hq
  generalize (oF false p q b).2 = M at *
  generalize (oF false p q b).1 = E at *
  have HX0 : Hid (AX w w) := AX.new w hT
  have eM := eqM M M
  rw [Mem.same_self] at eM
  clear hT hp hq
  go_enter Tryd.func3, Tryd.ntmps3
  go_wp2_with (fail)
  go_at_call 6
  refine (H1.out _ HX0.out.tab).mono ?_
  rintro e w1 ⟨rfl, hb⟩
  have HX1 : Hid (AX w w1) := HX0.out.step hb
  clear hb HX0
  have HXaa : Hid (AX w (w1.alloc (.cells #[.int .i64 M.t, .int .i64 M.i, .int .i64 M.o, .int .i64 M.s] 24))) := HX1.out.alloc _
  have HBa_0 : Hid (Bl (w1.alloc (.cells #[.int .i64 M.t, .int .i64 M.i, .int .i64 M.o, .int .i64 M.s] 24)) w1.heap.size 24 [.int .i64 M.t, .int .i64 M.i, .int .i64 M.o, .int .i64 M.s]) := Bl.new _ _ _
  clear HX1
  go_wp2_with (fail)
  go_at_call 7
  refine (H2.out _ HXaa.out.tab).mono ?_
  rintro e w2 ⟨rfl, hb⟩
  have HX2 : Hid (AX w w2) := HXaa.out.step hb
  have HBa_2 : Hid (Bl w2 w1.heap.size 24 [.int .i64 M.t, .int .i64 M.i, .int .i64 M.o, .int .i64 M.s]) := HBa_0.out.below hb
  clear hb HXaa HBa_0
  have HXab : Hid (AX w (w2.alloc (.cells #[.int .i64 M.t, .int .i64 M.i, .int .i64 M.o, .int .i64 M.s] 24))) := HX2.out.alloc _
  have HBa_b : Hid (Bl (w2.alloc (.cells #[.int .i64 M.t, .int .i64 M.i, .int .i64 M.o, .int .i64 M.s] 24)) w1.heap.size 24 [.int .i64 M.t, .int .i64 M.i, .int .i64 M.o, .int .i64 M.s]) := HBa_2.out.below (below_new _ _)
  have HBb_0 : Hid (Bl (w2.alloc (.cells #[.int .i64 M.t, .int .i64 M.i, .int .i64 M.o, .int .i64 M.s] 24)) w2.heap.size 24 [.int .i64 M.t, .int .i64 M.i, .int .i64 M.o, .int .i64 M.s]) := Bl.new _ _ _
  clear HX2 HBa_2
  go_wp2_with (fail)
  go_at_call 8
  refine (live_any _ HXab.out.tab).mono ?_
  rintro e w3 ⟨rfl, hb⟩
  have HX3 : Hid (AX w w3) := HXab.out.step hb
  have HBa_3 : Hid (Bl w3 w1.heap.size 24 [.int .i64 M.t, .int .i64 M.i, .int .i64 M.o, .int .i64 M.s]) := HBa_b.out.below hb
  have HBb_3 : Hid (Bl w3 w2.heap.size 24 [.int .i64 M.t, .int .i64 M.i, .int .i64 M.o, .int .i64 M.s]) := HBb_0.out.below hb
  clear hb HXab HBa_b HBb_0
  have c0 := HBa_3.out.cell
  have f0 := HBa_3.out.frozen
  have l0 := HBa_3.out.lt
  have c1 := HBb_3.out.cell
  have f1 := HBb_3.out.frozen
  have l1 := HBb_3.out.lt
  clear H1 H2
  go_wp2_with (first | (go_at_call 9; refine (no_any _ _).mono ?_; rintro e wn ⟨rfl, rfl⟩) | go_in)
  go_ret
  exact ⟨rfl, HX3.out.bel⟩
end Go.Proofs.YtmcloaonpkfibabDoor
