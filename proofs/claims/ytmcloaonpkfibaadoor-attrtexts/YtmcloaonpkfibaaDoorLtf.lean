import Derived.Test.YtmcloaonpkfibaaDoorLv
import Derived.Test.YtmcloaonpkfibaaDoorSp
import Derived.Test.YtmcloaonpkfibaaDoorRy
namespace Go.Proofs.YtmcloaonpkfibaaDoor
open Go.RowKit
set_option linter.unusedVariables false
set_option linter.unusedSimpArgs false
set_option maxRecDepth 100000 in
set_option maxHeartbeats 1000000 in
theorem law_texts_full (m : Mem) (s : ByteArray) (w : World) (hT : TA w) (hs : s.size ≤ 4611686018427387904) :
    Calls Tryd.prog 8 #[.agg #[.int .i64 m.t, .int .i64 m.i, .int .i64 m.o, .int .i64 m.s], .string s] w fun e w' => e = .returned (.bool true) ∧ Below w.heap.size w w' := by
  have H1 : Hid (∀ w, TA w → Calls Tryd.prog 9 #[.agg #[.int .i64 m.t, .int .i64 m.i, .int .i64 m.o, .int .i64 m.s]] w fun e w' => e = .returned (.tuple #[.string (if K m then tx m else ⟨#[]⟩), .int .i64 (if K m then 0 else 62)]) ∧ Below w.heap.size w w') := fun w hw => show_any m w hw
  have H2 : Hid (∀ w, TA w → Calls Tryd.prog 15 #[.agg #[.int .i64 m.t, .int .i64 m.i, .int .i64 m.o, .int .i64 m.s]] w fun e w' => e = .returned (.tuple #[.string (if K m then tx m else ⟨#[]⟩), .int .i64 (if K m then 0 else 62)]) ∧ Below w.heap.size w w') := fun w hw => rshow_any m w
  have H3 : Hid (∀ w, TA w → Calls Tryd.prog 14 #[.string s] w fun e w' => e = .returned (.tuple #[.agg #[.int .i64 ((rd s).2).t, .int .i64 ((rd s).2).i, .int .i64 ((rd s).2).o, .int .i64 ((rd s).2).s], .int .i64 (rd s).1]) ∧ Below w.heap.size w w') := fun w hw => read_full s w hs hw
  have H4 : Hid (∀ w, TA w → Calls Tryd.prog 16 #[.string s] w fun e w' => e = .returned (.tuple #[.agg #[.int .i64 ((rd s).2).t, .int .i64 ((rd s).2).i, .int .i64 ((rd s).2).o, .int .i64 ((rd s).2).s], .int .i64 (rd s).1]) ∧ Below w.heap.size w w') := fun w hw => rread_any s w
  generalize (if K m then tx m else ⟨#[]⟩) = T at *
  generalize (if K m then (0 : Int) else 62) = E at *
  generalize (rd s).2 = M at *
  generalize (rd s).1 = F at *
  have HX0 : Hid (AX w w) := AX.new w hT
  have eM := eqM M M
  rw [Mem.same_self] at eM
  have eS : (T.toList == T.toList) = true := by simp
  clear hT hs
  go_enter Tryd.func8, Tryd.ntmps8
  have HXaa : Hid (AX w (w.alloc (.cells #[.int .i64 m.t, .int .i64 m.i, .int .i64 m.o, .int .i64 m.s] 24))) := HX0.out.alloc _
  have HBa_0 : Hid (Bl (w.alloc (.cells #[.int .i64 m.t, .int .i64 m.i, .int .i64 m.o, .int .i64 m.s] 24)) w.heap.size 24 [.int .i64 m.t, .int .i64 m.i, .int .i64 m.o, .int .i64 m.s]) := Bl.new _ _ _
  clear HX0
  go_wp2_with (fail)
  go_at_call 9
  refine (H1.out _ HXaa.out.tab).mono ?_
  rintro e w1 ⟨rfl, hb⟩
  have HX1 : Hid (AX w w1) := HXaa.out.step hb
  have HBa_1 : Hid (Bl w1 w.heap.size 24 [.int .i64 m.t, .int .i64 m.i, .int .i64 m.o, .int .i64 m.s]) := HBa_0.out.below hb
  clear hb HXaa HBa_0
  have c0 := HBa_1.out.cell
  go_wp2_with (fail)
  go_at_call 15
  refine (H2.out _ HX1.out.tab).mono ?_
  rintro e w2 ⟨rfl, hb⟩
  have HX2 : Hid (AX w w2) := HX1.out.step hb
  have HBa_2 : Hid (Bl w2 w.heap.size 24 [.int .i64 m.t, .int .i64 m.i, .int .i64 m.o, .int .i64 m.s]) := HBa_1.out.below hb
  clear hb HX1 HBa_1
  clear c0
  go_wp2_with (fail)
  go_at_call 11
  refine (live_any _ HX2.out.tab).mono ?_
  rintro e w3 ⟨rfl, hb⟩
  have HX3 : Hid (AX w w3) := HX2.out.step hb
  have HBa_3 : Hid (Bl w3 w.heap.size 24 [.int .i64 m.t, .int .i64 m.i, .int .i64 m.o, .int .i64 m.s]) := HBa_2.out.below hb
  clear hb HX2 HBa_2
  go_wp2_with (first | (go_at_call 12; refine (no_any _ _).mono ?_; rintro e wn ⟨rfl, rfl⟩))
  go_at_call 14
  refine (H3.out _ HX3.out.tab).mono ?_
  rintro e w4 ⟨rfl, hb⟩
  have HX4 : Hid (AX w w4) := HX3.out.step hb
  clear hb HX3
  have HXab : Hid (AX w (w4.alloc (.cells #[.int .i64 M.t, .int .i64 M.i, .int .i64 M.o, .int .i64 M.s] 24))) := HX4.out.alloc _
  have HBb_0 : Hid (Bl (w4.alloc (.cells #[.int .i64 M.t, .int .i64 M.i, .int .i64 M.o, .int .i64 M.s] 24)) w4.heap.size 24 [.int .i64 M.t, .int .i64 M.i, .int .i64 M.o, .int .i64 M.s]) := Bl.new _ _ _
  clear HX4
  go_wp2_with (fail)
  go_at_call 16
  refine (H4.out _ HXab.out.tab).mono ?_
  rintro e w5 ⟨rfl, hb⟩
  have HX5 : Hid (AX w w5) := HXab.out.step hb
  have HBb_5 : Hid (Bl w5 w4.heap.size 24 [.int .i64 M.t, .int .i64 M.i, .int .i64 M.o, .int .i64 M.s]) := HBb_0.out.below hb
  clear hb HXab HBb_0
  have HXac : Hid (AX w (w5.alloc (.cells #[.int .i64 M.t, .int .i64 M.i, .int .i64 M.o, .int .i64 M.s] 24))) := HX5.out.alloc _
  have HBb_c : Hid (Bl (w5.alloc (.cells #[.int .i64 M.t, .int .i64 M.i, .int .i64 M.o, .int .i64 M.s] 24)) w4.heap.size 24 [.int .i64 M.t, .int .i64 M.i, .int .i64 M.o, .int .i64 M.s]) := HBb_5.out.below (below_new _ _)
  have HBc_0 : Hid (Bl (w5.alloc (.cells #[.int .i64 M.t, .int .i64 M.i, .int .i64 M.o, .int .i64 M.s] 24)) w5.heap.size 24 [.int .i64 M.t, .int .i64 M.i, .int .i64 M.o, .int .i64 M.s]) := Bl.new _ _ _
  clear HX5 HBb_5
  have c0 := HBb_c.out.cell
  have f0 := HBb_c.out.frozen
  have l0 := HBb_c.out.lt
  have c1 := HBc_0.out.cell
  have f1 := HBc_0.out.frozen
  have l1 := HBc_0.out.lt
  clear H1 H2 H3 H4
  go_wp2_with (first | (go_at_call 12; refine (no_any _ _).mono ?_; rintro e wn ⟨rfl, rfl⟩) | go_in)
  go_ret
  exact ⟨rfl, HXac.out.bel⟩
end Go.Proofs.YtmcloaonpkfibaaDoor
