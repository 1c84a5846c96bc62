import Derived.Test.YtmcloaonpkfibabDoorLv
import Derived.Test.YtmcloaonpkfibabDoorRf
namespace Go.Proofs.YtmcloaonpkfibabDoor
open Go.RowKit
set_option linter.unusedVariables false
set_option linter.unusedSimpArgs false
set_option maxRecDepth 100000 in
set_option maxHeartbeats 1000000 in
theorem law_finds (tre : Bool) (p q : Int) (m : Mem) (w : World) (hT : TA w) (hp : 0 ≤ p ∧ p < 4294967296) (hq : 0 ≤ q ∧ q < 4294967296) :
    Calls Tryd.prog 5 #[.bool tre, .int .u32 p, .int .u32 q, .agg #[.int .i64 m.t, .int .i64 m.i, .int .i64 m.o, .int .i64 m.s]] w fun e w' => e = .returned (.bool true) ∧ Below w.heap.size w w' := by
  have H1 : Hid (∀ w, TA w → Calls Tryd.prog 10 #[.bool tre, .int .u32 p, .int .u32 q, .agg #[.int .i64 m.t, .int .i64 m.i, .int .i64 m.o, .int .i64 m.s]] w fun e w' => e = .returned (.tuple #[.int .u32 (fI tre p q m).1, .int .i64 (fI tre p q m).2]) ∧ Below w.heap.size w w') := fun w hw => find_any tre p q m w hp hq hw.plain
  have H2 : Hid (∀ w, TA w → Calls Tryd.prog 11 #[.bool tre, .int .u32 p, .int .u32 q, .agg #[.int .i64 m.t, .int .i64 m.i, .int .i64 m.o, .int .i64 m.s]] w fun e w' => e = .returned (.tuple #[.int .u32 (fI tre p q m).1, .int .i64 (fI tre p q m).2]) ∧ Below w.heap.size w w') := fun w hw => rfind_any tre p q m w hp hq hw.plain
  generalize (fI tre p q m).1 = B at *
  generalize (fI tre p q m).2 = E at *
  have HX0 : Hid (AX w w) := AX.new w hT
  clear hT hp hq
  go_enter Tryd.func5, Tryd.ntmps5
  have HXaa : Hid (AX w (w.alloc (.cells #[.int .i64 m.t, .int .i64 m.i, .int .i64 m.o, .int .i64 m.s] 24))) := HX0.out.alloc _
  have HBa_0 : Hid (Bl (w.alloc (.cells #[.int .i64 m.t, .int .i64 m.i, .int .i64 m.o, .int .i64 m.s] 24)) w.heap.size 24 [.int .i64 m.t, .int .i64 m.i, .int .i64 m.o, .int .i64 m.s]) := Bl.new _ _ _
  clear HX0
  go_wp2_with (fail)
  go_at_call 10
  refine (H1.out _ HXaa.out.tab).mono ?_
  rintro e w1 ⟨rfl, hb⟩
  have HX1 : Hid (AX w w1) := HXaa.out.step hb
  have HBa_1 : Hid (Bl w1 w.heap.size 24 [.int .i64 m.t, .int .i64 m.i, .int .i64 m.o, .int .i64 m.s]) := HBa_0.out.below hb
  clear hb HXaa HBa_0
  have c0 := HBa_1.out.cell
  go_wp2_with (fail)
  go_at_call 11
  refine (H2.out _ HX1.out.tab).mono ?_
  rintro e w2 ⟨rfl, hb⟩
  have HX2 : Hid (AX w w2) := HX1.out.step hb
  have HBa_2 : Hid (Bl w2 w.heap.size 24 [.int .i64 m.t, .int .i64 m.i, .int .i64 m.o, .int .i64 m.s]) := HBa_1.out.below hb
  clear hb HX1 HBa_1
  clear c0
  go_wp2_with (fail)
  go_at_call 8
  refine (live_any _ HX2.out.tab).mono ?_
  rintro e w3 ⟨rfl, hb⟩
  have HX3 : Hid (AX w w3) := HX2.out.step hb
  have HBa_3 : Hid (Bl w3 w.heap.size 24 [.int .i64 m.t, .int .i64 m.i, .int .i64 m.o, .int .i64 m.s]) := HBa_2.out.below hb
  clear hb HX2 HBa_2
  clear H1 H2
  go_wp2_with (first | (go_at_call 9; refine (no_any _ _).mono ?_; rintro e wn ⟨rfl, rfl⟩) | go_in)
  go_ret
  exact ⟨rfl, HX3.out.bel⟩
end Go.Proofs.YtmcloaonpkfibabDoor
