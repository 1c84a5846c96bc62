import Derived.Test.YtmcloaonpkfibaaDoorTz
namespace Go.Proofs.YtmcloaonpkfibaaDoor
open Go.RowKit
set_option linter.unusedVariables false
set_option linter.unusedSimpArgs false
set_option maxRecDepth 100000 in
theorem no_any (e : Int) (w : World) : Calls Tryd.prog 12 #[.int .i64 e] w fun r w' => r = .returned (.int .i64 e) ∧ w = w' := by
  go_enter Tryd.func12, Tryd.ntmps12
  go_wp2
  go_ret
  exact ⟨rfl, rfl⟩
/-- A world behind, with all tables. -/
structure AX (w wr : World) : Prop where
  bel : Below w.heap.size w wr
  tab : TA wr
theorem AX.new (w : World) (h : TA w) : AX w w := ⟨Below.refl _ _, h⟩
theorem AX.step {w wr wn : World} (h : AX w wr) (hb : Below wr.heap.size wr wn) : AX w wn := ⟨Below.step h.bel hb, h.tab.below hb⟩
theorem AX.alloc {w wr : World} (h : AX w wr) (o : Obj) : AX w (wr.alloc o) := h.step (below_new _ _)
def L1 : List Value := [.int .i64 2, .int .i64 3, .int .i64 3, .int .i64 2]
def L2 : List Value := [.int .i64 2, .int .i64 3, .int .i64 3, .int .i64 1]
def L3 : List Value := [.int .i64 1, .int .i64 0, .int .i64 0, .int .i64 0]
set_option maxRecDepth 100000 in
set_option maxHeartbeats 400000 in
theorem live_any (w : World) (hT : TA w) : Calls Tryd.prog 11 #[] w fun e w' => e = .returned (.bool true) ∧ Below w.heap.size w w' := by
  have H1 : Hid (∀ w, TA w → Calls Tryd.prog 13 #[.bool false, .int .u32 0, .int .u32 0, .int .u32 7] w fun e w' => e = .returned (.tuple #[.agg #[.int .i64 2, .int .i64 3, .int .i64 3, .int .i64 2], .int .i64 0]) ∧ Below w.heap.size w w') := fun w hw => of_any false 0 0 7 w (by decide) (by decide) hw.plain
  have H2 : Hid (∀ w, TA w → Calls Tryd.prog 13 #[.bool true, .int .u32 134907556, .int .u32 1088438496, .int .u32 7] w fun e w' => e = .returned (.tuple #[.agg #[.int .i64 2, .int .i64 3, .int .i64 3, .int .i64 1], .int .i64 0]) ∧ Below w.heap.size w w') := fun w hw => by
    have h := of_any true 134907556 1088438496 7 w (by decide) (by decide) hw.plain
    rw [show oF true 134907556 1088438496 7 = (0, ⟨2, 3, 3, 1⟩) by kernel_rfl] at h
    exact h
  have H3 : Hid (∀ w, TA w → Calls Tryd.prog 9 #[.agg #[.int .i64 2, .int .i64 1, .int .i64 2, .int .i64 1]] w fun e w' => e = .returned (.tuple #[.string ⟨#[110, 111, 114, 109, 97, 108, 32, 97, 108, 108, 111, 99, 32, 116, 104, 114, 111, 117, 103, 104, 32, 105, 110, 110, 101, 114]⟩, .int .i64 0]) ∧ Below w.heap.size w w') := fun w hw => by
    have h := show_any ⟨2, 1, 2, 1⟩ w hw
    rw [if_pos (by decide), if_pos (by decide), show tx ⟨2, 1, 2, 1⟩ = ⟨#[110, 111, 114, 109, 97, 108, 32, 97, 108, 108, 111, 99, 32, 116, 104, 114, 111, 117, 103, 104, 32, 105, 110, 110, 101, 114]⟩ by kernel_rfl] at h
    exact h
  have H4 : Hid (∀ w, TA w → Calls Tryd.prog 14 #[.string ⟨#[100, 101, 118, 105, 99, 101, 32, 112, 114, 105, 118, 97, 116, 101]⟩] w fun e w' => e = .returned (.tuple #[.agg #[.int .i64 1, .int .i64 0, .int .i64 0, .int .i64 0], .int .i64 0]) ∧ Below w.heap.size w w') := fun w hw => by
    have h := read_any ⟨#[100, 101, 118, 105, 99, 101, 32, 112, 114, 105, 118, 97, 116, 101]⟩ w (by decide) hw
    rw [show rd ⟨#[100, 101, 118, 105, 99, 101, 32, 112, 114, 105, 118, 97, 116, 101]⟩ = (0, ⟨1, 0, 0, 0⟩) by kernel_rfl] at h
    exact h
  have H5 : Hid (∀ w, TA w → Calls Tryd.prog 10 #[.bool false, .int .u32 0, .int .u32 0, .agg #[.int .i64 2, .int .i64 1, .int .i64 1, .int .i64 0]] w fun e w' => e = .returned (.tuple #[.int .u32 14, .int .i64 0]) ∧ Below w.heap.size w w') := fun w hw => by
    have h := find_any false 0 0 ⟨2, 1, 1, 0⟩ w (by decide) (by decide) hw.plain
    rw [show fI false 0 0 ⟨2, 1, 1, 0⟩ = (14, 0) by kernel_rfl] at h
    exact h
  have E1 := eqM ⟨2, 3, 3, 2⟩ ⟨2, 3, 3, 2⟩
  have E2 := eqM ⟨2, 3, 3, 1⟩ ⟨2, 3, 3, 1⟩
  have E3 := eqM ⟨1, 0, 0, 0⟩ ⟨1, 0, 0, 0⟩
  rw [Mem.same_self] at E1 E2 E3
  have HX0 : Hid (AX w w) := AX.new w hT
  clear hT
  go_enter Tryd.func11, Tryd.ntmps11
  go_wp2_with (fail)
  go_at_call 13
  with_reducible refine (H1.out _ HX0.out.tab).mono ?_
  rintro e w1 ⟨rfl, hb⟩
  have HX1 : Hid (AX w (w1.alloc (.cells #[.int .i64 2, .int .i64 3, .int .i64 3, .int .i64 2] 24))) := (HX0.out.step hb).alloc _
  have HB1 : Hid (Bl (w1.alloc (.cells #[.int .i64 2, .int .i64 3, .int .i64 3, .int .i64 2] 24)) w1.heap.size 24 L1) := Bl.new _ _ _
  clear hb
  go_wp2_with (fail)
  go_at_call 13
  with_reducible refine (H2.out _ HX1.out.tab).mono ?_
  rintro e w2 ⟨rfl, hb⟩
  have HX2 : Hid (AX w (w2.alloc (.cells #[.int .i64 2, .int .i64 3, .int .i64 3, .int .i64 1] 24))) := (HX1.out.step hb).alloc _
  have HB2 : Hid (Bl (w2.alloc (.cells #[.int .i64 2, .int .i64 3, .int .i64 3, .int .i64 1] 24)) w2.heap.size 24 L2) := Bl.new _ _ _
  have HB12 : Hid (Bl (w2.alloc (.cells #[.int .i64 2, .int .i64 3, .int .i64 3, .int .i64 1] 24)) w1.heap.size 24 L1) := (HB1.out.below hb).below (below_new _ (.cells #[.int .i64 2, .int .i64 3, .int .i64 3, .int .i64 1] 24))
  clear hb
  go_wp2_with (fail)
  go_at_call 9
  refine (H3.out _ HX2.out.tab).mono ?_
  rintro e w3 ⟨rfl, hb⟩
  have HX3 : Hid (AX w w3) := HX2.out.step hb
  have HB13 : Hid (Bl w3 w1.heap.size 24 L1) := HB12.out.below hb
  have HB23 : Hid (Bl w3 w2.heap.size 24 L2) := HB2.out.below hb
  clear hb
  go_wp2_with (fail)
  go_at_call 14
  refine (H4.out _ HX3.out.tab).mono ?_
  rintro e w4 ⟨rfl, hb⟩
  have HX4 : Hid (AX w (w4.alloc (.cells #[.int .i64 1, .int .i64 0, .int .i64 0, .int .i64 0] 24))) := (HX3.out.step hb).alloc _
  have HB4 : Hid (Bl (w4.alloc (.cells #[.int .i64 1, .int .i64 0, .int .i64 0, .int .i64 0] 24)) w4.heap.size 24 L3) := Bl.new _ _ _
  have HB14 : Hid (Bl (w4.alloc (.cells #[.int .i64 1, .int .i64 0, .int .i64 0, .int .i64 0] 24)) w1.heap.size 24 L1) := (HB13.out.below hb).below (below_new _ (.cells #[.int .i64 1, .int .i64 0, .int .i64 0, .int .i64 0] 24))
  have HB24 : Hid (Bl (w4.alloc (.cells #[.int .i64 1, .int .i64 0, .int .i64 0, .int .i64 0] 24)) w2.heap.size 24 L2) := (HB23.out.below hb).below (below_new _ (.cells #[.int .i64 1, .int .i64 0, .int .i64 0, .int .i64 0] 24))
  clear hb
  go_wp2_with (fail)
  go_at_call 10
  refine (H5.out _ HX4.out.tab).mono ?_
  rintro e w5 ⟨rfl, hb⟩
  have HX5 : Hid (AX w w5) := HX4.out.step hb
  have c1 := (HB14.out.below hb).cell
  have c2 := (HB24.out.below hb).cell
  have c3 := (HB4.out.below hb).cell
  unfold L1 at c1
  unfold L2 at c2
  unfold L3 at c3
  clear hb
  clear HX0 HX1 HX2 HX3 HX4 HB1 HB2 HB12 HB13 HB23 HB14 HB24 HB4 H1 H2 H3 H4 H5
  go_wp2_with (first | (go_at_call 12; refine (no_any _ _).mono ?_; rintro e wn ⟨rfl, rfl⟩) | go_in)
  go_ret
  exact ⟨rfl, HX5.out.bel⟩
end Go.Proofs.YtmcloaonpkfibaaDoor
