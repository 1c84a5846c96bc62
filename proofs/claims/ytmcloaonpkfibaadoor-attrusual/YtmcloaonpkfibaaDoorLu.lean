import Derived.Test.YtmcloaonpkfibaaDoorLv
namespace Go.Proofs.YtmcloaonpkfibaaDoor
open Go.RowKit
set_option linter.unusedVariables false
set_option linter.unusedSimpArgs false
set_option maxRecDepth 100000 in
set_option maxHeartbeats 1000000 in
theorem us_0_0 (b c : Nat) (w : World) (hT : TA w) (a0 : bits .and .u32 (b : Int) 63 = (c : Int)) (a1 : bits .and .u32 ((c : Int) / 8) 1 = 0) (a2 : bits .and .u32 ((c : Int) / 2) 3 = 0) (a3 : bits .and .u32 (c : Int) 1 = 0)
    (H1 : ∀ w, TA w → Calls Tryd.prog 13 #[.bool true, .int .u32 689828, .int .u32 1088438496, .int .u32 c] w fun e w' => e = .returned (.tuple #[.agg #[.int .i64 0, .int .i64 0, .int .i64 0, .int .i64 2], .int .i64 0]) ∧ Below w.heap.size w w') :
    Calls Tryd.prog 7 #[.int .u32 b] w fun e w' => e = .returned (.bool true) ∧ Below w.heap.size w w' := by
  have G1 : Hid _ := H1
  have HX0 : Hid (AX w w) := AX.new w hT
  clear hT H1
  have eM := eqM ⟨0, 0, 0, 2⟩ ⟨0, 0, 0, 2⟩
  rw [Mem.same_self] at eM
  go_enter Tryd.func7, Tryd.ntmps7
  go_wp2_with (fail)
  go_at_call 13
  refine (G1.out _ HX0.out.tab).mono ?_
  rintro e w1 ⟨rfl, hb⟩
  have HX1 : Hid (AX w w1) := HX0.out.step hb
  clear hb HX0
  have HXaa : Hid (AX w (w1.alloc (.cells #[.int .i64 0, .int .i64 0, .int .i64 0, .int .i64 2] 24))) := HX1.out.alloc _
  have HBa_0 : Hid (Bl (w1.alloc (.cells #[.int .i64 0, .int .i64 0, .int .i64 0, .int .i64 2] 24)) w1.heap.size 24 [.int .i64 0, .int .i64 0, .int .i64 0, .int .i64 2]) := Bl.new _ _ _
  clear HX1
  go_wp2_with (fail)
  go_at_call 11
  refine (live_any _ HXaa.out.tab).mono ?_
  rintro e w2 ⟨rfl, hb⟩
  have HX2 : Hid (AX w w2) := HXaa.out.step hb
  have HBa_2 : Hid (Bl w2 w1.heap.size 24 [.int .i64 0, .int .i64 0, .int .i64 0, .int .i64 2]) := HBa_0.out.below hb
  clear hb HXaa HBa_0
  have c0 := HBa_2.out.cell
  have f0 := HBa_2.out.frozen
  have l0 := HBa_2.out.lt
  clear G1
  go_wp2_with (first | (go_at_call 12; refine (no_any _ _).mono ?_; rintro e wn ⟨rfl, rfl⟩) | go_in)
  go_ret
  exact ⟨rfl, HX2.out.bel⟩
set_option maxRecDepth 100000 in
set_option maxHeartbeats 1000000 in
theorem us_0_1 (b c : Nat) (w : World) (hT : TA w) (a0 : bits .and .u32 (b : Int) 63 = (c : Int)) (a1 : bits .and .u32 ((c : Int) / 8) 1 = 0) (a2 : bits .and .u32 ((c : Int) / 2) 3 = 0) (a3 : bits .and .u32 (c : Int) 1 = 1)
    (H1 : ∀ w, TA w → Calls Tryd.prog 13 #[.bool true, .int .u32 689828, .int .u32 1088438496, .int .u32 c] w fun e w' => e = .returned (.tuple #[.agg #[.int .i64 0, .int .i64 0, .int .i64 0, .int .i64 2], .int .i64 0]) ∧ Below w.heap.size w w') :
    Calls Tryd.prog 7 #[.int .u32 b] w fun e w' => e = .returned (.bool true) ∧ Below w.heap.size w w' := by
  have G1 : Hid _ := H1
  have HX0 : Hid (AX w w) := AX.new w hT
  clear hT H1
  have eM := eqM ⟨0, 0, 0, 2⟩ ⟨0, 0, 0, 2⟩
  rw [Mem.same_self] at eM
  go_enter Tryd.func7, Tryd.ntmps7
  go_wp2_with (fail)
  go_at_call 13
  refine (G1.out _ HX0.out.tab).mono ?_
  rintro e w1 ⟨rfl, hb⟩
  have HX1 : Hid (AX w w1) := HX0.out.step hb
  clear hb HX0
  have HXaa : Hid (AX w (w1.alloc (.cells #[.int .i64 0, .int .i64 0, .int .i64 0, .int .i64 2] 24))) := HX1.out.alloc _
  have HBa_0 : Hid (Bl (w1.alloc (.cells #[.int .i64 0, .int .i64 0, .int .i64 0, .int .i64 2] 24)) w1.heap.size 24 [.int .i64 0, .int .i64 0, .int .i64 0, .int .i64 2]) := Bl.new _ _ _
  clear HX1
  go_wp2_with (fail)
  go_at_call 11
  refine (live_any _ HXaa.out.tab).mono ?_
  rintro e w2 ⟨rfl, hb⟩
  have HX2 : Hid (AX w w2) := HXaa.out.step hb
  have HBa_2 : Hid (Bl w2 w1.heap.size 24 [.int .i64 0, .int .i64 0, .int .i64 0, .int .i64 2]) := HBa_0.out.below hb
  clear hb HXaa HBa_0
  have c0 := HBa_2.out.cell
  have f0 := HBa_2.out.frozen
  have l0 := HBa_2.out.lt
  clear G1
  go_wp2_with (first | (go_at_call 12; refine (no_any _ _).mono ?_; rintro e wn ⟨rfl, rfl⟩) | go_in)
  go_ret
  exact ⟨rfl, HX2.out.bel⟩
set_option maxRecDepth 100000 in
set_option maxHeartbeats 1000000 in
theorem us_1_0 (b c : Nat) (w : World) (hT : TA w) (a0 : bits .and .u32 (b : Int) 63 = (c : Int)) (a1 : bits .and .u32 ((c : Int) / 8) 1 = 0) (a2 : bits .and .u32 ((c : Int) / 2) 3 = 1) (a3 : bits .and .u32 (c : Int) 1 = 0)
    (H1 : ∀ w, TA w → Calls Tryd.prog 13 #[.bool true, .int .u32 689828, .int .u32 1088438496, .int .u32 c] w fun e w' => e = .returned (.tuple #[.agg #[.int .i64 1, .int .i64 0, .int .i64 0, .int .i64 0], .int .i64 0]) ∧ Below w.heap.size w w') :
    Calls Tryd.prog 7 #[.int .u32 b] w fun e w' => e = .returned (.bool true) ∧ Below w.heap.size w w' := by
  have G1 : Hid _ := H1
  have HX0 : Hid (AX w w) := AX.new w hT
  clear hT H1
  have eM := eqM ⟨1, 0, 0, 0⟩ ⟨1, 0, 0, 0⟩
  rw [Mem.same_self] at eM
  go_enter Tryd.func7, Tryd.ntmps7
  go_wp2_with (fail)
  go_at_call 13
  refine (G1.out _ HX0.out.tab).mono ?_
  rintro e w1 ⟨rfl, hb⟩
  have HX1 : Hid (AX w w1) := HX0.out.step hb
  clear hb HX0
  have HXaa : Hid (AX w (w1.alloc (.cells #[.int .i64 1, .int .i64 0, .int .i64 0, .int .i64 0] 24))) := HX1.out.alloc _
  have HBa_0 : Hid (Bl (w1.alloc (.cells #[.int .i64 1, .int .i64 0, .int .i64 0, .int .i64 0] 24)) w1.heap.size 24 [.int .i64 1, .int .i64 0, .int .i64 0, .int .i64 0]) := Bl.new _ _ _
  clear HX1
  go_wp2_with (fail)
  go_at_call 11
  refine (live_any _ HXaa.out.tab).mono ?_
  rintro e w2 ⟨rfl, hb⟩
  have HX2 : Hid (AX w w2) := HXaa.out.step hb
  have HBa_2 : Hid (Bl w2 w1.heap.size 24 [.int .i64 1, .int .i64 0, .int .i64 0, .int .i64 0]) := HBa_0.out.below hb
  clear hb HXaa HBa_0
  have c0 := HBa_2.out.cell
  have f0 := HBa_2.out.frozen
  have l0 := HBa_2.out.lt
  clear G1
  go_wp2_with (first | (go_at_call 12; refine (no_any _ _).mono ?_; rintro e wn ⟨rfl, rfl⟩) | go_in)
  go_ret
  exact ⟨rfl, HX2.out.bel⟩
set_option maxRecDepth 100000 in
set_option maxHeartbeats 1000000 in
theorem us_1_1 (b c : Nat) (w : World) (hT : TA w) (a0 : bits .and .u32 (b : Int) 63 = (c : Int)) (a1 : bits .and .u32 ((c : Int) / 8) 1 = 0) (a2 : bits .and .u32 ((c : Int) / 2) 3 = 1) (a3 : bits .and .u32 (c : Int) 1 = 1)
    (H1 : ∀ w, TA w → Calls Tryd.prog 13 #[.bool true, .int .u32 689828, .int .u32 1088438496, .int .u32 c] w fun e w' => e = .returned (.tuple #[.agg #[.int .i64 1, .int .i64 0, .int .i64 0, .int .i64 2], .int .i64 0]) ∧ Below w.heap.size w w') :
    Calls Tryd.prog 7 #[.int .u32 b] w fun e w' => e = .returned (.bool true) ∧ Below w.heap.size w w' := by
  have G1 : Hid _ := H1
  have HX0 : Hid (AX w w) := AX.new w hT
  clear hT H1
  have eM := eqM ⟨1, 0, 0, 2⟩ ⟨1, 0, 0, 2⟩
  rw [Mem.same_self] at eM
  go_enter Tryd.func7, Tryd.ntmps7
  go_wp2_with (fail)
  go_at_call 13
  refine (G1.out _ HX0.out.tab).mono ?_
  rintro e w1 ⟨rfl, hb⟩
  have HX1 : Hid (AX w w1) := HX0.out.step hb
  clear hb HX0
  have HXaa : Hid (AX w (w1.alloc (.cells #[.int .i64 1, .int .i64 0, .int .i64 0, .int .i64 2] 24))) := HX1.out.alloc _
  have HBa_0 : Hid (Bl (w1.alloc (.cells #[.int .i64 1, .int .i64 0, .int .i64 0, .int .i64 2] 24)) w1.heap.size 24 [.int .i64 1, .int .i64 0, .int .i64 0, .int .i64 2]) := Bl.new _ _ _
  clear HX1
  go_wp2_with (fail)
  go_at_call 11
  refine (live_any _ HXaa.out.tab).mono ?_
  rintro e w2 ⟨rfl, hb⟩
  have HX2 : Hid (AX w w2) := HXaa.out.step hb
  have HBa_2 : Hid (Bl w2 w1.heap.size 24 [.int .i64 1, .int .i64 0, .int .i64 0, .int .i64 2]) := HBa_0.out.below hb
  clear hb HXaa HBa_0
  have c0 := HBa_2.out.cell
  have f0 := HBa_2.out.frozen
  have l0 := HBa_2.out.lt
  clear G1
  go_wp2_with (first | (go_at_call 12; refine (no_any _ _).mono ?_; rintro e wn ⟨rfl, rfl⟩) | go_in)
  go_ret
  exact ⟨rfl, HX2.out.bel⟩
set_option maxRecDepth 100000 in
set_option maxHeartbeats 1000000 in
theorem us_2_0 (b c : Nat) (w : World) (hT : TA w) (a0 : bits .and .u32 (b : Int) 63 = (c : Int)) (a1 : bits .and .u32 ((c : Int) / 8) 1 = 0) (a2 : bits .and .u32 ((c : Int) / 2) 3 = 2) (a3 : bits .and .u32 (c : Int) 1 = 0)
    (H1 : ∀ w, TA w → Calls Tryd.prog 13 #[.bool true, .int .u32 689828, .int .u32 1088438496, .int .u32 c] w fun e w' => e = .returned (.tuple #[.agg #[.int .i64 2, .int .i64 2, .int .i64 2, .int .i64 0], .int .i64 0]) ∧ Below w.heap.size w w') :
    Calls Tryd.prog 7 #[.int .u32 b] w fun e w' => e = .returned (.bool true) ∧ Below w.heap.size w w' := by
  have G1 : Hid _ := H1
  have HX0 : Hid (AX w w) := AX.new w hT
  clear hT H1
  have eM := eqM ⟨2, 2, 2, 0⟩ ⟨2, 2, 2, 0⟩
  rw [Mem.same_self] at eM
  go_enter Tryd.func7, Tryd.ntmps7
  go_wp2_with (fail)
  go_at_call 13
  refine (G1.out _ HX0.out.tab).mono ?_
  rintro e w1 ⟨rfl, hb⟩
  have HX1 : Hid (AX w w1) := HX0.out.step hb
  clear hb HX0
  have HXaa : Hid (AX w (w1.alloc (.cells #[.int .i64 2, .int .i64 2, .int .i64 2, .int .i64 0] 24))) := HX1.out.alloc _
  have HBa_0 : Hid (Bl (w1.alloc (.cells #[.int .i64 2, .int .i64 2, .int .i64 2, .int .i64 0] 24)) w1.heap.size 24 [.int .i64 2, .int .i64 2, .int .i64 2, .int .i64 0]) := Bl.new _ _ _
  clear HX1
  go_wp2_with (fail)
  go_at_call 11
  refine (live_any _ HXaa.out.tab).mono ?_
  rintro e w2 ⟨rfl, hb⟩
  have HX2 : Hid (AX w w2) := HXaa.out.step hb
  have HBa_2 : Hid (Bl w2 w1.heap.size 24 [.int .i64 2, .int .i64 2, .int .i64 2, .int .i64 0]) := HBa_0.out.below hb
  clear hb HXaa HBa_0
  have c0 := HBa_2.out.cell
  have f0 := HBa_2.out.frozen
  have l0 := HBa_2.out.lt
  clear G1
  go_wp2_with (first | (go_at_call 12; refine (no_any _ _).mono ?_; rintro e wn ⟨rfl, rfl⟩) | go_in)
  go_ret
  exact ⟨rfl, HX2.out.bel⟩
set_option maxRecDepth 100000 in
set_option maxHeartbeats 1000000 in
theorem us_2_1 (b c : Nat) (w : World) (hT : TA w) (a0 : bits .and .u32 (b : Int) 63 = (c : Int)) (a1 : bits .and .u32 ((c : Int) / 8) 1 = 0) (a2 : bits .and .u32 ((c : Int) / 2) 3 = 2) (a3 : bits .and .u32 (c : Int) 1 = 1)
    (H1 : ∀ w, TA w → Calls Tryd.prog 13 #[.bool true, .int .u32 689828, .int .u32 1088438496, .int .u32 c] w fun e w' => e = .returned (.tuple #[.agg #[.int .i64 2, .int .i64 2, .int .i64 2, .int .i64 2], .int .i64 0]) ∧ Below w.heap.size w w') :
    Calls Tryd.prog 7 #[.int .u32 b] w fun e w' => e = .returned (.bool true) ∧ Below w.heap.size w w' := by
  have G1 : Hid _ := H1
  have HX0 : Hid (AX w w) := AX.new w hT
  clear hT H1
  have eM := eqM ⟨2, 2, 2, 2⟩ ⟨2, 2, 2, 2⟩
  rw [Mem.same_self] at eM
  go_enter Tryd.func7, Tryd.ntmps7
  go_wp2_with (fail)
  go_at_call 13
  refine (G1.out _ HX0.out.tab).mono ?_
  rintro e w1 ⟨rfl, hb⟩
  have HX1 : Hid (AX w w1) := HX0.out.step hb
  clear hb HX0
  have HXaa : Hid (AX w (w1.alloc (.cells #[.int .i64 2, .int .i64 2, .int .i64 2, .int .i64 2] 24))) := HX1.out.alloc _
  have HBa_0 : Hid (Bl (w1.alloc (.cells #[.int .i64 2, .int .i64 2, .int .i64 2, .int .i64 2] 24)) w1.heap.size 24 [.int .i64 2, .int .i64 2, .int .i64 2, .int .i64 2]) := Bl.new _ _ _
  clear HX1
  go_wp2_with (fail)
  go_at_call 11
  refine (live_any _ HXaa.out.tab).mono ?_
  rintro e w2 ⟨rfl, hb⟩
  have HX2 : Hid (AX w w2) := HXaa.out.step hb
  have HBa_2 : Hid (Bl w2 w1.heap.size 24 [.int .i64 2, .int .i64 2, .int .i64 2, .int .i64 2]) := HBa_0.out.below hb
  clear hb HXaa HBa_0
  have c0 := HBa_2.out.cell
  have f0 := HBa_2.out.frozen
  have l0 := HBa_2.out.lt
  clear G1
  go_wp2_with (first | (go_at_call 12; refine (no_any _ _).mono ?_; rintro e wn ⟨rfl, rfl⟩) | go_in)
  go_ret
  exact ⟨rfl, HX2.out.bel⟩
set_option maxRecDepth 100000 in
set_option maxHeartbeats 1000000 in
theorem us_3_0 (b c : Nat) (w : World) (hT : TA w) (a0 : bits .and .u32 (b : Int) 63 = (c : Int)) (a1 : bits .and .u32 ((c : Int) / 8) 1 = 0) (a2 : bits .and .u32 ((c : Int) / 2) 3 = 3) (a3 : bits .and .u32 (c : Int) 1 = 0)
    (H1 : ∀ w, TA w → Calls Tryd.prog 13 #[.bool true, .int .u32 689828, .int .u32 1088438496, .int .u32 c] w fun e w' => e = .returned (.tuple #[.agg #[.int .i64 2, .int .i64 3, .int .i64 3, .int .i64 0], .int .i64 0]) ∧ Below w.heap.size w w') :
    Calls Tryd.prog 7 #[.int .u32 b] w fun e w' => e = .returned (.bool true) ∧ Below w.heap.size w w' := by
  have G1 : Hid _ := H1
  have HX0 : Hid (AX w w) := AX.new w hT
  clear hT H1
  have eM := eqM ⟨2, 3, 3, 0⟩ ⟨2, 3, 3, 0⟩
  rw [Mem.same_self] at eM
  go_enter Tryd.func7, Tryd.ntmps7
  go_wp2_with (fail)
  go_at_call 13
  refine (G1.out _ HX0.out.tab).mono ?_
  rintro e w1 ⟨rfl, hb⟩
  have HX1 : Hid (AX w w1) := HX0.out.step hb
  clear hb HX0
  have HXaa : Hid (AX w (w1.alloc (.cells #[.int .i64 2, .int .i64 3, .int .i64 3, .int .i64 0] 24))) := HX1.out.alloc _
  have HBa_0 : Hid (Bl (w1.alloc (.cells #[.int .i64 2, .int .i64 3, .int .i64 3, .int .i64 0] 24)) w1.heap.size 24 [.int .i64 2, .int .i64 3, .int .i64 3, .int .i64 0]) := Bl.new _ _ _
  clear HX1
  go_wp2_with (fail)
  go_at_call 11
  refine (live_any _ HXaa.out.tab).mono ?_
  rintro e w2 ⟨rfl, hb⟩
  have HX2 : Hid (AX w w2) := HXaa.out.step hb
  have HBa_2 : Hid (Bl w2 w1.heap.size 24 [.int .i64 2, .int .i64 3, .int .i64 3, .int .i64 0]) := HBa_0.out.below hb
  clear hb HXaa HBa_0
  have c0 := HBa_2.out.cell
  have f0 := HBa_2.out.frozen
  have l0 := HBa_2.out.lt
  clear G1
  go_wp2_with (first | (go_at_call 12; refine (no_any _ _).mono ?_; rintro e wn ⟨rfl, rfl⟩) | go_in)
  go_ret
  exact ⟨rfl, HX2.out.bel⟩
set_option maxRecDepth 100000 in
set_option maxHeartbeats 1000000 in
theorem us_3_1 (b c : Nat) (w : World) (hT : TA w) (a0 : bits .and .u32 (b : Int) 63 = (c : Int)) (a1 : bits .and .u32 ((c : Int) / 8) 1 = 0) (a2 : bits .and .u32 ((c : Int) / 2) 3 = 3) (a3 : bits .and .u32 (c : Int) 1 = 1)
    (H1 : ∀ w, TA w → Calls Tryd.prog 13 #[.bool true, .int .u32 689828, .int .u32 1088438496, .int .u32 c] w fun e w' => e = .returned (.tuple #[.agg #[.int .i64 2, .int .i64 3, .int .i64 3, .int .i64 2], .int .i64 0]) ∧ Below w.heap.size w w') :
    Calls Tryd.prog 7 #[.int .u32 b] w fun e w' => e = .returned (.bool true) ∧ Below w.heap.size w w' := by
  have G1 : Hid _ := H1
  have HX0 : Hid (AX w w) := AX.new w hT
  clear hT H1
  have eM := eqM ⟨2, 3, 3, 2⟩ ⟨2, 3, 3, 2⟩
  rw [Mem.same_self] at eM
  go_enter Tryd.func7, Tryd.ntmps7
  go_wp2_with (fail)
  go_at_call 13
  refine (G1.out _ HX0.out.tab).mono ?_
  rintro e w1 ⟨rfl, hb⟩
  have HX1 : Hid (AX w w1) := HX0.out.step hb
  clear hb HX0
  have HXaa : Hid (AX w (w1.alloc (.cells #[.int .i64 2, .int .i64 3, .int .i64 3, .int .i64 2] 24))) := HX1.out.alloc _
  have HBa_0 : Hid (Bl (w1.alloc (.cells #[.int .i64 2, .int .i64 3, .int .i64 3, .int .i64 2] 24)) w1.heap.size 24 [.int .i64 2, .int .i64 3, .int .i64 3, .int .i64 2]) := Bl.new _ _ _
  clear HX1
  go_wp2_with (fail)
  go_at_call 11
  refine (live_any _ HXaa.out.tab).mono ?_
  rintro e w2 ⟨rfl, hb⟩
  have HX2 : Hid (AX w w2) := HXaa.out.step hb
  have HBa_2 : Hid (Bl w2 w1.heap.size 24 [.int .i64 2, .int .i64 3, .int .i64 3, .int .i64 2]) := HBa_0.out.below hb
  clear hb HXaa HBa_0
  have c0 := HBa_2.out.cell
  have f0 := HBa_2.out.frozen
  have l0 := HBa_2.out.lt
  clear G1
  go_wp2_with (first | (go_at_call 12; refine (no_any _ _).mono ?_; rintro e wn ⟨rfl, rfl⟩) | go_in)
  go_ret
  exact ⟨rfl, HX2.out.bel⟩
set_option maxRecDepth 100000 in
set_option maxHeartbeats 1000000 in
theorem us_4_0 (b c : Nat) (w : World) (hT : TA w) (a0 : bits .and .u32 (b : Int) 63 = (c : Int)) (a1 : bits .and .u32 ((c : Int) / 8) 1 = 1) (a2 : bits .and .u32 ((c : Int) / 2) 3 = 0) (a3 : bits .and .u32 (c : Int) 1 = 0)
    (H1 : ∀ w, TA w → Calls Tryd.prog 13 #[.bool true, .int .u32 689828, .int .u32 1088438496, .int .u32 c] w fun e w' => e = .returned (.tuple #[.agg #[.int .i64 2, .int .i64 0, .int .i64 0, .int .i64 0], .int .i64 0]) ∧ Below w.heap.size w w') :
    Calls Tryd.prog 7 #[.int .u32 b] w fun e w' => e = .returned (.bool true) ∧ Below w.heap.size w w' := by
  have G1 : Hid _ := H1
  have HX0 : Hid (AX w w) := AX.new w hT
  clear hT H1
  have eM := eqM ⟨2, 0, 0, 0⟩ ⟨2, 0, 0, 0⟩
  rw [Mem.same_self] at eM
  go_enter Tryd.func7, Tryd.ntmps7
  go_wp2_with (fail)
  go_at_call 13
  refine (G1.out _ HX0.out.tab).mono ?_
  rintro e w1 ⟨rfl, hb⟩
  have HX1 : Hid (AX w w1) := HX0.out.step hb
  clear hb HX0
  have HXaa : Hid (AX w (w1.alloc (.cells #[.int .i64 2, .int .i64 0, .int .i64 0, .int .i64 0] 24))) := HX1.out.alloc _
  have HBa_0 : Hid (Bl (w1.alloc (.cells #[.int .i64 2, .int .i64 0, .int .i64 0, .int .i64 0] 24)) w1.heap.size 24 [.int .i64 2, .int .i64 0, .int .i64 0, .int .i64 0]) := Bl.new _ _ _
  clear HX1
  go_wp2_with (fail)
  go_at_call 11
  refine (live_any _ HXaa.out.tab).mono ?_
  rintro e w2 ⟨rfl, hb⟩
  have HX2 : Hid (AX w w2) := HXaa.out.step hb
  have HBa_2 : Hid (Bl w2 w1.heap.size 24 [.int .i64 2, .int .i64 0, .int .i64 0, .int .i64 0]) := HBa_0.out.below hb
  clear hb HXaa HBa_0
  have c0 := HBa_2.out.cell
  have f0 := HBa_2.out.frozen
  have l0 := HBa_2.out.lt
  clear G1
  go_wp2_with (first | (go_at_call 12; refine (no_any _ _).mono ?_; rintro e wn ⟨rfl, rfl⟩) | go_in)
  go_ret
  exact ⟨rfl, HX2.out.bel⟩
set_option maxRecDepth 100000 in
set_option maxHeartbeats 1000000 in
theorem us_4_1 (b c : Nat) (w : World) (hT : TA w) (a0 : bits .and .u32 (b : Int) 63 = (c : Int)) (a1 : bits .and .u32 ((c : Int) / 8) 1 = 1) (a2 : bits .and .u32 ((c : Int) / 2) 3 = 0) (a3 : bits .and .u32 (c : Int) 1 = 1)
    (H1 : ∀ w, TA w → Calls Tryd.prog 13 #[.bool true, .int .u32 689828, .int .u32 1088438496, .int .u32 c] w fun e w' => e = .returned (.tuple #[.agg #[.int .i64 2, .int .i64 0, .int .i64 0, .int .i64 2], .int .i64 0]) ∧ Below w.heap.size w w') :
    Calls Tryd.prog 7 #[.int .u32 b] w fun e w' => e = .returned (.bool true) ∧ Below w.heap.size w w' := by
  have G1 : Hid _ := H1
  have HX0 : Hid (AX w w) := AX.new w hT
  clear hT H1
  have eM := eqM ⟨2, 0, 0, 2⟩ ⟨2, 0, 0, 2⟩
  rw [Mem.same_self] at eM
  go_enter Tryd.func7, Tryd.ntmps7
  go_wp2_with (fail)
  go_at_call 13
  refine (G1.out _ HX0.out.tab).mono ?_
  rintro e w1 ⟨rfl, hb⟩
  have HX1 : Hid (AX w w1) := HX0.out.step hb
  clear hb HX0
  have HXaa : Hid (AX w (w1.alloc (.cells #[.int .i64 2, .int .i64 0, .int .i64 0, .int .i64 2] 24))) := HX1.out.alloc _
  have HBa_0 : Hid (Bl (w1.alloc (.cells #[.int .i64 2, .int .i64 0, .int .i64 0, .int .i64 2] 24)) w1.heap.size 24 [.int .i64 2, .int .i64 0, .int .i64 0, .int .i64 2]) := Bl.new _ _ _
  clear HX1
  go_wp2_with (fail)
  go_at_call 11
  refine (live_any _ HXaa.out.tab).mono ?_
  rintro e w2 ⟨rfl, hb⟩
  have HX2 : Hid (AX w w2) := HXaa.out.step hb
  have HBa_2 : Hid (Bl w2 w1.heap.size 24 [.int .i64 2, .int .i64 0, .int .i64 0, .int .i64 2]) := HBa_0.out.below hb
  clear hb HXaa HBa_0
  have c0 := HBa_2.out.cell
  have f0 := HBa_2.out.frozen
  have l0 := HBa_2.out.lt
  clear G1
  go_wp2_with (first | (go_at_call 12; refine (no_any _ _).mono ?_; rintro e wn ⟨rfl, rfl⟩) | go_in)
  go_ret
  exact ⟨rfl, HX2.out.bel⟩
set_option maxRecDepth 100000 in
set_option maxHeartbeats 1000000 in
theorem us_5_0 (b c : Nat) (w : World) (hT : TA w) (a0 : bits .and .u32 (b : Int) 63 = (c : Int)) (a1 : bits .and .u32 ((c : Int) / 8) 1 = 1) (a2 : bits .and .u32 ((c : Int) / 2) 3 = 1) (a3 : bits .and .u32 (c : Int) 1 = 0)
    (H1 : ∀ w, TA w → Calls Tryd.prog 13 #[.bool true, .int .u32 689828, .int .u32 1088438496, .int .u32 c] w fun e w' => e = .returned (.tuple #[.agg #[.int .i64 1, .int .i64 0, .int .i64 0, .int .i64 0], .int .i64 0]) ∧ Below w.heap.size w w') :
    Calls Tryd.prog 7 #[.int .u32 b] w fun e w' => e = .returned (.bool true) ∧ Below w.heap.size w w' := by
  have G1 : Hid _ := H1
  have HX0 : Hid (AX w w) := AX.new w hT
  clear hT H1
  have eM := eqM ⟨1, 0, 0, 0⟩ ⟨1, 0, 0, 0⟩
  rw [Mem.same_self] at eM
  go_enter Tryd.func7, Tryd.ntmps7
  go_wp2_with (fail)
  go_at_call 13
  refine (G1.out _ HX0.out.tab).mono ?_
  rintro e w1 ⟨rfl, hb⟩
  have HX1 : Hid (AX w w1) := HX0.out.step hb
  clear hb HX0
  have HXaa : Hid (AX w (w1.alloc (.cells #[.int .i64 1, .int .i64 0, .int .i64 0, .int .i64 0] 24))) := HX1.out.alloc _
  have HBa_0 : Hid (Bl (w1.alloc (.cells #[.int .i64 1, .int .i64 0, .int .i64 0, .int .i64 0] 24)) w1.heap.size 24 [.int .i64 1, .int .i64 0, .int .i64 0, .int .i64 0]) := Bl.new _ _ _
  clear HX1
  go_wp2_with (fail)
  go_at_call 11
  refine (live_any _ HXaa.out.tab).mono ?_
  rintro e w2 ⟨rfl, hb⟩
  have HX2 : Hid (AX w w2) := HXaa.out.step hb
  have HBa_2 : Hid (Bl w2 w1.heap.size 24 [.int .i64 1, .int .i64 0, .int .i64 0, .int .i64 0]) := HBa_0.out.below hb
  clear hb HXaa HBa_0
  have c0 := HBa_2.out.cell
  have f0 := HBa_2.out.frozen
  have l0 := HBa_2.out.lt
  clear G1
  go_wp2_with (first | (go_at_call 12; refine (no_any _ _).mono ?_; rintro e wn ⟨rfl, rfl⟩) | go_in)
  go_ret
  exact ⟨rfl, HX2.out.bel⟩
set_option maxRecDepth 100000 in
set_option maxHeartbeats 1000000 in
theorem us_5_1 (b c : Nat) (w : World) (hT : TA w) (a0 : bits .and .u32 (b : Int) 63 = (c : Int)) (a1 : bits .and .u32 ((c : Int) / 8) 1 = 1) (a2 : bits .and .u32 ((c : Int) / 2) 3 = 1) (a3 : bits .and .u32 (c : Int) 1 = 1)
    (H1 : ∀ w, TA w → Calls Tryd.prog 13 #[.bool true, .int .u32 689828, .int .u32 1088438496, .int .u32 c] w fun e w' => e = .returned (.tuple #[.agg #[.int .i64 1, .int .i64 0, .int .i64 0, .int .i64 2], .int .i64 0]) ∧ Below w.heap.size w w') :
    Calls Tryd.prog 7 #[.int .u32 b] w fun e w' => e = .returned (.bool true) ∧ Below w.heap.size w w' := by
  have G1 : Hid _ := H1
  have HX0 : Hid (AX w w) := AX.new w hT
  clear hT H1
  have eM := eqM ⟨1, 0, 0, 2⟩ ⟨1, 0, 0, 2⟩
  rw [Mem.same_self] at eM
  go_enter Tryd.func7, Tryd.ntmps7
  go_wp2_with (fail)
  go_at_call 13
  refine (G1.out _ HX0.out.tab).mono ?_
  rintro e w1 ⟨rfl, hb⟩
  have HX1 : Hid (AX w w1) := HX0.out.step hb
  clear hb HX0
  have HXaa : Hid (AX w (w1.alloc (.cells #[.int .i64 1, .int .i64 0, .int .i64 0, .int .i64 2] 24))) := HX1.out.alloc _
  have HBa_0 : Hid (Bl (w1.alloc (.cells #[.int .i64 1, .int .i64 0, .int .i64 0, .int .i64 2] 24)) w1.heap.size 24 [.int .i64 1, .int .i64 0, .int .i64 0, .int .i64 2]) := Bl.new _ _ _
  clear HX1
  go_wp2_with (fail)
  go_at_call 11
  refine (live_any _ HXaa.out.tab).mono ?_
  rintro e w2 ⟨rfl, hb⟩
  have HX2 : Hid (AX w w2) := HXaa.out.step hb
  have HBa_2 : Hid (Bl w2 w1.heap.size 24 [.int .i64 1, .int .i64 0, .int .i64 0, .int .i64 2]) := HBa_0.out.below hb
  clear hb HXaa HBa_0
  have c0 := HBa_2.out.cell
  have f0 := HBa_2.out.frozen
  have l0 := HBa_2.out.lt
  clear G1
  go_wp2_with (first | (go_at_call 12; refine (no_any _ _).mono ?_; rintro e wn ⟨rfl, rfl⟩) | go_in)
  go_ret
  exact ⟨rfl, HX2.out.bel⟩
set_option maxRecDepth 100000 in
set_option maxHeartbeats 1000000 in
theorem us_6_0 (b c : Nat) (w : World) (hT : TA w) (a0 : bits .and .u32 (b : Int) 63 = (c : Int)) (a1 : bits .and .u32 ((c : Int) / 8) 1 = 1) (a2 : bits .and .u32 ((c : Int) / 2) 3 = 2) (a3 : bits .and .u32 (c : Int) 1 = 0)
    (H1 : ∀ w, TA w → Calls Tryd.prog 13 #[.bool true, .int .u32 689828, .int .u32 1088438496, .int .u32 c] w fun e w' => e = .returned (.tuple #[.agg #[.int .i64 0, .int .i64 0, .int .i64 0, .int .i64 0], .int .i64 61]) ∧ Below w.heap.size w w') :
    Calls Tryd.prog 7 #[.int .u32 b] w fun e w' => e = .returned (.bool true) ∧ Below w.heap.size w w' := by
  have G1 : Hid _ := H1
  have HX0 : Hid (AX w w) := AX.new w hT
  clear hT H1
  have eM := eqM ⟨0, 0, 0, 0⟩ ⟨0, 0, 0, 0⟩
  rw [Mem.same_self] at eM
  go_enter Tryd.func7, Tryd.ntmps7
  go_wp2_with (fail)
  go_at_call 13
  refine (G1.out _ HX0.out.tab).mono ?_
  rintro e w1 ⟨rfl, hb⟩
  have HX1 : Hid (AX w w1) := HX0.out.step hb
  clear hb HX0
  have HXaa : Hid (AX w (w1.alloc (.cells #[.int .i64 0, .int .i64 0, .int .i64 0, .int .i64 0] 24))) := HX1.out.alloc _
  have HBa_0 : Hid (Bl (w1.alloc (.cells #[.int .i64 0, .int .i64 0, .int .i64 0, .int .i64 0] 24)) w1.heap.size 24 [.int .i64 0, .int .i64 0, .int .i64 0, .int .i64 0]) := Bl.new _ _ _
  clear HX1
  go_wp2_with (fail)
  go_at_call 11
  refine (live_any _ HXaa.out.tab).mono ?_
  rintro e w2 ⟨rfl, hb⟩
  have HX2 : Hid (AX w w2) := HXaa.out.step hb
  have HBa_2 : Hid (Bl w2 w1.heap.size 24 [.int .i64 0, .int .i64 0, .int .i64 0, .int .i64 0]) := HBa_0.out.below hb
  clear hb HXaa HBa_0
  have c0 := HBa_2.out.cell
  have f0 := HBa_2.out.frozen
  have l0 := HBa_2.out.lt
  clear G1
  go_wp2_with (first | (go_at_call 12; refine (no_any _ _).mono ?_; rintro e wn ⟨rfl, rfl⟩) | go_in)
  go_ret
  exact ⟨rfl, HX2.out.bel⟩
set_option maxRecDepth 100000 in
set_option maxHeartbeats 1000000 in
theorem us_6_1 (b c : Nat) (w : World) (hT : TA w) (a0 : bits .and .u32 (b : Int) 63 = (c : Int)) (a1 : bits .and .u32 ((c : Int) / 8) 1 = 1) (a2 : bits .and .u32 ((c : Int) / 2) 3 = 2) (a3 : bits .and .u32 (c : Int) 1 = 1)
    (H1 : ∀ w, TA w → Calls Tryd.prog 13 #[.bool true, .int .u32 689828, .int .u32 1088438496, .int .u32 c] w fun e w' => e = .returned (.tuple #[.agg #[.int .i64 0, .int .i64 0, .int .i64 0, .int .i64 0], .int .i64 61]) ∧ Below w.heap.size w w') :
    Calls Tryd.prog 7 #[.int .u32 b] w fun e w' => e = .returned (.bool true) ∧ Below w.heap.size w w' := by
  have G1 : Hid _ := H1
  have HX0 : Hid (AX w w) := AX.new w hT
  clear hT H1
  have eM := eqM ⟨0, 0, 0, 0⟩ ⟨0, 0, 0, 0⟩
  rw [Mem.same_self] at eM
  go_enter Tryd.func7, Tryd.ntmps7
  go_wp2_with (fail)
  go_at_call 13
  refine (G1.out _ HX0.out.tab).mono ?_
  rintro e w1 ⟨rfl, hb⟩
  have HX1 : Hid (AX w w1) := HX0.out.step hb
  clear hb HX0
  have HXaa : Hid (AX w (w1.alloc (.cells #[.int .i64 0, .int .i64 0, .int .i64 0, .int .i64 0] 24))) := HX1.out.alloc _
  have HBa_0 : Hid (Bl (w1.alloc (.cells #[.int .i64 0, .int .i64 0, .int .i64 0, .int .i64 0] 24)) w1.heap.size 24 [.int .i64 0, .int .i64 0, .int .i64 0, .int .i64 0]) := Bl.new _ _ _
  clear HX1
  go_wp2_with (fail)
  go_at_call 11
  refine (live_any _ HXaa.out.tab).mono ?_
  rintro e w2 ⟨rfl, hb⟩
  have HX2 : Hid (AX w w2) := HXaa.out.step hb
  have HBa_2 : Hid (Bl w2 w1.heap.size 24 [.int .i64 0, .int .i64 0, .int .i64 0, .int .i64 0]) := HBa_0.out.below hb
  clear hb HXaa HBa_0
  have c0 := HBa_2.out.cell
  have f0 := HBa_2.out.frozen
  have l0 := HBa_2.out.lt
  clear G1
  go_wp2_with (first | (go_at_call 12; refine (no_any _ _).mono ?_; rintro e wn ⟨rfl, rfl⟩) | go_in)
  go_ret
  exact ⟨rfl, HX2.out.bel⟩
set_option maxRecDepth 100000 in
set_option maxHeartbeats 1000000 in
theorem us_7_0 (b c : Nat) (w : World) (hT : TA w) (a0 : bits .and .u32 (b : Int) 63 = (c : Int)) (a1 : bits .and .u32 ((c : Int) / 8) 1 = 1) (a2 : bits .and .u32 ((c : Int) / 2) 3 = 3) (a3 : bits .and .u32 (c : Int) 1 = 0)
    (H1 : ∀ w, TA w → Calls Tryd.prog 13 #[.bool true, .int .u32 689828, .int .u32 1088438496, .int .u32 c] w fun e w' => e = .returned (.tuple #[.agg #[.int .i64 2, .int .i64 1, .int .i64 1, .int .i64 0], .int .i64 0]) ∧ Below w.heap.size w w') :
    Calls Tryd.prog 7 #[.int .u32 b] w fun e w' => e = .returned (.bool true) ∧ Below w.heap.size w w' := by
  have G1 : Hid _ := H1
  have HX0 : Hid (AX w w) := AX.new w hT
  clear hT H1
  have eM := eqM ⟨2, 1, 1, 0⟩ ⟨2, 1, 1, 0⟩
  rw [Mem.same_self] at eM
  go_enter Tryd.func7, Tryd.ntmps7
  go_wp2_with (fail)
  go_at_call 13
  refine (G1.out _ HX0.out.tab).mono ?_
  rintro e w1 ⟨rfl, hb⟩
  have HX1 : Hid (AX w w1) := HX0.out.step hb
  clear hb HX0
  have HXaa : Hid (AX w (w1.alloc (.cells #[.int .i64 2, .int .i64 1, .int .i64 1, .int .i64 0] 24))) := HX1.out.alloc _
  have HBa_0 : Hid (Bl (w1.alloc (.cells #[.int .i64 2, .int .i64 1, .int .i64 1, .int .i64 0] 24)) w1.heap.size 24 [.int .i64 2, .int .i64 1, .int .i64 1, .int .i64 0]) := Bl.new _ _ _
  clear HX1
  go_wp2_with (fail)
  go_at_call 11
  refine (live_any _ HXaa.out.tab).mono ?_
  rintro e w2 ⟨rfl, hb⟩
  have HX2 : Hid (AX w w2) := HXaa.out.step hb
  have HBa_2 : Hid (Bl w2 w1.heap.size 24 [.int .i64 2, .int .i64 1, .int .i64 1, .int .i64 0]) := HBa_0.out.below hb
  clear hb HXaa HBa_0
  have c0 := HBa_2.out.cell
  have f0 := HBa_2.out.frozen
  have l0 := HBa_2.out.lt
  clear G1
  go_wp2_with (first | (go_at_call 12; refine (no_any _ _).mono ?_; rintro e wn ⟨rfl, rfl⟩) | go_in)
  go_ret
  exact ⟨rfl, HX2.out.bel⟩
set_option maxRecDepth 100000 in
set_option maxHeartbeats 1000000 in
theorem us_7_1 (b c : Nat) (w : World) (hT : TA w) (a0 : bits .and .u32 (b : Int) 63 = (c : Int)) (a1 : bits .and .u32 ((c : Int) / 8) 1 = 1) (a2 : bits .and .u32 ((c : Int) / 2) 3 = 3) (a3 : bits .and .u32 (c : Int) 1 = 1)
    (H1 : ∀ w, TA w → Calls Tryd.prog 13 #[.bool true, .int .u32 689828, .int .u32 1088438496, .int .u32 c] w fun e w' => e = .returned (.tuple #[.agg #[.int .i64 2, .int .i64 1, .int .i64 1, .int .i64 2], .int .i64 0]) ∧ Below w.heap.size w w') :
    Calls Tryd.prog 7 #[.int .u32 b] w fun e w' => e = .returned (.bool true) ∧ Below w.heap.size w w' := by
  have G1 : Hid _ := H1
  have HX0 : Hid (AX w w) := AX.new w hT
  clear hT H1
  have eM := eqM ⟨2, 1, 1, 2⟩ ⟨2, 1, 1, 2⟩
  rw [Mem.same_self] at eM
  go_enter Tryd.func7, Tryd.ntmps7
  go_wp2_with (fail)
  go_at_call 13
  refine (G1.out _ HX0.out.tab).mono ?_
  rintro e w1 ⟨rfl, hb⟩
  have HX1 : Hid (AX w w1) := HX0.out.step hb
  clear hb HX0
  have HXaa : Hid (AX w (w1.alloc (.cells #[.int .i64 2, .int .i64 1, .int .i64 1, .int .i64 2] 24))) := HX1.out.alloc _
  have HBa_0 : Hid (Bl (w1.alloc (.cells #[.int .i64 2, .int .i64 1, .int .i64 1, .int .i64 2] 24)) w1.heap.size 24 [.int .i64 2, .int .i64 1, .int .i64 1, .int .i64 2]) := Bl.new _ _ _
  clear HX1
  go_wp2_with (fail)
  go_at_call 11
  refine (live_any _ HXaa.out.tab).mono ?_
  rintro e w2 ⟨rfl, hb⟩
  have HX2 : Hid (AX w w2) := HXaa.out.step hb
  have HBa_2 : Hid (Bl w2 w1.heap.size 24 [.int .i64 2, .int .i64 1, .int .i64 1, .int .i64 2]) := HBa_0.out.below hb
  clear hb HXaa HBa_0
  have c0 := HBa_2.out.cell
  have f0 := HBa_2.out.frozen
  have l0 := HBa_2.out.lt
  clear G1
  go_wp2_with (first | (go_at_call 12; refine (no_any _ _).mono ?_; rintro e wn ⟨rfl, rfl⟩) | go_in)
  go_ret
  exact ⟨rfl, HX2.out.bel⟩
theorem rmv_0_0 : rM 689828 1088438496 0 0 = (0, ⟨0, 0, 0, 2⟩) := by kernel_rfl
theorem rmv_0_1 : rM 689828 1088438496 0 1 = (0, ⟨0, 0, 0, 2⟩) := by kernel_rfl
theorem rmv_1_0 : rM 689828 1088438496 1 0 = (0, ⟨1, 0, 0, 0⟩) := by kernel_rfl
theorem rmv_1_1 : rM 689828 1088438496 1 1 = (0, ⟨1, 0, 0, 2⟩) := by kernel_rfl
theorem rmv_2_0 : rM 689828 1088438496 2 0 = (0, ⟨2, 2, 2, 0⟩) := by kernel_rfl
theorem rmv_2_1 : rM 689828 1088438496 2 1 = (0, ⟨2, 2, 2, 2⟩) := by kernel_rfl
theorem rmv_3_0 : rM 689828 1088438496 3 0 = (0, ⟨2, 3, 3, 0⟩) := by kernel_rfl
theorem rmv_3_1 : rM 689828 1088438496 3 1 = (0, ⟨2, 3, 3, 2⟩) := by kernel_rfl
theorem rmv_4_0 : rM 689828 1088438496 4 0 = (0, ⟨2, 0, 0, 0⟩) := by kernel_rfl
theorem rmv_4_1 : rM 689828 1088438496 4 1 = (0, ⟨2, 0, 0, 2⟩) := by kernel_rfl
theorem rmv_5_0 : rM 689828 1088438496 5 0 = (0, ⟨1, 0, 0, 0⟩) := by kernel_rfl
theorem rmv_5_1 : rM 689828 1088438496 5 1 = (0, ⟨1, 0, 0, 2⟩) := by kernel_rfl
theorem rmv_6_0 : rM 689828 1088438496 6 0 = (61, ⟨0, 0, 0, 0⟩) := by kernel_rfl
theorem rmv_6_1 : rM 689828 1088438496 6 1 = (61, ⟨0, 0, 0, 0⟩) := by kernel_rfl
theorem rmv_7_0 : rM 689828 1088438496 7 0 = (0, ⟨2, 1, 1, 0⟩) := by kernel_rfl
theorem rmv_7_1 : rM 689828 1088438496 7 1 = (0, ⟨2, 1, 1, 2⟩) := by kernel_rfl
set_option maxRecDepth 100000 in
set_option maxHeartbeats 1000000 in
theorem law_usual (b : Nat) (w : World) (hT : TA w) (hb : (b : Int) < 4294967296) : Calls Tryd.prog 7 #[.int .u32 b] w fun e w' => e = .returned (.bool true) ∧ Below w.heap.size w w' := by
  have a0 : bits .and .u32 (b : Int) 63 = ((b % 64 : Nat) : Int) := by
    have := and_low b 6 (by omega) (by decide)
    rw [Int.natCast_emod]
    exact this
  generalize hc : b % 64 = c at *
  have lc : c < 64 := by omega
  have H1 : ∀ w, TA w → Calls Tryd.prog 13 #[.bool true, .int .u32 689828, .int .u32 1088438496, .int .u32 c] w fun e w' => e = .returned (.tuple #[.agg #[.int .i64 ((rM 689828 1088438496 (c / 2 % 8) (c % 2)).2).t, .int .i64 ((rM 689828 1088438496 (c / 2 % 8) (c % 2)).2).i, .int .i64 ((rM 689828 1088438496 (c / 2 % 8) (c % 2)).2).o, .int .i64 ((rM 689828 1088438496 (c / 2 % 8) (c % 2)).2).s], .int .i64 (rM 689828 1088438496 (c / 2 % 8) (c % 2)).1]) ∧ Below w.heap.size w w' := fun w hw => by
    have h := of_any true 689828 1088438496 c w (by decide) (by decide) hw.plain
    have e : oF true 689828 1088438496 c = rM 689828 1088438496 (c / 2 % 8) (c % 2) := by
      unfold oF
      rw [if_neg (by omega), if_pos rfl]
    rw [e] at h
    exact h
  have a1 : bits .and .u32 ((c : Int) / 8) 1 = ((c / 2 % 8 / 4 : Nat) : Int) := by rw [and1 _ (by omega)]; omega
  have a2 : bits .and .u32 ((c : Int) / 2) 3 = ((c / 2 % 8 % 4 : Nat) : Int) := by rw [and3 _ (by omega)]; omega
  have a3 : bits .and .u32 (c : Int) 1 = ((c % 2 : Nat) : Int) := by rw [and1 _ (by omega)]; omega
  generalize hn : c / 2 % 8 = n at *
  generalize hs : c % 2 = s at *
  have ln : n < 8 := by omega
  have ls : s < 2 := by omega
  rcases (show s = 0 ∨ s = 1 by omega) with rfl | rfl
  · rcases (show n = 0 ∨ n = 1 ∨ n = 2 ∨ n = 3 ∨ n = 4 ∨ n = 5 ∨ n = 6 ∨ n = 7 by omega) with rfl | rfl | rfl | rfl | rfl | rfl | rfl | rfl
    · exact us_0_0 b c w hT a0 a1 a2 a3 (fun w hw => by have h := H1 w hw; rw [rmv_0_0] at h; exact h)
    · exact us_1_0 b c w hT a0 a1 a2 a3 (fun w hw => by have h := H1 w hw; rw [rmv_1_0] at h; exact h)
    · exact us_2_0 b c w hT a0 a1 a2 a3 (fun w hw => by have h := H1 w hw; rw [rmv_2_0] at h; exact h)
    · exact us_3_0 b c w hT a0 a1 a2 a3 (fun w hw => by have h := H1 w hw; rw [rmv_3_0] at h; exact h)
    · exact us_4_0 b c w hT a0 a1 a2 a3 (fun w hw => by have h := H1 w hw; rw [rmv_4_0] at h; exact h)
    · exact us_5_0 b c w hT a0 a1 a2 a3 (fun w hw => by have h := H1 w hw; rw [rmv_5_0] at h; exact h)
    · exact us_6_0 b c w hT a0 a1 a2 a3 (fun w hw => by have h := H1 w hw; rw [rmv_6_0] at h; exact h)
    · exact us_7_0 b c w hT a0 a1 a2 a3 (fun w hw => by have h := H1 w hw; rw [rmv_7_0] at h; exact h)
  · rcases (show n = 0 ∨ n = 1 ∨ n = 2 ∨ n = 3 ∨ n = 4 ∨ n = 5 ∨ n = 6 ∨ n = 7 by omega) with rfl | rfl | rfl | rfl | rfl | rfl | rfl | rfl
    · exact us_0_1 b c w hT a0 a1 a2 a3 (fun w hw => by have h := H1 w hw; rw [rmv_0_1] at h; exact h)
    · exact us_1_1 b c w hT a0 a1 a2 a3 (fun w hw => by have h := H1 w hw; rw [rmv_1_1] at h; exact h)
    · exact us_2_1 b c w hT a0 a1 a2 a3 (fun w hw => by have h := H1 w hw; rw [rmv_2_1] at h; exact h)
    · exact us_3_1 b c w hT a0 a1 a2 a3 (fun w hw => by have h := H1 w hw; rw [rmv_3_1] at h; exact h)
    · exact us_4_1 b c w hT a0 a1 a2 a3 (fun w hw => by have h := H1 w hw; rw [rmv_4_1] at h; exact h)
    · exact us_5_1 b c w hT a0 a1 a2 a3 (fun w hw => by have h := H1 w hw; rw [rmv_5_1] at h; exact h)
    · exact us_6_1 b c w hT a0 a1 a2 a3 (fun w hw => by have h := H1 w hw; rw [rmv_6_1] at h; exact h)
    · exact us_7_1 b c w hT a0 a1 a2 a3 (fun w hw => by have h := H1 w hw; rw [rmv_7_1] at h; exact h)
end Go.Proofs.YtmcloaonpkfibaaDoor
