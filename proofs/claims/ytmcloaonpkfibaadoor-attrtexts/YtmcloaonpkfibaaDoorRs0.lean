import Derived.Test.YtmcloaonpkfibaaDoorLv
import Derived.Test.YtmcloaonpkfibaaDoorRi
namespace Go.Proofs.YtmcloaonpkfibaaDoor
open Go.RowKit
set_option linter.unusedVariables false
set_option linter.unusedSimpArgs false
set_option maxRecDepth 100000 in
set_option maxHeartbeats 1000000 in
theorem rs_2_0_0_0 (w : World) : Calls Tryd.prog 15 #[.agg #[.int .i64 2, .int .i64 0, .int .i64 0, .int .i64 0]] w fun e w' => e = .returned (.tuple #[.string (tx ⟨2, 0, 0, 0⟩), .int .i64 0]) ∧ Below w.heap.size w w' := by
  have HK : Hid (∀ w, Calls Tryd.prog 23 #[.agg #[.int .i64 2, .int .i64 0, .int .i64 0, .int .i64 0]] w fun e w' => e = .returned (.bool true) ∧ Below w.heap.size w w') := fun w => isMem_any ⟨2, 0, 0, 0⟩ w
  have HB0 : Hid (Bl (w.alloc (.cells #[.int .i64 2, .int .i64 0, .int .i64 0, .int .i64 0] 24)) w.heap.size 24 [.int .i64 2, .int .i64 0, .int .i64 0, .int .i64 0]) := Bl.new _ _ _
  go_enter Tryd.func15, Tryd.ntmps15
  go_wp2_with (fail)
  go_at_call 23
  refine (HK.out _).mono ?_
  rintro e w1 ⟨rfl, hb⟩
  have c0 := (HB0.out.below hb).cell
  have l0 := (HB0.out.below hb).lt
  have HF : Hid (Below w.heap.size w w1) := Below.one hb
  clear hb HB0 HK
  go_wp2
  go_quiet (fail)
  go_wp2
  go_ret2
  exact ⟨by kernel_rfl, Below.step HF.out (by (repeat (with_reducible first | refine below_drew ?_ | refine below_drewN ?_ _ | refine Below.alloc ?_ (by simp) _)); exact Below.refl _ _)⟩
set_option maxRecDepth 100000 in
set_option maxHeartbeats 1000000 in
theorem rs_2_0_0_1 (w : World) : Calls Tryd.prog 15 #[.agg #[.int .i64 2, .int .i64 0, .int .i64 0, .int .i64 1]] w fun e w' => e = .returned (.tuple #[.string (tx ⟨2, 0, 0, 1⟩), .int .i64 0]) ∧ Below w.heap.size w w' := by
  have HK : Hid (∀ w, Calls Tryd.prog 23 #[.agg #[.int .i64 2, .int .i64 0, .int .i64 0, .int .i64 1]] w fun e w' => e = .returned (.bool true) ∧ Below w.heap.size w w') := fun w => isMem_any ⟨2, 0, 0, 1⟩ w
  have HB0 : Hid (Bl (w.alloc (.cells #[.int .i64 2, .int .i64 0, .int .i64 0, .int .i64 1] 24)) w.heap.size 24 [.int .i64 2, .int .i64 0, .int .i64 0, .int .i64 1]) := Bl.new _ _ _
  go_enter Tryd.func15, Tryd.ntmps15
  go_wp2_with (fail)
  go_at_call 23
  refine (HK.out _).mono ?_
  rintro e w1 ⟨rfl, hb⟩
  have c0 := (HB0.out.below hb).cell
  have l0 := (HB0.out.below hb).lt
  have HF : Hid (Below w.heap.size w w1) := Below.one hb
  clear hb HB0 HK
  go_wp2
  go_quiet (fail)
  go_wp2
  go_ret2
  exact ⟨by kernel_rfl, Below.step HF.out (by (repeat (with_reducible first | refine below_drew ?_ | refine below_drewN ?_ _ | refine Below.alloc ?_ (by simp) _)); exact Below.refl _ _)⟩
set_option maxRecDepth 100000 in
set_option maxHeartbeats 1000000 in
theorem rs_2_0_0_2 (w : World) : Calls Tryd.prog 15 #[.agg #[.int .i64 2, .int .i64 0, .int .i64 0, .int .i64 2]] w fun e w' => e = .returned (.tuple #[.string (tx ⟨2, 0, 0, 2⟩), .int .i64 0]) ∧ Below w.heap.size w w' := by
  have HK : Hid (∀ w, Calls Tryd.prog 23 #[.agg #[.int .i64 2, .int .i64 0, .int .i64 0, .int .i64 2]] w fun e w' => e = .returned (.bool true) ∧ Below w.heap.size w w') := fun w => isMem_any ⟨2, 0, 0, 2⟩ w
  have HB0 : Hid (Bl (w.alloc (.cells #[.int .i64 2, .int .i64 0, .int .i64 0, .int .i64 2] 24)) w.heap.size 24 [.int .i64 2, .int .i64 0, .int .i64 0, .int .i64 2]) := Bl.new _ _ _
  go_enter Tryd.func15, Tryd.ntmps15
  go_wp2_with (fail)
  go_at_call 23
  refine (HK.out _).mono ?_
  rintro e w1 ⟨rfl, hb⟩
  have c0 := (HB0.out.below hb).cell
  have l0 := (HB0.out.below hb).lt
  have HF : Hid (Below w.heap.size w w1) := Below.one hb
  clear hb HB0 HK
  go_wp2
  go_quiet (fail)
  go_wp2
  go_ret2
  exact ⟨by kernel_rfl, Below.step HF.out (by (repeat (with_reducible first | refine below_drew ?_ | refine below_drewN ?_ _ | refine Below.alloc ?_ (by simp) _)); exact Below.refl _ _)⟩
set_option maxRecDepth 100000 in
set_option maxHeartbeats 1000000 in
theorem rs_2_0_1_0 (w : World) : Calls Tryd.prog 15 #[.agg #[.int .i64 2, .int .i64 0, .int .i64 1, .int .i64 0]] w fun e w' => e = .returned (.tuple #[.string (tx ⟨2, 0, 1, 0⟩), .int .i64 0]) ∧ Below w.heap.size w w' := by
  have HK : Hid (∀ w, Calls Tryd.prog 23 #[.agg #[.int .i64 2, .int .i64 0, .int .i64 1, .int .i64 0]] w fun e w' => e = .returned (.bool true) ∧ Below w.heap.size w w') := fun w => isMem_any ⟨2, 0, 1, 0⟩ w
  have HB0 : Hid (Bl (w.alloc (.cells #[.int .i64 2, .int .i64 0, .int .i64 1, .int .i64 0] 24)) w.heap.size 24 [.int .i64 2, .int .i64 0, .int .i64 1, .int .i64 0]) := Bl.new _ _ _
  go_enter Tryd.func15, Tryd.ntmps15
  go_wp2_with (fail)
  go_at_call 23
  refine (HK.out _).mono ?_
  rintro e w1 ⟨rfl, hb⟩
  have c0 := (HB0.out.below hb).cell
  have l0 := (HB0.out.below hb).lt
  have HF : Hid (Below w.heap.size w w1) := Below.one hb
  clear hb HB0 HK
  go_wp2
  go_quiet (fail)
  go_wp2
  go_ret2
  exact ⟨by kernel_rfl, Below.step HF.out (by (repeat (with_reducible first | refine below_drew ?_ | refine below_drewN ?_ _ | refine Below.alloc ?_ (by simp) _)); exact Below.refl _ _)⟩
set_option maxRecDepth 100000 in
set_option maxHeartbeats 1000000 in
theorem rs_2_0_1_1 (w : World) : Calls Tryd.prog 15 #[.agg #[.int .i64 2, .int .i64 0, .int .i64 1, .int .i64 1]] w fun e w' => e = .returned (.tuple #[.string (tx ⟨2, 0, 1, 1⟩), .int .i64 0]) ∧ Below w.heap.size w w' := by
  have HK : Hid (∀ w, Calls Tryd.prog 23 #[.agg #[.int .i64 2, .int .i64 0, .int .i64 1, .int .i64 1]] w fun e w' => e = .returned (.bool true) ∧ Below w.heap.size w w') := fun w => isMem_any ⟨2, 0, 1, 1⟩ w
  have HB0 : Hid (Bl (w.alloc (.cells #[.int .i64 2, .int .i64 0, .int .i64 1, .int .i64 1] 24)) w.heap.size 24 [.int .i64 2, .int .i64 0, .int .i64 1, .int .i64 1]) := Bl.new _ _ _
  go_enter Tryd.func15, Tryd.ntmps15
  go_wp2_with (fail)
  go_at_call 23
  refine (HK.out _).mono ?_
  rintro e w1 ⟨rfl, hb⟩
  have c0 := (HB0.out.below hb).cell
  have l0 := (HB0.out.below hb).lt
  have HF : Hid (Below w.heap.size w w1) := Below.one hb
  clear hb HB0 HK
  go_wp2
  go_quiet (fail)
  go_wp2
  go_ret2
  exact ⟨by kernel_rfl, Below.step HF.out (by (repeat (with_reducible first | refine below_drew ?_ | refine below_drewN ?_ _ | refine Below.alloc ?_ (by simp) _)); exact Below.refl _ _)⟩
set_option maxRecDepth 100000 in
set_option maxHeartbeats 1000000 in
theorem rs_2_0_1_2 (w : World) : Calls Tryd.prog 15 #[.agg #[.int .i64 2, .int .i64 0, .int .i64 1, .int .i64 2]] w fun e w' => e = .returned (.tuple #[.string (tx ⟨2, 0, 1, 2⟩), .int .i64 0]) ∧ Below w.heap.size w w' := by
  have HK : Hid (∀ w, Calls Tryd.prog 23 #[.agg #[.int .i64 2, .int .i64 0, .int .i64 1, .int .i64 2]] w fun e w' => e = .returned (.bool true) ∧ Below w.heap.size w w') := fun w => isMem_any ⟨2, 0, 1, 2⟩ w
  have HB0 : Hid (Bl (w.alloc (.cells #[.int .i64 2, .int .i64 0, .int .i64 1, .int .i64 2] 24)) w.heap.size 24 [.int .i64 2, .int .i64 0, .int .i64 1, .int .i64 2]) := Bl.new _ _ _
  go_enter Tryd.func15, Tryd.ntmps15
  go_wp2_with (fail)
  go_at_call 23
  refine (HK.out _).mono ?_
  rintro e w1 ⟨rfl, hb⟩
  have c0 := (HB0.out.below hb).cell
  have l0 := (HB0.out.below hb).lt
  have HF : Hid (Below w.heap.size w w1) := Below.one hb
  clear hb HB0 HK
  go_wp2
  go_quiet (fail)
  go_wp2
  go_ret2
  exact ⟨by kernel_rfl, Below.step HF.out (by (repeat (with_reducible first | refine below_drew ?_ | refine below_drewN ?_ _ | refine Below.alloc ?_ (by simp) _)); exact Below.refl _ _)⟩
set_option maxRecDepth 100000 in
set_option maxHeartbeats 1000000 in
theorem rs_2_0_2_0 (w : World) : Calls Tryd.prog 15 #[.agg #[.int .i64 2, .int .i64 0, .int .i64 2, .int .i64 0]] w fun e w' => e = .returned (.tuple #[.string (tx ⟨2, 0, 2, 0⟩), .int .i64 0]) ∧ Below w.heap.size w w' := by
  have HK : Hid (∀ w, Calls Tryd.prog 23 #[.agg #[.int .i64 2, .int .i64 0, .int .i64 2, .int .i64 0]] w fun e w' => e = .returned (.bool true) ∧ Below w.heap.size w w') := fun w => isMem_any ⟨2, 0, 2, 0⟩ w
  have HB0 : Hid (Bl (w.alloc (.cells #[.int .i64 2, .int .i64 0, .int .i64 2, .int .i64 0] 24)) w.heap.size 24 [.int .i64 2, .int .i64 0, .int .i64 2, .int .i64 0]) := Bl.new _ _ _
  go_enter Tryd.func15, Tryd.ntmps15
  go_wp2_with (fail)
  go_at_call 23
  refine (HK.out _).mono ?_
  rintro e w1 ⟨rfl, hb⟩
  have c0 := (HB0.out.below hb).cell
  have l0 := (HB0.out.below hb).lt
  have HF : Hid (Below w.heap.size w w1) := Below.one hb
  clear hb HB0 HK
  go_wp2
  go_quiet (fail)
  go_wp2
  go_ret2
  exact ⟨by kernel_rfl, Below.step HF.out (by (repeat (with_reducible first | refine below_drew ?_ | refine below_drewN ?_ _ | refine Below.alloc ?_ (by simp) _)); exact Below.refl _ _)⟩
set_option maxRecDepth 100000 in
set_option maxHeartbeats 1000000 in
theorem rs_2_0_2_1 (w : World) : Calls Tryd.prog 15 #[.agg #[.int .i64 2, .int .i64 0, .int .i64 2, .int .i64 1]] w fun e w' => e = .returned (.tuple #[.string (tx ⟨2, 0, 2, 1⟩), .int .i64 0]) ∧ Below w.heap.size w w' := by
  have HK : Hid (∀ w, Calls Tryd.prog 23 #[.agg #[.int .i64 2, .int .i64 0, .int .i64 2, .int .i64 1]] w fun e w' => e = .returned (.bool true) ∧ Below w.heap.size w w') := fun w => isMem_any ⟨2, 0, 2, 1⟩ w
  have HB0 : Hid (Bl (w.alloc (.cells #[.int .i64 2, .int .i64 0, .int .i64 2, .int .i64 1] 24)) w.heap.size 24 [.int .i64 2, .int .i64 0, .int .i64 2, .int .i64 1]) := Bl.new _ _ _
  go_enter Tryd.func15, Tryd.ntmps15
  go_wp2_with (fail)
  go_at_call 23
  refine (HK.out _).mono ?_
  rintro e w1 ⟨rfl, hb⟩
  have c0 := (HB0.out.below hb).cell
  have l0 := (HB0.out.below hb).lt
  have HF : Hid (Below w.heap.size w w1) := Below.one hb
  clear hb HB0 HK
  go_wp2
  go_quiet (fail)
  go_wp2
  go_ret2
  exact ⟨by kernel_rfl, Below.step HF.out (by (repeat (with_reducible first | refine below_drew ?_ | refine below_drewN ?_ _ | refine Below.alloc ?_ (by simp) _)); exact Below.refl _ _)⟩
set_option maxRecDepth 100000 in
set_option maxHeartbeats 1000000 in
theorem rs_2_0_2_2 (w : World) : Calls Tryd.prog 15 #[.agg #[.int .i64 2, .int .i64 0, .int .i64 2, .int .i64 2]] w fun e w' => e = .returned (.tuple #[.string (tx ⟨2, 0, 2, 2⟩), .int .i64 0]) ∧ Below w.heap.size w w' := by
  have HK : Hid (∀ w, Calls Tryd.prog 23 #[.agg #[.int .i64 2, .int .i64 0, .int .i64 2, .int .i64 2]] w fun e w' => e = .returned (.bool true) ∧ Below w.heap.size w w') := fun w => isMem_any ⟨2, 0, 2, 2⟩ w
  have HB0 : Hid (Bl (w.alloc (.cells #[.int .i64 2, .int .i64 0, .int .i64 2, .int .i64 2] 24)) w.heap.size 24 [.int .i64 2, .int .i64 0, .int .i64 2, .int .i64 2]) := Bl.new _ _ _
  go_enter Tryd.func15, Tryd.ntmps15
  go_wp2_with (fail)
  go_at_call 23
  refine (HK.out _).mono ?_
  rintro e w1 ⟨rfl, hb⟩
  have c0 := (HB0.out.below hb).cell
  have l0 := (HB0.out.below hb).lt
  have HF : Hid (Below w.heap.size w w1) := Below.one hb
  clear hb HB0 HK
  go_wp2
  go_quiet (fail)
  go_wp2
  go_ret2
  exact ⟨by kernel_rfl, Below.step HF.out (by (repeat (with_reducible first | refine below_drew ?_ | refine below_drewN ?_ _ | refine Below.alloc ?_ (by simp) _)); exact Below.refl _ _)⟩
set_option maxRecDepth 100000 in
set_option maxHeartbeats 1000000 in
theorem rs_2_0_3_0 (w : World) : Calls Tryd.prog 15 #[.agg #[.int .i64 2, .int .i64 0, .int .i64 3, .int .i64 0]] w fun e w' => e = .returned (.tuple #[.string (tx ⟨2, 0, 3, 0⟩), .int .i64 0]) ∧ Below w.heap.size w w' := by
  have HK : Hid (∀ w, Calls Tryd.prog 23 #[.agg #[.int .i64 2, .int .i64 0, .int .i64 3, .int .i64 0]] w fun e w' => e = .returned (.bool true) ∧ Below w.heap.size w w') := fun w => isMem_any ⟨2, 0, 3, 0⟩ w
  have HB0 : Hid (Bl (w.alloc (.cells #[.int .i64 2, .int .i64 0, .int .i64 3, .int .i64 0] 24)) w.heap.size 24 [.int .i64 2, .int .i64 0, .int .i64 3, .int .i64 0]) := Bl.new _ _ _
  go_enter Tryd.func15, Tryd.ntmps15
  go_wp2_with (fail)
  go_at_call 23
  refine (HK.out _).mono ?_
  rintro e w1 ⟨rfl, hb⟩
  have c0 := (HB0.out.below hb).cell
  have l0 := (HB0.out.below hb).lt
  have HF : Hid (Below w.heap.size w w1) := Below.one hb
  clear hb HB0 HK
  go_wp2
  go_quiet (fail)
  go_wp2
  go_ret2
  exact ⟨by kernel_rfl, Below.step HF.out (by (repeat (with_reducible first | refine below_drew ?_ | refine below_drewN ?_ _ | refine Below.alloc ?_ (by simp) _)); exact Below.refl _ _)⟩
set_option maxRecDepth 100000 in
set_option maxHeartbeats 1000000 in
theorem rs_2_0_3_1 (w : World) : Calls Tryd.prog 15 #[.agg #[.int .i64 2, .int .i64 0, .int .i64 3, .int .i64 1]] w fun e w' => e = .returned (.tuple #[.string (tx ⟨2, 0, 3, 1⟩), .int .i64 0]) ∧ Below w.heap.size w w' := by
  have HK : Hid (∀ w, Calls Tryd.prog 23 #[.agg #[.int .i64 2, .int .i64 0, .int .i64 3, .int .i64 1]] w fun e w' => e = .returned (.bool true) ∧ Below w.heap.size w w') := fun w => isMem_any ⟨2, 0, 3, 1⟩ w
  have HB0 : Hid (Bl (w.alloc (.cells #[.int .i64 2, .int .i64 0, .int .i64 3, .int .i64 1] 24)) w.heap.size 24 [.int .i64 2, .int .i64 0, .int .i64 3, .int .i64 1]) := Bl.new _ _ _
  go_enter Tryd.func15, Tryd.ntmps15
  go_wp2_with (fail)
  go_at_call 23
  refine (HK.out _).mono ?_
  rintro e w1 ⟨rfl, hb⟩
  have c0 := (HB0.out.below hb).cell
  have l0 := (HB0.out.below hb).lt
  have HF : Hid (Below w.heap.size w w1) := Below.one hb
  clear hb HB0 HK
  go_wp2
  go_quiet (fail)
  go_wp2
  go_ret2
  exact ⟨by kernel_rfl, Below.step HF.out (by (repeat (with_reducible first | refine below_drew ?_ | refine below_drewN ?_ _ | refine Below.alloc ?_ (by simp) _)); exact Below.refl _ _)⟩
set_option maxRecDepth 100000 in
set_option maxHeartbeats 1000000 in
theorem rs_2_0_3_2 (w : World) : Calls Tryd.prog 15 #[.agg #[.int .i64 2, .int .i64 0, .int .i64 3, .int .i64 2]] w fun e w' => e = .returned (.tuple #[.string (tx ⟨2, 0, 3, 2⟩), .int .i64 0]) ∧ Below w.heap.size w w' := by
  have HK : Hid (∀ w, Calls Tryd.prog 23 #[.agg #[.int .i64 2, .int .i64 0, .int .i64 3, .int .i64 2]] w fun e w' => e = .returned (.bool true) ∧ Below w.heap.size w w') := fun w => isMem_any ⟨2, 0, 3, 2⟩ w
  have HB0 : Hid (Bl (w.alloc (.cells #[.int .i64 2, .int .i64 0, .int .i64 3, .int .i64 2] 24)) w.heap.size 24 [.int .i64 2, .int .i64 0, .int .i64 3, .int .i64 2]) := Bl.new _ _ _
  go_enter Tryd.func15, Tryd.ntmps15
  go_wp2_with (fail)
  go_at_call 23
  refine (HK.out _).mono ?_
  rintro e w1 ⟨rfl, hb⟩
  have c0 := (HB0.out.below hb).cell
  have l0 := (HB0.out.below hb).lt
  have HF : Hid (Below w.heap.size w w1) := Below.one hb
  clear hb HB0 HK
  go_wp2
  go_quiet (fail)
  go_wp2
  go_ret2
  exact ⟨by kernel_rfl, Below.step HF.out (by (repeat (with_reducible first | refine below_drew ?_ | refine below_drewN ?_ _ | refine Below.alloc ?_ (by simp) _)); exact Below.refl _ _)⟩
end Go.Proofs.YtmcloaonpkfibaaDoor
