import Derived.Test.YtmmocnejacflmaaDoorMb
namespace Go.Proofs.YtmmocnejacflmaaDoor
open Go.RowKit
set_option linter.unusedVariables false
set_option linter.unusedSimpArgs false
set_option maxRecDepth 100000 in
set_option maxHeartbeats 2000000 in
theorem more_001_000 (w : World) (hT : TA w) : Calls Tryd.prog 6 #[.agg #[.bool false, .bool false, .bool true], .agg #[.bool false, .bool false, .bool false]] w fun e w' => e = .returned (.bool true) ∧ Below w.heap.size w w' := by
  have HLa : Hid (∀ w, Calls Tryd.prog 14 #[.agg #[.bool false, .bool false, .bool true]] w fun e w' => e = .returned (.tuple #[.agg #[.int .i64 0, .int .u32 0, .bool false, .bool false], .int .i64 71]) ∧ Below w.heap.size w w') := fun w => leaf_any false false true w
  have HLb : Hid (∀ w, Calls Tryd.prog 14 #[.agg #[.bool false, .bool false, .bool false]] w fun e w' => e = .returned (.tuple #[.agg #[.int .i64 1, .int .u32 14, .bool true, .bool true], .int .i64 0]) ∧ Below w.heap.size w w') := fun w => leaf_any false false false w
  have ea := eqZL
  have HT : Hid (TA w) := hT
  have HW0 : Hid (Below w.heap.size w w) := Below.refl _ _
  clear hT
  go_enter Tryd.func6, Tryd.ntmps6
  have HWaa : Hid (Below w.heap.size w (w.alloc (.cells #[.bool false, .bool false, .bool true] 39))) := Below.alloc HW0.out HW0.out.size _
  have HBa_0 : Hid (Bl (w.alloc (.cells #[.bool false, .bool false, .bool true] 39)) w.heap.size 39 [.bool false, .bool false, .bool true]) := Bl.new _ _ _
  clear HW0
  have HWb : Hid (Below w.heap.size w ((w.alloc (.cells #[.bool false, .bool false, .bool true] 39)).alloc (.cells #[.bool false, .bool false, .bool false] 39))) := Below.alloc HWaa.out HWaa.out.size _
  have HBa_b : Hid (Bl ((w.alloc (.cells #[.bool false, .bool false, .bool true] 39)).alloc (.cells #[.bool false, .bool false, .bool false] 39)) w.heap.size 39 [.bool false, .bool false, .bool true]) := HBa_0.out.below (below_new _ _)
  have hsz : (w.alloc (.cells #[.bool false, .bool false, .bool true] 39)).heap.size = w.heap.size + 1 := by simp
  have hbb := Bl.new (w.alloc (.cells #[.bool false, .bool false, .bool true] 39)) 39 [.bool false, .bool false, .bool false]
  rw [hsz] at hbb
  have HBb_0 : Hid (Bl ((w.alloc (.cells #[.bool false, .bool false, .bool true] 39)).alloc (.cells #[.bool false, .bool false, .bool false] 39)) (w.heap.size + 1) 39 [.bool false, .bool false, .bool false]) := hbb
  clear hbb hsz HWaa HBa_0
  go_wp2_with (fail)
  go_at_call 12
  refine (alive_any _ (HT.out.below HWb.out)).mono ?_
  rintro e w1 ⟨rfl, hb⟩
  have HW1 : Hid (Below w.heap.size w w1) := Below.step HWb.out hb
  have HBa_1 : Hid (Bl w1 w.heap.size 39 [.bool false, .bool false, .bool true]) := HBa_b.out.below hb
  have HBb_1 : Hid (Bl w1 (w.heap.size + 1) 39 [.bool false, .bool false, .bool false]) := HBb_0.out.below hb
  clear hb HWb HBa_b HBb_0
  have c0 := HBa_1.out.cell
  have f0 := HBa_1.out.frozen
  have l0 := HBa_1.out.lt
  have c1 := HBb_1.out.cell
  have f1 := HBb_1.out.frozen
  have l1 := HBb_1.out.lt
  go_wp2_with (fail)
  go_at_call 14
  refine (HLa.out _).mono ?_
  rintro e w2 ⟨rfl, hb⟩
  clear c0 f0 l0 c1 f1 l1
  have HW2 : Hid (Below w.heap.size w w2) := Below.step HW1.out hb
  have HBa_2 : Hid (Bl w2 w.heap.size 39 [.bool false, .bool false, .bool true]) := HBa_1.out.below hb
  have HBb_2 : Hid (Bl w2 (w.heap.size + 1) 39 [.bool false, .bool false, .bool false]) := HBb_1.out.below hb
  clear hb HW1 HBa_1 HBb_1
  have c0 := HBa_2.out.cell
  have f0 := HBa_2.out.frozen
  have l0 := HBa_2.out.lt
  have c1 := HBb_2.out.cell
  have f1 := HBb_2.out.frozen
  have l1 := HBb_2.out.lt
  have n0l : ¬ (w.heap.size = w2.heap.size) := by omega
  have n1l : ¬ ((w.heap.size + 1) = w2.heap.size) := by omega
  have HWal : Hid (Below w.heap.size w (w2.alloc (.cells #[.int .i64 0, .int .u32 0, .bool false, .bool false] 24))) := Below.alloc HW2.out HW2.out.size _
  have HBa_l : Hid (Bl (w2.alloc (.cells #[.int .i64 0, .int .u32 0, .bool false, .bool false] 24)) w.heap.size 39 [.bool false, .bool false, .bool true]) := HBa_2.out.below (below_new _ _)
  have HBb_l : Hid (Bl (w2.alloc (.cells #[.int .i64 0, .int .u32 0, .bool false, .bool false] 24)) (w.heap.size + 1) 39 [.bool false, .bool false, .bool false]) := HBb_2.out.below (below_new _ _)
  have HBl_0 : Hid (Bl (w2.alloc (.cells #[.int .i64 0, .int .u32 0, .bool false, .bool false] 24)) w2.heap.size 24 [.int .i64 0, .int .u32 0, .bool false, .bool false]) := Bl.new _ _ _
  clear HW2 HBa_2 HBb_2
  go_wp2_with (fail)
  go_at_call 14
  refine (HLb.out _).mono ?_
  rintro e w3 ⟨rfl, hb⟩
  clear c0 f0 l0 c1 f1 l1
  have HW3 : Hid (Below w.heap.size w w3) := Below.step HWal.out hb
  have HBa_3 : Hid (Bl w3 w.heap.size 39 [.bool false, .bool false, .bool true]) := HBa_l.out.below hb
  have HBb_3 : Hid (Bl w3 (w.heap.size + 1) 39 [.bool false, .bool false, .bool false]) := HBb_l.out.below hb
  have HBl_3 : Hid (Bl w3 w2.heap.size 24 [.int .i64 0, .int .u32 0, .bool false, .bool false]) := HBl_0.out.below hb
  clear hb HWal HBa_l HBb_l HBl_0
  have c0 := HBa_3.out.cell
  have f0 := HBa_3.out.frozen
  have l0 := HBa_3.out.lt
  have c1 := HBb_3.out.cell
  have f1 := HBb_3.out.frozen
  have l1 := HBb_3.out.lt
  have c2 := HBl_3.out.cell
  have f2 := HBl_3.out.frozen
  have l2 := HBl_3.out.lt
  have n0m : ¬ (w.heap.size = w3.heap.size) := by omega
  have n1m : ¬ ((w.heap.size + 1) = w3.heap.size) := by omega
  have n2m : ¬ (w2.heap.size = w3.heap.size) := by omega
  have HWam : Hid (Below w.heap.size w (w3.alloc (.cells #[.int .i64 1, .int .u32 14, .bool true, .bool true] 24))) := Below.alloc HW3.out HW3.out.size _
  have HBa_m : Hid (Bl (w3.alloc (.cells #[.int .i64 1, .int .u32 14, .bool true, .bool true] 24)) w.heap.size 39 [.bool false, .bool false, .bool true]) := HBa_3.out.below (below_new _ _)
  have HBb_m : Hid (Bl (w3.alloc (.cells #[.int .i64 1, .int .u32 14, .bool true, .bool true] 24)) (w.heap.size + 1) 39 [.bool false, .bool false, .bool false]) := HBb_3.out.below (below_new _ _)
  have HBl_m : Hid (Bl (w3.alloc (.cells #[.int .i64 1, .int .u32 14, .bool true, .bool true] 24)) w2.heap.size 24 [.int .i64 0, .int .u32 0, .bool false, .bool false]) := HBl_3.out.below (below_new _ _)
  have HBm_0 : Hid (Bl (w3.alloc (.cells #[.int .i64 1, .int .u32 14, .bool true, .bool true] 24)) w3.heap.size 24 [.int .i64 1, .int .u32 14, .bool true, .bool true]) := Bl.new _ _ _
  clear HW3 HBa_3 HBb_3 HBl_3
  go_wp2
  go_ret
  exact ⟨rfl, HWam.out⟩
set_option maxRecDepth 100000 in
set_option maxHeartbeats 2000000 in
theorem more_001_001 (w : World) (hT : TA w) : Calls Tryd.prog 6 #[.agg #[.bool false, .bool false, .bool true], .agg #[.bool false, .bool false, .bool true]] w fun e w' => e = .returned (.bool true) ∧ Below w.heap.size w w' := by
  have HLa : Hid (∀ w, Calls Tryd.prog 14 #[.agg #[.bool false, .bool false, .bool true]] w fun e w' => e = .returned (.tuple #[.agg #[.int .i64 0, .int .u32 0, .bool false, .bool false], .int .i64 71]) ∧ Below w.heap.size w w') := fun w => leaf_any false false true w
  have HLb : Hid (∀ w, Calls Tryd.prog 14 #[.agg #[.bool false, .bool false, .bool true]] w fun e w' => e = .returned (.tuple #[.agg #[.int .i64 0, .int .u32 0, .bool false, .bool false], .int .i64 71]) ∧ Below w.heap.size w w') := fun w => leaf_any false false true w
  have ea := eqZL
  have eb := eqZL
  have HT : Hid (TA w) := hT
  have HW0 : Hid (Below w.heap.size w w) := Below.refl _ _
  clear hT
  go_enter Tryd.func6, Tryd.ntmps6
  have HWaa : Hid (Below w.heap.size w (w.alloc (.cells #[.bool false, .bool false, .bool true] 39))) := Below.alloc HW0.out HW0.out.size _
  have HBa_0 : Hid (Bl (w.alloc (.cells #[.bool false, .bool false, .bool true] 39)) w.heap.size 39 [.bool false, .bool false, .bool true]) := Bl.new _ _ _
  clear HW0
  have HWb : Hid (Below w.heap.size w ((w.alloc (.cells #[.bool false, .bool false, .bool true] 39)).alloc (.cells #[.bool false, .bool false, .bool true] 39))) := Below.alloc HWaa.out HWaa.out.size _
  have HBa_b : Hid (Bl ((w.alloc (.cells #[.bool false, .bool false, .bool true] 39)).alloc (.cells #[.bool false, .bool false, .bool true] 39)) w.heap.size 39 [.bool false, .bool false, .bool true]) := HBa_0.out.below (below_new _ _)
  have hsz : (w.alloc (.cells #[.bool false, .bool false, .bool true] 39)).heap.size = w.heap.size + 1 := by simp
  have hbb := Bl.new (w.alloc (.cells #[.bool false, .bool false, .bool true] 39)) 39 [.bool false, .bool false, .bool true]
  rw [hsz] at hbb
  have HBb_0 : Hid (Bl ((w.alloc (.cells #[.bool false, .bool false, .bool true] 39)).alloc (.cells #[.bool false, .bool false, .bool true] 39)) (w.heap.size + 1) 39 [.bool false, .bool false, .bool true]) := hbb
  clear hbb hsz HWaa HBa_0
  go_wp2_with (fail)
  go_at_call 12
  refine (alive_any _ (HT.out.below HWb.out)).mono ?_
  rintro e w1 ⟨rfl, hb⟩
  have HW1 : Hid (Below w.heap.size w w1) := Below.step HWb.out hb
  have HBa_1 : Hid (Bl w1 w.heap.size 39 [.bool false, .bool false, .bool true]) := HBa_b.out.below hb
  have HBb_1 : Hid (Bl w1 (w.heap.size + 1) 39 [.bool false, .bool false, .bool true]) := HBb_0.out.below hb
  clear hb HWb HBa_b HBb_0
  have c0 := HBa_1.out.cell
  have f0 := HBa_1.out.frozen
  have l0 := HBa_1.out.lt
  have c1 := HBb_1.out.cell
  have f1 := HBb_1.out.frozen
  have l1 := HBb_1.out.lt
  go_wp2_with (fail)
  go_at_call 14
  refine (HLa.out _).mono ?_
  rintro e w2 ⟨rfl, hb⟩
  clear c0 f0 l0 c1 f1 l1
  have HW2 : Hid (Below w.heap.size w w2) := Below.step HW1.out hb
  have HBa_2 : Hid (Bl w2 w.heap.size 39 [.bool false, .bool false, .bool true]) := HBa_1.out.below hb
  have HBb_2 : Hid (Bl w2 (w.heap.size + 1) 39 [.bool false, .bool false, .bool true]) := HBb_1.out.below hb
  clear hb HW1 HBa_1 HBb_1
  have c0 := HBa_2.out.cell
  have f0 := HBa_2.out.frozen
  have l0 := HBa_2.out.lt
  have c1 := HBb_2.out.cell
  have f1 := HBb_2.out.frozen
  have l1 := HBb_2.out.lt
  have n0l : ¬ (w.heap.size = w2.heap.size) := by omega
  have n1l : ¬ ((w.heap.size + 1) = w2.heap.size) := by omega
  have HWal : Hid (Below w.heap.size w (w2.alloc (.cells #[.int .i64 0, .int .u32 0, .bool false, .bool false] 24))) := Below.alloc HW2.out HW2.out.size _
  have HBa_l : Hid (Bl (w2.alloc (.cells #[.int .i64 0, .int .u32 0, .bool false, .bool false] 24)) w.heap.size 39 [.bool false, .bool false, .bool true]) := HBa_2.out.below (below_new _ _)
  have HBb_l : Hid (Bl (w2.alloc (.cells #[.int .i64 0, .int .u32 0, .bool false, .bool false] 24)) (w.heap.size + 1) 39 [.bool false, .bool false, .bool true]) := HBb_2.out.below (below_new _ _)
  have HBl_0 : Hid (Bl (w2.alloc (.cells #[.int .i64 0, .int .u32 0, .bool false, .bool false] 24)) w2.heap.size 24 [.int .i64 0, .int .u32 0, .bool false, .bool false]) := Bl.new _ _ _
  clear HW2 HBa_2 HBb_2
  go_wp2_with (fail)
  go_at_call 14
  refine (HLb.out _).mono ?_
  rintro e w3 ⟨rfl, hb⟩
  clear c0 f0 l0 c1 f1 l1
  have HW3 : Hid (Below w.heap.size w w3) := Below.step HWal.out hb
  have HBa_3 : Hid (Bl w3 w.heap.size 39 [.bool false, .bool false, .bool true]) := HBa_l.out.below hb
  have HBb_3 : Hid (Bl w3 (w.heap.size + 1) 39 [.bool false, .bool false, .bool true]) := HBb_l.out.below hb
  have HBl_3 : Hid (Bl w3 w2.heap.size 24 [.int .i64 0, .int .u32 0, .bool false, .bool false]) := HBl_0.out.below hb
  clear hb HWal HBa_l HBb_l HBl_0
  have c0 := HBa_3.out.cell
  have f0 := HBa_3.out.frozen
  have l0 := HBa_3.out.lt
  have c1 := HBb_3.out.cell
  have f1 := HBb_3.out.frozen
  have l1 := HBb_3.out.lt
  have c2 := HBl_3.out.cell
  have f2 := HBl_3.out.frozen
  have l2 := HBl_3.out.lt
  have n0m : ¬ (w.heap.size = w3.heap.size) := by omega
  have n1m : ¬ ((w.heap.size + 1) = w3.heap.size) := by omega
  have n2m : ¬ (w2.heap.size = w3.heap.size) := by omega
  have HWam : Hid (Below w.heap.size w (w3.alloc (.cells #[.int .i64 0, .int .u32 0, .bool false, .bool false] 24))) := Below.alloc HW3.out HW3.out.size _
  have HBa_m : Hid (Bl (w3.alloc (.cells #[.int .i64 0, .int .u32 0, .bool false, .bool false] 24)) w.heap.size 39 [.bool false, .bool false, .bool true]) := HBa_3.out.below (below_new _ _)
  have HBb_m : Hid (Bl (w3.alloc (.cells #[.int .i64 0, .int .u32 0, .bool false, .bool false] 24)) (w.heap.size + 1) 39 [.bool false, .bool false, .bool true]) := HBb_3.out.below (below_new _ _)
  have HBl_m : Hid (Bl (w3.alloc (.cells #[.int .i64 0, .int .u32 0, .bool false, .bool false] 24)) w2.heap.size 24 [.int .i64 0, .int .u32 0, .bool false, .bool false]) := HBl_3.out.below (below_new _ _)
  have HBm_0 : Hid (Bl (w3.alloc (.cells #[.int .i64 0, .int .u32 0, .bool false, .bool false] 24)) w3.heap.size 24 [.int .i64 0, .int .u32 0, .bool false, .bool false]) := Bl.new _ _ _
  clear HW3 HBa_3 HBb_3 HBl_3
  go_wp2
  go_ret
  exact ⟨rfl, HWam.out⟩
set_option maxRecDepth 100000 in
set_option maxHeartbeats 2000000 in
theorem more_001_010 (w : World) (hT : TA w) : Calls Tryd.prog 6 #[.agg #[.bool false, .bool false, .bool true], .agg #[.bool false, .bool true, .bool false]] w fun e w' => e = .returned (.bool true) ∧ Below w.heap.size w w' := by
  have HLa : Hid (∀ w, Calls Tryd.prog 14 #[.agg #[.bool false, .bool false, .bool true]] w fun e w' => e = .returned (.tuple #[.agg #[.int .i64 0, .int .u32 0, .bool false, .bool false], .int .i64 71]) ∧ Below w.heap.size w w') := fun w => leaf_any false false true w
  have HLb : Hid (∀ w, Calls Tryd.prog 14 #[.agg #[.bool false, .bool true, .bool false]] w fun e w' => e = .returned (.tuple #[.agg #[.int .i64 0, .int .u32 0, .bool false, .bool false], .int .i64 71]) ∧ Below w.heap.size w w') := fun w => leaf_any false true false w
  have ea := eqZL
  have eb := eqZL
  have HT : Hid (TA w) := hT
  have HW0 : Hid (Below w.heap.size w w) := Below.refl _ _
  clear hT
  go_enter Tryd.func6, Tryd.ntmps6
  have HWaa : Hid (Below w.heap.size w (w.alloc (.cells #[.bool false, .bool false, .bool true] 39))) := Below.alloc HW0.out HW0.out.size _
  have HBa_0 : Hid (Bl (w.alloc (.cells #[.bool false, .bool false, .bool true] 39)) w.heap.size 39 [.bool false, .bool false, .bool true]) := Bl.new _ _ _
  clear HW0
  have HWb : Hid (Below w.heap.size w ((w.alloc (.cells #[.bool false, .bool false, .bool true] 39)).alloc (.cells #[.bool false, .bool true, .bool false] 39))) := Below.alloc HWaa.out HWaa.out.size _
  have HBa_b : Hid (Bl ((w.alloc (.cells #[.bool false, .bool false, .bool true] 39)).alloc (.cells #[.bool false, .bool true, .bool false] 39)) w.heap.size 39 [.bool false, .bool false, .bool true]) := HBa_0.out.below (below_new _ _)
  have hsz : (w.alloc (.cells #[.bool false, .bool false, .bool true] 39)).heap.size = w.heap.size + 1 := by simp
  have hbb := Bl.new (w.alloc (.cells #[.bool false, .bool false, .bool true] 39)) 39 [.bool false, .bool true, .bool false]
  rw [hsz] at hbb
  have HBb_0 : Hid (Bl ((w.alloc (.cells #[.bool false, .bool false, .bool true] 39)).alloc (.cells #[.bool false, .bool true, .bool false] 39)) (w.heap.size + 1) 39 [.bool false, .bool true, .bool false]) := hbb
  clear hbb hsz HWaa HBa_0
  go_wp2_with (fail)
  go_at_call 12
  refine (alive_any _ (HT.out.below HWb.out)).mono ?_
  rintro e w1 ⟨rfl, hb⟩
  have HW1 : Hid (Below w.heap.size w w1) := Below.step HWb.out hb
  have HBa_1 : Hid (Bl w1 w.heap.size 39 [.bool false, .bool false, .bool true]) := HBa_b.out.below hb
  have HBb_1 : Hid (Bl w1 (w.heap.size + 1) 39 [.bool false, .bool true, .bool false]) := HBb_0.out.below hb
  clear hb HWb HBa_b HBb_0
  have c0 := HBa_1.out.cell
  have f0 := HBa_1.out.frozen
  have l0 := HBa_1.out.lt
  have c1 := HBb_1.out.cell
  have f1 := HBb_1.out.frozen
  have l1 := HBb_1.out.lt
  go_wp2_with (fail)
  go_at_call 14
  refine (HLa.out _).mono ?_
  rintro e w2 ⟨rfl, hb⟩
  clear c0 f0 l0 c1 f1 l1
  have HW2 : Hid (Below w.heap.size w w2) := Below.step HW1.out hb
  have HBa_2 : Hid (Bl w2 w.heap.size 39 [.bool false, .bool false, .bool true]) := HBa_1.out.below hb
  have HBb_2 : Hid (Bl w2 (w.heap.size + 1) 39 [.bool false, .bool true, .bool false]) := HBb_1.out.below hb
  clear hb HW1 HBa_1 HBb_1
  have c0 := HBa_2.out.cell
  have f0 := HBa_2.out.frozen
  have l0 := HBa_2.out.lt
  have c1 := HBb_2.out.cell
  have f1 := HBb_2.out.frozen
  have l1 := HBb_2.out.lt
  have n0l : ¬ (w.heap.size = w2.heap.size) := by omega
  have n1l : ¬ ((w.heap.size + 1) = w2.heap.size) := by omega
  have HWal : Hid (Below w.heap.size w (w2.alloc (.cells #[.int .i64 0, .int .u32 0, .bool false, .bool false] 24))) := Below.alloc HW2.out HW2.out.size _
  have HBa_l : Hid (Bl (w2.alloc (.cells #[.int .i64 0, .int .u32 0, .bool false, .bool false] 24)) w.heap.size 39 [.bool false, .bool false, .bool true]) := HBa_2.out.below (below_new _ _)
  have HBb_l : Hid (Bl (w2.alloc (.cells #[.int .i64 0, .int .u32 0, .bool false, .bool false] 24)) (w.heap.size + 1) 39 [.bool false, .bool true, .bool false]) := HBb_2.out.below (below_new _ _)
  have HBl_0 : Hid (Bl (w2.alloc (.cells #[.int .i64 0, .int .u32 0, .bool false, .bool false] 24)) w2.heap.size 24 [.int .i64 0, .int .u32 0, .bool false, .bool false]) := Bl.new _ _ _
  clear HW2 HBa_2 HBb_2
  go_wp2_with (fail)
  go_at_call 14
  refine (HLb.out _).mono ?_
  rintro e w3 ⟨rfl, hb⟩
  clear c0 f0 l0 c1 f1 l1
  have HW3 : Hid (Below w.heap.size w w3) := Below.step HWal.out hb
  have HBa_3 : Hid (Bl w3 w.heap.size 39 [.bool false, .bool false, .bool true]) := HBa_l.out.below hb
  have HBb_3 : Hid (Bl w3 (w.heap.size + 1) 39 [.bool false, .bool true, .bool false]) := HBb_l.out.below hb
  have HBl_3 : Hid (Bl w3 w2.heap.size 24 [.int .i64 0, .int .u32 0, .bool false, .bool false]) := HBl_0.out.below hb
  clear hb HWal HBa_l HBb_l HBl_0
  have c0 := HBa_3.out.cell
  have f0 := HBa_3.out.frozen
  have l0 := HBa_3.out.lt
  have c1 := HBb_3.out.cell
  have f1 := HBb_3.out.frozen
  have l1 := HBb_3.out.lt
  have c2 := HBl_3.out.cell
  have f2 := HBl_3.out.frozen
  have l2 := HBl_3.out.lt
  have n0m : ¬ (w.heap.size = w3.heap.size) := by omega
  have n1m : ¬ ((w.heap.size + 1) = w3.heap.size) := by omega
  have n2m : ¬ (w2.heap.size = w3.heap.size) := by omega
  have HWam : Hid (Below w.heap.size w (w3.alloc (.cells #[.int .i64 0, .int .u32 0, .bool false, .bool false] 24))) := Below.alloc HW3.out HW3.out.size _
  have HBa_m : Hid (Bl (w3.alloc (.cells #[.int .i64 0, .int .u32 0, .bool false, .bool false] 24)) w.heap.size 39 [.bool false, .bool false, .bool true]) := HBa_3.out.below (below_new _ _)
  have HBb_m : Hid (Bl (w3.alloc (.cells #[.int .i64 0, .int .u32 0, .bool false, .bool false] 24)) (w.heap.size + 1) 39 [.bool false, .bool true, .bool false]) := HBb_3.out.below (below_new _ _)
  have HBl_m : Hid (Bl (w3.alloc (.cells #[.int .i64 0, .int .u32 0, .bool false, .bool false] 24)) w2.heap.size 24 [.int .i64 0, .int .u32 0, .bool false, .bool false]) := HBl_3.out.below (below_new _ _)
  have HBm_0 : Hid (Bl (w3.alloc (.cells #[.int .i64 0, .int .u32 0, .bool false, .bool false] 24)) w3.heap.size 24 [.int .i64 0, .int .u32 0, .bool false, .bool false]) := Bl.new _ _ _
  clear HW3 HBa_3 HBb_3 HBl_3
  go_wp2
  go_ret
  exact ⟨rfl, HWam.out⟩
set_option maxRecDepth 100000 in
set_option maxHeartbeats 2000000 in
theorem more_001_011 (w : World) (hT : TA w) : Calls Tryd.prog 6 #[.agg #[.bool false, .bool false, .bool true], .agg #[.bool false, .bool true, .bool true]] w fun e w' => e = .returned (.bool true) ∧ Below w.heap.size w w' := by
  have HLa : Hid (∀ w, Calls Tryd.prog 14 #[.agg #[.bool false, .bool false, .bool true]] w fun e w' => e = .returned (.tuple #[.agg #[.int .i64 0, .int .u32 0, .bool false, .bool false], .int .i64 71]) ∧ Below w.heap.size w w') := fun w => leaf_any false false true w
  have HLb : Hid (∀ w, Calls Tryd.prog 14 #[.agg #[.bool false, .bool true, .bool true]] w fun e w' => e = .returned (.tuple #[.agg #[.int .i64 0, .int .u32 0, .bool false, .bool false], .int .i64 71]) ∧ Below w.heap.size w w') := fun w => leaf_any false true true w
  have ea := eqZL
  have eb := eqZL
  have HT : Hid (TA w) := hT
  have HW0 : Hid (Below w.heap.size w w) := Below.refl _ _
  clear hT
  go_enter Tryd.func6, Tryd.ntmps6
  have HWaa : Hid (Below w.heap.size w (w.alloc (.cells #[.bool false, .bool false, .bool true] 39))) := Below.alloc HW0.out HW0.out.size _
  have HBa_0 : Hid (Bl (w.alloc (.cells #[.bool false, .bool false, .bool true] 39)) w.heap.size 39 [.bool false, .bool false, .bool true]) := Bl.new _ _ _
  clear HW0
  have HWb : Hid (Below w.heap.size w ((w.alloc (.cells #[.bool false, .bool false, .bool true] 39)).alloc (.cells #[.bool false, .bool true, .bool true] 39))) := Below.alloc HWaa.out HWaa.out.size _
  have HBa_b : Hid (Bl ((w.alloc (.cells #[.bool false, .bool false, .bool true] 39)).alloc (.cells #[.bool false, .bool true, .bool true] 39)) w.heap.size 39 [.bool false, .bool false, .bool true]) := HBa_0.out.below (below_new _ _)
  have hsz : (w.alloc (.cells #[.bool false, .bool false, .bool true] 39)).heap.size = w.heap.size + 1 := by simp
  have hbb := Bl.new (w.alloc (.cells #[.bool false, .bool false, .bool true] 39)) 39 [.bool false, .bool true, .bool true]
  rw [hsz] at hbb
  have HBb_0 : Hid (Bl ((w.alloc (.cells #[.bool false, .bool false, .bool true] 39)).alloc (.cells #[.bool false, .bool true, .bool true] 39)) (w.heap.size + 1) 39 [.bool false, .bool true, .bool true]) := hbb
  clear hbb hsz HWaa HBa_0
  go_wp2_with (fail)
  go_at_call 12
  refine (alive_any _ (HT.out.below HWb.out)).mono ?_
  rintro e w1 ⟨rfl, hb⟩
  have HW1 : Hid (Below w.heap.size w w1) := Below.step HWb.out hb
  have HBa_1 : Hid (Bl w1 w.heap.size 39 [.bool false, .bool false, .bool true]) := HBa_b.out.below hb
  have HBb_1 : Hid (Bl w1 (w.heap.size + 1) 39 [.bool false, .bool true, .bool true]) := HBb_0.out.below hb
  clear hb HWb HBa_b HBb_0
  have c0 := HBa_1.out.cell
  have f0 := HBa_1.out.frozen
  have l0 := HBa_1.out.lt
  have c1 := HBb_1.out.cell
  have f1 := HBb_1.out.frozen
  have l1 := HBb_1.out.lt
  go_wp2_with (fail)
  go_at_call 14
  refine (HLa.out _).mono ?_
  rintro e w2 ⟨rfl, hb⟩
  clear c0 f0 l0 c1 f1 l1
  have HW2 : Hid (Below w.heap.size w w2) := Below.step HW1.out hb
  have HBa_2 : Hid (Bl w2 w.heap.size 39 [.bool false, .bool false, .bool true]) := HBa_1.out.below hb
  have HBb_2 : Hid (Bl w2 (w.heap.size + 1) 39 [.bool false, .bool true, .bool true]) := HBb_1.out.below hb
  clear hb HW1 HBa_1 HBb_1
  have c0 := HBa_2.out.cell
  have f0 := HBa_2.out.frozen
  have l0 := HBa_2.out.lt
  have c1 := HBb_2.out.cell
  have f1 := HBb_2.out.frozen
  have l1 := HBb_2.out.lt
  have n0l : ¬ (w.heap.size = w2.heap.size) := by omega
  have n1l : ¬ ((w.heap.size + 1) = w2.heap.size) := by omega
  have HWal : Hid (Below w.heap.size w (w2.alloc (.cells #[.int .i64 0, .int .u32 0, .bool false, .bool false] 24))) := Below.alloc HW2.out HW2.out.size _
  have HBa_l : Hid (Bl (w2.alloc (.cells #[.int .i64 0, .int .u32 0, .bool false, .bool false] 24)) w.heap.size 39 [.bool false, .bool false, .bool true]) := HBa_2.out.below (below_new _ _)
  have HBb_l : Hid (Bl (w2.alloc (.cells #[.int .i64 0, .int .u32 0, .bool false, .bool false] 24)) (w.heap.size + 1) 39 [.bool false, .bool true, .bool true]) := HBb_2.out.below (below_new _ _)
  have HBl_0 : Hid (Bl (w2.alloc (.cells #[.int .i64 0, .int .u32 0, .bool false, .bool false] 24)) w2.heap.size 24 [.int .i64 0, .int .u32 0, .bool false, .bool false]) := Bl.new _ _ _
  clear HW2 HBa_2 HBb_2
  go_wp2_with (fail)
  go_at_call 14
  refine (HLb.out _).mono ?_
  rintro e w3 ⟨rfl, hb⟩
  clear c0 f0 l0 c1 f1 l1
  have HW3 : Hid (Below w.heap.size w w3) := Below.step HWal.out hb
  have HBa_3 : Hid (Bl w3 w.heap.size 39 [.bool false, .bool false, .bool true]) := HBa_l.out.below hb
  have HBb_3 : Hid (Bl w3 (w.heap.size + 1) 39 [.bool false, .bool true, .bool true]) := HBb_l.out.below hb
  have HBl_3 : Hid (Bl w3 w2.heap.size 24 [.int .i64 0, .int .u32 0, .bool false, .bool false]) := HBl_0.out.below hb
  clear hb HWal HBa_l HBb_l HBl_0
  have c0 := HBa_3.out.cell
  have f0 := HBa_3.out.frozen
  have l0 := HBa_3.out.lt
  have c1 := HBb_3.out.cell
  have f1 := HBb_3.out.frozen
  have l1 := HBb_3.out.lt
  have c2 := HBl_3.out.cell
  have f2 := HBl_3.out.frozen
  have l2 := HBl_3.out.lt
  have n0m : ¬ (w.heap.size = w3.heap.size) := by omega
  have n1m : ¬ ((w.heap.size + 1) = w3.heap.size) := by omega
  have n2m : ¬ (w2.heap.size = w3.heap.size) := by omega
  have HWam : Hid (Below w.heap.size w (w3.alloc (.cells #[.int .i64 0, .int .u32 0, .bool false, .bool false] 24))) := Below.alloc HW3.out HW3.out.size _
  have HBa_m : Hid (Bl (w3.alloc (.cells #[.int .i64 0, .int .u32 0, .bool false, .bool false] 24)) w.heap.size 39 [.bool false, .bool false, .bool true]) := HBa_3.out.below (below_new _ _)
  have HBb_m : Hid (Bl (w3.alloc (.cells #[.int .i64 0, .int .u32 0, .bool false, .bool false] 24)) (w.heap.size + 1) 39 [.bool false, .bool true, .bool true]) := HBb_3.out.below (below_new _ _)
  have HBl_m : Hid (Bl (w3.alloc (.cells #[.int .i64 0, .int .u32 0, .bool false, .bool false] 24)) w2.heap.size 24 [.int .i64 0, .int .u32 0, .bool false, .bool false]) := HBl_3.out.below (below_new _ _)
  have HBm_0 : Hid (Bl (w3.alloc (.cells #[.int .i64 0, .int .u32 0, .bool false, .bool false] 24)) w3.heap.size 24 [.int .i64 0, .int .u32 0, .bool false, .bool false]) := Bl.new _ _ _
  clear HW3 HBa_3 HBb_3 HBl_3
  go_wp2
  go_ret
  exact ⟨rfl, HWam.out⟩
set_option maxRecDepth 100000 in
set_option maxHeartbeats 2000000 in
theorem more_001_100 (w : World) (hT : TA w) : Calls Tryd.prog 6 #[.agg #[.bool false, .bool false, .bool true], .agg #[.bool true, .bool false, .bool false]] w fun e w' => e = .returned (.bool true) ∧ Below w.heap.size w w' := by
  have HLa : Hid (∀ w, Calls Tryd.prog 14 #[.agg #[.bool false, .bool false, .bool true]] w fun e w' => e = .returned (.tuple #[.agg #[.int .i64 0, .int .u32 0, .bool false, .bool false], .int .i64 71]) ∧ Below w.heap.size w w') := fun w => leaf_any false false true w
  have HLb : Hid (∀ w, Calls Tryd.prog 14 #[.agg #[.bool true, .bool false, .bool false]] w fun e w' => e = .returned (.tuple #[.agg #[.int .i64 2, .int .u32 14, .bool true, .bool true], .int .i64 0]) ∧ Below w.heap.size w w') := fun w => leaf_any true false false w
  have ea := eqZL
  have HT : Hid (TA w) := hT
  have HW0 : Hid (Below w.heap.size w w) := Below.refl _ _
  clear hT
  go_enter Tryd.func6, Tryd.ntmps6
  have HWaa : Hid (Below w.heap.size w (w.alloc (.cells #[.bool false, .bool false, .bool true] 39))) := Below.alloc HW0.out HW0.out.size _
  have HBa_0 : Hid (Bl (w.alloc (.cells #[.bool false, .bool false, .bool true] 39)) w.heap.size 39 [.bool false, .bool false, .bool true]) := Bl.new _ _ _
  clear HW0
  have HWb : Hid (Below w.heap.size w ((w.alloc (.cells #[.bool false, .bool false, .bool true] 39)).alloc (.cells #[.bool true, .bool false, .bool false] 39))) := Below.alloc HWaa.out HWaa.out.size _
  have HBa_b : Hid (Bl ((w.alloc (.cells #[.bool false, .bool false, .bool true] 39)).alloc (.cells #[.bool true, .bool false, .bool false] 39)) w.heap.size 39 [.bool false, .bool false, .bool true]) := HBa_0.out.below (below_new _ _)
  have hsz : (w.alloc (.cells #[.bool false, .bool false, .bool true] 39)).heap.size = w.heap.size + 1 := by simp
  have hbb := Bl.new (w.alloc (.cells #[.bool false, .bool false, .bool true] 39)) 39 [.bool true, .bool false, .bool false]
  rw [hsz] at hbb
  have HBb_0 : Hid (Bl ((w.alloc (.cells #[.bool false, .bool false, .bool true] 39)).alloc (.cells #[.bool true, .bool false, .bool false] 39)) (w.heap.size + 1) 39 [.bool true, .bool false, .bool false]) := hbb
  clear hbb hsz HWaa HBa_0
  go_wp2_with (fail)
  go_at_call 12
  refine (alive_any _ (HT.out.below HWb.out)).mono ?_
  rintro e w1 ⟨rfl, hb⟩
  have HW1 : Hid (Below w.heap.size w w1) := Below.step HWb.out hb
  have HBa_1 : Hid (Bl w1 w.heap.size 39 [.bool false, .bool false, .bool true]) := HBa_b.out.below hb
  have HBb_1 : Hid (Bl w1 (w.heap.size + 1) 39 [.bool true, .bool false, .bool false]) := HBb_0.out.below hb
  clear hb HWb HBa_b HBb_0
  have c0 := HBa_1.out.cell
  have f0 := HBa_1.out.frozen
  have l0 := HBa_1.out.lt
  have c1 := HBb_1.out.cell
  have f1 := HBb_1.out.frozen
  have l1 := HBb_1.out.lt
  go_wp2_with (fail)
  go_at_call 14
  refine (HLa.out _).mono ?_
  rintro e w2 ⟨rfl, hb⟩
  clear c0 f0 l0 c1 f1 l1
  have HW2 : Hid (Below w.heap.size w w2) := Below.step HW1.out hb
  have HBa_2 : Hid (Bl w2 w.heap.size 39 [.bool false, .bool false, .bool true]) := HBa_1.out.below hb
  have HBb_2 : Hid (Bl w2 (w.heap.size + 1) 39 [.bool true, .bool false, .bool false]) := HBb_1.out.below hb
  clear hb HW1 HBa_1 HBb_1
  have c0 := HBa_2.out.cell
  have f0 := HBa_2.out.frozen
  have l0 := HBa_2.out.lt
  have c1 := HBb_2.out.cell
  have f1 := HBb_2.out.frozen
  have l1 := HBb_2.out.lt
  have n0l : ¬ (w.heap.size = w2.heap.size) := by omega
  have n1l : ¬ ((w.heap.size + 1) = w2.heap.size) := by omega
  have HWal : Hid (Below w.heap.size w (w2.alloc (.cells #[.int .i64 0, .int .u32 0, .bool false, .bool false] 24))) := Below.alloc HW2.out HW2.out.size _
  have HBa_l : Hid (Bl (w2.alloc (.cells #[.int .i64 0, .int .u32 0, .bool false, .bool false] 24)) w.heap.size 39 [.bool false, .bool false, .bool true]) := HBa_2.out.below (below_new _ _)
  have HBb_l : Hid (Bl (w2.alloc (.cells #[.int .i64 0, .int .u32 0, .bool false, .bool false] 24)) (w.heap.size + 1) 39 [.bool true, .bool false, .bool false]) := HBb_2.out.below (below_new _ _)
  have HBl_0 : Hid (Bl (w2.alloc (.cells #[.int .i64 0, .int .u32 0, .bool false, .bool false] 24)) w2.heap.size 24 [.int .i64 0, .int .u32 0, .bool false, .bool false]) := Bl.new _ _ _
  clear HW2 HBa_2 HBb_2
  go_wp2_with (fail)
  go_at_call 14
  refine (HLb.out _).mono ?_
  rintro e w3 ⟨rfl, hb⟩
  clear c0 f0 l0 c1 f1 l1
  have HW3 : Hid (Below w.heap.size w w3) := Below.step HWal.out hb
  have HBa_3 : Hid (Bl w3 w.heap.size 39 [.bool false, .bool false, .bool true]) := HBa_l.out.below hb
  have HBb_3 : Hid (Bl w3 (w.heap.size + 1) 39 [.bool true, .bool false, .bool false]) := HBb_l.out.below hb
  have HBl_3 : Hid (Bl w3 w2.heap.size 24 [.int .i64 0, .int .u32 0, .bool false, .bool false]) := HBl_0.out.below hb
  clear hb HWal HBa_l HBb_l HBl_0
  have c0 := HBa_3.out.cell
  have f0 := HBa_3.out.frozen
  have l0 := HBa_3.out.lt
  have c1 := HBb_3.out.cell
  have f1 := HBb_3.out.frozen
  have l1 := HBb_3.out.lt
  have c2 := HBl_3.out.cell
  have f2 := HBl_3.out.frozen
  have l2 := HBl_3.out.lt
  have n0m : ¬ (w.heap.size = w3.heap.size) := by omega
  have n1m : ¬ ((w.heap.size + 1) = w3.heap.size) := by omega
  have n2m : ¬ (w2.heap.size = w3.heap.size) := by omega
  have HWam : Hid (Below w.heap.size w (w3.alloc (.cells #[.int .i64 2, .int .u32 14, .bool true, .bool true] 24))) := Below.alloc HW3.out HW3.out.size _
  have HBa_m : Hid (Bl (w3.alloc (.cells #[.int .i64 2, .int .u32 14, .bool true, .bool true] 24)) w.heap.size 39 [.bool false, .bool false, .bool true]) := HBa_3.out.below (below_new _ _)
  have HBb_m : Hid (Bl (w3.alloc (.cells #[.int .i64 2, .int .u32 14, .bool true, .bool true] 24)) (w.heap.size + 1) 39 [.bool true, .bool false, .bool false]) := HBb_3.out.below (below_new _ _)
  have HBl_m : Hid (Bl (w3.alloc (.cells #[.int .i64 2, .int .u32 14, .bool true, .bool true] 24)) w2.heap.size 24 [.int .i64 0, .int .u32 0, .bool false, .bool false]) := HBl_3.out.below (below_new _ _)
  have HBm_0 : Hid (Bl (w3.alloc (.cells #[.int .i64 2, .int .u32 14, .bool true, .bool true] 24)) w3.heap.size 24 [.int .i64 2, .int .u32 14, .bool true, .bool true]) := Bl.new _ _ _
  clear HW3 HBa_3 HBb_3 HBl_3
  go_wp2
  go_ret
  exact ⟨rfl, HWam.out⟩
set_option maxRecDepth 100000 in
set_option maxHeartbeats 2000000 in
theorem more_001_101 (w : World) (hT : TA w) : Calls Tryd.prog 6 #[.agg #[.bool false, .bool false, .bool true], .agg #[.bool true, .bool false, .bool true]] w fun e w' => e = .returned (.bool true) ∧ Below w.heap.size w w' := by
  have HLa : Hid (∀ w, Calls Tryd.prog 14 #[.agg #[.bool false, .bool false, .bool true]] w fun e w' => e = .returned (.tuple #[.agg #[.int .i64 0, .int .u32 0, .bool false, .bool false], .int .i64 71]) ∧ Below w.heap.size w w') := fun w => leaf_any false false true w
  have HLb : Hid (∀ w, Calls Tryd.prog 14 #[.agg #[.bool true, .bool false, .bool true]] w fun e w' => e = .returned (.tuple #[.agg #[.int .i64 2, .int .u32 14, .bool true, .bool false], .int .i64 0]) ∧ Below w.heap.size w w') := fun w => leaf_any true false true w
  have ea := eqZL
  have HT : Hid (TA w) := hT
  have HW0 : Hid (Below w.heap.size w w) := Below.refl _ _
  clear hT
  go_enter Tryd.func6, Tryd.ntmps6
  have HWaa : Hid (Below w.heap.size w (w.alloc (.cells #[.bool false, .bool false, .bool true] 39))) := Below.alloc HW0.out HW0.out.size _
  have HBa_0 : Hid (Bl (w.alloc (.cells #[.bool false, .bool false, .bool true] 39)) w.heap.size 39 [.bool false, .bool false, .bool true]) := Bl.new _ _ _
  clear HW0
  have HWb : Hid (Below w.heap.size w ((w.alloc (.cells #[.bool false, .bool false, .bool true] 39)).alloc (.cells #[.bool true, .bool false, .bool true] 39))) := Below.alloc HWaa.out HWaa.out.size _
  have HBa_b : Hid (Bl ((w.alloc (.cells #[.bool false, .bool false, .bool true] 39)).alloc (.cells #[.bool true, .bool false, .bool true] 39)) w.heap.size 39 [.bool false, .bool false, .bool true]) := HBa_0.out.below (below_new _ _)
  have hsz : (w.alloc (.cells #[.bool false, .bool false, .bool true] 39)).heap.size = w.heap.size + 1 := by simp
  have hbb := Bl.new (w.alloc (.cells #[.bool false, .bool false, .bool true] 39)) 39 [.bool true, .bool false, .bool true]
  rw [hsz] at hbb
  have HBb_0 : Hid (Bl ((w.alloc (.cells #[.bool false, .bool false, .bool true] 39)).alloc (.cells #[.bool true, .bool false, .bool true] 39)) (w.heap.size + 1) 39 [.bool true, .bool false, .bool true]) := hbb
  clear hbb hsz HWaa HBa_0
  go_wp2_with (fail)
  go_at_call 12
  refine (alive_any _ (HT.out.below HWb.out)).mono ?_
  rintro e w1 ⟨rfl, hb⟩
  have HW1 : Hid (Below w.heap.size w w1) := Below.step HWb.out hb
  have HBa_1 : Hid (Bl w1 w.heap.size 39 [.bool false, .bool false, .bool true]) := HBa_b.out.below hb
  have HBb_1 : Hid (Bl w1 (w.heap.size + 1) 39 [.bool true, .bool false, .bool true]) := HBb_0.out.below hb
  clear hb HWb HBa_b HBb_0
  have c0 := HBa_1.out.cell
  have f0 := HBa_1.out.frozen
  have l0 := HBa_1.out.lt
  have c1 := HBb_1.out.cell
  have f1 := HBb_1.out.frozen
  have l1 := HBb_1.out.lt
  go_wp2_with (fail)
  go_at_call 14
  refine (HLa.out _).mono ?_
  rintro e w2 ⟨rfl, hb⟩
  clear c0 f0 l0 c1 f1 l1
  have HW2 : Hid (Below w.heap.size w w2) := Below.step HW1.out hb
  have HBa_2 : Hid (Bl w2 w.heap.size 39 [.bool false, .bool false, .bool true]) := HBa_1.out.below hb
  have HBb_2 : Hid (Bl w2 (w.heap.size + 1) 39 [.bool true, .bool false, .bool true]) := HBb_1.out.below hb
  clear hb HW1 HBa_1 HBb_1
  have c0 := HBa_2.out.cell
  have f0 := HBa_2.out.frozen
  have l0 := HBa_2.out.lt
  have c1 := HBb_2.out.cell
  have f1 := HBb_2.out.frozen
  have l1 := HBb_2.out.lt
  have n0l : ¬ (w.heap.size = w2.heap.size) := by omega
  have n1l : ¬ ((w.heap.size + 1) = w2.heap.size) := by omega
  have HWal : Hid (Below w.heap.size w (w2.alloc (.cells #[.int .i64 0, .int .u32 0, .bool false, .bool false] 24))) := Below.alloc HW2.out HW2.out.size _
  have HBa_l : Hid (Bl (w2.alloc (.cells #[.int .i64 0, .int .u32 0, .bool false, .bool false] 24)) w.heap.size 39 [.bool false, .bool false, .bool true]) := HBa_2.out.below (below_new _ _)
  have HBb_l : Hid (Bl (w2.alloc (.cells #[.int .i64 0, .int .u32 0, .bool false, .bool false] 24)) (w.heap.size + 1) 39 [.bool true, .bool false, .bool true]) := HBb_2.out.below (below_new _ _)
  have HBl_0 : Hid (Bl (w2.alloc (.cells #[.int .i64 0, .int .u32 0, .bool false, .bool false] 24)) w2.heap.size 24 [.int .i64 0, .int .u32 0, .bool false, .bool false]) := Bl.new _ _ _
  clear HW2 HBa_2 HBb_2
  go_wp2_with (fail)
  go_at_call 14
  refine (HLb.out _).mono ?_
  rintro e w3 ⟨rfl, hb⟩
  clear c0 f0 l0 c1 f1 l1
  have HW3 : Hid (Below w.heap.size w w3) := Below.step HWal.out hb
  have HBa_3 : Hid (Bl w3 w.heap.size 39 [.bool false, .bool false, .bool true]) := HBa_l.out.below hb
  have HBb_3 : Hid (Bl w3 (w.heap.size + 1) 39 [.bool true, .bool false, .bool true]) := HBb_l.out.below hb
  have HBl_3 : Hid (Bl w3 w2.heap.size 24 [.int .i64 0, .int .u32 0, .bool false, .bool false]) := HBl_0.out.below hb
  clear hb HWal HBa_l HBb_l HBl_0
  have c0 := HBa_3.out.cell
  have f0 := HBa_3.out.frozen
  have l0 := HBa_3.out.lt
  have c1 := HBb_3.out.cell
  have f1 := HBb_3.out.frozen
  have l1 := HBb_3.out.lt
  have c2 := HBl_3.out.cell
  have f2 := HBl_3.out.frozen
  have l2 := HBl_3.out.lt
  have n0m : ¬ (w.heap.size = w3.heap.size) := by omega
  have n1m : ¬ ((w.heap.size + 1) = w3.heap.size) := by omega
  have n2m : ¬ (w2.heap.size = w3.heap.size) := by omega
  have HWam : Hid (Below w.heap.size w (w3.alloc (.cells #[.int .i64 2, .int .u32 14, .bool true, .bool false] 24))) := Below.alloc HW3.out HW3.out.size _
  have HBa_m : Hid (Bl (w3.alloc (.cells #[.int .i64 2, .int .u32 14, .bool true, .bool false] 24)) w.heap.size 39 [.bool false, .bool false, .bool true]) := HBa_3.out.below (below_new _ _)
  have HBb_m : Hid (Bl (w3.alloc (.cells #[.int .i64 2, .int .u32 14, .bool true, .bool false] 24)) (w.heap.size + 1) 39 [.bool true, .bool false, .bool true]) := HBb_3.out.below (below_new _ _)
  have HBl_m : Hid (Bl (w3.alloc (.cells #[.int .i64 2, .int .u32 14, .bool true, .bool false] 24)) w2.heap.size 24 [.int .i64 0, .int .u32 0, .bool false, .bool false]) := HBl_3.out.below (below_new _ _)
  have HBm_0 : Hid (Bl (w3.alloc (.cells #[.int .i64 2, .int .u32 14, .bool true, .bool false] 24)) w3.heap.size 24 [.int .i64 2, .int .u32 14, .bool true, .bool false]) := Bl.new _ _ _
  clear HW3 HBa_3 HBb_3 HBl_3
  go_wp2
  go_ret
  exact ⟨rfl, HWam.out⟩
set_option maxRecDepth 100000 in
set_option maxHeartbeats 2000000 in
theorem more_001_110 (w : World) (hT : TA w) : Calls Tryd.prog 6 #[.agg #[.bool false, .bool false, .bool true], .agg #[.bool true, .bool true, .bool false]] w fun e w' => e = .returned (.bool true) ∧ Below w.heap.size w w' := by
  have HLa : Hid (∀ w, Calls Tryd.prog 14 #[.agg #[.bool false, .bool false, .bool true]] w fun e w' => e = .returned (.tuple #[.agg #[.int .i64 0, .int .u32 0, .bool false, .bool false], .int .i64 71]) ∧ Below w.heap.size w w') := fun w => leaf_any false false true w
  have HLb : Hid (∀ w, Calls Tryd.prog 14 #[.agg #[.bool true, .bool true, .bool false]] w fun e w' => e = .returned (.tuple #[.agg #[.int .i64 3, .int .u32 14, .bool true, .bool true], .int .i64 0]) ∧ Below w.heap.size w w') := fun w => leaf_any true true false w
  have ea := eqZL
  have HT : Hid (TA w) := hT
  have HW0 : Hid (Below w.heap.size w w) := Below.refl _ _
  clear hT
  go_enter Tryd.func6, Tryd.ntmps6
  have HWaa : Hid (Below w.heap.size w (w.alloc (.cells #[.bool false, .bool false, .bool true] 39))) := Below.alloc HW0.out HW0.out.size _
  have HBa_0 : Hid (Bl (w.alloc (.cells #[.bool false, .bool false, .bool true] 39)) w.heap.size 39 [.bool false, .bool false, .bool true]) := Bl.new _ _ _
  clear HW0
  have HWb : Hid (Below w.heap.size w ((w.alloc (.cells #[.bool false, .bool false, .bool true] 39)).alloc (.cells #[.bool true, .bool true, .bool false] 39))) := Below.alloc HWaa.out HWaa.out.size _
  have HBa_b : Hid (Bl ((w.alloc (.cells #[.bool false, .bool false, .bool true] 39)).alloc (.cells #[.bool true, .bool true, .bool false] 39)) w.heap.size 39 [.bool false, .bool false, .bool true]) := HBa_0.out.below (below_new _ _)
  have hsz : (w.alloc (.cells #[.bool false, .bool false, .bool true] 39)).heap.size = w.heap.size + 1 := by simp
  have hbb := Bl.new (w.alloc (.cells #[.bool false, .bool false, .bool true] 39)) 39 [.bool true, .bool true, .bool false]
  rw [hsz] at hbb
  have HBb_0 : Hid (Bl ((w.alloc (.cells #[.bool false, .bool false, .bool true] 39)).alloc (.cells #[.bool true, .bool true, .bool false] 39)) (w.heap.size + 1) 39 [.bool true, .bool true, .bool false]) := hbb
  clear hbb hsz HWaa HBa_0
  go_wp2_with (fail)
  go_at_call 12
  refine (alive_any _ (HT.out.below HWb.out)).mono ?_
  rintro e w1 ⟨rfl, hb⟩
  have HW1 : Hid (Below w.heap.size w w1) := Below.step HWb.out hb
  have HBa_1 : Hid (Bl w1 w.heap.size 39 [.bool false, .bool false, .bool true]) := HBa_b.out.below hb
  have HBb_1 : Hid (Bl w1 (w.heap.size + 1) 39 [.bool true, .bool true, .bool false]) := HBb_0.out.below hb
  clear hb HWb HBa_b HBb_0
  have c0 := HBa_1.out.cell
  have f0 := HBa_1.out.frozen
  have l0 := HBa_1.out.lt
  have c1 := HBb_1.out.cell
  have f1 := HBb_1.out.frozen
  have l1 := HBb_1.out.lt
  go_wp2_with (fail)
  go_at_call 14
  refine (HLa.out _).mono ?_
  rintro e w2 ⟨rfl, hb⟩
  clear c0 f0 l0 c1 f1 l1
  have HW2 : Hid (Below w.heap.size w w2) := Below.step HW1.out hb
  have HBa_2 : Hid (Bl w2 w.heap.size 39 [.bool false, .bool false, .bool true]) := HBa_1.out.below hb
  have HBb_2 : Hid (Bl w2 (w.heap.size + 1) 39 [.bool true, .bool true, .bool false]) := HBb_1.out.below hb
  clear hb HW1 HBa_1 HBb_1
  have c0 := HBa_2.out.cell
  have f0 := HBa_2.out.frozen
  have l0 := HBa_2.out.lt
  have c1 := HBb_2.out.cell
  have f1 := HBb_2.out.frozen
  have l1 := HBb_2.out.lt
  have n0l : ¬ (w.heap.size = w2.heap.size) := by omega
  have n1l : ¬ ((w.heap.size + 1) = w2.heap.size) := by omega
  have HWal : Hid (Below w.heap.size w (w2.alloc (.cells #[.int .i64 0, .int .u32 0, .bool false, .bool false] 24))) := Below.alloc HW2.out HW2.out.size _
  have HBa_l : Hid (Bl (w2.alloc (.cells #[.int .i64 0, .int .u32 0, .bool false, .bool false] 24)) w.heap.size 39 [.bool false, .bool false, .bool true]) := HBa_2.out.below (below_new _ _)
  have HBb_l : Hid (Bl (w2.alloc (.cells #[.int .i64 0, .int .u32 0, .bool false, .bool false] 24)) (w.heap.size + 1) 39 [.bool true, .bool true, .bool false]) := HBb_2.out.below (below_new _ _)
  have HBl_0 : Hid (Bl (w2.alloc (.cells #[.int .i64 0, .int .u32 0, .bool false, .bool false] 24)) w2.heap.size 24 [.int .i64 0, .int .u32 0, .bool false, .bool false]) := Bl.new _ _ _
  clear HW2 HBa_2 HBb_2
  go_wp2_with (fail)
  go_at_call 14
  refine (HLb.out _).mono ?_
  rintro e w3 ⟨rfl, hb⟩
  clear c0 f0 l0 c1 f1 l1
  have HW3 : Hid (Below w.heap.size w w3) := Below.step HWal.out hb
  have HBa_3 : Hid (Bl w3 w.heap.size 39 [.bool false, .bool false, .bool true]) := HBa_l.out.below hb
  have HBb_3 : Hid (Bl w3 (w.heap.size + 1) 39 [.bool true, .bool true, .bool false]) := HBb_l.out.below hb
  have HBl_3 : Hid (Bl w3 w2.heap.size 24 [.int .i64 0, .int .u32 0, .bool false, .bool false]) := HBl_0.out.below hb
  clear hb HWal HBa_l HBb_l HBl_0
  have c0 := HBa_3.out.cell
  have f0 := HBa_3.out.frozen
  have l0 := HBa_3.out.lt
  have c1 := HBb_3.out.cell
  have f1 := HBb_3.out.frozen
  have l1 := HBb_3.out.lt
  have c2 := HBl_3.out.cell
  have f2 := HBl_3.out.frozen
  have l2 := HBl_3.out.lt
  have n0m : ¬ (w.heap.size = w3.heap.size) := by omega
  have n1m : ¬ ((w.heap.size + 1) = w3.heap.size) := by omega
  have n2m : ¬ (w2.heap.size = w3.heap.size) := by omega
  have HWam : Hid (Below w.heap.size w (w3.alloc (.cells #[.int .i64 3, .int .u32 14, .bool true, .bool true] 24))) := Below.alloc HW3.out HW3.out.size _
  have HBa_m : Hid (Bl (w3.alloc (.cells #[.int .i64 3, .int .u32 14, .bool true, .bool true] 24)) w.heap.size 39 [.bool false, .bool false, .bool true]) := HBa_3.out.below (below_new _ _)
  have HBb_m : Hid (Bl (w3.alloc (.cells #[.int .i64 3, .int .u32 14, .bool true, .bool true] 24)) (w.heap.size + 1) 39 [.bool true, .bool true, .bool false]) := HBb_3.out.below (below_new _ _)
  have HBl_m : Hid (Bl (w3.alloc (.cells #[.int .i64 3, .int .u32 14, .bool true, .bool true] 24)) w2.heap.size 24 [.int .i64 0, .int .u32 0, .bool false, .bool false]) := HBl_3.out.below (below_new _ _)
  have HBm_0 : Hid (Bl (w3.alloc (.cells #[.int .i64 3, .int .u32 14, .bool true, .bool true] 24)) w3.heap.size 24 [.int .i64 3, .int .u32 14, .bool true, .bool true]) := Bl.new _ _ _
  clear HW3 HBa_3 HBb_3 HBl_3
  go_wp2
  go_ret
  exact ⟨rfl, HWam.out⟩
set_option maxRecDepth 100000 in
set_option maxHeartbeats 2000000 in
theorem more_001_111 (w : World) (hT : TA w) : Calls Tryd.prog 6 #[.agg #[.bool false, .bool false, .bool true], .agg #[.bool true, .bool true, .bool true]] w fun e w' => e = .returned (.bool true) ∧ Below w.heap.size w w' := by
  have HLa : Hid (∀ w, Calls Tryd.prog 14 #[.agg #[.bool false, .bool false, .bool true]] w fun e w' => e = .returned (.tuple #[.agg #[.int .i64 0, .int .u32 0, .bool false, .bool false], .int .i64 71]) ∧ Below w.heap.size w w') := fun w => leaf_any false false true w
  have HLb : Hid (∀ w, Calls Tryd.prog 14 #[.agg #[.bool true, .bool true, .bool true]] w fun e w' => e = .returned (.tuple #[.agg #[.int .i64 3, .int .u32 14, .bool true, .bool false], .int .i64 0]) ∧ Below w.heap.size w w') := fun w => leaf_any true true true w
  have ea := eqZL
  have HT : Hid (TA w) := hT
  have HW0 : Hid (Below w.heap.size w w) := Below.refl _ _
  clear hT
  go_enter Tryd.func6, Tryd.ntmps6
  have HWaa : Hid (Below w.heap.size w (w.alloc (.cells #[.bool false, .bool false, .bool true] 39))) := Below.alloc HW0.out HW0.out.size _
  have HBa_0 : Hid (Bl (w.alloc (.cells #[.bool false, .bool false, .bool true] 39)) w.heap.size 39 [.bool false, .bool false, .bool true]) := Bl.new _ _ _
  clear HW0
  have HWb : Hid (Below w.heap.size w ((w.alloc (.cells #[.bool false, .bool false, .bool true] 39)).alloc (.cells #[.bool true, .bool true, .bool true] 39))) := Below.alloc HWaa.out HWaa.out.size _
  have HBa_b : Hid (Bl ((w.alloc (.cells #[.bool false, .bool false, .bool true] 39)).alloc (.cells #[.bool true, .bool true, .bool true] 39)) w.heap.size 39 [.bool false, .bool false, .bool true]) := HBa_0.out.below (below_new _ _)
  have hsz : (w.alloc (.cells #[.bool false, .bool false, .bool true] 39)).heap.size = w.heap.size + 1 := by simp
  have hbb := Bl.new (w.alloc (.cells #[.bool false, .bool false, .bool true] 39)) 39 [.bool true, .bool true, .bool true]
  rw [hsz] at hbb
  have HBb_0 : Hid (Bl ((w.alloc (.cells #[.bool false, .bool false, .bool true] 39)).alloc (.cells #[.bool true, .bool true, .bool true] 39)) (w.heap.size + 1) 39 [.bool true, .bool true, .bool true]) := hbb
  clear hbb hsz HWaa HBa_0
  go_wp2_with (fail)
  go_at_call 12
  refine (alive_any _ (HT.out.below HWb.out)).mono ?_
  rintro e w1 ⟨rfl, hb⟩
  have HW1 : Hid (Below w.heap.size w w1) := Below.step HWb.out hb
  have HBa_1 : Hid (Bl w1 w.heap.size 39 [.bool false, .bool false, .bool true]) := HBa_b.out.below hb
  have HBb_1 : Hid (Bl w1 (w.heap.size + 1) 39 [.bool true, .bool true, .bool true]) := HBb_0.out.below hb
  clear hb HWb HBa_b HBb_0
  have c0 := HBa_1.out.cell
  have f0 := HBa_1.out.frozen
  have l0 := HBa_1.out.lt
  have c1 := HBb_1.out.cell
  have f1 := HBb_1.out.frozen
  have l1 := HBb_1.out.lt
  go_wp2_with (fail)
  go_at_call 14
  refine (HLa.out _).mono ?_
  rintro e w2 ⟨rfl, hb⟩
  clear c0 f0 l0 c1 f1 l1
  have HW2 : Hid (Below w.heap.size w w2) := Below.step HW1.out hb
  have HBa_2 : Hid (Bl w2 w.heap.size 39 [.bool false, .bool false, .bool true]) := HBa_1.out.below hb
  have HBb_2 : Hid (Bl w2 (w.heap.size + 1) 39 [.bool true, .bool true, .bool true]) := HBb_1.out.below hb
  clear hb HW1 HBa_1 HBb_1
  have c0 := HBa_2.out.cell
  have f0 := HBa_2.out.frozen
  have l0 := HBa_2.out.lt
  have c1 := HBb_2.out.cell
  have f1 := HBb_2.out.frozen
  have l1 := HBb_2.out.lt
  have n0l : ¬ (w.heap.size = w2.heap.size) := by omega
  have n1l : ¬ ((w.heap.size + 1) = w2.heap.size) := by omega
  have HWal : Hid (Below w.heap.size w (w2.alloc (.cells #[.int .i64 0, .int .u32 0, .bool false, .bool false] 24))) := Below.alloc HW2.out HW2.out.size _
  have HBa_l : Hid (Bl (w2.alloc (.cells #[.int .i64 0, .int .u32 0, .bool false, .bool false] 24)) w.heap.size 39 [.bool false, .bool false, .bool true]) := HBa_2.out.below (below_new _ _)
  have HBb_l : Hid (Bl (w2.alloc (.cells #[.int .i64 0, .int .u32 0, .bool false, .bool false] 24)) (w.heap.size + 1) 39 [.bool true, .bool true, .bool true]) := HBb_2.out.below (below_new _ _)
  have HBl_0 : Hid (Bl (w2.alloc (.cells #[.int .i64 0, .int .u32 0, .bool false, .bool false] 24)) w2.heap.size 24 [.int .i64 0, .int .u32 0, .bool false, .bool false]) := Bl.new _ _ _
  clear HW2 HBa_2 HBb_2
  go_wp2_with (fail)
  go_at_call 14
  refine (HLb.out _).mono ?_
  rintro e w3 ⟨rfl, hb⟩
  clear c0 f0 l0 c1 f1 l1
  have HW3 : Hid (Below w.heap.size w w3) := Below.step HWal.out hb
  have HBa_3 : Hid (Bl w3 w.heap.size 39 [.bool false, .bool false, .bool true]) := HBa_l.out.below hb
  have HBb_3 : Hid (Bl w3 (w.heap.size + 1) 39 [.bool true, .bool true, .bool true]) := HBb_l.out.below hb
  have HBl_3 : Hid (Bl w3 w2.heap.size 24 [.int .i64 0, .int .u32 0, .bool false, .bool false]) := HBl_0.out.below hb
  clear hb HWal HBa_l HBb_l HBl_0
  have c0 := HBa_3.out.cell
  have f0 := HBa_3.out.frozen
  have l0 := HBa_3.out.lt
  have c1 := HBb_3.out.cell
  have f1 := HBb_3.out.frozen
  have l1 := HBb_3.out.lt
  have c2 := HBl_3.out.cell
  have f2 := HBl_3.out.frozen
  have l2 := HBl_3.out.lt
  have n0m : ¬ (w.heap.size = w3.heap.size) := by omega
  have n1m : ¬ ((w.heap.size + 1) = w3.heap.size) := by omega
  have n2m : ¬ (w2.heap.size = w3.heap.size) := by omega
  have HWam : Hid (Below w.heap.size w (w3.alloc (.cells #[.int .i64 3, .int .u32 14, .bool true, .bool false] 24))) := Below.alloc HW3.out HW3.out.size _
  have HBa_m : Hid (Bl (w3.alloc (.cells #[.int .i64 3, .int .u32 14, .bool true, .bool false] 24)) w.heap.size 39 [.bool false, .bool false, .bool true]) := HBa_3.out.below (below_new _ _)
  have HBb_m : Hid (Bl (w3.alloc (.cells #[.int .i64 3, .int .u32 14, .bool true, .bool false] 24)) (w.heap.size + 1) 39 [.bool true, .bool true, .bool true]) := HBb_3.out.below (below_new _ _)
  have HBl_m : Hid (Bl (w3.alloc (.cells #[.int .i64 3, .int .u32 14, .bool true, .bool false] 24)) w2.heap.size 24 [.int .i64 0, .int .u32 0, .bool false, .bool false]) := HBl_3.out.below (below_new _ _)
  have HBm_0 : Hid (Bl (w3.alloc (.cells #[.int .i64 3, .int .u32 14, .bool true, .bool false] 24)) w3.heap.size 24 [.int .i64 3, .int .u32 14, .bool true, .bool false]) := Bl.new _ _ _
  clear HW3 HBa_3 HBb_3 HBl_3
  go_wp2
  go_ret
  exact ⟨rfl, HWam.out⟩
end Go.Proofs.YtmmocnejacflmaaDoor
