import Derived.Test.YtmmocnejacflmaaDoorMb
namespace Go.Proofs.YtmmocnejacflmaaDoor
open Go.RowKit
set_option linter.unusedVariables false
set_option linter.unusedSimpArgs false
set_option maxRecDepth 100000 in
set_option maxHeartbeats 2000000 in
theorem more_111_000 (w : World) (hT : TA w) : Calls Tryd.prog 6 #[.agg #[.bool true, .bool true, .bool true], .agg #[.bool false, .bool false, .bool false]] w fun e w' => e = .returned (.bool true) ∧ Below w.heap.size w w' := by
  have HLa : Hid (∀ w, Calls Tryd.prog 14 #[.agg #[.bool true, .bool true, .bool true]] w fun e w' => e = .returned (.tuple #[.agg #[.int .i64 3, .int .u32 14, .bool true, .bool false], .int .i64 0]) ∧ Below w.heap.size w w') := fun w => leaf_any true true true w
  have HLb : Hid (∀ w, Calls Tryd.prog 14 #[.agg #[.bool false, .bool false, .bool false]] w fun e w' => e = .returned (.tuple #[.agg #[.int .i64 1, .int .u32 14, .bool true, .bool true], .int .i64 0]) ∧ Below w.heap.size w w') := fun w => leaf_any false false false w
  have HA1 : Hid (∀ w, TP w → Calls Tryd.prog 8 #[.agg #[.int .i64 3, .int .u32 14, .bool true, .bool false], .bool false, .bool false, .int .i64 1] w fun e w' => e = .returned (.bool true) ∧ Below w.heap.size w w') := fun w hw => allows_any 3 14 true false false false 1 w hw
  have HA2 : Hid (∀ w, TP w → Calls Tryd.prog 8 #[.agg #[.int .i64 3, .int .u32 14, .bool true, .bool false], .bool false, .bool false, .int .i64 2] w fun e w' => e = .returned (.bool true) ∧ Below w.heap.size w w') := fun w hw => allows_any 3 14 true false false false 2 w hw
  have HA3 : Hid (∀ w, TP w → Calls Tryd.prog 8 #[.agg #[.int .i64 3, .int .u32 14, .bool true, .bool false], .bool false, .bool false, .int .i64 3] w fun e w' => e = .returned (.bool true) ∧ Below w.heap.size w w') := fun w hw => allows_any 3 14 true false false false 3 w hw
  have HB1 : Hid (∀ w, TP w → Calls Tryd.prog 8 #[.agg #[.int .i64 1, .int .u32 14, .bool true, .bool true], .bool false, .bool false, .int .i64 1] w fun e w' => e = .returned (.bool false) ∧ Below w.heap.size w w') := fun w hw => allows_any 1 14 true true false false 1 w hw
  have HB2 : Hid (∀ w, TP w → Calls Tryd.prog 8 #[.agg #[.int .i64 1, .int .u32 14, .bool true, .bool true], .bool false, .bool false, .int .i64 2] w fun e w' => e = .returned (.bool false) ∧ Below w.heap.size w w') := fun w hw => allows_any 1 14 true true false false 2 w hw
  have HB3 : Hid (∀ w, TP w → Calls Tryd.prog 8 #[.agg #[.int .i64 1, .int .u32 14, .bool true, .bool true], .bool false, .bool false, .int .i64 3] w fun e w' => e = .returned (.bool false) ∧ Below w.heap.size w w') := fun w hw => allows_any 1 14 true true false false 3 w hw
  have HP2 : Hid (∀ w, TP w → Calls Tryd.prog 8 #[.agg #[.int .i64 3, .int .u32 14, .bool true, .bool false], .bool false, .bool true, .int .i64 2] w fun e w' => e = .returned (.bool true) ∧ Below w.heap.size w w') := fun w hw => allows_any 3 14 true false false true 2 w hw
  have HP3 : Hid (∀ w, TP w → Calls Tryd.prog 8 #[.agg #[.int .i64 3, .int .u32 14, .bool true, .bool false], .bool false, .bool true, .int .i64 3] w fun e w' => e = .returned (.bool true) ∧ Below w.heap.size w w') := fun w hw => allows_any 3 14 true false false true 3 w hw
  have HT : Hid (TA w) := hT
  have HW0 : Hid (Below w.heap.size w w) := Below.refl _ _
  clear hT
  go_enter Tryd.func6, Tryd.ntmps6
  have HWaa : Hid (Below w.heap.size w (w.alloc (.cells #[.bool true, .bool true, .bool true] 39))) := Below.alloc HW0.out HW0.out.size _
  have HBa_0 : Hid (Bl (w.alloc (.cells #[.bool true, .bool true, .bool true] 39)) w.heap.size 39 [.bool true, .bool true, .bool true]) := Bl.new _ _ _
  clear HW0
  have HWb : Hid (Below w.heap.size w ((w.alloc (.cells #[.bool true, .bool true, .bool true] 39)).alloc (.cells #[.bool false, .bool false, .bool false] 39))) := Below.alloc HWaa.out HWaa.out.size _
  have HBa_b : Hid (Bl ((w.alloc (.cells #[.bool true, .bool true, .bool true] 39)).alloc (.cells #[.bool false, .bool false, .bool false] 39)) w.heap.size 39 [.bool true, .bool true, .bool true]) := HBa_0.out.below (below_new _ _)
  have hsz : (w.alloc (.cells #[.bool true, .bool true, .bool true] 39)).heap.size = w.heap.size + 1 := by simp
  have hbb := Bl.new (w.alloc (.cells #[.bool true, .bool true, .bool true] 39)) 39 [.bool false, .bool false, .bool false]
  rw [hsz] at hbb
  have HBb_0 : Hid (Bl ((w.alloc (.cells #[.bool true, .bool true, .bool true] 39)).alloc (.cells #[.bool false, .bool false, .bool false] 39)) (w.heap.size + 1) 39 [.bool false, .bool false, .bool false]) := hbb
  clear hbb hsz HWaa HBa_0
  go_wp2_with (fail)
  go_at_call 12
  refine (alive_any _ (HT.out.below HWb.out)).mono ?_
  rintro e w1 ⟨rfl, hb⟩
  have HW1 : Hid (Below w.heap.size w w1) := Below.step HWb.out hb
  have HBa_1 : Hid (Bl w1 w.heap.size 39 [.bool true, .bool true, .bool true]) := HBa_b.out.below hb
  have HBb_1 : Hid (Bl w1 (w.heap.size + 1) 39 [.bool false, .bool false, .bool false]) := HBb_0.out.below hb
  clear hb HWb HBa_b HBb_0
  have c0 := HBa_1.out.cell
  have f0 := HBa_1.out.frozen
  have l0 := HBa_1.out.lt
  have c1 := HBb_1.out.cell
  have f1 := HBb_1.out.frozen
  have l1 := HBb_1.out.lt
  go_wp2_with (fail)
  go_at_call 14
  refine (HLa.out _).mono ?_
  rintro e w2 ⟨rfl, hb⟩
  clear c0 f0 l0 c1 f1 l1
  have HW2 : Hid (Below w.heap.size w w2) := Below.step HW1.out hb
  have HBa_2 : Hid (Bl w2 w.heap.size 39 [.bool true, .bool true, .bool true]) := HBa_1.out.below hb
  have HBb_2 : Hid (Bl w2 (w.heap.size + 1) 39 [.bool false, .bool false, .bool false]) := HBb_1.out.below hb
  clear hb HW1 HBa_1 HBb_1
  have c0 := HBa_2.out.cell
  have f0 := HBa_2.out.frozen
  have l0 := HBa_2.out.lt
  have c1 := HBb_2.out.cell
  have f1 := HBb_2.out.frozen
  have l1 := HBb_2.out.lt
  have n0l : ¬ (w.heap.size = w2.heap.size) := by omega
  have n1l : ¬ ((w.heap.size + 1) = w2.heap.size) := by omega
  have HWal : Hid (Below w.heap.size w (w2.alloc (.cells #[.int .i64 3, .int .u32 14, .bool true, .bool false] 24))) := Below.alloc HW2.out HW2.out.size _
  have HBa_l : Hid (Bl (w2.alloc (.cells #[.int .i64 3, .int .u32 14, .bool true, .bool false] 24)) w.heap.size 39 [.bool true, .bool true, .bool true]) := HBa_2.out.below (below_new _ _)
  have HBb_l : Hid (Bl (w2.alloc (.cells #[.int .i64 3, .int .u32 14, .bool true, .bool false] 24)) (w.heap.size + 1) 39 [.bool false, .bool false, .bool false]) := HBb_2.out.below (below_new _ _)
  have HBl_0 : Hid (Bl (w2.alloc (.cells #[.int .i64 3, .int .u32 14, .bool true, .bool false] 24)) w2.heap.size 24 [.int .i64 3, .int .u32 14, .bool true, .bool false]) := Bl.new _ _ _
  clear HW2 HBa_2 HBb_2
  go_wp2_with (fail)
  go_at_call 14
  refine (HLb.out _).mono ?_
  rintro e w3 ⟨rfl, hb⟩
  clear c0 f0 l0 c1 f1 l1
  have HW3 : Hid (Below w.heap.size w w3) := Below.step HWal.out hb
  have HBa_3 : Hid (Bl w3 w.heap.size 39 [.bool true, .bool true, .bool true]) := HBa_l.out.below hb
  have HBb_3 : Hid (Bl w3 (w.heap.size + 1) 39 [.bool false, .bool false, .bool false]) := HBb_l.out.below hb
  have HBl_3 : Hid (Bl w3 w2.heap.size 24 [.int .i64 3, .int .u32 14, .bool true, .bool false]) := HBl_0.out.below hb
  clear hb HWal HBa_l HBb_l HBl_0
  have c0 := HBa_3.out.cell
  have f0 := HBa_3.out.frozen
  have l0 := HBa_3.out.lt
  have c1 := HBb_3.out.cell
  have f1 := HBb_3.out.frozen
  have l1 := HBb_3.out.lt
  have c2 := HBl_3.out.cell
  have f2 := HBl_3.out.frozen
  have l2 := HBl_3.out.lt
  have n0m : ¬ (w.heap.size = w3.heap.size) := by omega
  have n1m : ¬ ((w.heap.size + 1) = w3.heap.size) := by omega
  have n2m : ¬ (w2.heap.size = w3.heap.size) := by omega
  have HWam : Hid (Below w.heap.size w (w3.alloc (.cells #[.int .i64 1, .int .u32 14, .bool true, .bool true] 24))) := Below.alloc HW3.out HW3.out.size _
  have HBa_m : Hid (Bl (w3.alloc (.cells #[.int .i64 1, .int .u32 14, .bool true, .bool true] 24)) w.heap.size 39 [.bool true, .bool true, .bool true]) := HBa_3.out.below (below_new _ _)
  have HBb_m : Hid (Bl (w3.alloc (.cells #[.int .i64 1, .int .u32 14, .bool true, .bool true] 24)) (w.heap.size + 1) 39 [.bool false, .bool false, .bool false]) := HBb_3.out.below (below_new _ _)
  have HBl_m : Hid (Bl (w3.alloc (.cells #[.int .i64 1, .int .u32 14, .bool true, .bool true] 24)) w2.heap.size 24 [.int .i64 3, .int .u32 14, .bool true, .bool false]) := HBl_3.out.below (below_new _ _)
  have HBm_0 : Hid (Bl (w3.alloc (.cells #[.int .i64 1, .int .u32 14, .bool true, .bool true] 24)) w3.heap.size 24 [.int .i64 1, .int .u32 14, .bool true, .bool true]) := Bl.new _ _ _
  clear HW3 HBa_3 HBb_3 HBl_3
  have hsz : (w3.alloc (.cells #[.int .i64 1, .int .u32 14, .bool true, .bool true] 24)).heap.size = w3.heap.size + 1 := by simp
  have hbv := Bl.new (w3.alloc (.cells #[.int .i64 1, .int .u32 14, .bool true, .bool true] 24)) 42 [.bool false, .bool true, .bool true, .bool true]
  rw [hsz] at hbv
  have HX0 : Hid (MX w ((w3.alloc (.cells #[.int .i64 1, .int .u32 14, .bool true, .bool true] 24)).alloc (.cells #[.bool false, .bool true, .bool true, .bool true] 42)) w2.heap.size w3.heap.size (w3.heap.size + 1) [.int .i64 3, .int .u32 14, .bool true, .bool false] [.int .i64 1, .int .u32 14, .bool true, .bool true] [.bool false, .bool true, .bool true, .bool true]) := ⟨Below.alloc HWam.out HWam.out.size _, HBl_m.out.below (below_new _ _), HBm_0.out.below (below_new _ _), hbv⟩
  clear hsz hbv
  go_wp2
  generalize w2.heap.size = b1 at *
  generalize w3.heap.size = b2 at *
  clear HWam HBa_m HBb_m HBl_m HBm_0 c0 f0 l0 c1 f1 l1 c2 f2 l2
  go_loopw [11] (fun i wr => ∃ (k : Nat), 1 ≤ k ∧ k ≤ 4 ∧ i = .int .i64 k ∧ MX w wr b1 b2 (b2 + 1) [.int .i64 3, .int .u32 14, .bool true, .bool false] [.int .i64 1, .int .u32 14, .bool true, .bool true] [.bool false, .bool true, .bool true, .bool true]) (fun i _ => 4 - (intOf i).toNat)
  case atStart => exact ⟨1, by omega, by omega, rfl, HX0.out⟩
  case round =>
    obtain ⟨k, hk1, hk, rfl, hX⟩ := hrel
    have HX1 := hidM hX
    clear hX HX0
    rcases (show k = 1 ∨ k = 2 ∨ k = 3 ∨ k = 4 by omega) with rfl | rfl | rfl | rfl
    · clear hk1 hk
      have c0 := HX1.out.l.cell
      have c1 := HX1.out.m.cell
      have c2 := HX1.out.v.cell
      go_wp2_with (fail)
      go_at_call 8
      refine (HA1.out _ (HT.out.below HX1.out.bel).p).mono ?_
      rintro e w8 ⟨rfl, hb⟩
      have HX2 := hidM (HX1.out.step hb)
      clear hb HX1 c0 c1 c2
      have c0 := HX2.out.l.cell
      have c1 := HX2.out.m.cell
      have c2 := HX2.out.v.cell
      go_wp2_with (fail)
      go_at_call 8
      refine (HB1.out _ (HT.out.below HX2.out.bel).p).mono ?_
      rintro e w9 ⟨rfl, hb⟩
      have HX3 := hidM (HX2.out.step hb)
      clear hb HX2 c0 c1 c2
      have c0 := HX3.out.l.cell
      have c1 := HX3.out.m.cell
      have c2 := HX3.out.v.cell
      go_wp2
      go_roundw
      case rel => exact ⟨2, by omega, by omega, rfl, HX3.out⟩
      case measure => simp [intOf]
    · clear hk1 hk
      have c0 := HX1.out.l.cell
      have c1 := HX1.out.m.cell
      have c2 := HX1.out.v.cell
      go_wp2_with (fail)
      go_at_call 8
      refine (HA2.out _ (HT.out.below HX1.out.bel).p).mono ?_
      rintro e w8 ⟨rfl, hb⟩
      have HX2 := hidM (HX1.out.step hb)
      clear hb HX1 c0 c1 c2
      have c0 := HX2.out.l.cell
      have c1 := HX2.out.m.cell
      have c2 := HX2.out.v.cell
      go_wp2_with (fail)
      go_at_call 8
      refine (HB2.out _ (HT.out.below HX2.out.bel).p).mono ?_
      rintro e w9 ⟨rfl, hb⟩
      have HX3 := hidM (HX2.out.step hb)
      clear hb HX2 c0 c1 c2
      have c0 := HX3.out.l.cell
      have c1 := HX3.out.m.cell
      have c2 := HX3.out.v.cell
      go_wp2
      go_roundw
      case rel => exact ⟨3, by omega, by omega, rfl, HX3.out⟩
      case measure => simp [intOf]
    · clear hk1 hk
      have c0 := HX1.out.l.cell
      have c1 := HX1.out.m.cell
      have c2 := HX1.out.v.cell
      go_wp2_with (fail)
      go_at_call 8
      refine (HA3.out _ (HT.out.below HX1.out.bel).p).mono ?_
      rintro e w8 ⟨rfl, hb⟩
      have HX2 := hidM (HX1.out.step hb)
      clear hb HX1 c0 c1 c2
      have c0 := HX2.out.l.cell
      have c1 := HX2.out.m.cell
      have c2 := HX2.out.v.cell
      go_wp2_with (fail)
      go_at_call 8
      refine (HB3.out _ (HT.out.below HX2.out.bel).p).mono ?_
      rintro e w9 ⟨rfl, hb⟩
      have HX3 := hidM (HX2.out.step hb)
      clear hb HX2 c0 c1 c2
      have c0 := HX3.out.l.cell
      have c1 := HX3.out.m.cell
      have c2 := HX3.out.v.cell
      go_wp2
      go_roundw
      case rel => exact ⟨4, by omega, by omega, rfl, HX3.out⟩
      case measure => simp [intOf]
    · clear hk1 hk
      have c0 := HX1.out.l.cell
      have c1 := HX1.out.m.cell
      have c2 := HX1.out.v.cell
      go_wp2_with (fail)
      go_at_call 8
      refine (HP2.out _ (HT.out.below HX1.out.bel).p).mono ?_
      rintro e w8 ⟨rfl, hb⟩
      have HX2 := hidM (HX1.out.step hb)
      clear hb HX1 c0 c1 c2
      have c0 := HX2.out.l.cell
      have c1 := HX2.out.m.cell
      have c2 := HX2.out.v.cell
      go_wp2_with (fail)
      go_at_call 8
      refine (HP3.out _ (HT.out.below HX2.out.bel).p).mono ?_
      rintro e w9 ⟨rfl, hb⟩
      have HX3 := hidM (HX2.out.step hb)
      clear hb HX2 c0 c1 c2
      go_wp2
      go_ret
      exact ⟨rfl, HX3.out.bel⟩
set_option maxRecDepth 100000 in
set_option maxHeartbeats 2000000 in
theorem more_111_001 (w : World) (hT : TA w) : Calls Tryd.prog 6 #[.agg #[.bool true, .bool true, .bool true], .agg #[.bool false, .bool false, .bool true]] w fun e w' => e = .returned (.bool true) ∧ Below w.heap.size w w' := by
  have HLa : Hid (∀ w, Calls Tryd.prog 14 #[.agg #[.bool true, .bool true, .bool true]] w fun e w' => e = .returned (.tuple #[.agg #[.int .i64 3, .int .u32 14, .bool true, .bool false], .int .i64 0]) ∧ Below w.heap.size w w') := fun w => leaf_any true true true w
  have HLb : Hid (∀ w, Calls Tryd.prog 14 #[.agg #[.bool false, .bool false, .bool true]] w fun e w' => e = .returned (.tuple #[.agg #[.int .i64 0, .int .u32 0, .bool false, .bool false], .int .i64 71]) ∧ Below w.heap.size w w') := fun w => leaf_any false false true w
  have eb := eqZL
  have HT : Hid (TA w) := hT
  have HW0 : Hid (Below w.heap.size w w) := Below.refl _ _
  clear hT
  go_enter Tryd.func6, Tryd.ntmps6
  have HWaa : Hid (Below w.heap.size w (w.alloc (.cells #[.bool true, .bool true, .bool true] 39))) := Below.alloc HW0.out HW0.out.size _
  have HBa_0 : Hid (Bl (w.alloc (.cells #[.bool true, .bool true, .bool true] 39)) w.heap.size 39 [.bool true, .bool true, .bool true]) := Bl.new _ _ _
  clear HW0
  have HWb : Hid (Below w.heap.size w ((w.alloc (.cells #[.bool true, .bool true, .bool true] 39)).alloc (.cells #[.bool false, .bool false, .bool true] 39))) := Below.alloc HWaa.out HWaa.out.size _
  have HBa_b : Hid (Bl ((w.alloc (.cells #[.bool true, .bool true, .bool true] 39)).alloc (.cells #[.bool false, .bool false, .bool true] 39)) w.heap.size 39 [.bool true, .bool true, .bool true]) := HBa_0.out.below (below_new _ _)
  have hsz : (w.alloc (.cells #[.bool true, .bool true, .bool true] 39)).heap.size = w.heap.size + 1 := by simp
  have hbb := Bl.new (w.alloc (.cells #[.bool true, .bool true, .bool true] 39)) 39 [.bool false, .bool false, .bool true]
  rw [hsz] at hbb
  have HBb_0 : Hid (Bl ((w.alloc (.cells #[.bool true, .bool true, .bool true] 39)).alloc (.cells #[.bool false, .bool false, .bool true] 39)) (w.heap.size + 1) 39 [.bool false, .bool false, .bool true]) := hbb
  clear hbb hsz HWaa HBa_0
  go_wp2_with (fail)
  go_at_call 12
  refine (alive_any _ (HT.out.below HWb.out)).mono ?_
  rintro e w1 ⟨rfl, hb⟩
  have HW1 : Hid (Below w.heap.size w w1) := Below.step HWb.out hb
  have HBa_1 : Hid (Bl w1 w.heap.size 39 [.bool true, .bool true, .bool true]) := HBa_b.out.below hb
  have HBb_1 : Hid (Bl w1 (w.heap.size + 1) 39 [.bool false, .bool false, .bool true]) := HBb_0.out.below hb
  clear hb HWb HBa_b HBb_0
  have c0 := HBa_1.out.cell
  have f0 := HBa_1.out.frozen
  have l0 := HBa_1.out.lt
  have c1 := HBb_1.out.cell
  have f1 := HBb_1.out.frozen
  have l1 := HBb_1.out.lt
  go_wp2_with (fail)
  go_at_call 14
  refine (HLa.out _).mono ?_
  rintro e w2 ⟨rfl, hb⟩
  clear c0 f0 l0 c1 f1 l1
  have HW2 : Hid (Below w.heap.size w w2) := Below.step HW1.out hb
  have HBa_2 : Hid (Bl w2 w.heap.size 39 [.bool true, .bool true, .bool true]) := HBa_1.out.below hb
  have HBb_2 : Hid (Bl w2 (w.heap.size + 1) 39 [.bool false, .bool false, .bool true]) := HBb_1.out.below hb
  clear hb HW1 HBa_1 HBb_1
  have c0 := HBa_2.out.cell
  have f0 := HBa_2.out.frozen
  have l0 := HBa_2.out.lt
  have c1 := HBb_2.out.cell
  have f1 := HBb_2.out.frozen
  have l1 := HBb_2.out.lt
  have n0l : ¬ (w.heap.size = w2.heap.size) := by omega
  have n1l : ¬ ((w.heap.size + 1) = w2.heap.size) := by omega
  have HWal : Hid (Below w.heap.size w (w2.alloc (.cells #[.int .i64 3, .int .u32 14, .bool true, .bool false] 24))) := Below.alloc HW2.out HW2.out.size _
  have HBa_l : Hid (Bl (w2.alloc (.cells #[.int .i64 3, .int .u32 14, .bool true, .bool false] 24)) w.heap.size 39 [.bool true, .bool true, .bool true]) := HBa_2.out.below (below_new _ _)
  have HBb_l : Hid (Bl (w2.alloc (.cells #[.int .i64 3, .int .u32 14, .bool true, .bool false] 24)) (w.heap.size + 1) 39 [.bool false, .bool false, .bool true]) := HBb_2.out.below (below_new _ _)
  have HBl_0 : Hid (Bl (w2.alloc (.cells #[.int .i64 3, .int .u32 14, .bool true, .bool false] 24)) w2.heap.size 24 [.int .i64 3, .int .u32 14, .bool true, .bool false]) := Bl.new _ _ _
  clear HW2 HBa_2 HBb_2
  go_wp2_with (fail)
  go_at_call 14
  refine (HLb.out _).mono ?_
  rintro e w3 ⟨rfl, hb⟩
  clear c0 f0 l0 c1 f1 l1
  have HW3 : Hid (Below w.heap.size w w3) := Below.step HWal.out hb
  have HBa_3 : Hid (Bl w3 w.heap.size 39 [.bool true, .bool true, .bool true]) := HBa_l.out.below hb
  have HBb_3 : Hid (Bl w3 (w.heap.size + 1) 39 [.bool false, .bool false, .bool true]) := HBb_l.out.below hb
  have HBl_3 : Hid (Bl w3 w2.heap.size 24 [.int .i64 3, .int .u32 14, .bool true, .bool false]) := HBl_0.out.below hb
  clear hb HWal HBa_l HBb_l HBl_0
  have c0 := HBa_3.out.cell
  have f0 := HBa_3.out.frozen
  have l0 := HBa_3.out.lt
  have c1 := HBb_3.out.cell
  have f1 := HBb_3.out.frozen
  have l1 := HBb_3.out.lt
  have c2 := HBl_3.out.cell
  have f2 := HBl_3.out.frozen
  have l2 := HBl_3.out.lt
  have n0m : ¬ (w.heap.size = w3.heap.size) := by omega
  have n1m : ¬ ((w.heap.size + 1) = w3.heap.size) := by omega
  have n2m : ¬ (w2.heap.size = w3.heap.size) := by omega
  have HWam : Hid (Below w.heap.size w (w3.alloc (.cells #[.int .i64 0, .int .u32 0, .bool false, .bool false] 24))) := Below.alloc HW3.out HW3.out.size _
  have HBa_m : Hid (Bl (w3.alloc (.cells #[.int .i64 0, .int .u32 0, .bool false, .bool false] 24)) w.heap.size 39 [.bool true, .bool true, .bool true]) := HBa_3.out.below (below_new _ _)
  have HBb_m : Hid (Bl (w3.alloc (.cells #[.int .i64 0, .int .u32 0, .bool false, .bool false] 24)) (w.heap.size + 1) 39 [.bool false, .bool false, .bool true]) := HBb_3.out.below (below_new _ _)
  have HBl_m : Hid (Bl (w3.alloc (.cells #[.int .i64 0, .int .u32 0, .bool false, .bool false] 24)) w2.heap.size 24 [.int .i64 3, .int .u32 14, .bool true, .bool false]) := HBl_3.out.below (below_new _ _)
  have HBm_0 : Hid (Bl (w3.alloc (.cells #[.int .i64 0, .int .u32 0, .bool false, .bool false] 24)) w3.heap.size 24 [.int .i64 0, .int .u32 0, .bool false, .bool false]) := Bl.new _ _ _
  clear HW3 HBa_3 HBb_3 HBl_3
  go_wp2
  go_ret
  exact ⟨rfl, HWam.out⟩
set_option maxRecDepth 100000 in
set_option maxHeartbeats 2000000 in
theorem more_111_010 (w : World) (hT : TA w) : Calls Tryd.prog 6 #[.agg #[.bool true, .bool true, .bool true], .agg #[.bool false, .bool true, .bool false]] w fun e w' => e = .returned (.bool true) ∧ Below w.heap.size w w' := by
  have HLa : Hid (∀ w, Calls Tryd.prog 14 #[.agg #[.bool true, .bool true, .bool true]] w fun e w' => e = .returned (.tuple #[.agg #[.int .i64 3, .int .u32 14, .bool true, .bool false], .int .i64 0]) ∧ Below w.heap.size w w') := fun w => leaf_any true true true w
  have HLb : Hid (∀ w, Calls Tryd.prog 14 #[.agg #[.bool false, .bool true, .bool false]] w fun e w' => e = .returned (.tuple #[.agg #[.int .i64 0, .int .u32 0, .bool false, .bool false], .int .i64 71]) ∧ Below w.heap.size w w') := fun w => leaf_any false true false w
  have eb := eqZL
  have HT : Hid (TA w) := hT
  have HW0 : Hid (Below w.heap.size w w) := Below.refl _ _
  clear hT
  go_enter Tryd.func6, Tryd.ntmps6
  have HWaa : Hid (Below w.heap.size w (w.alloc (.cells #[.bool true, .bool true, .bool true] 39))) := Below.alloc HW0.out HW0.out.size _
  have HBa_0 : Hid (Bl (w.alloc (.cells #[.bool true, .bool true, .bool true] 39)) w.heap.size 39 [.bool true, .bool true, .bool true]) := Bl.new _ _ _
  clear HW0
  have HWb : Hid (Below w.heap.size w ((w.alloc (.cells #[.bool true, .bool true, .bool true] 39)).alloc (.cells #[.bool false, .bool true, .bool false] 39))) := Below.alloc HWaa.out HWaa.out.size _
  have HBa_b : Hid (Bl ((w.alloc (.cells #[.bool true, .bool true, .bool true] 39)).alloc (.cells #[.bool false, .bool true, .bool false] 39)) w.heap.size 39 [.bool true, .bool true, .bool true]) := HBa_0.out.below (below_new _ _)
  have hsz : (w.alloc (.cells #[.bool true, .bool true, .bool true] 39)).heap.size = w.heap.size + 1 := by simp
  have hbb := Bl.new (w.alloc (.cells #[.bool true, .bool true, .bool true] 39)) 39 [.bool false, .bool true, .bool false]
  rw [hsz] at hbb
  have HBb_0 : Hid (Bl ((w.alloc (.cells #[.bool true, .bool true, .bool true] 39)).alloc (.cells #[.bool false, .bool true, .bool false] 39)) (w.heap.size + 1) 39 [.bool false, .bool true, .bool false]) := hbb
  clear hbb hsz HWaa HBa_0
  go_wp2_with (fail)
  go_at_call 12
  refine (alive_any _ (HT.out.below HWb.out)).mono ?_
  rintro e w1 ⟨rfl, hb⟩
  have HW1 : Hid (Below w.heap.size w w1) := Below.step HWb.out hb
  have HBa_1 : Hid (Bl w1 w.heap.size 39 [.bool true, .bool true, .bool true]) := HBa_b.out.below hb
  have HBb_1 : Hid (Bl w1 (w.heap.size + 1) 39 [.bool false, .bool true, .bool false]) := HBb_0.out.below hb
  clear hb HWb HBa_b HBb_0
  have c0 := HBa_1.out.cell
  have f0 := HBa_1.out.frozen
  have l0 := HBa_1.out.lt
  have c1 := HBb_1.out.cell
  have f1 := HBb_1.out.frozen
  have l1 := HBb_1.out.lt
  go_wp2_with (fail)
  go_at_call 14
  refine (HLa.out _).mono ?_
  rintro e w2 ⟨rfl, hb⟩
  clear c0 f0 l0 c1 f1 l1
  have HW2 : Hid (Below w.heap.size w w2) := Below.step HW1.out hb
  have HBa_2 : Hid (Bl w2 w.heap.size 39 [.bool true, .bool true, .bool true]) := HBa_1.out.below hb
  have HBb_2 : Hid (Bl w2 (w.heap.size + 1) 39 [.bool false, .bool true, .bool false]) := HBb_1.out.below hb
  clear hb HW1 HBa_1 HBb_1
  have c0 := HBa_2.out.cell
  have f0 := HBa_2.out.frozen
  have l0 := HBa_2.out.lt
  have c1 := HBb_2.out.cell
  have f1 := HBb_2.out.frozen
  have l1 := HBb_2.out.lt
  have n0l : ¬ (w.heap.size = w2.heap.size) := by omega
  have n1l : ¬ ((w.heap.size + 1) = w2.heap.size) := by omega
  have HWal : Hid (Below w.heap.size w (w2.alloc (.cells #[.int .i64 3, .int .u32 14, .bool true, .bool false] 24))) := Below.alloc HW2.out HW2.out.size _
  have HBa_l : Hid (Bl (w2.alloc (.cells #[.int .i64 3, .int .u32 14, .bool true, .bool false] 24)) w.heap.size 39 [.bool true, .bool true, .bool true]) := HBa_2.out.below (below_new _ _)
  have HBb_l : Hid (Bl (w2.alloc (.cells #[.int .i64 3, .int .u32 14, .bool true, .bool false] 24)) (w.heap.size + 1) 39 [.bool false, .bool true, .bool false]) := HBb_2.out.below (below_new _ _)
  have HBl_0 : Hid (Bl (w2.alloc (.cells #[.int .i64 3, .int .u32 14, .bool true, .bool false] 24)) w2.heap.size 24 [.int .i64 3, .int .u32 14, .bool true, .bool false]) := Bl.new _ _ _
  clear HW2 HBa_2 HBb_2
  go_wp2_with (fail)
  go_at_call 14
  refine (HLb.out _).mono ?_
  rintro e w3 ⟨rfl, hb⟩
  clear c0 f0 l0 c1 f1 l1
  have HW3 : Hid (Below w.heap.size w w3) := Below.step HWal.out hb
  have HBa_3 : Hid (Bl w3 w.heap.size 39 [.bool true, .bool true, .bool true]) := HBa_l.out.below hb
  have HBb_3 : Hid (Bl w3 (w.heap.size + 1) 39 [.bool false, .bool true, .bool false]) := HBb_l.out.below hb
  have HBl_3 : Hid (Bl w3 w2.heap.size 24 [.int .i64 3, .int .u32 14, .bool true, .bool false]) := HBl_0.out.below hb
  clear hb HWal HBa_l HBb_l HBl_0
  have c0 := HBa_3.out.cell
  have f0 := HBa_3.out.frozen
  have l0 := HBa_3.out.lt
  have c1 := HBb_3.out.cell
  have f1 := HBb_3.out.frozen
  have l1 := HBb_3.out.lt
  have c2 := HBl_3.out.cell
  have f2 := HBl_3.out.frozen
  have l2 := HBl_3.out.lt
  have n0m : ¬ (w.heap.size = w3.heap.size) := by omega
  have n1m : ¬ ((w.heap.size + 1) = w3.heap.size) := by omega
  have n2m : ¬ (w2.heap.size = w3.heap.size) := by omega
  have HWam : Hid (Below w.heap.size w (w3.alloc (.cells #[.int .i64 0, .int .u32 0, .bool false, .bool false] 24))) := Below.alloc HW3.out HW3.out.size _
  have HBa_m : Hid (Bl (w3.alloc (.cells #[.int .i64 0, .int .u32 0, .bool false, .bool false] 24)) w.heap.size 39 [.bool true, .bool true, .bool true]) := HBa_3.out.below (below_new _ _)
  have HBb_m : Hid (Bl (w3.alloc (.cells #[.int .i64 0, .int .u32 0, .bool false, .bool false] 24)) (w.heap.size + 1) 39 [.bool false, .bool true, .bool false]) := HBb_3.out.below (below_new _ _)
  have HBl_m : Hid (Bl (w3.alloc (.cells #[.int .i64 0, .int .u32 0, .bool false, .bool false] 24)) w2.heap.size 24 [.int .i64 3, .int .u32 14, .bool true, .bool false]) := HBl_3.out.below (below_new _ _)
  have HBm_0 : Hid (Bl (w3.alloc (.cells #[.int .i64 0, .int .u32 0, .bool false, .bool false] 24)) w3.heap.size 24 [.int .i64 0, .int .u32 0, .bool false, .bool false]) := Bl.new _ _ _
  clear HW3 HBa_3 HBb_3 HBl_3
  go_wp2
  go_ret
  exact ⟨rfl, HWam.out⟩
set_option maxRecDepth 100000 in
set_option maxHeartbeats 2000000 in
theorem more_111_011 (w : World) (hT : TA w) : Calls Tryd.prog 6 #[.agg #[.bool true, .bool true, .bool true], .agg #[.bool false, .bool true, .bool true]] w fun e w' => e = .returned (.bool true) ∧ Below w.heap.size w w' := by
  have HLa : Hid (∀ w, Calls Tryd.prog 14 #[.agg #[.bool true, .bool true, .bool true]] w fun e w' => e = .returned (.tuple #[.agg #[.int .i64 3, .int .u32 14, .bool true, .bool false], .int .i64 0]) ∧ Below w.heap.size w w') := fun w => leaf_any true true true w
  have HLb : Hid (∀ w, Calls Tryd.prog 14 #[.agg #[.bool false, .bool true, .bool true]] w fun e w' => e = .returned (.tuple #[.agg #[.int .i64 0, .int .u32 0, .bool false, .bool false], .int .i64 71]) ∧ Below w.heap.size w w') := fun w => leaf_any false true true w
  have eb := eqZL
  have HT : Hid (TA w) := hT
  have HW0 : Hid (Below w.heap.size w w) := Below.refl _ _
  clear hT
  go_enter Tryd.func6, Tryd.ntmps6
  have HWaa : Hid (Below w.heap.size w (w.alloc (.cells #[.bool true, .bool true, .bool true] 39))) := Below.alloc HW0.out HW0.out.size _
  have HBa_0 : Hid (Bl (w.alloc (.cells #[.bool true, .bool true, .bool true] 39)) w.heap.size 39 [.bool true, .bool true, .bool true]) := Bl.new _ _ _
  clear HW0
  have HWb : Hid (Below w.heap.size w ((w.alloc (.cells #[.bool true, .bool true, .bool true] 39)).alloc (.cells #[.bool false, .bool true, .bool true] 39))) := Below.alloc HWaa.out HWaa.out.size _
  have HBa_b : Hid (Bl ((w.alloc (.cells #[.bool true, .bool true, .bool true] 39)).alloc (.cells #[.bool false, .bool true, .bool true] 39)) w.heap.size 39 [.bool true, .bool true, .bool true]) := HBa_0.out.below (below_new _ _)
  have hsz : (w.alloc (.cells #[.bool true, .bool true, .bool true] 39)).heap.size = w.heap.size + 1 := by simp
  have hbb := Bl.new (w.alloc (.cells #[.bool true, .bool true, .bool true] 39)) 39 [.bool false, .bool true, .bool true]
  rw [hsz] at hbb
  have HBb_0 : Hid (Bl ((w.alloc (.cells #[.bool true, .bool true, .bool true] 39)).alloc (.cells #[.bool false, .bool true, .bool true] 39)) (w.heap.size + 1) 39 [.bool false, .bool true, .bool true]) := hbb
  clear hbb hsz HWaa HBa_0
  go_wp2_with (fail)
  go_at_call 12
  refine (alive_any _ (HT.out.below HWb.out)).mono ?_
  rintro e w1 ⟨rfl, hb⟩
  have HW1 : Hid (Below w.heap.size w w1) := Below.step HWb.out hb
  have HBa_1 : Hid (Bl w1 w.heap.size 39 [.bool true, .bool true, .bool true]) := HBa_b.out.below hb
  have HBb_1 : Hid (Bl w1 (w.heap.size + 1) 39 [.bool false, .bool true, .bool true]) := HBb_0.out.below hb
  clear hb HWb HBa_b HBb_0
  have c0 := HBa_1.out.cell
  have f0 := HBa_1.out.frozen
  have l0 := HBa_1.out.lt
  have c1 := HBb_1.out.cell
  have f1 := HBb_1.out.frozen
  have l1 := HBb_1.out.lt
  go_wp2_with (fail)
  go_at_call 14
  refine (HLa.out _).mono ?_
  rintro e w2 ⟨rfl, hb⟩
  clear c0 f0 l0 c1 f1 l1
  have HW2 : Hid (Below w.heap.size w w2) := Below.step HW1.out hb
  have HBa_2 : Hid (Bl w2 w.heap.size 39 [.bool true, .bool true, .bool true]) := HBa_1.out.below hb
  have HBb_2 : Hid (Bl w2 (w.heap.size + 1) 39 [.bool false, .bool true, .bool true]) := HBb_1.out.below hb
  clear hb HW1 HBa_1 HBb_1
  have c0 := HBa_2.out.cell
  have f0 := HBa_2.out.frozen
  have l0 := HBa_2.out.lt
  have c1 := HBb_2.out.cell
  have f1 := HBb_2.out.frozen
  have l1 := HBb_2.out.lt
  have n0l : ¬ (w.heap.size = w2.heap.size) := by omega
  have n1l : ¬ ((w.heap.size + 1) = w2.heap.size) := by omega
  have HWal : Hid (Below w.heap.size w (w2.alloc (.cells #[.int .i64 3, .int .u32 14, .bool true, .bool false] 24))) := Below.alloc HW2.out HW2.out.size _
  have HBa_l : Hid (Bl (w2.alloc (.cells #[.int .i64 3, .int .u32 14, .bool true, .bool false] 24)) w.heap.size 39 [.bool true, .bool true, .bool true]) := HBa_2.out.below (below_new _ _)
  have HBb_l : Hid (Bl (w2.alloc (.cells #[.int .i64 3, .int .u32 14, .bool true, .bool false] 24)) (w.heap.size + 1) 39 [.bool false, .bool true, .bool true]) := HBb_2.out.below (below_new _ _)
  have HBl_0 : Hid (Bl (w2.alloc (.cells #[.int .i64 3, .int .u32 14, .bool true, .bool false] 24)) w2.heap.size 24 [.int .i64 3, .int .u32 14, .bool true, .bool false]) := Bl.new _ _ _
  clear HW2 HBa_2 HBb_2
  go_wp2_with (fail)
  go_at_call 14
  refine (HLb.out _).mono ?_
  rintro e w3 ⟨rfl, hb⟩
  clear c0 f0 l0 c1 f1 l1
  have HW3 : Hid (Below w.heap.size w w3) := Below.step HWal.out hb
  have HBa_3 : Hid (Bl w3 w.heap.size 39 [.bool true, .bool true, .bool true]) := HBa_l.out.below hb
  have HBb_3 : Hid (Bl w3 (w.heap.size + 1) 39 [.bool false, .bool true, .bool true]) := HBb_l.out.below hb
  have HBl_3 : Hid (Bl w3 w2.heap.size 24 [.int .i64 3, .int .u32 14, .bool true, .bool false]) := HBl_0.out.below hb
  clear hb HWal HBa_l HBb_l HBl_0
  have c0 := HBa_3.out.cell
  have f0 := HBa_3.out.frozen
  have l0 := HBa_3.out.lt
  have c1 := HBb_3.out.cell
  have f1 := HBb_3.out.frozen
  have l1 := HBb_3.out.lt
  have c2 := HBl_3.out.cell
  have f2 := HBl_3.out.frozen
  have l2 := HBl_3.out.lt
  have n0m : ¬ (w.heap.size = w3.heap.size) := by omega
  have n1m : ¬ ((w.heap.size + 1) = w3.heap.size) := by omega
  have n2m : ¬ (w2.heap.size = w3.heap.size) := by omega
  have HWam : Hid (Below w.heap.size w (w3.alloc (.cells #[.int .i64 0, .int .u32 0, .bool false, .bool false] 24))) := Below.alloc HW3.out HW3.out.size _
  have HBa_m : Hid (Bl (w3.alloc (.cells #[.int .i64 0, .int .u32 0, .bool false, .bool false] 24)) w.heap.size 39 [.bool true, .bool true, .bool true]) := HBa_3.out.below (below_new _ _)
  have HBb_m : Hid (Bl (w3.alloc (.cells #[.int .i64 0, .int .u32 0, .bool false, .bool false] 24)) (w.heap.size + 1) 39 [.bool false, .bool true, .bool true]) := HBb_3.out.below (below_new _ _)
  have HBl_m : Hid (Bl (w3.alloc (.cells #[.int .i64 0, .int .u32 0, .bool false, .bool false] 24)) w2.heap.size 24 [.int .i64 3, .int .u32 14, .bool true, .bool false]) := HBl_3.out.below (below_new _ _)
  have HBm_0 : Hid (Bl (w3.alloc (.cells #[.int .i64 0, .int .u32 0, .bool false, .bool false] 24)) w3.heap.size 24 [.int .i64 0, .int .u32 0, .bool false, .bool false]) := Bl.new _ _ _
  clear HW3 HBa_3 HBb_3 HBl_3
  go_wp2
  go_ret
  exact ⟨rfl, HWam.out⟩
set_option maxRecDepth 100000 in
set_option maxHeartbeats 2000000 in
theorem more_111_100 (w : World) (hT : TA w) : Calls Tryd.prog 6 #[.agg #[.bool true, .bool true, .bool true], .agg #[.bool true, .bool false, .bool false]] w fun e w' => e = .returned (.bool true) ∧ Below w.heap.size w w' := by
  have HLa : Hid (∀ w, Calls Tryd.prog 14 #[.agg #[.bool true, .bool true, .bool true]] w fun e w' => e = .returned (.tuple #[.agg #[.int .i64 3, .int .u32 14, .bool true, .bool false], .int .i64 0]) ∧ Below w.heap.size w w') := fun w => leaf_any true true true w
  have HLb : Hid (∀ w, Calls Tryd.prog 14 #[.agg #[.bool true, .bool false, .bool false]] w fun e w' => e = .returned (.tuple #[.agg #[.int .i64 2, .int .u32 14, .bool true, .bool true], .int .i64 0]) ∧ Below w.heap.size w w') := fun w => leaf_any true false false w
  have HA1 : Hid (∀ w, TP w → Calls Tryd.prog 8 #[.agg #[.int .i64 3, .int .u32 14, .bool true, .bool false], .bool false, .bool false, .int .i64 1] w fun e w' => e = .returned (.bool true) ∧ Below w.heap.size w w') := fun w hw => allows_any 3 14 true false false false 1 w hw
  have HA2 : Hid (∀ w, TP w → Calls Tryd.prog 8 #[.agg #[.int .i64 3, .int .u32 14, .bool true, .bool false], .bool false, .bool false, .int .i64 2] w fun e w' => e = .returned (.bool true) ∧ Below w.heap.size w w') := fun w hw => allows_any 3 14 true false false false 2 w hw
  have HA3 : Hid (∀ w, TP w → Calls Tryd.prog 8 #[.agg #[.int .i64 3, .int .u32 14, .bool true, .bool false], .bool false, .bool false, .int .i64 3] w fun e w' => e = .returned (.bool true) ∧ Below w.heap.size w w') := fun w hw => allows_any 3 14 true false false false 3 w hw
  have HB1 : Hid (∀ w, TP w → Calls Tryd.prog 8 #[.agg #[.int .i64 2, .int .u32 14, .bool true, .bool true], .bool false, .bool false, .int .i64 1] w fun e w' => e = .returned (.bool false) ∧ Below w.heap.size w w') := fun w hw => allows_any 2 14 true true false false 1 w hw
  have HB2 : Hid (∀ w, TP w → Calls Tryd.prog 8 #[.agg #[.int .i64 2, .int .u32 14, .bool true, .bool true], .bool false, .bool false, .int .i64 2] w fun e w' => e = .returned (.bool true) ∧ Below w.heap.size w w') := fun w hw => allows_any 2 14 true true false false 2 w hw
  have HB3 : Hid (∀ w, TP w → Calls Tryd.prog 8 #[.agg #[.int .i64 2, .int .u32 14, .bool true, .bool true], .bool false, .bool false, .int .i64 3] w fun e w' => e = .returned (.bool false) ∧ Below w.heap.size w w') := fun w hw => allows_any 2 14 true true false false 3 w hw
  have HP2 : Hid (∀ w, TP w → Calls Tryd.prog 8 #[.agg #[.int .i64 3, .int .u32 14, .bool true, .bool false], .bool false, .bool true, .int .i64 2] w fun e w' => e = .returned (.bool true) ∧ Below w.heap.size w w') := fun w hw => allows_any 3 14 true false false true 2 w hw
  have HP3 : Hid (∀ w, TP w → Calls Tryd.prog 8 #[.agg #[.int .i64 3, .int .u32 14, .bool true, .bool false], .bool false, .bool true, .int .i64 3] w fun e w' => e = .returned (.bool true) ∧ Below w.heap.size w w') := fun w hw => allows_any 3 14 true false false true 3 w hw
  have HT : Hid (TA w) := hT
  have HW0 : Hid (Below w.heap.size w w) := Below.refl _ _
  clear hT
  go_enter Tryd.func6, Tryd.ntmps6
  have HWaa : Hid (Below w.heap.size w (w.alloc (.cells #[.bool true, .bool true, .bool true] 39))) := Below.alloc HW0.out HW0.out.size _
  have HBa_0 : Hid (Bl (w.alloc (.cells #[.bool true, .bool true, .bool true] 39)) w.heap.size 39 [.bool true, .bool true, .bool true]) := Bl.new _ _ _
  clear HW0
  have HWb : Hid (Below w.heap.size w ((w.alloc (.cells #[.bool true, .bool true, .bool true] 39)).alloc (.cells #[.bool true, .bool false, .bool false] 39))) := Below.alloc HWaa.out HWaa.out.size _
  have HBa_b : Hid (Bl ((w.alloc (.cells #[.bool true, .bool true, .bool true] 39)).alloc (.cells #[.bool true, .bool false, .bool false] 39)) w.heap.size 39 [.bool true, .bool true, .bool true]) := HBa_0.out.below (below_new _ _)
  have hsz : (w.alloc (.cells #[.bool true, .bool true, .bool true] 39)).heap.size = w.heap.size + 1 := by simp
  have hbb := Bl.new (w.alloc (.cells #[.bool true, .bool true, .bool true] 39)) 39 [.bool true, .bool false, .bool false]
  rw [hsz] at hbb
  have HBb_0 : Hid (Bl ((w.alloc (.cells #[.bool true, .bool true, .bool true] 39)).alloc (.cells #[.bool true, .bool false, .bool false] 39)) (w.heap.size + 1) 39 [.bool true, .bool false, .bool false]) := hbb
  clear hbb hsz HWaa HBa_0
  go_wp2_with (fail)
  go_at_call 12
  refine (alive_any _ (HT.out.below HWb.out)).mono ?_
  rintro e w1 ⟨rfl, hb⟩
  have HW1 : Hid (Below w.heap.size w w1) := Below.step HWb.out hb
  have HBa_1 : Hid (Bl w1 w.heap.size 39 [.bool true, .bool true, .bool true]) := HBa_b.out.below hb
  have HBb_1 : Hid (Bl w1 (w.heap.size + 1) 39 [.bool true, .bool false, .bool false]) := HBb_0.out.below hb
  clear hb HWb HBa_b HBb_0
  have c0 := HBa_1.out.cell
  have f0 := HBa_1.out.frozen
  have l0 := HBa_1.out.lt
  have c1 := HBb_1.out.cell
  have f1 := HBb_1.out.frozen
  have l1 := HBb_1.out.lt
  go_wp2_with (fail)
  go_at_call 14
  refine (HLa.out _).mono ?_
  rintro e w2 ⟨rfl, hb⟩
  clear c0 f0 l0 c1 f1 l1
  have HW2 : Hid (Below w.heap.size w w2) := Below.step HW1.out hb
  have HBa_2 : Hid (Bl w2 w.heap.size 39 [.bool true, .bool true, .bool true]) := HBa_1.out.below hb
  have HBb_2 : Hid (Bl w2 (w.heap.size + 1) 39 [.bool true, .bool false, .bool false]) := HBb_1.out.below hb
  clear hb HW1 HBa_1 HBb_1
  have c0 := HBa_2.out.cell
  have f0 := HBa_2.out.frozen
  have l0 := HBa_2.out.lt
  have c1 := HBb_2.out.cell
  have f1 := HBb_2.out.frozen
  have l1 := HBb_2.out.lt
  have n0l : ¬ (w.heap.size = w2.heap.size) := by omega
  have n1l : ¬ ((w.heap.size + 1) = w2.heap.size) := by omega
  have HWal : Hid (Below w.heap.size w (w2.alloc (.cells #[.int .i64 3, .int .u32 14, .bool true, .bool false] 24))) := Below.alloc HW2.out HW2.out.size _
  have HBa_l : Hid (Bl (w2.alloc (.cells #[.int .i64 3, .int .u32 14, .bool true, .bool false] 24)) w.heap.size 39 [.bool true, .bool true, .bool true]) := HBa_2.out.below (below_new _ _)
  have HBb_l : Hid (Bl (w2.alloc (.cells #[.int .i64 3, .int .u32 14, .bool true, .bool false] 24)) (w.heap.size + 1) 39 [.bool true, .bool false, .bool false]) := HBb_2.out.below (below_new _ _)
  have HBl_0 : Hid (Bl (w2.alloc (.cells #[.int .i64 3, .int .u32 14, .bool true, .bool false] 24)) w2.heap.size 24 [.int .i64 3, .int .u32 14, .bool true, .bool false]) := Bl.new _ _ _
  clear HW2 HBa_2 HBb_2
  go_wp2_with (fail)
  go_at_call 14
  refine (HLb.out _).mono ?_
  rintro e w3 ⟨rfl, hb⟩
  clear c0 f0 l0 c1 f1 l1
  have HW3 : Hid (Below w.heap.size w w3) := Below.step HWal.out hb
  have HBa_3 : Hid (Bl w3 w.heap.size 39 [.bool true, .bool true, .bool true]) := HBa_l.out.below hb
  have HBb_3 : Hid (Bl w3 (w.heap.size + 1) 39 [.bool true, .bool false, .bool false]) := HBb_l.out.below hb
  have HBl_3 : Hid (Bl w3 w2.heap.size 24 [.int .i64 3, .int .u32 14, .bool true, .bool false]) := HBl_0.out.below hb
  clear hb HWal HBa_l HBb_l HBl_0
  have c0 := HBa_3.out.cell
  have f0 := HBa_3.out.frozen
  have l0 := HBa_3.out.lt
  have c1 := HBb_3.out.cell
  have f1 := HBb_3.out.frozen
  have l1 := HBb_3.out.lt
  have c2 := HBl_3.out.cell
  have f2 := HBl_3.out.frozen
  have l2 := HBl_3.out.lt
  have n0m : ¬ (w.heap.size = w3.heap.size) := by omega
  have n1m : ¬ ((w.heap.size + 1) = w3.heap.size) := by omega
  have n2m : ¬ (w2.heap.size = w3.heap.size) := by omega
  have HWam : Hid (Below w.heap.size w (w3.alloc (.cells #[.int .i64 2, .int .u32 14, .bool true, .bool true] 24))) := Below.alloc HW3.out HW3.out.size _
  have HBa_m : Hid (Bl (w3.alloc (.cells #[.int .i64 2, .int .u32 14, .bool true, .bool true] 24)) w.heap.size 39 [.bool true, .bool true, .bool true]) := HBa_3.out.below (below_new _ _)
  have HBb_m : Hid (Bl (w3.alloc (.cells #[.int .i64 2, .int .u32 14, .bool true, .bool true] 24)) (w.heap.size + 1) 39 [.bool true, .bool false, .bool false]) := HBb_3.out.below (below_new _ _)
  have HBl_m : Hid (Bl (w3.alloc (.cells #[.int .i64 2, .int .u32 14, .bool true, .bool true] 24)) w2.heap.size 24 [.int .i64 3, .int .u32 14, .bool true, .bool false]) := HBl_3.out.below (below_new _ _)
  have HBm_0 : Hid (Bl (w3.alloc (.cells #[.int .i64 2, .int .u32 14, .bool true, .bool true] 24)) w3.heap.size 24 [.int .i64 2, .int .u32 14, .bool true, .bool true]) := Bl.new _ _ _
  clear HW3 HBa_3 HBb_3 HBl_3
  have hsz : (w3.alloc (.cells #[.int .i64 2, .int .u32 14, .bool true, .bool true] 24)).heap.size = w3.heap.size + 1 := by simp
  have hbv := Bl.new (w3.alloc (.cells #[.int .i64 2, .int .u32 14, .bool true, .bool true] 24)) 42 [.bool false, .bool true, .bool true, .bool true]
  rw [hsz] at hbv
  have HX0 : Hid (MX w ((w3.alloc (.cells #[.int .i64 2, .int .u32 14, .bool true, .bool true] 24)).alloc (.cells #[.bool false, .bool true, .bool true, .bool true] 42)) w2.heap.size w3.heap.size (w3.heap.size + 1) [.int .i64 3, .int .u32 14, .bool true, .bool false] [.int .i64 2, .int .u32 14, .bool true, .bool true] [.bool false, .bool true, .bool true, .bool true]) := ⟨Below.alloc HWam.out HWam.out.size _, HBl_m.out.below (below_new _ _), HBm_0.out.below (below_new _ _), hbv⟩
  clear hsz hbv
  go_wp2
  generalize w2.heap.size = b1 at *
  generalize w3.heap.size = b2 at *
  clear HWam HBa_m HBb_m HBl_m HBm_0 c0 f0 l0 c1 f1 l1 c2 f2 l2
  go_loopw [11] (fun i wr => ∃ (k : Nat), 1 ≤ k ∧ k ≤ 4 ∧ i = .int .i64 k ∧ MX w wr b1 b2 (b2 + 1) [.int .i64 3, .int .u32 14, .bool true, .bool false] [.int .i64 2, .int .u32 14, .bool true, .bool true] [.bool false, .bool true, .bool true, .bool true]) (fun i _ => 4 - (intOf i).toNat)
  case atStart => exact ⟨1, by omega, by omega, rfl, HX0.out⟩
  case round =>
    obtain ⟨k, hk1, hk, rfl, hX⟩ := hrel
    have HX1 := hidM hX
    clear hX HX0
    rcases (show k = 1 ∨ k = 2 ∨ k = 3 ∨ k = 4 by omega) with rfl | rfl | rfl | rfl
    · clear hk1 hk
      have c0 := HX1.out.l.cell
      have c1 := HX1.out.m.cell
      have c2 := HX1.out.v.cell
      go_wp2_with (fail)
      go_at_call 8
      refine (HA1.out _ (HT.out.below HX1.out.bel).p).mono ?_
      rintro e w8 ⟨rfl, hb⟩
      have HX2 := hidM (HX1.out.step hb)
      clear hb HX1 c0 c1 c2
      have c0 := HX2.out.l.cell
      have c1 := HX2.out.m.cell
      have c2 := HX2.out.v.cell
      go_wp2_with (fail)
      go_at_call 8
      refine (HB1.out _ (HT.out.below HX2.out.bel).p).mono ?_
      rintro e w9 ⟨rfl, hb⟩
      have HX3 := hidM (HX2.out.step hb)
      clear hb HX2 c0 c1 c2
      have c0 := HX3.out.l.cell
      have c1 := HX3.out.m.cell
      have c2 := HX3.out.v.cell
      go_wp2
      go_roundw
      case rel => exact ⟨2, by omega, by omega, rfl, HX3.out⟩
      case measure => simp [intOf]
    · clear hk1 hk
      have c0 := HX1.out.l.cell
      have c1 := HX1.out.m.cell
      have c2 := HX1.out.v.cell
      go_wp2_with (fail)
      go_at_call 8
      refine (HA2.out _ (HT.out.below HX1.out.bel).p).mono ?_
      rintro e w8 ⟨rfl, hb⟩
      have HX2 := hidM (HX1.out.step hb)
      clear hb HX1 c0 c1 c2
      have c0 := HX2.out.l.cell
      have c1 := HX2.out.m.cell
      have c2 := HX2.out.v.cell
      go_wp2_with (fail)
      go_at_call 8
      refine (HB2.out _ (HT.out.below HX2.out.bel).p).mono ?_
      rintro e w9 ⟨rfl, hb⟩
      have HX3 := hidM (HX2.out.step hb)
      clear hb HX2 c0 c1 c2
      have c0 := HX3.out.l.cell
      have c1 := HX3.out.m.cell
      have c2 := HX3.out.v.cell
      go_wp2
      go_roundw
      case rel => exact ⟨3, by omega, by omega, rfl, HX3.out⟩
      case measure => simp [intOf]
    · clear hk1 hk
      have c0 := HX1.out.l.cell
      have c1 := HX1.out.m.cell
      have c2 := HX1.out.v.cell
      go_wp2_with (fail)
      go_at_call 8
      refine (HA3.out _ (HT.out.below HX1.out.bel).p).mono ?_
      rintro e w8 ⟨rfl, hb⟩
      have HX2 := hidM (HX1.out.step hb)
      clear hb HX1 c0 c1 c2
      have c0 := HX2.out.l.cell
      have c1 := HX2.out.m.cell
      have c2 := HX2.out.v.cell
      go_wp2_with (fail)
      go_at_call 8
      refine (HB3.out _ (HT.out.below HX2.out.bel).p).mono ?_
      rintro e w9 ⟨rfl, hb⟩
      have HX3 := hidM (HX2.out.step hb)
      clear hb HX2 c0 c1 c2
      have c0 := HX3.out.l.cell
      have c1 := HX3.out.m.cell
      have c2 := HX3.out.v.cell
      go_wp2
      go_roundw
      case rel => exact ⟨4, by omega, by omega, rfl, HX3.out⟩
      case measure => simp [intOf]
    · clear hk1 hk
      have c0 := HX1.out.l.cell
      have c1 := HX1.out.m.cell
      have c2 := HX1.out.v.cell
      go_wp2_with (fail)
      go_at_call 8
      refine (HP2.out _ (HT.out.below HX1.out.bel).p).mono ?_
      rintro e w8 ⟨rfl, hb⟩
      have HX2 := hidM (HX1.out.step hb)
      clear hb HX1 c0 c1 c2
      have c0 := HX2.out.l.cell
      have c1 := HX2.out.m.cell
      have c2 := HX2.out.v.cell
      go_wp2_with (fail)
      go_at_call 8
      refine (HP3.out _ (HT.out.below HX2.out.bel).p).mono ?_
      rintro e w9 ⟨rfl, hb⟩
      have HX3 := hidM (HX2.out.step hb)
      clear hb HX2 c0 c1 c2
      go_wp2
      go_ret
      exact ⟨rfl, HX3.out.bel⟩
set_option maxRecDepth 100000 in
set_option maxHeartbeats 2000000 in
theorem more_111_101 (w : World) (hT : TA w) : Calls Tryd.prog 6 #[.agg #[.bool true, .bool true, .bool true], .agg #[.bool true, .bool false, .bool true]] w fun e w' => e = .returned (.bool true) ∧ Below w.heap.size w w' := by
  have HLa : Hid (∀ w, Calls Tryd.prog 14 #[.agg #[.bool true, .bool true, .bool true]] w fun e w' => e = .returned (.tuple #[.agg #[.int .i64 3, .int .u32 14, .bool true, .bool false], .int .i64 0]) ∧ Below w.heap.size w w') := fun w => leaf_any true true true w
  have HLb : Hid (∀ w, Calls Tryd.prog 14 #[.agg #[.bool true, .bool false, .bool true]] w fun e w' => e = .returned (.tuple #[.agg #[.int .i64 2, .int .u32 14, .bool true, .bool false], .int .i64 0]) ∧ Below w.heap.size w w') := fun w => leaf_any true false true w
  have HA1 : Hid (∀ w, TP w → Calls Tryd.prog 8 #[.agg #[.int .i64 3, .int .u32 14, .bool true, .bool false], .bool false, .bool false, .int .i64 1] w fun e w' => e = .returned (.bool true) ∧ Below w.heap.size w w') := fun w hw => allows_any 3 14 true false false false 1 w hw
  have HA2 : Hid (∀ w, TP w → Calls Tryd.prog 8 #[.agg #[.int .i64 3, .int .u32 14, .bool true, .bool false], .bool false, .bool false, .int .i64 2] w fun e w' => e = .returned (.bool true) ∧ Below w.heap.size w w') := fun w hw => allows_any 3 14 true false false false 2 w hw
  have HA3 : Hid (∀ w, TP w → Calls Tryd.prog 8 #[.agg #[.int .i64 3, .int .u32 14, .bool true, .bool false], .bool false, .bool false, .int .i64 3] w fun e w' => e = .returned (.bool true) ∧ Below w.heap.size w w') := fun w hw => allows_any 3 14 true false false false 3 w hw
  have HB1 : Hid (∀ w, TP w → Calls Tryd.prog 8 #[.agg #[.int .i64 2, .int .u32 14, .bool true, .bool false], .bool false, .bool false, .int .i64 1] w fun e w' => e = .returned (.bool true) ∧ Below w.heap.size w w') := fun w hw => allows_any 2 14 true false false false 1 w hw
  have HB2 : Hid (∀ w, TP w → Calls Tryd.prog 8 #[.agg #[.int .i64 2, .int .u32 14, .bool true, .bool false], .bool false, .bool false, .int .i64 2] w fun e w' => e = .returned (.bool true) ∧ Below w.heap.size w w') := fun w hw => allows_any 2 14 true false false false 2 w hw
  have HB3 : Hid (∀ w, TP w → Calls Tryd.prog 8 #[.agg #[.int .i64 2, .int .u32 14, .bool true, .bool false], .bool false, .bool false, .int .i64 3] w fun e w' => e = .returned (.bool false) ∧ Below w.heap.size w w') := fun w hw => allows_any 2 14 true false false false 3 w hw
  have HP2 : Hid (∀ w, TP w → Calls Tryd.prog 8 #[.agg #[.int .i64 3, .int .u32 14, .bool true, .bool false], .bool false, .bool true, .int .i64 2] w fun e w' => e = .returned (.bool true) ∧ Below w.heap.size w w') := fun w hw => allows_any 3 14 true false false true 2 w hw
  have HP3 : Hid (∀ w, TP w → Calls Tryd.prog 8 #[.agg #[.int .i64 3, .int .u32 14, .bool true, .bool false], .bool false, .bool true, .int .i64 3] w fun e w' => e = .returned (.bool true) ∧ Below w.heap.size w w') := fun w hw => allows_any 3 14 true false false true 3 w hw
  have HT : Hid (TA w) := hT
  have HW0 : Hid (Below w.heap.size w w) := Below.refl _ _
  clear hT
  go_enter Tryd.func6, Tryd.ntmps6
  have HWaa : Hid (Below w.heap.size w (w.alloc (.cells #[.bool true, .bool true, .bool true] 39))) := Below.alloc HW0.out HW0.out.size _
  have HBa_0 : Hid (Bl (w.alloc (.cells #[.bool true, .bool true, .bool true] 39)) w.heap.size 39 [.bool true, .bool true, .bool true]) := Bl.new _ _ _
  clear HW0
  have HWb : Hid (Below w.heap.size w ((w.alloc (.cells #[.bool true, .bool true, .bool true] 39)).alloc (.cells #[.bool true, .bool false, .bool true] 39))) := Below.alloc HWaa.out HWaa.out.size _
  have HBa_b : Hid (Bl ((w.alloc (.cells #[.bool true, .bool true, .bool true] 39)).alloc (.cells #[.bool true, .bool false, .bool true] 39)) w.heap.size 39 [.bool true, .bool true, .bool true]) := HBa_0.out.below (below_new _ _)
  have hsz : (w.alloc (.cells #[.bool true, .bool true, .bool true] 39)).heap.size = w.heap.size + 1 := by simp
  have hbb := Bl.new (w.alloc (.cells #[.bool true, .bool true, .bool true] 39)) 39 [.bool true, .bool false, .bool true]
  rw [hsz] at hbb
  have HBb_0 : Hid (Bl ((w.alloc (.cells #[.bool true, .bool true, .bool true] 39)).alloc (.cells #[.bool true, .bool false, .bool true] 39)) (w.heap.size + 1) 39 [.bool true, .bool false, .bool true]) := hbb
  clear hbb hsz HWaa HBa_0
  go_wp2_with (fail)
  go_at_call 12
  refine (alive_any _ (HT.out.below HWb.out)).mono ?_
  rintro e w1 ⟨rfl, hb⟩
  have HW1 : Hid (Below w.heap.size w w1) := Below.step HWb.out hb
  have HBa_1 : Hid (Bl w1 w.heap.size 39 [.bool true, .bool true, .bool true]) := HBa_b.out.below hb
  have HBb_1 : Hid (Bl w1 (w.heap.size + 1) 39 [.bool true, .bool false, .bool true]) := HBb_0.out.below hb
  clear hb HWb HBa_b HBb_0
  have c0 := HBa_1.out.cell
  have f0 := HBa_1.out.frozen
  have l0 := HBa_1.out.lt
  have c1 := HBb_1.out.cell
  have f1 := HBb_1.out.frozen
  have l1 := HBb_1.out.lt
  go_wp2_with (fail)
  go_at_call 14
  refine (HLa.out _).mono ?_
  rintro e w2 ⟨rfl, hb⟩
  clear c0 f0 l0 c1 f1 l1
  have HW2 : Hid (Below w.heap.size w w2) := Below.step HW1.out hb
  have HBa_2 : Hid (Bl w2 w.heap.size 39 [.bool true, .bool true, .bool true]) := HBa_1.out.below hb
  have HBb_2 : Hid (Bl w2 (w.heap.size + 1) 39 [.bool true, .bool false, .bool true]) := HBb_1.out.below hb
  clear hb HW1 HBa_1 HBb_1
  have c0 := HBa_2.out.cell
  have f0 := HBa_2.out.frozen
  have l0 := HBa_2.out.lt
  have c1 := HBb_2.out.cell
  have f1 := HBb_2.out.frozen
  have l1 := HBb_2.out.lt
  have n0l : ¬ (w.heap.size = w2.heap.size) := by omega
  have n1l : ¬ ((w.heap.size + 1) = w2.heap.size) := by omega
  have HWal : Hid (Below w.heap.size w (w2.alloc (.cells #[.int .i64 3, .int .u32 14, .bool true, .bool false] 24))) := Below.alloc HW2.out HW2.out.size _
  have HBa_l : Hid (Bl (w2.alloc (.cells #[.int .i64 3, .int .u32 14, .bool true, .bool false] 24)) w.heap.size 39 [.bool true, .bool true, .bool true]) := HBa_2.out.below (below_new _ _)
  have HBb_l : Hid (Bl (w2.alloc (.cells #[.int .i64 3, .int .u32 14, .bool true, .bool false] 24)) (w.heap.size + 1) 39 [.bool true, .bool false, .bool true]) := HBb_2.out.below (below_new _ _)
  have HBl_0 : Hid (Bl (w2.alloc (.cells #[.int .i64 3, .int .u32 14, .bool true, .bool false] 24)) w2.heap.size 24 [.int .i64 3, .int .u32 14, .bool true, .bool false]) := Bl.new _ _ _
  clear HW2 HBa_2 HBb_2
  go_wp2_with (fail)
  go_at_call 14
  refine (HLb.out _).mono ?_
  rintro e w3 ⟨rfl, hb⟩
  clear c0 f0 l0 c1 f1 l1
  have HW3 : Hid (Below w.heap.size w w3) := Below.step HWal.out hb
  have HBa_3 : Hid (Bl w3 w.heap.size 39 [.bool true, .bool true, .bool true]) := HBa_l.out.below hb
  have HBb_3 : Hid (Bl w3 (w.heap.size + 1) 39 [.bool true, .bool false, .bool true]) := HBb_l.out.below hb
  have HBl_3 : Hid (Bl w3 w2.heap.size 24 [.int .i64 3, .int .u32 14, .bool true, .bool false]) := HBl_0.out.below hb
  clear hb HWal HBa_l HBb_l HBl_0
  have c0 := HBa_3.out.cell
  have f0 := HBa_3.out.frozen
  have l0 := HBa_3.out.lt
  have c1 := HBb_3.out.cell
  have f1 := HBb_3.out.frozen
  have l1 := HBb_3.out.lt
  have c2 := HBl_3.out.cell
  have f2 := HBl_3.out.frozen
  have l2 := HBl_3.out.lt
  have n0m : ¬ (w.heap.size = w3.heap.size) := by omega
  have n1m : ¬ ((w.heap.size + 1) = w3.heap.size) := by omega
  have n2m : ¬ (w2.heap.size = w3.heap.size) := by omega
  have HWam : Hid (Below w.heap.size w (w3.alloc (.cells #[.int .i64 2, .int .u32 14, .bool true, .bool false] 24))) := Below.alloc HW3.out HW3.out.size _
  have HBa_m : Hid (Bl (w3.alloc (.cells #[.int .i64 2, .int .u32 14, .bool true, .bool false] 24)) w.heap.size 39 [.bool true, .bool true, .bool true]) := HBa_3.out.below (below_new _ _)
  have HBb_m : Hid (Bl (w3.alloc (.cells #[.int .i64 2, .int .u32 14, .bool true, .bool false] 24)) (w.heap.size + 1) 39 [.bool true, .bool false, .bool true]) := HBb_3.out.below (below_new _ _)
  have HBl_m : Hid (Bl (w3.alloc (.cells #[.int .i64 2, .int .u32 14, .bool true, .bool false] 24)) w2.heap.size 24 [.int .i64 3, .int .u32 14, .bool true, .bool false]) := HBl_3.out.below (below_new _ _)
  have HBm_0 : Hid (Bl (w3.alloc (.cells #[.int .i64 2, .int .u32 14, .bool true, .bool false] 24)) w3.heap.size 24 [.int .i64 2, .int .u32 14, .bool true, .bool false]) := Bl.new _ _ _
  clear HW3 HBa_3 HBb_3 HBl_3
  have hsz : (w3.alloc (.cells #[.int .i64 2, .int .u32 14, .bool true, .bool false] 24)).heap.size = w3.heap.size + 1 := by simp
  have hbv := Bl.new (w3.alloc (.cells #[.int .i64 2, .int .u32 14, .bool true, .bool false] 24)) 42 [.bool false, .bool true, .bool true, .bool true]
  rw [hsz] at hbv
  have HX0 : Hid (MX w ((w3.alloc (.cells #[.int .i64 2, .int .u32 14, .bool true, .bool false] 24)).alloc (.cells #[.bool false, .bool true, .bool true, .bool true] 42)) w2.heap.size w3.heap.size (w3.heap.size + 1) [.int .i64 3, .int .u32 14, .bool true, .bool false] [.int .i64 2, .int .u32 14, .bool true, .bool false] [.bool false, .bool true, .bool true, .bool true]) := ⟨Below.alloc HWam.out HWam.out.size _, HBl_m.out.below (below_new _ _), HBm_0.out.below (below_new _ _), hbv⟩
  clear hsz hbv
  go_wp2
  generalize w2.heap.size = b1 at *
  generalize w3.heap.size = b2 at *
  clear HWam HBa_m HBb_m HBl_m HBm_0 c0 f0 l0 c1 f1 l1 c2 f2 l2
  go_loopw [11] (fun i wr => ∃ (k : Nat), 1 ≤ k ∧ k ≤ 4 ∧ i = .int .i64 k ∧ MX w wr b1 b2 (b2 + 1) [.int .i64 3, .int .u32 14, .bool true, .bool false] [.int .i64 2, .int .u32 14, .bool true, .bool false] [.bool false, .bool true, .bool true, .bool true]) (fun i _ => 4 - (intOf i).toNat)
  case atStart => exact ⟨1, by omega, by omega, rfl, HX0.out⟩
  case round =>
    obtain ⟨k, hk1, hk, rfl, hX⟩ := hrel
    have HX1 := hidM hX
    clear hX HX0
    rcases (show k = 1 ∨ k = 2 ∨ k = 3 ∨ k = 4 by omega) with rfl | rfl | rfl | rfl
    · clear hk1 hk
      have c0 := HX1.out.l.cell
      have c1 := HX1.out.m.cell
      have c2 := HX1.out.v.cell
      go_wp2_with (fail)
      go_at_call 8
      refine (HA1.out _ (HT.out.below HX1.out.bel).p).mono ?_
      rintro e w8 ⟨rfl, hb⟩
      have HX2 := hidM (HX1.out.step hb)
      clear hb HX1 c0 c1 c2
      have c0 := HX2.out.l.cell
      have c1 := HX2.out.m.cell
      have c2 := HX2.out.v.cell
      go_wp2_with (fail)
      go_at_call 8
      refine (HB1.out _ (HT.out.below HX2.out.bel).p).mono ?_
      rintro e w9 ⟨rfl, hb⟩
      have HX3 := hidM (HX2.out.step hb)
      clear hb HX2 c0 c1 c2
      have c0 := HX3.out.l.cell
      have c1 := HX3.out.m.cell
      have c2 := HX3.out.v.cell
      go_wp2
      go_roundw
      case rel => exact ⟨2, by omega, by omega, rfl, HX3.out⟩
      case measure => simp [intOf]
    · clear hk1 hk
      have c0 := HX1.out.l.cell
      have c1 := HX1.out.m.cell
      have c2 := HX1.out.v.cell
      go_wp2_with (fail)
      go_at_call 8
      refine (HA2.out _ (HT.out.below HX1.out.bel).p).mono ?_
      rintro e w8 ⟨rfl, hb⟩
      have HX2 := hidM (HX1.out.step hb)
      clear hb HX1 c0 c1 c2
      have c0 := HX2.out.l.cell
      have c1 := HX2.out.m.cell
      have c2 := HX2.out.v.cell
      go_wp2_with (fail)
      go_at_call 8
      refine (HB2.out _ (HT.out.below HX2.out.bel).p).mono ?_
      rintro e w9 ⟨rfl, hb⟩
      have HX3 := hidM (HX2.out.step hb)
      clear hb HX2 c0 c1 c2
      have c0 := HX3.out.l.cell
      have c1 := HX3.out.m.cell
      have c2 := HX3.out.v.cell
      go_wp2
      go_roundw
      case rel => exact ⟨3, by omega, by omega, rfl, HX3.out⟩
      case measure => simp [intOf]
    · clear hk1 hk
      have c0 := HX1.out.l.cell
      have c1 := HX1.out.m.cell
      have c2 := HX1.out.v.cell
      go_wp2_with (fail)
      go_at_call 8
      refine (HA3.out _ (HT.out.below HX1.out.bel).p).mono ?_
      rintro e w8 ⟨rfl, hb⟩
      have HX2 := hidM (HX1.out.step hb)
      clear hb HX1 c0 c1 c2
      have c0 := HX2.out.l.cell
      have c1 := HX2.out.m.cell
      have c2 := HX2.out.v.cell
      go_wp2_with (fail)
      go_at_call 8
      refine (HB3.out _ (HT.out.below HX2.out.bel).p).mono ?_
      rintro e w9 ⟨rfl, hb⟩
      have HX3 := hidM (HX2.out.step hb)
      clear hb HX2 c0 c1 c2
      have c0 := HX3.out.l.cell
      have c1 := HX3.out.m.cell
      have c2 := HX3.out.v.cell
      go_wp2
      go_roundw
      case rel => exact ⟨4, by omega, by omega, rfl, HX3.out⟩
      case measure => simp [intOf]
    · clear hk1 hk
      have c0 := HX1.out.l.cell
      have c1 := HX1.out.m.cell
      have c2 := HX1.out.v.cell
      go_wp2_with (fail)
      go_at_call 8
      refine (HP2.out _ (HT.out.below HX1.out.bel).p).mono ?_
      rintro e w8 ⟨rfl, hb⟩
      have HX2 := hidM (HX1.out.step hb)
      clear hb HX1 c0 c1 c2
      have c0 := HX2.out.l.cell
      have c1 := HX2.out.m.cell
      have c2 := HX2.out.v.cell
      go_wp2_with (fail)
      go_at_call 8
      refine (HP3.out _ (HT.out.below HX2.out.bel).p).mono ?_
      rintro e w9 ⟨rfl, hb⟩
      have HX3 := hidM (HX2.out.step hb)
      clear hb HX2 c0 c1 c2
      go_wp2
      go_ret
      exact ⟨rfl, HX3.out.bel⟩
set_option maxRecDepth 100000 in
set_option maxHeartbeats 2000000 in
theorem more_111_110 (w : World) (hT : TA w) : Calls Tryd.prog 6 #[.agg #[.bool true, .bool true, .bool true], .agg #[.bool true, .bool true, .bool false]] w fun e w' => e = .returned (.bool true) ∧ Below w.heap.size w w' := by
  have HLa : Hid (∀ w, Calls Tryd.prog 14 #[.agg #[.bool true, .bool true, .bool true]] w fun e w' => e = .returned (.tuple #[.agg #[.int .i64 3, .int .u32 14, .bool true, .bool false], .int .i64 0]) ∧ Below w.heap.size w w') := fun w => leaf_any true true true w
  have HLb : Hid (∀ w, Calls Tryd.prog 14 #[.agg #[.bool true, .bool true, .bool false]] w fun e w' => e = .returned (.tuple #[.agg #[.int .i64 3, .int .u32 14, .bool true, .bool true], .int .i64 0]) ∧ Below w.heap.size w w') := fun w => leaf_any true true false w
  have HA1 : Hid (∀ w, TP w → Calls Tryd.prog 8 #[.agg #[.int .i64 3, .int .u32 14, .bool true, .bool false], .bool false, .bool false, .int .i64 1] w fun e w' => e = .returned (.bool true) ∧ Below w.heap.size w w') := fun w hw => allows_any 3 14 true false false false 1 w hw
  have HA2 : Hid (∀ w, TP w → Calls Tryd.prog 8 #[.agg #[.int .i64 3, .int .u32 14, .bool true, .bool false], .bool false, .bool false, .int .i64 2] w fun e w' => e = .returned (.bool true) ∧ Below w.heap.size w w') := fun w hw => allows_any 3 14 true false false false 2 w hw
  have HA3 : Hid (∀ w, TP w → Calls Tryd.prog 8 #[.agg #[.int .i64 3, .int .u32 14, .bool true, .bool false], .bool false, .bool false, .int .i64 3] w fun e w' => e = .returned (.bool true) ∧ Below w.heap.size w w') := fun w hw => allows_any 3 14 true false false false 3 w hw
  have HB1 : Hid (∀ w, TP w → Calls Tryd.prog 8 #[.agg #[.int .i64 3, .int .u32 14, .bool true, .bool true], .bool false, .bool false, .int .i64 1] w fun e w' => e = .returned (.bool false) ∧ Below w.heap.size w w') := fun w hw => allows_any 3 14 true true false false 1 w hw
  have HB2 : Hid (∀ w, TP w → Calls Tryd.prog 8 #[.agg #[.int .i64 3, .int .u32 14, .bool true, .bool true], .bool false, .bool false, .int .i64 2] w fun e w' => e = .returned (.bool true) ∧ Below w.heap.size w w') := fun w hw => allows_any 3 14 true true false false 2 w hw
  have HB3 : Hid (∀ w, TP w → Calls Tryd.prog 8 #[.agg #[.int .i64 3, .int .u32 14, .bool true, .bool true], .bool false, .bool false, .int .i64 3] w fun e w' => e = .returned (.bool true) ∧ Below w.heap.size w w') := fun w hw => allows_any 3 14 true true false false 3 w hw
  have HP2 : Hid (∀ w, TP w → Calls Tryd.prog 8 #[.agg #[.int .i64 3, .int .u32 14, .bool true, .bool false], .bool false, .bool true, .int .i64 2] w fun e w' => e = .returned (.bool true) ∧ Below w.heap.size w w') := fun w hw => allows_any 3 14 true false false true 2 w hw
  have HP3 : Hid (∀ w, TP w → Calls Tryd.prog 8 #[.agg #[.int .i64 3, .int .u32 14, .bool true, .bool false], .bool false, .bool true, .int .i64 3] w fun e w' => e = .returned (.bool true) ∧ Below w.heap.size w w') := fun w hw => allows_any 3 14 true false false true 3 w hw
  have HT : Hid (TA w) := hT
  have HW0 : Hid (Below w.heap.size w w) := Below.refl _ _
  clear hT
  go_enter Tryd.func6, Tryd.ntmps6
  have HWaa : Hid (Below w.heap.size w (w.alloc (.cells #[.bool true, .bool true, .bool true] 39))) := Below.alloc HW0.out HW0.out.size _
  have HBa_0 : Hid (Bl (w.alloc (.cells #[.bool true, .bool true, .bool true] 39)) w.heap.size 39 [.bool true, .bool true, .bool true]) := Bl.new _ _ _
  clear HW0
  have HWb : Hid (Below w.heap.size w ((w.alloc (.cells #[.bool true, .bool true, .bool true] 39)).alloc (.cells #[.bool true, .bool true, .bool false] 39))) := Below.alloc HWaa.out HWaa.out.size _
  have HBa_b : Hid (Bl ((w.alloc (.cells #[.bool true, .bool true, .bool true] 39)).alloc (.cells #[.bool true, .bool true, .bool false] 39)) w.heap.size 39 [.bool true, .bool true, .bool true]) := HBa_0.out.below (below_new _ _)
  have hsz : (w.alloc (.cells #[.bool true, .bool true, .bool true] 39)).heap.size = w.heap.size + 1 := by simp
  have hbb := Bl.new (w.alloc (.cells #[.bool true, .bool true, .bool true] 39)) 39 [.bool true, .bool true, .bool false]
  rw [hsz] at hbb
  have HBb_0 : Hid (Bl ((w.alloc (.cells #[.bool true, .bool true, .bool true] 39)).alloc (.cells #[.bool true, .bool true, .bool false] 39)) (w.heap.size + 1) 39 [.bool true, .bool true, .bool false]) := hbb
  clear hbb hsz HWaa HBa_0
  go_wp2_with (fail)
  go_at_call 12
  refine (alive_any _ (HT.out.below HWb.out)).mono ?_
  rintro e w1 ⟨rfl, hb⟩
  have HW1 : Hid (Below w.heap.size w w1) := Below.step HWb.out hb
  have HBa_1 : Hid (Bl w1 w.heap.size 39 [.bool true, .bool true, .bool true]) := HBa_b.out.below hb
  have HBb_1 : Hid (Bl w1 (w.heap.size + 1) 39 [.bool true, .bool true, .bool false]) := HBb_0.out.below hb
  clear hb HWb HBa_b HBb_0
  have c0 := HBa_1.out.cell
  have f0 := HBa_1.out.frozen
  have l0 := HBa_1.out.lt
  have c1 := HBb_1.out.cell
  have f1 := HBb_1.out.frozen
  have l1 := HBb_1.out.lt
  go_wp2_with (fail)
  go_at_call 14
  refine (HLa.out _).mono ?_
  rintro e w2 ⟨rfl, hb⟩
  clear c0 f0 l0 c1 f1 l1
  have HW2 : Hid (Below w.heap.size w w2) := Below.step HW1.out hb
  have HBa_2 : Hid (Bl w2 w.heap.size 39 [.bool true, .bool true, .bool true]) := HBa_1.out.below hb
  have HBb_2 : Hid (Bl w2 (w.heap.size + 1) 39 [.bool true, .bool true, .bool false]) := HBb_1.out.below hb
  clear hb HW1 HBa_1 HBb_1
  have c0 := HBa_2.out.cell
  have f0 := HBa_2.out.frozen
  have l0 := HBa_2.out.lt
  have c1 := HBb_2.out.cell
  have f1 := HBb_2.out.frozen
  have l1 := HBb_2.out.lt
  have n0l : ¬ (w.heap.size = w2.heap.size) := by omega
  have n1l : ¬ ((w.heap.size + 1) = w2.heap.size) := by omega
  have HWal : Hid (Below w.heap.size w (w2.alloc (.cells #[.int .i64 3, .int .u32 14, .bool true, .bool false] 24))) := Below.alloc HW2.out HW2.out.size _
  have HBa_l : Hid (Bl (w2.alloc (.cells #[.int .i64 3, .int .u32 14, .bool true, .bool false] 24)) w.heap.size 39 [.bool true, .bool true, .bool true]) := HBa_2.out.below (below_new _ _)
  have HBb_l : Hid (Bl (w2.alloc (.cells #[.int .i64 3, .int .u32 14, .bool true, .bool false] 24)) (w.heap.size + 1) 39 [.bool true, .bool true, .bool false]) := HBb_2.out.below (below_new _ _)
  have HBl_0 : Hid (Bl (w2.alloc (.cells #[.int .i64 3, .int .u32 14, .bool true, .bool false] 24)) w2.heap.size 24 [.int .i64 3, .int .u32 14, .bool true, .bool false]) := Bl.new _ _ _
  clear HW2 HBa_2 HBb_2
  go_wp2_with (fail)
  go_at_call 14
  refine (HLb.out _).mono ?_
  rintro e w3 ⟨rfl, hb⟩
  clear c0 f0 l0 c1 f1 l1
  have HW3 : Hid (Below w.heap.size w w3) := Below.step HWal.out hb
  have HBa_3 : Hid (Bl w3 w.heap.size 39 [.bool true, .bool true, .bool true]) := HBa_l.out.below hb
  have HBb_3 : Hid (Bl w3 (w.heap.size + 1) 39 [.bool true, .bool true, .bool false]) := HBb_l.out.below hb
  have HBl_3 : Hid (Bl w3 w2.heap.size 24 [.int .i64 3, .int .u32 14, .bool true, .bool false]) := HBl_0.out.below hb
  clear hb HWal HBa_l HBb_l HBl_0
  have c0 := HBa_3.out.cell
  have f0 := HBa_3.out.frozen
  have l0 := HBa_3.out.lt
  have c1 := HBb_3.out.cell
  have f1 := HBb_3.out.frozen
  have l1 := HBb_3.out.lt
  have c2 := HBl_3.out.cell
  have f2 := HBl_3.out.frozen
  have l2 := HBl_3.out.lt
  have n0m : ¬ (w.heap.size = w3.heap.size) := by omega
  have n1m : ¬ ((w.heap.size + 1) = w3.heap.size) := by omega
  have n2m : ¬ (w2.heap.size = w3.heap.size) := by omega
  have HWam : Hid (Below w.heap.size w (w3.alloc (.cells #[.int .i64 3, .int .u32 14, .bool true, .bool true] 24))) := Below.alloc HW3.out HW3.out.size _
  have HBa_m : Hid (Bl (w3.alloc (.cells #[.int .i64 3, .int .u32 14, .bool true, .bool true] 24)) w.heap.size 39 [.bool true, .bool true, .bool true]) := HBa_3.out.below (below_new _ _)
  have HBb_m : Hid (Bl (w3.alloc (.cells #[.int .i64 3, .int .u32 14, .bool true, .bool true] 24)) (w.heap.size + 1) 39 [.bool true, .bool true, .bool false]) := HBb_3.out.below (below_new _ _)
  have HBl_m : Hid (Bl (w3.alloc (.cells #[.int .i64 3, .int .u32 14, .bool true, .bool true] 24)) w2.heap.size 24 [.int .i64 3, .int .u32 14, .bool true, .bool false]) := HBl_3.out.below (below_new _ _)
  have HBm_0 : Hid (Bl (w3.alloc (.cells #[.int .i64 3, .int .u32 14, .bool true, .bool true] 24)) w3.heap.size 24 [.int .i64 3, .int .u32 14, .bool true, .bool true]) := Bl.new _ _ _
  clear HW3 HBa_3 HBb_3 HBl_3
  have hsz : (w3.alloc (.cells #[.int .i64 3, .int .u32 14, .bool true, .bool true] 24)).heap.size = w3.heap.size + 1 := by simp
  have hbv := Bl.new (w3.alloc (.cells #[.int .i64 3, .int .u32 14, .bool true, .bool true] 24)) 42 [.bool false, .bool true, .bool true, .bool true]
  rw [hsz] at hbv
  have HX0 : Hid (MX w ((w3.alloc (.cells #[.int .i64 3, .int .u32 14, .bool true, .bool true] 24)).alloc (.cells #[.bool false, .bool true, .bool true, .bool true] 42)) w2.heap.size w3.heap.size (w3.heap.size + 1) [.int .i64 3, .int .u32 14, .bool true, .bool false] [.int .i64 3, .int .u32 14, .bool true, .bool true] [.bool false, .bool true, .bool true, .bool true]) := ⟨Below.alloc HWam.out HWam.out.size _, HBl_m.out.below (below_new _ _), HBm_0.out.below (below_new _ _), hbv⟩
  clear hsz hbv
  go_wp2
  generalize w2.heap.size = b1 at *
  generalize w3.heap.size = b2 at *
  clear HWam HBa_m HBb_m HBl_m HBm_0 c0 f0 l0 c1 f1 l1 c2 f2 l2
  go_loopw [11] (fun i wr => ∃ (k : Nat), 1 ≤ k ∧ k ≤ 4 ∧ i = .int .i64 k ∧ MX w wr b1 b2 (b2 + 1) [.int .i64 3, .int .u32 14, .bool true, .bool false] [.int .i64 3, .int .u32 14, .bool true, .bool true] [.bool false, .bool true, .bool true, .bool true]) (fun i _ => 4 - (intOf i).toNat)
  case atStart => exact ⟨1, by omega, by omega, rfl, HX0.out⟩
  case round =>
    obtain ⟨k, hk1, hk, rfl, hX⟩ := hrel
    have HX1 := hidM hX
    clear hX HX0
    rcases (show k = 1 ∨ k = 2 ∨ k = 3 ∨ k = 4 by omega) with rfl | rfl | rfl | rfl
    · clear hk1 hk
      have c0 := HX1.out.l.cell
      have c1 := HX1.out.m.cell
      have c2 := HX1.out.v.cell
      go_wp2_with (fail)
      go_at_call 8
      refine (HA1.out _ (HT.out.below HX1.out.bel).p).mono ?_
      rintro e w8 ⟨rfl, hb⟩
      have HX2 := hidM (HX1.out.step hb)
      clear hb HX1 c0 c1 c2
      have c0 := HX2.out.l.cell
      have c1 := HX2.out.m.cell
      have c2 := HX2.out.v.cell
      go_wp2_with (fail)
      go_at_call 8
      refine (HB1.out _ (HT.out.below HX2.out.bel).p).mono ?_
      rintro e w9 ⟨rfl, hb⟩
      have HX3 := hidM (HX2.out.step hb)
      clear hb HX2 c0 c1 c2
      have c0 := HX3.out.l.cell
      have c1 := HX3.out.m.cell
      have c2 := HX3.out.v.cell
      go_wp2
      go_roundw
      case rel => exact ⟨2, by omega, by omega, rfl, HX3.out⟩
      case measure => simp [intOf]
    · clear hk1 hk
      have c0 := HX1.out.l.cell
      have c1 := HX1.out.m.cell
      have c2 := HX1.out.v.cell
      go_wp2_with (fail)
      go_at_call 8
      refine (HA2.out _ (HT.out.below HX1.out.bel).p).mono ?_
      rintro e w8 ⟨rfl, hb⟩
      have HX2 := hidM (HX1.out.step hb)
      clear hb HX1 c0 c1 c2
      have c0 := HX2.out.l.cell
      have c1 := HX2.out.m.cell
      have c2 := HX2.out.v.cell
      go_wp2_with (fail)
      go_at_call 8
      refine (HB2.out _ (HT.out.below HX2.out.bel).p).mono ?_
      rintro e w9 ⟨rfl, hb⟩
      have HX3 := hidM (HX2.out.step hb)
      clear hb HX2 c0 c1 c2
      have c0 := HX3.out.l.cell
      have c1 := HX3.out.m.cell
      have c2 := HX3.out.v.cell
      go_wp2
      go_roundw
      case rel => exact ⟨3, by omega, by omega, rfl, HX3.out⟩
      case measure => simp [intOf]
    · clear hk1 hk
      have c0 := HX1.out.l.cell
      have c1 := HX1.out.m.cell
      have c2 := HX1.out.v.cell
      go_wp2_with (fail)
      go_at_call 8
      refine (HA3.out _ (HT.out.below HX1.out.bel).p).mono ?_
      rintro e w8 ⟨rfl, hb⟩
      have HX2 := hidM (HX1.out.step hb)
      clear hb HX1 c0 c1 c2
      have c0 := HX2.out.l.cell
      have c1 := HX2.out.m.cell
      have c2 := HX2.out.v.cell
      go_wp2_with (fail)
      go_at_call 8
      refine (HB3.out _ (HT.out.below HX2.out.bel).p).mono ?_
      rintro e w9 ⟨rfl, hb⟩
      have HX3 := hidM (HX2.out.step hb)
      clear hb HX2 c0 c1 c2
      have c0 := HX3.out.l.cell
      have c1 := HX3.out.m.cell
      have c2 := HX3.out.v.cell
      go_wp2
      go_roundw
      case rel => exact ⟨4, by omega, by omega, rfl, HX3.out⟩
      case measure => simp [intOf]
    · clear hk1 hk
      have c0 := HX1.out.l.cell
      have c1 := HX1.out.m.cell
      have c2 := HX1.out.v.cell
      go_wp2_with (fail)
      go_at_call 8
      refine (HP2.out _ (HT.out.below HX1.out.bel).p).mono ?_
      rintro e w8 ⟨rfl, hb⟩
      have HX2 := hidM (HX1.out.step hb)
      clear hb HX1 c0 c1 c2
      have c0 := HX2.out.l.cell
      have c1 := HX2.out.m.cell
      have c2 := HX2.out.v.cell
      go_wp2_with (fail)
      go_at_call 8
      refine (HP3.out _ (HT.out.below HX2.out.bel).p).mono ?_
      rintro e w9 ⟨rfl, hb⟩
      have HX3 := hidM (HX2.out.step hb)
      clear hb HX2 c0 c1 c2
      go_wp2
      go_ret
      exact ⟨rfl, HX3.out.bel⟩
set_option maxRecDepth 100000 in
set_option maxHeartbeats 2000000 in
theorem more_111_111 (w : World) (hT : TA w) : Calls Tryd.prog 6 #[.agg #[.bool true, .bool true, .bool true], .agg #[.bool true, .bool true, .bool true]] w fun e w' => e = .returned (.bool true) ∧ Below w.heap.size w w' := by
  have HLa : Hid (∀ w, Calls Tryd.prog 14 #[.agg #[.bool true, .bool true, .bool true]] w fun e w' => e = .returned (.tuple #[.agg #[.int .i64 3, .int .u32 14, .bool true, .bool false], .int .i64 0]) ∧ Below w.heap.size w w') := fun w => leaf_any true true true w
  have HLb : Hid (∀ w, Calls Tryd.prog 14 #[.agg #[.bool true, .bool true, .bool true]] w fun e w' => e = .returned (.tuple #[.agg #[.int .i64 3, .int .u32 14, .bool true, .bool false], .int .i64 0]) ∧ Below w.heap.size w w') := fun w => leaf_any true true true w
  have HA1 : Hid (∀ w, TP w → Calls Tryd.prog 8 #[.agg #[.int .i64 3, .int .u32 14, .bool true, .bool false], .bool false, .bool false, .int .i64 1] w fun e w' => e = .returned (.bool true) ∧ Below w.heap.size w w') := fun w hw => allows_any 3 14 true false false false 1 w hw
  have HA2 : Hid (∀ w, TP w → Calls Tryd.prog 8 #[.agg #[.int .i64 3, .int .u32 14, .bool true, .bool false], .bool false, .bool false, .int .i64 2] w fun e w' => e = .returned (.bool true) ∧ Below w.heap.size w w') := fun w hw => allows_any 3 14 true false false false 2 w hw
  have HA3 : Hid (∀ w, TP w → Calls Tryd.prog 8 #[.agg #[.int .i64 3, .int .u32 14, .bool true, .bool false], .bool false, .bool false, .int .i64 3] w fun e w' => e = .returned (.bool true) ∧ Below w.heap.size w w') := fun w hw => allows_any 3 14 true false false false 3 w hw
  have HB1 : Hid (∀ w, TP w → Calls Tryd.prog 8 #[.agg #[.int .i64 3, .int .u32 14, .bool true, .bool false], .bool false, .bool false, .int .i64 1] w fun e w' => e = .returned (.bool true) ∧ Below w.heap.size w w') := fun w hw => allows_any 3 14 true false false false 1 w hw
  have HB2 : Hid (∀ w, TP w → Calls Tryd.prog 8 #[.agg #[.int .i64 3, .int .u32 14, .bool true, .bool false], .bool false, .bool false, .int .i64 2] w fun e w' => e = .returned (.bool true) ∧ Below w.heap.size w w') := fun w hw => allows_any 3 14 true false false false 2 w hw
  have HB3 : Hid (∀ w, TP w → Calls Tryd.prog 8 #[.agg #[.int .i64 3, .int .u32 14, .bool true, .bool false], .bool false, .bool false, .int .i64 3] w fun e w' => e = .returned (.bool true) ∧ Below w.heap.size w w') := fun w hw => allows_any 3 14 true false false false 3 w hw
  have HP2 : Hid (∀ w, TP w → Calls Tryd.prog 8 #[.agg #[.int .i64 3, .int .u32 14, .bool true, .bool false], .bool false, .bool true, .int .i64 2] w fun e w' => e = .returned (.bool true) ∧ Below w.heap.size w w') := fun w hw => allows_any 3 14 true false false true 2 w hw
  have HP3 : Hid (∀ w, TP w → Calls Tryd.prog 8 #[.agg #[.int .i64 3, .int .u32 14, .bool true, .bool false], .bool false, .bool true, .int .i64 3] w fun e w' => e = .returned (.bool true) ∧ Below w.heap.size w w') := fun w hw => allows_any 3 14 true false false true 3 w hw
  have HT : Hid (TA w) := hT
  have HW0 : Hid (Below w.heap.size w w) := Below.refl _ _
  clear hT
  go_enter Tryd.func6, Tryd.ntmps6
  have HWaa : Hid (Below w.heap.size w (w.alloc (.cells #[.bool true, .bool true, .bool true] 39))) := Below.alloc HW0.out HW0.out.size _
  have HBa_0 : Hid (Bl (w.alloc (.cells #[.bool true, .bool true, .bool true] 39)) w.heap.size 39 [.bool true, .bool true, .bool true]) := Bl.new _ _ _
  clear HW0
  have HWb : Hid (Below w.heap.size w ((w.alloc (.cells #[.bool true, .bool true, .bool true] 39)).alloc (.cells #[.bool true, .bool true, .bool true] 39))) := Below.alloc HWaa.out HWaa.out.size _
  have HBa_b : Hid (Bl ((w.alloc (.cells #[.bool true, .bool true, .bool true] 39)).alloc (.cells #[.bool true, .bool true, .bool true] 39)) w.heap.size 39 [.bool true, .bool true, .bool true]) := HBa_0.out.below (below_new _ _)
  have hsz : (w.alloc (.cells #[.bool true, .bool true, .bool true] 39)).heap.size = w.heap.size + 1 := by simp
  have hbb := Bl.new (w.alloc (.cells #[.bool true, .bool true, .bool true] 39)) 39 [.bool true, .bool true, .bool true]
  rw [hsz] at hbb
  have HBb_0 : Hid (Bl ((w.alloc (.cells #[.bool true, .bool true, .bool true] 39)).alloc (.cells #[.bool true, .bool true, .bool true] 39)) (w.heap.size + 1) 39 [.bool true, .bool true, .bool true]) := hbb
  clear hbb hsz HWaa HBa_0
  go_wp2_with (fail)
  go_at_call 12
  refine (alive_any _ (HT.out.below HWb.out)).mono ?_
  rintro e w1 ⟨rfl, hb⟩
  have HW1 : Hid (Below w.heap.size w w1) := Below.step HWb.out hb
  have HBa_1 : Hid (Bl w1 w.heap.size 39 [.bool true, .bool true, .bool true]) := HBa_b.out.below hb
  have HBb_1 : Hid (Bl w1 (w.heap.size + 1) 39 [.bool true, .bool true, .bool true]) := HBb_0.out.below hb
  clear hb HWb HBa_b HBb_0
  have c0 := HBa_1.out.cell
  have f0 := HBa_1.out.frozen
  have l0 := HBa_1.out.lt
  have c1 := HBb_1.out.cell
  have f1 := HBb_1.out.frozen
  have l1 := HBb_1.out.lt
  go_wp2_with (fail)
  go_at_call 14
  refine (HLa.out _).mono ?_
  rintro e w2 ⟨rfl, hb⟩
  clear c0 f0 l0 c1 f1 l1
  have HW2 : Hid (Below w.heap.size w w2) := Below.step HW1.out hb
  have HBa_2 : Hid (Bl w2 w.heap.size 39 [.bool true, .bool true, .bool true]) := HBa_1.out.below hb
  have HBb_2 : Hid (Bl w2 (w.heap.size + 1) 39 [.bool true, .bool true, .bool true]) := HBb_1.out.below hb
  clear hb HW1 HBa_1 HBb_1
  have c0 := HBa_2.out.cell
  have f0 := HBa_2.out.frozen
  have l0 := HBa_2.out.lt
  have c1 := HBb_2.out.cell
  have f1 := HBb_2.out.frozen
  have l1 := HBb_2.out.lt
  have n0l : ¬ (w.heap.size = w2.heap.size) := by omega
  have n1l : ¬ ((w.heap.size + 1) = w2.heap.size) := by omega
  have HWal : Hid (Below w.heap.size w (w2.alloc (.cells #[.int .i64 3, .int .u32 14, .bool true, .bool false] 24))) := Below.alloc HW2.out HW2.out.size _
  have HBa_l : Hid (Bl (w2.alloc (.cells #[.int .i64 3, .int .u32 14, .bool true, .bool false] 24)) w.heap.size 39 [.bool true, .bool true, .bool true]) := HBa_2.out.below (below_new _ _)
  have HBb_l : Hid (Bl (w2.alloc (.cells #[.int .i64 3, .int .u32 14, .bool true, .bool false] 24)) (w.heap.size + 1) 39 [.bool true, .bool true, .bool true]) := HBb_2.out.below (below_new _ _)
  have HBl_0 : Hid (Bl (w2.alloc (.cells #[.int .i64 3, .int .u32 14, .bool true, .bool false] 24)) w2.heap.size 24 [.int .i64 3, .int .u32 14, .bool true, .bool false]) := Bl.new _ _ _
  clear HW2 HBa_2 HBb_2
  go_wp2_with (fail)
  go_at_call 14
  refine (HLb.out _).mono ?_
  rintro e w3 ⟨rfl, hb⟩
  clear c0 f0 l0 c1 f1 l1
  have HW3 : Hid (Below w.heap.size w w3) := Below.step HWal.out hb
  have HBa_3 : Hid (Bl w3 w.heap.size 39 [.bool true, .bool true, .bool true]) := HBa_l.out.below hb
  have HBb_3 : Hid (Bl w3 (w.heap.size + 1) 39 [.bool true, .bool true, .bool true]) := HBb_l.out.below hb
  have HBl_3 : Hid (Bl w3 w2.heap.size 24 [.int .i64 3, .int .u32 14, .bool true, .bool false]) := HBl_0.out.below hb
  clear hb HWal HBa_l HBb_l HBl_0
  have c0 := HBa_3.out.cell
  have f0 := HBa_3.out.frozen
  have l0 := HBa_3.out.lt
  have c1 := HBb_3.out.cell
  have f1 := HBb_3.out.frozen
  have l1 := HBb_3.out.lt
  have c2 := HBl_3.out.cell
  have f2 := HBl_3.out.frozen
  have l2 := HBl_3.out.lt
  have n0m : ¬ (w.heap.size = w3.heap.size) := by omega
  have n1m : ¬ ((w.heap.size + 1) = w3.heap.size) := by omega
  have n2m : ¬ (w2.heap.size = w3.heap.size) := by omega
  have HWam : Hid (Below w.heap.size w (w3.alloc (.cells #[.int .i64 3, .int .u32 14, .bool true, .bool false] 24))) := Below.alloc HW3.out HW3.out.size _
  have HBa_m : Hid (Bl (w3.alloc (.cells #[.int .i64 3, .int .u32 14, .bool true, .bool false] 24)) w.heap.size 39 [.bool true, .bool true, .bool true]) := HBa_3.out.below (below_new _ _)
  have HBb_m : Hid (Bl (w3.alloc (.cells #[.int .i64 3, .int .u32 14, .bool true, .bool false] 24)) (w.heap.size + 1) 39 [.bool true, .bool true, .bool true]) := HBb_3.out.below (below_new _ _)
  have HBl_m : Hid (Bl (w3.alloc (.cells #[.int .i64 3, .int .u32 14, .bool true, .bool false] 24)) w2.heap.size 24 [.int .i64 3, .int .u32 14, .bool true, .bool false]) := HBl_3.out.below (below_new _ _)
  have HBm_0 : Hid (Bl (w3.alloc (.cells #[.int .i64 3, .int .u32 14, .bool true, .bool false] 24)) w3.heap.size 24 [.int .i64 3, .int .u32 14, .bool true, .bool false]) := Bl.new _ _ _
  clear HW3 HBa_3 HBb_3 HBl_3
  have hsz : (w3.alloc (.cells #[.int .i64 3, .int .u32 14, .bool true, .bool false] 24)).heap.size = w3.heap.size + 1 := by simp
  have hbv := Bl.new (w3.alloc (.cells #[.int .i64 3, .int .u32 14, .bool true, .bool false] 24)) 42 [.bool false, .bool true, .bool true, .bool true]
  rw [hsz] at hbv
  have HX0 : Hid (MX w ((w3.alloc (.cells #[.int .i64 3, .int .u32 14, .bool true, .bool false] 24)).alloc (.cells #[.bool false, .bool true, .bool true, .bool true] 42)) w2.heap.size w3.heap.size (w3.heap.size + 1) [.int .i64 3, .int .u32 14, .bool true, .bool false] [.int .i64 3, .int .u32 14, .bool true, .bool false] [.bool false, .bool true, .bool true, .bool true]) := ⟨Below.alloc HWam.out HWam.out.size _, HBl_m.out.below (below_new _ _), HBm_0.out.below (below_new _ _), hbv⟩
  clear hsz hbv
  go_wp2
  generalize w2.heap.size = b1 at *
  generalize w3.heap.size = b2 at *
  clear HWam HBa_m HBb_m HBl_m HBm_0 c0 f0 l0 c1 f1 l1 c2 f2 l2
  go_loopw [11] (fun i wr => ∃ (k : Nat), 1 ≤ k ∧ k ≤ 4 ∧ i = .int .i64 k ∧ MX w wr b1 b2 (b2 + 1) [.int .i64 3, .int .u32 14, .bool true, .bool false] [.int .i64 3, .int .u32 14, .bool true, .bool false] [.bool false, .bool true, .bool true, .bool true]) (fun i _ => 4 - (intOf i).toNat)
  case atStart => exact ⟨1, by omega, by omega, rfl, HX0.out⟩
  case round =>
    obtain ⟨k, hk1, hk, rfl, hX⟩ := hrel
    have HX1 := hidM hX
    clear hX HX0
    rcases (show k = 1 ∨ k = 2 ∨ k = 3 ∨ k = 4 by omega) with rfl | rfl | rfl | rfl
    · clear hk1 hk
      have c0 := HX1.out.l.cell
      have c1 := HX1.out.m.cell
      have c2 := HX1.out.v.cell
      go_wp2_with (fail)
      go_at_call 8
      refine (HA1.out _ (HT.out.below HX1.out.bel).p).mono ?_
      rintro e w8 ⟨rfl, hb⟩
      have HX2 := hidM (HX1.out.step hb)
      clear hb HX1 c0 c1 c2
      have c0 := HX2.out.l.cell
      have c1 := HX2.out.m.cell
      have c2 := HX2.out.v.cell
      go_wp2_with (fail)
      go_at_call 8
      refine (HB1.out _ (HT.out.below HX2.out.bel).p).mono ?_
      rintro e w9 ⟨rfl, hb⟩
      have HX3 := hidM (HX2.out.step hb)
      clear hb HX2 c0 c1 c2
      have c0 := HX3.out.l.cell
      have c1 := HX3.out.m.cell
      have c2 := HX3.out.v.cell
      go_wp2
      go_roundw
      case rel => exact ⟨2, by omega, by omega, rfl, HX3.out⟩
      case measure => simp [intOf]
    · clear hk1 hk
      have c0 := HX1.out.l.cell
      have c1 := HX1.out.m.cell
      have c2 := HX1.out.v.cell
      go_wp2_with (fail)
      go_at_call 8
      refine (HA2.out _ (HT.out.below HX1.out.bel).p).mono ?_
      rintro e w8 ⟨rfl, hb⟩
      have HX2 := hidM (HX1.out.step hb)
      clear hb HX1 c0 c1 c2
      have c0 := HX2.out.l.cell
      have c1 := HX2.out.m.cell
      have c2 := HX2.out.v.cell
      go_wp2_with (fail)
      go_at_call 8
      refine (HB2.out _ (HT.out.below HX2.out.bel).p).mono ?_
      rintro e w9 ⟨rfl, hb⟩
      have HX3 := hidM (HX2.out.step hb)
      clear hb HX2 c0 c1 c2
      have c0 := HX3.out.l.cell
      have c1 := HX3.out.m.cell
      have c2 := HX3.out.v.cell
      go_wp2
      go_roundw
      case rel => exact ⟨3, by omega, by omega, rfl, HX3.out⟩
      case measure => simp [intOf]
    · clear hk1 hk
      have c0 := HX1.out.l.cell
      have c1 := HX1.out.m.cell
      have c2 := HX1.out.v.cell
      go_wp2_with (fail)
      go_at_call 8
      refine (HA3.out _ (HT.out.below HX1.out.bel).p).mono ?_
      rintro e w8 ⟨rfl, hb⟩
      have HX2 := hidM (HX1.out.step hb)
      clear hb HX1 c0 c1 c2
      have c0 := HX2.out.l.cell
      have c1 := HX2.out.m.cell
      have c2 := HX2.out.v.cell
      go_wp2_with (fail)
      go_at_call 8
      refine (HB3.out _ (HT.out.below HX2.out.bel).p).mono ?_
      rintro e w9 ⟨rfl, hb⟩
      have HX3 := hidM (HX2.out.step hb)
      clear hb HX2 c0 c1 c2
      have c0 := HX3.out.l.cell
      have c1 := HX3.out.m.cell
      have c2 := HX3.out.v.cell
      go_wp2
      go_roundw
      case rel => exact ⟨4, by omega, by omega, rfl, HX3.out⟩
      case measure => simp [intOf]
    · clear hk1 hk
      have c0 := HX1.out.l.cell
      have c1 := HX1.out.m.cell
      have c2 := HX1.out.v.cell
      go_wp2_with (fail)
      go_at_call 8
      refine (HP2.out _ (HT.out.below HX1.out.bel).p).mono ?_
      rintro e w8 ⟨rfl, hb⟩
      have HX2 := hidM (HX1.out.step hb)
      clear hb HX1 c0 c1 c2
      have c0 := HX2.out.l.cell
      have c1 := HX2.out.m.cell
      have c2 := HX2.out.v.cell
      go_wp2_with (fail)
      go_at_call 8
      refine (HP3.out _ (HT.out.below HX2.out.bel).p).mono ?_
      rintro e w9 ⟨rfl, hb⟩
      have HX3 := hidM (HX2.out.step hb)
      clear hb HX2 c0 c1 c2
      go_wp2
      go_ret
      exact ⟨rfl, HX3.out.bel⟩
end Go.Proofs.YtmmocnejacflmaaDoor
