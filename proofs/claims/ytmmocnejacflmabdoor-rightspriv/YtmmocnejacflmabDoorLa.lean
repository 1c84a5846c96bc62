import Derived.Test.YtmmocnejacflmabDoorGa
import Derived.Test.YtmmocnejacflmabDoorGs
namespace Go.Proofs.YtmmocnejacflmabDoor
open Go.RowKit
set_option linter.unusedVariables false
set_option linter.unusedSimpArgs false
/-- All the tables. -/
structure TA (w : World) : Prop where
  p : TP w
  f : TF w
theorem TA.below {w w' : World} (h : TA w) (hb : Below w.heap.size w w') : TA w' := ⟨h.p.below hb, h.f.below hb⟩
set_option maxRecDepth 100000 in
set_option maxHeartbeats 1000000 in
theorem alive_any (w : World) (hT : TA w) : Calls Tryd.prog 11 #[] w fun e w' => e = .returned (.bool true) ∧ Below w.heap.size w w' := by
  have HS : Hid (∀ w, TF w → Calls Tryd.prog 18 #[.agg #[.int .i64 9, .int .i64 2, .int .i64 1], .bool true] w fun e w' => e = .returned (.tuple #[.int .u32 2079, .int .i64 0]) ∧ Below w.heap.size w w') := fun w hw => status_any ⟨9, 2, 1⟩ true w hw
  have HA : Hid (∀ w, TP w → Calls Tryd.prog 13 #[.agg #[.int .i64 2, .int .u32 0, .bool false, .bool true], .bool false, .bool false, .int .i64 2] w fun e w' => e = .returned (.bool true) ∧ Below w.heap.size w w') := fun w hw => allows_any 2 0 false true false false 2 w hw
  have HC : Hid (∀ w, TP w → Calls Tryd.prog 13 #[.agg #[.int .i64 2, .int .u32 0, .bool false, .bool true], .bool false, .bool false, .int .i64 3] w fun e w' => e = .returned (.bool false) ∧ Below w.heap.size w w') := fun w hw => allows_any 2 0 false true false false 3 w hw
  have HT : Hid (TA w) := hT
  have HW0 : Hid (Below w.heap.size w w) := Below.refl _ _
  clear hT
  go_enter Tryd.func11, Tryd.ntmps11
  have HWaa : Hid (Below w.heap.size w (w.alloc (.cells #[.int .i64 2, .int .u32 0, .bool false, .bool true] 24))) := Below.alloc HW0.out HW0.out.size _
  have HBa_0 : Hid (Bl (w.alloc (.cells #[.int .i64 2, .int .u32 0, .bool false, .bool true] 24)) w.heap.size 24 [.int .i64 2, .int .u32 0, .bool false, .bool true]) := Bl.new _ _ _
  clear HW0
  go_wp2_with (fail)
  go_at_call 18
  refine (HS.out _ (HT.out.below HWaa.out).f).mono ?_
  rintro e w1 ⟨rfl, hb⟩
  have HW1 : Hid (Below w.heap.size w w1) := Below.step HWaa.out hb
  have HBa_1 : Hid (Bl w1 w.heap.size 24 [.int .i64 2, .int .u32 0, .bool false, .bool true]) := HBa_0.out.below hb
  clear hb HWaa HBa_0
  have c0 := HBa_1.out.cell
  have f0 := HBa_1.out.frozen
  have l0 := HBa_1.out.lt
  go_wp2_with (fail)
  go_at_call 13
  refine (HA.out _ (HT.out.below HW1.out).p).mono ?_
  rintro e w2 ⟨rfl, hb⟩
  clear c0 f0 l0
  have HW2 : Hid (Below w.heap.size w w2) := Below.step HW1.out hb
  have HBa_2 : Hid (Bl w2 w.heap.size 24 [.int .i64 2, .int .u32 0, .bool false, .bool true]) := HBa_1.out.below hb
  clear hb HW1 HBa_1
  have c0 := HBa_2.out.cell
  have f0 := HBa_2.out.frozen
  have l0 := HBa_2.out.lt
  go_wp2_with (fail)
  go_at_call 13
  refine (HC.out _ (HT.out.below HW2.out).p).mono ?_
  rintro e w3 ⟨rfl, hb⟩
  clear c0 f0 l0
  have HW3 : Hid (Below w.heap.size w w3) := Below.step HW2.out hb
  have HBa_3 : Hid (Bl w3 w.heap.size 24 [.int .i64 2, .int .u32 0, .bool false, .bool true]) := HBa_2.out.below hb
  clear hb HW2 HBa_2
  have c0 := HBa_3.out.cell
  have f0 := HBa_3.out.frozen
  have l0 := HBa_3.out.lt
  go_wp2
  go_ret
  exact ⟨rfl, HW3.out⟩
end Go.Proofs.YtmmocnejacflmabDoor
