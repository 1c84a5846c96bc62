import Derived.Test.YtmmocnejacflmaaDoorGs
import Derived.Test.YtmmocnejacflmaaDoorQs
namespace Go.Proofs.YtmmocnejacflmaaDoor
open Go.RowKit
set_option linter.unusedVariables false
set_option linter.unusedSimpArgs false
set_option maxRecDepth 100000 in
set_option maxHeartbeats 1000000 in
theorem law_status (f : Fa) (w : World) (hT : TF w) :
    Calls Tryd.prog 4 #[.agg #[.int .i64 f.k, .int .i64 f.l, .int .i64 f.d]] w fun e w' => e = .returned (.bool true) ∧ Below w.heap.size w w' := by
  have HP1 : Hid (∀ w, TF w → Calls Tryd.prog 10 #[.agg #[.int .i64 f.k, .int .i64 f.l, .int .i64 f.d], .bool false] w fun e w' => e = .returned (.tuple #[.int .u32 (stF f false).1, .int .i64 (stF f false).2]) ∧ Below w.heap.size w w') := fun w hw => status_any f false w hw
  have HQ1 : Hid (∀ w, Calls Tryd.prog 11 #[.agg #[.int .i64 f.k, .int .i64 f.l, .int .i64 f.d], .bool false] w fun e w' => e = .returned (.tuple #[.int .u32 (stF f false).1, .int .i64 (stF f false).2]) ∧ Below w.heap.size w w') := fun w => rstatus_any f false w
  have HP2 : Hid (∀ w, TF w → Calls Tryd.prog 10 #[.agg #[.int .i64 f.k, .int .i64 f.l, .int .i64 f.d], .bool true] w fun e w' => e = .returned (.tuple #[.int .u32 (stF f true).1, .int .i64 (stF f true).2]) ∧ Below w.heap.size w w') := fun w hw => status_any f true w hw
  have HQ2 : Hid (∀ w, Calls Tryd.prog 11 #[.agg #[.int .i64 f.k, .int .i64 f.l, .int .i64 f.d], .bool true] w fun e w' => e = .returned (.tuple #[.int .u32 (stF f true).1, .int .i64 (stF f true).2]) ∧ Below w.heap.size w w') := fun w => rstatus_any f true w
  generalize (stF f false).1 = A at *
  generalize (stF f false).2 = B at *
  generalize (stF f true).1 = C at *
  generalize (stF f true).2 = D at *
  have HT : Hid (TF w) := hT
  have HW0 : Hid (Below w.heap.size w w) := Below.refl _ _
  clear hT
  go_enter Tryd.func4, Tryd.ntmps4
  have HWaa : Hid (Below w.heap.size w (w.alloc (.cells #[.int .i64 f.k, .int .i64 f.l, .int .i64 f.d] 28))) := Below.alloc HW0.out HW0.out.size _
  have HBa_0 : Hid (Bl (w.alloc (.cells #[.int .i64 f.k, .int .i64 f.l, .int .i64 f.d] 28)) w.heap.size 28 [.int .i64 f.k, .int .i64 f.l, .int .i64 f.d]) := Bl.new _ _ _
  clear HW0
  go_wp2_with (fail)
  go_at_call 10
  refine (HP1.out _ (HT.out.below HWaa.out)).mono ?_
  rintro e w1 ⟨rfl, hb⟩
  have HW1 : Hid (Below w.heap.size w w1) := Below.step HWaa.out hb
  have HBa_1 : Hid (Bl w1 w.heap.size 28 [.int .i64 f.k, .int .i64 f.l, .int .i64 f.d]) := HBa_0.out.below hb
  clear hb HWaa HBa_0
  have c0 := HBa_1.out.cell
  have f0 := HBa_1.out.frozen
  have l0 := HBa_1.out.lt
  go_wp2_with (fail)
  go_at_call 11
  refine (HQ1.out _).mono ?_
  rintro e w2 ⟨rfl, hb⟩
  clear c0 f0 l0
  have HW2 : Hid (Below w.heap.size w w2) := Below.step HW1.out hb
  have HBa_2 : Hid (Bl w2 w.heap.size 28 [.int .i64 f.k, .int .i64 f.l, .int .i64 f.d]) := HBa_1.out.below hb
  clear hb HW1 HBa_1
  have c0 := HBa_2.out.cell
  have f0 := HBa_2.out.frozen
  have l0 := HBa_2.out.lt
  go_wp2_with (fail)
  go_at_call 10
  refine (HP2.out _ (HT.out.below HW2.out)).mono ?_
  rintro e w3 ⟨rfl, hb⟩
  clear c0 f0 l0
  have HW3 : Hid (Below w.heap.size w w3) := Below.step HW2.out hb
  have HBa_3 : Hid (Bl w3 w.heap.size 28 [.int .i64 f.k, .int .i64 f.l, .int .i64 f.d]) := HBa_2.out.below hb
  clear hb HW2 HBa_2
  have c0 := HBa_3.out.cell
  have f0 := HBa_3.out.frozen
  have l0 := HBa_3.out.lt
  go_wp2_with (fail)
  go_at_call 11
  refine (HQ2.out _).mono ?_
  rintro e w4 ⟨rfl, hb⟩
  clear c0 f0 l0
  have HW4 : Hid (Below w.heap.size w w4) := Below.step HW3.out hb
  have HBa_4 : Hid (Bl w4 w.heap.size 28 [.int .i64 f.k, .int .i64 f.l, .int .i64 f.d]) := HBa_3.out.below hb
  clear hb HW3 HBa_3
  have c0 := HBa_4.out.cell
  have f0 := HBa_4.out.frozen
  have l0 := HBa_4.out.lt
  go_wp2
  go_ret
  exact ⟨rfl, HW4.out⟩
end Go.Proofs.YtmmocnejacflmaaDoor
