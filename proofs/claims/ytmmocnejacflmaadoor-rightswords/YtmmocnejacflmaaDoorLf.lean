import Derived.Test.YtmmocnejacflmaaDoorQf
namespace Go.Proofs.YtmmocnejacflmaaDoor
open Go.RowKit
set_option linter.unusedVariables false
set_option linter.unusedSimpArgs false
set_option maxRecDepth 100000 in
theorem eqF (a b : Fa) (w : World) : (Op.equalIn 10000 28 (.agg #[.int .i64 a.k, .int .i64 a.l, .int .i64 a.d]) (.agg #[.int .i64 b.k, .int .i64 b.l, .int .i64 b.d])).run Tryd.prog w = .ok (a.same b) w := by
  obtain ⟨a1, a2, a3⟩ := a
  obtain ⟨b1, b2, b3⟩ := b
  go_simp
  simp only [Fa.same]
  repeat' split
  all_goals simp_all
set_option maxRecDepth 100000 in
set_option maxHeartbeats 1000000 in
theorem law_fault (x : Int) (w : World) (hT : TF w) (hx : 0 ≤ x ∧ x < 4294967296) :
    Calls Tryd.prog 7 #[.int .u32 x] w fun e w' => e = .returned (.bool true) ∧ Below w.heap.size w w' := by
  have HP : Hid (∀ w, TF w → Calls Tryd.prog 13 #[.int .u32 x] w fun r w' => r = .returned (.tuple #[.agg #[.int .i64 (fF x).k, .int .i64 (fF x).l, .int .i64 (fF x).d], .bool (fB x), .int .i64 (fE x)]) ∧ Below w.heap.size w w') := fun w hw => faultP_any x w hw hx
  have HQ : Hid (∀ w, Calls Tryd.prog 15 #[.int .u32 x] w fun r w' => r = .returned (.tuple #[.agg #[.int .i64 (fF x).k, .int .i64 (fF x).l, .int .i64 (fF x).d], .bool (fB x), .int .i64 (fE x)]) ∧ Below w.heap.size w w') := fun w => rfault_any x w hx
  generalize fF x = A at *
  generalize fB x = B at *
  generalize fE x = C at *
  have eA := eqF A A
  rw [Fa.same_self] at eA
  have HT : Hid (TF w) := hT
  have HW0 : Hid (Below w.heap.size w w) := Below.refl _ _
  clear hT hx
  go_enter Tryd.func7, Tryd.ntmps7
  go_wp2_with (fail)
  go_at_call 13
  refine (HP.out _ (HT.out.below HW0.out)).mono ?_
  rintro e w1 ⟨rfl, hb⟩
  have HW1 : Hid (Below w.heap.size w w1) := Below.step HW0.out hb
  clear hb HW0
  have HWaa : Hid (Below w.heap.size w (w1.alloc (.cells #[.int .i64 A.k, .int .i64 A.l, .int .i64 A.d] 28))) := Below.alloc HW1.out HW1.out.size _
  have HBa_0 : Hid (Bl (w1.alloc (.cells #[.int .i64 A.k, .int .i64 A.l, .int .i64 A.d] 28)) w1.heap.size 28 [.int .i64 A.k, .int .i64 A.l, .int .i64 A.d]) := Bl.new _ _ _
  clear HW1
  go_wp2_with (fail)
  go_at_call 15
  refine (HQ.out _).mono ?_
  rintro e w2 ⟨rfl, hb⟩
  have HW2 : Hid (Below w.heap.size w w2) := Below.step HWaa.out hb
  have HBa_2 : Hid (Bl w2 w1.heap.size 28 [.int .i64 A.k, .int .i64 A.l, .int .i64 A.d]) := HBa_0.out.below hb
  clear hb HWaa HBa_0
  have c0 := HBa_2.out.cell
  have f0 := HBa_2.out.frozen
  have l0 := HBa_2.out.lt
  have n0b : ¬ (w1.heap.size = w2.heap.size) := by omega
  have HWab : Hid (Below w.heap.size w (w2.alloc (.cells #[.int .i64 A.k, .int .i64 A.l, .int .i64 A.d] 28))) := Below.alloc HW2.out HW2.out.size _
  have HBa_b : Hid (Bl (w2.alloc (.cells #[.int .i64 A.k, .int .i64 A.l, .int .i64 A.d] 28)) w1.heap.size 28 [.int .i64 A.k, .int .i64 A.l, .int .i64 A.d]) := HBa_2.out.below (below_new _ _)
  have HBb_0 : Hid (Bl (w2.alloc (.cells #[.int .i64 A.k, .int .i64 A.l, .int .i64 A.d] 28)) w2.heap.size 28 [.int .i64 A.k, .int .i64 A.l, .int .i64 A.d]) := Bl.new _ _ _
  clear HW2 HBa_2
  go_wp2
  go_ret
  exact ⟨rfl, HWab.out⟩
end Go.Proofs.YtmmocnejacflmaaDoor
