import Derived.Test.YtmmocnejacflmabDoorRk0
namespace Go.Proofs.YtmmocnejacflmabDoor
open Go.RowKit
set_option linter.unusedVariables false
set_option linter.unusedSimpArgs false

set_option maxRecDepth 100000 in
set_option maxHeartbeats 8000000 in
theorem rright_4 (t2 t3 t4 t5 t6 : Int) (t7 t8 : Bool) (W : World) (P L a b Q z : Bool) (hw : t2 % 18446744073709551616 = t2) (ha : decide (t4 < 0) = a) (hb : decide (15 < t4) = b) (hz : (t4 == 0) = z)
    (HS : ∀ w, Calls Tryd.prog 33 #[.int .i64 4] w fun e w' => e = .returned (.int .i64 24) ∧ w = w')
    (HV : ∀ w, Calls Tryd.prog 34 #[.int .u64 t2, .int .i64 24, .int .i64 32] w fun e w' => e = .returned (.bool P) ∧ w = w')
    (HQ : ∀ w, Calls Tryd.prog 34 #[.int .u64 t3, .int .i64 24, .int .i64 40] w fun e w' => e = .returned (.bool Q) ∧ w = w')
    (HL : ∀ w, Calls Tryd.prog 35 #[.agg #[.int .i64 t5, .int .u32 t6, .bool t7, .bool t8]] w fun e w' => e = .returned (.bool L) ∧ Below w.heap.size w w') :
    Calls Tryd.prog 23 #[.agg #[.int .i64 4, .int .u32 t2, .int .u64 t3, .int .i64 t4, .int .i64 t5, .int .u32 t6, .bool t7, .bool t8]] W fun r w' => r = .returned (.bool (if P && (L && (!a && !b)) then Q && z else false)) ∧ Below W.heap.size W w' := by
  have hN := Bl.new W 35 [.int .i64 4, .int .u32 t2, .int .u64 t3, .int .i64 t4, .int .i64 t5, .int .u32 t6, .bool t7, .bool t8]
  have HB0 : Hid (∀ o, Below W.heap.size W (W.alloc o)) := fun o => ((Below.refl _ _).alloc (Nat.le_refl _) o)
  cases P <;> cases L <;> cases a <;> cases b <;> cases Q
  all_goals
    go_enter Tryd.func23, Tryd.ntmps23
    go_wp2_with (first
      | (go_at_call 33; refine (HS _).mono ?_; rintro e w' ⟨rfl, rfl⟩)
      | (go_at_call_of 34 (Value.int IntKind.u64 t2); refine (HV _).mono ?_; rintro e w' ⟨rfl, rfl⟩)
      | (go_at_call_of 34 (Value.int IntKind.u64 t3); refine (HQ _).mono ?_; rintro e w' ⟨rfl, rfl⟩)
      | (go_at_call 35; refine (HL _).mono ?_; rintro e w2 ⟨rfl, hbb⟩; have hx2 := hN.below hbb; have HBL : Hid (Below W.heap.size W w2) := Below.one hbb; clear hbb hN; have hc := hx2.cell)
      | go_in)
    go_ret
    exact ⟨rfl, (by first | exact HBL.out | exact HB0.out _)⟩
end Go.Proofs.YtmmocnejacflmabDoor
