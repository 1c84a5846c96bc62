import Derived.Test.YtcpcmjmgiagnoabDoorRf
namespace Go.Proofs.YtcpcmjmgiagnoabDoor
open Go.RowKit
set_option linter.unusedVariables false
set_option linter.unusedSimpArgs false

set_option maxRecDepth 100000 in
set_option maxHeartbeats 8000000 in
theorem says2_4 (k2 k3 : Int) (k4 : Bool) (k5 k6 : Int) (k7 k8 : Bool) (W : World) (P : Bool) (HP : ∀ w, Calls Tryd.prog 36 #[.int .u64 k2, .int .i64 16, .int .i64 32] w fun e w' => e = .returned (.bool P) ∧ w = w') (z : Bool) (hz : (k3 == 0) = z) (L : Bool) (HL : ∀ w, Calls Tryd.prog 37 #[.agg #[.int .i64 k5, .int .u32 k6, .bool k7, .bool k8]] w fun e w' => e = .returned (.bool L) ∧ Below w.heap.size w w') :
    Calls Tryd.prog 30 #[.agg #[.int .i64 4, .int .u64 k2, .int .i64 k3, .bool k4, .int .i64 k5, .int .u32 k6, .bool k7, .bool k8]] W fun r w' => r = .returned (.bool (P && (z && (!k4 && L)))) ∧ Below W.heap.size W w' := by
  have hN := Bl.new W 28 [.int .i64 4, .int .u64 k2, .int .i64 k3, .bool k4, .int .i64 k5, .int .u32 k6, .bool k7, .bool k8]
  have HB0 : Hid (∀ o, Below W.heap.size W (W.alloc o)) := fun o => ((Below.refl _ _).alloc (Nat.le_refl _) o)
  cases P <;> cases z <;> cases k4 <;> cases L
  all_goals
    go_enter Tryd.func30, Tryd.ntmps30
    go_wp2_with (first
      | (go_at_call 36; refine (HP _).mono ?_; rintro e w' ⟨rfl, rfl⟩)
      | (go_at_call 37; refine (HL _).mono ?_; rintro e w2 ⟨rfl, hb⟩; have HBL : Hid (Below W.heap.size W w2) := Below.one hb; clear hb)
      | go_in)
    go_ret
    exact ⟨rfl, (by first | exact HBL.out | exact HB0.out _)⟩
set_option maxRecDepth 100000 in
set_option maxHeartbeats 8000000 in
theorem says2_5 (k2 k3 : Int) (k4 : Bool) (k5 k6 : Int) (k7 k8 : Bool) (W : World) (P : Bool) (HP : ∀ w, Calls Tryd.prog 36 #[.int .u64 k2, .int .i64 12, .int .i64 32] w fun e w' => e = .returned (.bool P) ∧ w = w') (z : Bool) (hz : (k3 == 0) = z) (L : Bool) (HL : ∀ w, Calls Tryd.prog 37 #[.agg #[.int .i64 k5, .int .u32 k6, .bool k7, .bool k8]] w fun e w' => e = .returned (.bool L) ∧ Below w.heap.size w w') :
    Calls Tryd.prog 30 #[.agg #[.int .i64 5, .int .u64 k2, .int .i64 k3, .bool k4, .int .i64 k5, .int .u32 k6, .bool k7, .bool k8]] W fun r w' => r = .returned (.bool (P && (z && (!k4 && L)))) ∧ Below W.heap.size W w' := by
  have hN := Bl.new W 28 [.int .i64 5, .int .u64 k2, .int .i64 k3, .bool k4, .int .i64 k5, .int .u32 k6, .bool k7, .bool k8]
  have HB0 : Hid (∀ o, Below W.heap.size W (W.alloc o)) := fun o => ((Below.refl _ _).alloc (Nat.le_refl _) o)
  cases P <;> cases z <;> cases k4 <;> cases L
  all_goals
    go_enter Tryd.func30, Tryd.ntmps30
    go_wp2_with (first
      | (go_at_call 36; refine (HP _).mono ?_; rintro e w' ⟨rfl, rfl⟩)
      | (go_at_call 37; refine (HL _).mono ?_; rintro e w2 ⟨rfl, hb⟩; have HBL : Hid (Below W.heap.size W w2) := Below.one hb; clear hb)
      | go_in)
    go_ret
    exact ⟨rfl, (by first | exact HBL.out | exact HB0.out _)⟩
end Go.Proofs.YtcpcmjmgiagnoabDoor
