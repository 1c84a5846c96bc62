import Derived.Test.YtcpcmjmgiagnoabDoorRf
namespace Go.Proofs.YtcpcmjmgiagnoabDoor
open Go.RowKit
set_option linter.unusedVariables false
set_option linter.unusedSimpArgs false

set_option maxRecDepth 100000 in
set_option maxHeartbeats 8000000 in
theorem says1_1 (k2 k3 : Int) (k4 : Bool) (k5 k6 : Int) (k7 k8 : Bool) (W : World) (P : Bool) (HP : ∀ w, Calls Tryd.prog 36 #[.int .u64 k2, .int .i64 10, .int .i64 32] w fun e w' => e = .returned (.bool P) ∧ w = w') (a b : Bool) (ha : decide (0 ≤ k3) = a) (hb : decide (k3 ≤ 15) = b) (L : Bool) (hl : ∀ w, (Op.equalIn 10000 26 (.agg #[.int .i64 k5, .int .u32 k6, .bool k7, .bool k8]) (.agg #[.int .i64 0, .int .u32 0, .bool false, .bool false])).run Tryd.prog w = .ok L w) :
    Calls Tryd.prog 25 #[.agg #[.int .i64 1, .int .u64 k2, .int .i64 k3, .bool k4, .int .i64 k5, .int .u32 k6, .bool k7, .bool k8]] W fun r w' => r = .returned (.bool (P && ((a && b) && L))) ∧ Below W.heap.size W w' := by
  have hN := Bl.new W 28 [.int .i64 1, .int .u64 k2, .int .i64 k3, .bool k4, .int .i64 k5, .int .u32 k6, .bool k7, .bool k8]
  have HB0 : Hid (∀ o, Below W.heap.size W (W.alloc o)) := fun o => ((Below.refl _ _).alloc (Nat.le_refl _) o)
  cases P <;> cases a <;> cases b <;> cases L
  all_goals
    go_enter Tryd.func25, Tryd.ntmps25
    go_wp2_with (first
      | (go_at_call 36; refine (HP _).mono ?_; rintro e w' ⟨rfl, rfl⟩)
      | go_in)
    go_ret
    exact ⟨rfl, (by first | exact HBL.out | exact HB0.out _)⟩
set_option maxRecDepth 100000 in
set_option maxHeartbeats 8000000 in
theorem says1_2 (k2 k3 : Int) (k4 : Bool) (k5 k6 : Int) (k7 k8 : Bool) (W : World) (P : Bool) (HP : ∀ w, Calls Tryd.prog 36 #[.int .u64 k2, .int .i64 20, .int .i64 32] w fun e w' => e = .returned (.bool P) ∧ w = w') (a b : Bool) (ha : decide (0 ≤ k3) = a) (hb : decide (k3 ≤ 15) = b) (L : Bool) (HL : ∀ w, Calls Tryd.prog 37 #[.agg #[.int .i64 k5, .int .u32 k6, .bool k7, .bool k8]] w fun e w' => e = .returned (.bool L) ∧ Below w.heap.size w w') :
    Calls Tryd.prog 25 #[.agg #[.int .i64 2, .int .u64 k2, .int .i64 k3, .bool k4, .int .i64 k5, .int .u32 k6, .bool k7, .bool k8]] W fun r w' => r = .returned (.bool (P && ((a && b) && L))) ∧ Below W.heap.size W w' := by
  have hN := Bl.new W 28 [.int .i64 2, .int .u64 k2, .int .i64 k3, .bool k4, .int .i64 k5, .int .u32 k6, .bool k7, .bool k8]
  have HB0 : Hid (∀ o, Below W.heap.size W (W.alloc o)) := fun o => ((Below.refl _ _).alloc (Nat.le_refl _) o)
  cases P <;> cases a <;> cases b <;> cases L
  all_goals
    go_enter Tryd.func25, Tryd.ntmps25
    go_wp2_with (first
      | (go_at_call 36; refine (HP _).mono ?_; rintro e w' ⟨rfl, rfl⟩)
      | (go_at_call 37; refine (HL _).mono ?_; rintro e w2 ⟨rfl, hb⟩; have HBL : Hid (Below W.heap.size W w2) := Below.one hb; clear hb)
      | go_in)
    go_ret
    exact ⟨rfl, (by first | exact HBL.out | exact HB0.out _)⟩
set_option maxRecDepth 100000 in
set_option maxHeartbeats 8000000 in
theorem says1_3 (k2 k3 : Int) (k4 : Bool) (k5 k6 : Int) (k7 k8 : Bool) (W : World) (P : Bool) (HP : ∀ w, Calls Tryd.prog 36 #[.int .u64 k2, .int .i64 24, .int .i64 40] w fun e w' => e = .returned (.bool P) ∧ w = w') (a b : Bool) (ha : decide (0 ≤ k3) = a) (hb : decide (k3 ≤ 15) = b) (z : Bool) (hz : (k3 == 0) = z) (L : Bool) (HL : ∀ w, Calls Tryd.prog 37 #[.agg #[.int .i64 k5, .int .u32 k6, .bool k7, .bool k8]] w fun e w' => e = .returned (.bool L) ∧ Below w.heap.size w w') :
    Calls Tryd.prog 25 #[.agg #[.int .i64 3, .int .u64 k2, .int .i64 k3, .bool k4, .int .i64 k5, .int .u32 k6, .bool k7, .bool k8]] W fun r w' => r = .returned (.bool (P && (z && L))) ∧ Below W.heap.size W w' := by
  have hN := Bl.new W 28 [.int .i64 3, .int .u64 k2, .int .i64 k3, .bool k4, .int .i64 k5, .int .u32 k6, .bool k7, .bool k8]
  have HB0 : Hid (∀ o, Below W.heap.size W (W.alloc o)) := fun o => ((Below.refl _ _).alloc (Nat.le_refl _) o)
  cases P <;> cases a <;> cases b <;> cases z <;> cases L
  all_goals
    go_enter Tryd.func25, Tryd.ntmps25
    go_wp2_with (first
      | (go_at_call 36; refine (HP _).mono ?_; rintro e w' ⟨rfl, rfl⟩)
      | (go_at_call 37; refine (HL _).mono ?_; rintro e w2 ⟨rfl, hb⟩; have HBL : Hid (Below W.heap.size W w2) := Below.one hb; clear hb)
      | go_in)
    go_ret
    exact ⟨rfl, (by first | exact HBL.out | exact HB0.out _)⟩
end Go.Proofs.YtcpcmjmgiagnoabDoor
