import Derived.Test.YtnjlajjjcmhfgaaGreatDoorQA05
import Derived.Test.YtnjlajjjcmhfgaaGreatDoorQA04
namespace Go.Proofs.YtnjlajjjcmhfgaaGreatDoor
open Go.RowKit
set_option linter.unusedVariables false
set_option linter.unusedSimpArgs false

theorem power_lit2 (n : Nat) (N : Int) (w : World) (hn : n ≤ 60) (hN : (2 : Int) ^ n = N) (m : Int) (hm : m = (n : Int)) : Calls Tryz.prog 161 #[.int .i64 m] w fun e w' => e = .returned (.int .u64 N) ∧ w = w' := by
  subst hN hm
  exact power_any n w hn
set_option maxRecDepth 100000 in
theorem rplace_10_32 (b : Int) (w : World) (hb : 0 ≤ b) : Calls Tryz.prog 229 #[.int .u64 b, .int .i64 10, .int .i64 32] w fun e w' => e = .returned (.bool (decide (b % 1024 = 0) && decide (b < 4294967296))) ∧ w = w' := by
  have hp1 := fun w => power_lit2 10 1024 w (by decide) (by decide) 10 rfl
  have hp2 := fun w => power_lit2 32 4294967296 w (by decide) (by decide) 32 rfl
  have ht : b.tmod 1024 = b % 1024 := Int.tmod_eq_emod_of_nonneg hb
  by_cases h : b % 1024 = 0
  · have q : (b % 1024 == 0) = true := by simp [h]
    go_enter Tryz.func229, Tryz.ntmps229
    go_wp2_with (first
      | (go_at_call_of 161 (Value.int IntKind.i64 10); refine (hp1 _).mono ?_; rintro e w' ⟨rfl, rfl⟩)
      | (go_at_call_of 161 (Value.int IntKind.i64 32); refine (hp2 _).mono ?_; rintro e w' ⟨rfl, rfl⟩)
      | go_in)
    go_ret
    exact ⟨by simp [h], rfl⟩
  · have q : (b % 1024 == 0) = false := by simp [h]
    go_enter Tryz.func229, Tryz.ntmps229
    go_wp2_with (first
      | (go_at_call_of 161 (Value.int IntKind.i64 10); refine (hp1 _).mono ?_; rintro e w' ⟨rfl, rfl⟩)
      | (go_at_call_of 161 (Value.int IntKind.i64 32); refine (hp2 _).mono ?_; rintro e w' ⟨rfl, rfl⟩)
      | go_in)
    go_ret
    exact ⟨by simp [h], rfl⟩
set_option maxRecDepth 100000 in
theorem rplace_20_32 (b : Int) (w : World) (hb : 0 ≤ b) : Calls Tryz.prog 229 #[.int .u64 b, .int .i64 20, .int .i64 32] w fun e w' => e = .returned (.bool (decide (b % 1048576 = 0) && decide (b < 4294967296))) ∧ w = w' := by
  have hp1 := fun w => power_lit2 20 1048576 w (by decide) (by decide) 20 rfl
  have hp2 := fun w => power_lit2 32 4294967296 w (by decide) (by decide) 32 rfl
  have ht : b.tmod 1048576 = b % 1048576 := Int.tmod_eq_emod_of_nonneg hb
  by_cases h : b % 1048576 = 0
  · have q : (b % 1048576 == 0) = true := by simp [h]
    go_enter Tryz.func229, Tryz.ntmps229
    go_wp2_with (first
      | (go_at_call_of 161 (Value.int IntKind.i64 20); refine (hp1 _).mono ?_; rintro e w' ⟨rfl, rfl⟩)
      | (go_at_call_of 161 (Value.int IntKind.i64 32); refine (hp2 _).mono ?_; rintro e w' ⟨rfl, rfl⟩)
      | go_in)
    go_ret
    exact ⟨by simp [h], rfl⟩
  · have q : (b % 1048576 == 0) = false := by simp [h]
    go_enter Tryz.func229, Tryz.ntmps229
    go_wp2_with (first
      | (go_at_call_of 161 (Value.int IntKind.i64 20); refine (hp1 _).mono ?_; rintro e w' ⟨rfl, rfl⟩)
      | (go_at_call_of 161 (Value.int IntKind.i64 32); refine (hp2 _).mono ?_; rintro e w' ⟨rfl, rfl⟩)
      | go_in)
    go_ret
    exact ⟨by simp [h], rfl⟩
set_option maxRecDepth 100000 in
theorem rplace_24_40 (b : Int) (w : World) (hb : 0 ≤ b) : Calls Tryz.prog 229 #[.int .u64 b, .int .i64 24, .int .i64 40] w fun e w' => e = .returned (.bool (decide (b % 16777216 = 0) && decide (b < 1099511627776))) ∧ w = w' := by
  have hp1 := fun w => power_lit2 24 16777216 w (by decide) (by decide) 24 rfl
  have hp2 := fun w => power_lit2 40 1099511627776 w (by decide) (by decide) 40 rfl
  have ht : b.tmod 16777216 = b % 16777216 := Int.tmod_eq_emod_of_nonneg hb
  by_cases h : b % 16777216 = 0
  · have q : (b % 16777216 == 0) = true := by simp [h]
    go_enter Tryz.func229, Tryz.ntmps229
    go_wp2_with (first
      | (go_at_call_of 161 (Value.int IntKind.i64 24); refine (hp1 _).mono ?_; rintro e w' ⟨rfl, rfl⟩)
      | (go_at_call_of 161 (Value.int IntKind.i64 40); refine (hp2 _).mono ?_; rintro e w' ⟨rfl, rfl⟩)
      | go_in)
    go_ret
    exact ⟨by simp [h], rfl⟩
  · have q : (b % 16777216 == 0) = false := by simp [h]
    go_enter Tryz.func229, Tryz.ntmps229
    go_wp2_with (first
      | (go_at_call_of 161 (Value.int IntKind.i64 24); refine (hp1 _).mono ?_; rintro e w' ⟨rfl, rfl⟩)
      | (go_at_call_of 161 (Value.int IntKind.i64 40); refine (hp2 _).mono ?_; rintro e w' ⟨rfl, rfl⟩)
      | go_in)
    go_ret
    exact ⟨by simp [h], rfl⟩
set_option maxRecDepth 100000 in
theorem rplace_16_32 (b : Int) (w : World) (hb : 0 ≤ b) : Calls Tryz.prog 229 #[.int .u64 b, .int .i64 16, .int .i64 32] w fun e w' => e = .returned (.bool (decide (b % 65536 = 0) && decide (b < 4294967296))) ∧ w = w' := by
  have hp1 := fun w => power_lit2 16 65536 w (by decide) (by decide) 16 rfl
  have hp2 := fun w => power_lit2 32 4294967296 w (by decide) (by decide) 32 rfl
  have ht : b.tmod 65536 = b % 65536 := Int.tmod_eq_emod_of_nonneg hb
  by_cases h : b % 65536 = 0
  · have q : (b % 65536 == 0) = true := by simp [h]
    go_enter Tryz.func229, Tryz.ntmps229
    go_wp2_with (first
      | (go_at_call_of 161 (Value.int IntKind.i64 16); refine (hp1 _).mono ?_; rintro e w' ⟨rfl, rfl⟩)
      | (go_at_call_of 161 (Value.int IntKind.i64 32); refine (hp2 _).mono ?_; rintro e w' ⟨rfl, rfl⟩)
      | go_in)
    go_ret
    exact ⟨by simp [h], rfl⟩
  · have q : (b % 65536 == 0) = false := by simp [h]
    go_enter Tryz.func229, Tryz.ntmps229
    go_wp2_with (first
      | (go_at_call_of 161 (Value.int IntKind.i64 16); refine (hp1 _).mono ?_; rintro e w' ⟨rfl, rfl⟩)
      | (go_at_call_of 161 (Value.int IntKind.i64 32); refine (hp2 _).mono ?_; rintro e w' ⟨rfl, rfl⟩)
      | go_in)
    go_ret
    exact ⟨by simp [h], rfl⟩
set_option maxRecDepth 100000 in
theorem rplace_12_32 (b : Int) (w : World) (hb : 0 ≤ b) : Calls Tryz.prog 229 #[.int .u64 b, .int .i64 12, .int .i64 32] w fun e w' => e = .returned (.bool (decide (b % 4096 = 0) && decide (b < 4294967296))) ∧ w = w' := by
  have hp1 := fun w => power_lit2 12 4096 w (by decide) (by decide) 12 rfl
  have hp2 := fun w => power_lit2 32 4294967296 w (by decide) (by decide) 32 rfl
  have ht : b.tmod 4096 = b % 4096 := Int.tmod_eq_emod_of_nonneg hb
  by_cases h : b % 4096 = 0
  · have q : (b % 4096 == 0) = true := by simp [h]
    go_enter Tryz.func229, Tryz.ntmps229
    go_wp2_with (first
      | (go_at_call_of 161 (Value.int IntKind.i64 12); refine (hp1 _).mono ?_; rintro e w' ⟨rfl, rfl⟩)
      | (go_at_call_of 161 (Value.int IntKind.i64 32); refine (hp2 _).mono ?_; rintro e w' ⟨rfl, rfl⟩)
      | go_in)
    go_ret
    exact ⟨by simp [h], rfl⟩
  · have q : (b % 4096 == 0) = false := by simp [h]
    go_enter Tryz.func229, Tryz.ntmps229
    go_wp2_with (first
      | (go_at_call_of 161 (Value.int IntKind.i64 12); refine (hp1 _).mono ?_; rintro e w' ⟨rfl, rfl⟩)
      | (go_at_call_of 161 (Value.int IntKind.i64 32); refine (hp2 _).mono ?_; rintro e w' ⟨rfl, rfl⟩)
      | go_in)
    go_ret
    exact ⟨by simp [h], rfl⟩
def lfB (ap bt : Int) : Bool := decide (0 ≤ ap) && (decide (ap ≤ 7) && decide (bt ≤ 63))
set_option maxRecDepth 100000 in
theorem rleaf_any (ap bt : Int) (g x : Bool) (w : World) : Calls Tryz.prog 230 #[.agg #[.int .i64 ap, .int .u32 bt, .bool g, .bool x]] w fun e w' => e = .returned (.bool (lfB ap bt)) ∧ Below w.heap.size w w' := by
  have HB : Hid (∀ o, Below w.heap.size w (w.alloc o)) := fun o => ((Below.refl _ _).alloc (Nat.le_refl _) o)
  unfold lfB
  by_cases h1 : 0 ≤ ap
  · have q1 : decide (0 ≤ ap) = true := decide_eq_true h1
    by_cases h2 : ap ≤ 7
    · have q2 : decide (ap ≤ 7) = true := decide_eq_true h2
      go_enter Tryz.func230, Tryz.ntmps230
      go_wp2
      go_ret
      exact ⟨by simp [h1, h2], HB.out _⟩
    · have q2 : decide (ap ≤ 7) = false := decide_eq_false h2
      go_enter Tryz.func230, Tryz.ntmps230
      go_wp2
      go_ret
      exact ⟨by simp [h1, h2], HB.out _⟩
  · have q1 : decide (0 ≤ ap) = false := decide_eq_false h1
    go_enter Tryz.func230, Tryz.ntmps230
    go_wp2
    go_ret
    exact ⟨by simp [h1], HB.out _⟩
end Go.Proofs.YtnjlajjjcmhfgaaGreatDoor
namespace Go.Proofs.YtnjlajjjcmhfgaaGreatDoor
open Go.RowKit
set_option linter.unusedVariables false
set_option linter.unusedSimpArgs false

set_option maxRecDepth 100000 in
set_option maxHeartbeats 8000000 in
theorem says1_1 (k2 k3 : Int) (k4 : Bool) (k5 k6 : Int) (k7 k8 : Bool) (W : World) (P : Bool) (HP : ∀ w, Calls Tryz.prog 229 #[.int .u64 k2, .int .i64 10, .int .i64 32] w fun e w' => e = .returned (.bool P) ∧ w = w') (a b : Bool) (ha : decide (0 ≤ k3) = a) (hb : decide (k3 ≤ 15) = b) (L : Bool) (hl : ∀ w, (Op.equalIn 10000 41 (.agg #[.int .i64 k5, .int .u32 k6, .bool k7, .bool k8]) (.agg #[.int .i64 0, .int .u32 0, .bool false, .bool false])).run Tryz.prog w = .ok L w) :
    Calls Tryz.prog 204 #[.agg #[.int .i64 1, .int .u64 k2, .int .i64 k3, .bool k4, .int .i64 k5, .int .u32 k6, .bool k7, .bool k8]] W fun r w' => r = .returned (.bool (P && ((a && b) && L))) ∧ Below W.heap.size W w' := by
  have hN := Bl.new W 140 [.int .i64 1, .int .u64 k2, .int .i64 k3, .bool k4, .int .i64 k5, .int .u32 k6, .bool k7, .bool k8]
  have HB0 : Hid (∀ o, Below W.heap.size W (W.alloc o)) := fun o => ((Below.refl _ _).alloc (Nat.le_refl _) o)
  cases P <;> cases a <;> cases b <;> cases L
  all_goals
    go_enter Tryz.func204, Tryz.ntmps204
    go_wp2_with (first
      | (go_at_call 229; refine (HP _).mono ?_; rintro e w' ⟨rfl, rfl⟩)
      | go_in)
    go_ret
    exact ⟨rfl, (by first | exact HBL.out | exact HB0.out _)⟩
set_option maxRecDepth 100000 in
set_option maxHeartbeats 8000000 in
theorem says1_2 (k2 k3 : Int) (k4 : Bool) (k5 k6 : Int) (k7 k8 : Bool) (W : World) (P : Bool) (HP : ∀ w, Calls Tryz.prog 229 #[.int .u64 k2, .int .i64 20, .int .i64 32] w fun e w' => e = .returned (.bool P) ∧ w = w') (a b : Bool) (ha : decide (0 ≤ k3) = a) (hb : decide (k3 ≤ 15) = b) (L : Bool) (HL : ∀ w, Calls Tryz.prog 230 #[.agg #[.int .i64 k5, .int .u32 k6, .bool k7, .bool k8]] w fun e w' => e = .returned (.bool L) ∧ Below w.heap.size w w') :
    Calls Tryz.prog 204 #[.agg #[.int .i64 2, .int .u64 k2, .int .i64 k3, .bool k4, .int .i64 k5, .int .u32 k6, .bool k7, .bool k8]] W fun r w' => r = .returned (.bool (P && ((a && b) && L))) ∧ Below W.heap.size W w' := by
  have hN := Bl.new W 140 [.int .i64 2, .int .u64 k2, .int .i64 k3, .bool k4, .int .i64 k5, .int .u32 k6, .bool k7, .bool k8]
  have HB0 : Hid (∀ o, Below W.heap.size W (W.alloc o)) := fun o => ((Below.refl _ _).alloc (Nat.le_refl _) o)
  cases P <;> cases a <;> cases b <;> cases L
  all_goals
    go_enter Tryz.func204, Tryz.ntmps204
    go_wp2_with (first
      | (go_at_call 229; refine (HP _).mono ?_; rintro e w' ⟨rfl, rfl⟩)
      | (go_at_call 230; refine (HL _).mono ?_; rintro e w2 ⟨rfl, hb⟩; have HBL : Hid (Below W.heap.size W w2) := Below.one hb; clear hb)
      | go_in)
    go_ret
    exact ⟨rfl, (by first | exact HBL.out | exact HB0.out _)⟩
set_option maxRecDepth 100000 in
set_option maxHeartbeats 8000000 in
theorem says1_3 (k2 k3 : Int) (k4 : Bool) (k5 k6 : Int) (k7 k8 : Bool) (W : World) (P : Bool) (HP : ∀ w, Calls Tryz.prog 229 #[.int .u64 k2, .int .i64 24, .int .i64 40] w fun e w' => e = .returned (.bool P) ∧ w = w') (a b : Bool) (ha : decide (0 ≤ k3) = a) (hb : decide (k3 ≤ 15) = b) (z : Bool) (hz : (k3 == 0) = z) (L : Bool) (HL : ∀ w, Calls Tryz.prog 230 #[.agg #[.int .i64 k5, .int .u32 k6, .bool k7, .bool k8]] w fun e w' => e = .returned (.bool L) ∧ Below w.heap.size w w') :
    Calls Tryz.prog 204 #[.agg #[.int .i64 3, .int .u64 k2, .int .i64 k3, .bool k4, .int .i64 k5, .int .u32 k6, .bool k7, .bool k8]] W fun r w' => r = .returned (.bool (P && (z && L))) ∧ Below W.heap.size W w' := by
  have hN := Bl.new W 140 [.int .i64 3, .int .u64 k2, .int .i64 k3, .bool k4, .int .i64 k5, .int .u32 k6, .bool k7, .bool k8]
  have HB0 : Hid (∀ o, Below W.heap.size W (W.alloc o)) := fun o => ((Below.refl _ _).alloc (Nat.le_refl _) o)
  cases P <;> cases a <;> cases b <;> cases z <;> cases L
  all_goals
    go_enter Tryz.func204, Tryz.ntmps204
    go_wp2_with (first
      | (go_at_call 229; refine (HP _).mono ?_; rintro e w' ⟨rfl, rfl⟩)
      | (go_at_call 230; refine (HL _).mono ?_; rintro e w2 ⟨rfl, hb⟩; have HBL : Hid (Below W.heap.size W w2) := Below.one hb; clear hb)
      | go_in)
    go_ret
    exact ⟨rfl, (by first | exact HBL.out | exact HB0.out _)⟩
end Go.Proofs.YtnjlajjjcmhfgaaGreatDoor
namespace Go.Proofs.YtnjlajjjcmhfgaaGreatDoor
open Go.RowKit
set_option linter.unusedVariables false
set_option linter.unusedSimpArgs false

set_option maxRecDepth 100000 in
set_option maxHeartbeats 8000000 in
theorem says2_4 (k2 k3 : Int) (k4 : Bool) (k5 k6 : Int) (k7 k8 : Bool) (W : World) (P : Bool) (HP : ∀ w, Calls Tryz.prog 229 #[.int .u64 k2, .int .i64 16, .int .i64 32] w fun e w' => e = .returned (.bool P) ∧ w = w') (z : Bool) (hz : (k3 == 0) = z) (L : Bool) (HL : ∀ w, Calls Tryz.prog 230 #[.agg #[.int .i64 k5, .int .u32 k6, .bool k7, .bool k8]] w fun e w' => e = .returned (.bool L) ∧ Below w.heap.size w w') :
    Calls Tryz.prog 205 #[.agg #[.int .i64 4, .int .u64 k2, .int .i64 k3, .bool k4, .int .i64 k5, .int .u32 k6, .bool k7, .bool k8]] W fun r w' => r = .returned (.bool (P && (z && (!k4 && L)))) ∧ Below W.heap.size W w' := by
  have hN := Bl.new W 140 [.int .i64 4, .int .u64 k2, .int .i64 k3, .bool k4, .int .i64 k5, .int .u32 k6, .bool k7, .bool k8]
  have HB0 : Hid (∀ o, Below W.heap.size W (W.alloc o)) := fun o => ((Below.refl _ _).alloc (Nat.le_refl _) o)
  cases P <;> cases z <;> cases k4 <;> cases L
  all_goals
    go_enter Tryz.func205, Tryz.ntmps205
    go_wp2_with (first
      | (go_at_call 229; refine (HP _).mono ?_; rintro e w' ⟨rfl, rfl⟩)
      | (go_at_call 230; refine (HL _).mono ?_; rintro e w2 ⟨rfl, hb⟩; have HBL : Hid (Below W.heap.size W w2) := Below.one hb; clear hb)
      | go_in)
    go_ret
    exact ⟨rfl, (by first | exact HBL.out | exact HB0.out _)⟩
set_option maxRecDepth 100000 in
set_option maxHeartbeats 8000000 in
theorem says2_5 (k2 k3 : Int) (k4 : Bool) (k5 k6 : Int) (k7 k8 : Bool) (W : World) (P : Bool) (HP : ∀ w, Calls Tryz.prog 229 #[.int .u64 k2, .int .i64 12, .int .i64 32] w fun e w' => e = .returned (.bool P) ∧ w = w') (z : Bool) (hz : (k3 == 0) = z) (L : Bool) (HL : ∀ w, Calls Tryz.prog 230 #[.agg #[.int .i64 k5, .int .u32 k6, .bool k7, .bool k8]] w fun e w' => e = .returned (.bool L) ∧ Below w.heap.size w w') :
    Calls Tryz.prog 205 #[.agg #[.int .i64 5, .int .u64 k2, .int .i64 k3, .bool k4, .int .i64 k5, .int .u32 k6, .bool k7, .bool k8]] W fun r w' => r = .returned (.bool (P && (z && (!k4 && L)))) ∧ Below W.heap.size W w' := by
  have hN := Bl.new W 140 [.int .i64 5, .int .u64 k2, .int .i64 k3, .bool k4, .int .i64 k5, .int .u32 k6, .bool k7, .bool k8]
  have HB0 : Hid (∀ o, Below W.heap.size W (W.alloc o)) := fun o => ((Below.refl _ _).alloc (Nat.le_refl _) o)
  cases P <;> cases z <;> cases k4 <;> cases L
  all_goals
    go_enter Tryz.func205, Tryz.ntmps205
    go_wp2_with (first
      | (go_at_call 229; refine (HP _).mono ?_; rintro e w' ⟨rfl, rfl⟩)
      | (go_at_call 230; refine (HL _).mono ?_; rintro e w2 ⟨rfl, hb⟩; have HBL : Hid (Below W.heap.size W w2) := Below.one hb; clear hb)
      | go_in)
    go_ret
    exact ⟨rfl, (by first | exact HBL.out | exact HB0.out _)⟩
end Go.Proofs.YtnjlajjjcmhfgaaGreatDoor
namespace Go.Proofs.YtnjlajjjcmhfgaaGreatDoor
open Go.RowKit
set_option linter.unusedVariables false
set_option linter.unusedSimpArgs false
set_option maxRecDepth 100000 in
set_option maxHeartbeats 4000000 in
theorem says1_0 (k2 k3 : Int) (k4 : Bool) (k5 k6 : Int) (k7 k8 : Bool) (W : World) (S : Bool)
    (heq : ∀ w, (Op.equalIn 10000 140 (.agg #[.int .i64 0, .int .u64 k2, .int .i64 k3, .bool k4, .int .i64 k5, .int .u32 k6, .bool k7, .bool k8]) (.agg #[.int .i64 0, .int .u64 0, .int .i64 0, .bool false, .int .i64 0, .int .u32 0, .bool false, .bool false])).run Tryz.prog w = .ok S w) :
    Calls Tryz.prog 204 #[.agg #[.int .i64 0, .int .u64 k2, .int .i64 k3, .bool k4, .int .i64 k5, .int .u32 k6, .bool k7, .bool k8]] W fun r w' => r = .returned (.bool S) ∧ Below W.heap.size W w' := by
  have HB0 : Hid (∀ o, Below W.heap.size W (W.alloc o)) := fun o => ((Below.refl _ _).alloc (Nat.le_refl _) o)
  have ha : ∃ a, decide (0 ≤ k3) = a := ⟨_, rfl⟩
  obtain ⟨a, ha⟩ := ha
  have hb : ∃ b, decide (k3 ≤ 15) = b := ⟨_, rfl⟩
  obtain ⟨b, hb⟩ := hb
  cases a <;> cases b
  all_goals
    go_enter Tryz.func204, Tryz.ntmps204
    go_wp2
    go_ret
    exact ⟨rfl, HB0.out _⟩
set_option maxRecDepth 100000 in
set_option maxHeartbeats 4000000 in
theorem says1_no (e : Ent) (W : World) (h : e.kind < 0 ∨ 3 < e.kind) : Calls Tryz.prog 204 #[.agg #[.int .i64 e.kind, .int .u64 e.base, .int .i64 e.dom, .bool e.ns, .int .i64 e.ap, .int .u32 e.bits, .bool e.ng, .bool e.xn]] W fun r w' => r = .returned (.bool false) ∧ Below W.heap.size W w' := by
  have HB0 : Hid (∀ o, Below W.heap.size W (W.alloc o)) := fun o => ((Below.refl _ _).alloc (Nat.le_refl _) o)
  have q0 : (e.kind == 0) = false := by simp; omega
  have q1 : (e.kind == 1) = false := by simp; omega
  have q2 : (e.kind == 2) = false := by simp; omega
  have q3 : (e.kind == 3) = false := by simp; omega
  clear h
  have ha : ∃ a, decide (0 ≤ e.dom) = a := ⟨_, rfl⟩
  obtain ⟨a, ha⟩ := ha
  have hb : ∃ b, decide (e.dom ≤ 15) = b := ⟨_, rfl⟩
  obtain ⟨b, hb⟩ := hb
  cases a <;> cases b
  all_goals
    go_enter Tryz.func204, Tryz.ntmps204
    go_wp2
    go_ret
    exact ⟨rfl, HB0.out _⟩
set_option maxRecDepth 100000 in
set_option maxHeartbeats 4000000 in
theorem says2_0 (k2 k3 : Int) (k4 : Bool) (k5 k6 : Int) (k7 k8 : Bool) (W : World) (S : Bool)
    (heq : ∀ w, (Op.equalIn 10000 140 (.agg #[.int .i64 0, .int .u64 k2, .int .i64 k3, .bool k4, .int .i64 k5, .int .u32 k6, .bool k7, .bool k8]) (.agg #[.int .i64 0, .int .u64 0, .int .i64 0, .bool false, .int .i64 0, .int .u32 0, .bool false, .bool false])).run Tryz.prog w = .ok S w) :
    Calls Tryz.prog 205 #[.agg #[.int .i64 0, .int .u64 k2, .int .i64 k3, .bool k4, .int .i64 k5, .int .u32 k6, .bool k7, .bool k8]] W fun r w' => r = .returned (.bool S) ∧ Below W.heap.size W w' := by
  have HB0 : Hid (∀ o, Below W.heap.size W (W.alloc o)) := fun o => ((Below.refl _ _).alloc (Nat.le_refl _) o)
  go_enter Tryz.func205, Tryz.ntmps205
  go_wp2
  go_ret
  exact ⟨rfl, HB0.out _⟩
set_option maxRecDepth 100000 in
set_option maxHeartbeats 4000000 in
theorem says2_no (e : Ent) (W : World) (h : ¬ (e.kind = 0 ∨ e.kind = 4 ∨ e.kind = 5)) : Calls Tryz.prog 205 #[.agg #[.int .i64 e.kind, .int .u64 e.base, .int .i64 e.dom, .bool e.ns, .int .i64 e.ap, .int .u32 e.bits, .bool e.ng, .bool e.xn]] W fun r w' => r = .returned (.bool false) ∧ Below W.heap.size W w' := by
  have HB0 : Hid (∀ o, Below W.heap.size W (W.alloc o)) := fun o => ((Below.refl _ _).alloc (Nat.le_refl _) o)
  have q0 : (e.kind == 0) = false := by simp; omega
  have q1 : (e.kind == 4) = false := by simp; omega
  have q2 : (e.kind == 5) = false := by simp; omega
  clear h
  go_enter Tryz.func205, Tryz.ntmps205
  go_wp2
  go_ret
  exact ⟨rfl, HB0.out _⟩
theorem nz {e : Ent} (h : e.kind ≠ 0) : ¬ e = dZ := fun g => h (dZ_kind g)
theorem bool1 (e : Ent) (hO : Ok e) (h : e.kind = 1) : ((decide (e.base % 1024 = 0) && decide (e.base < 4294967296)) && ((decide (0 ≤ e.dom) && decide (e.dom ≤ 15)) && sameL e.ap e.bits e.ng e.xn 0 0 false false)) = (D1 (E e)).same e := by
  apply Bool.eq_iff_iff.2
  rw [Ent.same_iff, says1_iff e hO]
  have := nz (e := e) (by omega)
  simp only [Bool.and_eq_true, decide_eq_true_eq, sameL_iff, Says1, h, this, false_or, true_and]
  constructor
  · rintro ⟨⟨a, b⟩, ⟨c, d⟩, f⟩
    exact .inl ⟨⟨a, b⟩, ⟨c, d⟩, f⟩
  · rintro (⟨⟨a, b⟩, ⟨c, d⟩, f⟩ | ⟨g, _⟩ | ⟨g, _⟩)
    · exact ⟨⟨a, b⟩, ⟨c, d⟩, f⟩
    · exact absurd g (by decide)
    · exact absurd g (by decide)
theorem lfB_iff (ap bt : Int) : lfB ap bt = true ↔ 0 ≤ ap ∧ ap ≤ 7 ∧ bt ≤ 63 := by simp [lfB]
theorem bool2 (e : Ent) (hO : Ok e) (h : e.kind = 2) : ((decide (e.base % 1048576 = 0) && decide (e.base < 4294967296)) && ((decide (0 ≤ e.dom) && decide (e.dom ≤ 15)) && lfB e.ap e.bits)) = (D1 (E e)).same e := by
  apply Bool.eq_iff_iff.2
  rw [Ent.same_iff, says1_iff e hO]
  have := nz (e := e) (by omega)
  simp only [Bool.and_eq_true, decide_eq_true_eq, lfB_iff, Says1, leafOk, h, this, false_or, true_and]
  constructor
  · rintro ⟨⟨a, b⟩, ⟨c, d⟩, f⟩
    exact .inr (.inl ⟨⟨a, b⟩, ⟨c, d⟩, f⟩)
  · rintro (⟨g, _⟩ | ⟨⟨a, b⟩, ⟨c, d⟩, f⟩ | ⟨g, _⟩)
    · exact absurd g (by decide)
    · exact ⟨⟨a, b⟩, ⟨c, d⟩, f⟩
    · exact absurd g (by decide)
theorem bool3 (e : Ent) (hO : Ok e) (h : e.kind = 3) : ((decide (e.base % 16777216 = 0) && decide (e.base < 1099511627776)) && ((e.dom == 0) && lfB e.ap e.bits)) = (D1 (E e)).same e := by
  apply Bool.eq_iff_iff.2
  rw [Ent.same_iff, says1_iff e hO]
  have := nz (e := e) (by omega)
  simp only [Bool.and_eq_true, decide_eq_true_eq, beq_iff_eq, lfB_iff, Says1, leafOk, h, this, false_or, true_and]
  constructor
  · rintro ⟨⟨a, b⟩, c, f⟩
    exact .inr (.inr ⟨⟨a, b⟩, c, f⟩)
  · rintro (⟨g, _⟩ | ⟨g, _⟩ | ⟨⟨a, b⟩, c, f⟩)
    · exact absurd g (by decide)
    · exact absurd g (by decide)
    · exact ⟨⟨a, b⟩, c, f⟩
theorem bool4 (e : Ent) (hO : Ok e) (h : e.kind = 4) : ((decide (e.base % 65536 = 0) && decide (e.base < 4294967296)) && ((e.dom == 0) && (!e.ns && lfB e.ap e.bits))) = (D2 (E e)).same e := by
  apply Bool.eq_iff_iff.2
  rw [Ent.same_iff, says2_iff e hO]
  have := nz (e := e) (by omega)
  simp only [Bool.and_eq_true, decide_eq_true_eq, beq_iff_eq, lfB_iff, Says2, leafOk, h, this, false_or, true_and, Bool.not_eq_true']
  constructor
  · rintro ⟨⟨a, b⟩, c, d, f⟩
    exact .inl ⟨⟨a, b⟩, c, d, f⟩
  · rintro (⟨⟨a, b⟩, c, d, f⟩ | ⟨g, _⟩)
    · exact ⟨⟨a, b⟩, c, d, f⟩
    · exact absurd g (by decide)
theorem bool5 (e : Ent) (hO : Ok e) (h : e.kind = 5) : ((decide (e.base % 4096 = 0) && decide (e.base < 4294967296)) && ((e.dom == 0) && (!e.ns && lfB e.ap e.bits))) = (D2 (E e)).same e := by
  apply Bool.eq_iff_iff.2
  rw [Ent.same_iff, says2_iff e hO]
  have := nz (e := e) (by omega)
  simp only [Bool.and_eq_true, decide_eq_true_eq, beq_iff_eq, lfB_iff, Says2, leafOk, h, this, false_or, true_and, Bool.not_eq_true']
  constructor
  · rintro ⟨⟨a, b⟩, c, d, f⟩
    exact .inr ⟨⟨a, b⟩, c, d, f⟩
  · rintro (⟨g, _⟩ | ⟨⟨a, b⟩, c, d, f⟩)
    · exact absurd g (by decide)
    · exact ⟨⟨a, b⟩, c, d, f⟩
theorem bool0 (e : Ent) (h : ¬ (1 ≤ e.kind ∧ e.kind ≤ 5)) : e.same dZ = (D1 (E e)).same e ∧ e.same dZ = (D2 (E e)).same e := by
  rw [E0 e h, D1_0, D2_0]
  have : e.same dZ = dZ.same e := by
    apply Bool.eq_iff_iff.2
    rw [Ent.same_iff, Ent.same_iff]
    exact ⟨fun h => h.symm, fun h => h.symm⟩
  exact ⟨this, this⟩
theorem says1_ref (e : Ent) (W : World) (hO : Ok e) : Calls Tryz.prog 204 #[.agg #[.int .i64 e.kind, .int .u64 e.base, .int .i64 e.dom, .bool e.ns, .int .i64 e.ap, .int .u32 e.bits, .bool e.ng, .bool e.xn]] W fun r w' => r = .returned (.bool ((D1 (E e)).same e)) ∧ Below W.heap.size W w' := by
  have hb := hO.1.1
  have HL := fun w => rleaf_any e.ap e.bits e.ng e.xn w
  by_cases h0 : e.kind = 0
  · rw [← (bool0 e (by omega)).1]
    have q := eqE e dZ
    rw [h0] at q ⊢
    exact says1_0 _ _ _ _ _ _ _ W _ q
  by_cases h1 : e.kind = 1
  · rw [← bool1 e hO h1, h1]
    exact says1_1 _ _ _ _ _ _ _ W _ (fun w => rplace_10_32 e.base w hb) _ _ rfl rfl _ (eqL _ _ _ _ _ _ _ _)
  by_cases h2 : e.kind = 2
  · rw [← bool2 e hO h2, h2]
    exact says1_2 _ _ _ _ _ _ _ W _ (fun w => rplace_20_32 e.base w hb) _ _ rfl rfl _ HL
  by_cases h3 : e.kind = 3
  · rw [← bool3 e hO h3, h3]
    exact says1_3 _ _ _ _ _ _ _ W _ (fun w => rplace_24_40 e.base w hb) _ _ rfl rfl _ rfl _ HL
  · have hf : (D1 (E e)).same e = false := by
      cases hs : (D1 (E e)).same e with
      | false => rfl
      | true =>
        have g := (Ent.same_iff _ _).1 hs
        have k := D1_kind (E e)
        rw [g] at k
        omega
    rw [hf]
    exact says1_no e W (by omega)
theorem says2_ref (e : Ent) (W : World) (hO : Ok e) : Calls Tryz.prog 205 #[.agg #[.int .i64 e.kind, .int .u64 e.base, .int .i64 e.dom, .bool e.ns, .int .i64 e.ap, .int .u32 e.bits, .bool e.ng, .bool e.xn]] W fun r w' => r = .returned (.bool ((D2 (E e)).same e)) ∧ Below W.heap.size W w' := by
  have hb := hO.1.1
  have HL := fun w => rleaf_any e.ap e.bits e.ng e.xn w
  by_cases h0 : e.kind = 0
  · rw [← (bool0 e (by omega)).2]
    have q := eqE e dZ
    rw [h0] at q ⊢
    exact says2_0 _ _ _ _ _ _ _ W _ q
  by_cases h1 : e.kind = 4
  · rw [← bool4 e hO h1, h1]
    exact says2_4 _ _ _ _ _ _ _ W _ (fun w => rplace_16_32 e.base w hb) _ rfl _ HL
  by_cases h2 : e.kind = 5
  · rw [← bool5 e hO h2, h2]
    exact says2_5 _ _ _ _ _ _ _ W _ (fun w => rplace_12_32 e.base w hb) _ rfl _ HL
  · have hf : (D2 (E e)).same e = false := by
      cases hs : (D2 (E e)).same e with
      | false => rfl
      | true =>
        have g := (Ent.same_iff _ _).1 hs
        have k := D2_kind (E e)
        rw [g] at k
        omega
    rw [hf]
    exact says2_no e W (by omega)
end Go.Proofs.YtnjlajjjcmhfgaaGreatDoor
namespace Go.Proofs.YtnjlajjjcmhfgaaGreatDoor
open Go.RowKit
set_option linter.unusedVariables false
set_option linter.unusedSimpArgs false
theorem trF_eq (e : Ent) (t : Tra) (dm va : Int) (ht : 1 ≤ t.size) : trF e dm va = t ↔ (sb e = true ∧ 0 ≤ domOf e dm ∧ domOf e dm ≤ 15) ∧ szK e.kind = t.size ∧ va / byN (szK e.kind) * byN (szK e.kind) = t.va ∧ e.base = t.pa ∧ domOf e dm = t.dom ∧ e.ap = t.ap ∧ e.bits = t.bits ∧ e.ng = t.ng ∧ e.xn = t.xn := by
  obtain ⟨t1, t2, t3, t4, t5, t6, t7, t8⟩ := t
  unfold trF
  split
  · rename_i h
    simp only [Tra.mk.injEq, h, true_and]
  · rename_i h
    constructor
    · intro g
      have := congrArg Tra.size g
      simp only [tZ] at this ht
      omega
    · intro g
      exact absurd g.1 h
/-- What a translation that is right is. -/
def RR (t : Tra) : Prop := t.va % byN t.size = 0 ∧ (0 ≤ t.ap ∧ t.ap ≤ 7 ∧ t.bits ≤ 63) ∧ (0 ≤ t.dom ∧ t.dom ≤ 15) ∧ (t.pa % byN t.size = 0 ∧ (if t.size = 4 then t.pa < 1099511627776 ∧ t.dom = 0 else t.pa < 4294967296))
theorem ri_iff (t : Tra) (hO : Ok (enF t)) (hs : 1 ≤ t.size ∧ t.size ≤ 4) : riF t = true ↔ RR t := by
  have q : (decide (1 ≤ t.size) && decide (t.size ≤ 4)) = true := by simp [hs]
  unfold riF
  rw [q, Bool.true_and, Tra.same_iff, trF_eq _ _ _ _ hs.1]
  obtain ⟨s, t2, t3, t4, t5, t6, t7, t8⟩ := t
  simp only at hs hO
  rcases (show s = 1 ∨ s = 2 ∨ s = 3 ∨ s = 4 by omega) with rfl | rfl | rfl | rfl
  · have hb : sb (enF ⟨1, t2, t3, t4, t5, t6, t7, t8⟩) = (D2 (E (enF ⟨1, t2, t3, t4, t5, t6, t7, t8⟩))).same (enF ⟨1, t2, t3, t4, t5, t6, t7, t8⟩) := rfl
    rw [hb, ← bool5 _ hO rfl]
    have e1 : domOf (enF ⟨1, t2, t3, t4, t5, t6, t7, t8⟩) t4 = t4 := rfl
    have e2 : byN (szK (enF ⟨1, t2, t3, t4, t5, t6, t7, t8⟩).kind) = 4096 := rfl
    have e3 : szK (enF ⟨1, t2, t3, t4, t5, t6, t7, t8⟩).kind = 1 := rfl
    have e4 : byN 1 = 4096 := rfl
    simp only [e1, e3, e4]
    simp only [Bool.and_eq_true, decide_eq_true_eq, beq_iff_eq, lfB_iff, enF, RR, e4, Bool.not_eq_true', and_true, true_and, show ¬ ((1 : Int) = 3) from by decide, show ¬ ((1 : Int) = 4) from by decide, if_false]
    omega
  · have hb : sb (enF ⟨2, t2, t3, t4, t5, t6, t7, t8⟩) = (D2 (E (enF ⟨2, t2, t3, t4, t5, t6, t7, t8⟩))).same (enF ⟨2, t2, t3, t4, t5, t6, t7, t8⟩) := rfl
    rw [hb, ← bool4 _ hO rfl]
    have e1 : domOf (enF ⟨2, t2, t3, t4, t5, t6, t7, t8⟩) t4 = t4 := rfl
    have e3 : szK (enF ⟨2, t2, t3, t4, t5, t6, t7, t8⟩).kind = 2 := rfl
    have e4 : byN 2 = 65536 := rfl
    simp only [e1, e3, e4]
    simp only [Bool.and_eq_true, decide_eq_true_eq, beq_iff_eq, lfB_iff, enF, RR, e4, Bool.not_eq_true', and_true, true_and, show ¬ ((2 : Int) = 3) from by decide, show ¬ ((2 : Int) = 4) from by decide, if_false]
    omega
  · have hb : sb (enF ⟨3, t2, t3, t4, t5, t6, t7, t8⟩) = (D1 (E (enF ⟨3, t2, t3, t4, t5, t6, t7, t8⟩))).same (enF ⟨3, t2, t3, t4, t5, t6, t7, t8⟩) := rfl
    rw [hb, ← bool2 _ hO rfl]
    have e1 : domOf (enF ⟨3, t2, t3, t4, t5, t6, t7, t8⟩) t4 = t4 := rfl
    have e3 : szK (enF ⟨3, t2, t3, t4, t5, t6, t7, t8⟩).kind = 3 := rfl
    have e4 : byN 3 = 1048576 := rfl
    simp only [e1, e3, e4]
    simp only [Bool.and_eq_true, decide_eq_true_eq, beq_iff_eq, lfB_iff, enF, RR, e4, Bool.not_eq_true', and_true, true_and, show ¬ ((3 : Int) = 4) from by decide, if_false, if_true]
    omega
  · have hb : sb (enF ⟨4, t2, t3, t4, t5, t6, t7, t8⟩) = (D1 (E (enF ⟨4, t2, t3, t4, t5, t6, t7, t8⟩))).same (enF ⟨4, t2, t3, t4, t5, t6, t7, t8⟩) := rfl
    rw [hb, ← bool3 _ hO rfl]
    have e1 : domOf (enF ⟨4, t2, t3, t4, t5, t6, t7, t8⟩) t4 = 0 := rfl
    have e3 : szK (enF ⟨4, t2, t3, t4, t5, t6, t7, t8⟩).kind = 4 := rfl
    have e4 : byN 4 = 16777216 := rfl
    simp only [e1, e3, e4]
    simp only [Bool.and_eq_true, decide_eq_true_eq, beq_iff_eq, lfB_iff, enF, RR, e4, Bool.not_eq_true', and_true, true_and, show ¬ ((4 : Int) = 3) from by decide, if_false, if_true]
    omega
end Go.Proofs.YtnjlajjjcmhfgaaGreatDoor
