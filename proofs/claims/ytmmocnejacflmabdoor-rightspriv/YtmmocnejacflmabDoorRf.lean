import Derived.Test.YtmmocnejacflmabDoorTp
import Derived.Test.YtmmocnejacflmabDoorPm
namespace Go.Proofs.YtmmocnejacflmabDoor
open Go.RowKit
set_option linter.unusedVariables false
set_option linter.unusedSimpArgs false

theorem power_lit2 (n : Nat) (N : Int) (w : World) (hn : n ≤ 60) (hN : (2 : Int) ^ n = N) (m : Int) (hm : m = (n : Int)) : Calls Tryd.prog 38 #[.int .i64 m] w fun e w' => e = .returned (.int .u64 N) ∧ w = w' := by
  subst hN hm
  exact power_any n w hn
set_option maxRecDepth 100000 in
theorem rplace_10_32 (b : Int) (w : World) (hb : 0 ≤ b) : Calls Tryd.prog 34 #[.int .u64 b, .int .i64 10, .int .i64 32] w fun e w' => e = .returned (.bool (decide (b % 1024 = 0) && decide (b < 4294967296))) ∧ w = w' := by
  have hp1 := fun w => power_lit2 10 1024 w (by decide) (by decide) 10 rfl
  have hp2 := fun w => power_lit2 32 4294967296 w (by decide) (by decide) 32 rfl
  have ht : b.tmod 1024 = b % 1024 := Int.tmod_eq_emod_of_nonneg hb
  by_cases h : b % 1024 = 0
  · have q : (b % 1024 == 0) = true := by simp [h]
    go_enter Tryd.func34, Tryd.ntmps34
    go_wp2_with (first
      | (go_at_call_of 38 (Value.int IntKind.i64 10); refine (hp1 _).mono ?_; rintro e w' ⟨rfl, rfl⟩)
      | (go_at_call_of 38 (Value.int IntKind.i64 32); refine (hp2 _).mono ?_; rintro e w' ⟨rfl, rfl⟩)
      | go_in)
    go_ret
    exact ⟨by simp [h], rfl⟩
  · have q : (b % 1024 == 0) = false := by simp [h]
    go_enter Tryd.func34, Tryd.ntmps34
    go_wp2_with (first
      | (go_at_call_of 38 (Value.int IntKind.i64 10); refine (hp1 _).mono ?_; rintro e w' ⟨rfl, rfl⟩)
      | (go_at_call_of 38 (Value.int IntKind.i64 32); refine (hp2 _).mono ?_; rintro e w' ⟨rfl, rfl⟩)
      | go_in)
    go_ret
    exact ⟨by simp [h], rfl⟩
set_option maxRecDepth 100000 in
theorem rplace_20_32 (b : Int) (w : World) (hb : 0 ≤ b) : Calls Tryd.prog 34 #[.int .u64 b, .int .i64 20, .int .i64 32] w fun e w' => e = .returned (.bool (decide (b % 1048576 = 0) && decide (b < 4294967296))) ∧ w = w' := by
  have hp1 := fun w => power_lit2 20 1048576 w (by decide) (by decide) 20 rfl
  have hp2 := fun w => power_lit2 32 4294967296 w (by decide) (by decide) 32 rfl
  have ht : b.tmod 1048576 = b % 1048576 := Int.tmod_eq_emod_of_nonneg hb
  by_cases h : b % 1048576 = 0
  · have q : (b % 1048576 == 0) = true := by simp [h]
    go_enter Tryd.func34, Tryd.ntmps34
    go_wp2_with (first
      | (go_at_call_of 38 (Value.int IntKind.i64 20); refine (hp1 _).mono ?_; rintro e w' ⟨rfl, rfl⟩)
      | (go_at_call_of 38 (Value.int IntKind.i64 32); refine (hp2 _).mono ?_; rintro e w' ⟨rfl, rfl⟩)
      | go_in)
    go_ret
    exact ⟨by simp [h], rfl⟩
  · have q : (b % 1048576 == 0) = false := by simp [h]
    go_enter Tryd.func34, Tryd.ntmps34
    go_wp2_with (first
      | (go_at_call_of 38 (Value.int IntKind.i64 20); refine (hp1 _).mono ?_; rintro e w' ⟨rfl, rfl⟩)
      | (go_at_call_of 38 (Value.int IntKind.i64 32); refine (hp2 _).mono ?_; rintro e w' ⟨rfl, rfl⟩)
      | go_in)
    go_ret
    exact ⟨by simp [h], rfl⟩
set_option maxRecDepth 100000 in
theorem rplace_24_40 (b : Int) (w : World) (hb : 0 ≤ b) : Calls Tryd.prog 34 #[.int .u64 b, .int .i64 24, .int .i64 40] w fun e w' => e = .returned (.bool (decide (b % 16777216 = 0) && decide (b < 1099511627776))) ∧ w = w' := by
  have hp1 := fun w => power_lit2 24 16777216 w (by decide) (by decide) 24 rfl
  have hp2 := fun w => power_lit2 40 1099511627776 w (by decide) (by decide) 40 rfl
  have ht : b.tmod 16777216 = b % 16777216 := Int.tmod_eq_emod_of_nonneg hb
  by_cases h : b % 16777216 = 0
  · have q : (b % 16777216 == 0) = true := by simp [h]
    go_enter Tryd.func34, Tryd.ntmps34
    go_wp2_with (first
      | (go_at_call_of 38 (Value.int IntKind.i64 24); refine (hp1 _).mono ?_; rintro e w' ⟨rfl, rfl⟩)
      | (go_at_call_of 38 (Value.int IntKind.i64 40); refine (hp2 _).mono ?_; rintro e w' ⟨rfl, rfl⟩)
      | go_in)
    go_ret
    exact ⟨by simp [h], rfl⟩
  · have q : (b % 16777216 == 0) = false := by simp [h]
    go_enter Tryd.func34, Tryd.ntmps34
    go_wp2_with (first
      | (go_at_call_of 38 (Value.int IntKind.i64 24); refine (hp1 _).mono ?_; rintro e w' ⟨rfl, rfl⟩)
      | (go_at_call_of 38 (Value.int IntKind.i64 40); refine (hp2 _).mono ?_; rintro e w' ⟨rfl, rfl⟩)
      | go_in)
    go_ret
    exact ⟨by simp [h], rfl⟩
set_option maxRecDepth 100000 in
theorem rplace_16_32 (b : Int) (w : World) (hb : 0 ≤ b) : Calls Tryd.prog 34 #[.int .u64 b, .int .i64 16, .int .i64 32] w fun e w' => e = .returned (.bool (decide (b % 65536 = 0) && decide (b < 4294967296))) ∧ w = w' := by
  have hp1 := fun w => power_lit2 16 65536 w (by decide) (by decide) 16 rfl
  have hp2 := fun w => power_lit2 32 4294967296 w (by decide) (by decide) 32 rfl
  have ht : b.tmod 65536 = b % 65536 := Int.tmod_eq_emod_of_nonneg hb
  by_cases h : b % 65536 = 0
  · have q : (b % 65536 == 0) = true := by simp [h]
    go_enter Tryd.func34, Tryd.ntmps34
    go_wp2_with (first
      | (go_at_call_of 38 (Value.int IntKind.i64 16); refine (hp1 _).mono ?_; rintro e w' ⟨rfl, rfl⟩)
      | (go_at_call_of 38 (Value.int IntKind.i64 32); refine (hp2 _).mono ?_; rintro e w' ⟨rfl, rfl⟩)
      | go_in)
    go_ret
    exact ⟨by simp [h], rfl⟩
  · have q : (b % 65536 == 0) = false := by simp [h]
    go_enter Tryd.func34, Tryd.ntmps34
    go_wp2_with (first
      | (go_at_call_of 38 (Value.int IntKind.i64 16); refine (hp1 _).mono ?_; rintro e w' ⟨rfl, rfl⟩)
      | (go_at_call_of 38 (Value.int IntKind.i64 32); refine (hp2 _).mono ?_; rintro e w' ⟨rfl, rfl⟩)
      | go_in)
    go_ret
    exact ⟨by simp [h], rfl⟩
set_option maxRecDepth 100000 in
theorem rplace_12_32 (b : Int) (w : World) (hb : 0 ≤ b) : Calls Tryd.prog 34 #[.int .u64 b, .int .i64 12, .int .i64 32] w fun e w' => e = .returned (.bool (decide (b % 4096 = 0) && decide (b < 4294967296))) ∧ w = w' := by
  have hp1 := fun w => power_lit2 12 4096 w (by decide) (by decide) 12 rfl
  have hp2 := fun w => power_lit2 32 4294967296 w (by decide) (by decide) 32 rfl
  have ht : b.tmod 4096 = b % 4096 := Int.tmod_eq_emod_of_nonneg hb
  by_cases h : b % 4096 = 0
  · have q : (b % 4096 == 0) = true := by simp [h]
    go_enter Tryd.func34, Tryd.ntmps34
    go_wp2_with (first
      | (go_at_call_of 38 (Value.int IntKind.i64 12); refine (hp1 _).mono ?_; rintro e w' ⟨rfl, rfl⟩)
      | (go_at_call_of 38 (Value.int IntKind.i64 32); refine (hp2 _).mono ?_; rintro e w' ⟨rfl, rfl⟩)
      | go_in)
    go_ret
    exact ⟨by simp [h], rfl⟩
  · have q : (b % 4096 == 0) = false := by simp [h]
    go_enter Tryd.func34, Tryd.ntmps34
    go_wp2_with (first
      | (go_at_call_of 38 (Value.int IntKind.i64 12); refine (hp1 _).mono ?_; rintro e w' ⟨rfl, rfl⟩)
      | (go_at_call_of 38 (Value.int IntKind.i64 32); refine (hp2 _).mono ?_; rintro e w' ⟨rfl, rfl⟩)
      | go_in)
    go_ret
    exact ⟨by simp [h], rfl⟩
def lfB (ap bt : Int) : Bool := decide (0 ≤ ap) && (decide (ap ≤ 7) && decide (bt ≤ 63))
set_option maxRecDepth 100000 in
theorem rleaf_any (ap bt : Int) (g x : Bool) (w : World) : Calls Tryd.prog 35 #[.agg #[.int .i64 ap, .int .u32 bt, .bool g, .bool x]] w fun e w' => e = .returned (.bool (lfB ap bt)) ∧ Below w.heap.size w w' := by
  have HB : Hid (∀ o, Below w.heap.size w (w.alloc o)) := fun o => ((Below.refl _ _).alloc (Nat.le_refl _) o)
  unfold lfB
  by_cases h1 : 0 ≤ ap
  · have q1 : decide (0 ≤ ap) = true := decide_eq_true h1
    by_cases h2 : ap ≤ 7
    · have q2 : decide (ap ≤ 7) = true := decide_eq_true h2
      go_enter Tryd.func35, Tryd.ntmps35
      go_wp2
      go_ret
      exact ⟨by simp [h1, h2], HB.out _⟩
    · have q2 : decide (ap ≤ 7) = false := decide_eq_false h2
      go_enter Tryd.func35, Tryd.ntmps35
      go_wp2
      go_ret
      exact ⟨by simp [h1, h2], HB.out _⟩
  · have q1 : decide (0 ≤ ap) = false := decide_eq_false h1
    go_enter Tryd.func35, Tryd.ntmps35
    go_wp2
    go_ret
    exact ⟨by simp [h1], HB.out _⟩
end Go.Proofs.YtmmocnejacflmabDoor
