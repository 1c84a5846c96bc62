import Derived.Test.YtbbnodhpafiplaaDoorBz
namespace Go.Proofs.YtbbnodhpafiplaaDoor
open Go.RowKit
set_option linter.unusedVariables false
set_option linter.unusedSimpArgs false
set_option maxRecDepth 100000 in
theorem shift_any (s : Int) (w : World) : Calls Tryd.prog 82 #[.int .i64 s] w fun e w' => e = .returned (.int .i64 (shN s)) ∧ w = w' := by
  by_cases h : 1 ≤ s ∧ s ≤ 4
  · rcases (show s = 1 ∨ s = 2 ∨ s = 3 ∨ s = 4 by omega) with rfl | rfl | rfl | rfl
    all_goals
      go_enter Tryd.func82, Tryd.ntmps82
      go_wp2
      go_ret
      exact ⟨rfl, rfl⟩
  · have hz : shN s = 0 := by unfold shN; rw [if_neg (by omega), if_neg (by omega), if_neg (by omega), if_neg (by omega)]
    rw [hz]
    by_cases h1 : s < 1
    · have q : decide (s < 1) = true := decide_eq_true h1
      go_enter Tryd.func82, Tryd.ntmps82
      go_wp2
      go_ret
      exact ⟨rfl, rfl⟩
    · have q : decide (s < 1) = false := decide_eq_false h1
      have q2 : decide (4 < s) = true := decide_eq_true (by omega)
      go_enter Tryd.func82, Tryd.ntmps82
      go_wp2
      go_ret
      exact ⟨rfl, rfl⟩
theorem power_lit (n : Nat) (N : Int) (w : World) (hn : n ≤ 60) (hN : (2 : Int) ^ n = N) (m : Int) (hm : m = (n : Int)) : Calls Tryd.prog 85 #[.int .i64 m] w fun e w' => e = .returned (.int .u64 N) ∧ w = w' := by
  subst hN hm
  exact power_any n w hn
set_option maxRecDepth 100000 in
theorem refBytes_any (s : Int) (w : World) : Calls Tryd.prog 78 #[.int .i64 s] w fun e w' => e = .returned (.int .u64 (byN s)) ∧ w = w' := by
  by_cases h : 1 ≤ s ∧ s ≤ 4
  · rcases (show s = 1 ∨ s = 2 ∨ s = 3 ∨ s = 4 by omega) with rfl | rfl | rfl | rfl
    · have hs : shN 1 = 12 := rfl
      have hp := fun w => power_lit 12 4096 w (by decide) (by decide) 12 rfl
      go_enter Tryd.func78, Tryd.ntmps78
      go_wp2_with (first | (go_at_call 82; refine (shift_any _ _).mono ?_; rintro e w' ⟨rfl, rfl⟩) | (go_at_call 85; refine (hp _).mono ?_; rintro e w' ⟨rfl, rfl⟩) | go_in)
      go_ret
      exact ⟨rfl, rfl⟩
    · have hs : shN 2 = 16 := rfl
      have hp := fun w => power_lit 16 65536 w (by decide) (by decide) 16 rfl
      go_enter Tryd.func78, Tryd.ntmps78
      go_wp2_with (first | (go_at_call 82; refine (shift_any _ _).mono ?_; rintro e w' ⟨rfl, rfl⟩) | (go_at_call 85; refine (hp _).mono ?_; rintro e w' ⟨rfl, rfl⟩) | go_in)
      go_ret
      exact ⟨rfl, rfl⟩
    · have hs : shN 3 = 20 := rfl
      have hp := fun w => power_lit 20 1048576 w (by decide) (by decide) 20 rfl
      go_enter Tryd.func78, Tryd.ntmps78
      go_wp2_with (first | (go_at_call 82; refine (shift_any _ _).mono ?_; rintro e w' ⟨rfl, rfl⟩) | (go_at_call 85; refine (hp _).mono ?_; rintro e w' ⟨rfl, rfl⟩) | go_in)
      go_ret
      exact ⟨rfl, rfl⟩
    · have hs : shN 4 = 24 := rfl
      have hp := fun w => power_lit 24 16777216 w (by decide) (by decide) 24 rfl
      go_enter Tryd.func78, Tryd.ntmps78
      go_wp2_with (first | (go_at_call 82; refine (shift_any _ _).mono ?_; rintro e w' ⟨rfl, rfl⟩) | (go_at_call 85; refine (hp _).mono ?_; rintro e w' ⟨rfl, rfl⟩) | go_in)
      go_ret
      exact ⟨rfl, rfl⟩
  · have hz : byN s = 0 := by unfold byN; rw [if_neg (by omega), if_neg (by omega), if_neg (by omega), if_neg (by omega)]
    have hs : shN s = 0 := by unfold shN; rw [if_neg (by omega), if_neg (by omega), if_neg (by omega), if_neg (by omega)]
    rw [hz]
    go_enter Tryd.func78, Tryd.ntmps78
    go_wp2_with (first | (go_at_call 82; refine (shift_any _ _).mono ?_; rintro e w' ⟨rfl, rfl⟩) | go_in)
    go_ret
    exact ⟨rfl, rfl⟩
end Go.Proofs.YtbbnodhpafiplaaDoor
