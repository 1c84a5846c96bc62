import Derived.Test.YtmmocnejacflmabDoorBz
namespace Go.Proofs.YtmmocnejacflmabDoor
open Go.RowKit
set_option linter.unusedVariables false
set_option linter.unusedSimpArgs false
set_option maxRecDepth 100000 in
theorem shift_any (s : Int) (w : World) : Calls Tryd.prog 33 #[.int .i64 s] w fun e w' => e = .returned (.int .i64 (shN s)) ∧ w = w' := by
  by_cases h : 1 ≤ s ∧ s ≤ 4
  · rcases (show s = 1 ∨ s = 2 ∨ s = 3 ∨ s = 4 by omega) with rfl | rfl | rfl | rfl
    all_goals
      go_enter Tryd.func33, Tryd.ntmps33
      go_wp2
      go_ret
      exact ⟨rfl, rfl⟩
  · have hz : shN s = 0 := by unfold shN; rw [if_neg (by omega), if_neg (by omega), if_neg (by omega), if_neg (by omega)]
    rw [hz]
    by_cases h1 : s < 1
    · have q : decide (s < 1) = true := decide_eq_true h1
      go_enter Tryd.func33, Tryd.ntmps33
      go_wp2
      go_ret
      exact ⟨rfl, rfl⟩
    · have q : decide (s < 1) = false := decide_eq_false h1
      have q2 : decide (4 < s) = true := decide_eq_true (by omega)
      go_enter Tryd.func33, Tryd.ntmps33
      go_wp2
      go_ret
      exact ⟨rfl, rfl⟩
theorem power_lit (n : Nat) (N : Int) (w : World) (hn : n ≤ 60) (hN : (2 : Int) ^ n = N) (m : Int) (hm : m = (n : Int)) : Calls Tryd.prog 38 #[.int .i64 m] w fun e w' => e = .returned (.int .u64 N) ∧ w = w' := by
  subst hN hm
  exact power_any n w hn
end Go.Proofs.YtmmocnejacflmabDoor
