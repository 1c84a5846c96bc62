import Derived.Test.YtmodcbdgnmjkoabGreatDoorRz
namespace Go.Proofs.YtmodcbdgnmjkoabGreatDoor
open Go.RowKit
set_option linter.unusedVariables false
set_option linter.unusedSimpArgs false
structure TZ (w : World) : Prop where
  base : Tb .u8 w 1 lBase
  kind : Tb .u8 w 3 lKind
  rep : Tb .u8 w 2 lRep
set_option maxRecDepth 100000 in
theorem repeats_any (s : Int) (w : World) (ht : TZ w) : Calls Tryz.prog 19 #[.int .i64 s] w fun e w' => e = .returned (.int .i64 (reN s)) ∧ w = w' := by
  by_cases h : 1 ≤ s ∧ s ≤ 4
  · have q : (decide (1 ≤ s) && decide (s ≤ 4)) = true := by simp [h]
    rcases (show s = 1 ∨ s = 2 ∨ s = 3 ∨ s = 4 by omega) with rfl | rfl | rfl | rfl
    · have c1 := ht.rep 1 1 rfl
      go_enter Tryz.func19, Tryz.ntmps19
      go_wp2_with (first | (go_at_call 37; refine (isSize_any _ _).mono ?_; rintro e w' ⟨rfl, rfl⟩) | go_in)
      go_ret
      exact ⟨rfl, rfl⟩
    · have c1 := ht.rep 2 16 rfl
      go_enter Tryz.func19, Tryz.ntmps19
      go_wp2_with (first | (go_at_call 37; refine (isSize_any _ _).mono ?_; rintro e w' ⟨rfl, rfl⟩) | go_in)
      go_ret
      exact ⟨rfl, rfl⟩
    · have c1 := ht.rep 3 1 rfl
      go_enter Tryz.func19, Tryz.ntmps19
      go_wp2_with (first | (go_at_call 37; refine (isSize_any _ _).mono ?_; rintro e w' ⟨rfl, rfl⟩) | go_in)
      go_ret
      exact ⟨rfl, rfl⟩
    · have c1 := ht.rep 4 16 rfl
      go_enter Tryz.func19, Tryz.ntmps19
      go_wp2_with (first | (go_at_call 37; refine (isSize_any _ _).mono ?_; rintro e w' ⟨rfl, rfl⟩) | go_in)
      go_ret
      exact ⟨rfl, rfl⟩
  · have q : (decide (1 ≤ s) && decide (s ≤ 4)) = false := by simp; omega
    have hz : reN s = 0 := by unfold reN; rw [if_neg (by omega), if_neg (by omega), if_neg (by omega), if_neg (by omega)]
    rw [hz]
    go_enter Tryz.func19, Tryz.ntmps19
    go_wp2_with (first | (go_at_call 37; refine (isSize_any _ _).mono ?_; rintro e w' ⟨rfl, rfl⟩) | go_in)
    go_ret
    exact ⟨rfl, rfl⟩
end Go.Proofs.YtmodcbdgnmjkoabGreatDoor
