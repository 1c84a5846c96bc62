import Derived.Test.YtcpcmjmgiagnoaaDoorRz
namespace Go.Proofs.YtcpcmjmgiagnoaaDoor
open Go.RowKit
set_option linter.unusedVariables false
set_option linter.unusedSimpArgs false
structure TZ (w : World) : Prop where
  base : Tb .u8 w 0 lBase
  kind : Tb .u8 w 1 lKind
  rep : Tb .u8 w 2 lRep
set_option maxRecDepth 100000 in
theorem repeats_any (s : Int) (w : World) (ht : TZ w) : Calls Tryd.prog 11 #[.int .i64 s] w fun e w' => e = .returned (.int .i64 (reN s)) ∧ w = w' := by
  by_cases h : 1 ≤ s ∧ s ≤ 4
  · have q : (decide (1 ≤ s) && decide (s ≤ 4)) = true := by simp [h]
    rcases (show s = 1 ∨ s = 2 ∨ s = 3 ∨ s = 4 by omega) with rfl | rfl | rfl | rfl
    · have c1 := ht.rep 1 1 rfl
      go_enter Tryd.func11, Tryd.ntmps11
      go_wp2_with (first | (go_at_call 28; refine (isSize_any _ _).mono ?_; rintro e w' ⟨rfl, rfl⟩) | go_in)
      go_ret
      exact ⟨rfl, rfl⟩
    · have c1 := ht.rep 2 16 rfl
      go_enter Tryd.func11, Tryd.ntmps11
      go_wp2_with (first | (go_at_call 28; refine (isSize_any _ _).mono ?_; rintro e w' ⟨rfl, rfl⟩) | go_in)
      go_ret
      exact ⟨rfl, rfl⟩
    · have c1 := ht.rep 3 1 rfl
      go_enter Tryd.func11, Tryd.ntmps11
      go_wp2_with (first | (go_at_call 28; refine (isSize_any _ _).mono ?_; rintro e w' ⟨rfl, rfl⟩) | go_in)
      go_ret
      exact ⟨rfl, rfl⟩
    · have c1 := ht.rep 4 16 rfl
      go_enter Tryd.func11, Tryd.ntmps11
      go_wp2_with (first | (go_at_call 28; refine (isSize_any _ _).mono ?_; rintro e w' ⟨rfl, rfl⟩) | go_in)
      go_ret
      exact ⟨rfl, rfl⟩
  · have q : (decide (1 ≤ s) && decide (s ≤ 4)) = false := by simp; omega
    have hz : reN s = 0 := by unfold reN; rw [if_neg (by omega), if_neg (by omega), if_neg (by omega), if_neg (by omega)]
    rw [hz]
    go_enter Tryd.func11, Tryd.ntmps11
    go_wp2_with (first | (go_at_call 28; refine (isSize_any _ _).mono ?_; rintro e w' ⟨rfl, rfl⟩) | go_in)
    go_ret
    exact ⟨rfl, rfl⟩
set_option maxRecDepth 100000 in
theorem refRepeats_any (s : Int) (w : World) : Calls Tryd.prog 12 #[.int .i64 s] w fun e w' => e = .returned (.int .i64 (reN s)) ∧ w = w' := by
  by_cases h : 1 ≤ s ∧ s ≤ 4
  · rcases (show s = 1 ∨ s = 2 ∨ s = 3 ∨ s = 4 by omega) with rfl | rfl | rfl | rfl
    all_goals
      go_enter Tryd.func12, Tryd.ntmps12
      go_wp2
      go_ret
      exact ⟨rfl, rfl⟩
  · have hz : reN s = 0 := by unfold reN; rw [if_neg (by omega), if_neg (by omega), if_neg (by omega), if_neg (by omega)]
    have h1 : (s == 1) = false := by simp; omega
    have h2 : (s == 2) = false := by simp; omega
    have h3 : (s == 3) = false := by simp; omega
    have h4 : (s == 4) = false := by simp; omega
    rw [hz]
    go_enter Tryd.func12, Tryd.ntmps12
    go_wp2
    go_ret
    exact ⟨rfl, rfl⟩
set_option maxRecDepth 100000 in
set_option maxHeartbeats 4000000 in
theorem law_sizes (s : Int) (w : World) (ht : TZ w) : Calls Tryd.prog 3 #[.int .i64 s] w fun e w' => e = .returned (.bool true) ∧ Below w.heap.size w w' := by
  have HT : Hid (TZ w) := ht
  clear ht
  go_enter Tryd.func3, Tryd.ntmps3
  go_wp2
  go_loopw [3] (fun i wr => ∃ k : Nat, k ≤ 8 ∧ i = .int .i64 (k - 1) ∧ w = wr) (fun i _ => 8 - (intOf i + 1).toNat)
  case atStart => exact ⟨0, by omega, rfl, rfl⟩
  case round =>
    obtain ⟨k, hk, rfl, rfl⟩ := hrel
    by_cases h : k < 8
    · have hi : (k : Int) - 1 < 7 := by omega
      have hw : IntKind.i64.wrap ((k : Int) - 1 + 1) = ((k + 1 : Nat) : Int) - 1 := by rw [IntKind.wrap_i64]; omega
      go_wp2_with (first
        | (go_at_call 9; refine (bytes_any _ _ ⟨HT.out.base, HT.out.kind⟩).mono ?_; rintro e w' ⟨rfl, rfl⟩)
        | (go_at_call 10; refine (refBytes_any _ _).mono ?_; rintro e w' ⟨rfl, rfl⟩)
        | (go_at_call 11; refine (repeats_any _ _ HT.out).mono ?_; rintro e w' ⟨rfl, rfl⟩)
        | (go_at_call 12; refine (refRepeats_any _ _).mono ?_; rintro e w' ⟨rfl, rfl⟩)
        | go_in)
      go_roundw
      case rel =>
        refine ⟨k + 1, by omega, ?_⟩
        exact ⟨congrArg _ (by omega), trivial⟩
      case measure => simp [intOf]; omega
    · obtain rfl : k = 8 := by omega
      go_wp2_with (first
        | (go_at_call 9; refine (bytes_any _ _ ⟨HT.out.base, HT.out.kind⟩).mono ?_; rintro e w' ⟨rfl, rfl⟩)
        | (go_at_call 10; refine (refBytes_any _ _).mono ?_; rintro e w' ⟨rfl, rfl⟩)
        | (go_at_call 11; refine (repeats_any _ _ HT.out).mono ?_; rintro e w' ⟨rfl, rfl⟩)
        | (go_at_call 12; refine (refRepeats_any _ _).mono ?_; rintro e w' ⟨rfl, rfl⟩)
        | go_in)
      go_ret
      exact ⟨rfl, Below.refl _ _⟩
end Go.Proofs.YtcpcmjmgiagnoaaDoor
