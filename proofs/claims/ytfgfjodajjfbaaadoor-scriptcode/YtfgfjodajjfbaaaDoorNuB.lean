import Derived.Test.YtfgfjodajjfbaaaDoorNuA
namespace Go.Proofs.YtfgfjodajjfbaaaDoor
open Go.RowKit
set_option linter.unusedVariables false

set_option maxRecDepth 100000 in
set_option maxHeartbeats 400000 in
/-- words.Number. -/
theorem number_any (s : ByteArray) (w : World) (hs : s.size ≤ 4611686018427387904) :
    Calls Tryd.prog 121 #[.string s] w fun e w' => e = .returned (.tuple #[.int .u64 (numV (numAll s)), .int .i64 (numE (numAll s))]) ∧ Below w.heap.size w w' := by
  by_cases h2 : 2 ≤ s.size
  · have hq := pre_eq s h2
    by_cases hx : bt s 0 = 48 ∧ bt s 1 = 120
    · have hy : ((s.extract 0 2).toList == [48, 120]) = true := by rw [hq]; simpa using hx
      have ha : numAll s = numB (s.extract 2 s.size) 16 := by unfold numAll is0x; rw [if_pos (by simp; exact ⟨h2, hx⟩)]
      rw [ha]
      clear hq hx ha
      have hsz : (s.extract 2 s.size).size ≤ 4611686018427387904 := by simp; omega
      go_enter Tryd.func121, Tryd.ntmps121
      go_wp2_with (first | (go_at_call 124; refine (readDigits_16 _ _ hsz).mono ?_; rintro e w' ⟨rfl, hb⟩) | go_in)
      go_ret2
      exact ⟨rfl, hb⟩
    · have hy : ((s.extract 0 2).toList == [48, 120]) = false := by rw [hq]; simpa using hx
      have ha : numAll s = numB s 10 := by unfold numAll is0x; rw [if_neg (by simp; intro _ a; exact fun b => hx ⟨a, b⟩)]
      rw [ha]
      clear hq hx ha
      go_enter Tryd.func121, Tryd.ntmps121
      go_wp2_with (first | (go_at_call 124; refine (readDigits_10 _ _ hs).mono ?_; rintro e w' ⟨rfl, hb⟩) | go_in)
      go_ret2
      exact ⟨rfl, hb⟩
  · have ha : numAll s = numB s 10 := by unfold numAll is0x; rw [if_neg (by simp; omega)]
    rw [ha]
    clear ha
    have hd : decide ((2 : Int) ≤ (s.size : Int)) = false := by simp; omega
    go_enter Tryd.func121, Tryd.ntmps121
    go_wp2_with (first | (go_at_call 124; refine (readDigits_10 _ _ hs).mono ?_; rintro e w' ⟨rfl, hb⟩) | go_in)
    go_ret2
    exact ⟨rfl, hb⟩
end Go.Proofs.YtfgfjodajjfbaaaDoor
