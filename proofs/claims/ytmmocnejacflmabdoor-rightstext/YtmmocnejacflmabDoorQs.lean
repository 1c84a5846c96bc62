import Derived.Test.YtmmocnejacflmabDoorGq
namespace Go.Proofs.YtmmocnejacflmabDoor
open Go.RowKit
set_option linter.unusedVariables false
set_option linter.unusedSimpArgs false
def rrF (k l d : Int) : Bool :=
  if k = 1 ∨ k = 2 ∨ k = 3 ∨ k = 6 ∨ k = 10 then (l == 0) && (d == 0)
  else if k = 4 ∨ k = 5 then (l == 0) && (decide (0 ≤ d) && decide (d ≤ 15))
  else if k = 7 ∨ k = 8 ∨ k = 9 then ((l == 1) || (l == 2)) && (decide (0 ≤ d) && decide (d ≤ 15))
  else false
set_option maxRecDepth 100000 in
set_option maxHeartbeats 16000000 in
theorem qright_raw (k l d : Int) (w : World) :
    Calls Tryd.prog 27 #[.agg #[.int .i64 k, .int .i64 l, .int .i64 d]] w fun e w' => e = .returned (.bool (rrF k l d)) ∧ Below w.heap.size w w' := by
  have HN : Hid (∀ o, Below w.heap.size w (w.alloc o)) := below_new w
  have hd : ∃ b, decide (0 ≤ d) = b := ⟨_, rfl⟩
  obtain ⟨bd, hd⟩ := hd
  have hk : k = 1 ∨ k = 2 ∨ k = 3 ∨ k = 6 ∨ k = 10 ∨ k = 4 ∨ k = 5 ∨ k = 7 ∨ k = 8 ∨ k = 9 ∨ (¬ k = 1 ∧ ¬ k = 2 ∧ ¬ k = 3 ∧ ¬ k = 4 ∧ ¬ k = 5 ∧ ¬ k = 6 ∧ ¬ k = 7 ∧ ¬ k = 8 ∧ ¬ k = 9 ∧ ¬ k = 10) := by omega
  unfold rrF
  rcases hk with rfl | rfl | rfl | rfl | rfl | rfl | rfl | rfl | rfl | rfl | ⟨n1, n2, n3, n4, n5, n6, n7, n8, n9, n10⟩
  iterate 7
    · have hl : ∃ b, (l == 0) = b := ⟨_, rfl⟩
      obtain ⟨bl, hl⟩ := hl
      cases bl <;> cases bd
      all_goals
        go_enter Tryd.func27, Tryd.ntmps27
        go_wp2
        go_ret
        exact ⟨by simp [hl, hd], HN.out _⟩
  iterate 3
    · have hl : ∃ b, (l == 1) = b := ⟨_, rfl⟩
      obtain ⟨bl, hl⟩ := hl
      have hm : ∃ b, (l == 2) = b := ⟨_, rfl⟩
      obtain ⟨bm, hm⟩ := hm
      cases bl <;> cases bm <;> cases bd
      all_goals
        go_enter Tryd.func27, Tryd.ntmps27
        go_wp2
        go_ret
        exact ⟨by simp [hl, hm, hd], HN.out _⟩
  · have z1 : (k == 1) = false := by simp [n1]
    have z2 : (k == 2) = false := by simp [n2]
    have z3 : (k == 3) = false := by simp [n3]
    have z4 : (k == 4) = false := by simp [n4]
    have z5 : (k == 5) = false := by simp [n5]
    have z6 : (k == 6) = false := by simp [n6]
    have z7 : (k == 7) = false := by simp [n7]
    have z8 : (k == 8) = false := by simp [n8]
    have z9 : (k == 9) = false := by simp [n9]
    have z10 : (k == 10) = false := by simp [n10]
    cases bd
    all_goals
      go_enter Tryd.func27, Tryd.ntmps27
      go_wp2
      go_ret
      exact ⟨by simp [n1, n2, n3, n4, n5, n6, n7, n8, n9, n10], HN.out _⟩
theorem rrF_eq (f : Fa) : rrF f.k f.l f.d = rtF f := by
  obtain ⟨k, l, d⟩ := f
  unfold rrF rtF
  by_cases h : Rg ⟨k, l, d⟩
  · rw [if_pos h]
    simp only [Rg] at h
    rcases (show k = 0 ∨ k = 1 ∨ k = 2 ∨ k = 3 ∨ k = 4 ∨ k = 5 ∨ k = 6 ∨ k = 7 ∨ k = 8 ∨ k = 9 ∨ k = 10 by omega) with rfl | rfl | rfl | rfl | rfl | rfl | rfl | rfl | rfl | rfl | rfl <;> rcases (show l = 0 ∨ l = 1 ∨ l = 2 by omega) with rfl | rfl | rfl <;> simp [cdF, foF, lForm]
  · rw [if_neg h]
    simp only [Rg] at h
    have e0 : ∀ b c : Bool, ¬ (b = true ∧ c = true) → (b && c) = false := by decide
    by_cases h1 : k = 1 ∨ k = 2 ∨ k = 3 ∨ k = 6 ∨ k = 10
    · rw [if_pos h1]
      apply e0
      simp only [beq_iff_eq]
      omega
    rw [if_neg h1]
    by_cases h2 : k = 4 ∨ k = 5
    · rw [if_pos h2]
      apply e0
      simp only [beq_iff_eq]
      omega
    rw [if_neg h2]
    by_cases h3 : k = 7 ∨ k = 8 ∨ k = 9
    · rw [if_pos h3]
      apply e0
      simp only [beq_iff_eq, Bool.or_eq_true]
      omega
    rw [if_neg h3]
theorem qright_any (f : Fa) (w : World) : Calls Tryd.prog 27 #[.agg #[.int .i64 f.k, .int .i64 f.l, .int .i64 f.d]] w fun e w' => e = .returned (.bool (rtF f)) ∧ Below w.heap.size w w' := by
  rw [← rrF_eq]
  exact qright_raw _ _ _ w
theorem rt_kinds {f : Fa} (h : rtF f = true) : (f.l = 0 ∧ (f.k = 1 ∨ f.k = 2 ∨ f.k = 3 ∨ f.k = 4 ∨ f.k = 5 ∨ f.k = 6 ∨ f.k = 10)) ∨ ((f.l = 1 ∨ f.l = 2) ∧ (f.k = 7 ∨ f.k = 8 ∨ f.k = 9)) := by
  rw [← rrF_eq] at h
  unfold rrF at h
  repeat' split at h
  · simp at h; omega
  · simp at h; omega
  · simp at h; omega
  · cases h
end Go.Proofs.YtmmocnejacflmabDoor
