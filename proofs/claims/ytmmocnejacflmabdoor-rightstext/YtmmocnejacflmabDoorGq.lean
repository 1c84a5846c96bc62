import Derived.Test.YtmmocnejacflmabDoorGt
namespace Go.Proofs.YtmmocnejacflmabDoor
open Go.RowKit
set_option linter.unusedVariables false
def allF (P : Fa → Bool) : Bool := (List.range 11).all fun k => (List.range 3).all fun l => (List.range 16).all fun d => P ⟨(k : Int), (l : Int), (d : Int)⟩
theorem allF_at {P : Fa → Bool} (h : allF P = true) (f : Fa) (hg : Rg f) (hd : 0 ≤ f.d ∧ f.d ≤ 15) : P f = true := by
  obtain ⟨k, l, d⟩ := f
  simp only [Rg] at hg hd
  obtain ⟨k, rfl⟩ := Int.eq_ofNat_of_zero_le hg.1
  obtain ⟨l, rfl⟩ := Int.eq_ofNat_of_zero_le hg.2.2.1
  obtain ⟨d, rfl⟩ := Int.eq_ofNat_of_zero_le hd.1
  simp only [allF, List.all_eq_true, List.mem_range] at h
  exact h k (by omega) l (by omega) d (by omega)
theorem rt_range {f : Fa} (h : rtF f = true) : Rg f ∧ 0 ≤ f.d ∧ f.d ≤ 15 := by
  unfold rtF at h
  split at h
  · rename_i hg
    refine ⟨hg, ?_⟩
    split at h
    · cases h
    · split at h
      · simpa using h
      · have : f.d = 0 := by simpa using h
        omega
  · cases h
def okOne (f : Fa) : Bool := !rtF f || ([false, true].all fun b => fOk (stW f b) && ((wF (stW f b)).same f && ((wB (stW f b) == b) && (decide (0 ≤ stW f b) && (decide (stW f b < 4096) && (decide (0 < f.k) && (stW f true == stW f false + 2048)))))))
theorem okAll : allF okOne = true := by decide +kernel
theorem st_fa {f : Fa} (b : Bool) (h : rtF f = true) : fOk (stW f b) = true ∧ wF (stW f b) = f ∧ wB (stW f b) = b ∧ 0 ≤ stW f b ∧ stW f b < 4096 ∧ 0 < f.k ∧ stW f true = stW f false + 2048 := by
  obtain ⟨hg, hd⟩ := rt_range h
  have h1 := allF_at okAll f hg hd
  simp only [okOne, h, Bool.not_true, Bool.false_or, List.all_eq_true] at h1
  have h2 := h1 b (by cases b <;> simp)
  simp only [Bool.and_eq_true, decide_eq_true_eq, beq_iff_eq, Fa.same_iff] at h2
  exact h2
/-- The word of a right fault is read as that fault. -/
theorem fault_of {f : Fa} (b : Bool) (h : rtF f = true) : fF (stW f b) = f ∧ fB (stW f b) = b ∧ fE (stW f b) = 0 := by
  obtain ⟨h1, h2, h3, _⟩ := st_fa b h
  simp [fF, fB, fE, h1, h2, h3]
theorem fE_cases (w : Int) : (fE w = 0 ∧ rtF (fF w) = true ∧ stW (fF w) (fB w) = w ∧ 0 < (fF w).k) ∨ (fE w = 70 ∧ fF w = fZ ∧ fB w = false ∧ fOk w = false) := by
  cases h : fOk w with
  | true =>
    left
    have h2 := h
    simp only [fOk, Bool.and_eq_true, beq_iff_eq] at h2
    refine ⟨by simp [fE, h], by simp [fF, h, h2.1], by simp [fF, fB, h, h2.2], ?_⟩
    have := (st_fa false h2.1).2.2.2.2.2.1
    simpa [fF, h] using this
  | false => exact Or.inr ⟨by simp [fE, h], by simp [fF, h], by simp [fB, h], rfl⟩
/-- None is found. -/
theorem none_found (w : Int) (h : ∀ f : Fa, 1 ≤ f.k → Rg f → 0 ≤ f.d → f.d ≤ 15 → rtF f = true → stW f false ≠ w ∧ stW f false + 2048 ≠ w) : fF w = fZ ∧ fB w = false ∧ fE w = 70 := by
  rcases fE_cases w with ⟨h1, h2, h3, h4⟩ | ⟨h1, h2, h3, _⟩
  · exfalso
    obtain ⟨hg, hd⟩ := rt_range h2
    have h5 := h (fF w) (by omega) hg hd.1 hd.2 h2
    have h6 := (st_fa false h2).2.2.2.2.2.2
    cases hb : fB w
    · rw [hb] at h3
      exact h5.1 h3
    · rw [hb, h6] at h3
      exact h5.2 h3
  · exact ⟨h2, h3, h1⟩
end Go.Proofs.YtmmocnejacflmabDoor
