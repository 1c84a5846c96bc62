import Derived.Test.YtliiblaodhcjhabCuts
namespace Go.Proofs.Ytliiblaodhcjhab
set_option linter.unusedVariables false

theorem refLast_congr {D : List Dn} {k k' : Int} (h : ∀ d ∈ D, (d.lo ≤ k ∧ k ≤ d.hi) ↔ (d.lo ≤ k' ∧ k' ≤ d.hi)) (n : Nat) : refLast D k n = refLast D k' n := by
  induction n with
  | zero => rfl
  | succ n ih =>
    rw [refLast, refLast]
    cases hd : D[n]? with
    | none => exact ih
    | some d =>
      have hh := h d (List.mem_of_getElem? hd)
      show (if d.lo ≤ k ∧ k ≤ d.hi then d.tells else refLast D k n) = (if d.lo ≤ k' ∧ k' ≤ d.hi then d.tells else refLast D k' n)
      by_cases c : d.lo ≤ k ∧ k ≤ d.hi
      · rw [if_pos c, if_pos (hh.1 c)]
      · rw [if_neg c, if_neg (fun e => c (hh.2 e)), ih]

theorem rise_low {l : List Int} {c : Int} (h : Rise c l) : ∀ y ∈ l, c ≤ y := by
  induction l generalizing c with
  | nil => intro y hy; cases hy
  | cons z s ih =>
    intro y hy
    rcases List.mem_cons.1 hy with rfl | hy
    · exact h.1
    · have := ih h.2 y hy
      have := h.1
      omega

/-- Between two cuts there is none. -/
theorem rise_gap {l : List Int} {c : Int} (h : Rise c l) {i : Nat} {y : Int} (hy : l[i]? = some y) : ∀ x ∈ l, x ≤ y ∨ ∃ z, l[i + 1]? = some z ∧ z ≤ x := by
  induction l generalizing c i with
  | nil => simp at hy
  | cons a r ih =>
    intro x hx
    cases i with
    | zero =>
      simp at hy
      subst hy
      rcases List.mem_cons.1 hx with rfl | hx
      · exact .inl (Int.le_refl _)
      · right
        cases r with
        | nil => cases hx
        | cons b s =>
          refine ⟨b, by simp, ?_⟩
          rcases List.mem_cons.1 hx with rfl | hx
          · exact Int.le_refl _
          · have := rise_low h.2.2 x hx
            omega
    | succ i =>
      have hy' : r[i]? = some y := by simpa using hy
      rcases List.mem_cons.1 hx with rfl | hx
      · left
        have := rise_low h.2 y (List.mem_of_getElem? hy')
        omega
      · rcases ih h.2 hy' x hx with h1 | ⟨z, h1, h2⟩
        · exact .inl h1
        · exact .inr ⟨z, by simpa using h1, h2⟩

theorem rise_next {l : List Int} {c : Int} (h : Rise c l) {i : Nat} {y z : Int} (hy : l[i]? = some y) (hz : l[i + 1]? = some z) : y + 1 ≤ z := by
  induction l generalizing c i with
  | nil => simp at hy
  | cons a r ih =>
    cases i with
    | zero =>
      simp at hy hz
      subst hy
      exact rise_low h.2 z (List.mem_of_getElem? hz)
    | succ i => exact ih h.2 (by simpa using hy) (by simpa using hz)

theorem cutS_mem {l : List Int} {d : Dn} {x : Int} (h : x ∈ l) : x ∈ cutS l d := by
  rw [cutS]
  split
  · exact insK_mem.2 (.inr (insK_mem.2 (.inr h)))
  · exact insK_mem.2 (.inr h)
theorem cutS_lo {l : List Int} {d : Dn} : d.lo ∈ cutS l d := by
  rw [cutS]
  split
  · exact insK_mem.2 (.inr (insK_mem.2 (.inl rfl)))
  · exact insK_mem.2 (.inl rfl)
theorem cutS_hi {l : List Int} {d : Dn} (h : d.hi < 18446744073709551615) : d.hi + 1 ∈ cutS l d := by
  rw [cutS, if_pos h]
  exact insK_mem.2 (.inl rfl)
theorem fold_mem {D : List Dn} {l : List Int} {x : Int} (h : x ∈ l) : x ∈ D.foldl cutS l := by
  induction D generalizing l with
  | nil => exact h
  | cons d r ih => exact ih (cutS_mem h)
theorem cutsL_lo {D : List Dn} {l : List Int} {d : Dn} (h : d ∈ D) : d.lo ∈ D.foldl cutS l := by
  induction D generalizing l with
  | nil => cases h
  | cons e r ih =>
    rcases List.mem_cons.1 h with rfl | h
    · exact fold_mem (l := cutS l d) cutS_lo
    · exact ih h
theorem cutsL_hi {D : List Dn} {l : List Int} {d : Dn} (h : d ∈ D) (hh : d.hi < 18446744073709551615) : d.hi + 1 ∈ D.foldl cutS l := by
  induction D generalizing l with
  | nil => cases h
  | cons e r ih =>
    rcases List.mem_cons.1 h with rfl | h
    · exact fold_mem (l := cutS l d) (cutS_hi hh)
    · exact ih h
theorem cutsL_zero {D : List Dn} {l : List Int} : (0 : Int) ∈ cutsL D l := fold_mem (insK_mem.2 (.inl rfl))

/-- A value is one from a cut to the end of its piece. -/
theorem ref_const {D : List Dn} {l : List Int} (hr : Rise 0 (cutsL D l)) {i : Nat} {c k : Int} (hc : (cutsL D l)[i]? = some c) (h1 : c ≤ k) (h2 : k ≤ endC (cutsL D l) i) (hk : k ≤ 18446744073709551615) : refG D k = refG D c := by
  refine refLast_congr (fun d hd => ?_) _
  have hno : ∀ x ∈ cutsL D l, x ≤ k → x ≤ c := by
    intro x hx hxk
    rcases rise_gap hr hc x hx with h | ⟨z, hz, hzx⟩
    · exact h
    · rw [endC, hz] at h2
      simp only at h2
      omega
  constructor
  · rintro ⟨a, b⟩
    exact ⟨hno d.lo (cutsL_lo hd) a, by omega⟩
  · rintro ⟨a, b⟩
    refine ⟨by omega, ?_⟩
    by_cases hh : k ≤ d.hi
    · exact hh
    · have := hno (d.hi + 1) (cutsL_hi hd (by omega)) (by omega)
      omega

/-- The spans behind the first i pieces. -/
def refSp (D : List Dn) (cs : List Int) : Nat → List (Sp Int)
  | 0 => []
  | i + 1 => match cs[i]? with | some c => step (refSp D cs i) c (endC cs i) (refG D c) | none => refSp D cs i

theorem endC_rng {cs : List Int} (hr : Rise 0 cs) (hm : ∀ x ∈ cs, x ≤ 18446744073709551615) {i : Nat} {c : Int} (hc : cs[i]? = some c) : c ≤ endC cs i ∧ endC cs i ≤ 18446744073709551615 := by
  rw [endC]
  cases hz : cs[i + 1]? with
  | none => exact ⟨hm c (List.mem_of_getElem? hc), Int.le_refl _⟩
  | some z =>
    have h1 := rise_next hr hc hz
    have h2 := hm z (List.mem_of_getElem? hz)
    show c ≤ z - 1 ∧ z - 1 ≤ _
    omega

theorem refSp_inv {D : List Dn} {l : List Int} (hr : Rise 0 (cutsL D l)) (hm : ∀ x ∈ cutsL D l, x ≤ 18446744073709551615) (i : Nat) (hi : i ≤ (cutsL D l).length) :
    Good 0 none (refSp D (cutsL D l) i) ∧ (∀ c, (cutsL D l)[i]? = some c → (∀ s ∈ refSp D (cutsL D l) i, s.hi < c) ∧ ∀ k, 0 ≤ k → k < c → get (refSp D (cutsL D l) i) k = refG D k) ∧ (i = (cutsL D l).length → ∀ k, 0 ≤ k → k ≤ 18446744073709551615 → get (refSp D (cutsL D l) i) k = refG D k) ∧ (refSp D (cutsL D l) i).length ≤ i := by
  induction i with
  | zero =>
    refine ⟨trivial, fun c hc => ⟨(fun s hs => by cases hs), fun k h0 h1 => ?_⟩, fun h0 => ?_, Nat.zero_le _⟩
    · rcases rise_gap hr hc 0 cutsL_zero with h | ⟨z, hz, hz2⟩
      · have h3 := rise_low hr c (List.mem_of_getElem? hc)
        have := rise_gap hr hc 0 cutsL_zero
        exfalso
        have hmem : c = 0 := by
          have hz := cutsL_zero (D := D) (l := l)
          cases hl : cutsL D l with
          | nil => rw [hl] at hz; cases hz
          | cons a r =>
            rw [hl] at hc hz hr
            simp at hc
            subst hc
            rcases List.mem_cons.1 hz with e | e
            · exact e.symm
            · have := rise_low hr.2 0 e
              have := hr.1
              omega
        omega
      · have h3 := rise_low hr c (List.mem_of_getElem? hc)
        have := rise_next hr hc hz
        omega
    · have := cutsL_zero (D := D) (l := l)
      rw [List.eq_nil_of_length_eq_zero h0.symm] at this
      cases this
  | succ i ih =>
    obtain ⟨g1, g2, g3, g4⟩ := ih (by omega)
    obtain ⟨c, hc⟩ : ∃ c, (cutsL D l)[i]? = some c := ⟨_, List.getElem?_eq_getElem (by omega)⟩
    obtain ⟨b1, b2⟩ := g2 c hc
    have c0 := rise_low hr c (List.mem_of_getElem? hc)
    obtain ⟨e1, e2⟩ := endC_rng hr hm hc
    have es : refSp D (cutsL D l) (i + 1) = step (refSp D (cutsL D l) i) c (endC (cutsL D l) i) (refG D c) := by rw [refSp, hc]
    rw [es]
    obtain ⟨s1, s2, s3⟩ := step_good g1 c0 e1 e2 b1 (refG D c)
    have hget : ∀ k, 0 ≤ k → k ≤ endC (cutsL D l) i → get (step (refSp D (cutsL D l) i) c (endC (cutsL D l) i) (refG D c)) k = refG D k := by
      intro k h0 h1
      rw [s3]
      by_cases hck : c ≤ k
      · rw [if_pos ⟨hck, h1⟩]
        exact (ref_const hr hc hck h1 (by omega)).symm
      · rw [if_neg (by omega)]
        exact b2 k h0 (by omega)
    refine ⟨s1, fun z hz => ?_, fun hl => ?_, ?_⟩
    · have ee : endC (cutsL D l) i = z - 1 := by rw [endC, hz]
      refine ⟨fun s hs => ?_, fun k h0 h1 => hget k h0 (by omega)⟩
      have := s2 s hs
      omega
    · have ee : endC (cutsL D l) i = 18446744073709551615 := by
        rw [endC, List.getElem?_eq_none_iff.2 (by omega)]
      intro k h0 h1
      exact hget k h0 (by omega)
    · cases hg : refG D c with
      | none => exact Nat.le_trans g4 (Nat.le_succ _)
      | some v =>
        rw [step]
        split
        · split
          · rename_i t ht _
            rw [List.length_append, List.length_dropLast]
            simp only [List.length_singleton]
            omega
          · rw [List.length_append]; simp only [List.length_singleton]; omega
        · simp
end Go.Proofs.Ytliiblaodhcjhab
