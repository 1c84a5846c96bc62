import Derived.Test.YtliiblaodhcjhabPlainT
namespace Go.Proofs.Ytliiblaodhcjhab
set_option linter.unusedVariables false

/-- The least multiple from k on. -/
def upO (k al : Int) : Option Int := if k % al = 0 then some k else if 18446744073709551615 - k < al - k % al then none else some (k + (al - k % al))

theorem mult_ge {k al h : Int} (ha : 0 < al) (hk : k ≤ h) (hm : h % al = 0) (hr : k % al ≠ 0) : k + (al - k % al) ≤ h := by
  have e1 := Int.mul_ediv_add_emod k al
  have e2 := Int.mul_ediv_add_emod h al
  have hr0 := Int.emod_nonneg k (show al ≠ 0 by omega)
  have hlt : k / al < h / al := by
    rcases (show k / al < h / al ∨ h / al ≤ k / al by omega) with h1 | h1
    · exact h1
    · have := Int.mul_le_mul_of_nonneg_left h1 (show 0 ≤ al by omega)
      omega
  have := Int.mul_le_mul_of_nonneg_left (show k / al + 1 ≤ h / al by omega) (show 0 ≤ al by omega)
  rw [Int.mul_add, Int.mul_one] at this
  omega

theorem mult_up {k al : Int} (ha : 0 < al) : (k + (al - k % al)) % al = 0 := by
  have e1 := Int.mul_ediv_add_emod k al
  have : k + (al - k % al) = al * (k / al + 1) := by rw [Int.mul_add, Int.mul_one]; omega
  rw [this]
  exact Int.mul_emod_right _ _

theorem mult_down {k al : Int} : (k - k % al) % al = 0 := by
  have e1 := Int.mul_ediv_add_emod k al
  have : k - k % al = al * (k / al) := by omega
  rw [this]
  exact Int.mul_emod_right _ _

theorem mult_less {g al : Int} (h : g % al = 0) : (g - al) % al = 0 := by
  rw [Int.sub_emod, h, Int.emod_self]
  simp

theorem upO_some {k al g : Int} (ha : 0 < al) (hk : 0 ≤ k) (h : upO k al = some g) : g % al = 0 ∧ k ≤ g ∧ (k ≤ 18446744073709551615 → g ≤ 18446744073709551615) ∧ ∀ x, k ≤ x → x % al = 0 → g ≤ x := by
  have hr0 := Int.emod_nonneg k (show al ≠ 0 by omega)
  have hr1 := Int.emod_lt_of_pos k ha
  rw [upO] at h
  split at h
  · cases h
    exact ⟨by assumption, Int.le_refl _, fun h => h, fun x hx _ => hx⟩
  · split at h
    · cases h
    · cases h
      exact ⟨mult_up ha, by omega, fun _ => by omega, fun x hx hm => mult_ge ha hx hm (by assumption)⟩

theorem upO_none {k al : Int} (ha : 0 < al) (h : upO k al = none) (x : Int) (hx : k ≤ x) (hx2 : x ≤ 18446744073709551615) : x % al ≠ 0 := by
  rw [upO] at h
  split at h
  · cases h
  · split at h
    · intro hm
      have := mult_ge ha hx hm (by assumption)
      omega
    · cases h

/-- n keys from g on lie at or below hi, and none has a value. -/
def fitsP (L : List (Sp Int)) (g n hi : Int) : Prop := 1 ≤ n ∧ g ≤ hi ∧ n - 1 ≤ hi - g ∧ ∀ x, g ≤ x → x ≤ g + (n - 1) → get L x = none
def okG (L : List (Sp Int)) (lo hi n al g : Int) : Prop := g % al = 0 ∧ lo ≤ g ∧ fitsP L g n hi

theorem fitsP_next {L : List (Sp Int)} (h : Good 0 none L) {g n hi : Int} (h1 : 1 ≤ n) (h2 : g ≤ hi) (h3 : n - 1 ≤ hi - g) : fitsP L g n hi ↔ (match next L g with | none => True | some s => g + (n - 1) < s.lo) := by
  cases hn : next L g with
  | none => exact ⟨fun _ => trivial, fun _ => ⟨h1, h2, h3, fun x hx _ => next_none h hn x hx⟩⟩
  | some s =>
    obtain ⟨a1, a2, a3, a4, a5, a6, a7, a8⟩ := next_some h hn
    constructor
    · intro hf
      show g + (n - 1) < s.lo
      rcases (show g + (n - 1) < s.lo ∨ s.lo ≤ g + (n - 1) by omega) with hl | hl
      · exact hl
      · exfalso
        by_cases hgs : g ≤ s.lo
        · have := hf.2.2.2 s.lo hgs hl
          rw [a6 s.lo (Int.le_refl _) a2] at this
          cases this
        · have := hf.2.2.2 g (Int.le_refl _) (by omega)
          rw [a6 g (by omega) a4] at this
          cases this
    · intro hl
      replace hl : g + (n - 1) < s.lo := hl
      exact ⟨h1, h2, h3, fun x hx hx2 => a5 x hx (by omega)⟩

/-- Below the end of the span that is met nothing fits. -/
theorem gap_step {L : List (Sp Int)} (h : Good 0 none L) {lo lo' hi n al g : Int} (ha : 0 < al) (hi1 : hi ≤ 18446744073709551615) (hlo' : 0 ≤ lo') (hinv : ∀ x, okG L lo hi n al x → lo' ≤ x) (hg : upO lo' al = some g) {s : Sp Int} (hn : next L g = some s) (hs : s.lo ≤ g + (n - 1)) :
    ∀ x, okG L lo hi n al x → s.hi + 1 ≤ x := by
  intro x hx
  obtain ⟨a1, a2, a3, a4, a5, a6, a7, a8⟩ := next_some h hn
  have hgx := (upO_some ha hlo' hg).2.2.2 x (hinv x hx) hx.1
  obtain ⟨m1, m2, f1, f2, f3, f4⟩ := hx
  rcases (show s.hi < x ∨ x ≤ s.hi by omega) with hl | hl
  · omega
  · exfalso
    by_cases hsx : x ≤ s.lo
    · have := f4 s.lo hsx (by omega)
      rw [a6 s.lo (Int.le_refl _) a2] at this
      cases this
    · have := f4 x (Int.le_refl _) (by omega)
      rw [a6 x (by omega) hl] at this
      cases this

/-- What Gap tells. -/
def GapIs (L : List (Sp Int)) (lo hi n al : Int) (r : Option Int) : Prop := (∀ g, r = some g → okG L lo hi n al g ∧ (0 ≤ g ∧ g ≤ 18446744073709551615) ∧ ∀ x, okG L lo hi n al x → g ≤ x) ∧ (r = none → ∀ x, ¬ okG L lo hi n al x)
end Go.Proofs.Ytliiblaodhcjhab
