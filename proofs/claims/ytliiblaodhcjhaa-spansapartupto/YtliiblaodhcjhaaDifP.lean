import Derived.Test.YtliiblaodhcjhaaTwo
namespace Go.Proofs.Ytliiblaodhcjhaa
set_option linter.unusedVariables false

def piecesL {α : Type} [DecidableEq α] (f : Int → Option α) (cs : List Int) : Nat → List (Sp α)
  | 0 => []
  | i + 1 => match cs[i]? with | some c => step (piecesL f cs i) c (endC cs i) (f c) | none => piecesL f cs i

theorem ref_const2 {D : List Dn} {cs : List Int} (hr : Rise 0 cs) (hlo : ∀ d ∈ D, d.lo ∈ cs) (hhi : ∀ d ∈ D, d.hi < 18446744073709551615 → d.hi + 1 ∈ cs) {i : Nat} {c k : Int} (hc : cs[i]? = some c) (h1 : c ≤ k) (h2 : k ≤ endC cs i) (hk : k ≤ 18446744073709551615) : refG D k = refG D c := by
  refine refLast_congr (fun d hd => ?_) _
  have hno : ∀ x ∈ cs, x ≤ k → x ≤ c := by
    intro x hx hxk
    rcases rise_gap hr hc x hx with h | ⟨z, hz, hzx⟩
    · exact h
    · rw [endC, hz] at h2
      simp only at h2
      omega
  constructor
  · rintro ⟨a, b⟩
    exact ⟨hno d.lo (hlo d hd) a, by omega⟩
  · rintro ⟨a, b⟩
    refine ⟨by omega, ?_⟩
    by_cases hh : k ≤ d.hi
    · exact hh
    · have := hno (d.hi + 1) (hhi d hd (by omega)) (by omega)
      omega

/-- Where two part. -/
def partF (f g : Int → Option Int) (k : Int) : Option Unit := if f k = g k then none else some ()

theorem pieces_inv {α : Type} [DecidableEq α] {f : Int → Option α} {cs : List Int} (hr : Rise 0 cs) (hzm : (0 : Int) ∈ cs) (hm : ∀ x ∈ cs, x ≤ 18446744073709551615) (hcon : ∀ i c k, cs[i]? = some c → c ≤ k → k ≤ endC cs i → k ≤ 18446744073709551615 → f k = f c) (i : Nat) (hi : i ≤ cs.length) :
    Good 0 none (piecesL f cs i) ∧ (∀ c, cs[i]? = some c → (∀ s ∈ piecesL f cs i, s.hi < c) ∧ ∀ k, 0 ≤ k → k < c → get (piecesL f cs i) k = f k) ∧ (i = cs.length → ∀ k, 0 ≤ k → k ≤ 18446744073709551615 → get (piecesL f cs i) k = f k) ∧ (piecesL f cs i).length ≤ i := by
  induction i with
  | zero =>
    refine ⟨trivial, fun c hc => ⟨(fun s hs => by cases hs), fun k h0 h1 => ?_⟩, fun h0 => ?_, Nat.zero_le _⟩
    · rcases rise_gap hr hc 0 hzm with h | ⟨z, hz, hz2⟩
      · have h3 := rise_low hr c (List.mem_of_getElem? hc)
        have := rise_gap hr hc 0 hzm
        exfalso
        have hmem : c = 0 := by
          have hz := hzm
          cases hl : cs with
          | nil => rw [hl] at hz; cases hz
          | cons a r =>
            rw [hl] at hc hz hr
            simp at hc
            subst hc
            rcases List.mem_cons.1 hz with e | e
            · exact e.symm
            · have := rise_low hr.2 0 e
              have := hr.1
              omega
        omega
      · have h3 := rise_low hr c (List.mem_of_getElem? hc)
        have := rise_next hr hc hz
        omega
    · have := hzm
      rw [List.eq_nil_of_length_eq_zero h0.symm] at this
      cases this
  | succ i ih =>
    obtain ⟨g1, g2, g3, g4⟩ := ih (by omega)
    obtain ⟨c, hc⟩ : ∃ c, cs[i]? = some c := ⟨_, List.getElem?_eq_getElem (by omega)⟩
    obtain ⟨b1, b2⟩ := g2 c hc
    have c0 := rise_low hr c (List.mem_of_getElem? hc)
    obtain ⟨e1, e2⟩ := endC_rng hr hm hc
    have es : piecesL f cs (i + 1) = step (piecesL f cs i) c (endC cs i) (f c) := by rw [piecesL, hc]
    rw [es]
    obtain ⟨s1, s2, s3⟩ := step_good g1 c0 e1 e2 b1 (f c)
    have hget : ∀ k, 0 ≤ k → k ≤ endC cs i → get (step (piecesL f cs i) c (endC cs i) (f c)) k = f k := by
      intro k h0 h1
      rw [s3]
      by_cases hck : c ≤ k
      · rw [if_pos ⟨hck, h1⟩]
        exact (hcon i c k hc hck h1 (by omega)).symm
      · rw [if_neg (by omega)]
        exact b2 k h0 (by omega)
    refine ⟨s1, fun z hz => ?_, fun hl => ?_, ?_⟩
    · have ee : endC cs i = z - 1 := by rw [endC, hz]
      refine ⟨fun s hs => ?_, fun k h0 h1 => hget k h0 (by omega)⟩
      have := s2 s hs
      omega
    · have ee : endC cs i = 18446744073709551615 := by
        rw [endC, List.getElem?_eq_none_iff.2 (by omega)]
      intro k h0 h1
      exact hget k h0 (by omega)
    · cases hg : f c with
      | none => exact Nat.le_trans g4 (Nat.le_succ _)
      | some v =>
        rw [step]
        split
        · split
          · rename_i t ht _
            rw [List.length_append, List.length_dropLast]
            simp only [List.length_singleton]
            omega
          · rw [List.length_append]; simp only [List.length_singleton]; omega
        · simp

/-- What is told of the keys from k on, and up to where. -/
def stretchL : List (Sp Int) → Int → Option Int × Int
  | [], _ => (none, 18446744073709551615)
  | s :: _, k => if k < s.lo then (none, s.lo - 1) else (some s.val, s.hi)
def afterL : List (Sp Int) → Int → List (Sp Int)
  | [], _ => []
  | s :: r, k => if s.hi ≤ k then r else s :: r

/-- The rest of a list, none of it ending below k. -/
def Rest (A : List (Sp Int)) (k : Int) (A' : List (Sp Int)) : Prop := (∃ c u, Good c u A') ∧ (∀ s ∈ A', k ≤ s.hi) ∧ ∀ x, k ≤ x → get A' x = get A x

theorem Rest.start {A : List (Sp Int)} (h : Good 0 none A) : Rest A 0 A := ⟨⟨0, none, h⟩, fun s hs => by have := good_lo h s hs; omega, fun _ _ => rfl⟩

theorem stretch_rng {A A' : List (Sp Int)} {k : Int} (hk : k ≤ 18446744073709551615) (h : Rest A k A') : k ≤ (stretchL A' k).2 ∧ (stretchL A' k).2 ≤ 18446744073709551615 := by
  obtain ⟨⟨c, u, hg⟩, h2, h3⟩ := h
  cases A' with
  | nil => exact ⟨hk, Int.le_refl _⟩
  | cons s r =>
    have := good_lo hg s (by simp)
    have := h2 s (by simp)
    rw [stretchL]
    split
    · exact ⟨by show k ≤ s.lo - 1; omega, by show s.lo - 1 ≤ _; omega⟩
    · exact ⟨by show k ≤ s.hi; omega, by show s.hi ≤ _; omega⟩

theorem stretch_get {A A' : List (Sp Int)} {k x : Int} (h : Rest A k A') (h1 : k ≤ x) (h2 : x ≤ (stretchL A' k).2) : get A x = (stretchL A' k).1 := by
  obtain ⟨⟨c, u, hg⟩, h4, h3⟩ := h
  rw [← h3 x h1]
  cases A' with
  | nil => rfl
  | cons s r =>
    have hs := good_lo hg s (by simp)
    have hs2 := h4 s (by simp)
    rw [stretchL] at h2 ⊢
    split
    · rename_i hlt
      rw [if_pos hlt] at h2
      have h2 : x ≤ s.lo - 1 := h2
      rw [get, if_neg (by omega)]
      exact get_low hg.2.2.2.2 (by omega)
    · rename_i hlt
      rw [if_neg hlt] at h2
      have h2 : x ≤ s.hi := h2
      rw [get, if_pos ⟨by omega, h2⟩]

theorem Rest.after {A A' : List (Sp Int)} {k e : Int} (h : Rest A k A') (h1 : k ≤ e) (h2 : e ≤ (stretchL A' k).2) : Rest A (e + 1) (afterL A' e) := by
  obtain ⟨⟨c, u, hg⟩, h4, h3⟩ := h
  cases A' with
  | nil => exact ⟨⟨c, u, trivial⟩, (fun s hs => by cases hs), fun x hx => h3 x (by omega)⟩
  | cons s r =>
    have hs := good_lo hg s (by simp)
    have hs2 := h4 s (by simp)
    have hr := good_lo hg.2.2.2.2
    rw [afterL]
    split
    · rename_i hle
      have hes : e ≤ s.hi := by
        rw [stretchL] at h2
        split at h2
        · have h2 : e ≤ s.lo - 1 := h2
          omega
        · exact h2
      refine ⟨⟨_, _, hg.2.2.2.2⟩, (fun t ht => by have := hr t ht; omega), fun x hx => ?_⟩
      rw [← h3 x (by omega), get, if_neg (by omega)]
    · rename_i hle
      refine ⟨⟨_, _, hg⟩, fun t ht => ?_, fun x hx => h3 x (by omega)⟩
      rcases List.mem_cons.1 ht with rfl | ht
      · omega
      · have := hr t ht
        omega

/-- The rooms below k are told. -/
def Told (A B : List (Sp Int)) (k : Int) (R : List (Sp Unit)) : Prop := Good 0 none R ∧ (∀ s ∈ R, s.hi < k) ∧ ∀ x, 0 ≤ x → x < k → get R x = partF (get A) (get B) x

theorem Told.start {A B : List (Sp Int)} : Told A B 0 [] := ⟨trivial, (fun s hs => by cases hs), fun x h0 h1 => by omega⟩

theorem Told.step {A B A' B' : List (Sp Int)} {k e : Int} {R : List (Sp Unit)} (h : Told A B k R) (h0 : 0 ≤ k) (hA : Rest A k A') (hB : Rest B k B') (hke : k ≤ e) (he : e ≤ 18446744073709551615) (eA : e ≤ (stretchL A' k).2) (eB : e ≤ (stretchL B' k).2) : Told A B (e + 1) (step R k e (if (stretchL A' k).1 = (stretchL B' k).1 then none else some ())) := by
  obtain ⟨g1, g2, g3⟩ := h
  obtain ⟨s1, s2, s3⟩ := step_good g1 h0 hke he g2 (if (stretchL A' k).1 = (stretchL B' k).1 then none else some ())
  refine ⟨s1, s2, fun x hx hx2 => ?_⟩
  rw [s3]
  by_cases hc : k ≤ x
  · rw [if_pos ⟨hc, by omega⟩, partF, stretch_get hA hc (by omega), stretch_get hB hc (by omega)]
  · rw [if_neg (by omega)]
    exact g3 x hx (by omega)

/-- What Diff tells. -/
def DiffIs (A B : List (Sp Int)) (R : List (Sp Unit)) : Prop := Good 0 none R ∧ ∀ x, 0 ≤ x → x ≤ 18446744073709551615 → get R x = partF (get A) (get B) x

theorem DiffIs.uniq {A B : List (Sp Int)} {R R' : List (Sp Unit)} (h : DiffIs A B R) (h' : DiffIs A B R') : R = R' := h.1.uniq h'.1 (fun k h0 h1 => (h.2 k h0 h1).trans (h'.2 k h0 h1).symm)
theorem DiffIs.comm {A B : List (Sp Int)} {R : List (Sp Unit)} (h : DiffIs A B R) : DiffIs B A R := ⟨h.1, fun x h0 h1 => by
  rw [h.2 x h0 h1, partF, partF]
  by_cases c : get A x = get B x
  · rw [if_pos c, if_pos c.symm]
  · rw [if_neg c, if_neg (fun e => c e.symm)]⟩
theorem DiffIs.nil_iff {A B : List (Sp Int)} (hA : Good 0 none A) (hB : Good 0 none B) {R : List (Sp Unit)} (h : DiffIs A B R) : R = [] ↔ A = B := by
  constructor
  · intro e
    subst e
    refine hA.uniq hB (fun k h0 h1 => ?_)
    have := h.2 k h0 h1
    rw [partF] at this
    split at this
    · assumption
    · cases this
  · intro e
    subst e
    exact h.1.uniq (show Good 0 none ([] : List (Sp Unit)) from trivial) (fun k h0 h1 => by rw [h.2 k h0 h1, partF, if_pos rfl]; rfl)
end Go.Proofs.Ytliiblaodhcjhaa
