namespace Go.Proofs.Ytliiblaodhcjhab
set_option linter.unusedVariables false

/-- A run of keys with one value, both ends in. -/
structure Sp (α : Type) where
  lo : Int
  hi : Int
  val : α

theorem Sp.ext' {α : Type} {s t : Sp α} (h1 : s.lo = t.lo) (h2 : s.hi = t.hi) (h3 : s.val = t.val) : s = t := by
  cases s; cases t; simp_all

variable {α : Type}

/-- Spans from the key c on, of which the first, if it begins at c, has another value than u. -/
def Good (c : Int) (u : Option α) : List (Sp α) → Prop
  | [] => True
  | s :: r => c ≤ s.lo ∧ s.lo ≤ s.hi ∧ s.hi ≤ 18446744073709551615 ∧ (s.lo = c → u ≠ some s.val) ∧ Good (s.hi + 1) (some s.val) r

/-- The value of a key. -/
def get : List (Sp α) → Int → Option α
  | [], _ => none
  | s :: r, k => if s.lo ≤ k ∧ k ≤ s.hi then some s.val else get r k

theorem get_low {L : List (Sp α)} {c : Int} {u : Option α} (h : Good c u L) {k : Int} (hk : k < c) : get L k = none := by
  induction L generalizing c u with
  | nil => rfl
  | cons s r ih =>
    obtain ⟨h1, h2, h3, h4, h5⟩ := h
    rw [get, if_neg (by omega)]
    exact ih h5 (by omega)

theorem get_high {L : List (Sp α)} {c : Int} {u : Option α} (h : Good c u L) {k : Int} (hk : 18446744073709551615 < k) : get L k = none := by
  induction L generalizing c u with
  | nil => rfl
  | cons s r ih =>
    obtain ⟨h1, h2, h3, h4, h5⟩ := h
    rw [get, if_neg (by omega)]
    exact ih h5

theorem Good.weak {L : List (Sp α)} {c c' : Int} {u u' : Option α} (h : Good c u L) (hc : c' < c) : Good c' u' L := by
  cases L with
  | nil => trivial
  | cons s r =>
    obtain ⟨h1, h2, h3, h4, h5⟩ := h
    exact ⟨by omega, h2, h3, fun e => by omega, h5⟩

theorem Good.weakNone {L : List (Sp α)} {c : Int} {u : Option α} (h : Good c u L) : Good c none L := by
  cases L with
  | nil => trivial
  | cons s r =>
    obtain ⟨h1, h2, h3, h4, h5⟩ := h
    exact ⟨h1, h2, h3, fun e => (by simp), h5⟩

/-- Two lists that give all keys the same values are one. -/
theorem Good.uniq {L L' : List (Sp α)} {c : Int} {u u' : Option α} (h : Good c u L) (h' : Good c u' L') (he : ∀ k, c ≤ k → k ≤ 18446744073709551615 → get L k = get L' k) : L = L' := by
  induction L generalizing c u u' L' with
  | nil =>
    cases L' with
    | nil => rfl
    | cons t r' =>
      obtain ⟨g1, g2, g3, g4, g5⟩ := h'
      have := he t.lo (by omega) (by omega)
      rw [get, get, if_pos (by omega)] at this
      cases this
  | cons s r ih =>
    obtain ⟨h1, h2, h3, h4, h5⟩ := h
    cases L' with
    | nil =>
      have := he s.lo (by omega) (by omega)
      rw [get, get, if_pos (by omega)] at this
      cases this
    | cons t r' =>
      obtain ⟨g1, g2, g3, g4, g5⟩ := h'
      have elo : s.lo = t.lo := by
        rcases Int.lt_trichotomy s.lo t.lo with hlt | heq | hgt
        · have := he s.lo (by omega) (by omega)
          rw [get, get, if_pos (by omega), if_neg (by omega), get_low g5 (by omega)] at this
          cases this
        · exact heq
        · have := he t.lo (by omega) (by omega)
          rw [get, get, if_neg (by omega), if_pos (by omega), get_low h5 (by omega)] at this
          cases this
      have ev : s.val = t.val := by
        have := he s.lo (by omega) (by omega)
        rw [get, get, if_pos (by omega), if_pos (by omega)] at this
        exact Option.some.inj this
      have ehi : s.hi = t.hi := by
        rcases Int.lt_trichotomy s.hi t.hi with hlt | heq | hgt
        · have h6 := he (s.hi + 1) (by omega) (by omega)
          rw [get, get, if_neg (by omega), if_pos (by omega)] at h6
          cases r with
          | nil => cases h6
          | cons a r2 =>
            obtain ⟨a1, a2, a3, a4, a5⟩ := h5
            rw [get] at h6
            by_cases hq : a.lo ≤ s.hi + 1 ∧ s.hi + 1 ≤ a.hi
            · rw [if_pos hq] at h6
              have := Option.some.inj h6
              exact absurd (by rw [this, ev]) (a4 (by omega))
            · rw [if_neg hq, get_low a5 (by omega)] at h6
              cases h6
        · exact heq
        · have h6 := he (t.hi + 1) (by omega) (by omega)
          rw [get, get, if_pos (by omega), if_neg (by omega)] at h6
          cases r' with
          | nil => cases h6
          | cons a r2 =>
            obtain ⟨a1, a2, a3, a4, a5⟩ := g5
            rw [get] at h6
            by_cases hq : a.lo ≤ t.hi + 1 ∧ t.hi + 1 ≤ a.hi
            · rw [if_pos hq] at h6
              have := Option.some.inj h6
              exact absurd (by rw [← this, ev]) (a4 (by omega))
            · rw [if_neg hq, get_low a5 (by omega)] at h6
              cases h6
      have est : s = t := Sp.ext' elo ehi ev
      subst est
      rw [ih h5 g5 (fun k h6 h7 => by
        have := he k (by omega) h7
        rwa [get, get, if_neg (by omega), if_neg (by omega)] at this)]

/-- What lies below b. -/
def below : List (Sp α) → Int → List (Sp α)
  | [], _ => []
  | s :: r, b => if b ≤ s.lo then [] else if b ≤ s.hi then [⟨s.lo, b - 1, s.val⟩] else s :: below r b

/-- What lies above h. -/
def above : List (Sp α) → Int → List (Sp α)
  | [], _ => []
  | s :: r, h => if s.hi ≤ h then above r h else if s.lo ≤ h then ⟨h + 1, s.hi, s.val⟩ :: r else s :: r

theorem get_below {L : List (Sp α)} {c : Int} {u : Option α} (h : Good c u L) (b k : Int) : get (below L b) k = if k < b then get L k else none := by
  induction L generalizing c u with
  | nil => simp [below, get]
  | cons s r ih =>
    obtain ⟨h1, h2, h3, h4, h5⟩ := h
    rw [below]
    by_cases q1 : b ≤ s.lo
    · rw [if_pos q1, get]
      by_cases hk : k < b
      · rw [if_pos hk, get, if_neg (by omega), get_low h5 (by omega)]
      · rw [if_neg hk]
    · rw [if_neg q1]
      by_cases q2 : b ≤ s.hi
      · rw [if_pos q2, get, get]
        show (if s.lo ≤ k ∧ k ≤ b - 1 then some s.val else none) = _
        by_cases hk : k < b
        · rw [if_pos hk, get]
          by_cases q3 : s.lo ≤ k
          · rw [if_pos (by omega), if_pos (by omega)]
          · rw [if_neg (by omega), if_neg (by omega), get_low h5 (by omega)]
        · rw [if_neg hk, if_neg (by omega)]
      · rw [if_neg q2, get, get, ih h5]
        by_cases hk : k < b
        · rw [if_pos hk, if_pos hk]
        · rw [if_neg hk, if_neg hk, if_neg (by omega)]

theorem get_above {L : List (Sp α)} {c : Int} {u : Option α} (h : Good c u L) (b k : Int) : get (above L b) k = if b < k then get L k else none := by
  induction L generalizing c u with
  | nil => simp [above, get]
  | cons s r ih =>
    obtain ⟨h1, h2, h3, h4, h5⟩ := h
    rw [above]
    by_cases q1 : s.hi ≤ b
    · rw [if_pos q1, ih h5, get]
      by_cases hk : b < k
      · rw [if_pos hk, if_pos hk, if_neg (by omega)]
      · rw [if_neg hk, if_neg hk]
    · rw [if_neg q1]
      by_cases q2 : s.lo ≤ b
      · rw [if_pos q2, get, get]
        show (if b + 1 ≤ k ∧ k ≤ s.hi then some s.val else get r k) = _
        by_cases hk : b < k
        · rw [if_pos hk]
          by_cases q3 : k ≤ s.hi
          · rw [if_pos (by omega), if_pos (by omega)]
          · rw [if_neg (by omega), if_neg (by omega)]
        · rw [if_neg hk, if_neg (by omega), get_low h5 (by omega)]
      · rw [if_neg q2, get]
        by_cases hk : b < k
        · rw [if_pos hk]
        · rw [if_neg hk, if_neg (by omega), get_low h5 (by omega)]

theorem get_append (A B : List (Sp α)) (k : Int) : get (A ++ B) k = (get A k).or (get B k) := by
  induction A with
  | nil => simp [get]
  | cons s r ih =>
    rw [List.cons_append, get, get, ih]
    split <;> simp

/-- Where a list's keys have ended, and the last value. -/
def endc (c : Int) : List (Sp α) → Int
  | [] => c
  | s :: r => endc (s.hi + 1) r
def endu (u : Option α) : List (Sp α) → Option α
  | [] => u
  | s :: r => endu (some s.val) r

theorem Good.append {A B : List (Sp α)} {c : Int} {u : Option α} : Good c u (A ++ B) ↔ Good c u A ∧ Good (endc c A) (endu u A) B := by
  induction A generalizing c u with
  | nil => simp [Good, endc, endu]
  | cons s r ih =>
    simp only [List.cons_append, Good, ih, endc, endu]
    constructor
    · rintro ⟨a, b, c, d, e, f⟩; exact ⟨⟨a, b, c, d, e⟩, f⟩
    · rintro ⟨⟨a, b, c, d, e⟩, f⟩; exact ⟨a, b, c, d, e, f⟩

theorem endc_ge {A : List (Sp α)} {c : Int} {u : Option α} (h : Good c u A) : c ≤ endc c A := by
  induction A generalizing c u with
  | nil => exact Int.le_refl _
  | cons s r ih =>
    obtain ⟨h1, h2, h3, h4, h5⟩ := h
    have := ih h5
    rw [endc]
    omega

theorem endc_le {A : List (Sp α)} {c b : Int} (h : ∀ s ∈ A, s.hi < b) (hc : c ≤ b) : endc c A ≤ b := by
  induction A generalizing c with
  | nil => exact hc
  | cons s r ih => exact ih (fun t ht => h t (by simp [ht])) (by have := h s (by simp); omega)

/-- The last value stands at the last key. -/
theorem endu_get {A : List (Sp α)} {c : Int} {u : Option α} (h : Good c u A) : (A = [] ∧ endc c A = c ∧ endu u A = u) ∨ (c < endc c A ∧ get A (endc c A - 1) = endu u A) := by
  induction A generalizing c u with
  | nil => exact .inl ⟨rfl, rfl, rfl⟩
  | cons s r ih =>
    obtain ⟨h1, h2, h3, h4, h5⟩ := h
    right
    rw [endc, endu, get]
    rcases ih h5 with ⟨e1, e2, e3⟩ | ⟨e2, e3⟩
    · rw [e2, e3]
      exact ⟨by omega, by rw [if_pos (by omega)]⟩
    · exact ⟨by omega, by rw [if_neg (by omega), e3]⟩

theorem below_good {L : List (Sp α)} {c : Int} {u : Option α} (h : Good c u L) (b : Int) : Good c u (below L b) ∧ (∀ s ∈ below L b, s.hi < b) := by
  induction L generalizing c u with
  | nil => exact ⟨trivial, fun s hs => by cases hs⟩
  | cons s r ih =>
    obtain ⟨h1, h2, h3, h4, h5⟩ := h
    rw [below]
    by_cases q1 : b ≤ s.lo
    · rw [if_pos q1]; exact ⟨trivial, fun s hs => by cases hs⟩
    · rw [if_neg q1]
      by_cases q2 : b ≤ s.hi
      · rw [if_pos q2]
        refine ⟨⟨h1, ?_, ?_, h4, trivial⟩, fun t ht => ?_⟩
        · show s.lo ≤ b - 1; omega
        · show b - 1 ≤ 18446744073709551615; omega
        · rw [List.mem_singleton] at ht; subst ht; show b - 1 < b; omega
      · rw [if_neg q2]
        refine ⟨⟨h1, h2, h3, h4, (ih h5).1⟩, fun t ht => ?_⟩
        rcases List.mem_cons.1 ht with rfl | ht
        · omega
        · exact (ih h5).2 t ht

theorem above_good {L : List (Sp α)} {c : Int} {u : Option α} (h : Good c u L) (b : Int) {c' : Int} {u' : Option α} (hc : c' ≤ b + 1) (hu : c' = b + 1 → u' ≠ none → get L (b + 1) ≠ u') : Good c' u' (above L b) := by
  induction L generalizing c u with
  | nil => trivial
  | cons s r ih =>
    obtain ⟨h1, h2, h3, h4, h5⟩ := h
    rw [above]
    by_cases q1 : s.hi ≤ b
    · rw [if_pos q1]
      refine ih h5 (fun e1 e2 => ?_)
      have := hu e1 e2
      rwa [get, if_neg (by omega)] at this
    · rw [if_neg q1]
      by_cases q2 : s.lo ≤ b
      · rw [if_pos q2]
        refine ⟨hc, ?_, h3, fun e1 e2 => ?_, h5⟩
        · show b + 1 ≤ s.hi; omega
        · have := hu e1.symm (by rw [e2]; simp)
          rw [get, if_pos (by omega)] at this
          exact this e2.symm
      · rw [if_neg q2]
        refine ⟨by omega, h2, h3, fun e1 e2 => ?_, h5⟩
        have := hu (by omega) (by rw [e2]; simp)
        rw [get, if_pos (by omega)] at this
        exact this e2.symm

theorem ends_below {L : List (Sp α)} {c b : Int} {u : Option α} (h : Good c u L) (hc : c ≤ b) : endc c (below L b) ≤ b := endc_le (below_good h b).2 hc

/-- Clear. -/
def clearL (L : List (Sp α)) (lo hi : Int) : List (Sp α) := below L lo ++ above L hi
/-- Set, the range widened already. -/
def putL (L : List (Sp α)) (lo hi : Int) (v : α) : List (Sp α) := below L lo ++ ⟨lo, hi, v⟩ :: above L hi

theorem clearL_good {L : List (Sp α)} {c : Int} {u : Option α} (h : Good c u L) {lo hi : Int} (h1 : c ≤ lo) (h2 : lo ≤ hi) : Good c u (clearL L lo hi) := by
  have hb := ends_below h h1
  exact Good.append.2 ⟨(below_good h lo).1, above_good h hi (by omega) (fun e => by omega)⟩

theorem clearL_get {L : List (Sp α)} {c : Int} {u : Option α} (h : Good c u L) {lo hi : Int} (h2 : lo ≤ hi) (k : Int) : get (clearL L lo hi) k = if lo ≤ k ∧ k ≤ hi then none else get L k := by
  rw [clearL, get_append, get_below h, get_above h]
  by_cases q1 : k < lo
  · rw [if_pos q1, if_neg (by omega), if_neg (by omega)]; simp
  · rw [if_neg q1]
    by_cases q2 : hi < k
    · rw [if_pos q2, if_neg (by omega)]; simp
    · rw [if_neg q2, if_pos (by omega)]; simp

theorem putL_good {L : List (Sp α)} (h : Good 0 none L) {lo hi : Int} {v : α} (h1 : 0 ≤ lo) (h2 : lo ≤ hi) (h3 : hi ≤ 18446744073709551615) (h4 : get L (lo - 1) ≠ some v) (h5 : get L (hi + 1) ≠ some v) : Good 0 none (putL L lo hi v) := by
  have hb := ends_below h h1
  refine Good.append.2 ⟨(below_good h lo).1, hb, h2, h3, fun e1 e2 => ?_, above_good h hi (Int.le_refl _) (fun _ _ => h5)⟩
  rcases endu_get (below_good h lo).1 with ⟨q1, q2, q3⟩ | ⟨q2, q3⟩
  · rw [q3] at e2; cases e2
  · rw [get_below h, if_pos (by omega)] at q3
    rw [← e1] at q3
    exact h4 (q3.trans e2)

theorem putL_get {L : List (Sp α)} {c : Int} {u : Option α} (h : Good c u L) {lo hi : Int} {v : α} (h2 : lo ≤ hi) (k : Int) : get (putL L lo hi v) k = if lo ≤ k ∧ k ≤ hi then some v else get L k := by
  rw [putL, get_append, get_below h, get, get_above h]
  show ((if k < lo then get L k else none).or (if lo ≤ k ∧ k ≤ hi then some v else if hi < k then get L k else none)) = _
  by_cases q1 : k < lo
  · rw [if_pos q1, if_neg (show ¬ (lo ≤ k ∧ k ≤ hi) by omega), if_neg (show ¬ (hi < k) by omega), if_neg (show ¬ (lo ≤ k ∧ k ≤ hi) by omega)]; simp
  · rw [if_neg q1]
    by_cases q2 : hi < k
    · rw [if_pos q2, if_neg (show ¬ (lo ≤ k ∧ k ≤ hi) by omega)]; simp
    · rw [if_pos (show lo ≤ k ∧ k ≤ hi by omega), if_pos (show lo ≤ k ∧ k ≤ hi by omega)]; simp

/-- The first span that ends at or above k. -/
def next : List (Sp α) → Int → Option (Sp α)
  | [], _ => none
  | s :: r, k => if k ≤ s.hi then some s else next r k

/-- The span of k. -/
def run (L : List (Sp α)) (k : Int) : Option (Sp α) := (next L k).filter (fun s => decide (s.lo ≤ k))

theorem next_some {L : List (Sp α)} {c : Int} {u : Option α} (h : Good c u L) {k : Int} {s : Sp α} (hs : next L k = some s) :
    c ≤ s.lo ∧ s.lo ≤ s.hi ∧ s.hi ≤ 18446744073709551615 ∧ k ≤ s.hi ∧ (∀ x, k ≤ x → x < s.lo → get L x = none) ∧ (∀ x, s.lo ≤ x → x ≤ s.hi → get L x = some s.val) ∧ (c < s.lo → get L (s.lo - 1) ≠ some s.val) ∧ get L (s.hi + 1) ≠ some s.val := by
  induction L generalizing c u with
  | nil => cases hs
  | cons t r ih =>
    obtain ⟨h1, h2, h3, h4, h5⟩ := h
    rw [next] at hs
    by_cases q : k ≤ t.hi
    · rw [if_pos q] at hs
      cases hs
      refine ⟨h1, h2, h3, q, fun x a b => ?_, fun x a b => ?_, fun a => ?_, ?_⟩
      · rw [get, if_neg (by omega), get_low h5 (by omega)]
      · rw [get, if_pos (by omega)]
      · rw [get, if_neg (by omega), get_low h5 (by omega)]; simp
      · rw [get, if_neg (by omega)]
        cases r with
        | nil => simp [get]
        | cons a r2 =>
          obtain ⟨a1, a2, a3, a4, a5⟩ := h5
          rw [get]
          by_cases hq : a.lo ≤ s.hi + 1 ∧ s.hi + 1 ≤ a.hi
          · rw [if_pos hq]
            exact fun e => a4 (by omega) e.symm
          · rw [if_neg hq, get_low a5 (by omega)]; simp
    · rw [if_neg q] at hs
      obtain ⟨a1, a2, a3, a4, a5, a6, a7, a8⟩ := ih h5 hs
      refine ⟨by omega, a2, a3, a4, fun x a b => ?_, fun x a b => ?_, fun a => ?_, ?_⟩
      · rw [get, if_neg (by omega)]; exact a5 x a b
      · rw [get, if_neg (by omega)]; exact a6 x a b
      · by_cases e : t.hi + 1 < s.lo
        · rw [get, if_neg (by omega)]; exact a7 e
        · have e : s.lo = t.hi + 1 := by omega
          rw [get, if_pos (by omega)]
          intro e2
          cases r with
          | nil => cases hs
          | cons a r2 =>
            obtain ⟨b1, b2, b3, b4, b5⟩ := h5
            rw [next] at hs
            by_cases hq : k ≤ a.hi
            · rw [if_pos hq] at hs
              cases hs
              exact b4 e e2
            · exfalso
              rw [if_neg hq] at hs
              have := a6 s.lo (by omega) (by omega)
              have h9 : a.hi + 1 ≤ s.lo := by
                clear this a5 a6 a7 a8
                have : ∀ (R : List (Sp α)) (c : Int) (u : Option α), Good c u R → next R k = some s → c ≤ s.lo := by
                  intro R
                  induction R with
                  | nil => intro c u _ h; cases h
                  | cons y R2 ihR =>
                    intro c u hg hn
                    obtain ⟨y1, y2, y3, y4, y5⟩ := hg
                    rw [next] at hn
                    by_cases yq : k ≤ y.hi
                    · rw [if_pos yq] at hn; cases hn; exact y1
                    · rw [if_neg yq] at hn
                      have := ihR _ _ y5 hn
                      omega
                exact this _ _ _ b5 hs
              omega
      · rw [get, if_neg (by omega)]; exact a8

theorem next_none {L : List (Sp α)} {c : Int} {u : Option α} (h : Good c u L) {k : Int} (hs : next L k = none) (x : Int) (hx : k ≤ x) : get L x = none := by
  induction L generalizing c u with
  | nil => rfl
  | cons t r ih =>
    obtain ⟨h1, h2, h3, h4, h5⟩ := h
    rw [next] at hs
    by_cases q : k ≤ t.hi
    · rw [if_pos q] at hs; cases hs
    · rw [if_neg q] at hs
      rw [get, if_neg (by omega)]
      exact ih h5 hs

theorem run_some {L : List (Sp α)} (h : Good 0 none L) {k : Int} {s : Sp α} (hs : run L k = some s) :
    0 ≤ s.lo ∧ s.lo ≤ k ∧ k ≤ s.hi ∧ s.hi ≤ 18446744073709551615 ∧ (∀ x, s.lo ≤ x → x ≤ s.hi → get L x = some s.val) ∧ get L (s.lo - 1) ≠ some s.val ∧ get L (s.hi + 1) ≠ some s.val := by
  obtain ⟨h1, h2⟩ := Option.filter_eq_some_iff.1 hs
  have h2 := of_decide_eq_true h2
  obtain ⟨a1, a2, a3, a4, a5, a6, a7, a8⟩ := next_some h h1
  refine ⟨a1, h2, a4, a3, a6, ?_, a8⟩
  by_cases e : 0 < s.lo
  · exact a7 e
  · rw [get_low h (by omega)]; simp

theorem run_none {L : List (Sp α)} (h : Good 0 none L) {k : Int} (hs : run L k = none) : get L k = none := by
  rw [run] at hs
  cases hn : next L k with
  | none => exact next_none h hn k (Int.le_refl _)
  | some s =>
    rw [hn] at hs
    have : ¬ s.lo ≤ k := by
      intro hle
      simp [Option.filter, hle] at hs
    exact (next_some h hn).2.2.2.2.1 k (Int.le_refl _) (by omega)

theorem run_get {L : List (Sp α)} (h : Good 0 none L) (k : Int) : (run L k).map Sp.val = get L k := by
  cases hr : run L k with
  | none => rw [run_none h hr]; rfl
  | some s =>
    obtain ⟨a1, a2, a3, a4, a5, a6⟩ := run_some h hr
    rw [a5 k a2 a3]; rfl

section
variable [DecidableEq α]
/-- The range of a Set with the neighbours that have the value. -/
def widLo (L : List (Sp α)) (lo : Int) (v : α) : Int := match run L (lo - 1) with | some s => if s.val = v then s.lo else lo | none => lo
def widHi (L : List (Sp α)) (hi : Int) (v : α) : Int := match run L (hi + 1) with | some s => if s.val = v then s.hi else hi | none => hi
def setL (L : List (Sp α)) (lo hi : Int) (v : α) : List (Sp α) := putL L (widLo L lo v) (widHi L hi v) v

theorem widLo_spec {L : List (Sp α)} (h : Good 0 none L) {lo : Int} (h0 : 0 ≤ lo) (v : α) : 0 ≤ widLo L lo v ∧ widLo L lo v ≤ lo ∧ get L (widLo L lo v - 1) ≠ some v ∧ (∀ x, widLo L lo v ≤ x → x < lo → get L x = some v) := by
  rw [widLo]
  cases hr : run L (lo - 1) with
  | none =>
    refine ⟨h0, Int.le_refl _, ?_, fun x a b => ?_⟩
    · show get L (lo - 1) ≠ _
      rw [run_none h hr]; simp
    · replace a : lo ≤ x := a
      omega
  | some s =>
    obtain ⟨a1, a2, a3, a4, a5, a6, a7⟩ := run_some h hr
    by_cases e : s.val = v
    · simp only [e, if_pos]
      refine ⟨a1, by omega, by rw [← e]; exact a6, fun x p q => by rw [← e]; exact a5 x p (by omega)⟩
    · simp only [if_neg e]
      refine ⟨h0, Int.le_refl _, ?_, fun x a b => by omega⟩
      rw [a5 _ a2 a3]
      intro e2; exact e (Option.some.inj e2)

theorem widHi_spec {L : List (Sp α)} (h : Good 0 none L) {hi : Int} (h0 : hi ≤ 18446744073709551615) (v : α) : widHi L hi v ≤ 18446744073709551615 ∧ hi ≤ widHi L hi v ∧ get L (widHi L hi v + 1) ≠ some v ∧ (∀ x, hi < x → x ≤ widHi L hi v → get L x = some v) := by
  rw [widHi]
  cases hr : run L (hi + 1) with
  | none =>
    refine ⟨h0, Int.le_refl _, ?_, fun x a b => ?_⟩
    · show get L (hi + 1) ≠ _
      rw [run_none h hr]; simp
    · replace b : x ≤ hi := b
      omega
  | some s =>
    obtain ⟨a1, a2, a3, a4, a5, a6, a7⟩ := run_some h hr
    by_cases e : s.val = v
    · simp only [e, if_pos]
      refine ⟨a4, by omega, by rw [← e]; exact a7, fun x p q => by rw [← e]; exact a5 x (by omega) q⟩
    · simp only [if_neg e]
      refine ⟨h0, Int.le_refl _, ?_, fun x a b => by omega⟩
      rw [a5 _ a2 a3]
      intro e2; exact e (Option.some.inj e2)

theorem setL_good {L : List (Sp α)} (h : Good 0 none L) {lo hi : Int} (h1 : 0 ≤ lo) (h2 : lo ≤ hi) (h3 : hi ≤ 18446744073709551615) (v : α) : Good 0 none (setL L lo hi v) := by
  obtain ⟨a1, a2, a3, a4⟩ := widLo_spec h h1 v
  obtain ⟨b1, b2, b3, b4⟩ := widHi_spec h h3 v
  exact putL_good h a1 (by omega) b1 a3 b3

theorem setL_get {L : List (Sp α)} (h : Good 0 none L) {lo hi : Int} (h1 : 0 ≤ lo) (h2 : lo ≤ hi) (h3 : hi ≤ 18446744073709551615) (v : α) (k : Int) : get (setL L lo hi v) k = if lo ≤ k ∧ k ≤ hi then some v else get L k := by
  obtain ⟨a1, a2, a3, a4⟩ := widLo_spec h h1 v
  obtain ⟨b1, b2, b3, b4⟩ := widHi_spec h h3 v
  rw [setL, putL_get h (by omega)]
  by_cases q : lo ≤ k ∧ k ≤ hi
  · rw [if_pos (by omega), if_pos q]
  · rw [if_neg q]
    by_cases q2 : widLo L lo v ≤ k ∧ k ≤ widHi L hi v
    · rw [if_pos q2]
      by_cases q3 : k < lo
      · exact (a4 k q2.1 q3).symm
      · exact (b4 k (by omega) q2.2).symm
    · rw [if_neg q2]
end

/-- How many there are at the most. -/
theorem above_len {L : List (Sp α)} (b : Int) : (above L b).length ≤ L.length := by
  induction L with
  | nil => exact Nat.le_refl _
  | cons s r ih =>
    rw [above]
    split
    · simp only [List.length_cons]; omega
    · split <;> simp

theorem cut_len {L : List (Sp α)} {c : Int} {u : Option α} (h : Good c u L) {lo hi : Int} (h2 : lo ≤ hi) : (below L lo).length + (above L hi).length ≤ L.length + 1 := by
  induction L generalizing c u with
  | nil => simp [below, above]
  | cons s r ih =>
    obtain ⟨h1, h2', h3, h4, h5⟩ := h
    have hA := above_len (L := s :: r) hi
    have := ih h5
    have hA2 := above_len (L := r) hi
    rw [below]
    by_cases q1 : lo ≤ s.lo
    · rw [if_pos q1]; simp only [List.length_nil]; omega
    · rw [if_neg q1]
      by_cases q2 : lo ≤ s.hi
      · rw [if_pos q2]; simp only [List.length_cons, List.length_nil] at hA ⊢; omega
      · rw [if_neg q2, above, if_pos (by omega)]; simp only [List.length_cons]; omega

theorem clearL_len {L : List (Sp α)} {c : Int} {u : Option α} (h : Good c u L) {lo hi : Int} (h2 : lo ≤ hi) : (clearL L lo hi).length ≤ L.length + 1 := by
  rw [clearL, List.length_append]; exact cut_len h h2

theorem setL_len [DecidableEq α] {L : List (Sp α)} (h : Good 0 none L) {lo hi : Int} (h1 : 0 ≤ lo) (h2 : lo ≤ hi) (h3 : hi ≤ 18446744073709551615) (v : α) : (setL L lo hi v).length ≤ L.length + 2 := by
  obtain ⟨a1, a2, a3, a4⟩ := widLo_spec h h1 v
  obtain ⟨b1, b2, b3, b4⟩ := widHi_spec h h3 v
  rw [setL, putL, List.length_append, List.length_cons]
  have := cut_len h (show widLo L lo v ≤ widHi L hi v by omega)
  omega

end Go.Proofs.Ytliiblaodhcjhab
