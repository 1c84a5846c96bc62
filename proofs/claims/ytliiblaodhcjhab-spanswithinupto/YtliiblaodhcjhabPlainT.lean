import Derived.Test.YtliiblaodhcjhabPlainS
namespace Go.Proofs.Ytliiblaodhcjhab
set_option linter.unusedVariables false
variable {α : Type}

/-- How many spans end below k; how many begin at k or below. -/
def ei (L : List (Sp α)) (k : Int) : Nat := L.countP (fun s => !decide (k ≤ s.hi))
def sa (L : List (Sp α)) (k : Int) : Nat := L.countP (fun s => !decide (k < s.lo))

theorem good_lo {L : List (Sp α)} {c : Int} {u : Option α} (h : Good c u L) : ∀ s ∈ L, c ≤ s.lo ∧ s.lo ≤ s.hi ∧ s.hi ≤ 18446744073709551615 := by
  induction L generalizing c u with
  | nil => intro s hs; cases hs
  | cons t r ih =>
    obtain ⟨h1, h2, h3, h4, h5⟩ := h
    intro s hs
    rcases List.mem_cons.1 hs with rfl | hs
    · exact ⟨h1, h2, h3⟩
    · have := ih h5 s hs; omega

theorem ei_zero {L : List (Sp α)} {c : Int} {u : Option α} (h : Good c u L) {k : Int} (hk : k ≤ c) : ei L k = 0 := by
  rw [ei, List.countP_eq_zero]
  intro s hs
  have := good_lo h s hs
  simp; omega

theorem sa_zero {L : List (Sp α)} {c : Int} {u : Option α} (h : Good c u L) {k : Int} (hk : k < c) : sa L k = 0 := by
  rw [sa, List.countP_eq_zero]
  intro s hs
  have := good_lo h s hs
  simp; omega

theorem ei_cons_low {s : Sp α} {r : List (Sp α)} {c : Int} {u : Option α} (h : Good c u (s :: r)) {k : Int} (hk : k ≤ s.hi) : ei (s :: r) k = 0 := by
  obtain ⟨h1, h2, h3, h4, h5⟩ := h
  have := ei_zero h5 (k := k) (by omega)
  rw [ei] at this ⊢
  rw [List.countP_cons_of_neg (by simp; omega), this]
theorem ei_cons_high (s : Sp α) (r : List (Sp α)) {k : Int} (hk : s.hi < k) : ei (s :: r) k = ei r k + 1 := by
  rw [ei, ei, List.countP_cons_of_pos (by simp; omega)]
theorem sa_cons_low {s : Sp α} {r : List (Sp α)} {c : Int} {u : Option α} (h : Good c u (s :: r)) {k : Int} (hk : k < s.lo) : sa (s :: r) k = 0 := by
  obtain ⟨h1, h2, h3, h4, h5⟩ := h
  have := sa_zero h5 (k := k) (by omega)
  rw [sa] at this ⊢
  rw [List.countP_cons_of_neg (by simp; omega), this]
theorem sa_cons_high (s : Sp α) (r : List (Sp α)) {k : Int} (hk : s.lo ≤ k) : sa (s :: r) k = sa r k + 1 := by
  rw [sa, sa, List.countP_cons_of_pos (by simp; omega)]

theorem ei_le (L : List (Sp α)) (k : Int) : ei L k ≤ L.length := List.countP_le_length
theorem sa_le (L : List (Sp α)) (k : Int) : sa L k ≤ L.length := List.countP_le_length

theorem ei_next {L : List (Sp α)} {c : Int} {u : Option α} (h : Good c u L) (k : Int) : L[ei L k]? = next L k := by
  induction L generalizing c u with
  | nil => rfl
  | cons s r ih =>
    rw [next]
    by_cases q : k ≤ s.hi
    · rw [if_pos q, ei_cons_low h q]; rfl
    · rw [if_neg q, ← ih h.2.2.2.2, ei_cons_high s r (by omega)]; rfl

/-- The cut piece of the span at i, below lo. -/
def cutLo (L : List (Sp α)) (i : Nat) (lo : Int) : List (Sp α) := match L[i]? with | some s => if s.lo < lo then [⟨s.lo, lo - 1, s.val⟩] else [] | none => []
def cutHi (L : List (Sp α)) (j : Nat) (hi : Int) : List (Sp α) := match j with | 0 => [] | j + 1 => match L[j]? with | some s => if hi < s.hi then [⟨hi + 1, s.hi, s.val⟩] else [] | none => []

theorem below_take {L : List (Sp α)} {c : Int} {u : Option α} (h : Good c u L) (lo : Int) : L.take (ei L lo) ++ cutLo L (ei L lo) lo = below L lo := by
  induction L generalizing c u with
  | nil => rfl
  | cons s r ih =>
    rw [below]
    by_cases q : lo ≤ s.hi
    · rw [ei_cons_low h q]
      by_cases q1 : lo ≤ s.lo
      · rw [if_pos q1]; simp [cutLo]; omega
      · rw [if_neg q1, if_pos q]; simp [cutLo]; omega
    · have := h.2.1
      rw [if_neg (by omega), if_neg q, ei_cons_high s r (by omega), List.take_succ_cons, List.cons_append]
      congr 1
      rw [← ih h.2.2.2.2]
      rfl

theorem above_drop {L : List (Sp α)} {c : Int} {u : Option α} (h : Good c u L) (hi : Int) : cutHi L (sa L hi) hi ++ L.drop (sa L hi) = above L hi := by
  induction L generalizing c u with
  | nil => rfl
  | cons s r ih =>
    have h5 := h.2.2.2.2
    have h2 := h.2.1
    rw [above]
    by_cases q : s.lo ≤ hi
    · by_cases q1 : s.hi ≤ hi
      · rw [if_pos q1, sa_cons_high s r q, ← ih h5, List.drop_succ_cons]
        congr 1
        cases hs : sa r hi with
        | zero => simp [cutHi]; omega
        | succ j => rfl
      · rw [if_neg q1, if_pos q, sa_cons_high s r q, sa_zero h5 (by omega)]
        simp [cutHi, show hi < s.hi by omega]
    · rw [if_neg (by omega), if_neg q, sa_cons_low h (by omega)]
      simp [cutHi]

theorem ei_le_sa {L : List (Sp α)} {c : Int} {u : Option α} (h : Good c u L) {lo hi : Int} (h2 : lo ≤ hi + 1) : ei L lo ≤ sa L hi := by
  induction L generalizing c u with
  | nil => exact Nat.le_refl _
  | cons s r ih =>
    by_cases q : lo ≤ s.hi
    · rw [ei_cons_low h q]; omega
    · have := h.2.1
      rw [ei_cons_high s r (by omega), sa_cons_high s r (by omega)]
      have := ih h.2.2.2.2
      omega

/-- The tests of the program are those. -/
theorem cutLo_prog {L : List (Sp α)} {c : Int} {u : Option α} (h : Good c u L) {lo hi : Int} (h2 : lo ≤ hi) {s : Sp α} (hs : L[ei L lo]? = some s) (hl : s.lo < lo) : ei L lo < sa L hi := by
  induction L generalizing c u with
  | nil => simp at hs
  | cons t r ih =>
    by_cases q : lo ≤ t.hi
    · rw [ei_cons_low h q] at hs ⊢
      cases hs
      rw [sa_cons_high s r (by omega)]; omega
    · have := h.2.1
      rw [ei_cons_high t r (by omega)] at hs ⊢
      rw [sa_cons_high t r (by omega)]
      have := ih h.2.2.2.2 hs
      omega

theorem cutHi_prog {L : List (Sp α)} {c : Int} {u : Option α} (h : Good c u L) {lo hi : Int} (h2 : lo ≤ hi) {j : Nat} (hj : sa L hi = j + 1) {s : Sp α} (hs : L[j]? = some s) (hl : hi < s.hi) : ei L lo < j + 1 := by
  induction L generalizing c u j with
  | nil => simp at hs
  | cons t r ih =>
    by_cases q : lo ≤ t.hi
    · rw [ei_cons_low h q]; omega
    · have := h.2.1
      rw [ei_cons_high t r (by omega)]
      rw [sa_cons_high t r (by omega)] at hj
      cases j with
      | zero => simp at hs; subst hs; omega
      | succ j =>
        have := ih h.2.2.2.2 (j := j) (by omega) (by simpa using hs)
        omega

/-- A span more at the end, as Spans of the reference has it. -/
def step [DecidableEq α] (l : List (Sp α)) (c e : Int) : Option α → List (Sp α)
  | none => l
  | some v => match l.getLast? with
    | some t => if t.val = v ∧ t.hi + 1 = c then l.dropLast ++ [⟨t.lo, e, v⟩] else l ++ [⟨c, e, v⟩]
    | none => [⟨c, e, v⟩]

theorem endc_snoc (c : Int) (A : List (Sp α)) (t : Sp α) : endc c (A ++ [t]) = t.hi + 1 := by
  induction A generalizing c with
  | nil => rfl
  | cons s r ih => exact ih _
theorem endu_snoc (u : Option α) (A : List (Sp α)) (t : Sp α) : endu u (A ++ [t]) = some t.val := by
  induction A generalizing u with
  | nil => rfl
  | cons s r ih => exact ih _

theorem get_out {L : List (Sp α)} {k : Int} (h : ∀ s ∈ L, ¬ (s.lo ≤ k ∧ k ≤ s.hi)) : get L k = none := by
  induction L with
  | nil => rfl
  | cons s r ih => rw [get, if_neg (h s (by simp))]; exact ih (fun t ht => h t (by simp [ht]))

theorem step_good [DecidableEq α] {l : List (Sp α)} (h : Good 0 none l) {c e : Int} (hc : 0 ≤ c) (hce : c ≤ e) (he : e ≤ 18446744073709551615) (hl : ∀ s ∈ l, s.hi < c) (o : Option α) :
    Good 0 none (step l c e o) ∧ (∀ s ∈ step l c e o, s.hi < e + 1) ∧ (∀ k, get (step l c e o) k = if c ≤ k ∧ k ≤ e then o else get l k) := by
  have hout : ∀ k, c ≤ k → get l k = none := fun k hk => get_out (fun s hs h => by have := hl s hs; omega)
  cases o with
  | none =>
    refine ⟨h, fun s hs => by have := hl s hs; omega, fun k => ?_⟩
    show get l k = _
    by_cases q : c ≤ k ∧ k ≤ e
    · rw [if_pos q, hout k q.1]
    · rw [if_neg q]
  | some v =>
    rcases List.eq_nil_or_concat l with rfl | ⟨A, t, rfl⟩
    · refine ⟨⟨hc, hce, he, fun _ => by simp, trivial⟩, fun s hs => ?_, fun k => rfl⟩
      rw [step] at hs
      simp at hs
      subst hs
      show e < e + 1
      omega
    · rw [List.concat_eq_append] at *
      have ht := hl t (by simp)
      obtain ⟨g1, g2⟩ := Good.append.1 h
      obtain ⟨a1, a2, a3, a4, a5⟩ := g2
      by_cases q : t.val = v ∧ t.hi + 1 = c
      · have es : step (A ++ [t]) c e (some v) = A ++ [⟨t.lo, e, v⟩] := by
          rw [step, List.getLast?_concat]
          simp only [if_pos q, List.dropLast_concat]
        rw [es]
        refine ⟨Good.append.2 ⟨g1, a1, by show t.lo ≤ e; omega, he, fun h1 h2 => a4 h1 (by rw [q.1]; exact h2), trivial⟩, fun s hs => ?_, fun k => ?_⟩
        · rcases List.mem_append.1 hs with hs | hs
          · have := hl s (by simp [hs]); omega
          · rw [List.mem_singleton] at hs; subst hs; show e < e + 1; omega
        · rw [get_append, get_append]
          show (get A k).or (if t.lo ≤ k ∧ k ≤ e then some v else none) = if c ≤ k ∧ k ≤ e then some v else (get A k).or (if t.lo ≤ k ∧ k ≤ t.hi then some t.val else none)
          by_cases q1 : c ≤ k ∧ k ≤ e
          · have hA : get A k = none := get_out (fun s hs h => by have := hl s (by simp [hs]); omega)
            rw [if_pos q1, if_pos (by omega), hA]; rfl
          · rw [if_neg q1]
            by_cases q2 : t.lo ≤ k ∧ k ≤ t.hi
            · rw [if_pos q2, if_pos (by omega), q.1]
            · rw [if_neg q2, if_neg (by omega)]
      · have es : step (A ++ [t]) c e (some v) = A ++ [t] ++ [⟨c, e, v⟩] := by
          rw [step, List.getLast?_concat]
          simp only [if_neg q]
        rw [es]
        refine ⟨Good.append.2 ⟨h, by rw [endc_snoc]; show t.hi + 1 ≤ c; omega, hce, he, fun h1 h2 => ?_, trivial⟩, fun s hs => ?_, fun k => ?_⟩
        · rw [endu_snoc] at h2
          rw [endc_snoc] at h1
          exact q ⟨Option.some.inj h2, h1.symm⟩
        · rcases List.mem_append.1 hs with hs | hs
          · have := hl s hs; omega
          · rw [List.mem_singleton] at hs; subst hs; show e < e + 1; omega
        · rw [get_append]
          show (get (A ++ [t]) k).or (if c ≤ k ∧ k ≤ e then some v else none) = _
          by_cases q1 : c ≤ k ∧ k ≤ e
          · rw [if_pos q1, if_pos q1, hout k q1.1]; rfl
          · rw [if_neg q1, if_neg q1]; simp
end Go.Proofs.Ytliiblaodhcjhab
