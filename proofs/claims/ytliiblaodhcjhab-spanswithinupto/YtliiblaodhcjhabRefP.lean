import Derived.Test.YtliiblaodhcjhabPlainT
namespace Go.Proofs.Ytliiblaodhcjhab
set_option linter.unusedVariables false

/-- What was done. -/
structure Dn where
  lo : Int
  hi : Int
  has : Bool
  val : Int

def Dn.tells (d : Dn) : Option Int := if d.has then some d.val else none

/-- The value of a key, by the last that lies over it. -/
def refLast (D : List Dn) (k : Int) : Nat → Option Int
  | 0 => none
  | n + 1 => match D[n]? with | some d => if d.lo ≤ k ∧ k ≤ d.hi then d.tells else refLast D k n | none => refLast D k n

def refG (D : List Dn) (k : Int) : Option Int := refLast D k D.length

theorem refLast_append (D : List Dn) (d : Dn) (k : Int) (n : Nat) (hn : n ≤ D.length) : refLast (D ++ [d]) k n = refLast D k n := by
  induction n with
  | zero => rfl
  | succ n ih =>
    rw [refLast, refLast, List.getElem?_append_left (by omega), ih (by omega)]

theorem refG_snoc (D : List Dn) (d : Dn) (k : Int) : refG (D ++ [d]) k = if d.lo ≤ k ∧ k ≤ d.hi then d.tells else refG D k := by
  rw [refG, List.length_append, List.length_singleton, refLast, List.getElem?_append_right (Nat.le_refl _), Nat.sub_self]
  show (if d.lo ≤ k ∧ k ≤ d.hi then d.tells else refLast (D ++ [d]) k D.length) = _
  rw [refLast_append D d k D.length (Nat.le_refl _)]
  rfl

/-- A key put into a rising list, once. -/
def insK : List Int → Int → List Int
  | [], k => [k]
  | x :: r, k => if x = k then x :: r else if k < x then k :: x :: r else x :: insK r k

/-- Rising from c on. -/
def Rise (c : Int) : List Int → Prop
  | [] => True
  | x :: r => c ≤ x ∧ Rise (x + 1) r

theorem Rise.weak {c c' : Int} {l : List Int} (h : Rise c l) (hc : c' ≤ c) : Rise c' l := by
  cases l with
  | nil => trivial
  | cons x r => exact ⟨Int.le_trans hc h.1, h.2⟩

theorem insK_rise {l : List Int} {c k : Int} (h : Rise c l) (hk : c ≤ k) : Rise c (insK l k) := by
  induction l generalizing c with
  | nil => exact ⟨hk, trivial⟩
  | cons x r ih =>
    obtain ⟨h1, h2⟩ := h
    rw [insK]
    split
    · exact ⟨h1, h2⟩
    · split
      · exact ⟨hk, by omega, h2⟩
      · exact ⟨h1, ih h2 (by omega)⟩

theorem insK_mem {l : List Int} {k x : Int} : x ∈ insK l k ↔ x = k ∨ x ∈ l := by
  induction l with
  | nil => simp [insK]
  | cons y r ih =>
    rw [insK]
    split
    · rename_i h
      subst h
      simp
    · split
      · simp
      · simp only [List.mem_cons, ih]
        constructor
        · rintro (h | h | h)
          · exact .inr (.inl h)
          · exact .inl h
          · exact .inr (.inr h)
        · rintro (h | h | h)
          · exact .inr (.inl h)
          · exact .inl h
          · exact .inr (.inr h)

theorem insK_self {l : List Int} {c k : Int} (h : Rise c l) (hk : k ∈ l) : insK l k = l := by
  induction l generalizing c with
  | nil => cases hk
  | cons x r ih =>
    rw [insK]
    split
    · rfl
    · rename_i hne
      have hkr : k ∈ r := by
        rcases List.mem_cons.1 hk with e | e
        · exact absurd e.symm hne
        · exact e
      have hlow : ∀ (l : List Int) (c : Int), Rise c l → ∀ y ∈ l, c ≤ y := by
        intro l
        induction l with
        | nil => intro c _ y hy; cases hy
        | cons z s ihs =>
          intro c hc y hy
          rcases List.mem_cons.1 hy with rfl | hy
          · exact hc.1
          · have := ihs _ hc.2 y hy
            have := hc.1
            omega
      have := hlow r (x + 1) h.2 k hkr
      rw [if_neg (by omega), ih h.2 hkr]

theorem insK_less {A : List Int} {k : Int} (B : List Int) (h : ∀ y ∈ A, y < k) : insK (A ++ B) k = A ++ insK B k := by
  induction A with
  | nil => rfl
  | cons x r ih =>
    have hx := h x (by simp)
    rw [List.cons_append, insK, if_neg (by omega), if_neg (by omega), ih (fun y hy => h y (by simp [hy]))]
    rfl

theorem insK_done {A : List Int} {k x : Int} (h1 : ∀ y ∈ A, y ≠ k) (h2 : ∃ y ∈ A, k < y) : insK (A ++ [x]) k = insK A k ++ [x] := by
  induction A with
  | nil => obtain ⟨y, hy, _⟩ := h2; cases hy
  | cons z r ih =>
    have hz := h1 z (by simp)
    rw [List.cons_append, insK, insK, if_neg hz, if_neg hz]
    by_cases hkz : k < z
    · rw [if_pos hkz, if_pos hkz]
      rfl
    · rw [if_neg hkz, if_neg hkz, List.cons_append, ih (fun y hy => h1 y (by simp [hy]))]
      obtain ⟨y, hy, hky⟩ := h2
      rcases List.mem_cons.1 hy with rfl | hy
      · exact absurd hky hkz
      · exact ⟨y, hy, hky⟩

theorem insK_len (l : List Int) (k : Int) : (insK l k).length ≤ l.length + 1 := by
  induction l with
  | nil => simp [insK]
  | cons x r ih =>
    rw [insK]
    split
    · simp
    · split
      · simp
      · simp only [List.length_cons]; omega
end Go.Proofs.Ytliiblaodhcjhab
