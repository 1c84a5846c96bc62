import Derived.KernelRfl
namespace Go.Proofs.Ytlfgnbjioofplab
set_option linter.unusedVariables false

/-- What a memory holds: a byte at each address. -/
def Byts (m : Nat → Int) : Prop := ∀ x, 0 ≤ m x ∧ m x < 256
def upd (m : Nat → Int) (a : Nat) (v : Int) : Nat → Int := fun x => if x = a then v else m x
def wrs (m : Nat → Int) (a : Nat) (l : List Int) : Nat → Int := fun x => if a ≤ x ∧ x < a + l.length then l.getD (x - a) 0 else m x
def rd (m : Nat → Int) (a k : Nat) : List Int := (List.range k).map fun o => m (a + o)
def fr (m : Nat → Int) (n : Nat) : List Int := rd m (n * 4096) 4096
def cnt (l : List Int) : Nat := l.countP fun v => decide (v ≠ 0)
def wipe (m : Nat → Int) (n : Nat) : Nat → Int := fun x => if x / 4096 = n then 0 else m x

theorem rd_len (m : Nat → Int) (a k : Nat) : (rd m a k).length = k := by simp [rd]
theorem fr_len (m : Nat → Int) (n : Nat) : (fr m n).length = 4096 := rd_len _ _ _
theorem rd_at (m : Nat → Int) (a k : Nat) {j : Nat} (h : j < k) : (rd m a k)[j]? = some (m (a + j)) := by simp [rd, h]
theorem fr_at (m : Nat → Int) (n : Nat) {o : Nat} (h : o < 4096) : (fr m n)[o]? = some (m (n * 4096 + o)) := rd_at _ _ _ h
theorem rd_congr {m m' : Nat → Int} {a k : Nat} (h : ∀ o, o < k → m (a + o) = m' (a + o)) : rd m a k = rd m' a k := by
  unfold rd
  apply List.map_congr_left
  intro o ho
  exact h o (List.mem_range.1 ho)
theorem rd_snoc (m : Nat → Int) (a k : Nat) : rd m a (k + 1) = rd m a k ++ [m (a + k)] := by simp [rd, List.range_succ]
theorem rd_append (m : Nat → Int) (a k j : Nat) : rd m a (k + j) = rd m a k ++ rd m (a + k) j := by
  induction j with
  | zero => simp [rd]
  | succ j ih => rw [← Nat.add_assoc, rd_snoc, ih, rd_snoc, List.append_assoc, Nat.add_assoc]
theorem fr_congr {m m' : Nat → Int} {n : Nat} (h : ∀ o, o < 4096 → m (n * 4096 + o) = m' (n * 4096 + o)) : fr m n = fr m' n := rd_congr h

theorem upd_byts {m : Nat → Int} (h : Byts m) {v : Int} (hv : 0 ≤ v ∧ v < 256) (a : Nat) : Byts (upd m a v) := by
  intro x
  unfold upd
  split
  · exact hv
  · exact h x
theorem wipe_byts {m : Nat → Int} (h : Byts m) (n : Nat) : Byts (wipe m n) := by
  intro x
  unfold wipe
  split
  · omega
  · exact h x
theorem wrs_nil (m : Nat → Int) (a : Nat) : wrs m a [] = m := by
  funext x
  unfold wrs
  rw [if_neg (by simp)]
theorem wrs_snoc (m : Nat → Int) (a : Nat) (l : List Int) (v : Int) : wrs m a (l ++ [v]) = upd (wrs m a l) (a + l.length) v := by
  funext x
  simp only [wrs, upd]
  by_cases h : x = a + l.length
  · subst h
    rw [if_pos (by simp), if_pos rfl]
    simp [List.getD]
  · rw [if_neg h]
    by_cases h2 : a ≤ x ∧ x < a + l.length
    · rw [if_pos (by simp; omega), if_pos h2]
      have : x - a < l.length := by omega
      simp [List.getD, List.getElem?_append_left this]
    · rw [if_neg (by simp; omega), if_neg h2]
theorem wrs_append (m : Nat → Int) (a : Nat) (l r : List Int) : wrs m a (l ++ r) = wrs (wrs m a l) (a + l.length) r := by
  funext x
  simp only [wrs]
  by_cases h : a + l.length ≤ x ∧ x < a + l.length + r.length
  · rw [if_pos (by simp; omega), if_pos h]
    simp only [List.getD]
    rw [List.getElem?_append_right (by omega), show x - a - l.length = x - (a + l.length) by omega]
  · rw [if_neg h]
    by_cases h2 : a ≤ x ∧ x < a + l.length
    · rw [if_pos (by simp; omega), if_pos h2]
      have : x - a < l.length := by omega
      simp [List.getD, List.getElem?_append_left this]
    · rw [if_neg (by simp; omega), if_neg h2]
theorem take_snoc {α : Type} (l : List α) {i : Nat} {v : α} (h : l[i]? = some v) : l.take (i + 1) = l.take i ++ [v] := by
  obtain ⟨hi, rfl⟩ := List.getElem?_eq_some_iff.1 h
  exact List.take_succ_eq_append_getElem hi
theorem wrs_take (m : Nat → Int) (a : Nat) (l : List Int) {i : Nat} {v : Int} (h : l[i]? = some v) : wrs m a (l.take (i + 1)) = upd (wrs m a (l.take i)) (a + i) v := by
  have hi : i < l.length := (List.getElem?_eq_some_iff.1 h).1
  rw [take_snoc l h, wrs_snoc, List.length_take, Nat.min_eq_left (by omega)]
theorem wrs_byts {m : Nat → Int} (h : Byts m) (a : Nat) {l : List Int} (hl : ∀ v ∈ l, 0 ≤ v ∧ v < 256) : Byts (wrs m a l) := by
  intro x
  unfold wrs
  split
  · rename_i hx
    have hi : x - a < l.length := by omega
    simp only [List.getD, List.getElem?_eq_getElem hi, Option.getD_some]
    exact hl _ (List.getElem_mem hi)
  · exact h x

/-- One byte of a frame turned. -/
theorem fr_upd (m : Nat → Int) (n o : Nat) (v : Int) (ho : o < 4096) : fr (upd m (n * 4096 + o) v) n = (fr m n).set o v := by
  apply List.ext_getElem?
  intro j
  by_cases hj : j < 4096
  · rw [fr_at _ _ hj]
    by_cases hjo : j = o
    · subst hjo
      rw [List.getElem?_set_self (by rw [fr_len]; exact ho)]
      simp [upd]
    · rw [List.getElem?_set_ne (by omega), fr_at _ _ hj]
      simp only [upd]
      rw [if_neg (by omega)]
  · rw [List.getElem?_eq_none (by rw [fr_len]; omega), List.getElem?_eq_none (by rw [List.length_set, fr_len]; omega)]
theorem fr_upd_other (m : Nat → Int) (n n' o : Nat) (v : Int) (ho : o < 4096) (hn : n' ≠ n) : fr (upd m (n * 4096 + o) v) n' = fr m n' := by
  apply fr_congr
  intro j hj
  unfold upd
  rw [if_neg]
  intro e
  apply hn
  omega
theorem fr_wrs_other (m : Nat → Int) (n n' a : Nat) (l : List Int) (h1 : n * 4096 ≤ a) (h2 : a + l.length ≤ n * 4096 + 4096) (hn : n' ≠ n) : fr (wrs m a l) n' = fr m n' := by
  apply fr_congr
  intro j hj
  unfold wrs
  rw [if_neg]
  intro ⟨e1, e2⟩
  apply hn
  omega
theorem fr_wipe (m : Nat → Int) (n : Nat) : fr (wipe m n) n = List.replicate 4096 0 := by
  apply List.ext_getElem?
  intro j
  by_cases hj : j < 4096
  · rw [fr_at _ _ hj, List.getElem?_replicate, if_pos hj]
    simp only [wipe]
    rw [if_pos (by omega)]
  · rw [List.getElem?_eq_none (by rw [fr_len]; omega), List.getElem?_eq_none (by rw [List.length_replicate]; omega)]
theorem fr_wipe_other (m : Nat → Int) (n n' : Nat) (hn : n' ≠ n) : fr (wipe m n) n' = fr m n' := by
  apply fr_congr
  intro j hj
  unfold wipe
  rw [if_neg]
  intro e
  apply hn
  omega

theorem cnt_le (l : List Int) : cnt l ≤ l.length := List.countP_le_length
theorem cnt_set (l : List Int) (o : Nat) (v u : Int) (h : l[o]? = some u) : (cnt (l.set o v) : Int) = (cnt l : Int) - (if u ≠ 0 then 1 else 0) + (if v ≠ 0 then 1 else 0) := by
  induction l generalizing o with
  | nil => simp at h
  | cons a r ih =>
    cases o with
    | zero =>
      simp at h
      subst h
      simp only [List.set_cons_zero, cnt, List.countP_cons, decide_eq_true_eq]
      split <;> split <;> simp_all <;> omega
    | succ o =>
      have := ih o (by simpa using h)
      simp only [List.set_cons_succ, cnt, List.countP_cons, decide_eq_true_eq] at this ⊢
      split <;> simp_all <;> omega
theorem cnt_zero {l : List Int} : cnt l = 0 ↔ ∀ v ∈ l, v = 0 := by
  unfold cnt
  rw [List.countP_eq_zero]
  constructor
  · intro h v hv
    have := h v hv
    simpa using this
  · intro h v hv
    simp [h v hv]
theorem cnt_fr_zero {m : Nat → Int} {n : Nat} : cnt (fr m n) = 0 ↔ ∀ o, o < 4096 → m (n * 4096 + o) = 0 := by
  rw [cnt_zero]
  constructor
  · intro h o ho
    exact h _ (List.mem_of_getElem? (fr_at m n ho))
  · intro h v hv
    obtain ⟨o, ho⟩ := List.getElem?_of_mem hv
    have hl : o < 4096 := by have := (List.getElem?_eq_some_iff.1 ho).1; rw [fr_len] at this; exact this
    rw [fr_at m n hl] at ho
    cases ho
    exact h o hl
theorem fr_of_zero {m : Nat → Int} {n : Nat} (h : cnt (fr m n) = 0) : fr m n = List.replicate 4096 0 := by
  apply List.ext_getElem?
  intro j
  by_cases hj : j < 4096
  · rw [fr_at _ _ hj, List.getElem?_replicate, if_pos hj, cnt_fr_zero.1 h j hj]
  · rw [List.getElem?_eq_none (by rw [fr_len]; omega), List.getElem?_eq_none (by rw [List.length_replicate]; omega)]

/-- The frames that are not all zero, rising. -/
def Touch (N : Nat) (m : Nat → Int) (L : List Int) : Prop := L.Pairwise (· < ·) ∧ ∀ i : Int, i ∈ L ↔ ∃ n : Nat, i = n ∧ n < N ∧ cnt (fr m n) ≠ 0

theorem rising_eq : ∀ {l l' : List Int}, l.Pairwise (· < ·) → l'.Pairwise (· < ·) → (∀ x, x ∈ l ↔ x ∈ l') → l = l' := by
  intro l
  induction l with
  | nil =>
    intro l' _ _ h
    cases l' with
    | nil => rfl
    | cons b r => exact absurd ((h b).2 (by simp)) (by simp)
  | cons a r ih =>
    intro l' h1 h2 h
    cases l' with
    | nil => exact absurd ((h a).1 (by simp)) (by simp)
    | cons b s =>
      obtain ⟨ha, hr⟩ := List.pairwise_cons.1 h1
      obtain ⟨hb, hs⟩ := List.pairwise_cons.1 h2
      have e : a = b := by
        rcases List.mem_cons.1 ((h a).1 (by simp)) with h3 | h3
        · exact h3
        · rcases List.mem_cons.1 ((h b).2 (by simp)) with h4 | h4
          · exact h4.symm
          · have := ha b h4
            have := hb a h3
            omega
      subst e
      congr 1
      apply ih hr hs
      intro x
      constructor
      · intro hx
        rcases List.mem_cons.1 ((h x).1 (by simp [hx])) with h3 | h3
        · have := ha x hx
          omega
        · exact h3
      · intro hx
        rcases List.mem_cons.1 ((h x).2 (by simp [hx])) with h3 | h3
        · have := hb x hx
          omega
        · exact h3
theorem Touch.uniq {N : Nat} {m : Nat → Int} {L L' : List Int} (h : Touch N m L) (h' : Touch N m L') : L = L' :=
  rising_eq h.1 h'.1 (fun x => by rw [h.2, h'.2])

theorem nodup_below : ∀ (N : Nat) (l : List Nat), l.Nodup → (∀ x ∈ l, x < N) → l.length ≤ N := by
  intro N
  induction N with
  | zero =>
    intro l _ h
    cases l with
    | nil => simp
    | cons a r => exact absurd (h a (by simp)) (by omega)
  | succ N ih =>
    intro l hn h
    by_cases hm : N ∈ l
    · have h1 := List.length_erase_of_mem hm
      have h2 := ih (l.erase N) (hn.erase N) (fun x hx => by
        have := h x (List.mem_of_mem_erase hx)
        have hne : x ≠ N := fun e => by subst e; exact ((hn.mem_erase_iff).1 hx).1 rfl
        omega)
      omega
    · have := ih l hn (fun x hx => by
        have := h x hx
        have hne : x ≠ N := fun e => by subst e; exact hm hx
        omega)
      omega

/-- A number of so many bytes, the lowest first. -/
def num (m : Nat → Int) : Nat → Nat → Int
  | _, 0 => 0
  | a, k + 1 => m a + 256 * num m (a + 1) k
def byt (v : Int) : Nat → List Int
  | 0 => []
  | k + 1 => v % 256 :: byt (v / 256) k
theorem byt_len (v : Int) (k : Nat) : (byt v k).length = k := by
  induction k generalizing v with
  | zero => rfl
  | succ k ih => simp [byt, ih]
theorem byt_bytes (v : Int) (k : Nat) : ∀ x ∈ byt v k, 0 ≤ x ∧ x < 256 := by
  induction k generalizing v with
  | zero => intro x hx; simp [byt] at hx
  | succ k ih =>
    intro x hx
    rcases List.mem_cons.1 hx with rfl | h
    · omega
    · exact ih _ x h
theorem num1 (m : Nat → Int) (a : Nat) : num m a 1 = m a := by simp [num]
theorem num2 (m : Nat → Int) (a : Nat) : num m a 2 = m a + 256 * m (a + 1) := by simp [num]
theorem num4 (m : Nat → Int) (a : Nat) : num m a 4 = m a + 256 * (m (a + 1) + 256 * (m (a + 2) + 256 * m (a + 3))) := by simp [num]
theorem num_bd {m : Nat → Int} (h : Byts m) (k a : Nat) : 0 ≤ num m a k ∧ num m a k < 256 ^ k := by
  induction k generalizing a with
  | zero => simp [num]
  | succ k ih =>
    have h1 := ih (a + 1)
    have h2 := h a
    simp only [num]
    rw [Int.pow_succ]
    constructor <;> omega

/-- What a memory says of an address of a value. -/
def errV (N : Nat) (pa : Int) (w : Nat) : Int := if pa % (w : Int) ≠ 0 then 2 else if (N : Int) * 4096 ≤ pa then 30 else 0
/-- What a memory says of a run of bytes. -/
def errB (N : Nat) (pa : Int) (n : Int) : Int := if pa > (N : Int) * 4096 ∨ n > (N : Int) * 4096 - pa then 30 else 0
end Go.Proofs.Ytlfgnbjioofplab
