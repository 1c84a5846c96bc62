import Derived.KernelRfl
namespace Go.Proofs.Ytplobjdghaokoaa
set_option linter.unusedVariables false

/-! ### the uses of a pool's frames -/
def zeros (u : List Nat) : Nat := u.countP (fun x => decide (x = 0))
/-- The frames from a place on, so many, turned. -/
def mdr (f : Nat → Nat) (u : List Nat) (a n : Nat) : List Nat := u.mapIdx fun i x => if a ≤ i ∧ i < a + n then f x else x
def frd (u : List Nat) (a n : Nat) : Nat := ((u.drop a).take n).countP (fun x => decide (x = 1))

theorem zeros_le (u : List Nat) : zeros u ≤ u.length := List.countP_le_length
theorem mdr_len (f : Nat → Nat) (u : List Nat) (a n : Nat) : (mdr f u a n).length = u.length := by simp [mdr]
theorem mdr_at (f : Nat → Nat) (u : List Nat) (a n i : Nat) : (mdr f u a n)[i]? = (u[i]?).map fun x => if a ≤ i ∧ i < a + n then f x else x := by simp [mdr]
theorem mdr_zero (f : Nat → Nat) (u : List Nat) (a : Nat) : mdr f u a 0 = u := by
  apply List.ext_getElem?
  intro i
  rw [mdr_at]
  cases u[i]? with
  | none => rfl
  | some x => simp; omega
theorem mdr_out (f : Nat → Nat) (u : List Nat) (a n i : Nat) (h : i < a ∨ a + n ≤ i) : (mdr f u a n)[i]? = u[i]? := by
  rw [mdr_at]
  cases u[i]? with
  | none => rfl
  | some x => simp; omega
theorem mdr_in (f : Nat → Nat) (u : List Nat) (a n i x : Nat) (h : u[i]? = some x) (h1 : a ≤ i) (h2 : i < a + n) : (mdr f u a n)[i]? = some (f x) := by
  rw [mdr_at, h]
  simp
  omega
theorem mdr_succ (f : Nat → Nat) (u : List Nat) (a k : Nat) {x : Nat} (h : u[a + k]? = some x) : mdr f u a (k + 1) = (mdr f u a k).set (a + k) (f x) := by
  apply List.ext_getElem?
  intro i
  have hl : a + k < u.length := (List.getElem?_eq_some_iff.1 h).1
  by_cases e : i = a + k
  · subst e
    rw [List.getElem?_set_self (by rw [mdr_len]; exact hl)]
    exact mdr_in f u a (k + 1) _ x h (by omega) (by omega)
  · rw [List.getElem?_set_ne (Ne.symm e), mdr_at, mdr_at]
    cases u[i]? with
    | none => rfl
    | some y =>
      simp only [Option.map_some, Option.some.injEq]
      by_cases c : a ≤ i ∧ i < a + k
      · rw [if_pos c, if_pos (by omega)]
      · rw [if_neg c, if_neg (by omega)]
theorem zeros_set (u : List Nat) (i y x : Nat) (h : u[i]? = some x) : (zeros (u.set i y) : Int) = (zeros u : Int) - (if x = 0 then 1 else 0) + (if y = 0 then 1 else 0) := by
  unfold zeros
  have hl : i < u.length := (List.getElem?_eq_some_iff.1 h).1
  have he : u[i] = x := (List.getElem?_eq_some_iff.1 h).2
  rw [List.countP_set hl, he]
  by_cases h0 : x = 0
  · have hp : 0 < u.countP (fun x => decide (x = 0)) := List.countP_pos_iff.2 ⟨x, List.mem_of_getElem? h, by simp [h0]⟩
    by_cases h1 : y = 0
    · simp [h0, h1]; omega
    · simp [h0, h1]; omega
  · by_cases h1 : y = 0
    · simp [h0, h1]
    · simp [h0, h1]
theorem zeros_pos {u : List Nat} {i : Nat} (h : u[i]? = some 0) : 0 < zeros u := List.countP_pos_iff.2 ⟨0, List.mem_of_getElem? h, by simp⟩
theorem zeros_take_one (u : List Nat) (a n : Nat) (h : ∀ i, i < n → u[a + i]? = some 0) : (zeros (mdr (fun _ => 1) u a n) : Int) = (zeros u : Int) - n := by
  induction n with
  | zero => rw [mdr_zero]; simp
  | succ n ih =>
    rw [mdr_succ _ u a n (h n (by omega)), zeros_set _ _ _ 0 (by rw [mdr_out _ _ _ _ _ (by omega)]; exact h n (by omega)), ih (fun i hi => h i (by omega))]
    simp
    omega
theorem zeros_add (u : List Nat) (a n : Nat) (h : ∀ i, i < n → ∃ x, u[a + i]? = some x ∧ x ≠ 0) : zeros (mdr (· + 1) u a n) = zeros u := by
  induction n with
  | zero => rw [mdr_zero]
  | succ n ih =>
    obtain ⟨x, hx, h0⟩ := h n (by omega)
    have := zeros_set (mdr (· + 1) u a n) (a + n) (x + 1) x (by rw [mdr_out _ _ _ _ _ (by omega)]; exact hx)
    rw [← mdr_succ _ u a n hx, ih (fun i hi => h i (by omega)), if_neg h0, if_neg (by omega)] at this
    omega
theorem frd_zero (u : List Nat) (a : Nat) : frd u a 0 = 0 := by simp [frd]
theorem frd_succ (u : List Nat) (a k : Nat) {x : Nat} (h : u[a + k]? = some x) : frd u a (k + 1) = frd u a k + if x = 1 then 1 else 0 := by
  unfold frd
  have hd : (u.drop a)[k]? = some x := by rw [List.getElem?_drop]; exact h
  rw [List.take_add_one, hd, List.countP_append]
  simp [List.countP_cons]
theorem frd_le (u : List Nat) (a n : Nat) : frd u a n ≤ n := by
  unfold frd
  exact Nat.le_trans List.countP_le_length (List.length_take_le _ _)
theorem zeros_sub (u : List Nat) (a n : Nat) (h : ∀ i, i < n → ∃ x, u[a + i]? = some x ∧ x ≠ 0) : zeros (mdr (· - 1) u a n) = zeros u + frd u a n := by
  induction n with
  | zero => rw [mdr_zero, frd_zero]; rfl
  | succ n ih =>
    obtain ⟨x, hx, h0⟩ := h n (by omega)
    have := zeros_set (mdr (· - 1) u a n) (a + n) (x - 1) x (by rw [mdr_out _ _ _ _ _ (by omega)]; exact hx)
    rw [← mdr_succ _ u a n hx, ih (fun i hi => h i (by omega)), if_neg h0] at this
    rw [frd_succ u a n hx]
    by_cases h1 : x = 1
    · rw [if_pos (by omega)] at this; rw [if_pos h1]; omega
    · rw [if_neg (by omega)] at this; rw [if_neg h1]; omega
theorem mdr_le255 {f : Nat → Nat} {u : List Nat} {a n : Nat} (h : ∀ x ∈ u, x ≤ 255) (hf : ∀ i x, i < n → u[a + i]? = some x → f x ≤ 255) : ∀ x ∈ mdr f u a n, x ≤ 255 := by
  intro x hx
  obtain ⟨i, hi⟩ := List.mem_iff_getElem?.1 hx
  rw [mdr_at] at hi
  cases hu : u[i]? with
  | none => rw [hu] at hi; cases hi
  | some y =>
    rw [hu] at hi
    simp only [Option.map_some, Option.some.injEq] at hi
    split at hi
    · rename_i c
      rw [← hi]
      exact hf (i - a) y (by omega) (by rw [show a + (i - a) = i by omega]; exact hu)
    · rw [← hi]; exact h y (List.mem_of_getElem? hu)

/-! ### the lowest run -/
def Fit (f0 : Nat) (u : List Nat) (n al t : Nat) : Prop := (f0 + t) % al = 0 ∧ t + n ≤ u.length ∧ ∀ i, i < n → u[t + i]? = some 0
def fitB (f0 : Nat) (u : List Nat) (n al t : Nat) : Bool := decide ((f0 + t) % al = 0) && (decide (t + n ≤ u.length) && (List.range n).all fun i => decide (u[t + i]? = some 0))
theorem fitB_iff {f0 : Nat} {u : List Nat} {n al t : Nat} : fitB f0 u n al t = true ↔ Fit f0 u n al t := by
  unfold fitB Fit
  simp
def tk (f0 : Nat) (u : List Nat) (n al : Nat) : Option Nat := (List.range (u.length + 1)).find? fun t => fitB f0 u n al t
theorem tk_some {f0 : Nat} {u : List Nat} {n al t : Nat} : tk f0 u n al = some t ↔ Fit f0 u n al t ∧ ∀ j, j < t → ¬ Fit f0 u n al j := by
  unfold tk
  rw [List.find?_range_eq_some, fitB_iff]
  constructor
  · rintro ⟨h1, _, h2⟩
    refine ⟨h1, fun j hj hf => ?_⟩
    have := h2 j hj
    rw [fitB_iff.2 hf] at this
    cases this
  · rintro ⟨h1, h2⟩
    have := h1.2.1
    refine ⟨h1, List.mem_range.2 (by omega), fun j hj => ?_⟩
    cases h : fitB f0 u n al j with
    | false => rfl
    | true => exact absurd (fitB_iff.1 h) (h2 j hj)
theorem tk_none {f0 : Nat} {u : List Nat} {n al : Nat} : tk f0 u n al = none ↔ ∀ j, ¬ Fit f0 u n al j := by
  unfold tk
  rw [List.find?_range_eq_none]
  constructor
  · intro h j hj
    have := h j (by have := hj.2.1; omega)
    rw [fitB_iff.2 hj] at this
    cases this
  · intro h j _
    cases hh : fitB f0 u n al j with
    | false => rfl
    | true => exact absurd (fitB_iff.1 hh) (h j)
theorem tk_cases (f0 : Nat) (u : List Nat) (n al : Nat) : (∃ t, tk f0 u n al = some t ∧ Fit f0 u n al t ∧ ∀ j, j < t → ¬ Fit f0 u n al j) ∨ (tk f0 u n al = none ∧ ∀ j, ¬ Fit f0 u n al j) := by
  cases h : tk f0 u n al with
  | none => exact .inr ⟨rfl, tk_none.1 h⟩
  | some t => exact .inl ⟨t, rfl, tk_some.1 h⟩

/-- An alignment. -/
def isAl (a : Int) : Bool := decide (a ∈ ([1, 2, 4, 8, 16, 32, 64, 128, 256, 512, 1024, 2048, 4096] : List Int))
theorem isAl_pos {a : Int} (h : isAl a = true) : 1 ≤ a ∧ a ≤ 4096 := by
  unfold isAl at h
  simp at h
  omega

/-! ### the calls of a pool: what is answered, the error, the uses behind it -/
def takeR (f0 : Nat) (u : List Nat) (n al : Int) : Int × Int × List Nat :=
  if n < 1 ∨ isAl al = false then (0, 41, u) else
    match tk f0 u n.toNat al.toNat with
    | none => (0, 42, u)
    | some t => (((f0 + t : Nat) : Int), 0, mdr (fun _ => 1) u t n.toNat)
def hasB (f0 : Nat) (u : List Nat) (first n : Int) : Bool := decide ((f0 : Int) ≤ first ∧ first + n ≤ (f0 : Int) + u.length)
def anyZ (u : List Nat) (a n : Nat) : Bool := ((u.drop a).take n).any (fun x => decide (x = 0))
def anyM (u : List Nat) (a n : Nat) : Bool := ((u.drop a).take n).any (fun x => decide (x = 255))
def nameE (f0 : Nat) (u : List Nat) (first n : Int) : Int :=
  if n < 1 then 41 else if hasB f0 u first n = false then 40 else if anyZ u (first - f0).toNat n.toNat = true then 43 else 0
def shareR (f0 : Nat) (u : List Nat) (first n : Int) : Int × List Nat :=
  if nameE f0 u first n ≠ 0 then (nameE f0 u first n, u) else if anyM u (first - f0).toNat n.toNat = true then (44, u) else (0, mdr (· + 1) u (first - f0).toNat n.toNat)
def dropR (f0 : Nat) (u : List Nat) (first n : Int) : Int × Int × List Nat :=
  if nameE f0 u first n ≠ 0 then (0, nameE f0 u first n, u) else ((frd u (first - f0).toNat n.toNat : Int), 0, mdr (· - 1) u (first - f0).toNat n.toNat)
def usesR (f0 : Nat) (u : List Nat) (f : Int) : Nat := if hasB f0 u f 1 = true then (u[(f - f0).toNat]?).getD 0 else 0

theorem anyZ_false {u : List Nat} {a n : Nat} (hl : a + n ≤ u.length) : anyZ u a n = false ↔ ∀ i, i < n → ∃ x, u[a + i]? = some x ∧ x ≠ 0 := by
  unfold anyZ
  rw [List.any_eq_false]
  constructor
  · intro h i hi
    have hlt : a + i < u.length := by omega
    refine ⟨u[a + i], List.getElem?_eq_getElem hlt, fun e => h u[a + i] ?_ (by simp [e])⟩
    apply List.mem_iff_getElem?.2
    exact ⟨i, by rw [List.getElem?_take_of_lt hi, List.getElem?_drop]; exact List.getElem?_eq_getElem hlt⟩
  · intro h x hx
    obtain ⟨i, hi⟩ := List.mem_iff_getElem?.1 hx
    rw [List.getElem?_take] at hi
    split at hi
    · rename_i hc
      rw [List.getElem?_drop] at hi
      obtain ⟨y, hy, h0⟩ := h i hc
      rw [hy] at hi
      cases hi
      simpa using h0
    · cases hi
theorem anyZ_true {u : List Nat} {a n : Nat} : anyZ u a n = true ↔ ∃ i, i < n ∧ u[a + i]? = some 0 := by
  unfold anyZ
  rw [List.any_eq_true]
  constructor
  · rintro ⟨x, hx, h0⟩
    obtain ⟨i, hi⟩ := List.mem_iff_getElem?.1 hx
    rw [List.getElem?_take] at hi
    split at hi
    · rename_i hc
      rw [List.getElem?_drop] at hi
      exact ⟨i, hc, by rw [hi]; simp at h0; rw [h0]⟩
    · cases hi
  · rintro ⟨i, hi, h⟩
    refine ⟨0, ?_, by simp⟩
    apply List.mem_iff_getElem?.2
    exact ⟨i, by rw [List.getElem?_take_of_lt hi, List.getElem?_drop]; exact h⟩
theorem anyM_true {u : List Nat} {a n : Nat} : anyM u a n = true ↔ ∃ i, i < n ∧ u[a + i]? = some 255 := by
  unfold anyM
  rw [List.any_eq_true]
  constructor
  · rintro ⟨x, hx, h0⟩
    obtain ⟨i, hi⟩ := List.mem_iff_getElem?.1 hx
    rw [List.getElem?_take] at hi
    split at hi
    · rename_i hc
      rw [List.getElem?_drop] at hi
      exact ⟨i, hc, by rw [hi]; simp at h0; rw [h0]⟩
    · cases hi
  · rintro ⟨i, hi, h⟩
    refine ⟨255, ?_, by simp⟩
    apply List.mem_iff_getElem?.2
    exact ⟨i, by rw [List.getElem?_take_of_lt hi, List.getElem?_drop]; exact h⟩
theorem anyM_false {u : List Nat} {a n : Nat} : anyM u a n = false ↔ ∀ i, i < n → u[a + i]? ≠ some 255 := by
  rw [← Bool.not_eq_true, anyM_true]
  constructor
  · exact fun h i hi e => h ⟨i, hi, e⟩
  · rintro h ⟨i, hi, e⟩; exact h i hi e

/-- What is named, where no error is. -/
theorem nameE_ok {f0 : Nat} {u : List Nat} {first n : Int} (h : nameE f0 u first n = 0) : ∃ a k : Nat, first = f0 + a ∧ n = k ∧ 1 ≤ k ∧ a + k ≤ u.length ∧ (first - f0).toNat = a ∧ n.toNat = k ∧ ∀ i, i < k → ∃ x, u[a + i]? = some x ∧ x ≠ 0 := by
  unfold nameE at h
  split at h
  · cases h
  split at h
  · cases h
  split at h
  · cases h
  rename_i h1 h2 h3
  have h2' : hasB f0 u first n = true := by cases hh : hasB f0 u first n with | true => rfl | false => exact absurd hh h2
  unfold hasB at h2'
  simp at h2'
  refine ⟨(first - f0).toNat, n.toNat, by omega, by omega, by omega, by omega, rfl, rfl, ?_⟩
  exact (anyZ_false (by omega)).1 (by cases hh : anyZ u (first - f0).toNat n.toNat with | false => rfl | true => exact absurd hh h3)

theorem takeR_len (f0 : Nat) (u : List Nat) (n al : Int) : (takeR f0 u n al).2.2.length = u.length := by
  unfold takeR
  split
  · rfl
  · split
    · rfl
    · simp [mdr_len]
theorem shareR_len (f0 : Nat) (u : List Nat) (first n : Int) : (shareR f0 u first n).2.length = u.length := by
  unfold shareR
  split
  · rfl
  · split
    · rfl
    · simp [mdr_len]
theorem dropR_len (f0 : Nat) (u : List Nat) (first n : Int) : (dropR f0 u first n).2.2.length = u.length := by
  unfold dropR
  split
  · rfl
  · simp [mdr_len]

/-! ### the runs -/
def bump (l : List (Nat × Nat)) : List (Nat × Nat) := match l.getLast? with
  | none => l
  | some x => l.dropLast ++ [(x.1, x.2 + 1)]
def runsTo (f0 : Nat) (u : List Nat) : Nat → List (Nat × Nat)
  | 0 => []
  | k + 1 => if u[k]? ≠ some 0 then runsTo f0 u k else if 0 < k ∧ u[k - 1]? = some 0 then bump (runsTo f0 u k) else runsTo f0 u k ++ [(f0 + k, 1)]
def runs (f0 : Nat) (u : List Nat) : List (Nat × Nat) := runsTo f0 u u.length
theorem bump_len (l : List (Nat × Nat)) : (bump l).length = l.length := by
  unfold bump
  cases h : l.getLast? with
  | none => rfl
  | some x =>
    have : l ≠ [] := fun e => by rw [e] at h; cases h
    have := List.length_pos_iff.2 this
    simp
    omega
theorem runsTo_len (f0 : Nat) (u : List Nat) (k : Nat) : (runsTo f0 u k).length ≤ k := by
  induction k with
  | zero => exact Nat.le_refl _
  | succ k ih =>
    unfold runsTo
    split
    · omega
    · split
      · rw [bump_len]; omega
      · simp; omega
theorem runsTo_last (f0 : Nat) (u : List Nat) (k : Nat) (hk : 0 < k) (h : u[k - 1]? = some 0) : ∃ l a c, runsTo f0 u k = l ++ [(a, c)] := by
  obtain ⟨j, rfl⟩ : ∃ j, k = j + 1 := ⟨k - 1, by omega⟩
  rw [Nat.add_sub_cancel] at h
  unfold runsTo
  rw [if_neg (by simp [h])]
  split
  · rename_i hc
    obtain ⟨l, a, c, e⟩ := runsTo_last f0 u j hc.1 hc.2
    refine ⟨l, a, c + 1, ?_⟩
    rw [e]
    simp [bump]
  · exact ⟨_, _, _, rfl⟩
theorem bump_snoc (l : List (Nat × Nat)) (a c : Nat) : bump (l ++ [(a, c)]) = l ++ [(a, c + 1)] := by simp [bump]

/-- What the runs of the first k frames are. -/
structure RunsOK (f0 : Nat) (u : List Nat) (k : Nat) (l : List (Nat × Nat)) : Prop where
  each : ∀ (i a c : Nat), l[i]? = some (a, c) → 1 ≤ c ∧ f0 ≤ a ∧ a + c ≤ f0 + k ∧ ∀ j, j < c → u[a - f0 + j]? = some 0
  gap : ∀ (i a c a' c' : Nat), l[i]? = some (a, c) → l[i + 1]? = some (a', c') → a + c < a'
  sum : (l.map (·.2)).sum = zeros (u.take k)
  last : (∃ m a c, l = m ++ [(a, c)] ∧ a + c = f0 + k) ∨ ((k = 0 ∨ u[k - 1]? ≠ some 0) ∧ ∀ (i a c : Nat), l[i]? = some (a, c) → a + c < f0 + k ∨ k = 0)
theorem zeros_take_succ (u : List Nat) (k : Nat) {x : Nat} (h : u[k]? = some x) : zeros (u.take (k + 1)) = zeros (u.take k) + if x = 0 then 1 else 0 := by
  unfold zeros
  rw [List.take_add_one, h, List.countP_append]
  simp [List.countP_cons]
theorem runsOK_to (f0 : Nat) (u : List Nat) (k : Nat) (hk : k ≤ u.length) : RunsOK f0 u k (runsTo f0 u k) := by
  induction k with
  | zero => exact ⟨fun i a c h => by simp [runsTo] at h, fun i a c a' c' h => by simp [runsTo] at h, rfl, .inr ⟨.inl rfl, fun i a c h => .inr rfl⟩⟩
  | succ k ih =>
    have ih := ih (by omega)
    obtain ⟨x, hx⟩ : ∃ x, u[k]? = some x := ⟨_, List.getElem?_eq_getElem (by omega)⟩
    have hz := zeros_take_succ u k hx
    unfold runsTo
    by_cases h0 : x = 0
    · subst h0
      rw [if_neg (by simp [hx])]
      rw [if_pos rfl] at hz
      by_cases hc : 0 < k ∧ u[k - 1]? = some 0
      · rw [if_pos hc]
        obtain ⟨m, a, c, e⟩ := runsTo_last f0 u k hc.1 hc.2
        have hlast : a + c = f0 + k := by
          rcases ih.last with ⟨m', a', c', e', hs⟩ | ⟨h1, _⟩
          · rw [e] at e'
            have := List.append_inj_right' e' rfl
            simp at this
            obtain ⟨rfl, rfl⟩ := this
            exact hs
          · rcases h1 with h1 | h1
            · omega
            · exact absurd hc.2 h1
        rw [e] at ih ⊢
        rw [bump_snoc]
        have hel : (m ++ [(a, c)])[m.length]? = some (a, c) := by simp
        have hE := ih.each m.length a c hel
        have hlow : ∀ i b d, i < m.length → (m ++ [(a, c + 1)])[i]? = some (b, d) → (m ++ [(a, c)])[i]? = some (b, d) := fun i b d hi h => by
          rw [List.getElem?_append_left hi] at h ⊢; exact h
        have htop : ∀ i b d, ¬ i < m.length → (m ++ [(a, c + 1)])[i]? = some (b, d) → i = m.length ∧ b = a ∧ d = c + 1 := fun i b d hi h => by
          rw [List.getElem?_append_right (by omega)] at h
          rcases Nat.eq_zero_or_pos (i - m.length) with h1 | h1
          · rw [h1] at h; simp at h; exact ⟨by omega, h.1.symm, h.2.symm⟩
          · rw [List.getElem?_eq_none (by simp; omega)] at h; cases h
        refine ⟨fun i b d h => ?_, fun i b d b' d' h h' => ?_, ?_, .inl ⟨m, a, c + 1, rfl, by omega⟩⟩
        · by_cases hi : i < m.length
          · obtain ⟨r1, r2, r3, r4⟩ := ih.each i b d (hlow i b d hi h)
            exact ⟨r1, r2, by omega, r4⟩
          · obtain ⟨_, rfl, rfl⟩ := htop i b d hi h
            refine ⟨by omega, hE.2.1, by omega, fun j hj => ?_⟩
            by_cases hjc : j < c
            · exact hE.2.2.2 j hjc
            · have : b - f0 + j = k := by omega
              rw [this]; exact hx
        · by_cases hi : i + 1 < m.length
          · exact ih.gap i b d b' d' (hlow i b d (by omega) h) (hlow (i + 1) b' d' hi h')
          · obtain ⟨e1, rfl, rfl⟩ := htop (i + 1) b' d' hi h'
            exact ih.gap i b d b' c (hlow i b d (by omega) h) (by rw [e1]; exact hel)
        · have := ih.sum
          simp at this ⊢
          omega
      · rw [if_neg hc]
        have hlt : ∀ i b d, (runsTo f0 u k)[i]? = some (b, d) → b + d < f0 + k := fun i b d h => by
          rcases ih.last with ⟨m', a', c', e', hs⟩ | ⟨h1, h2⟩
          · exfalso
            apply hc
            have hel : (runsTo f0 u k)[m'.length]? = some (a', c') := by rw [e']; simp
            obtain ⟨r1, r2, r3, r4⟩ := ih.each _ a' c' hel
            have := r4 (c' - 1) (by omega)
            rw [show a' - f0 + (c' - 1) = k - 1 by omega] at this
            exact ⟨by omega, this⟩
          · rcases h2 i b d h with h2 | h2
            · exact h2
            · subst h2
              simp [runsTo] at h
        have htop : ∀ i b d, (runsTo f0 u k ++ [(f0 + k, 1)])[i]? = some (b, d) → (runsTo f0 u k)[i]? = some (b, d) ∨ (i = (runsTo f0 u k).length ∧ b = f0 + k ∧ d = 1) := fun i b d h => by
          by_cases hi : i < (runsTo f0 u k).length
          · rw [List.getElem?_append_left hi] at h; exact .inl h
          · rw [List.getElem?_append_right (by omega)] at h
            rcases Nat.eq_zero_or_pos (i - (runsTo f0 u k).length) with h1 | h1
            · rw [h1] at h; simp at h; exact .inr ⟨by omega, h.1.symm, h.2.symm⟩
            · rw [List.getElem?_eq_none (by simp; omega)] at h; cases h
        refine ⟨fun i b d h => ?_, fun i b d b' d' h h' => ?_, ?_, .inl ⟨_, _, _, rfl, by omega⟩⟩
        · rcases htop i b d h with h | ⟨_, rfl, rfl⟩
          · obtain ⟨r1, r2, r3, r4⟩ := ih.each i b d h
            exact ⟨r1, r2, by omega, r4⟩
          · refine ⟨by omega, by omega, by omega, fun j hj => ?_⟩
            rw [show f0 + k - f0 + j = k by omega]; exact hx
        · rcases htop (i + 1) b' d' h' with h' | ⟨e1, rfl, rfl⟩
          · rcases htop i b d h with h | ⟨e1, _, _⟩
            · exact ih.gap i b d b' d' h h'
            · rw [List.getElem?_eq_none (by omega)] at h'; cases h'
          · rcases htop i b d h with h | ⟨e2, _, _⟩
            · exact hlt i b d h
            · omega
        · have := ih.sum
          simp at this ⊢
          omega
    · rw [if_pos (by simp [hx, h0])]
      rw [if_neg h0] at hz
      refine ⟨fun i b d h => ?_, ih.gap, by rw [hz]; exact ih.sum, .inr ⟨.inr (by simp [hx, h0]), fun i b d h => .inl ?_⟩⟩
      · obtain ⟨r1, r2, r3, r4⟩ := ih.each i b d h
        exact ⟨r1, r2, by omega, r4⟩
      · have := (ih.each i b d h).2.2.1
        omega
theorem runsOK (f0 : Nat) (u : List Nat) : RunsOK f0 u u.length (runs f0 u) := runsOK_to f0 u u.length (Nat.le_refl _)
theorem runsTo_all (f0 n k : Nat) (hk : k < n) : runsTo f0 (List.replicate n 0) (k + 1) = [(f0, k + 1)] := by
  induction k with
  | zero =>
    unfold runsTo
    rw [if_neg (by rw [List.getElem?_replicate, if_pos hk]; simp), if_neg (by simp)]
    rfl
  | succ k ih =>
    unfold runsTo
    rw [if_neg (by rw [List.getElem?_replicate, if_pos hk]; simp), if_pos ⟨by omega, by rw [List.getElem?_replicate, if_pos (by omega)]⟩, ih (by omega)]
    rfl
theorem runs_all (f0 n : Nat) (h : 0 < n) : runs f0 (List.replicate n 0) = [(f0, n)] := by
  unfold runs
  obtain ⟨k, rfl⟩ : ∃ k, n = k + 1 := ⟨n - 1, by omega⟩
  rw [List.length_replicate]
  exact runsTo_all f0 (k + 1) k (by omega)
end Go.Proofs.Ytplobjdghaokoaa
