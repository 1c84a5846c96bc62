import Derived.Test.YtdelcknpaldngabBa
namespace Go.Proofs.Ytdelcknpaldngab
set_option linter.unusedVariables false
/-- A shift by one, of the document's. -/
def oneW (k x : Nat) (c : Bool) : Nat :=
  if k = 0 then x * 2 % 4294967296 else if k = 1 then x / 2 else if k = 2 then x / 2 + x / 2147483648 * 2147483648
  else if k = 3 then x / 2 + x % 2 * 2147483648 else x / 2 + (if c then 2147483648 else 0)
def oneC (k x : Nat) : Bool := if k = 0 then decide (x / 2147483648 % 2 = 1) else decide (x % 2 = 1)
/-- n shifts by one. -/
def iterS (k : Nat) : Nat → Nat → Bool → Nat × Bool
  | 0, x, c => (x, c)
  | n + 1, x, c => let r := iterS k n x c; (oneW k r.1 r.2, oneC k r.1)
theorem oneW_lt (k x : Nat) (c : Bool) (h : x < 4294967296) : oneW k x c < 4294967296 := by
  unfold oneW
  repeat' split
  all_goals omega
theorem iterS_lt (k n x : Nat) (c : Bool) (h : x < 4294967296) : (iterS k n x c).1 < 4294967296 := by
  induction n with
  | zero => exact h
  | succ n ih => exact oneW_lt k _ _ ih
theorem two_pow_split {n m : Nat} (h : m ≤ n) : 2 ^ n = 2 ^ m * 2 ^ (n - m) := by rw [← Nat.pow_add]; congr 1; omega
theorem lsl_iter (n x : Nat) (c : Bool) (h : x < 4294967296) : (iterS 0 n x c).1 = x * 2 ^ n % 4294967296 := by
  induction n with
  | zero => simp [iterS]; omega
  | succ n ih =>
    show oneW 0 (iterS 0 n x c).1 (iterS 0 n x c).2 = _
    rw [ih]
    unfold oneW
    rw [if_pos rfl, Nat.pow_succ, ← Nat.mul_assoc]
    rw [Nat.mul_mod, Nat.mod_mod, ← Nat.mul_mod]
theorem lsr_iter (n x : Nat) (c : Bool) : (iterS 1 n x c).1 = x / 2 ^ n := by
  induction n with
  | zero => simp [iterS]
  | succ n ih =>
    show oneW 1 (iterS 1 n x c).1 (iterS 1 n x c).2 = _
    rw [ih]
    unfold oneW
    rw [if_neg (by decide), if_pos rfl, Nat.pow_succ, Nat.div_div_eq_div_mul]
/-- n times shifted right, the highest bit coming in. -/
def asrN (n x : Nat) : Nat := if x < 2147483648 then x / 2 ^ n else 4294967295 - (4294967295 - x) / 2 ^ n
theorem asr_iter (n x : Nat) (c : Bool) (h : x < 4294967296) : (iterS 2 n x c).1 = asrN n x := by
  induction n with
  | zero => simp [iterS, asrN]; omega
  | succ n ih =>
    show oneW 2 (iterS 2 n x c).1 (iterS 2 n x c).2 = _
    rw [ih]
    unfold oneW asrN
    rw [if_neg (by decide), if_neg (by decide), if_pos rfl, Nat.pow_succ]
    by_cases hx : x < 2147483648
    · rw [if_pos hx, if_pos hx, ← Nat.div_div_eq_div_mul]
      have : x / 2 ^ n ≤ x := Nat.div_le_self _ _
      omega
    · rw [if_neg hx, if_neg hx, ← Nat.div_div_eq_div_mul]
      have hy : (4294967295 - x) / 2 ^ n ≤ 4294967295 - x := Nat.div_le_self _ _
      generalize (4294967295 - x) / 2 ^ n = y at *
      have he : (4294967295 - y) / 2147483648 = 1 := by omega
      rw [he]
      omega
/-- Turned right by k below 32. -/
def rorK (k x : Nat) : Nat := x / 2 ^ k + x % 2 ^ k * 2 ^ (32 - k)
theorem rorK_lt (k x : Nat) (hk : k ≤ 32) (h : x < 4294967296) : rorK k x < 4294967296 := by
  unfold rorK
  have hs : 4294967296 = 2 ^ k * 2 ^ (32 - k) := by rw [← Nat.pow_add, show k + (32 - k) = 32 by omega]
  have hp : 0 < 2 ^ k := Nat.two_pow_pos k
  have h1 : x / 2 ^ k < 2 ^ (32 - k) := by rw [Nat.div_lt_iff_lt_mul hp, Nat.mul_comm, ← hs]; exact h
  have h2 : x % 2 ^ k + 1 ≤ 2 ^ k := Nat.mod_lt _ hp
  have h3 : (x % 2 ^ k + 1) * 2 ^ (32 - k) ≤ 2 ^ k * 2 ^ (32 - k) := Nat.mul_le_mul_right _ h2
  rw [Nat.add_mul, Nat.one_mul] at h3
  omega
theorem rorK_succ (k x : Nat) (hk : k < 32) (h : x < 4294967296) : rorK k x / 2 + rorK k x % 2 * 2147483648 = rorK (k + 1) x := by
  unfold rorK
  have e1 : 2 ^ (32 - k) = 2 * 2 ^ (31 - k) := by rw [show 32 - k = (31 - k) + 1 by omega, Nat.pow_succ]; omega
  have e2 : 32 - (k + 1) = 31 - k := by omega
  have e3 : 2147483648 = 2 ^ k * 2 ^ (31 - k) := by rw [← Nat.pow_add, show k + (31 - k) = 31 by omega]
  have e4 : x % 2 ^ (k + 1) = x % 2 ^ k + 2 ^ k * (x / 2 ^ k % 2) := Nat.mod_pow_succ
  rw [e2, e4, Nat.pow_succ, ← Nat.div_div_eq_div_mul, e1, Nat.add_mul]
  have e5 : x % 2 ^ k * (2 * 2 ^ (31 - k)) = 2 * (x % 2 ^ k * 2 ^ (31 - k)) := by rw [Nat.mul_left_comm]
  have e6 : 2 ^ k * (x / 2 ^ k % 2) * 2 ^ (31 - k) = (x / 2 ^ k % 2) * 2147483648 := by rw [e3, Nat.mul_comm (2 ^ k), Nat.mul_assoc]
  rw [e5, e6]
  omega
theorem rorK_32 (x : Nat) (h : x < 4294967296) : rorK 32 x = x := by
  unfold rorK
  rw [Nat.div_eq_of_lt (by simpa using h), Nat.mod_eq_of_lt (by simpa using h)]
  simp
theorem rorK_0 (x : Nat) : rorK 0 x = x := by
  unfold rorK
  simp
  omega
theorem ror_iter (n x : Nat) (c : Bool) (h : x < 4294967296) : (iterS 3 n x c).1 = rorK (n % 32) x := by
  induction n with
  | zero => rw [Nat.zero_mod, rorK_0]; rfl
  | succ n ih =>
    show oneW 3 (iterS 3 n x c).1 (iterS 3 n x c).2 = _
    rw [ih]
    unfold oneW
    rw [if_neg (by decide), if_neg (by decide), if_neg (by decide), if_pos rfl, rorK_succ _ _ (Nat.mod_lt _ (by decide)) h]
    by_cases hn : n % 32 = 31
    · rw [hn, show (n + 1) % 32 = 0 by omega, rorK_32 x h, rorK_0]
    · rw [show (n + 1) % 32 = n % 32 + 1 by omega]
/-- The carry of a turn is the highest bit of what comes out. -/
theorem ror_top (y : Nat) (h : y < 4294967296) : decide (y % 2 = 1) = decide (2147483648 ≤ y / 2 + y % 2 * 2147483648) := by
  by_cases hy : y % 2 = 1
  · rw [decide_eq_true hy, decide_eq_true (by omega)]
  · rw [decide_eq_false hy, decide_eq_false (by omega)]
theorem ror_carry (n x : Nat) (c : Bool) (hn : 0 < n) (h : x < 4294967296) : (iterS 3 n x c).2 = decide (2147483648 ≤ rorK (n % 32) x) := by
  obtain ⟨m, rfl⟩ : ∃ m, n = m + 1 := ⟨n - 1, by omega⟩
  rw [← ror_iter (m + 1) x c h]
  show oneC 3 (iterS 3 m x c).1 = decide (2147483648 ≤ oneW 3 (iterS 3 m x c).1 (iterS 3 m x c).2)
  unfold oneC oneW
  rw [if_neg (by decide), if_neg (by decide), if_neg (by decide), if_neg (by decide), if_pos rfl]
  exact ror_top _ (iterS_lt 3 m x c h)
theorem lsl_carry (n x : Nat) (c : Bool) (h : x < 4294967296) : (iterS 0 (n + 1) x c).2 = decide (x * 2 ^ n / 2147483648 % 2 = 1) := by
  show oneC 0 (iterS 0 n x c).1 = _
  unfold oneC
  rw [if_pos rfl, lsl_iter n x c h]
  congr 1
  generalize x * 2 ^ n = y
  have : y % 4294967296 / 2147483648 % 2 = y / 2147483648 % 2 := by omega
  rw [this]
theorem lsr_carry (n x : Nat) (c : Bool) : (iterS 1 (n + 1) x c).2 = decide (x / 2 ^ n % 2 = 1) := by
  show oneC 1 (iterS 1 n x c).1 = _
  unfold oneC
  rw [if_neg (by decide), lsr_iter n x c]
theorem asr_carry (n x : Nat) (c : Bool) (h : x < 4294967296) : (iterS 2 (n + 1) x c).2 = decide (asrN n x % 2 = 1) := by
  show oneC 2 (iterS 2 n x c).1 = _
  unfold oneC
  rw [if_neg (by decide), asr_iter n x c h]
/-- The document's words of a shift: the word. -/
def shW (k x n : Nat) (c : Bool) : Nat :=
  if 4 < k then x else if k = 4 then x / 2 + (if c then 2147483648 else 0) else
  if n % 256 = 0 then x else
  if k = 0 then (if n % 256 < 32 then x * 2 ^ (n % 256) % 4294967296 else 0) else
  if k = 1 then (if n % 256 < 32 then x / 2 ^ (n % 256) else 0) else
  if k = 2 then (if n % 256 < 32 then asrN (n % 256) x else if x < 2147483648 then 0 else 4294967295) else rorK (n % 32) x
/-- Its carry. -/
def shC (k x n : Nat) (c : Bool) : Bool :=
  if 4 < k then c else if k = 4 then decide (x % 2 = 1) else
  if n % 256 = 0 then c else
  if k = 0 then (if n % 256 ≤ 32 then decide (x / 2 ^ (32 - n % 256) % 2 = 1) else false) else
  if k = 1 then (if n % 256 ≤ 32 then decide (x / 2 ^ (n % 256 - 1) % 2 = 1) else false) else
  if k = 2 then (if n % 256 < 32 then decide (x / 2 ^ (n % 256 - 1) % 2 = 1) else decide (2147483648 ≤ x)) else decide (2147483648 ≤ rorK (n % 32) x)
theorem pow_ge {n : Nat} (h : 32 ≤ n) : 4294967296 ≤ 2 ^ n := by
  have := Nat.pow_le_pow_right (n := 2) (by decide) h
  simpa using this
theorem asr_big {n x : Nat} (hn : 31 ≤ n) (h : x < 4294967296) : asrN n x = if x < 2147483648 then 0 else 4294967295 := by
  have hp : 2147483648 ≤ 2 ^ n := by simpa using Nat.pow_le_pow_right (n := 2) (by decide) hn
  unfold asrN
  split
  · exact Nat.div_eq_of_lt (by omega)
  · rw [Nat.div_eq_of_lt (by omega)]
theorem asr_bit {m x : Nat} (hm : m < 31) (h : x < 4294967296) : asrN m x % 2 = x / 2 ^ m % 2 := by
  unfold asrN
  split
  · rfl
  · have hp : 0 < 2 ^ m := Nat.two_pow_pos m
    have e : 4294967295 = 2 ^ m * 2 ^ (32 - m) - 1 := by rw [← Nat.pow_add, show m + (32 - m) = 32 by omega]
    have e8 : 2 ^ (32 - m) = 2 * 2 ^ (31 - m) := by rw [show 32 - m = (31 - m) + 1 by omega, Nat.pow_succ]; omega
    have key : (4294967295 - x) / 2 ^ m = 2 ^ (32 - m) - 1 - x / 2 ^ m := by
      have hx := Nat.div_add_mod x (2 ^ m)
      have hr := Nat.mod_lt x hp
      have hq : x / 2 ^ m < 2 ^ (32 - m) := by
        rw [Nat.div_lt_iff_lt_mul hp, Nat.mul_comm, ← Nat.pow_add, show m + (32 - m) = 32 by omega]; simpa using h
      generalize x / 2 ^ m = q at *
      generalize x % 2 ^ m = r at *
      have : 4294967295 - x = (2 ^ m - 1 - r) + 2 ^ m * (2 ^ (32 - m) - 1 - q) := by
        rw [Nat.mul_sub, Nat.mul_sub, Nat.mul_one, e]
        have g1 : 2 ^ m * q + 2 ^ m ≤ 2 ^ m * 2 ^ (32 - m) := by rw [← Nat.mul_succ]; exact Nat.mul_le_mul_left _ hq
        omega
      rw [this, Nat.add_mul_div_left _ _ hp, Nat.div_eq_of_lt (by omega), Nat.zero_add]
    rw [key, e8]
    have hq : x / 2 ^ m < 2 ^ (32 - m) := by
      rw [Nat.div_lt_iff_lt_mul hp, Nat.mul_comm, ← Nat.pow_add, show m + (32 - m) = 32 by omega]; simpa using h
    rw [e8] at hq
    have h9 : 2 ^ (32 - m) ≤ 4294967296 := by simpa using Nat.pow_le_pow_right (n := 2) (by decide) (show 32 - m ≤ 32 by omega)
    rw [e8] at h9
    generalize x / 2 ^ m = q at *
    generalize 2 ^ (31 - m) = P at *
    omega
/-- Bit by bit it is what the document's words say. -/
theorem shift_iter (k x n : Nat) (c : Bool) (hk : k < 4) (h : x < 4294967296) : iterS k (n % 256) x c = (shW k x n c, shC k x n c) := by
  have h32 : n % 256 % 32 = n % 32 := by omega
  unfold shW shC
  rw [← h32]
  simp only [show ¬ (4 < k) by omega, show ¬ (k = 4) by omega, if_false]
  generalize n % 256 = m at *
  by_cases hm : m = 0
  · subst hm; rw [if_pos rfl, if_pos rfl]; rfl
  rw [if_neg hm, if_neg hm]
  obtain ⟨j, rfl⟩ : ∃ j, m = j + 1 := ⟨m - 1, by omega⟩
  have hk' : k = 0 ∨ k = 1 ∨ k = 2 ∨ k = 3 := by omega
  rcases hk' with rfl | rfl | rfl | rfl
  · simp only [if_true]
    refine Prod.ext ?_ ?_
    · dsimp only
      rw [lsl_iter _ _ _ h]
      split
      · rfl
      · have e : 2 ^ (j + 1) = 4294967296 * 2 ^ (j + 1 - 32) := by rw [two_pow_split (show 32 ≤ j + 1 by omega)]
        rw [e, Nat.mul_left_comm, Nat.mul_mod_right]
    · dsimp only
      rw [lsl_carry _ _ _ h]
      by_cases hj : j + 1 ≤ 32
      · rw [if_pos hj]
        congr 1
        have e : 2147483648 = 2 ^ (31 - j) * 2 ^ j := by rw [← Nat.pow_add, show 31 - j + j = 31 by omega]
        rw [show 32 - (j + 1) = 31 - j by omega, e, Nat.mul_div_mul_right _ _ (Nat.two_pow_pos j)]
      · rw [if_neg hj]
        have e : 2 ^ j = 2147483648 * (2 * 2 ^ (j - 32)) := by
          rw [two_pow_split (show 32 ≤ j by omega), ← Nat.mul_assoc]
        apply decide_eq_false
        rw [e, ← Nat.mul_assoc, Nat.mul_comm x, Nat.mul_assoc, Nat.mul_div_cancel_left _ (by decide), Nat.mul_left_comm, Nat.mul_mod_right]
        decide
  · simp only [show ¬ ((1 : Nat) = 0) by decide, if_false, if_true]
    refine Prod.ext ?_ ?_
    · dsimp only
      rw [lsr_iter]
      split
      · rfl
      · exact Nat.div_eq_of_lt (Nat.lt_of_lt_of_le h (pow_ge (by omega)))
    · dsimp only
      rw [lsr_carry, show j + 1 - 1 = j by omega]
      split
      · rfl
      · apply decide_eq_false
        rw [Nat.div_eq_of_lt (Nat.lt_of_lt_of_le h (pow_ge (by omega)))]
        decide
  · simp only [show ¬ ((2 : Nat) = 0) by decide, show ¬ ((2 : Nat) = 1) by decide, if_false, if_true]
    refine Prod.ext ?_ ?_
    · dsimp only
      rw [asr_iter _ _ _ h]
      split
      · rfl
      · exact asr_big (by omega) h
    · dsimp only
      rw [asr_carry _ _ _ h, show j + 1 - 1 = j by omega]
      by_cases hj : j < 31
      · rw [if_pos (by omega), asr_bit hj h]
      · rw [asr_big (by omega) h]
        by_cases h31 : j + 1 < 32
        · omega
        · rw [if_neg h31]
          split
          · rw [decide_eq_false (by omega), decide_eq_false (by omega)]
          · rw [decide_eq_true (by omega), decide_eq_true (by omega)]
  · simp only [show ¬ ((3 : Nat) = 0) by decide, show ¬ ((3 : Nat) = 1) by decide, show ¬ ((3 : Nat) = 2) by decide, if_false]
    refine Prod.ext ?_ ?_
    · exact ror_iter _ _ _ h
    · exact ror_carry _ _ _ (by omega) h
/-- Turned and turned back. -/
theorem rorK_back (k x : Nat) (hk : k ≤ 32) (h : x < 4294967296) : rorK (32 - k) (rorK k x) = x := by
  have hs : 4294967296 = 2 ^ k * 2 ^ (32 - k) := by rw [← Nat.pow_add, show k + (32 - k) = 32 by omega]
  have hp : 0 < 2 ^ k := Nat.two_pow_pos k
  have hq : 0 < 2 ^ (32 - k) := Nat.two_pow_pos _
  have h1 : x / 2 ^ k < 2 ^ (32 - k) := by rw [Nat.div_lt_iff_lt_mul hp, Nat.mul_comm, ← hs]; exact h
  have h2 := Nat.div_add_mod x (2 ^ k)
  unfold rorK
  rw [show 32 - (32 - k) = k by omega, Nat.add_mul_div_right _ _ hq, Nat.div_eq_of_lt h1, Nat.zero_add, Nat.add_mul_mod_self_right, Nat.mod_eq_of_lt h1, Nat.mul_comm]
  omega
theorem rorK_iff (k x b : Nat) (hk : k ≤ 32) (h : x < 4294967296) (hb : b < 4294967296) : rorK k b = x ↔ rorK (32 - k) x = b := by
  constructor
  · rintro rfl
    exact rorK_back k b hk hb
  · rintro rfl
    have := rorK_back (32 - k) x (by omega) h
    rwa [show 32 - (32 - k) = k by omega] at this
/-- The word of twelve bits. -/
def expW (i : Nat) : Nat := rorK (2 * (i / 256 % 16)) (i % 256)
theorem expW_lt (i : Nat) : expW i < 4294967296 := rorK_lt _ _ (by omega) (by omega)
/-- x turned left by 2 r. -/
def rolR (r x : Nat) : Nat := rorK (32 - 2 * r) x
theorem expW_iff (r b x : Nat) (hr : r < 16) (hb : b < 256) (h : x < 4294967296) : expW (r * 256 + b) = x ↔ rolR r x = b := by
  unfold expW rolR
  rw [show (r * 256 + b) / 256 % 16 = r by omega, show (r * 256 + b) % 256 = b by omega]
  exact rorK_iff _ _ _ (by omega) h (by omega)
/-- The least r from r on (f of them tried) by which x is below 256. -/
def packF (x : Nat) : Nat → Nat → Option Nat
  | 0, _ => none
  | f + 1, r => if rolR r x < 256 then some (r * 256 + rolR r x) else packF x f (r + 1)
def packX (x : Nat) : Option Nat := packF x 16 0
theorem packF_none (x f r : Nat) (hf : f + r ≤ 16) (h : packF x f r = none) : ∀ s, r ≤ s → s < r + f → 256 ≤ rolR s x := by
  induction f generalizing r with
  | zero => intro s h1 h2; omega
  | succ f ih =>
    unfold packF at h
    split at h
    · exact absurd h (by simp)
    · intro s h1 h2
      by_cases hs : s = r
      · subst hs; omega
      · exact ih (r + 1) (by omega) h s (by omega) (by omega)
theorem packF_some (x f r p : Nat) (hf : f + r ≤ 16) (h : packF x f r = some p) : ∃ s, r ≤ s ∧ s < r + f ∧ rolR s x < 256 ∧ p = s * 256 + rolR s x ∧ ∀ t, r ≤ t → t < s → 256 ≤ rolR t x := by
  induction f generalizing r with
  | zero => exact absurd h (by simp [packF])
  | succ f ih =>
    unfold packF at h
    split at h
    next hlt =>
      injection h with h
      exact ⟨r, by omega, by omega, hlt, h.symm, fun t h1 h2 => by omega⟩
    next hge =>
      obtain ⟨s, h1, h2, h3, h4, h5⟩ := ih (r + 1) (by omega) h
      refine ⟨s, by omega, by omega, h3, h4, ?_⟩
      intro t ht1 ht2
      by_cases hs : t = r
      · subst hs; omega
      · exact h5 t (by omega) ht2
theorem packX_none (x : Nat) (hx : x < 4294967296) (h : packX x = none) (i : Nat) (hi : i < 4096) : expW i ≠ x := by
  intro e
  have hr := packF_none x 16 0 (by decide) h (i / 256) (by omega) (by omega)
  have hi2 : i = i / 256 * 256 + i % 256 := by omega
  rw [hi2, expW_iff _ _ _ (by omega) (by omega) hx] at e
  omega
theorem packX_some (x p : Nat) (hx : x < 4294967296) (h : packX x = some p) : p < 4096 ∧ expW p = x ∧ ∀ i, i < p → expW i ≠ x := by
  obtain ⟨s, h1, h2, h3, h4, h5⟩ := packF_some x 16 0 p (by decide) h
  refine ⟨by omega, ?_, ?_⟩
  · rw [h4, expW_iff _ _ _ (by omega) h3 hx]
  · intro i hi e
    have hi2 : i = i / 256 * 256 + i % 256 := by omega
    rw [hi2, expW_iff _ _ _ (by omega) (by omega) hx] at e
    by_cases hs : i / 256 = s
    · rw [hs] at e; omega
    · have := h5 (i / 256) (by omega) (by omega)
      omega
/-- A product by columns. -/
theorem col_succ (a b i : Nat) : a * (b % 2 ^ (i + 1)) = a * (b % 2 ^ i) + (if b / 2 ^ i % 2 = 1 then a * 2 ^ i else 0) := by
  rw [Nat.mod_pow_succ, Nat.mul_add]
  congr 1
  split
  · rename_i h; rw [h, Nat.mul_one]
  · rename_i h
    have : b / 2 ^ i % 2 = 0 := by omega
    rw [this, Nat.mul_zero, Nat.mul_zero]
theorem col_end (a b : Nat) (hb : b < 4294967296) : a * (b % 2 ^ 32) = a * b := by rw [Nat.mod_eq_of_lt (by simpa using hb)]
/-- A word as a number with sign. -/
def sgn (x : Int) : Int := if x < 2147483648 then x else x - 4294967296
/-- The flags of a sum. -/
theorem sum_v (x y c : Int) (hx : 0 ≤ x ∧ x < 4294967296) (hy : 0 ≤ y ∧ y < 4294967296) (hc : c = 0 ∨ c = 1) :
    (sgn x + sgn y + c ≠ sgn ((x + y + c) % 4294967296)) ↔ ((2147483648 ≤ x ↔ 2147483648 ≤ y) ∧ ¬ (2147483648 ≤ x ↔ 2147483648 ≤ (x + y + c) % 4294967296)) := by
  unfold sgn
  repeat' split
  all_goals omega
/-- The signed product, by 64 bits. -/
theorem smul_mod (a b : Int) (ha : 0 ≤ a ∧ a < 4294967296) (hb : 0 ≤ b ∧ b < 4294967296) :
    (sgn a * sgn b) % 18446744073709551616 = (a * b - (if 2147483648 ≤ a then b * 4294967296 else 0) - (if 2147483648 ≤ b then a * 4294967296 else 0)) % 18446744073709551616 := by
  unfold sgn
  by_cases h1 : 2147483648 ≤ a <;> by_cases h2 : 2147483648 ≤ b
  · rw [if_neg (by omega), if_neg (by omega), if_pos h1, if_pos h2]
    have : (a - 4294967296) * (b - 4294967296) = a * b - b * 4294967296 - a * 4294967296 + 18446744073709551616 := by
      rw [Int.sub_mul, Int.mul_sub, Int.mul_sub]; omega
    rw [this]; omega
  · rw [if_neg (by omega), if_pos (by omega), if_pos h1, if_neg h2]
    have : (a - 4294967296) * b = a * b - b * 4294967296 := by rw [Int.sub_mul]; omega
    rw [this]; omega
  · rw [if_pos (by omega), if_neg (by omega), if_neg h1, if_pos h2]
    have : a * (b - 4294967296) = a * b - a * 4294967296 := by rw [Int.mul_sub]
    rw [this]; omega
  · rw [if_pos (by omega), if_pos (by omega), if_neg h1, if_neg h2]; omega
end Go.Proofs.Ytdelcknpaldngab
