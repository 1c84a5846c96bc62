import Derived.Test.YtkmgmmmpiallhaaDoorQb
namespace Go.Proofs.YtkmgmmmpiallhaaDoor
set_option linter.unusedVariables false
/-- A sum over the bits of a word: what each counts, from the highest on. -/
def linL : List Nat → Nat → Nat
  | [], _ => 0
  | a :: t, w => bN w t.length * a + linL t w
/-- What a pattern's bits count for a letter. -/
def coL (c : UInt8) : List UInt8 → List Nat
  | [] => []
  | x :: l => if x = 32 then coL c l else (if x = c then 2 ^ cnt c l else 0) :: coL c l
theorem coL_len (c : UInt8) (l : List UInt8) : (coL c l).length = nb l := by
  induction l with
  | nil => rfl
  | cons x l ih =>
    simp only [coL, nb]
    split
    · exact ih
    · rw [List.length_cons, ih]
theorem fv_lin (c : UInt8) (hc : c ≠ 32) (w : Nat) (l : List UInt8) : fvP c w l = linL (coL c l) w := by
  induction l with
  | nil => rfl
  | cons x l ih =>
    simp only [fvP, coL]
    by_cases h32 : x = 32
    · rw [if_pos h32, if_neg (by rintro rfl; exact hc h32), ih]
    · rw [if_neg h32, linL, coL_len]
      by_cases hx : x = c
      · rw [if_pos hx, if_pos hx, ih]
      · rw [if_neg hx, if_neg hx, ih, Nat.mul_zero, Nat.zero_add]
/-- What a word's bits count for a part. -/
def crL (a wd f : Nat) : Nat → List Nat
  | 0 => []
  | n + 1 => (if a ≤ n ∧ n < a + wd then 2 ^ (n - a + f) else 0) :: crL a wd f n
theorem crL_len (a wd f n : Nat) : (crL a wd f n).length = n := by
  induction n with
  | zero => rfl
  | succ n ih => rw [crL, List.length_cons, ih]
theorem cr_lin (a wd f w n : Nat) : linL (crL a wd f n) w = w / 2 ^ a % 2 ^ (min (n - a) wd) * 2 ^ f := by
  induction n with
  | zero => simp [crL, linL, Nat.mod_one]
  | succ n ih =>
    rw [crL, linL, crL_len, ih]
    by_cases h : a ≤ n ∧ n < a + wd
    · rw [if_pos h]
      have e1 : min (n + 1 - a) wd = min (n - a) wd + 1 := by omega
      have e2 : min (n - a) wd = n - a := by omega
      rw [e1, e2, Nat.pow_succ, Nat.mod_mul, Nat.div_div_eq_div_mul, ← Nat.pow_add, show a + (n - a) = n by omega, Nat.pow_add, bN, Nat.add_mul]
      generalize w / 2 ^ n % 2 = q
      rw [Nat.add_comm, ← Nat.mul_assoc, Nat.mul_comm q (2 ^ (n - a))]
    · rw [if_neg h, Nat.mul_zero, Nat.zero_add]
      rw [show min (n + 1 - a) wd = min (n - a) wd by omega]
def addL : List Nat → List Nat → List Nat
  | a :: s, b :: t => (a + b) :: addL s t
  | s, [] => s
  | [], t => t
theorem addL_lin (w : Nat) : ∀ (s t : List Nat), s.length = t.length → linL (addL s t) w = linL s w + linL t w
  | [], [], _ => rfl
  | a :: s, b :: t, h => by
    have hl : s.length = t.length := by simpa using h
    have hal : (addL s t).length = t.length := by
      clear h
      induction s generalizing t with
      | nil => cases t with
        | nil => rfl
        | cons _ _ => cases hl
      | cons x s ih => cases t with
        | nil => cases hl
        | cons y t => simp only [addL, List.length_cons]; rw [ih t (by simpa using hl)]
    rw [addL, linL, linL, linL, hal, hl, addL_lin w s t hl, Nat.mul_add]
    omega
theorem lin_zero (n w : Nat) : linL (List.replicate n 0) w = 0 := by
  induction n with
  | zero => rfl
  | succ n ih => rw [List.replicate_succ, linL, ih, Nat.mul_zero]
/-- A letter that stands in a row of places. -/
theorem fv_run (c : UInt8) (l : List UInt8) (a wd f w : Nat) (h : ((decide (c ≠ 32) && decide (a + wd ≤ 32)) && (coL c l == crL a wd f 32)) = true) : fvP c w l = w / 2 ^ a % 2 ^ wd * 2 ^ f := by
  simp only [Bool.and_eq_true, beq_iff_eq, decide_eq_true_eq] at h
  rw [fv_lin c h.1.1, h.2, cr_lin, show min (32 - a) wd = wd by omega]
theorem fv_two (c : UInt8) (l : List UInt8) (a wd f a' wd' f' w : Nat) (h : ((decide (c ≠ 32) && (decide (a + wd ≤ 32) && decide (a' + wd' ≤ 32))) && (coL c l == addL (crL a wd f 32) (crL a' wd' f' 32))) = true) : fvP c w l = w / 2 ^ a % 2 ^ wd * 2 ^ f + w / 2 ^ a' % 2 ^ wd' * 2 ^ f' := by
  simp only [Bool.and_eq_true, beq_iff_eq, decide_eq_true_eq] at h
  rw [fv_lin c h.1.1, h.2, addL_lin _ _ _ (by rw [crL_len, crL_len]), cr_lin, cr_lin, show min (32 - a) wd = wd by omega, show min (32 - a') wd' = wd' by omega]
theorem fv_none (c : UInt8) (l : List UInt8) (w : Nat) (h : cnt c l = 0) : fvP c w l = 0 := by
  have := fvP_lt c w l
  rw [h] at this
  omega
theorem or_add (a b n : Nat) (h : a < 2 ^ n) : a ||| b * 2 ^ n = a + b * 2 ^ n := by
  rw [Nat.or_comm, Nat.mul_comm, ← Nat.two_pow_add_eq_or_of_lt h, Nat.add_comm]
end Go.Proofs.YtkmgmmmpiallhaaDoor
