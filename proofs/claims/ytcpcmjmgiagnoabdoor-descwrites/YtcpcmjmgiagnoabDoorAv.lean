import Derived.Test.YtcpcmjmgiagnoabDoorAw
namespace Go.Proofs.YtcpcmjmgiagnoabDoor
open Go.RowKit
set_option linter.unusedVariables false
set_option linter.unusedSimpArgs false
/-- The number that k bits from i on make. -/
def val (f : Nat → Int) (i : Nat) : Nat → Int
  | 0 => 0
  | k + 1 => f i + 2 * val f (i + 1) k
theorem val_congr {f g : Nat → Int} (k : Nat) : ∀ i, (∀ j, i ≤ j → j < i + k → f j = g j) → val f i k = val g i k := by
  induction k with
  | zero => intro i _; rfl
  | succ k ih =>
    intro i h
    rw [val, val, h i (Nat.le_refl _) (by omega), ih (i + 1) (fun j h1 h2 => h j (by omega) (by omega))]
theorem val_add (f : Nat → Int) (a : Nat) : ∀ i b, val f i (a + b) = val f i a + 2 ^ a * val f (i + a) b := by
  induction a with
  | zero => intro i b; rw [Nat.zero_add, val, Int.pow_zero, Int.one_mul, Int.zero_add, Nat.add_zero]
  | succ a ih =>
    intro i b
    rw [show a + 1 + b = (a + b) + 1 by omega, val, val, ih (i + 1) b, show i + 1 + a = i + (a + 1) by omega, Int.pow_succ]
    rw [Int.mul_add, Int.mul_comm (2 ^ a) 2, Int.mul_assoc, Int.add_assoc]
theorem val_zero (f : Nat → Int) (k : Nat) : ∀ i, (∀ j, i ≤ j → j < i + k → f j = 0) → val f i k = 0 := by
  induction k with
  | zero => intro i _; rfl
  | succ k ih =>
    intro i h
    rw [val, h i (Nat.le_refl _) (by omega), ih (i + 1) (fun j h1 h2 => h j (by omega) (by omega))]
    rfl
theorem val_bt (n : Int) (k : Nat) : ∀ c, val (bt n) c k = n / 2 ^ c % 2 ^ k := by
  induction k with
  | zero => intro c; rw [val]; simp
  | succ k ih =>
    intro c
    rw [val, ih (c + 1), Int.add_comm]
    exact num_step n c k
theorem val_shift (f g : Nat → Int) (k : Nat) : ∀ i c, (∀ j, j < k → f (i + j) = g (c + j)) → val f i k = val g c k := by
  induction k with
  | zero => intro i c _; rfl
  | succ k ih =>
    intro i c h
    rw [val, val, ih (i + 1) (c + 1) (fun j hj => by rw [show i + 1 + j = i + (j + 1) by omega, show c + 1 + j = c + (j + 1) by omega]; exact h (j + 1) (by omega))]
    have := h 0 (by omega)
    rw [Nat.add_zero, Nat.add_zero] at this
    rw [this]
/-- A field of bits. -/
theorem val_field (f : Nat → Int) (n : Int) (i k : Nat) (h : ∀ j, j < k → f (i + j) = bt n j) : val f i k = n % 2 ^ k := by
  rw [val_shift f (bt n) k i 0 (fun j hj => by rw [Nat.zero_add]; exact h j hj), val_bt, Int.pow_zero, Int.ediv_one]
theorem val_rng (f : Nat → Int) (k : Nat) : ∀ i, (∀ j, i ≤ j → j < i + k → 0 ≤ f j ∧ f j ≤ 1) → 0 ≤ val f i k ∧ val f i k < 2 ^ k := by
  induction k with
  | zero => intro i _; rw [val]; simp
  | succ k ih =>
    intro i h
    have h1 := h i (Nat.le_refl _) (by omega)
    have h2 := ih (i + 1) (fun j g1 g2 => h j (by omega) (by omega))
    rw [val, Int.pow_succ]
    omega
/-- What lay makes of the bits. -/
def laid (f : Nat → Int) (lo hi : Nat) (n : Int) : Nat → Int := fun j => if lo ≤ j ∧ j ≤ hi then bt n (j - lo) else f j
theorem laid_in (f : Nat → Int) (lo hi : Nat) (n : Int) (j : Nat) (h1 : lo ≤ j) (h2 : j ≤ hi) : laid f lo hi n j = bt n (j - lo) := if_pos ⟨h1, h2⟩
theorem laid_out (f : Nat → Int) (lo hi : Nat) (n : Int) (j : Nat) (h : j < lo ∨ hi < j) : laid f lo hi n j = f j := if_neg (by omega)
theorem laid_rng (f : Nat → Int) (lo hi : Nat) (n : Int) (h : ∀ j, 0 ≤ f j ∧ f j ≤ 1) : ∀ j, 0 ≤ laid f lo hi n j ∧ laid f lo hi n j ≤ 1 := by
  intro j
  unfold laid
  by_cases g : lo ≤ j ∧ j ≤ hi
  · rw [if_pos g]; exact bt_rng n _
  · rw [if_neg g]; exact h j
end Go.Proofs.YtcpcmjmgiagnoabDoor
