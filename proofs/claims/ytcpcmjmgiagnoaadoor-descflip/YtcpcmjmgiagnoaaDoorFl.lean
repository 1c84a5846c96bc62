import Derived.Test.YtcpcmjmgiagnoaaDoorFp
namespace Go.Proofs.YtcpcmjmgiagnoaaDoor
open Go.RowKit
set_option linter.unusedVariables false
set_option linter.unusedSimpArgs false
theorem D1_iff (x y : Int) (hx : 0 ≤ x ∧ x < 4294967296) (hy : 0 ≤ y ∧ y < 4294967296) : D1 x = D1 y ↔ m1v x = m1v y := by
  rw [← ED1 x hx, ← ED1 y hy]
  constructor
  · intro h
    rw [h]
  · intro h
    rw [← DED1 x hx, ← DED1 y hy, h]
theorem D2_iff (x y : Int) (hx : 0 ≤ x ∧ x < 4294967296) (hy : 0 ≤ y ∧ y < 4294967296) : D2 x = D2 y ↔ m2v x = m2v y := by
  rw [← ED2 x hx, ← ED2 y hy]
  constructor
  · intro h
    rw [h]
  · intro h
    rw [← DED2 x hx, ← DED2 y hy, h]
/-- A word with one bit turned. -/
def fl (x : Int) (k : Nat) : Int := if x / 2 ^ k % 2 = 1 then x - 2 ^ k else x + 2 ^ k
theorem xor_add (x p : Nat) (hx : x < 2 ^ 63) (hp : p < 2 ^ 63) (h : x &&& p = 0) : x ^^^ p = x + p := by
  rw [← nat_or_add hx hp h]
  apply Nat.eq_of_testBit_eq
  intro j
  have t := congrArg (fun z => z.testBit j) h
  simp only [Nat.testBit_and, Nat.zero_testBit] at t
  rw [Nat.testBit_xor, Nat.testBit_or]
  revert t
  cases x.testBit j <;> cases p.testBit j <;> simp
theorem and_pow (x k : Nat) : x &&& 2 ^ k = if x / 2 ^ k % 2 = 1 then 2 ^ k else 0 := by
  apply Nat.eq_of_testBit_eq
  intro j
  rw [Nat.testBit_and, Nat.testBit_two_pow]
  have hb : x.testBit k = decide (x / 2 ^ k % 2 = 1) := by rw [Nat.testBit_eq_decide_div_mod_eq]
  by_cases h : k = j
  · subst h
    rw [hb]
    split <;> simp_all
  · split
    · rw [Nat.testBit_two_pow]
      simp [h]
    · simp [h]
theorem fl_nat (x k : Nat) (hx : x < 4294967296) (hk : k < 32) : (x ^^^ 2 ^ k : Nat) < 4294967296 ∧ ((x ^^^ 2 ^ k : Nat) : Int) = fl x k := by
  have hp : 2 ^ k ≤ 2 ^ 31 := Nat.pow_le_pow_right (by omega) (by omega)
  have hlt : x ^^^ 2 ^ k < 2 ^ 32 := Nat.xor_lt_two_pow (by omega) (by omega)
  refine ⟨by omega, ?_⟩
  have hc : ((x : Int) / 2 ^ k % 2 = 1) ↔ (x / 2 ^ k % 2 = 1) := by
    rw [← pow_nat, ← Int.natCast_ediv]
    omega
  unfold fl
  by_cases h : x / 2 ^ k % 2 = 1
  · rw [if_pos (hc.2 h)]
    have ha := and_pow x k
    rw [if_pos h] at ha
    have hz : (x ^^^ 2 ^ k) &&& 2 ^ k = 0 := by
      apply Nat.eq_of_testBit_eq
      intro j
      have t := congrArg (fun z => z.testBit j) ha
      simp only [Nat.testBit_and] at t
      simp only [Nat.testBit_and, Nat.testBit_xor, Nat.zero_testBit]
      revert t
      cases x.testBit j <;> cases (2 ^ k).testBit j <;> simp
    have hs := xor_add (x ^^^ 2 ^ k) (2 ^ k) (by omega) (by omega) hz
    rw [Nat.xor_assoc, Nat.xor_self, Nat.xor_zero] at hs
    rw [← pow_nat]
    omega
  · rw [if_neg (fun e => h (hc.1 e))]
    have ha := and_pow x k
    rw [if_neg h] at ha
    have hs := xor_add x (2 ^ k) (by omega) (by omega) ha
    rw [← pow_nat]
    omega
theorem fl_xor (x : Int) (k : Nat) (hx : 0 ≤ x ∧ x < 4294967296) (hk : k < 32) : bits .xor .u32 x (2 ^ k) = fl x k ∧ (0 ≤ fl x k ∧ fl x k < 4294967296) ∧ bits .xor .u32 x (fl x k) = 2 ^ k := by
  obtain ⟨x, rfl⟩ := Int.eq_ofNat_of_zero_le hx.1
  have hp : 2 ^ k ≤ 2 ^ 31 := Nat.pow_le_pow_right (by omega) (by omega)
  obtain ⟨h1, h2⟩ := fl_nat x k (by omega) hk
  refine ⟨?_, by omega, ?_⟩
  · rw [← pow_nat, u32_xor_nat x (2 ^ k) (by omega) (by omega), h2]
  · rw [← h2, u32_xor_nat x _ (by omega) h1, ← Nat.xor_assoc, Nat.xor_self, Nat.zero_xor, pow_nat]
theorem and_bit (M k : Nat) (hM : M < 4294967296) (hk : k < 32) : (bits .and .u32 (M : Int) (2 ^ k) == 0) = decide (M / 2 ^ k % 2 = 0) := by
  have hp : 2 ^ k ≤ 2 ^ 31 := Nat.pow_le_pow_right (by omega) (by omega)
  have h0 := Nat.two_pow_pos k
  rw [← pow_nat, u32_and_nat M (2 ^ k) hM (by omega), and_pow]
  by_cases h : M / 2 ^ k % 2 = 1
  · rw [if_pos h]
    have : ¬ (M / 2 ^ k % 2 = 0) := by omega
    rw [decide_eq_false this]
    simp only [beq_eq_false_iff_ne]
    omega
  · rw [if_neg h]
    have : M / 2 ^ k % 2 = 0 := by omega
    rw [decide_eq_true this]
    rfl
theorem split32 {k : Nat} (hk : k < 32) : k = 0 ∨ k = 1 ∨ k = 2 ∨ k = 3 ∨ k = 4 ∨ k = 5 ∨ k = 6 ∨ k = 7 ∨ k = 8 ∨ k = 9 ∨ k = 10 ∨ k = 11 ∨ k = 12 ∨ k = 13 ∨ k = 14 ∨ k = 15 ∨ k = 16 ∨ k = 17 ∨ k = 18 ∨ k = 19 ∨ k = 20 ∨ k = 21 ∨ k = 22 ∨ k = 23 ∨ k = 24 ∨ k = 25 ∨ k = 26 ∨ k = 27 ∨ k = 28 ∨ k = 29 ∨ k = 30 ∨ k = 31 := by omega
theorem m1T (x : Int) (h : x % 4 = 1) : m1v x = x / 1024 * 1024 + x / 32 % 16 * 32 + x / 8 % 2 * 8 + 1 := by unfold m1v; rw [if_pos h]
theorem m1S (x : Int) (h : x % 4 = 2) : m1v x = x / 1024 * 1024 + x % 512 := by unfold m1v; rw [if_neg (by omega), if_pos h]
theorem m1Z (x : Int) (h : x % 4 = 0 ∨ x % 4 = 3) : m1v x = 0 := by unfold m1v; rw [if_neg (by omega), if_neg (by omega)]
theorem m1_mod (x : Int) : m1v x % 4 = x % 4 ∨ m1v x = 0 := by
  rcases (show x % 4 = 1 ∨ x % 4 = 2 ∨ (x % 4 = 0 ∨ x % 4 = 3) by omega) with h | h | h
  · rw [m1T x h]; omega
  · rw [m1S x h]; omega
  · exact .inr (m1Z x h)
theorem m1_ne (x y : Int) (h : x % 4 = 1 ∨ x % 4 = 2) (hy : y % 4 ≠ x % 4) : m1v x ≠ m1v y := by
  intro e
  have a : m1v x % 4 = x % 4 := by
    rcases h with h | h
    · rw [m1T x h]; omega
    · rw [m1S x h]; omega
  have b := m1_mod y
  omega
theorem m2L (x : Int) (h : x % 4 = 1) : m2v x = x / 512 * 512 + x % 64 := by unfold m2v; rw [if_neg (by omega), if_pos h]
theorem m2M (x : Int) (h : x % 4 = 2 ∨ x % 4 = 3) : m2v x = x := by unfold m2v; rw [if_neg (by omega), if_neg (by omega)]
theorem m2_mod (x : Int) : m2v x % 4 = x % 4 := by
  rcases (show x % 4 = 0 ∨ x % 4 = 1 ∨ (x % 4 = 2 ∨ x % 4 = 3) by omega) with h | h | h
  · unfold m2v; rw [if_pos h]; omega
  · rw [m2L x h]; omega
  · rw [m2M x h]
theorem m2_ne (x y : Int) (hy : y % 4 ≠ x % 4) : m2v x ≠ m2v y := by
  intro e
  have a := m2_mod x
  have b := m2_mod y
  omega
end Go.Proofs.YtcpcmjmgiagnoaaDoor
