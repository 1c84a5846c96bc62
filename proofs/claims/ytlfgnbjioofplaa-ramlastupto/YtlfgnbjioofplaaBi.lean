import Derived.Test.YtlfgnbjioofplaaPh
import Derived.Laws.BitsAllLaws
namespace Go.Proofs.Ytlfgnbjioofplaa
open Go.RowKit
set_option linter.unusedVariables false

/-- One byte of a number replaced, by bits. -/
theorem repl_nat (n s x v : Nat) (hs : s + 8 ≤ n) (hx : x < 2 ^ n) (hv : v < 256) :
    (x &&& (2 ^ n - (255 * 2 ^ s + 1))) ||| (v * 2 ^ s) = 2 ^ s * (2 ^ 8 * (x / 2 ^ (s + 8)) + v) + x % 2 ^ s := by
  have hM : 255 * 2 ^ s < 2 ^ n := by
    have h1 : 2 ^ (s + 8) ≤ 2 ^ n := Nat.pow_le_pow_right (by omega) hs
    have h2 : 2 ^ (s + 8) = 256 * 2 ^ s := by rw [Nat.pow_add]; omega
    have h3 : 0 < 2 ^ s := Nat.two_pow_pos s
    omega
  apply Nat.eq_of_testBit_eq
  intro j
  rw [Nat.testBit_or, Nat.testBit_and, Nat.testBit_two_pow_sub_succ hM, Nat.testBit_mul_two_pow, Nat.testBit_mul_two_pow, Nat.testBit_two_pow_mul_add _ (Nat.mod_lt _ (Nat.two_pow_pos s)), show 255 = 2 ^ 8 - 1 from rfl, Nat.testBit_two_pow_sub_one]
  have hxj : x.testBit j = (decide (j < n) && x.testBit j) := by
    by_cases hj : j < n
    · simp [hj]
    · have : x.testBit j = false := Nat.testBit_lt_two_pow (Nat.lt_of_lt_of_le hx (Nat.pow_le_pow_right (by omega) (by omega)))
      simp [hj, this]
  by_cases h1 : j < s
  · rw [if_pos h1, Nat.testBit_mod_two_pow]
    have h2 : ¬ s ≤ j := by omega
    have h3 : j < n := by omega
    simp [h1, h2, h3]
  · rw [if_neg h1, Nat.testBit_two_pow_mul_add _ (show v < 2 ^ 8 from hv)]
    have h2 : s ≤ j := by omega
    by_cases h3 : j - s < 8
    · rw [if_pos h3]
      simp [h2, h3]
    · rw [if_neg h3, Nat.testBit_div_two_pow]
      have h4 : v.testBit (j - s) = false := Nat.testBit_lt_two_pow (Nat.lt_of_lt_of_le hv (show 256 ≤ 2 ^ (j - s) from Nat.pow_le_pow_right (n := 2) (i := 8) (by omega) (by omega)))
      rw [show j - s - 8 + (s + 8) = j by omega, h4]
      simp [h2, h3]
      intro hb
      rw [hb] at hxj
      simp at hxj
      exact hxj
theorem repl_u16 (x v : Int) (s : Nat) (m255 mv : Int) (hs : s + 8 ≤ 16) (h1 : 0 ≤ x) (h2 : x < 65536) (h3 : 0 ≤ v) (h4 : v < 256) (hm : m255 = 255 * 2 ^ s) (hmv : mv = v * 2 ^ s) :
    bits .or .u16 (bits .andNot .u16 x m255) mv = 2 ^ s * (256 * (x / 2 ^ (s + 8)) + v) + x % 2 ^ s := by
  obtain ⟨x, rfl⟩ := Int.eq_ofNat_of_zero_le h1
  obtain ⟨v, rfl⟩ := Int.eq_ofNat_of_zero_le h3
  have e1 : m255 = ((255 * 2 ^ s : Nat) : Int) := by rw [hm, Int.natCast_mul, Int.natCast_pow]; rfl
  have e2 : mv = ((v * 2 ^ s : Nat) : Int) := by rw [hmv, Int.natCast_mul, Int.natCast_pow]; rfl
  have hp : 2 ^ s ≤ 2 ^ 8 := Nat.pow_le_pow_right (by omega) (by omega)
  have hvp : v * 2 ^ s ≤ 255 * 2 ^ s := Nat.mul_le_mul_right _ (by omega)
  have key := repl_nat 16 s x v hs (by omega) (by omega)
  rw [e1, e2, u16_andNot_nat x (255 * 2 ^ s) (by omega) (by omega), u16_or_nat _ _ (by
    have := Nat.and_le_left (n := x) (m := 65535 - 255 * 2 ^ s); omega) (by omega)]
  rw [show 65535 - 255 * 2 ^ s = 2 ^ 16 - (255 * 2 ^ s + 1) by omega, key]
  rw [Int.natCast_add, Int.natCast_mul, Int.natCast_add, Int.natCast_mul, Int.natCast_emod, Int.natCast_ediv, Int.natCast_pow, Int.natCast_pow, Int.natCast_pow]
  rfl
theorem repl_u32 (x v : Int) (s : Nat) (m255 mv : Int) (hs : s + 8 ≤ 32) (h1 : 0 ≤ x) (h2 : x < 4294967296) (h3 : 0 ≤ v) (h4 : v < 256) (hm : m255 = 255 * 2 ^ s) (hmv : mv = v * 2 ^ s) :
    bits .or .u32 (bits .andNot .u32 x m255) mv = 2 ^ s * (256 * (x / 2 ^ (s + 8)) + v) + x % 2 ^ s := by
  obtain ⟨x, rfl⟩ := Int.eq_ofNat_of_zero_le h1
  obtain ⟨v, rfl⟩ := Int.eq_ofNat_of_zero_le h3
  have e1 : m255 = ((255 * 2 ^ s : Nat) : Int) := by rw [hm, Int.natCast_mul, Int.natCast_pow]; rfl
  have e2 : mv = ((v * 2 ^ s : Nat) : Int) := by rw [hmv, Int.natCast_mul, Int.natCast_pow]; rfl
  have hp : 2 ^ s ≤ 2 ^ 24 := Nat.pow_le_pow_right (by omega) (by omega)
  have hvp : v * 2 ^ s ≤ 255 * 2 ^ s := Nat.mul_le_mul_right _ (by omega)
  have key := repl_nat 32 s x v hs (by omega) (by omega)
  rw [e1, e2, u32_andNot_nat x (255 * 2 ^ s) (by omega) (by omega), u32_or_nat _ _ (by
    have := Nat.and_le_left (n := x) (m := 4294967295 - 255 * 2 ^ s); omega) (by omega)]
  rw [show 4294967295 - 255 * 2 ^ s = 2 ^ 32 - (255 * 2 ^ s + 1) by omega, key]
  rw [Int.natCast_add, Int.natCast_mul, Int.natCast_add, Int.natCast_mul, Int.natCast_emod, Int.natCast_ediv, Int.natCast_pow, Int.natCast_pow, Int.natCast_pow]
  rfl
theorem and_mask (n M : Int) (k : Nat) (hk : k < 60) (hM : (BitVec.ofInt 64 M).toNat = 2 ^ k - 1) : bits BinOp.and IntKind.i64 n M = n % 2 ^ k := by
  have key : (BitVec.ofInt 64 n &&& BitVec.ofInt 64 M).toNat = (n % ((2 ^ 64 : Nat) : Int)).toNat % 2 ^ k := by
    rw [BitVec.toNat_and, BitVec.toNat_ofInt, hM, Nat.and_two_pow_sub_one_eq_mod]
  show IntKind.i64.wrap ((BitVec.ofInt 64 n &&& BitVec.ofInt 64 M).toNat : Nat) = n % 2 ^ k
  rw [key, IntKind.wrap_i64]
  have hp : (2 : Int) ^ k ≤ 2 ^ 60 := by
    have := Nat.pow_le_pow_right (n := 2) (by omega) (Nat.le_of_lt hk)
    have e1 : ((2 ^ k : Nat) : Int) = 2 ^ k := Int.natCast_pow 2 k
    omega
  have hp0 : (0 : Int) < 2 ^ k := by
    have := Nat.two_pow_pos k
    have e1 : ((2 ^ k : Nat) : Int) = 2 ^ k := Int.natCast_pow 2 k
    omega
  have hd : ((2 : Int) ^ k) ∣ ((2 ^ 64 : Nat) : Int) := ⟨2 ^ (64 - k), by
    rw [← Int.pow_add, show k + (64 - k) = 64 by omega]; rfl⟩
  have e2 : (((n % ((2 ^ 64 : Nat) : Int)).toNat % 2 ^ k : Nat) : Int) = n % 2 ^ k := by
    rw [Int.natCast_emod, Int.toNat_of_nonneg (Int.emod_nonneg _ (by decide)), Int.natCast_pow]
    exact Int.emod_emod_of_dvd n hd
  rw [e2]
  have h0 := Int.emod_nonneg n (show (2 : Int) ^ k ≠ 0 by omega)
  have h1 := Int.emod_lt_of_pos n hp0
  have : (2 : Int) ^ 60 = 1152921504606846976 := by decide
  omega
theorem and16383 (n : Int) : bits BinOp.and IntKind.i64 n 16383 = n % 16384 := and_mask n 16383 14 (by decide) (by decide)
theorem and1 (n : Int) : bits BinOp.and IntKind.i64 n 1 = n % 2 := and_mask n 1 1 (by decide) (by decide)
theorem andm3 (n : Int) : bits BinOp.and IntKind.i64 n 3 = n % 4 := and_mask n 3 2 (by decide) (by decide)
end Go.Proofs.Ytlfgnbjioofplaa
