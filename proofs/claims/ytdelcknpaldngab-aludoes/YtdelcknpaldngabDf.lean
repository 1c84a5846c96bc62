import Derived.Test.YtdelcknpaldngabPl
namespace Go.Proofs.Ytdelcknpaldngab
open Go.RowKit
set_option linter.unusedVariables false
set_option linter.unusedSimpArgs false
/-- A bit of a word. -/
def bt (x : Int) (i : Nat) : Bool := x / 2 ^ i % 2 == 1
theorem and_top (x : Nat) (h : x < 4294967296) : x &&& 2147483648 = x / 2147483648 * 2147483648 := by
  apply Nat.eq_of_testBit_eq
  intro j
  have h2 : (2147483648 : Nat).testBit j = decide (31 = j) := by
    have := Nat.testBit_two_pow (n := 31) (m := j)
    simpa using this
  have h3 : (x / 2147483648 * 2147483648).testBit j = (decide (31 ≤ j) && x.testBit j) := by
    have := Nat.testBit_mul_two_pow (x / 2147483648) j 31
    rw [show (2 : Nat) ^ 31 = 2147483648 by decide] at this
    rw [this]
    by_cases hj : 31 ≤ j
    · have e := Nat.testBit_div_two_pow (n := 31) x (j - 31)
      rw [show (2 : Nat) ^ 31 = 2147483648 by decide] at e
      rw [e, show j - 31 + 31 = j by omega]
    · simp [hj]
  rw [Nat.testBit_and, h2, h3]
  by_cases hj : 31 = j
  · subst hj; simp
  · by_cases hk : 31 ≤ j
    · have : x.testBit j = false := Nat.testBit_lt_two_pow (Nat.lt_of_lt_of_le h (by simpa using Nat.pow_le_pow_right (n := 2) (by decide) (show 32 ≤ j by omega)))
      simp [this]
    · simp [hj, hk]
theorem or_high (i a b : Nat) (h : b < 2 ^ i) : b ||| 2 ^ i * a = b + 2 ^ i * a := by
  rw [Nat.or_comm, ← Nat.two_pow_add_eq_or_of_lt h, Nat.add_comm]
theorem or_low (i : Nat) (x y a : Int) (hx : x = 2 ^ i * a) (ha : 0 ≤ a) (h1 : x < 4294967296) (y0 : 0 ≤ y) (y1 : y < 2 ^ i) (hi : i ≤ 32) : bits .or .u32 x y = x + y := by
  obtain ⟨A, rfl⟩ := Int.eq_ofNat_of_zero_le ha
  obtain ⟨Y, rfl⟩ := Int.eq_ofNat_of_zero_le y0
  rw [← pow_nat] at hx y1
  have hp : 2 ^ i ≤ 4294967296 := by simpa using Nat.pow_le_pow_right (n := 2) (by decide) hi
  have hX : x = ((2 ^ i * A : Nat) : Int) := by rw [hx]; simp
  rw [hX] at h1 ⊢
  rw [u32_or_nat (2 ^ i * A) Y (by omega) (by omega), ← Nat.two_pow_add_eq_or_of_lt (by omega)]
  simp
theorem asr_one (x : Nat) (h : x < 4294967296) : bits .or .u32 ((x : Int) / 2) (bits .and .u32 (x : Int) 2147483648) = ((x / 2 + x / 2147483648 * 2147483648 : Nat) : Int) := by
  rw [show (2147483648 : Int) = ((2147483648 : Nat) : Int) by rfl, u32_and_nat x 2147483648 h (by decide), and_top x h, show ((x : Int) / 2) = ((x / 2 : Nat) : Int) by simp, u32_or_nat _ _ (by omega) (by omega)]
  have := or_high 31 (x / 2147483648) (x / 2) (by simp; omega)
  rw [show (2 : Nat) ^ 31 = 2147483648 by decide, Nat.mul_comm] at this
  rw [this]
theorem bt_nat (x i : Nat) : bt (x : Int) i = decide (x / 2 ^ i % 2 = 1) := by
  unfold bt
  rw [← pow_nat, show ((x : Int) / ((2 ^ i : Nat) : Int)) % 2 = ((x / 2 ^ i % 2 : Nat) : Int) by simp]
  by_cases h : x / 2 ^ i % 2 = 1
  · rw [h]; simp
  · rw [decide_eq_false h]
    have : ((x / 2 ^ i % 2 : Nat) : Int) ≠ 1 := by omega
    simpa using this
theorem i64_and255 (n : Int) : bits .and .i64 n 255 = n % 256 := by
  have h255 : (BitVec.ofInt 64 255).toNat = 2 ^ 8 - 1 := by decide
  have key : (BitVec.ofInt 64 n &&& BitVec.ofInt 64 255).toNat = (n % ((2 ^ 64 : Nat) : Int)).toNat % 2 ^ 8 := by
    rw [BitVec.toNat_and, BitVec.toNat_ofInt, h255, Nat.and_two_pow_sub_one_eq_mod]
  show IntKind.i64.wrap ((BitVec.ofInt 64 n &&& BitVec.ofInt 64 255).toNat : Nat) = n % 256
  rw [key, IntKind.wrap_i64]
  omega
/-- What a shift answers. -/
def shX (k : Int) (x : Nat) (n : Int) (c : Bool) : Nat × Bool :=
  if k < 0 ∨ 4 < k then (x, c) else (shW k.toNat x (n % 256).toNat c, shC k.toNat x (n % 256).toNat c)
/-- Does a condition hold? -/
def paF (c : Int) (n z cc v : Bool) : Bool :=
  if c = 0 then z else if c = 1 then !z else if c = 2 then cc else if c = 3 then !cc else if c = 4 then n else if c = 5 then !n else if c = 6 then v else if c = 7 then !v else
  if c = 8 then cc && !z else if c = 9 then !cc || z else if c = 10 then n == v else if c = 11 then !(n == v) else if c = 12 then !z && n == v else if c = 13 then z || !(n == v) else decide (c = 14)
/-- How a shift by a constant is meant. -/
def deF (k n : Int) : Int × Int := if k < 0 ∨ 3 < k ∨ n < 0 ∨ 31 < n then (0, 0) else if 0 < n ∨ k = 0 then (k, n) else if k = 3 then (4, 1) else (k, 32)
/-- A bit of a word, as a number. -/
def fb (x i : Nat) : Bool := decide (x / 2 ^ i % 2 = 1)
/-- A word as a number with sign. -/
def sgN (x : Nat) : Int := if x < 2147483648 then x else (x : Int) - 4294967296
theorem sgn_nat (x : Nat) : sgn (x : Int) = sgN x := by unfold sgn sgN; split <;> split <;> omega
theorem sgn_range (x : Int) (h0 : 0 ≤ x) (h : x < 4294967296) : -2147483648 ≤ sgn x ∧ sgn x < 2147483648 := by
  unfold sgn; split <;> omega
/-- A carry as a number; a sum's word and flags. -/
def cI (c : Bool) : Int := if c then 1 else 0
def suW (x y : Int) (c : Bool) : Int := (x + y + cI c) % 4294967296
def suF (x y : Int) (c : Bool) : Fl := ⟨decide (2147483648 ≤ suW x y c), suW x y c == 0, decide (4294967296 ≤ x + y + cI c), sgn x + sgn y + cI c != sgn (suW x y c)⟩
theorem suW_range (x y : Int) (c : Bool) : 0 ≤ suW x y c ∧ suW x y c < 4294967296 := by unfold suW; omega
/-- A word turned over. -/
def nt (b : Int) : Int := 4294967295 - b
theorem nt_range (b : Int) (b0 : 0 ≤ b) (b1 : b < 4294967296) : 0 ≤ nt b ∧ nt b < 4294967296 := by unfold nt; omega
theorem xor_all (b : Nat) (h : b < 4294967296) : 4294967295 ^^^ b = 4294967295 - b := by
  apply Nat.eq_of_testBit_eq
  intro i
  have e1 : (4294967295 : Nat).testBit i = decide (i < 32) := by
    have := Nat.testBit_two_pow_sub_one 32 i
    simpa using this
  have e2 : (4294967295 - b).testBit i = (decide (i < 32) && !b.testBit i) := by
    have := Nat.testBit_two_pow_sub_succ (x := b) (n := 32) (by simpa using h) i
    rw [show 2 ^ 32 - (b + 1) = 4294967295 - b by omega] at this
    exact this
  rw [Nat.testBit_xor, e1, e2]
  by_cases hi : i < 32
  · simp [hi]
  · have : b.testBit i = false := Nat.testBit_lt_two_pow (Nat.lt_of_lt_of_le h (by simpa using Nat.pow_le_pow_right (n := 2) (by decide) (show 32 ≤ i by omega)))
    simp [hi, this]
theorem xor_nt (b : Int) (b0 : 0 ≤ b) (b1 : b < 4294967296) : bits .xor .u32 IntKind.u32.max b = nt b := by
  rw [show IntKind.u32.max = 4294967295 by decide, u32_xor 4294967295 b (by decide) (by decide) b0 b1, show (4294967295 : Int).toNat = 4294967295 by decide, xor_all _ (by omega)]
  unfold nt
  omega
theorem u32_range (o : BinOp) (a b : Int) (h : bits o .u32 a b = IntKind.u32.wrap (bits o .u32 a b)) : 0 ≤ bits o .u32 a b ∧ bits o .u32 a b < 4294967296 := by
  rw [h, IntKind.wrap_u32']; omega
/-- The operations without a sum: the word. -/
def lgW (op a b : Int) : Int :=
  if op = 1 ∨ op = 9 then bits .and .u32 a b else if op = 2 ∨ op = 10 then bits .xor .u32 a b else if op = 13 then bits .or .u32 a b else if op = 14 then b else if op = 15 then bits .andNot .u32 a b else nt b
/-- What an operation answers: the word, the flags. -/
def doA (op a : Int) : Int := if op = 4 ∨ op = 8 then nt a else a
def doB (op b : Int) : Int := if op = 3 ∨ op = 11 ∨ op = 7 then nt b else b
def doC (op : Int) (c : Bool) : Bool := if op = 3 ∨ op = 11 ∨ op = 4 then true else if op = 5 ∨ op = 12 then false else c
def isS (op : Int) : Prop := (3 ≤ op ∧ op ≤ 8) ∨ op = 11 ∨ op = 12
def doW (op a b : Int) (f : Fl) : Int := if (3 ≤ op ∧ op ≤ 8) ∨ op = 11 ∨ op = 12 then suW (doA op a) (doB op b) (doC op f.c) else lgW op a b
def doF (op a b : Int) (sh : Bool) (f : Fl) : Fl := if (3 ≤ op ∧ op ≤ 8) ∨ op = 11 ∨ op = 12 then suF (doA op a) (doB op b) (doC op f.c) else ⟨decide (2147483648 ≤ lgW op a b), lgW op a b == 0, sh, f.v⟩
def doR (op : Int) : Bool := decide (op < 9 ∨ 12 < op)
theorem and_range (a b : Int) (a0 : 0 ≤ a) (a1 : a < 4294967296) (b0 : 0 ≤ b) (b1 : b < 4294967296) : 0 ≤ bits .and .u32 a b ∧ bits .and .u32 a b < 4294967296 := by
  rw [u32_and a b a0 a1 b0 b1]
  have : a.toNat &&& b.toNat < 2 ^ 32 := Nat.and_lt_two_pow _ (by simp; omega)
  omega
theorem or_range (a b : Int) (a0 : 0 ≤ a) (a1 : a < 4294967296) (b0 : 0 ≤ b) (b1 : b < 4294967296) : 0 ≤ bits .or .u32 a b ∧ bits .or .u32 a b < 4294967296 := by
  rw [u32_or a b a0 a1 b0 b1]
  have : a.toNat ||| b.toNat < 2 ^ 32 := Nat.or_lt_two_pow (by simp; omega) (by simp; omega)
  omega
theorem xor_range (a b : Int) (a0 : 0 ≤ a) (a1 : a < 4294967296) (b0 : 0 ≤ b) (b1 : b < 4294967296) : 0 ≤ bits .xor .u32 a b ∧ bits .xor .u32 a b < 4294967296 := by
  rw [u32_xor a b a0 a1 b0 b1]
  have : a.toNat ^^^ b.toNat < 2 ^ 32 := Nat.xor_lt_two_pow (by simp; omega) (by simp; omega)
  omega
theorem andNot_range (a b : Int) (a0 : 0 ≤ a) (a1 : a < 4294967296) (b0 : 0 ≤ b) (b1 : b < 4294967296) : 0 ≤ bits .andNot .u32 a b ∧ bits .andNot .u32 a b < 4294967296 := by
  rw [u32_andNot a b a0 a1 b0 b1]
  have : a.toNat &&& (4294967295 - b.toNat) < 2 ^ 32 := Nat.and_lt_two_pow _ (by simp; omega)
  omega
/-- What Do answers, for every number. -/
def dxW (op a b : Int) (f : Fl) : Int := if op < 1 ∨ 16 < op then 0 else doW op a b f
def dxR (op : Int) : Bool := if op < 1 ∨ 16 < op then false else doR op
def dxF (op a b : Int) (sh : Bool) (f : Fl) : Fl := if op < 1 ∨ 16 < op then f else doF op a b sh f
theorem col_bound (a b i : Nat) (ha : a < 4294967296) (hi : i ≤ 32) : a * (b % 2 ^ i) < 18446744073709551616 := by
  have h1 : b % 2 ^ i < 2 ^ i := Nat.mod_lt _ (Nat.two_pow_pos i)
  have h2 : 2 ^ i ≤ 4294967296 := by simpa using Nat.pow_le_pow_right (n := 2) (by decide) hi
  have h3 : a * (b % 2 ^ i) ≤ 4294967295 * 4294967295 := Nat.mul_le_mul (by omega) (by omega)
  omega
theorem col_wrap (a b j : Nat) (ha : a < 4294967296) (hj : j < 32) (hbit : b / 2 ^ j % 2 = 1) : IntKind.u64.wrap ((a : Int) * ((b : Int) % 2 ^ j) + IntKind.u64.wrap ((a : Int) * 2 ^ j)) = ((a * (b % 2 ^ (j + 1)) : Nat) : Int) := by
  have e1 : (a : Int) * ((b : Int) % 2 ^ j) = ((a * (b % 2 ^ j) : Nat) : Int) := by rw [← pow_nat]; simp
  have e2 : (a : Int) * 2 ^ j = ((a * 2 ^ j : Nat) : Int) := by rw [← pow_nat]; simp
  have h2 : 2 ^ j ≤ 4294967296 := by simpa using Nat.pow_le_pow_right (n := 2) (by decide) (show j ≤ 32 by omega)
  have h3 : a * 2 ^ j ≤ 4294967295 * 4294967296 := Nat.mul_le_mul (by omega) h2
  have h4 := col_bound a b (j + 1) ha (by omega)
  rw [col_succ, if_pos hbit] at h4 ⊢
  rw [e1, e2, IntKind.wrap_u64, IntKind.wrap_u64]
  generalize a * 2 ^ j = P at *
  generalize a * (b % 2 ^ j) = Q at *
  omega
/-- The product with sign, by 64 bits; what a product answers. -/
def spP (m s : Int) : Int := (m * s - (if 2147483648 ≤ m then s * 4294967296 else 0) - (if 2147483648 ≤ s then m * 4294967296 else 0)) % 18446744073709551616
def acP (h l : Int) : Int := h * 4294967296 + l
/-- What a product answers: the number of 64 bits; high; low. -/
def loQ (op m s h l : Int) : Int :=
  if op = 22 then (m * s + acP h l) % 18446744073709551616 else if op = 23 then spP m s else if op = 24 then (spP m s + acP h l) % 18446744073709551616 else m * s
def loH (op m s h l : Int) : Int := if 21 ≤ op ∧ op ≤ 24 then loQ op m s h l / 4294967296 else 0
def loL (op m s h l : Int) : Int := if op = 19 then m * s % 4294967296 else if op = 20 then (m * s + l) % 4294967296 else if 21 ≤ op ∧ op ≤ 24 then loQ op m s h l % 4294967296 else 0
def loO (op : Int) : Bool := decide (19 ≤ op ∧ op ≤ 24)
theorem iterS3_c (j x : Nat) (c : Bool) : oneW 3 (iterS 3 j x c).1 false = (iterS 3 (j + 1) x c).1 ∧ oneC 3 (iterS 3 j x c).1 = (iterS 3 (j + 1) x c).2 := ⟨rfl, rfl⟩
/-- The carry of twelve bits. -/
def expC (i : Nat) (c : Bool) : Bool := if i / 256 % 16 = 0 then c else decide (2147483648 ≤ expW i)
theorem exp_iter (i : Nat) (c : Bool) : iterS 3 (2 * (i / 256 % 16)) (i % 256) c = (expW i, expC i c) := by
  refine Prod.ext ?_ ?_
  · rw [ror_iter _ _ _ (by omega), Nat.mod_eq_of_lt (by omega)]; rfl
  · unfold expC
    by_cases h : i / 256 % 16 = 0
    · rw [if_pos h, h]; rfl
    · rw [if_neg h, ror_carry _ _ _ (by omega) (by omega), Nat.mod_eq_of_lt (by omega)]; rfl
/-- The twelve bits of a word, or none. -/
def pkW (x : Nat) : Nat := (packX x).getD 0
def pkO (x : Nat) : Bool := (packX x).isSome
theorem pk_first (x j : Nat) (hx : x < 4294967296) (hj : j < 4096) (hn : ∀ i, i < j → expW i ≠ x) (he : expW j = x) : pkW x = j ∧ pkO x = true := by
  cases h : packX x with
  | none => exact absurd he (packX_none x hx h j hj)
  | some p =>
    obtain ⟨h1, h2, h3⟩ := packX_some x p hx h
    have : p = j := by
      rcases Nat.lt_trichotomy p j with hl | hl | hl
      · exact absurd h2 (hn p hl)
      · exact hl
      · exact absurd he (h3 j hl)
    simp [pkW, pkO, h, this]
theorem pk_none (x : Nat) (hx : x < 4294967296) (hn : ∀ i, i < 4096 → expW i ≠ x) : pkW x = 0 ∧ pkO x = false := by
  cases h : packX x with
  | none => simp [pkW, pkO, h]
  | some p =>
    obtain ⟨h1, h2, h3⟩ := packX_some x p hx h
    exact absurd h2 (hn p h1)
def bI (b : Bool) (k : Int) : Int := if b then k else 0
/-- The flags as bits, the first few of them. -/
def wdP (f : Fl) (j : Nat) : Int := (if 0 < j then bI f.v 268435456 else 0) + (if 1 < j then bI f.c 536870912 else 0) + (if 2 < j then bI f.z 1073741824 else 0) + (if 3 < j then bI f.n 2147483648 else 0)
def wdW (f : Fl) : Int := bI f.v 268435456 + bI f.c 536870912 + bI f.z 1073741824 + bI f.n 2147483648
theorem or_bit (i : Nat) (x m : Int) (hm : m = 2 ^ i) (h0 : 0 ≤ x) (h1 : x < m) (hi : i < 32) : bits .or .u32 x m = x + m := by
  obtain ⟨X, rfl⟩ := Int.eq_ofNat_of_zero_le h0
  have hp : 2 ^ i ≤ 2147483648 := by simpa using Nat.pow_le_pow_right (n := 2) (by decide) (show i ≤ 31 by omega)
  rw [← pow_nat] at hm
  subst hm
  rw [u32_or_nat X (2 ^ i) (by omega) (by omega)]
  have := or_high i 1 X (by omega)
  rw [Nat.mul_one] at this
  rw [this]
  omega
theorem bI_range (b : Bool) (k : Int) (h : 0 ≤ k) : 0 ≤ bI b k ∧ bI b k ≤ k := by cases b <;> simp [bI] <;> omega
theorem i64_and3 (n : Int) : bits .and .i64 n 3 = n % 4 := by
  have h3 : (BitVec.ofInt 64 3).toNat = 2 ^ 2 - 1 := by decide
  have key : (BitVec.ofInt 64 n &&& BitVec.ofInt 64 3).toNat = (n % ((2 ^ 64 : Nat) : Int)).toNat % 2 ^ 2 := by
    rw [BitVec.toNat_and, BitVec.toNat_ofInt, h3, Nat.and_two_pow_sub_one_eq_mod]
  show IntKind.i64.wrap ((BitVec.ofInt 64 n &&& BitVec.ofInt 64 3).toNat : Nat) = n % 4
  rw [key, IntKind.wrap_i64]
  omega
/-- x turned right by bytes. -/
def trN (x : Nat) (turn : Int) : Nat := rorK (8 * (turn % 4).toNat) x
theorem shX_tr (x : Nat) (turn : Int) (c : Bool) : (shX 3 x (8 * (turn % 4)) c).1 = trN x turn := by
  unfold shX trN
  rw [if_neg (by omega)]
  unfold shW
  rw [if_neg (by decide), if_neg (by decide)]
  generalize hr : turn % 4 = r
  have h1 : (8 * r % 256).toNat = 8 * r.toNat := by omega
  rw [h1]
  by_cases h0 : r = 0
  · subst h0; simp [rorK_0]
  · rw [if_neg (by omega), if_neg (by decide), if_neg (by decide), if_neg (by decide), Nat.mod_eq_of_lt (by omega)]
theorem trN_lt (x : Nat) (turn : Int) (h : x < 4294967296) : trN x turn < 4294967296 := rorK_lt _ _ (by omega) h
/-- How many of the highest bits are 0. -/
def lzN (x : Nat) : Nat := if x = 0 then 32 else 31 - Nat.log2 x
theorem lz_le (x : Nat) : lzN x ≤ 32 := by unfold lzN; split <;> omega
theorem lz_bit (x j : Nat) (hx : x < 4294967296) (hj : j < lzN x) : x / 2 ^ (31 - j) % 2 = 0 := by
  unfold lzN at hj
  split at hj
  · rename_i h; subst h; simp
  · rename_i h
    rw [Nat.div_eq_of_lt]
    have : Nat.log2 x < 31 - j := by omega
    exact (Nat.log2_lt h).1 this
theorem lz_end (x : Nat) (hx : x < 4294967296) (h32 : lzN x < 32) : x / 2 ^ (31 - lzN x) % 2 = 1 := by
  unfold lzN at h32 ⊢
  split at h32
  · omega
  · rename_i h
    rw [if_neg h]
    have hl : Nat.log2 x < 32 := (Nat.log2_lt h).2 (by simpa using hx)
    rw [show 31 - (31 - Nat.log2 x) = Nat.log2 x by omega]
    have h1 : 2 ^ Nat.log2 x ≤ x := Nat.log2_self_le h
    have h2 : x < 2 ^ (Nat.log2 x + 1) := (Nat.log2_lt h).1 (by omega)
    have h3 : x / 2 ^ Nat.log2 x = 1 := by
      rw [Nat.pow_succ] at h2
      exact Nat.div_eq_of_lt_le (by omega) (by omega)
    rw [h3]
/-- What the small ones answer. -/
def smW (op : Int) (x : Nat) (turn : Int) : Int :=
  if op = 25 then (lzN x : Nat) else if op = 26 then (x : Int) % 256 * 16777216 + (x : Int) / 256 % 256 * 65536 + (x : Int) / 65536 % 256 * 256 + (x : Int) / 16777216 else
  if op = 27 then (trN x turn : Int) % 256 else if op = 28 then (trN x turn : Int) % 65536 else
  if op = 29 then (if (trN x turn : Int) % 256 < 128 then (trN x turn : Int) % 256 else (trN x turn : Int) % 256 + 4294967040) else
  if op = 30 then (if (trN x turn : Int) % 65536 < 32768 then (trN x turn : Int) % 65536 else (trN x turn : Int) % 65536 + 4294901760) else 0
def smO (op : Int) : Bool := decide (25 ≤ op ∧ op ≤ 30)
end Go.Proofs.Ytdelcknpaldngab
