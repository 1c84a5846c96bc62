import Derived.Test.YtdelcknpaldngabGs
import Derived.Lib.Walk
import Derived.Lib.BitFns
namespace Go.Proofs.Ytdelcknpaldngab
open Go.RowKit
set_option linter.unusedVariables false
set_option linter.unusedSimpArgs false
theorem bl_log (x : Nat) (h : x < 4294967296) : Lib.bitLen x = if x = 0 then 0 else Nat.log2 x + 1 := by
  induction x using Nat.strongRecOn with
  | ind x ih =>
    by_cases h0 : x = 0
    · subst h0; rfl
    · rw [if_neg h0, Lib.bitLen_half x h0 (by omega), ih (x / 2) (by omega) (by omega)]
      by_cases h1 : x / 2 = 0
      · obtain rfl : x = 1 := by omega
        rfl
      · rw [if_neg h1, Nat.log2_def x, if_pos (by omega)]
        omega
theorem lz_bl (x : Nat) (h : x < 4294967296) : (32 : Int) - (Lib.bitLen x : Int) = (lzN x : Nat) := by
  rw [bl_log x h]
  unfold lzN
  by_cases h0 : x = 0
  · rw [if_pos h0, if_pos h0]; rfl
  · rw [if_neg h0, if_neg h0]
    have := (Nat.log2_lt h0).2 (show x < 2 ^ 32 by simpa using h)
    omega
set_option maxRecDepth 100000 in
set_option maxHeartbeats 4000000 in
theorem glen_1 (x q B : Int) (w : World) (h0 : 0 ≤ x) (h1 : x ≤ 255) (hq : x = q) (q0 : 0 ≤ q) (q1 : q ≤ 255) (hB : Lib.len8 q = B) (b0 : 0 ≤ B) (b1 : B ≤ 8) :
    Calls Try.prog 55 #[.int .u32 x] w fun e w' => e = .returned (.int .i64 (B)) ∧ w' = w := by
  have d0 : decide (65536 ≤ x) = false := decide_eq_false (by omega)
  have d1 : decide (256 ≤ x) = false := decide_eq_false (by omega)
  subst hq
  go_enter Try.func55, Try.ntmps55
  go_wp2
  go_ret
  exact ⟨rfl, rfl⟩
set_option maxRecDepth 100000 in
set_option maxHeartbeats 4000000 in
theorem glen_2 (x q B : Int) (w : World) (h0 : 256 ≤ x) (h1 : x ≤ 65535) (hq : x / 256 = q) (q0 : 0 ≤ q) (q1 : q ≤ 255) (hB : Lib.len8 q = B) (b0 : 0 ≤ B) (b1 : B ≤ 8) :
    Calls Try.prog 55 #[.int .u32 x] w fun e w' => e = .returned (.int .i64 (8 + B)) ∧ w' = w := by
  have d0 : decide (65536 ≤ x) = false := decide_eq_false (by omega)
  have d1 : decide (256 ≤ x) = true := decide_eq_true (by omega)
  go_enter Try.func55, Try.ntmps55
  go_wp2
  go_ret
  exact ⟨rfl, rfl⟩
set_option maxRecDepth 100000 in
set_option maxHeartbeats 4000000 in
theorem glen_3 (x q B : Int) (w : World) (h0 : 65536 ≤ x) (h1 : x ≤ 16777215) (hq : x / 65536 = q) (q0 : 0 ≤ q) (q1 : q ≤ 255) (hB : Lib.len8 q = B) (b0 : 0 ≤ B) (b1 : B ≤ 8) :
    Calls Try.prog 55 #[.int .u32 x] w fun e w' => e = .returned (.int .i64 (16 + B)) ∧ w' = w := by
  have d0 : decide (65536 ≤ x) = true := decide_eq_true (by omega)
  have d1 : decide (256 ≤ x / 65536) = false := decide_eq_false (by omega)
  have d2 : decide (256 ≤ q) = false := decide_eq_false (by omega)
  go_enter Try.func55, Try.ntmps55
  go_wp2
  go_ret
  exact ⟨rfl, rfl⟩
set_option maxRecDepth 100000 in
set_option maxHeartbeats 4000000 in
theorem glen_4 (x q B : Int) (w : World) (h0 : 16777216 ≤ x) (h1 : x ≤ 4294967295) (hq : x / 65536 / 256 = q) (q0 : 0 ≤ q) (q1 : q ≤ 255) (hB : Lib.len8 q = B) (b0 : 0 ≤ B) (b1 : B ≤ 8) :
    Calls Try.prog 55 #[.int .u32 x] w fun e w' => e = .returned (.int .i64 (24 + B)) ∧ w' = w := by
  have d0 : decide (65536 ≤ x) = true := decide_eq_true (by omega)
  have d1 : decide (256 ≤ x / 65536) = true := decide_eq_true (by omega)
  go_enter Try.func55, Try.ntmps55
  go_wp2
  go_ret
  exact ⟨rfl, rfl⟩
theorem glen_any (x : Nat) (w : World) (hx : x < 4294967296) :
    Calls Try.prog 55 #[.int .u32 x] w fun e w' => e = .returned (.int .i64 (Lib.bitLen x : Nat)) ∧ w' = w := by
  have key : ∀ q : Nat, q ≤ 255 → Lib.len8 (q : Int) = (Lib.bitLen q : Nat) ∧ Lib.bitLen q ≤ 8 := fun q hq => by
    have h1 := Lib.len8_of q (by omega) (by omega)
    have h2 := Lib.bitLen_le8' q (by omega) (by omega)
    rw [show ((q : Int)).toNat = q by omega] at h1 h2
    exact ⟨h1, h2⟩
  by_cases h1 : x < 256
  · obtain ⟨k1, k2⟩ := key x (by omega)
    exact glen_1 x x _ w (by omega) (by omega) rfl (by omega) (by omega) k1 (by omega) (by omega)
  by_cases h2 : x < 65536
  · obtain ⟨k1, k2⟩ := key (x / 256) (by omega)
    have := glen_2 x ((x / 256 : Nat) : Int) _ w (by omega) (by omega) (by omega) (by omega) (by omega) k1 (by omega) (by omega)
    have e := Lib.bitLen_shift8 x (by omega) (by omega)
    rwa [show (8 : Int) + ((Lib.bitLen (x / 256) : Nat) : Int) = (Lib.bitLen x : Nat) by omega] at this
  by_cases h3 : x < 16777216
  · obtain ⟨k1, k2⟩ := key (x / 65536) (by omega)
    have := glen_3 x ((x / 65536 : Nat) : Int) _ w (by omega) (by omega) (by omega) (by omega) (by omega) k1 (by omega) (by omega)
    have e := Lib.bitLen_shift16 x (by omega) (by omega)
    rwa [show (16 : Int) + ((Lib.bitLen (x / 65536) : Nat) : Int) = (Lib.bitLen x : Nat) by omega] at this
  · obtain ⟨k1, k2⟩ := key (x / 16777216) (by omega)
    have := glen_4 x ((x / 16777216 : Nat) : Int) _ w (by omega) (by omega) (by omega) (by omega) (by omega) k1 (by omega) (by omega)
    have e := Lib.bitLen_shift24 x (by omega) (by omega)
    rwa [show (24 : Int) + ((Lib.bitLen (x / 16777216) : Nat) : Int) = (Lib.bitLen x : Nat) by omega] at this
set_option maxRecDepth 100000 in
theorem glz_0 (x L Z : Int) (w : World) (h : Hid (∀ w, Calls Try.prog 55 #[.int .u32 x] w fun e w' => e = .returned (.int .i64 L) ∧ w' = w)) (hZ : 32 - L = Z) (z0 : 0 ≤ Z) (z1 : Z ≤ 32) :
    Calls Try.prog 40 #[.int .u32 x] w fun e w' => e = .returned (.int .i64 Z) ∧ w' = w := by
  have hz : IntKind.i64.wrap (32 - L) = Z := by rw [IntKind.wrap_i64]; omega
  go_enter Try.func40, Try.ntmps40
  go_wp2_with (go_at_call 55; refine (h.out _).mono ?_; rintro e w' ⟨rfl, rfl⟩)
  go_ret
  exact ⟨rfl, rfl⟩
theorem glz_any (x : Nat) (w : World) (hx : x < 4294967296) :
    Calls Try.prog 40 #[.int .u32 x] w fun e w' => e = .returned (.int .i64 (lzN x : Nat)) ∧ w' = w := by
  have := lz_le x
  exact glz_0 x _ _ w (fun w => glen_any x w hx) (lz_bl x hx) (by omega) (by omega)
/-- The bytes that stand apart. -/
theorem and_hi (y : Nat) : y &&& 16711680 = y / 65536 % 256 * 65536 := by
  apply Nat.eq_of_testBit_eq
  intro j
  have h2 : (16711680 : Nat).testBit j = (decide (16 ≤ j) && decide (j - 16 < 8)) := by
    have h := Nat.testBit_mul_two_pow 255 j 16
    rw [show 255 * 2 ^ 16 = 16711680 by decide] at h
    rw [h]
    have h' := Nat.testBit_two_pow_sub_one 8 (j - 16)
    rw [show 2 ^ 8 - 1 = 255 by decide] at h'
    rw [h']
  have h3 : (y / 65536 % 256 * 65536).testBit j = (decide (16 ≤ j) && (decide (j - 16 < 8) && y.testBit (j - 16 + 16))) := by
    have h := Nat.testBit_mul_two_pow (y / 65536 % 256) j 16
    rw [show (2 : Nat) ^ 16 = 65536 by decide] at h
    rw [h]
    have h' := Nat.testBit_mod_two_pow (y / 65536) 8 (j - 16)
    rw [show (2 : Nat) ^ 8 = 256 by decide] at h'
    rw [h']
    have h'' := Nat.testBit_div_two_pow (n := 16) y (j - 16)
    rw [show (2 : Nat) ^ 16 = 65536 by decide] at h''
    rw [h'']
  rw [Nat.testBit_and, h2, h3]
  by_cases hj : 16 ≤ j
  · rw [show j - 16 + 16 = j by omega, Bool.and_comm (y.testBit j), Bool.and_assoc]
  · simp [hj]
theorem and_apart (y : Nat) : y &&& 16711935 = y % 256 + 65536 * (y / 65536 % 256) := by
  rw [show (16711935 : Nat) = 255 ||| 16711680 by decide, Nat.and_or_distrib_left, and_hi, show (255 : Nat) = 2 ^ 8 - 1 by decide, Nat.and_two_pow_sub_one_eq_mod]
  have := or_high 16 (y / 65536 % 256) (y % 2 ^ 8) (by simp; omega)
  rw [show (2 : Nat) ^ 16 = 65536 by decide] at this
  rw [Nat.mul_comm _ 65536, this]
theorem rev_or (a b c d : Nat) (ha : a < 256) (hb : b < 256) (hc : c < 256) (hd : d < 256) : (a + 65536 * c) ||| (256 * b + 16777216 * d) = a + 256 * b + 65536 * c + 16777216 * d := by
  have h1 := or_high 16 c a (by simp; omega)
  have h2 := or_high 24 d (256 * b) (by simp; omega)
  have h3 := or_high 8 b a (by simp; omega)
  have h4 := or_high 16 c (a + 256 * b) (by simp; omega)
  have h5 := or_high 24 d (a + 256 * b + 65536 * c) (by simp; omega)
  rw [show (2 : Nat) ^ 16 = 65536 by decide] at h1 h4
  rw [show (2 : Nat) ^ 24 = 16777216 by decide] at h2 h5
  rw [show (2 : Nat) ^ 8 = 256 by decide] at h3
  rw [← h1, ← h2, ← h5, ← h4, ← h3]
  ac_rfl
set_option maxRecDepth 100000 in
theorem grev_0 (x A B T V : Int) (w : World) (x0 : 0 ≤ x) (x1 : x < 4294967296) (hA : bits .and .u32 (x / 256) 16711935 = A) (hB : bits .and .u32 x 16711935 = B) (b0 : 0 ≤ B) (b1 : B ≤ 16711935) (hT : bits .or .u32 A (B * 256) = T) (t0 : 0 ≤ T) (t1 : T < 4294967296) (hV : bits .or .u32 (T / 65536) (T * 65536 % 4294967296) = V) :
    Calls Try.prog 41 #[.int .u32 x] w fun e w' => e = .returned (.int .u32 V) ∧ w' = w := by
  have q1 : B * 256 % 4294967296 = B * 256 := by omega
  have q2 : IntKind.u32.wrap (B * 256) = B * 256 := by rw [IntKind.wrap_u32']; omega
  go_enter Try.func41, Try.ntmps41
  go_wp2
  go_ret
  exact ⟨by simp [hV], rfl⟩
theorem grev_any (x : Nat) (w : World) (hx : x < 4294967296) :
    Calls Try.prog 41 #[.int .u32 x] w fun e w' => e = .returned (.int .u32 ((x : Int) % 256 * 16777216 + (x : Int) / 256 % 256 * 65536 + (x : Int) / 65536 % 256 * 256 + (x : Int) / 16777216)) ∧ w' = w := by
  have hA : bits .and .u32 ((x : Int) / 256) 16711935 = ((x / 256 % 256 + 65536 * (x / 16777216) : Nat) : Int) := by
    rw [show (x : Int) / 256 = ((x / 256 : Nat) : Int) by simp, show (16711935 : Int) = ((16711935 : Nat) : Int) by rfl, u32_and_nat _ _ (by omega) (by decide), and_apart, show x / 256 / 65536 % 256 = x / 16777216 by omega]
  have hB : bits .and .u32 (x : Int) 16711935 = ((x % 256 + 65536 * (x / 65536 % 256) : Nat) : Int) := by
    rw [show (16711935 : Int) = ((16711935 : Nat) : Int) by rfl, u32_and_nat _ _ (by omega) (by decide), and_apart]
  have hT : bits .or .u32 ((x / 256 % 256 + 65536 * (x / 16777216) : Nat) : Int) (((x % 256 + 65536 * (x / 65536 % 256) : Nat) : Int) * 256) = ((x / 256 % 256 + 256 * (x % 256) + 65536 * (x / 16777216) + 16777216 * (x / 65536 % 256) : Nat) : Int) := by
    rw [show (((x % 256 + 65536 * (x / 65536 % 256) : Nat) : Int) * 256) = ((256 * (x % 256) + 16777216 * (x / 65536 % 256) : Nat) : Int) by omega, u32_or_nat _ _ (by omega) (by omega), rev_or _ _ _ _ (by omega) (by omega) (by omega) (by omega)]
  refine grev_0 x _ _ _ _ w (by omega) (by omega) hA hB (by omega) (by omega) hT (by omega) (by omega) ?_
  generalize ha : x / 256 % 256 = a
  generalize hb : x % 256 = b
  generalize hc : x / 16777216 = c
  generalize hd : x / 65536 % 256 = d
  have e1 : ((a + 256 * b + 65536 * c + 16777216 * d : Nat) : Int) / 65536 = ((c + 256 * d : Nat) : Int) := by omega
  have e2 : ((a + 256 * b + 65536 * c + 16777216 * d : Nat) : Int) * 65536 % 4294967296 = ((2 ^ 16 * (a + 256 * b) : Nat) : Int) := by omega
  rw [e1, e2, u32_or_nat _ _ (by omega) (by omega), or_high 16 (a + 256 * b) (c + 256 * d) (by omega)]
  have f1 : (x : Int) % 256 = b := by omega
  have f2 : (x : Int) / 256 % 256 = a := by omega
  have f3 : (x : Int) / 65536 % 256 = d := by omega
  have f4 : (x : Int) / 16777216 = c := by omega
  rw [f1, f2, f3, f4]
  clear f1 f2 f3 f4 ha hb hc hd hA hB hT e1 e2
  rw [show (2 : Nat) ^ 16 = 65536 by decide]
  omega
end Go.Proofs.Ytdelcknpaldngab
