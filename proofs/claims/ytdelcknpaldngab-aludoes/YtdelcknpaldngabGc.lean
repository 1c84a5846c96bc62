import Derived.Test.YtdelcknpaldngabGg
namespace Go.Proofs.Ytdelcknpaldngab
open Go.RowKit
set_option linter.unusedVariables false
set_option linter.unusedSimpArgs false
theorem u64_and31 (k : Int) : bits .and .u64 (IntKind.u64.wrap k) 31 = k % 32 := by
  have h31 : (BitVec.ofInt 64 31).toNat = 2 ^ 5 - 1 := by decide
  have key : (BitVec.ofInt 64 (IntKind.u64.wrap k) &&& BitVec.ofInt 64 31).toNat = (IntKind.u64.wrap k % ((2 ^ 64 : Nat) : Int)).toNat % 2 ^ 5 := by
    rw [BitVec.toNat_and, BitVec.toNat_ofInt, h31, Nat.and_two_pow_sub_one_eq_mod]
  show IntKind.u64.wrap ((BitVec.ofInt 64 (IntKind.u64.wrap k) &&& BitVec.ofInt 64 31).toNat : Nat) = k % 32
  rw [key, IntKind.wrap_u64, IntKind.wrap_u64]
  omega
theorem rot_or (x s : Nat) (hx : x < 4294967296) (hs : s < 32) : bits .or .u32 ((x : Int) * 2 ^ s % 4294967296) ((x : Int) / 2 ^ (32 - s)) = (rorK (32 - s) x : Nat) := by
  have hs1 : 4294967296 = 2 ^ (32 - s) * 2 ^ s := by rw [← Nat.pow_add, show 32 - s + s = 32 by omega]
  have hp : 0 < 2 ^ (32 - s) := Nat.two_pow_pos _
  have e1 : (x : Int) * 2 ^ s % 4294967296 = ((x % 2 ^ (32 - s) * 2 ^ s : Nat) : Int) := by
    have : x % 2 ^ (32 - s) * 2 ^ s = x * 2 ^ s % 4294967296 := by rw [hs1, Nat.mul_mod_mul_right]
    rw [this, ← pow_nat]
    simp
  have e2 : (x : Int) / 2 ^ (32 - s) = ((x / 2 ^ (32 - s) : Nat) : Int) := by rw [← pow_nat]; simp
  have h1 : x / 2 ^ (32 - s) < 2 ^ s := by rw [Nat.div_lt_iff_lt_mul hp, Nat.mul_comm, ← hs1]; exact hx
  have h2 : x % 2 ^ (32 - s) + 1 ≤ 2 ^ (32 - s) := Nat.mod_lt _ hp
  have h3 : (x % 2 ^ (32 - s) + 1) * 2 ^ s ≤ 2 ^ (32 - s) * 2 ^ s := Nat.mul_le_mul_right _ h2
  rw [Nat.add_mul, Nat.one_mul, ← hs1] at h3
  have h4 : 0 < 2 ^ s := Nat.two_pow_pos s
  rw [e1, e2, u32_or_nat _ _ (by omega) (by omega), Nat.or_comm, Nat.mul_comm, or_high s _ _ h1]
  unfold rorK
  rw [show 32 - (32 - s) = s by omega, Nat.mul_comm]
set_option maxRecDepth 100000 in
theorem grot_0 (x k s V : Int) (w : World) (x0 : 0 ≤ x) (x1 : x < 4294967296) (hS : bits .and .u64 (IntKind.u64.wrap k) 31 = s) (s0 : 0 ≤ s) (s1 : s < 32) (hV : bits .or .u32 (x * 2 ^ s.toNat % 4294967296) (x / 2 ^ (32 - s).toNat) = V) :
    Calls Try.prog 34 #[.int .u32 x, .int .i64 k] w fun e w' => e = .returned (.int .u32 V) ∧ w' = w := by
  go_enter Try.func34, Try.ntmps34
  go_wp2
  go_ret
  exact ⟨rfl, rfl⟩
/-- Turned left is turned right by what is left. -/
theorem grot_any (x : Nat) (k : Int) (w : World) (hx : x < 4294967296) :
    Calls Try.prog 34 #[.int .u32 x, .int .i64 k] w fun e w' => e = .returned (.int .u32 (rorK (32 - (k % 32).toNat) x : Nat)) ∧ w' = w := by
  refine grot_0 x k (k % 32) _ w (by omega) (by omega) (u64_and31 k) (by omega) (by omega) ?_
  rw [show (32 - k % 32).toNat = 32 - (k % 32).toNat by omega]
  exact rot_or x _ hx (by omega)
set_option maxRecDepth 100000 in
theorem gleft_lo (x n V : Int) (t : Bool) (w : World) (h : Hid (∀ w, Calls Try.prog 30 #[.int .u32 x, .int .i64 (32 - n)] w fun e w' => e = .returned (.bool t) ∧ w' = w)) (n0 : 1 ≤ n) (n1 : n ≤ 32) (x0 : 0 ≤ x) (x1 : x < 4294967296) (hV : x * 2 ^ n.toNat % 4294967296 = V) :
    Calls Try.prog 31 #[.int .u32 x, .int .i64 n] w fun e w' => e = .returned (.tuple #[.int .u32 V, .bool t]) ∧ Below w.heap.size w w' := by
  have n00 : 0 ≤ n := by omega
  have q : decide (n ≤ 32) = true := decide_eq_true n1
  go_enter Try.func31, Try.ntmps31
  go_wp2_with fail
  go_quiet ((go_at_call 30; exact Calls.quiet_of_same (h.out _)))
  go_wp2_with fail
  exact bodyPost_ret (v := .tuple #[.int .u32 V, .bool t]) (by simp [results, Try.results31, go_sem, hV]) rfl ⟨rfl, below_drewN (Below.refl _ _) _⟩
set_option maxRecDepth 100000 in
theorem gleft_hi (x n : Int) (w : World) (n0 : 32 < n) (n2 : n ≤ 255) (x0 : 0 ≤ x) (x1 : x < 4294967296) (hV : x * 2 ^ min n.toNat 32 % 4294967296 = 0) :
    Calls Try.prog 31 #[.int .u32 x, .int .i64 n] w fun e w' => e = .returned (.tuple #[.int .u32 0, .bool false]) ∧ Below w.heap.size w w' := by
  have n00 : 0 ≤ n := by omega
  have q : decide (n ≤ 32) = false := decide_eq_false (by omega)
  go_enter Try.func31, Try.ntmps31
  go_wp2_with fail
  go_quiet (fail)
  go_wp2_with fail
  exact bodyPost_ret (v := .tuple #[.int .u32 0, .bool false]) (by simp [results, Try.results31, go_sem, hV]) rfl ⟨rfl, below_drewN (Below.refl _ _) _⟩
set_option maxRecDepth 100000 in
theorem gright_lo (x n V : Int) (t : Bool) (w : World) (h : Hid (∀ w, Calls Try.prog 30 #[.int .u32 x, .int .i64 (n - 1)] w fun e w' => e = .returned (.bool t) ∧ w' = w)) (n0 : 1 ≤ n) (n1 : n ≤ 32) (x0 : 0 ≤ x) (x1 : x < 4294967296) (hV : x / 2 ^ n.toNat = V) :
    Calls Try.prog 32 #[.int .u32 x, .int .i64 n] w fun e w' => e = .returned (.tuple #[.int .u32 V, .bool t]) ∧ Below w.heap.size w w' := by
  have n00 : 0 ≤ n := by omega
  have q : decide (n ≤ 32) = true := decide_eq_true n1
  go_enter Try.func32, Try.ntmps32
  go_wp2_with fail
  go_quiet ((go_at_call 30; exact Calls.quiet_of_same (h.out _)))
  go_wp2_with fail
  exact bodyPost_ret (v := .tuple #[.int .u32 V, .bool t]) (by simp [results, Try.results32, go_sem, hV]) rfl ⟨rfl, below_drewN (Below.refl _ _) _⟩
set_option maxRecDepth 100000 in
theorem gright_hi (x n : Int) (w : World) (n0 : 32 < n) (n2 : n ≤ 255) (x0 : 0 ≤ x) (x1 : x < 4294967296) (hV : x / 2 ^ min n.toNat 32 = 0) :
    Calls Try.prog 32 #[.int .u32 x, .int .i64 n] w fun e w' => e = .returned (.tuple #[.int .u32 0, .bool false]) ∧ Below w.heap.size w w' := by
  have n00 : 0 ≤ n := by omega
  have q : decide (n ≤ 32) = false := decide_eq_false (by omega)
  go_enter Try.func32, Try.ntmps32
  go_wp2_with fail
  go_quiet (fail)
  go_wp2_with fail
  exact bodyPost_ret (v := .tuple #[.int .u32 0, .bool false]) (by simp [results, Try.results32, go_sem, hV]) rfl ⟨rfl, below_drewN (Below.refl _ _) _⟩
set_option maxRecDepth 100000 in
set_option maxHeartbeats 1000000 in
theorem gasr_0 (x n m S V : Int) (t : Bool) (w : World) (h : Hid (∀ w, Calls Try.prog 30 #[.int .u32 x, .int .i64 m] w fun e w' => e = .returned (.bool t) ∧ w' = w)) (n0 : 1 ≤ n) (n1 : n ≤ 255) (hm : Hid ((if 31 < IntKind.i64.wrap (n - 1) then 31 else IntKind.i64.wrap (n - 1)) = m)) (hS : IntKind.i32.wrap x = S) (hS2 : wrap32 x = S) (s0 : -2147483648 ≤ S) (s1 : S < 2147483648) (hV : IntKind.u32.wrap (S / 2 ^ min n.toNat 32) = V) :
    Calls Try.prog 33 #[.int .u32 x, .int .i64 n] w fun e w' => e = .returned (.tuple #[.int .u32 V, .bool t]) ∧ Below w.heap.size w w' := by
  have n00 : 0 ≤ n := by omega
  go_enter Try.func33, Try.ntmps33
  go_wp2_with fail
  go_quiet ((go_at_call 30; rw [hm.out]; exact Calls.quiet_of_same (h.out _)))
  go_wp2_with fail
  all_goals exact bodyPost_ret (v := .tuple #[.int .u32 V, .bool t]) (by simp [results, Try.results33, go_sem, hV]) rfl ⟨rfl, below_drewN (Below.refl _ _) _⟩
/-- The three shifts, by their numbers. -/
theorem gleft_any (x n : Nat) (w : World) (hx : x < 4294967296) (h0 : 0 < n) (h1 : n < 256) :
    Calls Try.prog 31 #[.int .u32 x, .int .i64 n] w fun e w' => e = .returned (.tuple #[.int .u32 ((if n < 32 then x * 2 ^ n % 4294967296 else 0 : Nat) : Int), .bool (if n ≤ 32 then decide (x / 2 ^ (32 - n) % 2 = 1) else false)]) ∧ Below w.heap.size w w' := by
  by_cases h : n ≤ 32
  · by_cases h3 : n < 32
    · rw [if_pos h, if_pos h3]
      refine gleft_lo x n _ _ w (fun w => ?_) (by omega) (by omega) (by omega) (by omega) ?_
      · have := gset_nat x (32 - n) w hx (by omega)
        rwa [show ((32 - n : Nat) : Int) = 32 - (n : Int) by omega] at this
      · rw [show (n : Int).toNat = n by omega, ← pow_nat]; simp
    · obtain rfl : n = 32 := by omega
      rw [if_pos h, if_neg h3]
      refine gleft_lo x (32 : Nat) _ _ w (fun w => ?_) (by omega) (by omega) (by omega) (by omega) ?_
      · exact gset_nat x 0 w hx (by omega)
      · rw [show ((32 : Nat) : Int).toNat = 32 by rfl]
        show (x : Int) * 4294967296 % 4294967296 = 0
        omega
  · rw [if_neg (by omega), if_neg h]
    refine gleft_hi x n w (by omega) (by omega) (by omega) (by omega) ?_
    rw [show min (n : Int).toNat 32 = 32 by omega]
    show (x : Int) * 4294967296 % 4294967296 = 0
    omega
theorem gright_any (x n : Nat) (w : World) (hx : x < 4294967296) (h0 : 0 < n) (h1 : n < 256) :
    Calls Try.prog 32 #[.int .u32 x, .int .i64 n] w fun e w' => e = .returned (.tuple #[.int .u32 ((if n < 32 then x / 2 ^ n else 0 : Nat) : Int), .bool (if n ≤ 32 then decide (x / 2 ^ (n - 1) % 2 = 1) else false)]) ∧ Below w.heap.size w w' := by
  by_cases h : n ≤ 32
  · by_cases h3 : n < 32
    · rw [if_pos h, if_pos h3]
      refine gright_lo x n _ _ w (fun w => ?_) (by omega) (by omega) (by omega) (by omega) ?_
      · have := gset_nat x (n - 1) w hx (by omega)
        rwa [show ((n - 1 : Nat) : Int) = (n : Int) - 1 by omega] at this
      · rw [show (n : Int).toNat = n by omega, ← pow_nat]; simp
    · obtain rfl : n = 32 := by omega
      rw [if_pos h, if_neg h3]
      refine gright_lo x (32 : Nat) _ _ w (fun w => ?_) (by omega) (by omega) (by omega) (by omega) ?_
      · exact gset_nat x 31 w hx (by omega)
      · rw [show ((32 : Nat) : Int).toNat = 32 by rfl]
        show (x : Int) / 4294967296 = 0
        omega
  · rw [if_neg (by omega), if_neg h]
    refine gright_hi x n w (by omega) (by omega) (by omega) (by omega) ?_
    rw [show min (n : Int).toNat 32 = 32 by omega]
    show (x : Int) / 4294967296 = 0
    omega
theorem div_cast (x n : Nat) : ((x : Int) / ((2 ^ n : Nat) : Int)) = ((x / 2 ^ n : Nat) : Int) := by simp
theorem asr_int (x n : Nat) (hx : x < 4294967296) : IntKind.u32.wrap (sgn x / 2 ^ n) = (asrN n x : Nat) := by
  have hp : 0 < 2 ^ n := Nat.two_pow_pos n
  rw [IntKind.wrap_u32', ← pow_nat]
  unfold sgn asrN
  by_cases h : x < 2147483648
  · rw [if_pos (by omega), if_pos h, div_cast]
    have : x / 2 ^ n ≤ x := Nat.div_le_self _ _
    generalize x / 2 ^ n = q at *
    omega
  · rw [if_neg (by omega), if_neg h]
    have h1 : (4294967295 - x) / 2 ^ n ≤ 4294967295 - x := Nat.div_le_self _ _
    have h2 : ((x : Int) - 4294967296) / ((2 ^ n : Nat) : Int) = -(((4294967295 - x) / 2 ^ n : Nat) : Int) - 1 := by
      have e : (x : Int) - 4294967296 = Int.negSucc (4294967295 - x) := by rw [Int.negSucc_eq]; omega
      rw [e, Int.negSucc_ediv _ (by omega)]
      show -((((4294967295 - x : Nat) : Int)) / ((2 ^ n : Nat) : Int) + 1) = _
      rw [div_cast]
      generalize (4294967295 - x) / 2 ^ n = q
      omega
    rw [h2]
    generalize (4294967295 - x) / 2 ^ n = q at *
    omega
theorem dec_top (x : Nat) : decide ((2147483648 : Int) ≤ x) = decide (2147483648 ≤ x) := by
  by_cases h : 2147483648 ≤ x
  · rw [decide_eq_true h, decide_eq_true (by omega)]
  · rw [decide_eq_false h, decide_eq_false (by omega)]
theorem gasr_any (x n : Nat) (w : World) (hx : x < 4294967296) (h0 : 0 < n) (h1 : n < 256) :
    Calls Try.prog 33 #[.int .u32 x, .int .i64 n] w fun e w' => e = .returned (.tuple #[.int .u32 ((if n < 32 then asrN n x else if x < 2147483648 then 0 else 4294967295 : Nat) : Int), .bool (if n < 32 then decide (x / 2 ^ (n - 1) % 2 = 1) else decide (2147483648 ≤ x))]) ∧ Below w.heap.size w w' := by
  have hs := sgn_range x (by omega) (by omega)
  have hw : IntKind.i64.wrap ((n : Int) - 1) = n - 1 := by rw [IntKind.wrap_i64]; omega
  by_cases h : n < 32
  · rw [if_pos h, if_pos h]
    refine gasr_0 x n ((n - 1 : Nat) : Int) (sgn x) _ _ w (fun w => gset_nat x (n - 1) w hx (by omega)) (by omega) (by omega) ?_ (wrap_i32 x (by omega) (by omega)) (wrap_32 x (by omega) (by omega)) hs.1 hs.2 ?_
    · show (if _ then _ else _) = _
      rw [hw, if_neg (by omega)]; omega
    · rw [show min (n : Int).toNat 32 = n by omega, asr_int x n hx]
  · rw [if_neg h, if_neg h, ← asr_big (show 31 ≤ 32 by decide) hx]
    refine gasr_0 x n 31 (sgn x) _ _ w (fun w => ?_) (by omega) (by omega) ?_ (wrap_i32 x (by omega) (by omega)) (wrap_32 x (by omega) (by omega)) hs.1 hs.2 ?_
    · have := gset_31 x w (by omega) (by omega)
      rwa [dec_top] at this
    · show (if 31 < IntKind.i64.wrap ((n : Int) - 1) then 31 else IntKind.i64.wrap ((n : Int) - 1)) = 31
      rw [hw]
      by_cases hh : 31 < (n : Int) - 1
      · rw [if_pos hh]
      · rw [if_neg hh]; omega
    · rw [show min (n : Int).toNat 32 = 32 by omega, asr_int x 32 hx]
end Go.Proofs.Ytdelcknpaldngab
