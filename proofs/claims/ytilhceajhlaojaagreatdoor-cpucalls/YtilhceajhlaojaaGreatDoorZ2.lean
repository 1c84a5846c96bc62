import Derived.Test.YtilhceajhlaojaaGreatDoorZ1
namespace Go.Proofs.YtilhceajhlaojaaGreatDoor.Al
open Go.RowKit
set_option linter.unusedVariables false
set_option linter.unusedSimpArgs false
theorem u64_and31 (k : Int) : bits .and .u64 (IntKind.u64.wrap k) 31 = k % 32 := by
  have h31 : (BitVec.ofInt 64 31).toNat = 2 ^ 5 - 1 := by decide
  have key : (BitVec.ofInt 64 (IntKind.u64.wrap k) &&& BitVec.ofInt 64 31).toNat = (IntKind.u64.wrap k % ((2 ^ 64 : Nat) : Int)).toNat % 2 ^ 5 := by
    rw [BitVec.toNat_and, BitVec.toNat_ofInt, h31, Nat.and_two_pow_sub_one_eq_mod]
  show IntKind.u64.wrap ((BitVec.ofInt 64 (IntKind.u64.wrap k) &&& BitVec.ofInt 64 31).toNat : Nat) = k % 32
  rw [key, IntKind.wrap_u64, IntKind.wrap_u64]
  omega
theorem rot_or (x s : Nat) (hx : x < 4294967296) (hs : s < 32) : bits .or .u32 ((x : Int) * 2 ^ s % 4294967296) ((x : Int) / 2 ^ (32 - s)) = (rorK (32 - s) x : Nat) := by
  have hs1 : 4294967296 = 2 ^ (32 - s) * 2 ^ s := by rw [← Nat.pow_add, show 32 - s + s = 32 by omega]
  have hp : 0 < 2 ^ (32 - s) := Nat.two_pow_pos _
  have e1 : (x : Int) * 2 ^ s % 4294967296 = ((x % 2 ^ (32 - s) * 2 ^ s : Nat) : Int) := by
    have : x % 2 ^ (32 - s) * 2 ^ s = x * 2 ^ s % 4294967296 := by rw [hs1, Nat.mul_mod_mul_right]
    rw [this, ← pow_nat]
    simp
  have e2 : (x : Int) / 2 ^ (32 - s) = ((x / 2 ^ (32 - s) : Nat) : Int) := by rw [← pow_nat]; simp
  have h1 : x / 2 ^ (32 - s) < 2 ^ s := by rw [Nat.div_lt_iff_lt_mul hp, Nat.mul_comm, ← hs1]; exact hx
  have h2 : x % 2 ^ (32 - s) + 1 ≤ 2 ^ (32 - s) := Nat.mod_lt _ hp
  have h3 : (x % 2 ^ (32 - s) + 1) * 2 ^ s ≤ 2 ^ (32 - s) * 2 ^ s := Nat.mul_le_mul_right _ h2
  rw [Nat.add_mul, Nat.one_mul, ← hs1] at h3
  have h4 : 0 < 2 ^ s := Nat.two_pow_pos s
  rw [e1, e2, u32_or_nat _ _ (by omega) (by omega), Nat.or_comm, Nat.mul_comm, or_high s _ _ h1]
  unfold rorK
  rw [show 32 - (32 - s) = s by omega, Nat.mul_comm]
set_option maxRecDepth 100000 in
theorem grot_0 (x k s V : Int) (w : World) (x0 : 0 ≤ x) (x1 : x < 4294967296) (hS : bits .and .u64 (IntKind.u64.wrap k) 31 = s) (s0 : 0 ≤ s) (s1 : s < 32) (hV : bits .or .u32 (x * 2 ^ s.toNat % 4294967296) (x / 2 ^ (32 - s).toNat) = V) :
    Calls Tryz.prog 106 #[.int .u32 x, .int .i64 k] w fun e w' => e = .returned (.int .u32 V) ∧ w' = w := by
  go_enter Tryz.func106, Tryz.ntmps106
  go_wp2
  go_ret
  exact ⟨rfl, rfl⟩
/-- Turned left is turned right by what is left. -/
theorem grot_any (x : Nat) (k : Int) (w : World) (hx : x < 4294967296) :
    Calls Tryz.prog 106 #[.int .u32 x, .int .i64 k] w fun e w' => e = .returned (.int .u32 (rorK (32 - (k % 32).toNat) x : Nat)) ∧ w' = w := by
  refine grot_0 x k (k % 32) _ w (by omega) (by omega) (u64_and31 k) (by omega) (by omega) ?_
  rw [show (32 - k % 32).toNat = 32 - (k % 32).toNat by omega]
  exact rot_or x _ hx (by omega)
set_option maxRecDepth 100000 in
theorem gleft_lo (x n V : Int) (t : Bool) (w : World) (h : Hid (∀ w, Calls Tryz.prog 31 #[.int .u32 x, .int .i64 (32 - n)] w fun e w' => e = .returned (.bool t) ∧ w' = w)) (n0 : 1 ≤ n) (n1 : n ≤ 32) (x0 : 0 ≤ x) (x1 : x < 4294967296) (hV : x * 2 ^ n.toNat % 4294967296 = V) :
    Calls Tryz.prog 113 #[.int .u32 x, .int .i64 n] w fun e w' => e = .returned (.tuple #[.int .u32 V, .bool t]) ∧ Below w.heap.size w w' := by
  have n00 : 0 ≤ n := by omega
  have q : decide (n ≤ 32) = true := decide_eq_true n1
  go_enter Tryz.func113, Tryz.ntmps113
  go_wp2_with fail
  go_quiet ((go_at_call 31; exact Calls.quiet_of_same (h.out _)))
  go_wp2_with fail
  exact bodyPost_ret (v := .tuple #[.int .u32 V, .bool t]) (by simp [results, Tryz.results113, go_sem, hV]) rfl ⟨rfl, below_drewN (Below.refl _ _) _⟩
set_option maxRecDepth 100000 in
theorem gleft_hi (x n : Int) (w : World) (n0 : 32 < n) (n2 : n ≤ 255) (x0 : 0 ≤ x) (x1 : x < 4294967296) (hV : x * 2 ^ min n.toNat 32 % 4294967296 = 0) :
    Calls Tryz.prog 113 #[.int .u32 x, .int .i64 n] w fun e w' => e = .returned (.tuple #[.int .u32 0, .bool false]) ∧ Below w.heap.size w w' := by
  have n00 : 0 ≤ n := by omega
  have q : decide (n ≤ 32) = false := decide_eq_false (by omega)
  go_enter Tryz.func113, Tryz.ntmps113
  go_wp2_with fail
  go_quiet (fail)
  go_wp2_with fail
  exact bodyPost_ret (v := .tuple #[.int .u32 0, .bool false]) (by simp [results, Tryz.results113, go_sem, hV]) rfl ⟨rfl, below_drewN (Below.refl _ _) _⟩
set_option maxRecDepth 100000 in
theorem gright_lo (x n V : Int) (t : Bool) (w : World) (h : Hid (∀ w, Calls Tryz.prog 31 #[.int .u32 x, .int .i64 (n - 1)] w fun e w' => e = .returned (.bool t) ∧ w' = w)) (n0 : 1 ≤ n) (n1 : n ≤ 32) (x0 : 0 ≤ x) (x1 : x < 4294967296) (hV : x / 2 ^ n.toNat = V) :
    Calls Tryz.prog 114 #[.int .u32 x, .int .i64 n] w fun e w' => e = .returned (.tuple #[.int .u32 V, .bool t]) ∧ Below w.heap.size w w' := by
  have n00 : 0 ≤ n := by omega
  have q : decide (n ≤ 32) = true := decide_eq_true n1
  go_enter Tryz.func114, Tryz.ntmps114
  go_wp2_with fail
  go_quiet ((go_at_call 31; exact Calls.quiet_of_same (h.out _)))
  go_wp2_with fail
  exact bodyPost_ret (v := .tuple #[.int .u32 V, .bool t]) (by simp [results, Tryz.results114, go_sem, hV]) rfl ⟨rfl, below_drewN (Below.refl _ _) _⟩
set_option maxRecDepth 100000 in
theorem gright_hi (x n : Int) (w : World) (n0 : 32 < n) (n2 : n ≤ 255) (x0 : 0 ≤ x) (x1 : x < 4294967296) (hV : x / 2 ^ min n.toNat 32 = 0) :
    Calls Tryz.prog 114 #[.int .u32 x, .int .i64 n] w fun e w' => e = .returned (.tuple #[.int .u32 0, .bool false]) ∧ Below w.heap.size w w' := by
  have n00 : 0 ≤ n := by omega
  have q : decide (n ≤ 32) = false := decide_eq_false (by omega)
  go_enter Tryz.func114, Tryz.ntmps114
  go_wp2_with fail
  go_quiet (fail)
  go_wp2_with fail
  exact bodyPost_ret (v := .tuple #[.int .u32 0, .bool false]) (by simp [results, Tryz.results114, go_sem, hV]) rfl ⟨rfl, below_drewN (Below.refl _ _) _⟩
set_option maxRecDepth 100000 in
set_option maxHeartbeats 1000000 in
theorem gasr_0 (x n m S V : Int) (t : Bool) (w : World) (h : Hid (∀ w, Calls Tryz.prog 31 #[.int .u32 x, .int .i64 m] w fun e w' => e = .returned (.bool t) ∧ w' = w)) (n0 : 1 ≤ n) (n1 : n ≤ 255) (hm : Hid ((if 31 < IntKind.i64.wrap (n - 1) then 31 else IntKind.i64.wrap (n - 1)) = m)) (hS : IntKind.i32.wrap x = S) (hS2 : wrap32 x = S) (s0 : -2147483648 ≤ S) (s1 : S < 2147483648) (hV : IntKind.u32.wrap (S / 2 ^ min n.toNat 32) = V) :
    Calls Tryz.prog 115 #[.int .u32 x, .int .i64 n] w fun e w' => e = .returned (.tuple #[.int .u32 V, .bool t]) ∧ Below w.heap.size w w' := by
  have n00 : 0 ≤ n := by omega
  go_enter Tryz.func115, Tryz.ntmps115
  go_wp2_with fail
  go_quiet ((go_at_call 31; rw [hm.out]; exact Calls.quiet_of_same (h.out _)))
  go_wp2_with fail
  all_goals exact bodyPost_ret (v := .tuple #[.int .u32 V, .bool t]) (by simp [results, Tryz.results115, go_sem, hV]) rfl ⟨rfl, below_drewN (Below.refl _ _) _⟩
/-- The three shifts, by their numbers. -/
theorem gleft_any (x n : Nat) (w : World) (hx : x < 4294967296) (h0 : 0 < n) (h1 : n < 256) :
    Calls Tryz.prog 113 #[.int .u32 x, .int .i64 n] w fun e w' => e = .returned (.tuple #[.int .u32 ((if n < 32 then x * 2 ^ n % 4294967296 else 0 : Nat) : Int), .bool (if n ≤ 32 then decide (x / 2 ^ (32 - n) % 2 = 1) else false)]) ∧ Below w.heap.size w w' := by
  by_cases h : n ≤ 32
  · by_cases h3 : n < 32
    · rw [if_pos h, if_pos h3]
      refine gleft_lo x n _ _ w (fun w => ?_) (by omega) (by omega) (by omega) (by omega) ?_
      · have := gset_nat x (32 - n) w hx (by omega)
        rwa [show ((32 - n : Nat) : Int) = 32 - (n : Int) by omega] at this
      · rw [show (n : Int).toNat = n by omega, ← pow_nat]; simp
    · obtain rfl : n = 32 := by omega
      rw [if_pos h, if_neg h3]
      refine gleft_lo x (32 : Nat) _ _ w (fun w => ?_) (by omega) (by omega) (by omega) (by omega) ?_
      · exact gset_nat x 0 w hx (by omega)
      · rw [show ((32 : Nat) : Int).toNat = 32 by rfl]
        show (x : Int) * 4294967296 % 4294967296 = 0
        omega
  · rw [if_neg (by omega), if_neg h]
    refine gleft_hi x n w (by omega) (by omega) (by omega) (by omega) ?_
    rw [show min (n : Int).toNat 32 = 32 by omega]
    show (x : Int) * 4294967296 % 4294967296 = 0
    omega
theorem gright_any (x n : Nat) (w : World) (hx : x < 4294967296) (h0 : 0 < n) (h1 : n < 256) :
    Calls Tryz.prog 114 #[.int .u32 x, .int .i64 n] w fun e w' => e = .returned (.tuple #[.int .u32 ((if n < 32 then x / 2 ^ n else 0 : Nat) : Int), .bool (if n ≤ 32 then decide (x / 2 ^ (n - 1) % 2 = 1) else false)]) ∧ Below w.heap.size w w' := by
  by_cases h : n ≤ 32
  · by_cases h3 : n < 32
    · rw [if_pos h, if_pos h3]
      refine gright_lo x n _ _ w (fun w => ?_) (by omega) (by omega) (by omega) (by omega) ?_
      · have := gset_nat x (n - 1) w hx (by omega)
        rwa [show ((n - 1 : Nat) : Int) = (n : Int) - 1 by omega] at this
      · rw [show (n : Int).toNat = n by omega, ← pow_nat]; simp
    · obtain rfl : n = 32 := by omega
      rw [if_pos h, if_neg h3]
      refine gright_lo x (32 : Nat) _ _ w (fun w => ?_) (by omega) (by omega) (by omega) (by omega) ?_
      · exact gset_nat x 31 w hx (by omega)
      · rw [show ((32 : Nat) : Int).toNat = 32 by rfl]
        show (x : Int) / 4294967296 = 0
        omega
  · rw [if_neg (by omega), if_neg h]
    refine gright_hi x n w (by omega) (by omega) (by omega) (by omega) ?_
    rw [show min (n : Int).toNat 32 = 32 by omega]
    show (x : Int) / 4294967296 = 0
    omega
theorem div_cast (x n : Nat) : ((x : Int) / ((2 ^ n : Nat) : Int)) = ((x / 2 ^ n : Nat) : Int) := by simp
theorem asr_int (x n : Nat) (hx : x < 4294967296) : IntKind.u32.wrap (sgn x / 2 ^ n) = (asrN n x : Nat) := by
  have hp : 0 < 2 ^ n := Nat.two_pow_pos n
  rw [IntKind.wrap_u32', ← pow_nat]
  unfold sgn asrN
  by_cases h : x < 2147483648
  · rw [if_pos (by omega), if_pos h, div_cast]
    have : x / 2 ^ n ≤ x := Nat.div_le_self _ _
    generalize x / 2 ^ n = q at *
    omega
  · rw [if_neg (by omega), if_neg h]
    have h1 : (4294967295 - x) / 2 ^ n ≤ 4294967295 - x := Nat.div_le_self _ _
    have h2 : ((x : Int) - 4294967296) / ((2 ^ n : Nat) : Int) = -(((4294967295 - x) / 2 ^ n : Nat) : Int) - 1 := by
      have e : (x : Int) - 4294967296 = Int.negSucc (4294967295 - x) := by rw [Int.negSucc_eq]; omega
      rw [e, Int.negSucc_ediv _ (by omega)]
      show -((((4294967295 - x : Nat) : Int)) / ((2 ^ n : Nat) : Int) + 1) = _
      rw [div_cast]
      generalize (4294967295 - x) / 2 ^ n = q
      omega
    rw [h2]
    generalize (4294967295 - x) / 2 ^ n = q at *
    omega
theorem dec_top (x : Nat) : decide ((2147483648 : Int) ≤ x) = decide (2147483648 ≤ x) := by
  by_cases h : 2147483648 ≤ x
  · rw [decide_eq_true h, decide_eq_true (by omega)]
  · rw [decide_eq_false h, decide_eq_false (by omega)]
theorem gasr_any (x n : Nat) (w : World) (hx : x < 4294967296) (h0 : 0 < n) (h1 : n < 256) :
    Calls Tryz.prog 115 #[.int .u32 x, .int .i64 n] w fun e w' => e = .returned (.tuple #[.int .u32 ((if n < 32 then asrN n x else if x < 2147483648 then 0 else 4294967295 : Nat) : Int), .bool (if n < 32 then decide (x / 2 ^ (n - 1) % 2 = 1) else decide (2147483648 ≤ x))]) ∧ Below w.heap.size w w' := by
  have hs := sgn_range x (by omega) (by omega)
  have hw : IntKind.i64.wrap ((n : Int) - 1) = n - 1 := by rw [IntKind.wrap_i64]; omega
  by_cases h : n < 32
  · rw [if_pos h, if_pos h]
    refine gasr_0 x n ((n - 1 : Nat) : Int) (sgn x) _ _ w (fun w => gset_nat x (n - 1) w hx (by omega)) (by omega) (by omega) ?_ (wrap_i32 x (by omega) (by omega)) (wrap_32 x (by omega) (by omega)) hs.1 hs.2 ?_
    · show (if _ then _ else _) = _
      rw [hw, if_neg (by omega)]; omega
    · rw [show min (n : Int).toNat 32 = n by omega, asr_int x n hx]
  · rw [if_neg h, if_neg h, ← asr_big (show 31 ≤ 32 by decide) hx]
    refine gasr_0 x n 31 (sgn x) _ _ w (fun w => ?_) (by omega) (by omega) ?_ (wrap_i32 x (by omega) (by omega)) (wrap_32 x (by omega) (by omega)) hs.1 hs.2 ?_
    · have := gset_31 x w (by omega) (by omega)
      rwa [dec_top] at this
    · show (if 31 < IntKind.i64.wrap ((n : Int) - 1) then 31 else IntKind.i64.wrap ((n : Int) - 1)) = 31
      rw [hw]
      by_cases hh : 31 < (n : Int) - 1
      · rw [if_pos hh]
      · rw [if_neg hh]; omega
    · rw [show min (n : Int).toNat 32 = 32 by omega, asr_int x 32 hx]
end Go.Proofs.YtilhceajhlaojaaGreatDoor.Al
namespace Go.Proofs.YtilhceajhlaojaaGreatDoor.Al
open Go.RowKit
set_option linter.unusedVariables false
set_option linter.unusedSimpArgs false
set_option maxRecDepth 100000 in
set_option maxHeartbeats 1000000 in
theorem gshift_4 (x n V : Int) (t c : Bool) (w : World) (x0 : 0 ≤ x) (x1 : x < 4294967296) (h : Hid (∀ w, Calls Tryz.prog 31 #[.int .u32 x, .int .i64 0] w fun e w' => e = .returned (.bool t) ∧ w' = w)) (hV : bits .or .u32 (x / 2) (cI c * 2147483648) = V) :
    Calls Tryz.prog 101 #[.int .i64 4, .int .u32 x, .int .i64 n, .bool c] w fun e w' => e = .returned (.tuple #[.int .u32 V, .bool t]) ∧ Below w.heap.size w w' := by
  have HB : Hid (∀ w, Calls Tryz.prog 112 #[.bool c] w fun e w' => e = .returned (.int .u32 (cI c)) ∧ w' = w) := fun w => gbit_any c w
  have c0 : 0 ≤ cI c := by cases c <;> decide
  have c1 : cI c ≤ 1 := by cases c <;> decide
  generalize cI c = C at *
  have h31 : C * 2147483648 % 4294967296 = C * 2147483648 := by omega
  have h32 : IntKind.u32.wrap (C * 2147483648) = C * 2147483648 := by rw [IntKind.wrap_u32']; omega
  go_enter Tryz.func101, Tryz.ntmps101
  go_wp2_with (first | (go_at_call 112; refine (HB.out _).mono ?_; rintro e w' ⟨rfl, rfl⟩) | (go_at_call 31; refine (h.out _).mono ?_; rintro e w' ⟨rfl, rfl⟩))
  exact bodyPost_ret (v := .tuple #[.int .u32 V, .bool t]) (by simp [results, Tryz.results101, go_sem]) rfl ⟨rfl, Below.refl _ _⟩
set_option maxRecDepth 100000 in
set_option maxHeartbeats 1000000 in
theorem gshift_z (k x n : Int) (c : Bool) (w : World) (hk : ¬ k = 4) (hn : bits .and .i64 n 255 = 0) :
    Calls Tryz.prog 101 #[.int .i64 k, .int .u32 x, .int .i64 n, .bool c] w fun e w' => e = .returned (.tuple #[.int .u32 x, .bool c]) ∧ Below w.heap.size w w' := by
  have z4 : (k == 4) = false := by simp; omega
  clear hk
  go_enter Tryz.func101, Tryz.ntmps101
  go_wp2
  exact bodyPost_ret (v := .tuple #[.int .u32 x, .bool c]) (by simp [results, Tryz.results101, go_sem]) rfl ⟨rfl, Below.refl _ _⟩
set_option maxRecDepth 100000 in
set_option maxHeartbeats 1000000 in
theorem gshift_o (k x n m : Int) (c : Bool) (w : World) (hk : k < 0 ∨ 4 < k) (hn : bits .and .i64 n 255 = m) (hm : 1 ≤ m) :
    Calls Tryz.prog 101 #[.int .i64 k, .int .u32 x, .int .i64 n, .bool c] w fun e w' => e = .returned (.tuple #[.int .u32 x, .bool c]) ∧ Below w.heap.size w w' := by
  have z4 : (k == 4) = false := by simp; omega
  have z0 : (k == 0) = false := by simp; omega
  have z1 : (k == 1) = false := by simp; omega
  have z2 : (k == 2) = false := by simp; omega
  have z3 : (k == 3) = false := by simp; omega
  have zm : (m == 0) = false := by simp; omega
  clear hk hm
  go_enter Tryz.func101, Tryz.ntmps101
  go_wp2
  exact bodyPost_ret (v := .tuple #[.int .u32 x, .bool c]) (by simp [results, Tryz.results101, go_sem]) rfl ⟨rfl, Below.refl _ _⟩
set_option maxRecDepth 100000 in
set_option maxHeartbeats 1000000 in
theorem gshift_0 (x n m V : Int) (t c : Bool) (w : World) (hn : bits .and .i64 n 255 = m) (hm : 1 ≤ m) (h : Hid (∀ w, Calls Tryz.prog 113 #[.int .u32 x, .int .i64 m] w fun e w' => e = .returned (.tuple #[.int .u32 V, .bool t]) ∧ Below w.heap.size w w')) :
    Calls Tryz.prog 101 #[.int .i64 0, .int .u32 x, .int .i64 n, .bool c] w fun e w' => e = .returned (.tuple #[.int .u32 V, .bool t]) ∧ Below w.heap.size w w' := by
  have zm : (m == 0) = false := by simp; omega
  clear hm
  go_enter Tryz.func101, Tryz.ntmps101
  go_wp2_with (go_at_call 113; refine (h.out _).mono ?_; rintro e w' ⟨rfl, hb⟩)
  exact bodyPost_ret (v := .tuple #[.int .u32 V, .bool t]) (by simp [results, Tryz.results101, go_sem]) rfl ⟨rfl, hb⟩
set_option maxRecDepth 100000 in
set_option maxHeartbeats 1000000 in
theorem gshift_1 (x n m V : Int) (t c : Bool) (w : World) (hn : bits .and .i64 n 255 = m) (hm : 1 ≤ m) (h : Hid (∀ w, Calls Tryz.prog 114 #[.int .u32 x, .int .i64 m] w fun e w' => e = .returned (.tuple #[.int .u32 V, .bool t]) ∧ Below w.heap.size w w')) :
    Calls Tryz.prog 101 #[.int .i64 1, .int .u32 x, .int .i64 n, .bool c] w fun e w' => e = .returned (.tuple #[.int .u32 V, .bool t]) ∧ Below w.heap.size w w' := by
  have zm : (m == 0) = false := by simp; omega
  clear hm
  go_enter Tryz.func101, Tryz.ntmps101
  go_wp2_with (go_at_call 114; refine (h.out _).mono ?_; rintro e w' ⟨rfl, hb⟩)
  exact bodyPost_ret (v := .tuple #[.int .u32 V, .bool t]) (by simp [results, Tryz.results101, go_sem]) rfl ⟨rfl, hb⟩
set_option maxRecDepth 100000 in
set_option maxHeartbeats 1000000 in
theorem gshift_2 (x n m V : Int) (t c : Bool) (w : World) (hn : bits .and .i64 n 255 = m) (hm : 1 ≤ m) (h : Hid (∀ w, Calls Tryz.prog 115 #[.int .u32 x, .int .i64 m] w fun e w' => e = .returned (.tuple #[.int .u32 V, .bool t]) ∧ Below w.heap.size w w')) :
    Calls Tryz.prog 101 #[.int .i64 2, .int .u32 x, .int .i64 n, .bool c] w fun e w' => e = .returned (.tuple #[.int .u32 V, .bool t]) ∧ Below w.heap.size w w' := by
  have zm : (m == 0) = false := by simp; omega
  clear hm
  go_enter Tryz.func101, Tryz.ntmps101
  go_wp2_with (go_at_call 115; refine (h.out _).mono ?_; rintro e w' ⟨rfl, hb⟩)
  exact bodyPost_ret (v := .tuple #[.int .u32 V, .bool t]) (by simp [results, Tryz.results101, go_sem]) rfl ⟨rfl, hb⟩
set_option maxRecDepth 100000 in
set_option maxHeartbeats 1000000 in
theorem gshift_3 (x n m V : Int) (t c : Bool) (w : World) (hn : bits .and .i64 n 255 = m) (hm : 1 ≤ m) (hm2 : m ≤ 255) (h : Hid (∀ w, Calls Tryz.prog 106 #[.int .u32 x, .int .i64 (-m)] w fun e w' => e = .returned (.int .u32 V) ∧ w' = w)) (h2 : Hid (∀ w, Calls Tryz.prog 31 #[.int .u32 V, .int .i64 31] w fun e w' => e = .returned (.bool t) ∧ w' = w)) :
    Calls Tryz.prog 101 #[.int .i64 3, .int .u32 x, .int .i64 n, .bool c] w fun e w' => e = .returned (.tuple #[.int .u32 V, .bool t]) ∧ Below w.heap.size w w' := by
  have zm : (m == 0) = false := by simp; omega
  go_enter Tryz.func101, Tryz.ntmps101
  go_wp2_with (first | (go_at_call 106; refine (h.out _).mono ?_; rintro e w' ⟨rfl, rfl⟩) | (go_at_call 31; refine (h2.out _).mono ?_; rintro e w' ⟨rfl, rfl⟩))
  exact bodyPost_ret (v := .tuple #[.int .u32 V, .bool t]) (by simp [results, Tryz.results101, go_sem]) rfl ⟨rfl, Below.refl _ _⟩
theorem rrx_or (x : Nat) (c : Bool) (hx : x < 4294967296) : bits .or .u32 ((x : Int) / 2) (cI c * 2147483648) = ((x / 2 + (if c then 2147483648 else 0) : Nat) : Int) := by
  have h0 : ((x : Int) / 2) = ((x / 2 : Nat) : Int) := by simp
  cases c
  · rw [show cI false * 2147483648 = ((0 : Nat) : Int) by decide, h0, u32_or_nat _ _ (by omega) (by omega)]
    simp
  · rw [show cI true * 2147483648 = ((2147483648 : Nat) : Int) by decide, h0, u32_or_nat _ _ (by omega) (by omega)]
    have := or_high 31 1 (x / 2) (by simp; omega)
    rw [show (2 : Nat) ^ 31 * 1 = 2147483648 by decide] at this
    rw [this]
    simp
theorem gshift_any (k n : Int) (x : Nat) (c : Bool) (w : World) (hx : x < 4294967296) :
    Calls Tryz.prog 101 #[.int .i64 k, .int .u32 x, .int .i64 n, .bool c] w fun e w' => e = .returned (.tuple #[.int .u32 ((shX k x n c).1 : Nat), .bool (shX k x n c).2]) ∧ Below w.heap.size w w' := by
  have hA := i64_and255 n
  have hlt := rorK_lt
  unfold shX
  by_cases h4 : k = 4
  · subst h4
    rw [if_neg (by omega)]
    refine (gshift_4 x n ((x / 2 + (if c then 2147483648 else 0) : Nat) : Int) (fb x 0) c w (by omega) (by omega) (fun w => gset_nat x 0 w hx (by decide)) ?_).mono ?_
    · exact rrx_or x c hx
    · rintro e w' ⟨rfl, hb⟩
      refine ⟨?_, hb⟩
      simp [shW, shC, fb]
  by_cases hz : n % 256 = 0
  · refine (gshift_z k x n c w h4 (by rw [hA, hz])).mono ?_
    rintro e w' ⟨rfl, hb⟩
    refine ⟨?_, hb⟩
    split
    · rfl
    · rw [hz]
      have h44 : ¬ 4 < k.toNat := by omega
      have h45 : ¬ k.toNat = 4 := by omega
      simp [shW, shC, h44, h45]
  by_cases ho : k < 0 ∨ 4 < k
  · rw [if_pos ho]
    exact gshift_o k x n _ c w ho hA (by omega)
  rw [if_neg ho]
  have hM : n % 256 = ((n % 256).toNat : Int) := by omega
  have hM0 : 0 < (n % 256).toNat := by omega
  have hM1 : (n % 256).toNat < 256 := by omega
  generalize (n % 256).toNat = m at *
  rw [hM] at hA
  have e256 : m % 256 = m := by omega
  have ene : ¬ m = 0 := by omega
  rcases (show k = 0 ∨ k = 1 ∨ k = 2 ∨ k = 3 by omega) with rfl | rfl | rfl | rfl
  · refine (gshift_0 x n m _ _ c w hA (by omega) (fun w => gleft_any x m w hx hM0 hM1)).mono ?_
    rintro e w' ⟨rfl, hb⟩
    refine ⟨?_, hb⟩
    simp [shW, shC, e256, ene]
  · refine (gshift_1 x n m _ _ c w hA (by omega) (fun w => gright_any x m w hx hM0 hM1)).mono ?_
    rintro e w' ⟨rfl, hb⟩
    refine ⟨?_, hb⟩
    simp [shW, shC, e256, ene]
  · refine (gshift_2 x n m _ _ c w hA (by omega) (fun w => gasr_any x m w hx hM0 hM1)).mono ?_
    rintro e w' ⟨rfl, hb⟩
    refine ⟨?_, hb⟩
    simp [shW, shC, e256, ene]
  · have hr : rorK (32 - ((-(m : Int)) % 32).toNat) x = rorK (m % 32) x := by
      by_cases h0 : m % 32 = 0
      · rw [show ((-(m : Int)) % 32).toNat = 0 by omega, h0, rorK_0]
        exact rorK_32 x hx
      · rw [show 32 - ((-(m : Int)) % 32).toNat = m % 32 by omega]
    have hl := rorK_lt (m % 32) x (by omega) hx
    refine (gshift_3 x n m ((rorK (m % 32) x : Nat) : Int) (decide (2147483648 ≤ rorK (m % 32) x)) c w hA (by omega) (by omega) (fun w => ?_) (fun w => ?_)).mono ?_
    · have := grot_any x (-(m : Int)) w hx
      rwa [hr] at this
    · have := gset_31 (rorK (m % 32) x : Nat) w (by omega) (by omega)
      rwa [dec_top] at this
    rintro e w' ⟨rfl, hb⟩
    refine ⟨?_, hb⟩
    simp [shW, shC, e256, ene]
end Go.Proofs.YtilhceajhlaojaaGreatDoor.Al
namespace Go.Proofs.YtilhceajhlaojaaGreatDoor.Al
open Go.RowKit
set_option linter.unusedVariables false
set_option linter.unusedSimpArgs false
theorem gset_fb (x : Nat) (i : Int) (w : World) (hx : x < 4294967296) (hi : 0 ≤ i ∧ i < 32) :
    Calls Tryz.prog 31 #[.int .u32 x, .int .i64 i] w fun e w' => e = .returned (.bool (fb x i.toNat)) ∧ w' = w := by
  obtain ⟨I, rfl⟩ := Int.eq_ofNat_of_zero_le hi.1
  exact gset_nat x I w hx (by omega)
set_option maxRecDepth 100000 in
theorem gflags_any (x : Nat) (w : World) (hx : x < 4294967296) :
    Calls Tryz.prog 14 #[.int .u32 x] w fun e w' => e = .returned (.agg #[.bool (fb x 31), .bool (fb x 30), .bool (fb x 29), .bool (fb x 28)]) ∧ Below w.heap.size w w' := by
  have HB : Hid (∀ i w, 0 ≤ i ∧ i < 32 → Calls Tryz.prog 31 #[.int .u32 x, .int .i64 i] w fun e w' => e = .returned (.bool (fb x i.toNat)) ∧ w' = w) := fun i w hi => gset_fb x i w hx hi
  clear hx
  go_enter Tryz.func14, Tryz.ntmps14
  go_wp2_with (go_at_call 31; refine (HB.out _ _ (by omega)).mono ?_; rintro e w' ⟨rfl, rfl⟩)
  refine bodyPost_ret (v := .agg #[.bool (fb x 31), .bool (fb x 30), .bool (fb x 29), .bool (fb x 28)]) (by simp [results, Tryz.results14, go_sem]) rfl ⟨rfl, ?_⟩
  (repeat (first | apply below_drew | refine Below.setCell ?_ (by simp) _ | refine Below.alloc ?_ (by simp) _)); exact Below.refl _ _
end Go.Proofs.YtilhceajhlaojaaGreatDoor.Al
namespace Go.Proofs.YtilhceajhlaojaaGreatDoor.Al
open Go.RowKit
set_option linter.unusedVariables false
set_option linter.unusedSimpArgs false
theorem cI_range (c : Bool) : 0 ≤ cI c ∧ cI c ≤ 1 := by cases c <;> decide
theorem bI_cI (c : Bool) (k : Int) : bI c k = cI c * k := by cases c <;> simp [bI, cI]
theorem word_or (N Z C V : Int) (n0 : 0 ≤ N ∧ N ≤ 1) (z0 : 0 ≤ Z ∧ Z ≤ 1) (c0 : 0 ≤ C ∧ C ≤ 1) (v0 : 0 ≤ V ∧ V ≤ 1) :
    bits .or .u32 (N * 2147483648) (Z * 1073741824) = N * 2147483648 + Z * 1073741824 ∧
    bits .or .u32 (N * 2147483648 + Z * 1073741824) (C * 536870912) = N * 2147483648 + Z * 1073741824 + C * 536870912 ∧
    bits .or .u32 (N * 2147483648 + Z * 1073741824 + C * 536870912) (V * 268435456) = N * 2147483648 + Z * 1073741824 + C * 536870912 + V * 268435456 :=
  ⟨or_low 31 _ _ N (by rw [show (2 : Int) ^ 31 = 2147483648 by decide]; omega) n0.1 (by omega) (by omega) (by rw [show (2 : Int) ^ 31 = 2147483648 by decide]; omega) (by decide),
   or_low 30 _ _ (N * 2 + Z) (by rw [show (2 : Int) ^ 30 = 1073741824 by decide]; omega) (by omega) (by omega) (by omega) (by rw [show (2 : Int) ^ 30 = 1073741824 by decide]; omega) (by decide),
   or_low 29 _ _ (N * 4 + Z * 2 + C) (by rw [show (2 : Int) ^ 29 = 536870912 by decide]; omega) (by omega) (by omega) (by omega) (by rw [show (2 : Int) ^ 29 = 536870912 by decide]; omega) (by decide)⟩
set_option maxRecDepth 100000 in
set_option maxHeartbeats 1000000 in
theorem gword_any (f : Fl) (w : World) :
    Calls Tryz.prog 104 #[.agg #[.bool f.n, .bool f.z, .bool f.c, .bool f.v]] w fun e w' => e = .returned (.int .u32 (wdW f)) ∧ Below w.heap.size w w' := by
  obtain ⟨n, z, c, v⟩ := f
  have HB : Hid (∀ b w, Calls Tryz.prog 112 #[.bool b] w fun e w' => e = .returned (.int .u32 (cI b)) ∧ w' = w) := fun b w => gbit_any b w
  have hn := cI_range n
  have hz := cI_range z
  have hc := cI_range c
  have hv := cI_range v
  obtain ⟨o1, o2, o3⟩ := word_or (cI n) (cI z) (cI c) (cI v) hn hz hc hv
  have HV : Hid (cI n * 2147483648 + cI z * 1073741824 + cI c * 536870912 + cI v * 268435456 = wdW ⟨n, z, c, v⟩) := by
    show _ = wdW _
    unfold wdW
    rw [bI_cI, bI_cI, bI_cI, bI_cI]
    dsimp only
    omega
  have t1 : cI n * 2147483648 % 4294967296 = cI n * 2147483648 := by omega
  have t2 : cI z * 1073741824 % 4294967296 = cI z * 1073741824 := by omega
  have t3 : cI c * 536870912 % 4294967296 = cI c * 536870912 := by omega
  have t4 : cI v * 268435456 % 4294967296 = cI v * 268435456 := by omega
  have u1 : IntKind.u32.wrap (cI n * 2147483648) = cI n * 2147483648 := by rw [IntKind.wrap_u32']; omega
  have u2 : IntKind.u32.wrap (cI z * 1073741824) = cI z * 1073741824 := by rw [IntKind.wrap_u32']; omega
  have u3 : IntKind.u32.wrap (cI c * 536870912) = cI c * 536870912 := by rw [IntKind.wrap_u32']; omega
  have u4 : IntKind.u32.wrap (cI v * 268435456) = cI v * 268435456 := by rw [IntKind.wrap_u32']; omega
  have HN : Hid (∀ o, Below w.heap.size w (w.alloc o)) := below_new w
  have HT : Hid (∀ (l : List Value) t, Bl (w.alloc (.cells l.toArray t)) w.heap.size t l) := fun l t => Bl.new w t l
  go_enter Tryz.func104, Tryz.ntmps104
  go_wp2_with fail
  have S1 := HT.out [.bool n, .bool z, .bool c, .bool v] 40
  have S3 : Hid (Below _ _ _) := HN.out (.cells #[.bool n, .bool z, .bool c, .bool v] 40)
  clear HT HN
  generalize (w.alloc _) = w2 at S1 S3 ⊢
  obtain ⟨⟨c0, c1, c2, c3⟩, -⟩ := S1.four
  clear S1
  go_quiet ((go_at_call 112; exact Calls.quiet_of_same (HB.out _ _)))
  go_wp2_with fail
  go_ret
  exact ⟨by rw [← HV.out]; rfl, below_drewN S3.out _⟩
end Go.Proofs.YtilhceajhlaojaaGreatDoor.Al
namespace Go.Proofs.YtilhceajhlaojaaGreatDoor
open Go.RowKit
set_option linter.unusedVariables false
set_option linter.unusedSimpArgs false
theorem RB.turn {S : Nat → Prop} {w w' : World} {b : Nat} {t : TypeId} {R : List Int} {E : List Value} (h : RB w b t R E) (hb : Turn S w w') (hn : ¬ S b) : RB w' b t R E := ⟨h.ok, h.bl.turn hb hn⟩
theorem nat_of {x : Int} (h : 0 ≤ x ∧ x < 4294967296) : ((x.toNat : Nat) : Int) = x ∧ x.toNat < 4294967296 := by omega
theorem wd_top (f : Fl) : ∃ k : Int, Al.wdW f = k * 268435456 ∧ 0 ≤ k ∧ k < 16 := by
  obtain ⟨n, z, c, v⟩ := f
  refine ⟨(if v then 1 else 0) + (if c then 2 else 0) + (if z then 4 else 0) + (if n then 8 else 0), ?_, ?_, ?_⟩ <;> cases n <;> cases z <;> cases c <;> cases v <;> decide
theorem or_top (x k : Int) (x0 : 0 ≤ x) (x1 : x < 268435456) (k0 : 0 ≤ k) (k1 : k < 16) : bits .or .u32 x (k * 268435456) = x + k * 268435456 := by
  obtain ⟨X, rfl⟩ := Int.eq_ofNat_of_zero_le x0
  obtain ⟨K, rfl⟩ := Int.eq_ofNat_of_zero_le k0
  have e : ((K : Int) * 268435456) = ((2 ^ 28 * K : Nat) : Int) := by omega
  rw [e, u32_or_nat X _ (by omega) (by omega), Nat.or_comm, ← Nat.two_pow_add_eq_or_of_lt (by omega) K]
  omega
set_option maxRecDepth 100000 in
theorem gflagsR (w : World) (b : Nat) (R : List Int) (h : RS w b R) : Calls Tryz.prog 57 #[.pointer (some ⟨b, 0, none⟩)] w fun e w' => e = .returned (.agg #[.bool (flR R).n, .bool (flR R).z, .bool (flR R).c, .bool (flR R).v]) ∧ Below w.heap.size w w' := by
  have c29 := h.cell 29 (by decide)
  have HF : Hid (∀ w, Calls Tryz.prog 14 #[.int .u32 (rg R 29)] w fun e w' => e = .returned (.agg #[.bool (flR R).n, .bool (flR R).z, .bool (flR R).c, .bool (flR R).v]) ∧ Below w.heap.size w w') := fun w => by
    have := Al.gflags_any (rg R 29).toNat w (nat_of (h.ok.rng 29)).2
    rw [(nat_of (h.ok.rng 29)).1] at this
    exact this
  have HS := hidW h
  generalize rg R 29 = x at *
  generalize flR R = f at *
  obtain ⟨fn, fz, fc, fv⟩ := f
  have HN : Hid (∀ o, Below w.heap.size w (w.alloc o)) := below_new w
  have hl := HS.out.cell 0 (by decide)
  have hc : ∀ o, (w.alloc o).cell? ⟨b, 29, none⟩ = some (.int .u32 x) := fun o => cell_keep c29 (HN.out o)
  clear h c29 hl
  go_enter Tryz.func57, Tryz.ntmps57
  have c29 := hc (.cells #[.bool false, .bool false, .bool false, .bool false] 40)
  go_wp2_with (first | (go_at_call 14; refine (HF.out _).mono ?_; rintro e w1 ⟨rfl, hb⟩; have HT := hidW (Bl.below (Bl.new w 40 [.bool false, .bool false, .bool false, .bool false]) hb); have HL := hidW (Below.step (below_new w _) hb); obtain ⟨⟨k0, k1, k2, k3⟩, f0, f1, f2, f3⟩ := HT.out.four))
  obtain ⟨k0, k1, k2, k3⟩ := (((((HT.out.set 0 (.bool fn)).set 1 (.bool fz)).set 2 (.bool fc)).set 3 (.bool fv)).four).1
  have HB : Below w.heap.size w ((((w1.setCell ⟨w.heap.size, 0, none⟩ (.bool fn)).setCell ⟨w.heap.size, 1, none⟩ (.bool fz)).setCell ⟨w.heap.size, 2, none⟩ (.bool fc)).setCell ⟨w.heap.size, 3, none⟩ (.bool fv)) := (((HL.out.setCell (Nat.le_refl _) _).setCell (Nat.le_refl _) _).setCell (Nat.le_refl _) _).setCell (Nat.le_refl _) _
  generalize ((((w1.setCell ⟨w.heap.size, 0, none⟩ (.bool fn)).setCell ⟨w.heap.size, 1, none⟩ (.bool fz)).setCell ⟨w.heap.size, 2, none⟩ (.bool fc)).setCell ⟨w.heap.size, 3, none⟩ (.bool fv)) = w5 at *
  exact bodyPost_ret (v := .agg #[.bool fn, .bool fz, .bool fc, .bool fv]) (by simp [results, Tryz.results57, go_sem, k0, k1, k2, k3]) rfl ⟨rfl, HB⟩
/-- The state while the flags are put: the box, and CPSR. -/
structure FX (W v : World) (q b : Nat) (x : Int) (L : List Value) : Prop where
  bel : Below W.heap.size W v
  box : Bl v q 40 L
  cell : v.cell? ⟨b, 29, none⟩ = some (.int .u32 x)
  frz : v.frozen? ⟨b, 29, none⟩ = false
theorem frz_keep {w w' : World} {p : Addr} {v : Value} (hl : w.cell? p = some v) (h : w.frozen? p = false) (hb : Below w.heap.size w w') : w'.frozen? p = false := by
  unfold World.frozen?
  rw [hb.block _ (cell_lt hl)]
  exact h
theorem FX.step {W v v' : World} {q b : Nat} {x : Int} {L : List Value} (h : FX W v q b x L) (hb : Below v.heap.size v v') : FX W v' q b x L :=
  ⟨Below.step h.bel hb, h.box.below hb, cell_keep h.cell hb, frz_keep h.cell h.frz hb⟩
theorem FX.drew {W v : World} {q b : Nat} {x : Int} {L : List Value} (h : FX W v q b x L) : FX W v.drew q b x L := ⟨below_drew h.bel, h.box.drew, h.cell, h.frz⟩
theorem FX.first {w : World} {b : Nat} {x : Int} (L : List Value) (h : w.cell? ⟨b, 29, none⟩ = some (.int .u32 x)) (hf : w.frozen? ⟨b, 29, none⟩ = false) : FX w (w.alloc (.cells L.toArray 40)) w.heap.size b x L :=
  ⟨below_new _ _, Bl.new _ _ _, cell_keep h (below_new _ _), frz_keep h hf (below_new _ _)⟩
set_option maxRecDepth 100000 in
theorem gsetFlags (w : World) (b : Nat) (t : TypeId) (R : List Int) (E : List Value) (f : Fl) (h : RB w b t R E) : Calls Tryz.prog 85 #[.pointer (some ⟨b, 0, none⟩), .agg #[.bool f.n, .bool f.z, .bool f.c, .bool f.v]] w fun e w' => e = .returned (.tuple #[]) ∧ TA b w w' ∧ RB w' b t (sfR R f) E := by
  have c29 := h.rs.cell 29 (by decide)
  have hf29 := h.rs.frz 29
  have hx := h.ok.rng 29
  have HW : Hid (∀ w, Calls Tryz.prog 104 #[.agg #[.bool f.n, .bool f.z, .bool f.c, .bool f.v]] w fun e w' => e = .returned (.int .u32 (Al.wdW f)) ∧ Below w.heap.size w w') := fun w => Al.gword_any f w
  have e1 : bits .andNot .u32 (rg R 29) 4026531840 = rg R 29 % 268435456 := andNotF _ hx
  obtain ⟨k, hk, hk0, hk1⟩ := wd_top f
  have e2 : bits .or .u32 (rg R 29 % 268435456) (Al.wdW f) = rg R 29 % 268435456 + Al.wdW f := by
    rw [hk]
    exact or_top _ k (by omega) (by omega) hk0 hk1
  have hv : 0 ≤ rg R 29 % 268435456 + Al.wdW f ∧ rg R 29 % 268435456 + Al.wdW f < 4294967296 := by omega
  clear hk hk0 hk1 k
  have HE : Hid (∀ w', Below w.heap.size w w' → TA b w (w'.setCell ⟨b, 29, none⟩ (.int .u32 (rg R 29 % 268435456 + Al.wdW f))) ∧ RB (w'.setCell ⟨b, 29, none⟩ (.int .u32 (rg R 29 % 268435456 + Al.wdW f))) b t (sfR R f) E) := fun w' hb => ⟨ta_put hb, (h.below hb).put (k := 29) (by decide) hv⟩
  generalize rg R 29 % 268435456 + Al.wdW f = z at *
  generalize rg R 29 % 268435456 = y at *
  generalize rg R 29 = x at *
  generalize Al.wdW f = u at *
  obtain ⟨fn, fz, fc, fv⟩ := f
  clear h hx hv
  have hbl := cell_lt c29
  have HX := hidW (FX.first (w := w) [.bool fn, .bool fz, .bool fc, .bool fv] c29 hf29)
  clear c29 hf29
  go_enter Tryz.func85, Tryz.ntmps85
  go_wp2
  change Hid (FX w (w.alloc (.cells #[.bool fn, .bool fz, .bool fc, .bool fv] 40)) _ _ _ _) at HX
  have hqb : Hid (w.heap.size ≠ b) := hidW (by omega)
  generalize w.heap.size = q at HX hqb ⊢
  generalize w.alloc (.cells #[.bool fn, .bool fz, .bool fc, .bool fv] 40) = w1 at HX ⊢
  have HX := hidW HX.out.drew
  refine wp_region_held_drew (S := fun w' => w'.cell? ⟨q, 0, none⟩ = some (.bool fn) ∧ w'.cell? ⟨q, 1, none⟩ = some (.bool fz) ∧ w'.cell? ⟨q, 2, none⟩ = some (.bool fc) ∧ w'.cell? ⟨q, 3, none⟩ = some (.bool fv)) (by kernel_rfl) HX.out.box.four.1 (fun hHeld => ?_)
  clear hHeld
  have K2 := hidW HX.out.box.four.1
  have c29 := HX.out.cell
  refine wpAnyH_take (i := 0) (oi := { dst := some 4, op := Op.move (Operand.tmp 0), type := 125, pos := _, after := #[], guard := none }) (v := ?_) rfl (by kernel_rfl) (by kernel_rfl) (by kernel_rfl) (fun _ _ _ h => h) (Or.inl ⟨by rfl, ?_⟩) (by assumption) ?_
  rotate_left
  · (intro w hSw; (try dsimp only at hSw); go_simp; try with_reducible rfl)
  simp only [Act.put, List.setIfInBounds_toArray, List.set_cons_zero, List.set_cons_succ]
  refine wpAnyH_take (i := 1) (oi := { dst := some 5, op := Op.move (Operand.tmp 0), type := 125, pos := _, after := #[], guard := none }) (v := ?_) rfl (by kernel_rfl) (by kernel_rfl) (by kernel_rfl) (fun _ _ _ h => h) (Or.inl ⟨by rfl, ?_⟩) (by assumption) ?_
  rotate_left
  · (intro w hSw; (try dsimp only at hSw); go_simp; try with_reducible rfl)
  simp only [Act.put, List.setIfInBounds_toArray, List.set_cons_zero, List.set_cons_succ]
  refine wpAnyH_take (i := 2) (oi := { dst := some 6, op := Op.nilCheck (Operand.tmp 5), type := 0, pos := _, after := #[{ on := 1, ground := Ground.data }], guard := none }) (v := ?_) rfl (by kernel_rfl) (by kernel_rfl) (by kernel_rfl) (fun _ _ _ h => h) (Or.inl ⟨by rfl, ?_⟩) (by assumption) ?_
  rotate_left
  · (intro w hSw; (try dsimp only at hSw); go_simp; try with_reducible rfl)
  simp only [Act.put, List.setIfInBounds_toArray, List.set_cons_zero, List.set_cons_succ]
  refine wpAnyH_take (i := 3) (oi := { dst := some 7, op := Op.fieldAddr 84 (Operand.tmp 6) 5, type := 0, pos := _, after := #[{ on := 2, ground := Ground.data }], guard := none }) (v := ?_) rfl (by kernel_rfl) (by kernel_rfl) (by kernel_rfl) (fun _ _ _ h => h) (Or.inl ⟨by rfl, ?_⟩) (by assumption) ?_
  rotate_left
  · (intro w hSw; (try dsimp only at hSw); go_simp; try with_reducible rfl)
  simp only [Act.put, List.setIfInBounds_toArray, List.set_cons_zero, List.set_cons_succ]
  refine wpAnyH_take (i := 6) (oi := { dst := some 10, op := Op.load 40 (Operand.tmp 3), type := 40, pos := _, after := #[], guard := none }) (v := ?_) rfl (by kernel_rfl) (by kernel_rfl) (by kernel_rfl) (fun _ _ _ h => h) (Or.inl ⟨by rfl, ?_⟩) (by assumption) ?_
  rotate_left
  · (intro w hSw; (try dsimp only at hSw); go_simp; try with_reducible rfl)
  simp only [Act.put, List.setIfInBounds_toArray, List.set_cons_zero, List.set_cons_succ]
  refine wpAnyH_ready (rs := [4, 7]) (by kernel_rfl) (by simp) ?_
  refine (AllReadyH.cons (o := { dst := some 8, op := Op.load 22 (Operand.tmp 7), type := 22, pos := _, after := #[{ on := 3, ground := Ground.data }], guard := none }) rfl (fun K hK => ?_) (AllReadyH.cons (o := { dst := some 11, op := Op.call { callee := Callee.value (Operand.func 104), args := #[Operand.tmp 10], argTypes := #[40] }, type := 22, pos := _, after := #[{ on := 6, ground := Ground.data }], guard := none }) rfl (fun K hK => ?_) AllReadyH.nil))
  · go_simp
    skip
    refine hK.out _ _ ?_ (fun hHeld => ?_)
    · ((try dsimp only); with_reducible exact HX.out.box.four.1)
    clear hK K
    try simp only [Act.put, List.setIfInBounds_toArray, List.set_cons_zero, List.set_cons_succ]
    refine wpAnyH_take (i := 5) (oi := { dst := some 9, op := Op.binOp BinOp.andNot 22 (Operand.tmp 8) (Operand.const (Value.int IntKind.u32 4026531840)) 22, type := 22, pos := _, after := #[{ on := 4, ground := Ground.data }], guard := none }) (v := ?_) rfl (by kernel_rfl) (by kernel_rfl) (by kernel_rfl) (fun _ _ _ h => h) (Or.inl ⟨by rfl, ?_⟩) (by assumption) ?_
    rotate_left
    · (intro w hSw; (try dsimp only at hSw); go_simp; try with_reducible rfl)
    simp only [Act.put, List.setIfInBounds_toArray, List.set_cons_zero, List.set_cons_succ]
    refine wpAnyH_ready (rs := [7]) (by kernel_rfl) (by simp) ?_
    refine (AllReadyH.cons (o := { dst := some 11, op := Op.call { callee := Callee.value (Operand.func 104), args := #[Operand.tmp 10], argTypes := #[40] }, type := 22, pos := _, after := #[{ on := 6, ground := Ground.data }], guard := none }) rfl (fun K hK => ?_) AllReadyH.nil)
    go_simp
    go_at_call 104; refine (HW.out _).mono ?_; rintro e w2 ⟨rfl, hb⟩; have HX := hidW (HX.out.step hb); have K2 := hidW HX.out.box.four.1; clear c29; have c29 := HX.out.cell; have f29 := HX.out.frz; have HR := hidW (HE.out _ HX.out.bel); clear hb
    refine hK.out _ _ ?_ (fun hHeld => ?_)
    · ((try dsimp only); with_reducible exact HX.out.box.four.1)
    clear hK K
    try simp only [Act.put, List.setIfInBounds_toArray, List.set_cons_zero, List.set_cons_succ]
    refine wpAnyH_take (i := 8) (oi := { dst := some 12, op := Op.binOp BinOp.or 22 (Operand.tmp 9) (Operand.tmp 11) 22, type := 22, pos := _, after := #[{ on := 5, ground := Ground.data }, { on := 7, ground := Ground.data }], guard := none }) (v := ?_) rfl (by kernel_rfl) (by kernel_rfl) (by kernel_rfl) (fun _ _ _ h => h) (Or.inl ⟨by rfl, ?_⟩) (by assumption) ?_
    rotate_left
    · (intro w hSw; (try dsimp only at hSw); go_simp; try with_reducible rfl)
    simp only [Act.put, List.setIfInBounds_toArray, List.set_cons_zero, List.set_cons_succ]
    refine wpAnyH_take (i := 9) (oi := { dst := some 13, op := Op.nilCheck (Operand.tmp 4), type := 0, pos := _, after := #[{ on := 0, ground := Ground.data }, { on := 0, ground := Ground.phase }, { on := 1, ground := Ground.phase }, { on := 2, ground := Ground.phase }, { on := 3, ground := Ground.phase }, { on := 4, ground := Ground.phase }, { on := 5, ground := Ground.phase }, { on := 6, ground := Ground.phase }, { on := 7, ground := Ground.phase }, { on := 8, ground := Ground.phase }], guard := none }) (v := ?_) rfl (by kernel_rfl) (by kernel_rfl) (by kernel_rfl) (fun _ _ _ h => h) (Or.inl ⟨by rfl, ?_⟩) (by assumption) ?_
    rotate_left
    · (intro w hSw; (try dsimp only at hSw); go_simp; try with_reducible rfl)
    simp only [Act.put, List.setIfInBounds_toArray, List.set_cons_zero, List.set_cons_succ]
    refine wpAnyH_take (i := 10) (oi := { dst := some 14, op := Op.fieldAddr 84 (Operand.tmp 13) 5, type := 0, pos := _, after := #[{ on := 9, ground := Ground.data }, { on := 0, ground := Ground.phase }, { on := 1, ground := Ground.phase }, { on := 2, ground := Ground.phase }, { on := 3, ground := Ground.phase }, { on := 4, ground := Ground.phase }, { on := 5, ground := Ground.phase }, { on := 6, ground := Ground.phase }, { on := 7, ground := Ground.phase }, { on := 8, ground := Ground.phase }], guard := none }) (v := ?_) rfl (by kernel_rfl) (by kernel_rfl) (by kernel_rfl) (fun _ _ _ h => h) (Or.inl ⟨by rfl, ?_⟩) (by assumption) ?_
    rotate_left
    · (intro w hSw; (try dsimp only at hSw); go_simp; try with_reducible rfl)
    simp only [Act.put, List.setIfInBounds_toArray, List.set_cons_zero, List.set_cons_succ]
    refine wpAnyH_ready (rs := [11]) (by kernel_rfl) (by simp) ?_
    refine (AllReadyH.cons (o := { dst := none, op := Op.store 22 (Operand.tmp 14) (Operand.tmp 12), type := 0, pos := _, after := #[{ on := 10, ground := Ground.data }, { on := 8, ground := Ground.data }, { on := 7, ground := Ground.chain }, { on := 0, ground := Ground.phase }, { on := 1, ground := Ground.phase }, { on := 2, ground := Ground.phase }, { on := 3, ground := Ground.phase }, { on := 4, ground := Ground.phase }, { on := 5, ground := Ground.phase }, { on := 6, ground := Ground.phase }, { on := 7, ground := Ground.phase }, { on := 8, ground := Ground.phase }], guard := none }) rfl (fun K hK => ?_) AllReadyH.nil)
    go_simp
    skip
    refine hK.out _ _ ?_ (fun hHeld => ?_)
    · ((try dsimp only); exact (HX.out.box.set_ne hqb.out 29 _).four.1)
    clear hK K
    try simp only [Act.put, List.setIfInBounds_toArray, List.set_cons_zero, List.set_cons_succ]
    refine wpAnyH_done (by kernel_rfl) ?_ _
    (go_wp2_with fail); exact bodyPost_end (v := .tuple #[]) (by simp [results, Tryz.results85, go_sem]) rfl ⟨rfl, HR.out⟩
  · go_simp
    go_at_call 104; refine (HW.out _).mono ?_; rintro e w2 ⟨rfl, hb⟩; have HX := hidW (HX.out.step hb); have K2 := hidW HX.out.box.four.1; clear c29; have c29 := HX.out.cell; have f29 := HX.out.frz; have HR := hidW (HE.out _ HX.out.bel); clear hb
    refine hK.out _ _ ?_ (fun hHeld => ?_)
    · ((try dsimp only); with_reducible exact HX.out.box.four.1)
    clear hK K
    try simp only [Act.put, List.setIfInBounds_toArray, List.set_cons_zero, List.set_cons_succ]
    refine wpAnyH_ready (rs := [4]) (by kernel_rfl) (by simp) ?_
    refine (AllReadyH.cons (o := { dst := some 8, op := Op.load 22 (Operand.tmp 7), type := 22, pos := _, after := #[{ on := 3, ground := Ground.data }], guard := none }) rfl (fun K hK => ?_) AllReadyH.nil)
    go_simp
    skip
    refine hK.out _ _ ?_ (fun hHeld => ?_)
    · ((try dsimp only); with_reducible exact HX.out.box.four.1)
    clear hK K
    try simp only [Act.put, List.setIfInBounds_toArray, List.set_cons_zero, List.set_cons_succ]
    refine wpAnyH_take (i := 5) (oi := { dst := some 9, op := Op.binOp BinOp.andNot 22 (Operand.tmp 8) (Operand.const (Value.int IntKind.u32 4026531840)) 22, type := 22, pos := _, after := #[{ on := 4, ground := Ground.data }], guard := none }) (v := ?_) rfl (by kernel_rfl) (by kernel_rfl) (by kernel_rfl) (fun _ _ _ h => h) (Or.inl ⟨by rfl, ?_⟩) (by assumption) ?_
    rotate_left
    · (intro w hSw; (try dsimp only at hSw); go_simp; try with_reducible rfl)
    simp only [Act.put, List.setIfInBounds_toArray, List.set_cons_zero, List.set_cons_succ]
    refine wpAnyH_take (i := 8) (oi := { dst := some 12, op := Op.binOp BinOp.or 22 (Operand.tmp 9) (Operand.tmp 11) 22, type := 22, pos := _, after := #[{ on := 5, ground := Ground.data }, { on := 7, ground := Ground.data }], guard := none }) (v := ?_) rfl (by kernel_rfl) (by kernel_rfl) (by kernel_rfl) (fun _ _ _ h => h) (Or.inl ⟨by rfl, ?_⟩) (by assumption) ?_
    rotate_left
    · (intro w hSw; (try dsimp only at hSw); go_simp; try with_reducible rfl)
    simp only [Act.put, List.setIfInBounds_toArray, List.set_cons_zero, List.set_cons_succ]
    refine wpAnyH_take (i := 9) (oi := { dst := some 13, op := Op.nilCheck (Operand.tmp 4), type := 0, pos := _, after := #[{ on := 0, ground := Ground.data }, { on := 0, ground := Ground.phase }, { on := 1, ground := Ground.phase }, { on := 2, ground := Ground.phase }, { on := 3, ground := Ground.phase }, { on := 4, ground := Ground.phase }, { on := 5, ground := Ground.phase }, { on := 6, ground := Ground.phase }, { on := 7, ground := Ground.phase }, { on := 8, ground := Ground.phase }], guard := none }) (v := ?_) rfl (by kernel_rfl) (by kernel_rfl) (by kernel_rfl) (fun _ _ _ h => h) (Or.inl ⟨by rfl, ?_⟩) (by assumption) ?_
    rotate_left
    · (intro w hSw; (try dsimp only at hSw); go_simp; try with_reducible rfl)
    simp only [Act.put, List.setIfInBounds_toArray, List.set_cons_zero, List.set_cons_succ]
    refine wpAnyH_take (i := 10) (oi := { dst := some 14, op := Op.fieldAddr 84 (Operand.tmp 13) 5, type := 0, pos := _, after := #[{ on := 9, ground := Ground.data }, { on := 0, ground := Ground.phase }, { on := 1, ground := Ground.phase }, { on := 2, ground := Ground.phase }, { on := 3, ground := Ground.phase }, { on := 4, ground := Ground.phase }, { on := 5, ground := Ground.phase }, { on := 6, ground := Ground.phase }, { on := 7, ground := Ground.phase }, { on := 8, ground := Ground.phase }], guard := none }) (v := ?_) rfl (by kernel_rfl) (by kernel_rfl) (by kernel_rfl) (fun _ _ _ h => h) (Or.inl ⟨by rfl, ?_⟩) (by assumption) ?_
    rotate_left
    · (intro w hSw; (try dsimp only at hSw); go_simp; try with_reducible rfl)
    simp only [Act.put, List.setIfInBounds_toArray, List.set_cons_zero, List.set_cons_succ]
    refine wpAnyH_ready (rs := [11]) (by kernel_rfl) (by simp) ?_
    refine (AllReadyH.cons (o := { dst := none, op := Op.store 22 (Operand.tmp 14) (Operand.tmp 12), type := 0, pos := _, after := #[{ on := 10, ground := Ground.data }, { on := 8, ground := Ground.data }, { on := 7, ground := Ground.chain }, { on := 0, ground := Ground.phase }, { on := 1, ground := Ground.phase }, { on := 2, ground := Ground.phase }, { on := 3, ground := Ground.phase }, { on := 4, ground := Ground.phase }, { on := 5, ground := Ground.phase }, { on := 6, ground := Ground.phase }, { on := 7, ground := Ground.phase }, { on := 8, ground := Ground.phase }], guard := none }) rfl (fun K hK => ?_) AllReadyH.nil)
    go_simp
    skip
    refine hK.out _ _ ?_ (fun hHeld => ?_)
    · ((try dsimp only); exact (HX.out.box.set_ne hqb.out 29 _).four.1)
    clear hK K
    try simp only [Act.put, List.setIfInBounds_toArray, List.set_cons_zero, List.set_cons_succ]
    refine wpAnyH_done (by kernel_rfl) ?_ _
    (go_wp2_with fail); exact bodyPost_end (v := .tuple #[]) (by simp [results, Tryz.results85, go_sem]) rfl ⟨rfl, HR.out⟩
end Go.Proofs.YtilhceajhlaojaaGreatDoor
