import Derived.Test.YtdelcknpaldngabGg
namespace Go.Proofs.Ytdelcknpaldngab
open Go.RowKit
set_option linter.unusedVariables false
set_option linter.unusedSimpArgs false
set_option maxRecDepth 100000 in
set_option maxHeartbeats 1000000 in
theorem ghalves_any (x : Int) (w : World) (h0 : 0 ≤ x) (h1 : x < 18446744073709551616) :
    Calls Try.prog 36 #[.int .u64 x] w fun e w' => e = .returned (.tuple #[.int .u32 (x / 4294967296), .int .u32 (x % 4294967296), .bool true]) ∧ w' = w := by
  have e1 : IntKind.u32.wrap (x / 4294967296) = x / 4294967296 := by rw [IntKind.wrap_u32']; omega
  have e2 : IntKind.u32.wrap x = x % 4294967296 := by rw [IntKind.wrap_u32']
  generalize x % 4294967296 = L at *
  go_enter Try.func36, Try.ntmps36
  go_wp2
  exact bodyPost_ret (v := .tuple #[.int .u32 (x / 4294967296), .int .u32 L, .bool true]) (by simp [results, Try.results36, go_sem]) rfl ⟨rfl, rfl⟩
theorem acc_or (h l : Int) (h0 : 0 ≤ h) (h1 : h < 4294967296) (l0 : 0 ≤ l) (l1 : l < 4294967296) : bits .or .u64 (h * 4294967296) l = h * 4294967296 + l := by
  obtain ⟨A, rfl⟩ := Int.eq_ofNat_of_zero_le h0
  obtain ⟨B, rfl⟩ := Int.eq_ofNat_of_zero_le l0
  rw [show (A : Int) * 4294967296 = ((2 ^ 32 * A : Nat) : Int) by simp; omega, u64_or_nat _ _ (by omega) (by omega), ← Nat.two_pow_add_eq_or_of_lt (by omega)]
  simp
theorem mul_range (m s : Int) (m0 : 0 ≤ m) (m1 : m < 4294967296) (s0 : 0 ≤ s) (s1 : s < 4294967296) : 0 ≤ m * s ∧ m * s ≤ 18446744065119617025 := by
  refine ⟨Int.mul_nonneg m0 s0, ?_⟩
  have := Int.mul_le_mul (show m ≤ 4294967295 by omega) (show s ≤ 4294967295 by omega) s0 (by decide)
  simpa using this
theorem smul_range (m s : Int) (m0 : 0 ≤ m) (m1 : m < 4294967296) (s0 : 0 ≤ s) (s1 : s < 4294967296) : -9223372036854775808 ≤ sgn m * sgn s ∧ sgn m * sgn s ≤ 4611686018427387904 := by
  have a := sgn_range m m0 m1
  have b := sgn_range s s0 s1
  generalize sgn m = M at *
  generalize sgn s = S at *
  have h1 : M * S ≤ M.natAbs * S.natAbs := by rw [← Int.natCast_mul, ← Int.natAbs_mul]; omega
  have h2 : -(M * S) ≤ M.natAbs * S.natAbs := by rw [← Int.natCast_mul, ← Int.natAbs_mul]; omega
  have h3 : M.natAbs * S.natAbs ≤ 2147483648 * 2147483648 := Nat.mul_le_mul (by omega) (by omega)
  have h4 : ((M.natAbs * S.natAbs : Nat) : Int) ≤ 4611686018427387904 := by omega
  rw [Int.natCast_mul] at h4
  omega
set_option maxRecDepth 100000 in
set_option maxHeartbeats 1000000 in
theorem glong_19 (m s h l : Int) (w : World) (m0 : 0 ≤ m) (m1 : m < 4294967296) (s0 : 0 ≤ s) (s1 : s < 4294967296) (h0 : 0 ≤ h) (h1 : h < 4294967296) (l0 : 0 ≤ l) (l1 : l < 4294967296) :
    Calls Try.prog 19 #[.int .i64 19, .int .u32 m, .int .u32 s, .int .u32 h, .int .u32 l] w fun e w' => e = .returned (.tuple #[.int .u32 0, .int .u32 (m * s % 4294967296), .bool true]) ∧ w' = w := by
  have r0 := mul_range m s m0 m1 s0 s1
  have r1 := smul_range m s m0 m1 s0 s1
  have e1 := wrap_i32 m m0 m1
  have e2 := wrap_i32 s s0 s1
  have f1 := wrap_32 m m0 m1
  have f2 := wrap_32 s s0 s1
  have q1 := sgn_range m m0 m1
  have q2 := sgn_range s s0 s1
  have g1 : IntKind.i64.wrap (sgn m) = sgn m := by rw [IntKind.wrap_i64]; omega
  have g2 : IntKind.i64.wrap (sgn s) = sgn s := by rw [IntKind.wrap_i64]; omega
  have g3 : IntKind.i64.wrap (sgn m * sgn s) = sgn m * sgn s := by rw [IntKind.wrap_i64]; omega
  have g3' : wrap64 (sgn m * sgn s) = sgn m * sgn s := by unfold wrap64; omega
  have g4 : IntKind.u64.wrap (sgn m * sgn s) = spP m s := by rw [IntKind.wrap_u64, smul_mod m s ⟨m0, m1⟩ ⟨s0, s1⟩]; rfl
  have g5 : IntKind.u64.wrap (m * s) = m * s := by rw [IntKind.wrap_u64]; omega
  have g6 : m * s % 18446744073709551616 = m * s := by omega
  have a0 : IntKind.u64.wrap (h * 4294967296) = h * 4294967296 := by rw [IntKind.wrap_u64]; omega
  have a1 : h * 4294967296 % 18446744073709551616 = h * 4294967296 := by omega
  have a2 : bits .or .u64 (h * 4294967296) l = acP h l := acc_or h l h0 h1 l0 l1
  have a3 : 0 ≤ acP h l := by unfold acP; omega
  have a4 : acP h l < 18446744073709551616 := by unfold acP; omega
  have p0 : 0 ≤ spP m s := by unfold spP; omega
  have p1 : spP m s < 18446744073709551616 := by unfold spP; omega
  have g7 : IntKind.u32.wrap (m * s) = m * s % 4294967296 := by rw [IntKind.wrap_u32']
  generalize spP m s = SP at *
  generalize acP h l = AC at *
  generalize hX : sgn m * sgn s = SS at *
  generalize hM : sgn m = sm at *
  generalize hS : sgn s = ss at *
  generalize hP : m * s = P at *
  clear r1 q1 q2
  generalize P % 4294967296 = R at *
  go_enter Try.func19, Try.ntmps19
  go_wp2
  exact bodyPost_ret (v := .tuple #[.int .u32 0, .int .u32 R, .bool true]) (by simp [results, Try.results19, go_sem]) rfl ⟨rfl, rfl⟩
set_option maxRecDepth 100000 in
set_option maxHeartbeats 1000000 in
theorem glong_20 (m s h l : Int) (w : World) (m0 : 0 ≤ m) (m1 : m < 4294967296) (s0 : 0 ≤ s) (s1 : s < 4294967296) (h0 : 0 ≤ h) (h1 : h < 4294967296) (l0 : 0 ≤ l) (l1 : l < 4294967296) :
    Calls Try.prog 19 #[.int .i64 20, .int .u32 m, .int .u32 s, .int .u32 h, .int .u32 l] w fun e w' => e = .returned (.tuple #[.int .u32 0, .int .u32 ((m * s + l) % 4294967296), .bool true]) ∧ w' = w := by
  have r0 := mul_range m s m0 m1 s0 s1
  have r1 := smul_range m s m0 m1 s0 s1
  have e1 := wrap_i32 m m0 m1
  have e2 := wrap_i32 s s0 s1
  have f1 := wrap_32 m m0 m1
  have f2 := wrap_32 s s0 s1
  have q1 := sgn_range m m0 m1
  have q2 := sgn_range s s0 s1
  have g1 : IntKind.i64.wrap (sgn m) = sgn m := by rw [IntKind.wrap_i64]; omega
  have g2 : IntKind.i64.wrap (sgn s) = sgn s := by rw [IntKind.wrap_i64]; omega
  have g3 : IntKind.i64.wrap (sgn m * sgn s) = sgn m * sgn s := by rw [IntKind.wrap_i64]; omega
  have g3' : wrap64 (sgn m * sgn s) = sgn m * sgn s := by unfold wrap64; omega
  have g4 : IntKind.u64.wrap (sgn m * sgn s) = spP m s := by rw [IntKind.wrap_u64, smul_mod m s ⟨m0, m1⟩ ⟨s0, s1⟩]; rfl
  have g5 : IntKind.u64.wrap (m * s) = m * s := by rw [IntKind.wrap_u64]; omega
  have g6 : m * s % 18446744073709551616 = m * s := by omega
  have a0 : IntKind.u64.wrap (h * 4294967296) = h * 4294967296 := by rw [IntKind.wrap_u64]; omega
  have a1 : h * 4294967296 % 18446744073709551616 = h * 4294967296 := by omega
  have a2 : bits .or .u64 (h * 4294967296) l = acP h l := acc_or h l h0 h1 l0 l1
  have a3 : 0 ≤ acP h l := by unfold acP; omega
  have a4 : acP h l < 18446744073709551616 := by unfold acP; omega
  have p0 : 0 ≤ spP m s := by unfold spP; omega
  have p1 : spP m s < 18446744073709551616 := by unfold spP; omega
  have g8 : IntKind.u32.wrap (m * s % 4294967296 + l) = (m * s + l) % 4294967296 := by rw [IntKind.wrap_u32']; omega
  have g9 : (m * s % 4294967296 + l) % 4294967296 = (m * s + l) % 4294967296 := by omega
  have g7 : IntKind.u32.wrap (m * s) = m * s % 4294967296 := by rw [IntKind.wrap_u32']
  generalize spP m s = SP at *
  generalize acP h l = AC at *
  generalize hX : sgn m * sgn s = SS at *
  generalize hM : sgn m = sm at *
  generalize hS : sgn s = ss at *
  generalize hP : m * s = P at *
  clear r1 q1 q2
  generalize (P + l) % 4294967296 = R at *
  generalize P % 4294967296 = R0 at *
  go_enter Try.func19, Try.ntmps19
  go_wp2
  exact bodyPost_ret (v := .tuple #[.int .u32 0, .int .u32 R, .bool true]) (by simp [results, Try.results19, go_sem]) rfl ⟨rfl, rfl⟩
set_option maxRecDepth 100000 in
set_option maxHeartbeats 1000000 in
theorem glong_21 (m s h l : Int) (w : World) (m0 : 0 ≤ m) (m1 : m < 4294967296) (s0 : 0 ≤ s) (s1 : s < 4294967296) (h0 : 0 ≤ h) (h1 : h < 4294967296) (l0 : 0 ≤ l) (l1 : l < 4294967296) :
    Calls Try.prog 19 #[.int .i64 21, .int .u32 m, .int .u32 s, .int .u32 h, .int .u32 l] w fun e w' => e = .returned (.tuple #[.int .u32 ((m * s) / 4294967296), .int .u32 ((m * s) % 4294967296), .bool true]) ∧ w' = w := by
  have r0 := mul_range m s m0 m1 s0 s1
  have r1 := smul_range m s m0 m1 s0 s1
  have e1 := wrap_i32 m m0 m1
  have e2 := wrap_i32 s s0 s1
  have f1 := wrap_32 m m0 m1
  have f2 := wrap_32 s s0 s1
  have q1 := sgn_range m m0 m1
  have q2 := sgn_range s s0 s1
  have g1 : IntKind.i64.wrap (sgn m) = sgn m := by rw [IntKind.wrap_i64]; omega
  have g2 : IntKind.i64.wrap (sgn s) = sgn s := by rw [IntKind.wrap_i64]; omega
  have g3 : IntKind.i64.wrap (sgn m * sgn s) = sgn m * sgn s := by rw [IntKind.wrap_i64]; omega
  have g3' : wrap64 (sgn m * sgn s) = sgn m * sgn s := by unfold wrap64; omega
  have g4 : IntKind.u64.wrap (sgn m * sgn s) = spP m s := by rw [IntKind.wrap_u64, smul_mod m s ⟨m0, m1⟩ ⟨s0, s1⟩]; rfl
  have g5 : IntKind.u64.wrap (m * s) = m * s := by rw [IntKind.wrap_u64]; omega
  have g6 : m * s % 18446744073709551616 = m * s := by omega
  have a0 : IntKind.u64.wrap (h * 4294967296) = h * 4294967296 := by rw [IntKind.wrap_u64]; omega
  have a1 : h * 4294967296 % 18446744073709551616 = h * 4294967296 := by omega
  have a2 : bits .or .u64 (h * 4294967296) l = acP h l := acc_or h l h0 h1 l0 l1
  have a3 : 0 ≤ acP h l := by unfold acP; omega
  have a4 : acP h l < 18446744073709551616 := by unfold acP; omega
  have p0 : 0 ≤ spP m s := by unfold spP; omega
  have p1 : spP m s < 18446744073709551616 := by unfold spP; omega
  have HH : Hid (∀ w, Calls Try.prog 36 #[.int .u64 (m * s)] w fun e w' => e = .returned (.tuple #[.int .u32 ((m * s) / 4294967296), .int .u32 ((m * s) % 4294967296), .bool true]) ∧ w' = w) := fun w => ghalves_any (m * s) w (by omega) (by omega)
  generalize hD : (m * s) / 4294967296 = D at *
  generalize hE : (m * s) % 4294967296 = E at *
  clear hD hE
  have g7 : IntKind.u32.wrap (m * s) = m * s % 4294967296 := by rw [IntKind.wrap_u32']
  generalize spP m s = SP at *
  generalize acP h l = AC at *
  generalize hX : sgn m * sgn s = SS at *
  generalize hM : sgn m = sm at *
  generalize hS : sgn s = ss at *
  generalize hP : m * s = P at *
  clear r1 q1 q2
  go_enter Try.func19, Try.ntmps19
  go_wp2_with (go_at_call 36; refine (HH.out _).mono ?_; rintro e w' ⟨rfl, rfl⟩)
  exact bodyPost_ret (v := .tuple #[.int .u32 D, .int .u32 E, .bool true]) (by simp [results, Try.results19, go_sem]) rfl ⟨rfl, rfl⟩
set_option maxRecDepth 100000 in
set_option maxHeartbeats 1000000 in
theorem glong_22 (m s h l : Int) (w : World) (m0 : 0 ≤ m) (m1 : m < 4294967296) (s0 : 0 ≤ s) (s1 : s < 4294967296) (h0 : 0 ≤ h) (h1 : h < 4294967296) (l0 : 0 ≤ l) (l1 : l < 4294967296) :
    Calls Try.prog 19 #[.int .i64 22, .int .u32 m, .int .u32 s, .int .u32 h, .int .u32 l] w fun e w' => e = .returned (.tuple #[.int .u32 (((m * s + acP h l) % 18446744073709551616) / 4294967296), .int .u32 (((m * s + acP h l) % 18446744073709551616) % 4294967296), .bool true]) ∧ w' = w := by
  have r0 := mul_range m s m0 m1 s0 s1
  have r1 := smul_range m s m0 m1 s0 s1
  have e1 := wrap_i32 m m0 m1
  have e2 := wrap_i32 s s0 s1
  have f1 := wrap_32 m m0 m1
  have f2 := wrap_32 s s0 s1
  have q1 := sgn_range m m0 m1
  have q2 := sgn_range s s0 s1
  have g1 : IntKind.i64.wrap (sgn m) = sgn m := by rw [IntKind.wrap_i64]; omega
  have g2 : IntKind.i64.wrap (sgn s) = sgn s := by rw [IntKind.wrap_i64]; omega
  have g3 : IntKind.i64.wrap (sgn m * sgn s) = sgn m * sgn s := by rw [IntKind.wrap_i64]; omega
  have g3' : wrap64 (sgn m * sgn s) = sgn m * sgn s := by unfold wrap64; omega
  have g4 : IntKind.u64.wrap (sgn m * sgn s) = spP m s := by rw [IntKind.wrap_u64, smul_mod m s ⟨m0, m1⟩ ⟨s0, s1⟩]; rfl
  have g5 : IntKind.u64.wrap (m * s) = m * s := by rw [IntKind.wrap_u64]; omega
  have g6 : m * s % 18446744073709551616 = m * s := by omega
  have a0 : IntKind.u64.wrap (h * 4294967296) = h * 4294967296 := by rw [IntKind.wrap_u64]; omega
  have a1 : h * 4294967296 % 18446744073709551616 = h * 4294967296 := by omega
  have a2 : bits .or .u64 (h * 4294967296) l = acP h l := acc_or h l h0 h1 l0 l1
  have a3 : 0 ≤ acP h l := by unfold acP; omega
  have a4 : acP h l < 18446744073709551616 := by unfold acP; omega
  have p0 : 0 ≤ spP m s := by unfold spP; omega
  have p1 : spP m s < 18446744073709551616 := by unfold spP; omega
  have HH : Hid (∀ w, Calls Try.prog 36 #[.int .u64 ((m * s + acP h l) % 18446744073709551616)] w fun e w' => e = .returned (.tuple #[.int .u32 (((m * s + acP h l) % 18446744073709551616) / 4294967296), .int .u32 (((m * s + acP h l) % 18446744073709551616) % 4294967296), .bool true]) ∧ w' = w) := fun w => ghalves_any ((m * s + acP h l) % 18446744073709551616) w (by omega) (by omega)
  have g8 : IntKind.u64.wrap (m * s + acP h l) = (m * s + acP h l) % 18446744073709551616 := by rw [IntKind.wrap_u64]
  generalize hD : ((m * s + acP h l) % 18446744073709551616) / 4294967296 = D at *
  generalize hE : ((m * s + acP h l) % 18446744073709551616) % 4294967296 = E at *
  clear hD hE
  generalize hT : (m * s + acP h l) % 18446744073709551616 = T at *
  have g7 : IntKind.u32.wrap (m * s) = m * s % 4294967296 := by rw [IntKind.wrap_u32']
  generalize spP m s = SP at *
  generalize acP h l = AC at *
  generalize hX : sgn m * sgn s = SS at *
  generalize hM : sgn m = sm at *
  generalize hS : sgn s = ss at *
  generalize hP : m * s = P at *
  clear r1 q1 q2
  go_enter Try.func19, Try.ntmps19
  go_wp2_with (go_at_call 36; refine (HH.out _).mono ?_; rintro e w' ⟨rfl, rfl⟩)
  exact bodyPost_ret (v := .tuple #[.int .u32 D, .int .u32 E, .bool true]) (by simp [results, Try.results19, go_sem]) rfl ⟨rfl, rfl⟩
set_option maxRecDepth 100000 in
set_option maxHeartbeats 1000000 in
theorem glong_23 (m s h l : Int) (w : World) (m0 : 0 ≤ m) (m1 : m < 4294967296) (s0 : 0 ≤ s) (s1 : s < 4294967296) (h0 : 0 ≤ h) (h1 : h < 4294967296) (l0 : 0 ≤ l) (l1 : l < 4294967296) :
    Calls Try.prog 19 #[.int .i64 23, .int .u32 m, .int .u32 s, .int .u32 h, .int .u32 l] w fun e w' => e = .returned (.tuple #[.int .u32 ((spP m s) / 4294967296), .int .u32 ((spP m s) % 4294967296), .bool true]) ∧ w' = w := by
  have r0 := mul_range m s m0 m1 s0 s1
  have r1 := smul_range m s m0 m1 s0 s1
  have e1 := wrap_i32 m m0 m1
  have e2 := wrap_i32 s s0 s1
  have f1 := wrap_32 m m0 m1
  have f2 := wrap_32 s s0 s1
  have q1 := sgn_range m m0 m1
  have q2 := sgn_range s s0 s1
  have g1 : IntKind.i64.wrap (sgn m) = sgn m := by rw [IntKind.wrap_i64]; omega
  have g2 : IntKind.i64.wrap (sgn s) = sgn s := by rw [IntKind.wrap_i64]; omega
  have g3 : IntKind.i64.wrap (sgn m * sgn s) = sgn m * sgn s := by rw [IntKind.wrap_i64]; omega
  have g3' : wrap64 (sgn m * sgn s) = sgn m * sgn s := by unfold wrap64; omega
  have g4 : IntKind.u64.wrap (sgn m * sgn s) = spP m s := by rw [IntKind.wrap_u64, smul_mod m s ⟨m0, m1⟩ ⟨s0, s1⟩]; rfl
  have g5 : IntKind.u64.wrap (m * s) = m * s := by rw [IntKind.wrap_u64]; omega
  have g6 : m * s % 18446744073709551616 = m * s := by omega
  have a0 : IntKind.u64.wrap (h * 4294967296) = h * 4294967296 := by rw [IntKind.wrap_u64]; omega
  have a1 : h * 4294967296 % 18446744073709551616 = h * 4294967296 := by omega
  have a2 : bits .or .u64 (h * 4294967296) l = acP h l := acc_or h l h0 h1 l0 l1
  have a3 : 0 ≤ acP h l := by unfold acP; omega
  have a4 : acP h l < 18446744073709551616 := by unfold acP; omega
  have p0 : 0 ≤ spP m s := by unfold spP; omega
  have p1 : spP m s < 18446744073709551616 := by unfold spP; omega
  have HH : Hid (∀ w, Calls Try.prog 36 #[.int .u64 (spP m s)] w fun e w' => e = .returned (.tuple #[.int .u32 ((spP m s) / 4294967296), .int .u32 ((spP m s) % 4294967296), .bool true]) ∧ w' = w) := fun w => ghalves_any (spP m s) w (by omega) (by omega)
  generalize hD : (spP m s) / 4294967296 = D at *
  generalize hE : (spP m s) % 4294967296 = E at *
  clear hD hE
  have g7 : IntKind.u32.wrap (m * s) = m * s % 4294967296 := by rw [IntKind.wrap_u32']
  generalize spP m s = SP at *
  generalize acP h l = AC at *
  generalize hX : sgn m * sgn s = SS at *
  generalize hM : sgn m = sm at *
  generalize hS : sgn s = ss at *
  generalize hP : m * s = P at *
  clear r1 q1 q2
  go_enter Try.func19, Try.ntmps19
  go_wp2_with (go_at_call 36; refine (HH.out _).mono ?_; rintro e w' ⟨rfl, rfl⟩)
  exact bodyPost_ret (v := .tuple #[.int .u32 D, .int .u32 E, .bool true]) (by simp [results, Try.results19, go_sem]) rfl ⟨rfl, rfl⟩
set_option maxRecDepth 100000 in
set_option maxHeartbeats 1000000 in
theorem glong_24 (m s h l : Int) (w : World) (m0 : 0 ≤ m) (m1 : m < 4294967296) (s0 : 0 ≤ s) (s1 : s < 4294967296) (h0 : 0 ≤ h) (h1 : h < 4294967296) (l0 : 0 ≤ l) (l1 : l < 4294967296) :
    Calls Try.prog 19 #[.int .i64 24, .int .u32 m, .int .u32 s, .int .u32 h, .int .u32 l] w fun e w' => e = .returned (.tuple #[.int .u32 (((spP m s + acP h l) % 18446744073709551616) / 4294967296), .int .u32 (((spP m s + acP h l) % 18446744073709551616) % 4294967296), .bool true]) ∧ w' = w := by
  have r0 := mul_range m s m0 m1 s0 s1
  have r1 := smul_range m s m0 m1 s0 s1
  have e1 := wrap_i32 m m0 m1
  have e2 := wrap_i32 s s0 s1
  have f1 := wrap_32 m m0 m1
  have f2 := wrap_32 s s0 s1
  have q1 := sgn_range m m0 m1
  have q2 := sgn_range s s0 s1
  have g1 : IntKind.i64.wrap (sgn m) = sgn m := by rw [IntKind.wrap_i64]; omega
  have g2 : IntKind.i64.wrap (sgn s) = sgn s := by rw [IntKind.wrap_i64]; omega
  have g3 : IntKind.i64.wrap (sgn m * sgn s) = sgn m * sgn s := by rw [IntKind.wrap_i64]; omega
  have g3' : wrap64 (sgn m * sgn s) = sgn m * sgn s := by unfold wrap64; omega
  have g4 : IntKind.u64.wrap (sgn m * sgn s) = spP m s := by rw [IntKind.wrap_u64, smul_mod m s ⟨m0, m1⟩ ⟨s0, s1⟩]; rfl
  have g5 : IntKind.u64.wrap (m * s) = m * s := by rw [IntKind.wrap_u64]; omega
  have g6 : m * s % 18446744073709551616 = m * s := by omega
  have a0 : IntKind.u64.wrap (h * 4294967296) = h * 4294967296 := by rw [IntKind.wrap_u64]; omega
  have a1 : h * 4294967296 % 18446744073709551616 = h * 4294967296 := by omega
  have a2 : bits .or .u64 (h * 4294967296) l = acP h l := acc_or h l h0 h1 l0 l1
  have a3 : 0 ≤ acP h l := by unfold acP; omega
  have a4 : acP h l < 18446744073709551616 := by unfold acP; omega
  have p0 : 0 ≤ spP m s := by unfold spP; omega
  have p1 : spP m s < 18446744073709551616 := by unfold spP; omega
  have HH : Hid (∀ w, Calls Try.prog 36 #[.int .u64 ((spP m s + acP h l) % 18446744073709551616)] w fun e w' => e = .returned (.tuple #[.int .u32 (((spP m s + acP h l) % 18446744073709551616) / 4294967296), .int .u32 (((spP m s + acP h l) % 18446744073709551616) % 4294967296), .bool true]) ∧ w' = w) := fun w => ghalves_any ((spP m s + acP h l) % 18446744073709551616) w (by omega) (by omega)
  have g8 : IntKind.u64.wrap (spP m s + acP h l) = (spP m s + acP h l) % 18446744073709551616 := by rw [IntKind.wrap_u64]
  generalize hD : ((spP m s + acP h l) % 18446744073709551616) / 4294967296 = D at *
  generalize hE : ((spP m s + acP h l) % 18446744073709551616) % 4294967296 = E at *
  clear hD hE
  generalize hT : (spP m s + acP h l) % 18446744073709551616 = T at *
  have g7 : IntKind.u32.wrap (m * s) = m * s % 4294967296 := by rw [IntKind.wrap_u32']
  generalize spP m s = SP at *
  generalize acP h l = AC at *
  generalize hX : sgn m * sgn s = SS at *
  generalize hM : sgn m = sm at *
  generalize hS : sgn s = ss at *
  generalize hP : m * s = P at *
  clear r1 q1 q2
  go_enter Try.func19, Try.ntmps19
  go_wp2_with (go_at_call 36; refine (HH.out _).mono ?_; rintro e w' ⟨rfl, rfl⟩)
  exact bodyPost_ret (v := .tuple #[.int .u32 D, .int .u32 E, .bool true]) (by simp [results, Try.results19, go_sem]) rfl ⟨rfl, rfl⟩
set_option maxRecDepth 100000 in
set_option maxHeartbeats 1000000 in
theorem glong_o (op : Int) (m s h l : Int) (w : World) (m0 : 0 ≤ m) (m1 : m < 4294967296) (s0 : 0 ≤ s) (s1 : s < 4294967296) (h0 : 0 ≤ h) (h1 : h < 4294967296) (l0 : 0 ≤ l) (l1 : l < 4294967296) (ho : op < 19 ∨ 24 < op) :
    Calls Try.prog 19 #[.int .i64 op, .int .u32 m, .int .u32 s, .int .u32 h, .int .u32 l] w fun e w' => e = .returned (.tuple #[.int .u32 0, .int .u32 0, .bool false]) ∧ w' = w := by
  have r0 := mul_range m s m0 m1 s0 s1
  have r1 := smul_range m s m0 m1 s0 s1
  have e1 := wrap_i32 m m0 m1
  have e2 := wrap_i32 s s0 s1
  have f1 := wrap_32 m m0 m1
  have f2 := wrap_32 s s0 s1
  have q1 := sgn_range m m0 m1
  have q2 := sgn_range s s0 s1
  have g1 : IntKind.i64.wrap (sgn m) = sgn m := by rw [IntKind.wrap_i64]; omega
  have g2 : IntKind.i64.wrap (sgn s) = sgn s := by rw [IntKind.wrap_i64]; omega
  have g3 : IntKind.i64.wrap (sgn m * sgn s) = sgn m * sgn s := by rw [IntKind.wrap_i64]; omega
  have g3' : wrap64 (sgn m * sgn s) = sgn m * sgn s := by unfold wrap64; omega
  have g4 : IntKind.u64.wrap (sgn m * sgn s) = spP m s := by rw [IntKind.wrap_u64, smul_mod m s ⟨m0, m1⟩ ⟨s0, s1⟩]; rfl
  have g5 : IntKind.u64.wrap (m * s) = m * s := by rw [IntKind.wrap_u64]; omega
  have g6 : m * s % 18446744073709551616 = m * s := by omega
  have a0 : IntKind.u64.wrap (h * 4294967296) = h * 4294967296 := by rw [IntKind.wrap_u64]; omega
  have a1 : h * 4294967296 % 18446744073709551616 = h * 4294967296 := by omega
  have a2 : bits .or .u64 (h * 4294967296) l = acP h l := acc_or h l h0 h1 l0 l1
  have a3 : 0 ≤ acP h l := by unfold acP; omega
  have a4 : acP h l < 18446744073709551616 := by unfold acP; omega
  have p0 : 0 ≤ spP m s := by unfold spP; omega
  have p1 : spP m s < 18446744073709551616 := by unfold spP; omega
  have z19 : (op == 19) = false := by simp; omega
  have z20 : (op == 20) = false := by simp; omega
  have z21 : (op == 21) = false := by simp; omega
  have z22 : (op == 22) = false := by simp; omega
  have z23 : (op == 23) = false := by simp; omega
  have z24 : (op == 24) = false := by simp; omega
  clear ho
  have g7 : IntKind.u32.wrap (m * s) = m * s % 4294967296 := by rw [IntKind.wrap_u32']
  generalize spP m s = SP at *
  generalize acP h l = AC at *
  generalize hX : sgn m * sgn s = SS at *
  generalize hM : sgn m = sm at *
  generalize hS : sgn s = ss at *
  generalize hP : m * s = P at *
  clear r1 q1 q2
  go_enter Try.func19, Try.ntmps19
  go_wp2
  exact bodyPost_ret (v := .tuple #[.int .u32 0, .int .u32 0, .bool false]) (by simp [results, Try.results19, go_sem]) rfl ⟨rfl, rfl⟩
theorem glong_any (op m s h l : Int) (w : World) (m0 : 0 ≤ m) (m1 : m < 4294967296) (s0 : 0 ≤ s) (s1 : s < 4294967296) (h0 : 0 ≤ h) (h1 : h < 4294967296) (l0 : 0 ≤ l) (l1 : l < 4294967296) :
    Calls Try.prog 19 #[.int .i64 op, .int .u32 m, .int .u32 s, .int .u32 h, .int .u32 l] w fun e w' => e = .returned (.tuple #[.int .u32 (loH op m s h l), .int .u32 (loL op m s h l), .bool (loO op)]) ∧ Below w.heap.size w w' := by
  suffices key : Calls Try.prog 19 #[.int .i64 op, .int .u32 m, .int .u32 s, .int .u32 h, .int .u32 l] w fun e w' => e = .returned (.tuple #[.int .u32 (loH op m s h l), .int .u32 (loL op m s h l), .bool (loO op)]) ∧ w' = w by
    refine key.mono ?_
    rintro e w' ⟨rfl, rfl⟩
    exact ⟨rfl, Below.refl _ _⟩
  by_cases ho : op < 19 ∨ 24 < op
  · have := glong_o op m s h l w m0 m1 s0 s1 h0 h1 l0 l1 ho
    unfold loH loL loO
    rw [if_neg (by omega), if_neg (by omega), if_neg (by omega), if_neg (by omega), decide_eq_false (by omega)]
    exact this
  rcases (show op = 19 ∨ op = 20 ∨ op = 21 ∨ op = 22 ∨ op = 23 ∨ op = 24 by omega) with rfl | rfl | rfl | rfl | rfl | rfl
  · exact glong_19 m s h l w m0 m1 s0 s1 h0 h1 l0 l1
  · exact glong_20 m s h l w m0 m1 s0 s1 h0 h1 l0 l1
  · exact glong_21 m s h l w m0 m1 s0 s1 h0 h1 l0 l1
  · exact glong_22 m s h l w m0 m1 s0 s1 h0 h1 l0 l1
  · exact glong_23 m s h l w m0 m1 s0 s1 h0 h1 l0 l1
  · exact glong_24 m s h l w m0 m1 s0 s1 h0 h1 l0 l1
end Go.Proofs.Ytdelcknpaldngab
