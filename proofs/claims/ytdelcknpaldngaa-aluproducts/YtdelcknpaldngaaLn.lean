import Derived.Test.YtdelcknpaldngaaLa
namespace Go.Proofs.Ytdelcknpaldngaa
open Go.RowKit
set_option linter.unusedVariables false
set_option linter.unusedSimpArgs false
theorem or64 (a y : Int) (ha : 0 ≤ a) (h1 : a < 4294967296) (y0 : 0 ≤ y) (y1 : y < 4294967296) : bits .or .u64 (a * 4294967296) y = a * 4294967296 + y := by
  obtain ⟨A, rfl⟩ := Int.eq_ofNat_of_zero_le ha
  obtain ⟨Y, rfl⟩ := Int.eq_ofNat_of_zero_le y0
  have hX : (A : Int) * 4294967296 = ((2 ^ 32 * A : Nat) : Int) := by omega
  rw [hX, u64_or_nat (2 ^ 32 * A) Y (by omega) (by omega), ← Nat.two_pow_add_eq_or_of_lt (by omega)]
  omega
theorem or64_split (Q : Int) (h0 : 0 ≤ Q) (h1 : Q < 18446744073709551616) : bits .or .u64 (Q / 4294967296 * 4294967296) (Q % 4294967296) = Q := by
  rw [or64 _ _ (by omega) (by omega) (by omega) (by omega)]
  omega
theorem i32_sgn (x : Int) (h0 : 0 ≤ x) (h1 : x < 4294967296) : IntKind.i32.wrap x = sgn x := by
  rw [IntKind.wrap_i32]
  unfold sgn
  split <;> omega
theorem sgn_mul (m s : Int) (m0 : 0 ≤ m) (m1 : m < 4294967296) (s0 : 0 ≤ s) (s1 : s < 4294967296) : -4611686018427387904 ≤ sgn m * sgn s ∧ sgn m * sgn s ≤ 4611686018427387904 := by
  have a := sgn_range m m0 m1
  have b := sgn_range s s0 s1
  generalize sgn m = x at *
  generalize sgn s = y at *
  have h1 : x.natAbs ≤ 2147483648 := by omega
  have h2 : y.natAbs ≤ 2147483648 := by omega
  have h3 : (x * y).natAbs ≤ 4611686018427387904 := by
    rw [Int.natAbs_mul]
    exact Nat.mul_le_mul h1 h2
  omega
set_option maxRecDepth 100000 in
set_option maxHeartbeats 4000000 in
theorem law_products (m s h l : Int) (w : World) (m0 : 0 ≤ m) (m1 : m < 4294967296) (s0 : 0 ≤ s) (s1 : s < 4294967296) (h0 : 0 ≤ h) (h1 : h < 4294967296) (l0 : 0 ≤ l) (l1 : l < 4294967296) :
    Calls Try.prog 5 #[.int .u32 m, .int .u32 s, .int .u32 h, .int .u32 l] w fun e w' => e = .returned (.bool true) ∧ Below w.heap.size w w' := by
  have HG : Hid (∀ o w, Calls Try.prog 12 #[.int .i64 o, .int .u32 m, .int .u32 s, .int .u32 h, .int .u32 l] w fun e w' => e = .returned (.tuple #[.int .u32 (loH o m s h l), .int .u32 (loL o m s h l), .bool (loO o)]) ∧ Below w.heap.size w w') := fun o w => glong_any o m s h l w m0 m1 s0 s1 h0 h1 l0 l1
  have H21 : Hid (∀ w, Calls Try.prog 12 #[.int .i64 21, .int .u32 m, .int .u32 s, .int .u32 h, .int .u32 l] w fun e w' => e = .returned (.tuple #[.int .u32 (m * s / 4294967296), .int .u32 (m * s % 4294967296), .bool true]) ∧ Below w.heap.size w w') := fun w => HG.out 21 w
  have H23 : Hid (∀ w, Calls Try.prog 12 #[.int .i64 23, .int .u32 m, .int .u32 s, .int .u32 h, .int .u32 l] w fun e w' => e = .returned (.tuple #[.int .u32 (spP m s / 4294967296), .int .u32 (spP m s % 4294967296), .bool true]) ∧ Below w.heap.size w w') := fun w => HG.out 23 w
  have H22 : Hid (∀ w, Calls Try.prog 12 #[.int .i64 22, .int .u32 m, .int .u32 s, .int .u32 h, .int .u32 l] w fun e w' => e = .returned (.tuple #[.int .u32 ((m * s + acP h l) % 18446744073709551616 / 4294967296), .int .u32 ((m * s + acP h l) % 18446744073709551616 % 4294967296), .bool true]) ∧ Below w.heap.size w w') := fun w => HG.out 22 w
  have H24 : Hid (∀ w, Calls Try.prog 12 #[.int .i64 24, .int .u32 m, .int .u32 s, .int .u32 h, .int .u32 l] w fun e w' => e = .returned (.tuple #[.int .u32 ((spP m s + acP h l) % 18446744073709551616 / 4294967296), .int .u32 ((spP m s + acP h l) % 18446744073709551616 % 4294967296), .bool true]) ∧ Below w.heap.size w w') := fun w => HG.out 24 w
  have H19 : Hid (∀ w, Calls Try.prog 12 #[.int .i64 19, .int .u32 m, .int .u32 s, .int .u32 h, .int .u32 l] w fun e w' => e = .returned (.tuple #[.int .u32 0, .int .u32 (m * s % 4294967296), .bool true]) ∧ Below w.heap.size w w') := fun w => HG.out 19 w
  have H20 : Hid (∀ w, Calls Try.prog 12 #[.int .i64 20, .int .u32 m, .int .u32 s, .int .u32 h, .int .u32 l] w fun e w' => e = .returned (.tuple #[.int .u32 0, .int .u32 ((m * s + l) % 4294967296), .bool true]) ∧ Below w.heap.size w w') := fun w => HG.out 20 w
  have HL : Hid (∀ w, Calls Try.prog 10 #[] w fun e w' => e = .returned (.bool true) ∧ Below w.heap.size w w') := live_any
  have p0 : 0 ≤ m * s := Int.mul_nonneg m0 s0
  have p1 : m * s < 18446744073709551616 := by
    have : m * s ≤ 4294967295 * 4294967295 := Int.mul_le_mul (by omega) (by omega) s0 (by omega)
    omega
  have v0 : 0 ≤ spP m s := by unfold spP; omega
  have v1 : spP m s < 18446744073709551616 := by unfold spP; omega
  have i1 := i32_sgn m m0 m1
  have i2 := i32_sgn s s0 s1
  have g := sgn_mul m s m0 m1 s0 s1
  have g1 : IntKind.i64.wrap (sgn m * sgn s) = sgn m * sgn s := by rw [IntKind.wrap_i64]; omega
  have g2 : IntKind.u64.wrap (sgn m * sgn s) = spP m s := by rw [IntKind.wrap_u64, smul_mod m s ⟨m0, m1⟩ ⟨s0, s1⟩]; rfl
  have a0 : 0 ≤ acP h l := by unfold acP; omega
  have a1 : acP h l < 18446744073709551616 := by unfold acP; omega
  have oA : bits .or .u64 (h * 4294967296) l = acP h l := or64 h l h0 h1 l0 l1
  have oU := or64_split (m * s) p0 p1
  have oV := or64_split (spP m s) v0 v1
  have oX := or64_split ((m * s + acP h l) % 18446744073709551616) (by omega) (by omega)
  have oY := or64_split ((spP m s + acP h l) % 18446744073709551616) (by omega) (by omega)
  clear HG g
  generalize spP m s = V at *
  generalize acP h l = A at *
  have wX : IntKind.u64.wrap (m * s + A) = (m * s + A) % 18446744073709551616 := IntKind.wrap_u64 _
  have wY : IntKind.u64.wrap (V + A) = (V + A) % 18446744073709551616 := IntKind.wrap_u64 _
  have X0 : 0 ≤ (m * s + A) % 18446744073709551616 := by omega
  have X1 : (m * s + A) % 18446744073709551616 < 18446744073709551616 := by omega
  have Y0 : 0 ≤ (V + A) % 18446744073709551616 := by omega
  have Y1 : (V + A) % 18446744073709551616 < 18446744073709551616 := by omega
  generalize (m * s + A) % 18446744073709551616 = X at *
  generalize (V + A) % 18446744073709551616 = Y at *
  have f1 : wrap64 (sgn m) = sgn m := by have := sgn_range m m0 m1; have e := IntKind.wrap_i64 (sgn m); unfold wrap64; omega
  have f2 : wrap64 (sgn s) = sgn s := by have := sgn_range s s0 s1; unfold wrap64; omega
  have f3 : wrap64 (sgn m * sgn s) = sgn m * sgn s := by have := sgn_mul m s m0 m1 s0 s1; unfold wrap64; omega
  have hcmp : ((m * s + l) % 4294967296 == (m * s % 4294967296 + l) % 4294967296) = true := by simp
  have HB : Hid (Below w.heap.size w w) := Below.refl _ _
  go_enter Try.func5, Try.ntmps5
  go_wp2_with (first
    | (go_at_call_of 12 (Value.int IntKind.i64 21); refine (H21.out _).mono ?_; rintro e w1 ⟨rfl, hb⟩; have HB : Hid (Below _ _ _) := Below.step HB.out hb; clear hb)
    | (go_at_call_of 12 (Value.int IntKind.i64 23); refine (H23.out _).mono ?_; rintro e w2 ⟨rfl, hb⟩; have HB : Hid (Below _ _ _) := Below.step HB.out hb; clear hb)
    | (go_at_call_of 12 (Value.int IntKind.i64 22); refine (H22.out _).mono ?_; rintro e w3 ⟨rfl, hb⟩; have HB : Hid (Below _ _ _) := Below.step HB.out hb; clear hb)
    | (go_at_call_of 12 (Value.int IntKind.i64 24); refine (H24.out _).mono ?_; rintro e w4 ⟨rfl, hb⟩; have HB : Hid (Below _ _ _) := Below.step HB.out hb; clear hb)
    | (go_at_call_of 12 (Value.int IntKind.i64 19); refine (H19.out _).mono ?_; rintro e w5 ⟨rfl, hb⟩; have HB : Hid (Below _ _ _) := Below.step HB.out hb; clear hb)
    | (go_at_call_of 12 (Value.int IntKind.i64 20); refine (H20.out _).mono ?_; rintro e w6 ⟨rfl, hb⟩; have HB : Hid (Below _ _ _) := Below.step HB.out hb; clear hb)
    | (go_at_call 10; refine (HL.out _).mono ?_; rintro e w7 ⟨rfl, hb⟩; have HB : Hid (Below _ _ _) := Below.step HB.out hb; clear hb))
  go_ret
  exact ⟨by simp, HB.out⟩
end Go.Proofs.Ytdelcknpaldngaa
