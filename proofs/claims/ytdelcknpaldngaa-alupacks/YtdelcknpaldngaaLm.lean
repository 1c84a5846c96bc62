import Derived.Test.YtdelcknpaldngaaLa
namespace Go.Proofs.Ytdelcknpaldngaa
open Go.RowKit
set_option linter.unusedVariables false
set_option linter.unusedSimpArgs false
theorem i64_and15 (n : Int) : bits .and .i64 n 15 = n % 16 := by
  have h15 : (BitVec.ofInt 64 15).toNat = 2 ^ 4 - 1 := by decide
  have key : (BitVec.ofInt 64 n &&& BitVec.ofInt 64 15).toNat = (n % ((2 ^ 64 : Nat) : Int)).toNat % 2 ^ 4 := by
    rw [BitVec.toNat_and, BitVec.toNat_ofInt, h15, Nat.and_two_pow_sub_one_eq_mod]
  show IntKind.i64.wrap ((BitVec.ofInt 64 n &&& BitVec.ofInt 64 15).toNat : Nat) = n % 16
  rw [key, IntKind.wrap_i64]
  omega
/-- Turned right by a number from 1 to 31. -/
theorem shX_ror (x : Nat) (n : Int) (c : Bool) (h0 : 0 < n) (h1 : n < 32) : (shX 3 x n c).1 = rorK n.toNat x := by
  unfold shX
  rw [if_neg (by omega)]
  unfold shW
  rw [if_neg (by decide), if_neg (by decide), if_neg (by omega), if_neg (by decide), if_neg (by decide), if_neg (by decide)]
  dsimp only
  congr 1
  omega
theorem shX_rrx (x : Nat) (n : Int) (c : Bool) : shX 4 x n c = (x / 2 + (if c then 2147483648 else 0), decide (x % 2 = 1)) := by
  unfold shX
  rw [if_neg (by omega)]
  rfl
/-- Through the carry and back. -/
theorem rrx_adc (x : Nat) (c : Bool) (h : x < 4294967296) : shX 4 (suW x x c).toNat 0 (suF x x c).c = (x, c) := by
  rw [shX_rrx]
  unfold suF suW cI
  cases c
  · refine Prod.ext ?_ ?_
    · dsimp only
      by_cases hc : 4294967296 ≤ (x : Int) + x + 0
      · simp only [hc, decide_true, if_true, Bool.false_eq_true, if_false]; omega
      · simp only [hc, decide_false, Bool.false_eq_true, if_false]; omega
    · dsimp only
      apply decide_eq_false
      simp only [Bool.false_eq_true, if_false]
      omega
  · refine Prod.ext ?_ ?_
    · dsimp only
      by_cases hc : 4294967296 ≤ (x : Int) + x + 1
      · simp only [hc, decide_true, if_true]; omega
      · simp only [hc, decide_false, Bool.false_eq_true, if_false, if_true]; omega
    · dsimp only
      apply decide_eq_true
      simp only [if_true]
      omega
set_option maxRecDepth 100000 in
set_option maxHeartbeats 4000000 in
theorem law_turns (x : Nat) (n : Int) (c : Bool) (w : World) (hx : x < 4294967296) :
    Calls Try.prog 4 #[.int .u32 x, .int .i64 n, .bool c] w fun e w' => e = .returned (.bool true) ∧ Below w.heap.size w w' := by
  have b1 := i64_and15 n
  have b2 := i64_and15 (n / 16)
  have N0 : 0 < 1 + n % 16 + n / 16 % 16 := by omega
  have N1 : 1 + n % 16 + n / 16 % 16 < 32 := by omega
  have wA : IntKind.i64.wrap (1 + n % 16) = 1 + n % 16 := by rw [IntKind.wrap_i64]; omega
  have wB : IntKind.i64.wrap (1 + n % 16 + n / 16 % 16) = 1 + n % 16 + n / 16 % 16 := by rw [IntKind.wrap_i64]; omega
  have wC : IntKind.i64.wrap (32 - (1 + n % 16 + n / 16 % 16)) = 32 - (1 + n % 16 + n / 16 % 16) := by rw [IntKind.wrap_i64]; omega
  have HS1 : Hid (∀ w, ∃ q, Calls Try.prog 11 #[.int .i64 3, .int .u32 x, .int .i64 (1 + n % 16 + n / 16 % 16), .bool c] w fun e w' => e = .returned (.tuple #[.int .u32 (rorK (1 + n % 16 + n / 16 % 16).toNat x : Nat), .bool q]) ∧ Below w.heap.size w w') := fun w => ⟨_, by
    have := gshift_any 3 (1 + n % 16 + n / 16 % 16) x c w hx
    rwa [shX_ror x _ c N0 N1] at this⟩
  have HS2 : Hid (∀ w, ∃ q, Calls Try.prog 11 #[.int .i64 3, .int .u32 (rorK (1 + n % 16 + n / 16 % 16).toNat x : Nat), .int .i64 (32 - (1 + n % 16 + n / 16 % 16)), .bool c] w fun e w' => e = .returned (.tuple #[.int .u32 (x : Int), .bool q]) ∧ Below w.heap.size w w') := fun w => ⟨_, by
    have := gshift_any 3 (32 - (1 + n % 16 + n / 16 % 16)) (rorK (1 + n % 16 + n / 16 % 16).toNat x) c w (rorK_lt _ _ (by omega) hx)
    rwa [shX_ror _ _ c (by omega) (by omega), show (32 - (1 + n % 16 + n / 16 % 16)).toNat = 32 - (1 + n % 16 + n / 16 % 16).toNat by omega, rorK_back _ x (by omega) hx] at this⟩
  have hr := suW_range x x c
  have HD : Hid (∀ w, Calls Try.prog 9 #[.int .i64 6, .int .u32 x, .int .u32 x, .bool false, .agg #[.bool false, .bool false, .bool c, .bool false]] w fun e w' => e = .returned (.tuple #[.int .u32 (suW x x c), .bool true, .agg #[.bool (suF x x c).n, .bool (suF x x c).z, .bool (suF x x c).c, .bool (suF x x c).v]]) ∧ Below w.heap.size w w') := fun w => gdo_any 6 x x false ⟨false, false, c, false⟩ w (by omega) (by omega) (by omega) (by omega)
  have HS3 : Hid (∀ w, Calls Try.prog 11 #[.int .i64 4, .int .u32 (suW x x c), .int .i64 0, .bool (suF x x c).c] w fun e w' => e = .returned (.tuple #[.int .u32 (x : Int), .bool c]) ∧ Below w.heap.size w w') := fun w => by
    have := gshift_any 4 0 (suW x x c).toNat (suF x x c).c w (by omega)
    rwa [rrx_adc x c hx, show (((suW x x c).toNat : Nat) : Int) = suW x x c by omega] at this
  have HL : Hid (∀ w, Calls Try.prog 10 #[] w fun e w' => e = .returned (.bool true) ∧ Below w.heap.size w w') := live_any
  generalize suW x x c = W at *
  generalize suF x x c = F at *
  obtain ⟨gn, gz, gc, gv⟩ := F
  simp only at *
  generalize hA : n % 16 = A at *
  generalize hA2 : n / 16 % 16 = A2 at *
  have A0 : 0 ≤ A := by omega
  have A1 : A < 16 := by omega
  have A20 : 0 ≤ A2 := by omega
  have A21 : A2 < 16 := by omega
  generalize rorK (1 + A + A2).toNat x = Y at *
  clear hA hA2 hr hx
  go_enter Try.func4, Try.ntmps4
  have HB : Hid (Below w.heap.size w w) := Below.refl _ _
  go_wp2_with (go_at_call 11; refine Hid.out ?_)
  show Calls _ _ _ _ _
  obtain ⟨q, H⟩ := HS1.out w
  refine H.mono ?_
  rintro e w1 ⟨rfl, hb⟩
  have HB : Hid (Below _ _ _) := Below.step HB.out hb
  clear hb H HS1
  go_wp2_with (go_at_call 11; refine Hid.out ?_)
  show Calls _ _ _ _ _
  obtain ⟨q2, H⟩ := HS2.out w1
  refine H.mono ?_
  rintro e w2 ⟨rfl, hb⟩
  have HB : Hid (Below _ _ _) := Below.step HB.out hb
  clear hb H HS2
  go_wp2_with (first
    | (go_at_call 9; refine (HD.out _).mono ?_; rintro e w3 ⟨rfl, hb⟩; have HB : Hid (Below _ _ _) := Below.step (Below.step HB.out hb) (below_new w3 (.cells #[.bool gn, .bool gz, .bool gc, .bool gv] 24)); clear hb)
    | (go_at_call 11; refine (HS3.out _).mono ?_; rintro e w4 ⟨rfl, hb⟩; have HB : Hid (Below _ _ _) := Below.step HB.out hb; clear hb)
    | (go_at_call 10; refine (HL.out _).mono ?_; rintro e w5 ⟨rfl, hb⟩; have HB : Hid (Below _ _ _) := Below.step HB.out hb; clear hb))
  go_ret
  exact ⟨by simp, HB.out⟩
end Go.Proofs.Ytdelcknpaldngaa
