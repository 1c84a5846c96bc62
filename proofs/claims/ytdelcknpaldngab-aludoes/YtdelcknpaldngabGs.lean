import Derived.Test.YtdelcknpaldngabGc
namespace Go.Proofs.Ytdelcknpaldngab
open Go.RowKit
set_option linter.unusedVariables false
set_option linter.unusedSimpArgs false
set_option maxRecDepth 100000 in
set_option maxHeartbeats 1000000 in
theorem gshift_4 (x n V : Int) (t c : Bool) (w : World) (x0 : 0 ≤ x) (x1 : x < 4294967296) (h : Hid (∀ w, Calls Try.prog 30 #[.int .u32 x, .int .i64 0] w fun e w' => e = .returned (.bool t) ∧ w' = w)) (hV : bits .or .u32 (x / 2) (cI c * 2147483648) = V) :
    Calls Try.prog 17 #[.int .i64 4, .int .u32 x, .int .i64 n, .bool c] w fun e w' => e = .returned (.tuple #[.int .u32 V, .bool t]) ∧ Below w.heap.size w w' := by
  have HB : Hid (∀ w, Calls Try.prog 26 #[.bool c] w fun e w' => e = .returned (.int .u32 (cI c)) ∧ w' = w) := fun w => gbit_any c w
  have c0 : 0 ≤ cI c := by cases c <;> decide
  have c1 : cI c ≤ 1 := by cases c <;> decide
  generalize cI c = C at *
  have h31 : C * 2147483648 % 4294967296 = C * 2147483648 := by omega
  have h32 : IntKind.u32.wrap (C * 2147483648) = C * 2147483648 := by rw [IntKind.wrap_u32']; omega
  go_enter Try.func17, Try.ntmps17
  go_wp2_with (first | (go_at_call 26; refine (HB.out _).mono ?_; rintro e w' ⟨rfl, rfl⟩) | (go_at_call 30; refine (h.out _).mono ?_; rintro e w' ⟨rfl, rfl⟩))
  exact bodyPost_ret (v := .tuple #[.int .u32 V, .bool t]) (by simp [results, Try.results17, go_sem]) rfl ⟨rfl, Below.refl _ _⟩
set_option maxRecDepth 100000 in
set_option maxHeartbeats 1000000 in
theorem gshift_z (k x n : Int) (c : Bool) (w : World) (hk : ¬ k = 4) (hn : bits .and .i64 n 255 = 0) :
    Calls Try.prog 17 #[.int .i64 k, .int .u32 x, .int .i64 n, .bool c] w fun e w' => e = .returned (.tuple #[.int .u32 x, .bool c]) ∧ Below w.heap.size w w' := by
  have z4 : (k == 4) = false := by simp; omega
  clear hk
  go_enter Try.func17, Try.ntmps17
  go_wp2
  exact bodyPost_ret (v := .tuple #[.int .u32 x, .bool c]) (by simp [results, Try.results17, go_sem]) rfl ⟨rfl, Below.refl _ _⟩
set_option maxRecDepth 100000 in
set_option maxHeartbeats 1000000 in
theorem gshift_o (k x n m : Int) (c : Bool) (w : World) (hk : k < 0 ∨ 4 < k) (hn : bits .and .i64 n 255 = m) (hm : 1 ≤ m) :
    Calls Try.prog 17 #[.int .i64 k, .int .u32 x, .int .i64 n, .bool c] w fun e w' => e = .returned (.tuple #[.int .u32 x, .bool c]) ∧ Below w.heap.size w w' := by
  have z4 : (k == 4) = false := by simp; omega
  have z0 : (k == 0) = false := by simp; omega
  have z1 : (k == 1) = false := by simp; omega
  have z2 : (k == 2) = false := by simp; omega
  have z3 : (k == 3) = false := by simp; omega
  have zm : (m == 0) = false := by simp; omega
  clear hk hm
  go_enter Try.func17, Try.ntmps17
  go_wp2
  exact bodyPost_ret (v := .tuple #[.int .u32 x, .bool c]) (by simp [results, Try.results17, go_sem]) rfl ⟨rfl, Below.refl _ _⟩
set_option maxRecDepth 100000 in
set_option maxHeartbeats 1000000 in
theorem gshift_0 (x n m V : Int) (t c : Bool) (w : World) (hn : bits .and .i64 n 255 = m) (hm : 1 ≤ m) (h : Hid (∀ w, Calls Try.prog 31 #[.int .u32 x, .int .i64 m] w fun e w' => e = .returned (.tuple #[.int .u32 V, .bool t]) ∧ Below w.heap.size w w')) :
    Calls Try.prog 17 #[.int .i64 0, .int .u32 x, .int .i64 n, .bool c] w fun e w' => e = .returned (.tuple #[.int .u32 V, .bool t]) ∧ Below w.heap.size w w' := by
  have zm : (m == 0) = false := by simp; omega
  clear hm
  go_enter Try.func17, Try.ntmps17
  go_wp2_with (go_at_call 31; refine (h.out _).mono ?_; rintro e w' ⟨rfl, hb⟩)
  exact bodyPost_ret (v := .tuple #[.int .u32 V, .bool t]) (by simp [results, Try.results17, go_sem]) rfl ⟨rfl, hb⟩
set_option maxRecDepth 100000 in
set_option maxHeartbeats 1000000 in
theorem gshift_1 (x n m V : Int) (t c : Bool) (w : World) (hn : bits .and .i64 n 255 = m) (hm : 1 ≤ m) (h : Hid (∀ w, Calls Try.prog 32 #[.int .u32 x, .int .i64 m] w fun e w' => e = .returned (.tuple #[.int .u32 V, .bool t]) ∧ Below w.heap.size w w')) :
    Calls Try.prog 17 #[.int .i64 1, .int .u32 x, .int .i64 n, .bool c] w fun e w' => e = .returned (.tuple #[.int .u32 V, .bool t]) ∧ Below w.heap.size w w' := by
  have zm : (m == 0) = false := by simp; omega
  clear hm
  go_enter Try.func17, Try.ntmps17
  go_wp2_with (go_at_call 32; refine (h.out _).mono ?_; rintro e w' ⟨rfl, hb⟩)
  exact bodyPost_ret (v := .tuple #[.int .u32 V, .bool t]) (by simp [results, Try.results17, go_sem]) rfl ⟨rfl, hb⟩
set_option maxRecDepth 100000 in
set_option maxHeartbeats 1000000 in
theorem gshift_2 (x n m V : Int) (t c : Bool) (w : World) (hn : bits .and .i64 n 255 = m) (hm : 1 ≤ m) (h : Hid (∀ w, Calls Try.prog 33 #[.int .u32 x, .int .i64 m] w fun e w' => e = .returned (.tuple #[.int .u32 V, .bool t]) ∧ Below w.heap.size w w')) :
    Calls Try.prog 17 #[.int .i64 2, .int .u32 x, .int .i64 n, .bool c] w fun e w' => e = .returned (.tuple #[.int .u32 V, .bool t]) ∧ Below w.heap.size w w' := by
  have zm : (m == 0) = false := by simp; omega
  clear hm
  go_enter Try.func17, Try.ntmps17
  go_wp2_with (go_at_call 33; refine (h.out _).mono ?_; rintro e w' ⟨rfl, hb⟩)
  exact bodyPost_ret (v := .tuple #[.int .u32 V, .bool t]) (by simp [results, Try.results17, go_sem]) rfl ⟨rfl, hb⟩
set_option maxRecDepth 100000 in
set_option maxHeartbeats 1000000 in
theorem gshift_3 (x n m V : Int) (t c : Bool) (w : World) (hn : bits .and .i64 n 255 = m) (hm : 1 ≤ m) (hm2 : m ≤ 255) (h : Hid (∀ w, Calls Try.prog 34 #[.int .u32 x, .int .i64 (-m)] w fun e w' => e = .returned (.int .u32 V) ∧ w' = w)) (h2 : Hid (∀ w, Calls Try.prog 30 #[.int .u32 V, .int .i64 31] w fun e w' => e = .returned (.bool t) ∧ w' = w)) :
    Calls Try.prog 17 #[.int .i64 3, .int .u32 x, .int .i64 n, .bool c] w fun e w' => e = .returned (.tuple #[.int .u32 V, .bool t]) ∧ Below w.heap.size w w' := by
  have zm : (m == 0) = false := by simp; omega
  go_enter Try.func17, Try.ntmps17
  go_wp2_with (first | (go_at_call 34; refine (h.out _).mono ?_; rintro e w' ⟨rfl, rfl⟩) | (go_at_call 30; refine (h2.out _).mono ?_; rintro e w' ⟨rfl, rfl⟩))
  exact bodyPost_ret (v := .tuple #[.int .u32 V, .bool t]) (by simp [results, Try.results17, go_sem]) rfl ⟨rfl, Below.refl _ _⟩
theorem rrx_or (x : Nat) (c : Bool) (hx : x < 4294967296) : bits .or .u32 ((x : Int) / 2) (cI c * 2147483648) = ((x / 2 + (if c then 2147483648 else 0) : Nat) : Int) := by
  have h0 : ((x : Int) / 2) = ((x / 2 : Nat) : Int) := by simp
  cases c
  · rw [show cI false * 2147483648 = ((0 : Nat) : Int) by decide, h0, u32_or_nat _ _ (by omega) (by omega)]
    simp
  · rw [show cI true * 2147483648 = ((2147483648 : Nat) : Int) by decide, h0, u32_or_nat _ _ (by omega) (by omega)]
    have := or_high 31 1 (x / 2) (by simp; omega)
    rw [show (2 : Nat) ^ 31 * 1 = 2147483648 by decide] at this
    rw [this]
    simp
theorem gshift_any (k n : Int) (x : Nat) (c : Bool) (w : World) (hx : x < 4294967296) :
    Calls Try.prog 17 #[.int .i64 k, .int .u32 x, .int .i64 n, .bool c] w fun e w' => e = .returned (.tuple #[.int .u32 ((shX k x n c).1 : Nat), .bool (shX k x n c).2]) ∧ Below w.heap.size w w' := by
  have hA := i64_and255 n
  have hlt := rorK_lt
  unfold shX
  by_cases h4 : k = 4
  · subst h4
    rw [if_neg (by omega)]
    refine (gshift_4 x n ((x / 2 + (if c then 2147483648 else 0) : Nat) : Int) (fb x 0) c w (by omega) (by omega) (fun w => gset_nat x 0 w hx (by decide)) ?_).mono ?_
    · exact rrx_or x c hx
    · rintro e w' ⟨rfl, hb⟩
      refine ⟨?_, hb⟩
      simp [shW, shC, fb]
  by_cases hz : n % 256 = 0
  · refine (gshift_z k x n c w h4 (by rw [hA, hz])).mono ?_
    rintro e w' ⟨rfl, hb⟩
    refine ⟨?_, hb⟩
    split
    · rfl
    · rw [hz]
      have h44 : ¬ 4 < k.toNat := by omega
      have h45 : ¬ k.toNat = 4 := by omega
      simp [shW, shC, h44, h45]
  by_cases ho : k < 0 ∨ 4 < k
  · rw [if_pos ho]
    exact gshift_o k x n _ c w ho hA (by omega)
  rw [if_neg ho]
  have hM : n % 256 = ((n % 256).toNat : Int) := by omega
  have hM0 : 0 < (n % 256).toNat := by omega
  have hM1 : (n % 256).toNat < 256 := by omega
  generalize (n % 256).toNat = m at *
  rw [hM] at hA
  have e256 : m % 256 = m := by omega
  have ene : ¬ m = 0 := by omega
  rcases (show k = 0 ∨ k = 1 ∨ k = 2 ∨ k = 3 by omega) with rfl | rfl | rfl | rfl
  · refine (gshift_0 x n m _ _ c w hA (by omega) (fun w => gleft_any x m w hx hM0 hM1)).mono ?_
    rintro e w' ⟨rfl, hb⟩
    refine ⟨?_, hb⟩
    simp [shW, shC, e256, ene]
  · refine (gshift_1 x n m _ _ c w hA (by omega) (fun w => gright_any x m w hx hM0 hM1)).mono ?_
    rintro e w' ⟨rfl, hb⟩
    refine ⟨?_, hb⟩
    simp [shW, shC, e256, ene]
  · refine (gshift_2 x n m _ _ c w hA (by omega) (fun w => gasr_any x m w hx hM0 hM1)).mono ?_
    rintro e w' ⟨rfl, hb⟩
    refine ⟨?_, hb⟩
    simp [shW, shC, e256, ene]
  · have hr : rorK (32 - ((-(m : Int)) % 32).toNat) x = rorK (m % 32) x := by
      by_cases h0 : m % 32 = 0
      · rw [show ((-(m : Int)) % 32).toNat = 0 by omega, h0, rorK_0]
        exact rorK_32 x hx
      · rw [show 32 - ((-(m : Int)) % 32).toNat = m % 32 by omega]
    have hl := rorK_lt (m % 32) x (by omega) hx
    refine (gshift_3 x n m ((rorK (m % 32) x : Nat) : Int) (decide (2147483648 ≤ rorK (m % 32) x)) c w hA (by omega) (by omega) (fun w => ?_) (fun w => ?_)).mono ?_
    · have := grot_any x (-(m : Int)) w hx
      rwa [hr] at this
    · have := gset_31 (rorK (m % 32) x : Nat) w (by omega) (by omega)
      rwa [dec_top] at this
    rintro e w' ⟨rfl, hb⟩
    refine ⟨?_, hb⟩
    simp [shW, shC, e256, ene]
end Go.Proofs.Ytdelcknpaldngab
