import Derived.Test.YtdelcknpaldngabRb
namespace Go.Proofs.Ytdelcknpaldngab
open Go.RowKit
set_option linter.unusedVariables false
set_option linter.unusedSimpArgs false
set_option maxRecDepth 100000 in
theorem jshift_lo (k x m : Nat) (n : Int) (c : Bool) (w : World) (hk : k < 4) (hx : x < 4294967296) (hm : bits .and .i64 n 255 = (m : Int)) (hm2 : m < 256) :
    Calls Try.prog 18 #[.int .i64 k, .int .u32 x, .int .i64 n, .bool c] w fun e w' => e = .returned (.tuple #[.int .u32 ((iterS k m x c).1 : Nat), .bool (iterS k m x c).2]) ∧ w' = w := by
  have HO : Hid (∀ j w, Calls Try.prog 35 #[.int .i64 k, .int .u32 ((iterS k j x c).1 : Nat), .bool (iterS k j x c).2] w fun e w' => e = .returned (.tuple #[.int .u32 ((iterS k (j + 1) x c).1 : Nat), .bool (iterS k (j + 1) x c).2]) ∧ w' = w) :=
    fun j w => jone_any k _ _ w (by omega) (iterS_lt k j x c hx)
  have q1 : decide ((k : Int) < 0) = false := decide_eq_false (by omega)
  have q2 : decide (4 < (k : Int)) = false := decide_eq_false (by omega)
  have q3 : ((k : Int) == 4) = false := by simp; omega
  clear hk hx
  go_enter Try.func18, Try.ntmps18
  go_wp2
  go_loopw [1, 3, 10] (fun a b i wr => ∃ (j : Nat), j ≤ m ∧ a = .int .u32 ((iterS k j x c).1 : Nat) ∧ b = .bool (iterS k j x c).2 ∧ i = .int .i64 j ∧ wr = w) (fun _ _ i _ => (m - intOf i).toNat)
  case atStart => exact ⟨0, by omega, rfl, rfl, rfl, rfl⟩
  case round =>
    obtain ⟨j, h1, rfl, rfl, rfl, rfl⟩ := hrel
    by_cases h : j < m
    · have hw : IntKind.i64.wrap ((j : Int) + 1) = ((j + 1 : Nat) : Int) := by rw [IntKind.wrap_i64]; omega
      have z1 : decide ((j : Int) < (m : Int)) = true := decide_eq_true (by omega)
      go_wp2_with (go_at_call 35; refine (HO.out _ _).mono ?_; rintro e w' ⟨rfl, rfl⟩)
      go_roundw
      case rel => exact ⟨j + 1, by omega, rfl, rfl, rfl, trivial⟩
      case measure => simp [intOf]; omega
    · obtain rfl : j = m := by omega
      have z1 : decide ((j : Int) < (j : Int)) = false := decide_eq_false (by omega)
      go_wp2_with fail
      exact bodyPost_ret (v := .tuple #[.int .u32 ((iterS k j x c).1 : Nat), .bool (iterS k j x c).2]) (by simp [results, Try.results18, go_sem]) rfl ⟨rfl, rfl⟩
set_option maxRecDepth 100000 in
theorem jshift_rrx (x : Nat) (n : Int) (c : Bool) (w : World) (hx : x < 4294967296) :
    Calls Try.prog 18 #[.int .i64 4, .int .u32 x, .int .i64 n, .bool c] w fun e w' => e = .returned (.tuple #[.int .u32 (oneW 4 x c : Nat), .bool (oneC 4 x)]) ∧ w' = w := by
  have HO : Hid (∀ w, Calls Try.prog 35 #[.int .i64 4, .int .u32 x, .bool c] w fun e w' => e = .returned (.tuple #[.int .u32 (oneW 4 x c : Nat), .bool (oneC 4 x)]) ∧ w' = w) :=
    fun w => jone_any 4 _ _ w (by omega) hx
  generalize oneW 4 x c = u at *
  generalize oneC 4 x = v at *
  clear hx
  go_enter Try.func18, Try.ntmps18
  go_wp2
  go_loopw [1, 3, 10] (fun a b i wr => (a = .int .u32 x ∧ b = .bool c ∧ i = .int .i64 0 ∨ a = .int .u32 u ∧ b = .bool v ∧ i = .int .i64 1) ∧ wr = w) (fun _ _ i _ => (1 - intOf i).toNat)
  case atStart => exact ⟨Or.inl ⟨rfl, rfl, rfl⟩, rfl⟩
  case round =>
    obtain ⟨⟨rfl, rfl, rfl⟩ | ⟨rfl, rfl, rfl⟩, rfl⟩ := hrel
    · go_wp2_with (go_at_call 35; refine (HO.out _).mono ?_; rintro e w' ⟨rfl, rfl⟩)
      go_roundw
      case rel => exact ⟨Or.inr ⟨rfl, rfl, rfl⟩, trivial⟩
      case measure => simp [intOf]
    · go_wp2_with fail
      exact bodyPost_ret (v := .tuple #[.int .u32 u, .bool v]) (by simp [results, Try.results18, go_sem]) rfl ⟨rfl, rfl⟩
set_option maxRecDepth 100000 in
theorem jshift_out (k n : Int) (x : Nat) (c : Bool) (w : World) (hk : k < 0 ∨ 4 < k) :
    Calls Try.prog 18 #[.int .i64 k, .int .u32 x, .int .i64 n, .bool c] w fun e w' => e = .returned (.tuple #[.int .u32 x, .bool c]) ∧ w' = w := by
  by_cases h1 : k < 0
  · have q1 : decide (k < 0) = true := decide_eq_true h1
    clear hk
    go_enter Try.func18, Try.ntmps18
    go_wp2
    exact bodyPost_ret (v := .tuple #[.int .u32 x, .bool c]) (by simp [results, Try.results18, go_sem]) rfl ⟨rfl, rfl⟩
  · have q1 : decide (k < 0) = false := decide_eq_false h1
    have q2 : decide (4 < k) = true := decide_eq_true (by omega)
    clear hk
    go_enter Try.func18, Try.ntmps18
    go_wp2
    exact bodyPost_ret (v := .tuple #[.int .u32 x, .bool c]) (by simp [results, Try.results18, go_sem]) rfl ⟨rfl, rfl⟩
theorem jshift_any (k n : Int) (x : Nat) (c : Bool) (w : World) (hx : x < 4294967296) :
    Calls Try.prog 18 #[.int .i64 k, .int .u32 x, .int .i64 n, .bool c] w fun e w' => e = .returned (.tuple #[.int .u32 ((shX k x n c).1 : Nat), .bool (shX k x n c).2]) ∧ w' = w := by
  unfold shX
  by_cases hk : k < 0 ∨ 4 < k
  · rw [if_pos hk]; exact jshift_out k n x c w hk
  · rw [if_neg hk]
    by_cases h4 : k = 4
    · subst h4
      exact jshift_rrx x n c w hx
    · obtain ⟨K, rfl⟩ := Int.eq_ofNat_of_zero_le (show 0 ≤ k by omega)
      have h := jshift_lo K x (n % 256).toNat n c w (by omega) hx (by rw [i64_and255]; omega) (by omega)
      have e := shift_iter K x (n % 256).toNat c (by omega) hx
      rw [show (n % 256).toNat % 256 = (n % 256).toNat by omega] at e
      rw [e] at h
      exact h
end Go.Proofs.Ytdelcknpaldngab
