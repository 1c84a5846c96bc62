import Derived.Test.YtdelcknpaldngabRa
namespace Go.Proofs.Ytdelcknpaldngab
open Go.RowKit
set_option linter.unusedVariables false
set_option linter.unusedSimpArgs false
theorem jbit_nat (x i : Nat) (w : World) (hx : x < 4294967296) (hi : i < 32) :
    Calls Try.prog 29 #[.int .u32 x, .int .i64 i] w fun e w' => e = .returned (.bool (decide (x / 2 ^ i % 2 = 1))) ∧ w' = w := by
  have := jbit_any x i w (by omega) (by omega)
  rwa [show ((i : Int)).toNat = i by omega, bt_nat] at this
set_option maxRecDepth 100000 in
theorem jone_any (k x : Nat) (c : Bool) (w : World) (hk : k < 5) (hx : x < 4294967296) :
    Calls Try.prog 35 #[.int .i64 k, .int .u32 x, .bool c] w fun e w' => e = .returned (.tuple #[.int .u32 (oneW k x c : Nat), .bool (oneC k x)]) ∧ w' = w := by
  have HB0 : Hid (∀ w, Calls Try.prog 29 #[.int .u32 x, .int .i64 0] w fun e w' => e = .returned (.bool (decide (x % 2 = 1))) ∧ w' = w) := fun w => by simpa using jbit_nat x 0 w hx (by decide)
  have HB1 : Hid (∀ w, Calls Try.prog 29 #[.int .u32 x, .int .i64 31] w fun e w' => e = .returned (.bool (decide (x / 2147483648 % 2 = 1))) ∧ w' = w) := fun w => by simpa using jbit_nat x 31 w hx (by decide)
  obtain rfl | rfl | rfl | rfl | rfl : k = 0 ∨ k = 1 ∨ k = 2 ∨ k = 3 ∨ k = 4 := by omega
  · go_enter Try.func35, Try.ntmps35
    go_wp2_with (first | (go_at_call 29; refine (HB1.out _).mono ?_; rintro e w' ⟨rfl, rfl⟩))
    refine bodyPost_ret (v := .tuple #[.int .u32 (oneW 0 x c : Nat), .bool (oneC 0 x)]) (by simp [results, Try.results35, go_sem, oneW, oneC]) rfl ⟨rfl, rfl⟩
  · go_enter Try.func35, Try.ntmps35
    go_wp2_with (first | (go_at_call 29; refine (HB0.out _).mono ?_; rintro e w' ⟨rfl, rfl⟩))
    refine bodyPost_ret (v := .tuple #[.int .u32 (oneW 1 x c : Nat), .bool (oneC 1 x)]) (by simp [results, Try.results35, go_sem, oneW, oneC]) rfl ⟨rfl, rfl⟩
  · have ha := asr_one x hx
    go_enter Try.func35, Try.ntmps35
    go_wp2_with (first | (go_at_call 29; refine (HB0.out _).mono ?_; rintro e w' ⟨rfl, rfl⟩))
    refine bodyPost_ret (v := .tuple #[.int .u32 (oneW 2 x c : Nat), .bool (oneC 2 x)]) (by simp [results, Try.results35, go_sem, oneW, oneC]) rfl ⟨rfl, rfl⟩
  · by_cases ho : x % 2 = 1
    · have hd : decide (x % 2 = 1) = true := decide_eq_true ho
      rw [hd] at HB0
      go_enter Try.func35, Try.ntmps35
      go_wp2_with (first | (go_at_call 29; refine (HB0.out _).mono ?_; rintro e w' ⟨rfl, rfl⟩))
      refine bodyPost_ret (v := .tuple #[.int .u32 (oneW 3 x c : Nat), .bool (oneC 3 x)]) (by simp [results, Try.results35, go_sem, oneW, oneC, ho]; try omega) rfl ⟨rfl, rfl⟩
    · have hd : decide (x % 2 = 1) = false := decide_eq_false ho
      rw [hd] at HB0
      go_enter Try.func35, Try.ntmps35
      go_wp2_with (first | (go_at_call 29; refine (HB0.out _).mono ?_; rintro e w' ⟨rfl, rfl⟩))
      refine bodyPost_ret (v := .tuple #[.int .u32 (oneW 3 x c : Nat), .bool (oneC 3 x)]) (by simp [results, Try.results35, go_sem, oneW, oneC, ho]; try omega) rfl ⟨rfl, rfl⟩
  · cases c
    all_goals
      go_enter Try.func35, Try.ntmps35
      go_wp2_with (first | (go_at_call 29; refine (HB0.out _).mono ?_; rintro e w' ⟨rfl, rfl⟩))
      refine bodyPost_ret (v := .tuple #[.int .u32 (oneW 4 x _ : Nat), .bool (oneC 4 x)]) (by simp [results, Try.results35, go_sem, oneW, oneC]) rfl ⟨rfl, rfl⟩
end Go.Proofs.Ytdelcknpaldngab
