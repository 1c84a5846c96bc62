import Derived.Test.YtdelcknpaldngabRf
namespace Go.Proofs.Ytdelcknpaldngab
open Go.RowKit
set_option linter.unusedVariables false
set_option linter.unusedSimpArgs false
set_option maxRecDepth 100000 in
set_option maxHeartbeats 1000000 in
theorem jproduct_any (a b : Nat) (w : World) (ha : a < 4294967296) (hb : b < 4294967296) :
    Calls Try.prog 37 #[.int .u32 a, .int .u32 b] w fun e w' => e = .returned (.int .u64 ((a * b : Nat) : Int)) ∧ w' = w := by
  have HB : Hid (∀ (i : Nat) w, i < 32 → Calls Try.prog 29 #[.int .u32 b, .int .i64 i] w fun e w' => e = .returned (.bool (decide (b / 2 ^ i % 2 = 1))) ∧ w' = w) := fun i w hi => jbit_nat b i w hb hi
  have HC : Hid (∀ i, i ≤ 32 → a * (b % 2 ^ i) < 18446744073709551616) := fun i hi => col_bound a b i ha hi
  have HE : Hid (a * (b % 2 ^ 32) = a * b) := col_end a b hb
  have hwa : IntKind.u64.wrap (a : Int) = a := by rw [IntKind.wrap_u64]; omega
  have HW : Hid (∀ j, j < 32 → b / 2 ^ j % 2 = 1 → IntKind.u64.wrap ((a : Int) * ((b : Int) % 2 ^ j) + IntKind.u64.wrap ((a : Int) * 2 ^ j)) = ((a * (b % 2 ^ (j + 1)) : Nat) : Int)) := fun j hj h => col_wrap a b j ha hj h
  clear ha hb
  go_enter Try.func37, Try.ntmps37
  go_wp2
  go_loopw [5, 6] (fun p i wr => ∃ (j : Nat), j ≤ 32 ∧ p = .int .u64 ((a * (b % 2 ^ j) : Nat) : Int) ∧ i = .int .i64 j ∧ wr = w) (fun _ i _ => (32 - intOf i).toNat)
  case atStart => exact ⟨0, by omega, by simp, rfl, rfl⟩
  case round =>
    obtain ⟨j, h1, rfl, rfl, rfl⟩ := hrel
    by_cases h : j < 32
    · have hw : IntKind.i64.wrap ((j : Int) + 1) = ((j + 1 : Nat) : Int) := by rw [IntKind.wrap_i64]; omega
      have z1 : decide ((j : Int) < 32) = true := decide_eq_true (by omega)
      by_cases hbit : b / 2 ^ j % 2 = 1
      · have hd : decide (b / 2 ^ j % 2 = 1) = true := decide_eq_true hbit
        have i0 : 0 ≤ (j : Int) := by omega
        go_wp2_with (go_at_call 29; refine (HB.out j _ h).mono ?_; rintro e w' ⟨rfl, rfl⟩)
        go_roundw
        case rel => exact ⟨j + 1, by omega, congrArg _ (HW.out j h hbit), rfl, trivial⟩
        case measure => simp [intOf]; omega
      · have hd : decide (b / 2 ^ j % 2 = 1) = false := decide_eq_false hbit
        go_wp2_with (go_at_call 29; refine (HB.out j _ h).mono ?_; rintro e w' ⟨rfl, rfl⟩)
        go_roundw
        case rel => exact ⟨j + 1, by omega, by rw [col_succ, if_neg hbit]; rfl, rfl, trivial⟩
        case measure => simp [intOf]; omega
    · obtain rfl : j = 32 := by omega
      go_wp2_with fail
      go_ret
      exact ⟨by rw [HE.out]; rfl, rfl⟩
end Go.Proofs.Ytdelcknpaldngab
