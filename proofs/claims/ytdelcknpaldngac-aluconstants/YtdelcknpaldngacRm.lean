import Derived.Test.YtdelcknpaldngacRf
namespace Go.Proofs.Ytdelcknpaldngac
open Go.RowKit
set_option linter.unusedVariables false
set_option linter.unusedSimpArgs false
set_option maxRecDepth 100000 in
set_option maxHeartbeats 1000000 in
theorem jexpand_any (i : Nat) (c : Bool) (w : World) (hi : i < 4294967296) :
    Calls Try.prog 14 #[.int .u32 i, .bool c] w fun e w' => e = .returned (.tuple #[.int .u32 (expW i : Nat), .bool (expC i c)]) ∧ w' = w := by
  have HO : Hid (∀ j w, Calls Try.prog 28 #[.int .i64 3, .int .u32 ((iterS 3 j (i % 256) c).1 : Nat), .bool false] w fun e w' => e = .returned (.tuple #[.int .u32 ((iterS 3 (j + 1) (i % 256) c).1 : Nat), .bool (iterS 3 (j + 1) (i % 256) c).2]) ∧ w' = w) :=
    fun j w => jone_any 3 _ _ w (by omega) (iterS_lt 3 j (i % 256) c (by omega))
  have HE : Hid (iterS 3 (2 * (i / 256 % 16)) (i % 256) c = (expW i, expC i c)) := exp_iter i c
  have b1 : bits .and .u32 ((i : Int) / 256) 15 = ((i / 256 % 16 : Nat) : Int) := by
    rw [band_mod 4 15 _ (by decide) (by decide) (by omega)]; omega
  have b2 : bits .and .u32 (i : Int) 255 = ((i % 256 : Nat) : Int) := by
    rw [band_mod 8 255 _ (by decide) (by decide) (by omega)]; omega
  have hr : i / 256 % 16 < 16 := by omega
  generalize hR : i / 256 % 16 = r at *
  have w1 : IntKind.i64.wrap (2 * (r : Int)) = ((2 * r : Nat) : Int) := by rw [IntKind.wrap_i64]; omega
  have w2 : IntKind.i64.wrap (r : Int) = (r : Int) := by rw [IntKind.wrap_i64]; omega
  clear hR
  go_enter Try.func14, Try.ntmps14
  go_wp2
  go_loopw [1, 7, 8] (fun b a k wr => ∃ (j : Nat), j ≤ 2 * r ∧ a = .int .u32 ((iterS 3 j (i % 256) c).1 : Nat) ∧ b = .bool (iterS 3 j (i % 256) c).2 ∧ k = .int .i64 j ∧ wr = w) (fun _ _ k _ => (2 * r - intOf k).toNat)
  case atStart => exact ⟨0, by omega, rfl, rfl, rfl, rfl⟩
  case round =>
    obtain ⟨j, h1, rfl, rfl, rfl, rfl⟩ := hrel
    by_cases h : j < 2 * r
    · have hw : IntKind.i64.wrap ((j : Int) + 1) = ((j + 1 : Nat) : Int) := by rw [IntKind.wrap_i64]; omega
      have z1 : decide ((j : Int) < ((2 * r : Nat) : Int)) = true := decide_eq_true (by omega)
      have z2 : decide ((j : Int) < 2 * (r : Int)) = true := decide_eq_true (by omega)
      go_wp2_with (go_at_call 28; refine (HO.out _ _).mono ?_; rintro e w' ⟨rfl, rfl⟩)
      go_roundw
      case rel => exact ⟨j + 1, by omega, rfl, rfl, rfl, trivial⟩
      case measure => simp [intOf]; omega
    · obtain rfl : j = 2 * r := by omega
      have z2 : decide (2 * (r : Int) < 2 * (r : Int)) = false := decide_eq_false (by omega)
      rw [HE.out]
      go_wp2_with fail
      exact bodyPost_ret (v := .tuple #[.int .u32 (expW i : Nat), .bool (expC i c)]) (by simp [results, Try.results14, go_sem]) rfl ⟨rfl, rfl⟩
end Go.Proofs.Ytdelcknpaldngac
