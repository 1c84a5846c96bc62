import Derived.Test.YtdelcknpaldngaaGs
namespace Go.Proofs.Ytdelcknpaldngaa
open Go.RowKit
set_option linter.unusedVariables false
set_option linter.unusedSimpArgs false
theorem exp_sh (i : Nat) (c : Bool) : shX 3 (i % 256) ((2 * (i / 256 % 16) : Nat) : Int) c = (expW i, expC i c) := by
  have hr : i / 256 % 16 < 16 := by omega
  unfold shX expC expW
  rw [if_neg (by omega)]
  generalize i / 256 % 16 = r at *
  have e : (((2 * r : Nat) : Int) % 256).toNat = 2 * r := by omega
  have e2 : 2 * r % 256 = 2 * r := by omega
  have e3 : 2 * r % 32 = 2 * r := by omega
  rw [e]
  by_cases h0 : r = 0
  · subst h0
    simp [shW, shC, rorK_0]
  · have h1 : ¬ 2 * r = 0 := by omega
    simp [shW, shC, e2, e3, h1, h0]
set_option maxRecDepth 100000 in
set_option maxHeartbeats 1000000 in
theorem gexpand_any (i : Nat) (c : Bool) (w : World) (hi : i < 4294967296) :
    Calls Try.prog 16 #[.int .u32 i, .bool c] w fun e w' => e = .returned (.tuple #[.int .u32 (expW i : Nat), .bool (expC i c)]) ∧ Below w.heap.size w w' := by
  have HS : Hid (∀ w, Calls Try.prog 11 #[.int .i64 3, .int .u32 ((i % 256 : Nat) : Int), .int .i64 ((2 * (i / 256 % 16) : Nat) : Int), .bool c] w fun e w' => e = .returned (.tuple #[.int .u32 (expW i : Nat), .bool (expC i c)]) ∧ Below w.heap.size w w') := fun w => by
    have := gshift_any 3 ((2 * (i / 256 % 16) : Nat) : Int) (i % 256) c w (by omega)
    rwa [exp_sh] at this
  generalize expC i c = EC at *
  generalize expW i = EW at *
  have b2 : bits .and .u32 (i : Int) 255 = ((i % 256 : Nat) : Int) := by
    rw [band_mod 8 255 _ (by decide) (by decide) (by omega)]; omega
  have hd : (i : Int) / 256 = ((i / 256 : Nat) : Int) := by simp
  have ht : Int.tmod ((i : Int) / 256) 16 = ((i / 256 % 16 : Nat) : Int) := by rw [hd, Int.tmod_eq_emod_of_nonneg (by omega)]; omega
  have ht2 : (i : Int) / 256 % 16 = ((i / 256 % 16 : Nat) : Int) := by omega
  have hr : i / 256 % 16 < 16 := by omega
  generalize i % 256 = b at *
  generalize i / 256 % 16 = r at *
  have w0 : IntKind.u32.wrap ((r : Int) * 2) = ((2 * r : Nat) : Int) := by rw [IntKind.wrap_u32']; omega
  have w1 : (r : Int) * 2 = ((2 * r : Nat) : Int) := by omega
  have w2 : IntKind.i64.wrap ((2 * r : Nat) : Int) = ((2 * r : Nat) : Int) := by rw [IntKind.wrap_i64]; omega
  generalize 2 * r = R at *
  clear hd
  go_enter Try.func16, Try.ntmps16
  go_wp2_with (go_at_call 11; refine (HS.out _).mono ?_; rintro e w' ⟨rfl, hb⟩)
  exact bodyPost_ret (v := .tuple #[.int .u32 (EW : Nat), .bool EC]) (by simp [results, Try.results16, go_sem]) rfl ⟨rfl, hb⟩
end Go.Proofs.Ytdelcknpaldngaa
