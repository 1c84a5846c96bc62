import Derived.Test.YtdelcknpaldngacRm
namespace Go.Proofs.Ytdelcknpaldngac
open Go.RowKit
set_option linter.unusedVariables false
set_option linter.unusedSimpArgs false
set_option maxRecDepth 100000 in
set_option maxHeartbeats 1000000 in
theorem jpack_any (x : Nat) (w : World) (hx : x < 4294967296) :
    Calls Try.prog 16 #[.int .u32 x] w fun e w' => e = .returned (.tuple #[.int .u32 (pkW x : Nat), .bool (pkO x)]) ∧ w' = w := by
  have HE : Hid (∀ (i : Nat) w, i < 4096 → Calls Try.prog 14 #[.int .u32 i, .bool false] w fun e w' => e = .returned (.tuple #[.int .u32 (expW i : Nat), .bool (expC i false)]) ∧ w' = w) := fun i w hi => jexpand_any i false w (by omega)
  have HF : Hid (∀ j, j < 4096 → (∀ i, i < j → expW i ≠ x) → expW j = x → pkW x = j ∧ pkO x = true) := fun j hj hn he => pk_first x j hx hj hn he
  have HN : Hid ((∀ i, i < 4096 → expW i ≠ x) → pkW x = 0 ∧ pkO x = false) := pk_none x hx
  clear hx
  go_enter Try.func16, Try.ntmps16
  go_wp2
  go_loopw [4] (fun k wr => ∃ (j : Nat), j ≤ 4096 ∧ k = .int .u32 j ∧ wr = w ∧ ∀ i, i < j → expW i ≠ x) (fun k _ => (4096 - intOf k).toNat)
  case atStart => exact ⟨0, by omega, rfl, rfl, fun i h => absurd h (by omega)⟩
  case round =>
    obtain ⟨j, h1, rfl, rfl, hn⟩ := hrel
    have hn : Hid _ := hn
    by_cases h : j < 4096
    · have hw : IntKind.u32.wrap ((j : Int) + 1) = ((j + 1 : Nat) : Int) := by rw [IntKind.wrap_u32']; omega
      have z1 : decide ((j : Int) < 4096) = true := decide_eq_true (by omega)
      by_cases he : expW j = x
      · obtain ⟨e1, e2⟩ := HF.out j h hn.out he
        have z2 : ((expW j : Int) == (x : Int)) = true := by simp [he]
        have z3 : (expW j == x) = true := by simp [he]
        have e1 : Hid _ := e1
        have e2 : Hid _ := e2
        clear he
        go_wp2_with (go_at_call 14; refine (HE.out _ _ h).mono ?_; rintro e w' ⟨rfl, rfl⟩)
        exact bodyPost_ret (v := .tuple #[.int .u32 (j : Int), .bool true]) (by simp [results, Try.results16, go_sem]) rfl ⟨by rw [e1.out, e2.out], rfl⟩
      · have z2 : ((expW j : Int) == (x : Int)) = false := by simp; omega
        have z3 : (expW j == x) = false := by simp [he]
        have he : Hid _ := he
        go_wp2_with (go_at_call 14; refine (HE.out _ _ h).mono ?_; rintro e w' ⟨rfl, rfl⟩)
        go_roundw
        case rel =>
          refine ⟨j + 1, by omega, rfl, trivial, ?_⟩
          intro i hi
          by_cases hij : i = j
          · subst hij; exact he.out
          · exact hn.out i (by omega)
        case measure => simp [intOf]; omega
    · obtain rfl : j = 4096 := by omega
      obtain ⟨e1, e2⟩ := HN.out hn.out
      have e1 : Hid _ := e1
      have e2 : Hid _ := e2
      go_wp2_with fail
      exact bodyPost_ret (v := .tuple #[.int .u32 0, .bool false]) (by simp [results, Try.results16, go_sem]) rfl ⟨by rw [e1.out, e2.out]; rfl, rfl⟩
end Go.Proofs.Ytdelcknpaldngac
