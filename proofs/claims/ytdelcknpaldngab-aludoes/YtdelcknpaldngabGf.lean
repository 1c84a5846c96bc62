import Derived.Test.YtdelcknpaldngabGs
namespace Go.Proofs.Ytdelcknpaldngab
open Go.RowKit
set_option linter.unusedVariables false
set_option linter.unusedSimpArgs false
theorem packF_at (x j : Nat) (hj : j ≤ 16) (h : ∀ s, s < j → 256 ≤ rolR s x) : packX x = packF x (16 - j) j := by
  induction j with
  | zero => rfl
  | succ j ih =>
    rw [ih (by omega) (fun s hs => h s (by omega)), show 16 - j = 16 - (j + 1) + 1 by omega]
    have := h j (by omega)
    rw [packF, if_neg (by omega)]
theorem pack_at (x j : Nat) (hj : j < 16) (h : ∀ s, s < j → 256 ≤ rolR s x) (hr : rolR j x < 256) : pkW x = j * 256 + rolR j x ∧ pkO x = true := by
  have e := packF_at x j (by omega) h
  rw [show 16 - j = 16 - (j + 1) + 1 by omega, packF, if_pos hr] at e
  simp [pkW, pkO, e]
theorem pack_no (x : Nat) (h : ∀ s, s < 16 → 256 ≤ rolR s x) : pkW x = 0 ∧ pkO x = false := by
  have e := packF_at x 16 (by omega) h
  simp [pkW, pkO, e, packF]
set_option maxRecDepth 100000 in
set_option maxHeartbeats 1000000 in
theorem gpack_any (x : Nat) (w : World) (hx : x < 4294967296) :
    Calls Try.prog 23 #[.int .u32 x] w fun e w' => e = .returned (.tuple #[.int .u32 (pkW x : Nat), .bool (pkO x)]) ∧ Below w.heap.size w w' := by
  have HR : Hid (∀ (j : Nat) w, j < 16 → Calls Try.prog 34 #[.int .u32 x, .int .i64 ((2 * j : Nat) : Int)] w fun e w' => e = .returned (.int .u32 (rolR j x : Nat)) ∧ w' = w) := fun j w hj => by
    have := grot_any x ((2 * j : Nat) : Int) w hx
    rwa [show ((((2 * j : Nat) : Int)) % 32).toNat = 2 * j by omega] at this
  have HF : Hid (∀ j, j < 16 → (∀ s, s < j → 256 ≤ rolR s x) → rolR j x < 256 → pkW x = j * 256 + rolR j x ∧ pkO x = true) := fun j hj h hr => pack_at x j hj h hr
  have HN : Hid ((∀ s, s < 16 → 256 ≤ rolR s x) → pkW x = 0 ∧ pkO x = false) := pack_no x
  have HO : Hid (∀ j b : Nat, j < 16 → b < 256 → bits .or .u32 ((j : Int) * 256) (b : Int) = ((j * 256 + b : Nat) : Int)) := fun j b hj hb => by
    rw [or_low 8 _ _ j (by rw [show (2 : Int) ^ 8 = 256 by decide]; omega) (by omega) (by omega) (by omega) (by rw [show (2 : Int) ^ 8 = 256 by decide]; omega) (by decide)]; omega
  clear hx
  go_enter Try.func23, Try.ntmps23
  go_wp2
  go_loopw [4] (fun k wr => ∃ (j : Nat), j ≤ 16 ∧ k = .int .u32 j ∧ wr = w ∧ ∀ s, s < j → 256 ≤ rolR s x) (fun k _ => (16 - intOf k).toNat)
  case atStart => exact ⟨0, by omega, rfl, rfl, fun i h => absurd h (by omega)⟩
  case round =>
    obtain ⟨j, h1, rfl, rfl, hn⟩ := hrel
    have hn : Hid _ := hn
    by_cases h : j < 16
    · have hw : IntKind.u32.wrap ((j : Int) + 1) = ((j + 1 : Nat) : Int) := by rw [IntKind.wrap_u32']; omega
      have w0 : IntKind.u32.wrap ((j : Int) * 2) = ((2 * j : Nat) : Int) := by rw [IntKind.wrap_u32']; omega
      have w1 : IntKind.i64.wrap ((2 * j : Nat) : Int) = ((2 * j : Nat) : Int) := by rw [IntKind.wrap_i64]; omega
      have w2 : (j : Int) * 2 = ((2 * j : Nat) : Int) := by omega
      have w3 : (j : Int) * 256 % 4294967296 = (j : Int) * 256 := by omega
      have z1 : decide ((j : Int) < 16) = true := decide_eq_true (by omega)
      have HRj : Hid (∀ w, Calls Try.prog 34 #[.int .u32 x, .int .i64 ((2 * j : Nat) : Int)] w fun e w' => e = .returned (.int .u32 (rolR j x : Nat)) ∧ w' = w) := fun w => HR.out j w h
      by_cases he : rolR j x < 256
      · obtain ⟨e1, e2⟩ := HF.out j h hn.out he
        have ho := HO.out j _ h he
        have z2 : decide ((rolR j x : Int) ≤ 255) = true := decide_eq_true (by omega)
        have e1 : Hid _ := e1
        have e2 : Hid _ := e2
        clear he
        generalize 2 * j = J2 at *
        generalize j * 256 + rolR j x = V at *
        generalize rolR j x = b at *
        go_wp2_with (go_at_call 34; refine (HRj.out _).mono ?_; rintro e w' ⟨rfl, rfl⟩)
        exact bodyPost_ret (v := .tuple #[.int .u32 (V : Int), .bool true]) (by simp [results, Try.results23, go_sem, ho]) rfl ⟨by rw [e1.out, e2.out], Below.refl _ _⟩
      · have z2 : decide ((rolR j x : Int) ≤ 255) = false := decide_eq_false (by omega)
        have he : Hid _ := he
        generalize 2 * j = J2 at *
        go_wp2_with (go_at_call 34; refine (HRj.out _).mono ?_; rintro e w' ⟨rfl, rfl⟩)
        go_roundw
        case rel =>
          refine ⟨j + 1, by omega, rfl, trivial, ?_⟩
          intro i hi
          by_cases hij : i = j
          · subst hij; exact Nat.le_of_not_lt he.out
          · exact hn.out i (by omega)
        case measure => simp [intOf]; omega
    · obtain rfl : j = 16 := by omega
      obtain ⟨e1, e2⟩ := HN.out hn.out
      have e1 : Hid _ := e1
      have e2 : Hid _ := e2
      go_wp2_with fail
      exact bodyPost_ret (v := .tuple #[.int .u32 0, .bool false]) (by simp [results, Try.results23, go_sem]) rfl ⟨by rw [e1.out, e2.out]; rfl, Below.refl _ _⟩
end Go.Proofs.Ytdelcknpaldngab
