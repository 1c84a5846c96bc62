import Derived.Test.YtdelcknpaldngabLa
import Derived.Test.YtdelcknpaldngabRd
import Derived.Test.YtdelcknpaldngabRf
namespace Go.Proofs.Ytdelcknpaldngab
open Go.RowKit
set_option linter.unusedVariables false
set_option linter.unusedSimpArgs false
set_option maxRecDepth 100000 in
set_option maxHeartbeats 4000000 in
theorem law_passed (c0 : Int) (w : World) :
    Calls Try.prog 5 #[.int .i64 c0] w fun e w' => e = .returned (.bool true) ∧ Below w.heap.size w w' := by
  have HG : Hid (∀ c a b d e w, Calls Try.prog 15 #[.int .i64 c, .agg #[.bool a, .bool b, .bool d, .bool e]] w fun r w' => r = .returned (.bool (paF c a b d e)) ∧ Below w.heap.size w w') := fun c a b d e w => gpassed_any c ⟨a, b, d, e⟩ w
  have HJ : Hid (∀ c a b d e w, Calls Try.prog 16 #[.int .i64 c, .agg #[.bool a, .bool b, .bool d, .bool e]] w fun r w' => r = .returned (.bool (paF c a b d e)) ∧ Below w.heap.size w w') := fun c a b d e w => jpassed_any c a b d e w
  have HF : Hid (∀ (x : Int) w, 0 ≤ x → x < 4294967296 → ∃ a b d e, Calls Try.prog 14 #[.int .u32 x] w fun r w' => r = .returned (.agg #[.bool a, .bool b, .bool d, .bool e]) ∧ Below w.heap.size w w') := fun x w h0 h1 => by
    obtain ⟨X, rfl⟩ := Int.eq_ofNat_of_zero_le h0
    exact ⟨_, _, _, _, jflags_any X w (by omega)⟩
  have HL : Hid (∀ w, Calls Try.prog 9 #[] w fun e w' => e = .returned (.bool true) ∧ Below w.heap.size w w') := live_any
  go_enter Try.func5, Try.ntmps5
  go_wp2_with (go_at_call 9; refine (HL.out _).mono ?_; rintro e w3 ⟨rfl, hb⟩; have HB : Hid (Below w.heap.size w w3) := hb; clear hb)
  go_loopw [3] (fun k wr => ∃ (n : Int), -1 ≤ n ∧ n ≤ 17 ∧ k = .int .i64 n ∧ Below w.heap.size w wr) (fun k _ => (17 - intOf k).toNat)
  case atStart => exact ⟨-1, by omega, by omega, rfl, HB.out⟩
  case round =>
    obtain ⟨n, h1, h2, rfl, hB⟩ := hrel
    clear HB
    have HB : Hid (Below _ _ _) := hB
    clear hB
    by_cases h : n < 17
    · have hw : IntKind.i64.wrap (n + 1) = n + 1 := by rw [IntKind.wrap_i64]; omega
      have z1 : decide (n < 17) = true := decide_eq_true h
      go_wp2_with fail
      generalize wr = wz at *
      go_loopw [4] (fun k wr => ∃ (m : Int), 0 ≤ m ∧ m ≤ 16 ∧ k = .int .u32 m ∧ Below w.heap.size w wr) (fun k _ => (16 - intOf k).toNat)
      case atStart => exact ⟨0, by omega, by omega, rfl, HB.out⟩
      case round =>
        obtain ⟨m, g1, g2, rfl, hB⟩ := hrel
        clear HB
        have HB : Hid (Below _ _ _) := hB
        clear hB
        by_cases g : m < 16
        · have hv : IntKind.u32.wrap (m + 1) = m + 1 := by rw [IntKind.wrap_u32']; omega
          have y1 : decide (m < 16) = true := decide_eq_true g
          obtain ⟨a, b, d, e, HF1⟩ := HF.out (m * 268435456) wr (by omega) (by omega)
          have HF1 : Hid (Calls _ _ _ _ _) := HF1
          go_wp2_with (go_at_call 14; refine HF1.out.mono ?_; rintro r w1 ⟨rfl, hb⟩; have HB : Hid (Below _ _ _) := Below.step HB.out hb; clear hb)
          have B : Hid (Bl _ _ _ _) := (Bl.new w1 28 [.bool a, .bool b, .bool d, .bool e]).drew
          have HB : Hid (Below _ _ _) := Below.step HB.out (below_new w1 (.cells #[.bool a, .bool b, .bool d, .bool e] 28))
          clear HF1 HF HL
          generalize w1.heap.size = q at B ⊢
          generalize w1.alloc _ = w2 at B HB ⊢
          have HB : Hid (Below w.heap.size w w2.drew) := below_drew HB.out
          go_region_held3 (fun w' => w'.cell? ⟨q, 0, none⟩ = some (.bool a) ∧ w'.cell? ⟨q, 1, none⟩ = some (.bool b) ∧ w'.cell? ⟨q, 2, none⟩ = some (.bool d) ∧ w'.cell? ⟨q, 3, none⟩ = some (.bool e)) (first | (with_reducible exact B.out.four.1)) ((first
            | (go_at_call 15; refine (HG.out _ _ _ _ _ _).mono ?_; rintro r wn ⟨rfl, hb⟩; have B : Hid (Bl _ _ _ _) := B.out.below hb; have HB : Hid (Below _ _ _) := Below.step HB.out hb; clear hb)
            | (go_at_call 16; refine (HJ.out _ _ _ _ _ _).mono ?_; rintro r wn ⟨rfl, hb⟩; have B : Hid (Bl _ _ _ _) := B.out.below hb; have HB : Hid (Below _ _ _) := Below.step HB.out hb; clear hb)))
          go_wp2_with fail
          go_roundw
          case rel => exact ⟨m + 1, by omega, by omega, rfl, HB.out⟩
          case measure => simp [intOf]; omega
        · obtain rfl : m = 16 := by omega
          go_wp2_with fail
          go_roundw
          case rel => exact ⟨n + 1, by omega, by omega, rfl, HB.out⟩
          case measure => simp [intOf]; omega
    · obtain rfl : n = 17 := by omega
      go_wp2_with fail
      go_ret
      exact ⟨by simp, HB.out⟩
end Go.Proofs.Ytdelcknpaldngab
