import Derived.Test.YtdelcknpaldngabLa
import Derived.Test.YtdelcknpaldngabRe
namespace Go.Proofs.Ytdelcknpaldngab
open Go.RowKit
set_option linter.unusedVariables false
set_option linter.unusedSimpArgs false
set_option maxRecDepth 100000 in
set_option maxHeartbeats 4000000 in
theorem law_decodes (k0 n0 : Int) (w : World) :
    Calls Try.prog 3 #[.int .i64 k0, .int .i64 n0] w fun e w' => e = .returned (.bool true) ∧ Below w.heap.size w w' := by
  have HG : Hid (∀ k n w, Calls Try.prog 10 #[.int .i64 k, .int .i64 n] w fun e w' => e = .returned (.tuple #[.int .i64 (deF k n).1, .int .i64 (deF k n).2]) ∧ Below w.heap.size w w') := fun k n w => gdecode_any k n w
  have HJ : Hid (∀ k n w, Calls Try.prog 11 #[.int .i64 k, .int .i64 n] w fun e w' => e = .returned (.tuple #[.int .i64 (deF k n).1, .int .i64 (deF k n).2]) ∧ w' = w) := fun k n w => jdecode_any k n w
  have HL : Hid (∀ w, Calls Try.prog 9 #[] w fun e w' => e = .returned (.bool true) ∧ Below w.heap.size w w') := live_any
  go_enter Try.func3, Try.ntmps3
  go_wp2_with (go_at_call 9; refine (HL.out _).mono ?_; rintro e w3 ⟨rfl, hb⟩; have HB : Hid (Below w.heap.size w w3) := hb; clear hb)
  go_loopw [5] (fun k wr => ∃ (n : Int), -1 ≤ n ∧ n ≤ 6 ∧ k = .int .i64 n ∧ Below w.heap.size w wr) (fun k _ => (6 - intOf k).toNat)
  case atStart => exact ⟨-1, by omega, by omega, rfl, HB.out⟩
  case round =>
    obtain ⟨n, h1, h2, rfl, hB⟩ := hrel
    clear HB
    have HB : Hid (Below _ _ _) := hB
    clear hB
    by_cases h : n < 6
    · have hw : IntKind.i64.wrap (n + 1) = n + 1 := by rw [IntKind.wrap_i64]; omega
      have z1 : decide (n < 6) = true := decide_eq_true h
      go_wp2_with fail
      generalize wr = wz at *
      go_loopw [6] (fun k wr => ∃ (m : Int), -1 ≤ m ∧ m ≤ 34 ∧ k = .int .i64 m ∧ Below w.heap.size w wr) (fun k _ => (34 - intOf k).toNat)
      case atStart => exact ⟨-1, by omega, by omega, rfl, HB.out⟩
      case round =>
        obtain ⟨m, g1, g2, rfl, hB⟩ := hrel
        clear HB
        have HB : Hid (Below _ _ _) := hB
        clear hB
        by_cases g : m < 34
        · have hv : IntKind.i64.wrap (m + 1) = m + 1 := by rw [IntKind.wrap_i64]; omega
          have y1 : decide (m < 34) = true := decide_eq_true g
          go_wp2_with (first
            | (go_at_call 10; refine (HG.out _ _ _).mono ?_; rintro e w1 ⟨rfl, hb⟩; have HB : Hid (Below _ _ _) := Below.step HB.out hb; clear hb)
            | (go_at_call 11; refine (HJ.out _ _ _).mono ?_; rintro e w' ⟨rfl, rfl⟩))
          go_roundw
          case rel => exact ⟨m + 1, by omega, by omega, rfl, HB.out⟩
          case measure => simp [intOf]; omega
        · obtain rfl : m = 34 := by omega
          go_wp2_with fail
          go_roundw
          case rel => exact ⟨n + 1, by omega, by omega, rfl, HB.out⟩
          case measure => simp [intOf]; omega
    · obtain rfl : n = 6 := by omega
      go_wp2_with (first
        | (go_at_call 10; refine (HG.out _ _ _).mono ?_; rintro e w1 ⟨rfl, hb⟩; have HB : Hid (Below _ _ _) := Below.step HB.out hb; clear hb)
        | (go_at_call 11; refine (HJ.out _ _ _).mono ?_; rintro e w' ⟨rfl, rfl⟩))
      go_ret
      exact ⟨by simp, HB.out⟩
end Go.Proofs.Ytdelcknpaldngab
