import Derived.Test.YtdelcknpaldngabLa
import Derived.Test.YtdelcknpaldngabRc
namespace Go.Proofs.Ytdelcknpaldngab
open Go.RowKit
set_option linter.unusedVariables false
set_option linter.unusedSimpArgs false
set_option maxRecDepth 100000 in
set_option maxHeartbeats 4000000 in
theorem law_shifts (k0 n0 : Int) (x : Nat) (c : Bool) (w : World) (hx : x < 4294967296) :
    Calls Try.prog 6 #[.int .i64 k0, .int .u32 x, .int .i64 n0, .bool c] w fun e w' => e = .returned (.bool true) ∧ Below w.heap.size w w' := by
  have HG : Hid (∀ k n w, Calls Try.prog 17 #[.int .i64 k, .int .u32 x, .int .i64 n, .bool c] w fun e w' => e = .returned (.tuple #[.int .u32 ((shX k x n c).1 : Nat), .bool (shX k x n c).2]) ∧ Below w.heap.size w w') := fun k n w => gshift_any k n x c w hx
  have HJ : Hid (∀ k n w, Calls Try.prog 18 #[.int .i64 k, .int .u32 x, .int .i64 n, .bool c] w fun e w' => e = .returned (.tuple #[.int .u32 ((shX k x n c).1 : Nat), .bool (shX k x n c).2]) ∧ w' = w) := fun k n w => jshift_any k n x c w hx
  clear hx
  have HL : Hid (∀ w, Calls Try.prog 9 #[] w fun e w' => e = .returned (.bool true) ∧ Below w.heap.size w w') := live_any
  go_enter Try.func6, Try.ntmps6
  go_wp2_with (go_at_call 9; refine (HL.out _).mono ?_; rintro e w3 ⟨rfl, hb⟩; have HB : Hid (Below w.heap.size w w3) := hb; clear hb)
  go_loopw [9] (fun k wr => ∃ (n : Int), -1 ≤ n ∧ n ≤ 6 ∧ k = .int .i64 n ∧ Below w.heap.size w wr) (fun k _ => (6 - intOf k).toNat)
  case atStart => exact ⟨-1, by omega, by omega, rfl, HB.out⟩
  case round =>
    obtain ⟨n, h1, h2, rfl, hB⟩ := hrel
    clear HB
    have HB : Hid (Below _ _ _) := hB
    clear hB
    by_cases h : n < 6
    · have hw : IntKind.i64.wrap (n + 1) = n + 1 := by rw [IntKind.wrap_i64]; omega
      have z1 : decide (n < 6) = true := decide_eq_true h
      go_wp2_with fail
      generalize wr = wz at *
      go_loopw [10] (fun k wr => ∃ (m : Int), 0 ≤ m ∧ m ≤ 259 ∧ k = .int .i64 m ∧ Below w.heap.size w wr) (fun k _ => (259 - intOf k).toNat)
      case atStart => exact ⟨0, by omega, by omega, rfl, HB.out⟩
      case round =>
        obtain ⟨m, g1, g2, rfl, hB⟩ := hrel
        clear HB
        have HB : Hid (Below _ _ _) := hB
        clear hB
        by_cases g : m < 259
        · have hv : IntKind.i64.wrap (m + 1) = m + 1 := by rw [IntKind.wrap_i64]; omega
          have y1 : decide (m < 259) = true := decide_eq_true g
          rcases (show m = 257 ∨ m = 258 ∨ (m ≠ 257 ∧ m ≠ 258) by omega) with rfl | rfl | ⟨q1, q2⟩
          · go_wp2_with (first
              | (go_at_call 17; refine (HG.out _ _ _).mono ?_; rintro e w1 ⟨rfl, hb⟩; have HB : Hid (Below _ _ _) := Below.step HB.out hb; clear hb)
              | (go_at_call 18; refine (HJ.out _ _ _).mono ?_; rintro e w' ⟨rfl, rfl⟩))
            go_roundw
            case rel => exact ⟨258, by omega, by omega, rfl, HB.out⟩
            case measure => simp [intOf]
          · go_wp2_with (first
              | (go_at_call 17; refine (HG.out _ _ _).mono ?_; rintro e w1 ⟨rfl, hb⟩; have HB : Hid (Below _ _ _) := Below.step HB.out hb; clear hb)
              | (go_at_call 18; refine (HJ.out _ _ _).mono ?_; rintro e w' ⟨rfl, rfl⟩))
            go_roundw
            case rel => exact ⟨259, by omega, by omega, rfl, HB.out⟩
            case measure => simp [intOf]
          · have y2 : (m == 257) = false := by simp [q1]
            have y3 : (m == 258) = false := by simp [q2]
            clear q1 q2
            go_wp2_with (first
              | (go_at_call 17; refine (HG.out _ _ _).mono ?_; rintro e w1 ⟨rfl, hb⟩; have HB : Hid (Below _ _ _) := Below.step HB.out hb; clear hb)
              | (go_at_call 18; refine (HJ.out _ _ _).mono ?_; rintro e w' ⟨rfl, rfl⟩))
            go_roundw
            case rel => exact ⟨m + 1, by omega, by omega, rfl, HB.out⟩
            case measure => simp [intOf]; omega
        · obtain rfl : m = 259 := by omega
          go_wp2_with fail
          go_roundw
          case rel => exact ⟨n + 1, by omega, by omega, rfl, HB.out⟩
          case measure => simp [intOf]; omega
    · obtain rfl : n = 6 := by omega
      go_wp2_with (first
        | (go_at_call 17; refine (HG.out _ _ _).mono ?_; rintro e w1 ⟨rfl, hb⟩; have HB : Hid (Below _ _ _) := Below.step HB.out hb; clear hb)
        | (go_at_call 18; refine (HJ.out _ _ _).mono ?_; rintro e w' ⟨rfl, rfl⟩))
      go_ret
      exact ⟨by simp, HB.out⟩
end Go.Proofs.Ytdelcknpaldngab
