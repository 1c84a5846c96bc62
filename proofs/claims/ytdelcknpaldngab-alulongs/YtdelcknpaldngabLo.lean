import Derived.Test.YtdelcknpaldngabLa
import Derived.Test.YtdelcknpaldngabRl
namespace Go.Proofs.Ytdelcknpaldngab
open Go.RowKit
set_option linter.unusedVariables false
set_option linter.unusedSimpArgs false
set_option maxRecDepth 100000 in
set_option maxHeartbeats 2000000 in
theorem law_longs (op m s h l : Int) (w : World) (m0 : 0 ≤ m) (m1 : m < 4294967296) (s0 : 0 ≤ s) (s1 : s < 4294967296) (h0 : 0 ≤ h) (h1 : h < 4294967296) (l0 : 0 ≤ l) (l1 : l < 4294967296) :
    Calls Try.prog 7 #[.int .i64 op, .int .u32 m, .int .u32 s, .int .u32 h, .int .u32 l] w fun e w' => e = .returned (.bool true) ∧ Below w.heap.size w w' := by
  have HG : Hid (∀ o w, Calls Try.prog 19 #[.int .i64 o, .int .u32 m, .int .u32 s, .int .u32 h, .int .u32 l] w fun e w' => e = .returned (.tuple #[.int .u32 (loH o m s h l), .int .u32 (loL o m s h l), .bool (loO o)]) ∧ Below w.heap.size w w') := fun o w => glong_any o m s h l w m0 m1 s0 s1 h0 h1 l0 l1
  have HJ : Hid (∀ o w, Calls Try.prog 20 #[.int .i64 o, .int .u32 m, .int .u32 s, .int .u32 h, .int .u32 l] w fun e w' => e = .returned (.tuple #[.int .u32 (loH o m s h l), .int .u32 (loL o m s h l), .bool (loO o)]) ∧ w' = w) := fun o w => jlong_any o m s h l w m0 m1 s0 s1 h0 h1 l0 l1
  have HL : Hid (∀ w, Calls Try.prog 9 #[] w fun e w' => e = .returned (.bool true) ∧ Below w.heap.size w w') := live_any
  clear m0 m1 s0 s1 h0 h1 l0 l1
  go_enter Try.func7, Try.ntmps7
  go_wp2_with (go_at_call 9; refine (HL.out _).mono ?_; rintro e w3 ⟨rfl, hb⟩; have HB : Hid (Below w.heap.size w w3) := hb; clear hb)
  go_loopw [11] (fun k wr => ∃ (n : Int), 17 ≤ n ∧ n ≤ 27 ∧ k = .int .i64 n ∧ Below w.heap.size w wr) (fun k _ => (27 - intOf k).toNat)
  case atStart => exact ⟨17, by omega, by omega, rfl, HB.out⟩
  case round =>
    obtain ⟨n, g1, g2, rfl, hB⟩ := hrel
    clear HB
    have HB : Hid (Below _ _ _) := hB
    clear hB
    by_cases hn : n < 27
    · have hw : IntKind.i64.wrap (n + 1) = n + 1 := by rw [IntKind.wrap_i64]; omega
      have z1 : decide (n < 27) = true := decide_eq_true hn
      by_cases hk : n = 17
      · have z2 : (n == 17) = true := by simp [hk]
        clear hk
        go_wp2_with (first
          | (go_at_call 19; refine (HG.out _ _).mono ?_; rintro e w1 ⟨rfl, hb⟩; have HB : Hid (Below _ _ _) := Below.step HB.out hb; clear hb)
          | (go_at_call 20; refine (HJ.out _ _).mono ?_; rintro e w' ⟨rfl, rfl⟩))
        go_roundw
        case rel => exact ⟨n + 1, by omega, by omega, rfl, HB.out⟩
        case measure => simp [intOf]; omega
      · have z2 : (n == 17) = false := by simp [hk]
        clear hk
        go_wp2_with (first
          | (go_at_call 19; refine (HG.out _ _).mono ?_; rintro e w1 ⟨rfl, hb⟩; have HB : Hid (Below _ _ _) := Below.step HB.out hb; clear hb)
          | (go_at_call 20; refine (HJ.out _ _).mono ?_; rintro e w' ⟨rfl, rfl⟩))
        go_roundw
        case rel => exact ⟨n + 1, by omega, by omega, rfl, HB.out⟩
        case measure => simp [intOf]; omega
    · obtain rfl : n = 27 := by omega
      go_wp2_with fail
      go_ret
      exact ⟨rfl, HB.out⟩
end Go.Proofs.Ytdelcknpaldngab
