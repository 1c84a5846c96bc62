import Derived.Test.YtmodcbdgnmjkoabDoorDe
namespace Go.Proofs.YtmodcbdgnmjkoabDoor
open Go.RowKit
set_option linter.unusedVariables false
set_option linter.unusedSimpArgs false

/-- Sizes, as numbers of bytes and of bits. -/
def byN (s : Int) : Int := if s = 1 then 4096 else if s = 2 then 65536 else if s = 3 then 1048576 else if s = 4 then 16777216 else 0
def shN (s : Int) : Int := if s = 1 then 12 else if s = 2 then 16 else if s = 3 then 20 else if s = 4 then 24 else 0
def reN (s : Int) : Int := if s = 1 then 1 else if s = 2 then 16 else if s = 3 then 1 else if s = 4 then 16 else 0

set_option maxRecDepth 100000 in
theorem isSize_any (s : Int) (w : World) : Calls Tryd.prog 62 #[.int .i64 s] w fun e w' => e = .returned (.bool (decide (1 ≤ s) && decide (s ≤ 4))) ∧ w = w' := by
  by_cases h1 : 1 ≤ s
  · have q : decide (1 ≤ s) = true := decide_eq_true h1
    go_enter Tryd.func62, Tryd.ntmps62
    go_wp2
    go_ret
    exact ⟨by simp [h1], rfl⟩
  · have q : decide (1 ≤ s) = false := decide_eq_false h1
    go_enter Tryd.func62, Tryd.ntmps62
    go_wp2
    go_ret
    exact ⟨by simp [h1], rfl⟩

/-- What Bytes reads. -/
structure TB (w : World) : Prop where
  base : Tb .u8 w 1 lBase
  kind : Tb .u8 w 4 lKind
theorem TB.below {w w' : World} (h : TB w) (hb : Below w.heap.size w w') : TB w' := ⟨h.base.below hb, h.kind.below hb⟩
theorem TR.tb {w : World} (h : TR w) : TB w := ⟨h.base, h.kind⟩

set_option maxRecDepth 100000 in
theorem power_any (n : Nat) (w : World) (hn : n ≤ 60) : Calls Tryd.prog 42 #[.int .i64 n] w fun e w' => e = .returned (.int .u64 (2 ^ n)) ∧ w = w' := by
  go_enter Tryd.func42, Tryd.ntmps42
  go_wp2
  go_loopw [3, 4] (fun p i wr => ∃ k : Nat, k ≤ n ∧ p = .int .u64 (2 ^ k) ∧ i = .int .i64 k ∧ w = wr) (fun _ i _ => n - (intOf i).toNat)
  case atStart => exact ⟨0, by omega, rfl, rfl, rfl⟩
  case round =>
    obtain ⟨k, hk, rfl, rfl, rfl⟩ := hrel
    by_cases h : k < n
    · have hi : (k : Int) < (n : Int) := by omega
      have hp : (2 : Int) * 2 ^ k % 18446744073709551616 = 2 ^ (k + 1) := by
        have h1 : 2 ^ (k + 1) ≤ 2 ^ 60 := Nat.pow_le_pow_right (by omega) (by omega)
        have h2 := pow_nat (k + 1)
        have h3 := pow_pos (k + 1)
        rw [Int.mul_comm, ← Int.pow_succ]
        omega
      go_wp2
      go_roundw
      case rel => exact ⟨k + 1, by omega, by rw [Int.pow_succ, Int.mul_comm], by first | rfl | trivial | go_num⟩
      case measure => simp [intOf]; omega
    · have hi : ¬ (k : Int) < (n : Int) := by omega
      obtain rfl : k = n := by omega
      go_wp2
      go_ret
      exact ⟨rfl, rfl⟩
end Go.Proofs.YtmodcbdgnmjkoabDoor
