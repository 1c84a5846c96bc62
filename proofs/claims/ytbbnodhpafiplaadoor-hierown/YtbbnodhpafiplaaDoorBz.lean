import Derived.Test.YtbbnodhpafiplaaDoorDe
namespace Go.Proofs.YtbbnodhpafiplaaDoor
open Go.RowKit
set_option linter.unusedVariables false
set_option linter.unusedSimpArgs false

/-- Sizes, as numbers of bytes and of bits. -/
def byN (s : Int) : Int := if s = 1 then 4096 else if s = 2 then 65536 else if s = 3 then 1048576 else if s = 4 then 16777216 else 0
def shN (s : Int) : Int := if s = 1 then 12 else if s = 2 then 16 else if s = 3 then 20 else if s = 4 then 24 else 0
def reN (s : Int) : Int := if s = 1 then 1 else if s = 2 then 16 else if s = 3 then 1 else if s = 4 then 16 else 0

set_option maxRecDepth 100000 in
theorem isSize_any (s : Int) (w : World) : Calls Tryd.prog 33 #[.int .i64 s] w fun e w' => e = .returned (.bool (decide (1 ≤ s) && decide (s ≤ 4))) ∧ w = w' := by
  by_cases h1 : 1 ≤ s
  · have q : decide (1 ≤ s) = true := decide_eq_true h1
    go_enter Tryd.func33, Tryd.ntmps33
    go_wp2
    go_ret
    exact ⟨by simp [h1], rfl⟩
  · have q : decide (1 ≤ s) = false := decide_eq_false h1
    go_enter Tryd.func33, Tryd.ntmps33
    go_wp2
    go_ret
    exact ⟨by simp [h1], rfl⟩

/-- What Bytes reads. -/
structure TB (w : World) : Prop where
  base : Tb .u8 w 0 lBase
  kind : Tb .u8 w 1 lKind
theorem TB.below {w w' : World} (h : TB w) (hb : Below w.heap.size w w') : TB w' := ⟨h.base.below hb, h.kind.below hb⟩
theorem TR.tb {w : World} (h : TR w) : TB w := ⟨h.base, h.kind⟩

set_option maxRecDepth 100000 in
theorem bytes_any (s : Int) (w : World) (ht : TB w) : Calls Tryd.prog 27 #[.int .i64 s] w fun e w' => e = .returned (.int .u64 (byN s)) ∧ w = w' := by
  by_cases h : 1 ≤ s ∧ s ≤ 4
  · have q : (decide (1 ≤ s) && decide (s ≤ 4)) = true := by simp [h]
    rcases (show s = 1 ∨ s = 2 ∨ s = 3 ∨ s = 4 by omega) with rfl | rfl | rfl | rfl
    · have c1 := ht.kind 1 5 rfl
      have c2 := ht.base 5 12 rfl
      go_enter Tryd.func27, Tryd.ntmps27
      go_wp2_with (first | (go_at_call 33; refine (isSize_any _ _).mono ?_; rintro e w' ⟨rfl, rfl⟩) | go_in)
      go_ret
      exact ⟨rfl, rfl⟩
    · have c1 := ht.kind 2 4 rfl
      have c2 := ht.base 4 16 rfl
      go_enter Tryd.func27, Tryd.ntmps27
      go_wp2_with (first | (go_at_call 33; refine (isSize_any _ _).mono ?_; rintro e w' ⟨rfl, rfl⟩) | go_in)
      go_ret
      exact ⟨rfl, rfl⟩
    · have c1 := ht.kind 3 2 rfl
      have c2 := ht.base 2 20 rfl
      go_enter Tryd.func27, Tryd.ntmps27
      go_wp2_with (first | (go_at_call 33; refine (isSize_any _ _).mono ?_; rintro e w' ⟨rfl, rfl⟩) | go_in)
      go_ret
      exact ⟨rfl, rfl⟩
    · have c1 := ht.kind 4 3 rfl
      have c2 := ht.base 3 24 rfl
      go_enter Tryd.func27, Tryd.ntmps27
      go_wp2_with (first | (go_at_call 33; refine (isSize_any _ _).mono ?_; rintro e w' ⟨rfl, rfl⟩) | go_in)
      go_ret
      exact ⟨rfl, rfl⟩
  · have q : (decide (1 ≤ s) && decide (s ≤ 4)) = false := by simp; omega
    have hz : byN s = 0 := by unfold byN; rw [if_neg (by omega), if_neg (by omega), if_neg (by omega), if_neg (by omega)]
    rw [hz]
    go_enter Tryd.func27, Tryd.ntmps27
    go_wp2_with (first | (go_at_call 33; refine (isSize_any _ _).mono ?_; rintro e w' ⟨rfl, rfl⟩) | go_in)
    go_ret
    exact ⟨rfl, rfl⟩

set_option maxRecDepth 100000 in
theorem power_any (n : Nat) (w : World) (hn : n ≤ 60) : Calls Tryd.prog 85 #[.int .i64 n] w fun e w' => e = .returned (.int .u64 (2 ^ n)) ∧ w = w' := by
  go_enter Tryd.func85, Tryd.ntmps85
  go_wp2
  go_loopw [3, 4] (fun p i wr => ∃ k : Nat, k ≤ n ∧ p = .int .u64 (2 ^ k) ∧ i = .int .i64 k ∧ w = wr) (fun _ i _ => n - (intOf i).toNat)
  case atStart => exact ⟨0, by omega, rfl, rfl, rfl⟩
  case round =>
    obtain ⟨k, hk, rfl, rfl, rfl⟩ := hrel
    by_cases h : k < n
    · have hi : (k : Int) < (n : Int) := by omega
      have hp : (2 : Int) * 2 ^ k % 18446744073709551616 = 2 ^ (k + 1) := by
        have h1 : 2 ^ (k + 1) ≤ 2 ^ 60 := Nat.pow_le_pow_right (by omega) (by omega)
        have h2 := pow_nat (k + 1)
        have h3 := pow_pos (k + 1)
        rw [Int.mul_comm, ← Int.pow_succ]
        omega
      go_wp2
      go_roundw
      case rel => exact ⟨k + 1, by omega, by rw [Int.pow_succ, Int.mul_comm], by first | rfl | trivial | go_num⟩
      case measure => simp [intOf]; omega
    · have hi : ¬ (k : Int) < (n : Int) := by omega
      obtain rfl : k = n := by omega
      go_wp2
      go_ret
      exact ⟨rfl, rfl⟩
end Go.Proofs.YtbbnodhpafiplaaDoor
