import Derived.Test.YtcpcmjmgiagnoaaDoorBz
namespace Go.Proofs.YtcpcmjmgiagnoaaDoor
open Go.RowKit
set_option linter.unusedVariables false
set_option linter.unusedSimpArgs false
/-- The bits of a word, as the reference keeps them. -/
def encB (f : Nat → Int) : List Value := (List.range 32).map fun i => .int .i64 (f i)
theorem encB_len (f : Nat → Int) : (encB f).length = 32 := by simp [encB]
theorem encB_at (f : Nat → Int) (i : Nat) (h : i < 32) : (encB f)[i]? = some (.int .i64 (f i)) := by simp [encB, h]
def bt (x : Int) (i : Nat) : Int := x / 2 ^ i % 2
theorem bt_rng (x : Int) (i : Nat) : 0 ≤ bt x i ∧ bt x i ≤ 1 := by unfold bt; omega
theorem num_step (x : Int) (i k : Nat) : 2 * (x / 2 ^ (i + 1) % 2 ^ k) + bt x i = x / 2 ^ i % 2 ^ (k + 1) := by
  unfold bt
  have h1 : x / 2 ^ (i + 1) = x / 2 ^ i / 2 := by
    rw [Int.pow_succ, Int.ediv_ediv_of_nonneg (Int.le_of_lt (pow_pos i))]
  rw [h1]
  generalize x / 2 ^ i = y
  have hp := pow_pos k
  rw [Int.pow_succ, Int.mul_comm (2 ^ k) 2]
  generalize (2 : Int) ^ k = P at *
  have a1 := Int.emod_add_mul_ediv (y / 2) P
  have a2 := Int.emod_nonneg (y / 2) (show P ≠ 0 by omega)
  have a3 := Int.emod_lt_of_pos (y / 2) hp
  have e : y = 2 * (y / 2 % P) + y % 2 + 2 * P * (y / 2 / P) := by
    have e1 : 2 * P * (y / 2 / P) = 2 * (P * (y / 2 / P)) := by rw [Int.mul_assoc]
    rw [e1]
    omega
  have g : y % (2 * P) = (2 * (y / 2 % P) + y % 2) % (2 * P) := by
    have := Int.add_mul_emod_self_left (2 * (y / 2 % P) + y % 2) (2 * P) (y / 2 / P)
    rw [← e] at this
    exact this
  rw [g]
  exact (Int.emod_eq_of_lt (by omega) (by omega)).symm
theorem pow32 (k : Nat) (h : k ≤ 32) : (2 : Int) ^ k ≤ 4294967296 := by
  have := Nat.pow_le_pow_right (n := 2) (by omega) h
  have e := pow_nat k
  omega
set_option maxRecDepth 100000 in
set_option maxHeartbeats 4000000 in
theorem num_any (x : Int) (hi lo : Nat) (w : World) (h1 : lo ≤ hi) (h2 : hi < 32) : Calls Tryd.prog 34 #[.agg (encB (bt x)).toArray, .int .i64 hi, .int .i64 lo] w fun e w' => e = .returned (.int .i64 (x / 2 ^ lo % 2 ^ (hi + 1 - lo))) ∧ ∃ o, w' = w.alloc o := by
  have hN := Bl.new w 54 (encB (bt x))
  have hcell : ∀ k, k < 32 → (w.alloc (.cells (encB (bt x)).toArray 54)).cell? ⟨w.heap.size, k, none⟩ = some (.int .i64 (bt x k)) := fun k hk => (hN.cell k).trans (encB_at _ k hk)
  have HC : Hid (∀ k, k < 32 → (w.alloc (.cells (encB (bt x)).toArray 54)).cell? ⟨w.heap.size, k, none⟩ = some (.int .i64 (bt x k))) := hcell
  clear hcell hN
  generalize encB (bt x) = l at *
  go_enter Tryd.func34, Tryd.ntmps34
  go_wp2
  go_loopw [7, 8] (fun n i wr => ∃ m : Nat, lo ≤ m ∧ m ≤ hi + 1 ∧ n = .int .i64 (x / 2 ^ m % 2 ^ (hi + 1 - m)) ∧ i = .int .i64 ((m : Int) - 1) ∧ wr = w.alloc (.cells l.toArray 54)) (fun _ i _ => (intOf i + 1 - lo).toNat)
  case atStart => exact ⟨hi + 1, by omega, by omega, by rw [Nat.sub_self]; simp, congrArg _ (by omega), rfl⟩
  case round =>
    obtain ⟨m, hm1, hm2, rfl, rfl, rfl⟩ := hrel
    by_cases h : lo < m
    · obtain ⟨k, rfl⟩ : ∃ k, m = k + 1 := ⟨m - 1, by omega⟩
      have hst := num_step x k (hi + 1 - (k + 1))
      rw [show hi + 1 - (k + 1) + 1 = hi + 1 - k by omega] at hst
      have hc := HC.out k (by omega)
      have hb := bt_rng x k
      have n1 := Int.emod_nonneg (x / 2 ^ (k + 1)) (show (2 : Int) ^ (hi + 1 - (k + 1)) ≠ 0 by have := pow_pos (hi + 1 - (k + 1)); omega)
      have n2 := Int.emod_lt_of_pos (x / 2 ^ (k + 1)) (pow_pos (hi + 1 - (k + 1)))
      have n3 := pow32 (hi + 1 - (k + 1)) (by omega)
      generalize x / 2 ^ (k + 1) % 2 ^ (hi + 1 - (k + 1)) = V at *
      generalize bt x k = bb at *
      have e1 : ((k + 1 : Nat) : Int) - 1 = (k : Int) := by omega
      rw [e1]
      have g1 : (lo : Int) ≤ (k : Int) := by omega
      have g2 : (0 : Int) ≤ (k : Int) ∧ (k : Int) < 32 := by omega
      have w1 : IntKind.i64.wrap (2 * V) = 2 * V := by rw [IntKind.wrap_i64]; omega
      have w2 : IntKind.i64.wrap (2 * V + bb) = 2 * V + bb := by rw [IntKind.wrap_i64]; omega
      have HS : Hid (2 * V + bb = x / 2 ^ k % 2 ^ (hi + 1 - k)) := hst
      clear hst n1 n2 n3 hb
      go_wp2
      go_roundw
      case rel => exact ⟨k, by omega, by omega, by rw [← HS.out], rfl, trivial⟩
      case measure => simp [intOf]; omega
    · obtain rfl : m = lo := by omega
      have g1 : ¬ (m : Int) ≤ (m : Int) - 1 := by omega
      go_wp2
      go_ret
      exact ⟨rfl, _, rfl⟩
end Go.Proofs.YtcpcmjmgiagnoaaDoor
