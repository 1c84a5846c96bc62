import Derived.Test.YtmodcbdgnmjkoabDoorRd1
import Derived.Test.YtmodcbdgnmjkoabDoorRd2
namespace Go.Proofs.YtmodcbdgnmjkoabDoor
open Go.RowKit
set_option linter.unusedVariables false
set_option linter.unusedSimpArgs false
theorem num_l (x : Int) (hi lo : Nat) (V a b : Int) (ha : a = hi) (hb : b = lo) (h1 : lo ≤ hi) (h2 : hi < 32) (hV : x / 2 ^ lo % 2 ^ (hi + 1 - lo) = V) (w : World) :
    Calls Tryd.prog 41 #[.agg (encB (bt x)).toArray, .int .i64 a, .int .i64 b] w fun e w' => e = .returned (.int .i64 V) ∧ Below w.heap.size w w' := by
  subst ha; subst hb; subst hV
  refine (num_any x hi lo w h1 h2).mono ?_
  rintro e w' ⟨rfl, o, rfl⟩
  exact ⟨rfl, belA w o⟩
theorem rdec1_any (x : Int) (w : World) (hx : 0 ≤ x ∧ x < 4294967296) : Calls Tryd.prog 20 #[.int .u32 x] w fun e w' => e = .returned (.agg #[.int .i64 (D1 x).kind, .int .u64 (D1 x).base, .int .i64 (D1 x).dom, .bool (D1 x).ns, .int .i64 (D1 x).ap, .int .u32 (D1 x).bits, .bool (D1 x).ng, .bool (D1 x).xn]) ∧ Below w.heap.size w w' := by
  have HB := fun w => bits_any x w hx
  have e8 : 4 * (x / 8 % 2) + 2 * (x / 4 % 2) = x / 4 % 4 * 2 := by
    rw [show x / 8 = x / 4 / 2 by omega]
    omega
  have h85 := num_l x 8 5 (F x 5 4) 8 5 rfl rfl (by decide) (by decide) rfl
  have h10 := num_l x 1 0 (x % 4) 1 0 rfl rfl (by decide) (by decide) (by simp only [Int.pow_zero, Int.ediv_one]; rfl)
  by_cases h1 : x % 4 = 1
  · rw [h1] at h10
    rw [show D1 x = ⟨1, x / 1024 * 1024, F x 5 4, bt x 3 == 1, 0, 0, false, false⟩ by unfold D1; rw [if_pos h1]; rfl]
    exact rd1_T x (bt x) (x / 1024) (x / 1024 * 1024) (F x 5 4) w HB h10 (num_l x 31 10 (x / 1024) 31 10 rfl rfl (by decide) (by decide) (by simp only [Int.reducePow, Nat.reduceAdd, Nat.reduceSub]; omega)) h85
      (by rw [IntKind.wrap_u64]; omega) (by rw [IntKind.wrap_u64]; omega)
  by_cases h2 : x % 4 = 2
  · rw [h2] at h10
    have ha := num_l x 11 10 (F x 10 2) 11 10 rfl rfl (by decide) (by decide) rfl
    have ht := num_l x 14 12 (F x 12 3) 14 12 rfl rfl (by decide) (by decide) rfl
    have q1 : IntKind.i64.wrap (4 * bt x 15) = 4 * bt x 15 := by simp only [bt, Int.reducePow, IntKind.wrap_i64]; omega
    have q2 : IntKind.i64.wrap (4 * bt x 15 + F x 10 2) = F x 15 1 * 4 + F x 10 2 := by simp only [bt, F, Int.reduceToNat, Int.reducePow, IntKind.wrap_i64]; omega
    have q3 : IntKind.i64.wrap (8 * F x 12 3) = 8 * F x 12 3 := by simp only [bt, F, Int.reduceToNat, Int.reducePow, IntKind.wrap_i64]; omega
    have q4 : IntKind.i64.wrap (4 * bt x 3) = 4 * bt x 3 := by simp only [bt, F, Int.reduceToNat, Int.reducePow, IntKind.wrap_i64]; omega
    have q5 : IntKind.i64.wrap (8 * F x 12 3 + 4 * bt x 3) = 8 * F x 12 3 + 4 * bt x 3 := by simp only [bt, F, Int.reduceToNat, Int.reducePow, IntKind.wrap_i64]; omega
    have q6 : IntKind.i64.wrap (2 * bt x 2) = 2 * bt x 2 := by simp only [bt, F, Int.reduceToNat, Int.reducePow, IntKind.wrap_i64]; omega
    have q7 : IntKind.i64.wrap (8 * F x 12 3 + 4 * bt x 3 + 2 * bt x 2) = 8 * F x 12 3 + 4 * bt x 3 + 2 * bt x 2 := by simp only [bt, F, Int.reduceToNat, Int.reducePow, IntKind.wrap_i64]; omega
    have q8 : IntKind.i64.wrap (8 * F x 12 3 + 4 * bt x 3 + 2 * bt x 2 + bt x 16) = 8 * F x 12 3 + 4 * bt x 3 + 2 * bt x 2 + bt x 16 := by simp only [bt, F, Int.reduceToNat, Int.reducePow, IntKind.wrap_i64]; omega
    have q9 : IntKind.u32.wrap (8 * F x 12 3 + 4 * bt x 3 + 2 * bt x 2 + bt x 16) = F x 12 3 * 8 + F x 2 2 * 2 + F x 16 1 := by simp only [bt, F, Int.reduceToNat, Int.reducePow, IntKind.wrap_u32]; omega
    by_cases h18 : F x 18 1 = 1
    · rw [show D1 x = ⟨3, x / 16777216 * 16777216 + (F x 20 4 * 4294967296 + F x 5 4 * 68719476736), 0, bt x 19 == 1, F x 15 1 * 4 + F x 10 2, F x 12 3 * 8 + F x 2 2 * 2 + F x 16 1, bt x 17 == 1, bt x 4 == 1⟩ by unfold D1; rw [if_neg h1, if_pos h2, if_pos h18]; rfl]
      exact rd1_U x (bt x) (x / 16777216) (F x 20 4) (F x 5 4) (x / 16777216 * 16777216) (F x 20 4 * 4294967296) (x / 16777216 * 16777216 + F x 20 4 * 4294967296) (F x 5 4 * 68719476736) _ _ _ _ _ _ _ _ _ _ _ _ w HB h10 ha ht
        (num_l x 31 24 (x / 16777216) 31 24 rfl rfl (by decide) (by decide) (by simp only [Int.reducePow, Nat.reduceAdd, Nat.reduceSub]; omega)) (num_l x 23 20 (F x 20 4) 23 20 rfl rfl (by decide) (by decide) rfl) h85
        (by rw [IntKind.wrap_u64]; omega) (by simp only [F, Int.reduceToNat, Int.reducePow, IntKind.wrap_u64]; omega) (by simp only [F, Int.reduceToNat, Int.reducePow, IntKind.wrap_u64]; omega) (by rw [IntKind.wrap_u64]; omega) (by simp only [F, Int.reduceToNat, Int.reducePow, IntKind.wrap_u64]; omega) (by simp only [F, Int.reduceToNat, Int.reducePow, IntKind.wrap_u64]; omega) (by simp only [F, Int.reduceToNat, Int.reducePow, IntKind.wrap_u64]; omega) (by simp only [F, Int.reduceToNat, Int.reducePow, IntKind.wrap_u64]; omega)
        (by rw [show bt x 18 = 1 from h18]; rfl) q1 q2 q3 q4 q5 q6 q7 q8 q9
    · rw [show D1 x = ⟨2, x / 1048576 * 1048576, F x 5 4, bt x 19 == 1, F x 15 1 * 4 + F x 10 2, F x 12 3 * 8 + F x 2 2 * 2 + F x 16 1, bt x 17 == 1, bt x 4 == 1⟩ by unfold D1; rw [if_neg h1, if_pos h2, if_neg h18]; rfl]
      have h18' : bt x 18 = 0 := by have := bt_rng x 18; have e : ¬ bt x 18 = 1 := h18; omega
      exact rd1_S x (bt x) (x / 1048576) (x / 1048576 * 1048576) (F x 5 4) _ _ _ _ _ _ _ _ _ _ _ w HB h10 ha ht
        (num_l x 31 20 (x / 1048576) 31 20 rfl rfl (by decide) (by decide) (by simp only [Int.reducePow, Nat.reduceAdd, Nat.reduceSub]; omega)) h85
        (by rw [IntKind.wrap_u64]; omega) (by rw [IntKind.wrap_u64]; omega) (by rw [h18']; rfl) q1 q2 q3 q4 q5 q6 q7 q8 q9
  · rw [show D1 x = dZ by unfold D1; rw [if_neg h1, if_neg h2]]
    exact rd1_Z x (bt x) (x % 4) w HB h10 (by simp; omega) (by simp; omega)
theorem rdec2_any (x : Int) (w : World) (hx : 0 ≤ x ∧ x < 4294967296) : Calls Tryd.prog 68 #[.int .u32 x] w fun e w' => e = .returned (.agg #[.int .i64 (D2 x).kind, .int .u64 (D2 x).base, .int .i64 (D2 x).dom, .bool (D2 x).ns, .int .i64 (D2 x).ap, .int .u32 (D2 x).bits, .bool (D2 x).ng, .bool (D2 x).xn]) ∧ Below w.heap.size w w' := by
  have HB := fun w => bits_any x w hx
  have e8 : 4 * (x / 8 % 2) + 2 * (x / 4 % 2) = x / 4 % 4 * 2 := by
    rw [show x / 8 = x / 4 / 2 by omega]
    omega
  have ha := num_l x 5 4 (F x 4 2) 5 4 rfl rfl (by decide) (by decide) rfl
  have h10 := num_l x 1 0 (x % 4) 1 0 rfl rfl (by decide) (by decide) (by simp only [Int.pow_zero, Int.ediv_one]; rfl)
  have q1 : IntKind.i64.wrap (4 * bt x 9) = 4 * bt x 9 := by simp only [bt, Int.reducePow, IntKind.wrap_i64]; omega
  have q2 : IntKind.i64.wrap (4 * bt x 9 + F x 4 2) = F x 9 1 * 4 + F x 4 2 := by simp only [bt, F, Int.reduceToNat, Int.reducePow, IntKind.wrap_i64]; omega
  have q4 : IntKind.i64.wrap (4 * bt x 3) = 4 * bt x 3 := by simp only [bt, F, Int.reduceToNat, Int.reducePow, IntKind.wrap_i64]; omega
  have q6 : IntKind.i64.wrap (2 * bt x 2) = 2 * bt x 2 := by simp only [bt, F, Int.reduceToNat, Int.reducePow, IntKind.wrap_i64]; omega
  by_cases h0 : x % 4 = 0
  · rw [h0] at h10
    rw [show D2 x = dZ by unfold D2; rw [if_pos h0]]
    exact rd2_Z x (bt x) _ _ _ w HB ha h10 q1 q2
  by_cases h1 : x % 4 = 1
  · rw [h1] at h10
    rw [show D2 x = ⟨4, x / 65536 * 65536, 0, false, F x 9 1 * 4 + F x 4 2, F x 12 3 * 8 + F x 2 2 * 2 + F x 10 1, bt x 11 == 1, bt x 15 == 1⟩ by unfold D2; rw [if_neg h0, if_pos h1]; rfl]
    exact rd2_L x (bt x) (x / 65536) (x / 65536 * 65536) _ (F x 12 3) _ _ _ _ (8 * F x 12 3 + 4 * bt x 3) _ (8 * F x 12 3 + 4 * bt x 3 + 2 * bt x 2) (8 * F x 12 3 + 4 * bt x 3 + 2 * bt x 2 + bt x 10) _ w HB ha h10
      (num_l x 14 12 (F x 12 3) 14 12 rfl rfl (by decide) (by decide) rfl)
      (num_l x 31 16 (x / 65536) 31 16 rfl rfl (by decide) (by decide) (by simp only [Int.reducePow, Nat.reduceAdd, Nat.reduceSub]; omega))
      q1 q2 (show IntKind.i64.wrap (8 * F x 12 3) = 8 * F x 12 3 by simp only [bt, F, Int.reduceToNat, Int.reducePow, IntKind.wrap_i64]; omega) q4 (by simp only [bt, F, Int.reduceToNat, Int.reducePow, IntKind.wrap_i64]; omega) q6 (by simp only [bt, F, Int.reduceToNat, Int.reducePow, IntKind.wrap_i64]; omega) (by simp only [bt, F, Int.reduceToNat, Int.reducePow, IntKind.wrap_i64]; omega) (by simp only [bt, F, Int.reduceToNat, Int.reducePow, IntKind.wrap_u32]; omega)
      (by rw [IntKind.wrap_u64]; omega) (by rw [IntKind.wrap_u64]; omega)
  · rw [show D2 x = ⟨5, x / 4096 * 4096, 0, false, F x 9 1 * 4 + F x 4 2, F x 6 3 * 8 + F x 2 2 * 2 + F x 10 1, bt x 11 == 1, bt x 0 == 1⟩ by unfold D2; rw [if_neg h0, if_neg h1]; rfl]
    exact rd2_M x (bt x) (x % 4) (x / 4096) (x / 4096 * 4096) _ (F x 6 3) _ _ _ _ (8 * F x 6 3 + 4 * bt x 3) _ (8 * F x 6 3 + 4 * bt x 3 + 2 * bt x 2) (8 * F x 6 3 + 4 * bt x 3 + 2 * bt x 2 + bt x 10) _ w HB ha h10
      (num_l x 8 6 (F x 6 3) 8 6 rfl rfl (by decide) (by decide) rfl)
      (num_l x 31 12 (x / 4096) 31 12 rfl rfl (by decide) (by decide) (by simp only [Int.reducePow, Nat.reduceAdd, Nat.reduceSub]; omega))
      (by simp; omega) (by simp; omega)
      q1 q2 (show IntKind.i64.wrap (8 * F x 6 3) = 8 * F x 6 3 by simp only [bt, F, Int.reduceToNat, Int.reducePow, IntKind.wrap_i64]; omega) q4 (by simp only [bt, F, Int.reduceToNat, Int.reducePow, IntKind.wrap_i64]; omega) q6 (by simp only [bt, F, Int.reduceToNat, Int.reducePow, IntKind.wrap_i64]; omega) (by simp only [bt, F, Int.reduceToNat, Int.reducePow, IntKind.wrap_i64]; omega) (by simp only [bt, F, Int.reduceToNat, Int.reducePow, IntKind.wrap_u32]; omega)
      (by rw [IntKind.wrap_u64]; omega) (by rw [IntKind.wrap_u64]; omega)
end Go.Proofs.YtmodcbdgnmjkoabDoor
