import Derived.Test.YtdelcknpaldngacLe
import Derived.Test.YtdelcknpaldngacRo
import Derived.Test.YtdelcknpaldngacRf
namespace Go.Proofs.Ytdelcknpaldngac
open Go.RowKit
set_option linter.unusedVariables false
set_option linter.unusedSimpArgs false
theorem and_f0 (x : Nat) (h : x < 4294967296) : x &&& 4026531840 = 268435456 * (x / 268435456) := by
  apply Nat.eq_of_testBit_eq
  intro i
  have e1 : (4026531840 : Nat).testBit i = (decide (i ≥ 28) && decide (i - 28 < 4)) := by
    have := Nat.testBit_two_pow_mul (i := 28) (a := 15) (j := i)
    rw [show 2 ^ 28 * 15 = 4026531840 by decide] at this
    rw [this]
    have := Nat.testBit_two_pow_sub_one 4 (i - 28)
    rw [show 2 ^ 4 - 1 = 15 by decide] at this
    rw [this]
  have e2 : (268435456 * (x / 268435456)).testBit i = (decide (i ≥ 28) && x.testBit i) := by
    have := Nat.testBit_two_pow_mul (i := 28) (a := x / 268435456) (j := i)
    rw [show (2 : Nat) ^ 28 = 268435456 by decide] at this
    rw [this]
    by_cases hi : i ≥ 28
    · have e := Nat.testBit_div_two_pow (n := 28) x (i - 28)
      rw [show (2 : Nat) ^ 28 = 268435456 by decide] at e
      rw [e, show i - 28 + 28 = i by omega]
    · simp [hi]
  rw [Nat.testBit_and, e1, e2]
  by_cases hi : i < 32
  · by_cases h28 : i ≥ 28
    · simp [h28, show i - 28 < 4 by omega]
    · simp [h28]
  · have : x.testBit i = false := Nat.testBit_lt_two_pow (Nat.lt_of_lt_of_le h (by simpa using Nat.pow_le_pow_right (n := 2) (by decide) (show 32 ≤ i by omega)))
    simp [this]
theorem wd_fb (x : Nat) (h : x < 4294967296) : wdW ⟨fb x 31, fb x 30, fb x 29, fb x 28⟩ = bits .and .u32 (x : Int) 4026531840 := by
  rw [show (4026531840 : Int) = ((4026531840 : Nat) : Int) by rfl, u32_and_nat x 4026531840 h (by decide), and_f0 x h]
  unfold wdW fb bI
  simp only [decide_eq_true_eq]
  repeat' split
  all_goals omega
theorem wd_range (f : Fl) : 0 ≤ wdW f ∧ wdW f < 4294967296 := by
  obtain ⟨a, b, c, d⟩ := f
  cases a <;> cases b <;> cases c <;> cases d <;> decide
theorem fb_wd (f : Fl) : fb (wdW f).toNat 31 = f.n ∧ fb (wdW f).toNat 30 = f.z ∧ fb (wdW f).toNat 29 = f.c ∧ fb (wdW f).toNat 28 = f.v := by
  obtain ⟨a, b, c, d⟩ := f
  cases a <;> cases b <;> cases c <;> cases d <;> decide
set_option maxRecDepth 100000 in
set_option maxHeartbeats 4000000 in
theorem law_flags (x : Nat) (f : Fl) (w : World) (hx : x < 4294967296) :
    Calls Try.prog 4 #[.int .u32 x, .agg #[.bool f.n, .bool f.z, .bool f.c, .bool f.v]] w fun e w' => e = .returned (.bool true) ∧ Below w.heap.size w w' := by
  have HGW : Hid (∀ w, Calls Try.prog 9 #[.agg #[.bool f.n, .bool f.z, .bool f.c, .bool f.v]] w fun e w' => e = .returned (.int .u32 (wdW f)) ∧ Below w.heap.size w w') := fun w => gword_any f w
  have HJW : Hid (∀ w, Calls Try.prog 10 #[.agg #[.bool f.n, .bool f.z, .bool f.c, .bool f.v]] w fun e w' => e = .returned (.int .u32 (wdW f)) ∧ Below w.heap.size w w') := fun w => jword_any f w
  have HGF : Hid (∀ w, Calls Try.prog 11 #[.int .u32 x] w fun e w' => e = .returned (.agg #[.bool (fb x 31), .bool (fb x 30), .bool (fb x 29), .bool (fb x 28)]) ∧ Below w.heap.size w w') := fun w => gflags_any x w hx
  have HJF : Hid (∀ w, Calls Try.prog 12 #[.int .u32 x] w fun e w' => e = .returned (.agg #[.bool (fb x 31), .bool (fb x 30), .bool (fb x 29), .bool (fb x 28)]) ∧ Below w.heap.size w w') := fun w => jflags_any x w hx
  have HFW : Hid (∀ w, Calls Try.prog 11 #[.int .u32 (wdW f)] w fun e w' => e = .returned (.agg #[.bool f.n, .bool f.z, .bool f.c, .bool f.v]) ∧ Below w.heap.size w w') := fun w => by
    have hr := wd_range f
    obtain ⟨e1, e2, e3, e4⟩ := fb_wd f
    have := gflags_any (wdW f).toNat w (by omega)
    rwa [e1, e2, e3, e4, show (((wdW f).toNat : Nat) : Int) = wdW f by omega] at this
  have HWF : Hid (∀ w, Calls Try.prog 9 #[.agg #[.bool (fb x 31), .bool (fb x 30), .bool (fb x 29), .bool (fb x 28)]] w fun e w' => e = .returned (.int .u32 (bits .and .u32 (x : Int) 4026531840)) ∧ Below w.heap.size w w') := fun w => by
    have := gword_any ⟨fb x 31, fb x 30, fb x 29, fb x 28⟩ w
    rwa [wd_fb x hx] at this
  have HL : Hid (∀ w, Calls Try.prog 6 #[] w fun e w' => e = .returned (.bool true) ∧ Below w.heap.size w w') := live_any
  have HE1 : ∀ w, (Op.equalIn 10000 28 (.agg #[.bool f.n, .bool f.z, .bool f.c, .bool f.v]) (.agg #[.bool f.n, .bool f.z, .bool f.c, .bool f.v])).run Try.prog w = .ok true w := fun w => by rw [eqFl, Fl.same_self]
  have HE2 : ∀ w, (Op.equalIn 10000 28 (.agg #[.bool (fb x 31), .bool (fb x 30), .bool (fb x 29), .bool (fb x 28)]) (.agg #[.bool (fb x 31), .bool (fb x 30), .bool (fb x 29), .bool (fb x 28)])).run Try.prog w = .ok true w := fun w => by
    have := eqFl ⟨fb x 31, fb x 30, fb x 29, fb x 28⟩ ⟨fb x 31, fb x 30, fb x 29, fb x 28⟩ w
    rwa [Fl.same_self] at this
  generalize wdW f = W at *
  generalize fb x 31 = a at *
  generalize fb x 30 = b at *
  generalize fb x 29 = c at *
  generalize fb x 28 = d at *
  generalize hM : bits .and .u32 (x : Int) 4026531840 = M at *
  obtain ⟨fn, fz, fc, fv⟩ := f
  simp only at *
  clear hx
  go_enter Try.func4, Try.ntmps4
  go_wp2_with fail
  have B : Hid (Bl _ _ _ _) := (Bl.new w 28 [.bool fn, .bool fz, .bool fc, .bool fv]).drew
  have HB : Hid (Below _ _ _) := below_drew (below_new w (.cells #[.bool fn, .bool fz, .bool fc, .bool fv] 28))
  generalize hq : w.heap.size = q at B ⊢
  generalize w.alloc _ = w2 at B HB ⊢
  go_region_held3 (fun w' => w'.cell? ⟨q, 0, none⟩ = some (.bool fn) ∧ w'.cell? ⟨q, 1, none⟩ = some (.bool fz) ∧ w'.cell? ⟨q, 2, none⟩ = some (.bool fc) ∧ w'.cell? ⟨q, 3, none⟩ = some (.bool fv)) (first | (with_reducible exact B.out.four.1)) ((first
    | (go_at_call 6; refine (HL.out _).mono ?_; rintro r wn ⟨rfl, hb⟩; have B : Hid (Bl _ _ _ _) := B.out.below hb; have HB : Hid (Below _ _ _) := Below.step HB.out hb; clear hb)
    | (go_at_call_of 9 (Value.agg #[Value.bool fn, Value.bool fz, Value.bool fc, Value.bool fv]); refine (HGW.out _).mono ?_; rintro r wn ⟨rfl, hb⟩; have B : Hid (Bl _ _ _ _) := B.out.below hb; have HB : Hid (Below _ _ _) := Below.step HB.out hb; clear hb)
    | (go_at_call 10; refine (HJW.out _).mono ?_; rintro r wn ⟨rfl, hb⟩; have B : Hid (Bl _ _ _ _) := B.out.below hb; have HB : Hid (Below _ _ _) := Below.step HB.out hb; clear hb)
    | (go_at_call_of 11 (Value.int IntKind.u32 (x : Int)); refine (HGF.out _).mono ?_; rintro r wn ⟨rfl, hb⟩; have B : Hid (Bl _ _ _ _) := B.out.below hb; have HB : Hid (Below _ _ _) := Below.step HB.out hb; clear hb)
    | (go_at_call 12; refine (HJF.out _).mono ?_; rintro r wn ⟨rfl, hb⟩; have B : Hid (Bl _ _ _ _) := B.out.below hb; have HB : Hid (Below _ _ _) := Below.step HB.out hb; clear hb)
    | (go_at_call_of 11 (Value.int IntKind.u32 W); refine (HFW.out _).mono ?_; rintro r wn ⟨rfl, hb⟩; have B : Hid (Bl _ _ _ _) := B.out.below hb; have HB : Hid (Below _ _ _) := Below.step HB.out hb; clear hb)
    | (go_at_call_of 9 (Value.agg #[Value.bool a, Value.bool b, Value.bool c, Value.bool d]); refine (HWF.out _).mono ?_; rintro r wn ⟨rfl, hb⟩; have B : Hid (Bl _ _ _ _) := B.out.below hb; have HB : Hid (Below _ _ _) := Below.step HB.out hb; clear hb)))
  go_wp2_with fail
  go_ret
  exact ⟨by simp, by subst hq; exact HB.out⟩
end Go.Proofs.Ytdelcknpaldngac
