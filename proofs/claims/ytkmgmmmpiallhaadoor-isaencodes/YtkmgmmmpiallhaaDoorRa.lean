import Derived.Test.YtkmgmmmpiallhaaDoorPl
namespace Go.Proofs.YtkmgmmmpiallhaaDoor
open Go.RowKit
set_option linter.unusedVariables false
set_option linter.unusedSimpArgs false
/-- A pattern of 32 places. -/
structure Pat (s : ByteArray) (l : List UInt8) : Prop where
  data : s.data.toList = l
  places : nb l = 32
  len : l.length ≤ 100
theorem Pat.size {s : ByteArray} {l : List UInt8} (h : Pat s l) : s.size = l.length := by
  rw [← h.data, Array.length_toList]; rfl
theorem cnt_le (c : UInt8) (hc : c ≠ 32) (l : List UInt8) : cnt c l ≤ nb l := by
  induction l with
  | nil => simp [cnt, nb]
  | cons x l ih =>
    simp only [cnt, nb]
    split <;> split <;> simp_all <;> omega
theorem drop_at {l : List UInt8} {j : Nat} (h : j < l.length) : l.drop j = l[j] :: l.drop (j + 1) := List.drop_eq_getElem_cons h
theorem nb_drop (l : List UInt8) (j : Nat) : nb (l.drop j) ≤ nb l := by
  induction l generalizing j with
  | nil => simp [nb]
  | cons x l ih =>
    cases j with
    | zero => simp
    | succ j =>
      have := ih j
      simp only [List.drop_succ_cons, nb]
      split <;> omega
theorem Pat.get {s : ByteArray} {l : List UInt8} (h : Pat s l) {j : Nat} (hj : j < l.length) (hj' : j < s.size) : s[j] = l[j] := by
  have e : s[j] = s.data[j]'hj' := rfl
  rw [e]
  have := h.data
  subst this
  simp
theorem nat_u8 {x y : UInt8} : ((x.toNat : Int) == (y.toNat : Int)) = decide (x = y) := by
  by_cases h : x = y
  · subst h; simp
  · have : x.toNat ≠ y.toNat := fun e => h (UInt8.toNat_inj.1 e)
    rw [decide_eq_false h, beq_eq_false_iff_ne]; omega
theorem nat_u8k {x y : UInt8} {k : Int} (hk : k = (y.toNat : Int)) : ((x.toNat : Int) == k) = decide (x = y) := by rw [hk]; exact nat_u8
theorem wrap_pred (a : Nat) (h1 : 0 < a) (h2 : a ≤ 32) : wrap64 ((a : Int) - 1) = ((a - 1 : Nat) : Int) := by
  (unfold wrap64; omega)
theorem bit_at (x a : Nat) (h2 : a < 32) : ((x : Int) / 2 ^ min (IntKind.u64.wrap (a : Int)).toNat 32).tmod 2 = (bN x a : Nat) := by
  have e : (IntKind.u64.wrap (a : Int)).toNat = a := by rw [IntKind.wrap_u64]; omega
  rw [e, Nat.min_eq_left (by omega), ← pow_nat, ← Int.natCast_ediv, bN]
  rw [Int.tmod_eq_emod_of_nonneg (Int.natCast_nonneg _)]
  rfl
/-- A round at a letter. -/
theorem fv_yes {c : UInt8} {x V M : Nat} {l t : List UInt8} {j : Nat} (e : l.drop j = c :: t) (hc : c ≠ 32) (hv : V * 2 ^ cnt c (l.drop j) + fvP c x (l.drop j) = fvP c x l) (hm : M + cnt c (l.drop j) = cnt c l) (hl : nb l = 32) :
    nb (l.drop j) = nb t + 1 ∧ nb t < 32 ∧ (2 * V + bN x (nb t)) * 2 ^ cnt c t + fvP c x t = fvP c x l ∧ M + 1 + cnt c t = cnt c l ∧ 2 * V + bN x (nb t) < 4294967296 ∧ M ≤ 32 := by
  have hn := nb_drop l j
  have hlt := fvP_lt c x l
  have hcl := cnt_le c hc l
  rw [e] at hv hm hn ⊢
  simp only [nb, if_neg hc, cnt, if_true, fvP] at hv hm hn ⊢
  have e2 : (2 * V + bN x (nb t)) * 2 ^ cnt c t + fvP c x t = fvP c x l := by
    rw [← hv, Nat.pow_succ, Nat.add_mul, Nat.mul_comm 2 V, Nat.mul_assoc V 2, Nat.mul_comm 2 (2 ^ cnt c t)]; omega
  refine ⟨trivial, by omega, e2, by omega, ?_, by omega⟩
  have h1 : 2 ^ cnt c l ≤ 2 ^ 32 := Nat.pow_le_pow_right (by decide) (by omega)
  have h2 := Nat.le_mul_of_pos_right (2 * V + bN x (nb t)) (Nat.two_pow_pos (cnt c t))
  have h3 : (2 : Nat) ^ 32 = 4294967296 := by decide
  omega
/-- A round elsewhere. -/
theorem fv_no {c y : UInt8} {x : Nat} {t : List UInt8} (hc : y ≠ c) : cnt c (y :: t) = cnt c t ∧ fvP c x (y :: t) = fvP c x t := by
  simp only [cnt, fvP, if_neg hc, and_self]
set_option maxRecDepth 100000 in
set_option maxHeartbeats 1000000 in
theorem jfield_any (s : ByteArray) (l : List UInt8) (c : UInt8) (x : Nat) (w : World) (hp : Pat s l) (hc : c ≠ 32) (hx : x < 4294967296) :
    Calls Tryd.prog 57 #[.string s, .int .u8 (c.toNat : Int), .int .u32 x] w fun e w' => e = .returned (.tuple #[.int .u32 (fvP c x l : Nat), .int .i64 (cnt c l : Nat)]) ∧ w' = w := by
  have hsz := hp.size
  have hp : Hid _ := hp
  have hlen := hp.out.len
  have hpl : Hid _ := hp.out.places
  have hc : Hid _ := hc
  go_enter Tryd.func57, Tryd.ntmps57
  go_wp2
  go_loopw [8, 9, 10, 11] (fun v n a k wr => ∃ (j V M : Nat), j ≤ l.length ∧ v = .int .u32 (V : Int) ∧ n = .int .i64 (M : Int) ∧ a = .int .i64 (nb (l.drop j) : Int) ∧ k = .int .i64 (j : Int) ∧ V * 2 ^ cnt c (l.drop j) + fvP c x (l.drop j) = fvP c x l ∧ M + cnt c (l.drop j) = cnt c l ∧ wr = w) (fun _ _ _ k _ => (l.length - intOf k).toNat)
  case atStart => exact ⟨0, 0, 0, by omega, rfl, rfl, by rw [List.drop_zero, hpl.out]; rfl, rfl, by simp, by simp, rfl⟩
  case round =>
    obtain ⟨j, V, M, h1, rfl, rfl, rfl, rfl, hv, hm, rfl⟩ := hrel
    have hv : Hid _ := hv
    have hm : Hid _ := hm
    by_cases h : j < l.length
    · have hj1 : IntKind.i64.wrap ((j : Int) + 1) = ((j + 1 : Nat) : Int) := by rw [IntKind.wrap_i64]; omega
      have z1 : decide ((j : Int) < (l.length : Nat)) = true := decide_eq_true (by omega)
      have hg := hp.out.get h (by omega)
      have ed : Hid (l.drop j = l[j] :: l.drop (j + 1)) := drop_at h
      go_wp2
      · rename_i hb
        have hb : l[j] = 32 := by rw [nat_u8k (y := 32) (k := 32) rfl, decide_eq_true_eq] at hb; exact hb
        have e := ed.out
        rw [hb] at e
        refine ⟨⟨j + 1, V, M, by omega, rfl, rfl, ?_, rfl, ?_, ?_, trivial⟩, ?_⟩
        · rw [e]; simp [nb]
        · have := hv.out
          rw [e, (fv_no (x := x) (Ne.symm hc.out)).1, (fv_no (x := x) (Ne.symm hc.out)).2] at this
          exact this
        · have := hm.out
          rw [e, (fv_no (x := x) (Ne.symm hc.out)).1] at this
          exact this
        · simp only [intOf]; omega
      · rename_i hb hy
        have hb : l[j] ≠ 32 := by rw [nat_u8k (y := 32) (k := 32) rfl, decide_eq_false_iff_not] at hb; exact hb
        have hy : l[j] = c := by rw [nat_u8, decide_eq_true_eq] at hy; exact hy
        have e := ed.out
        rw [hy] at e
        obtain ⟨k1, k2, k3, k4, k5, k6⟩ := fv_yes e hc.out hv.out hm.out hpl.out
        rw [k1]
        rw [wrap_pred _ (by omega) (by omega), Nat.add_sub_cancel, bit_at _ _ k2]
        refine ⟨⟨j + 1, _, _, by omega, congrArg _ (?_ : _ = ((2 * V + bN x (nb (l.drop (j + 1))) : Nat) : Int)), congrArg _ (?_ : _ = ((M + 1 : Nat) : Int)), rfl, rfl, k3, k4, trivial⟩, ?_⟩
        · omega
        · (unfold wrap64; omega)
        · simp only [intOf]; omega
      · rename_i hb hy
        have hb : l[j] ≠ 32 := by rw [nat_u8k (y := 32) (k := 32) rfl, decide_eq_false_iff_not] at hb; exact hb
        have hy : l[j] ≠ c := by rw [nat_u8, decide_eq_false_iff_not] at hy; exact hy
        have e := ed.out
        have hn := nb_drop l j
        have hpl2 := hpl.out
        have e3 : nb (l.drop j) = nb (l.drop (j + 1)) + 1 := by rw [e]; simp only [nb, if_neg hb]
        rw [wrap_pred _ (by omega) (by omega), e3, Nat.add_sub_cancel]
        refine ⟨⟨j + 1, V, M, by omega, rfl, rfl, rfl, rfl, ?_, ?_, trivial⟩, ?_⟩
        · have := hv.out
          rw [e, (fv_no (x := x) hy).1, (fv_no (x := x) hy).2] at this
          exact this
        · have := hm.out
          rw [e, (fv_no (x := x) hy).1] at this
          exact this
        · simp only [intOf]; omega
    · have z1 : decide ((j : Int) < (l.length : Nat)) = false := decide_eq_false (by omega)
      have e : l.drop j = [] := List.drop_eq_nil_of_le (by omega)
      have hv := hv.out
      have hm := hm.out
      rw [e] at hv hm
      simp only [cnt, fvP, Nat.pow_zero, Nat.mul_one, Nat.add_zero] at hv hm
      subst hv hm
      go_wp2
      exact bodyPost_ret (v := .tuple #[.int .u32 (fvP c x l : Nat), .int .i64 (cnt c l : Nat)]) (by simp [results, Tryd.results57, go_sem]) rfl ⟨rfl, rfl⟩
end Go.Proofs.YtkmgmmmpiallhaaDoor
