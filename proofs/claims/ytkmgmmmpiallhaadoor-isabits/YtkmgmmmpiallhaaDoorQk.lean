import Derived.Test.YtkmgmmmpiallhaaDoorQj
namespace Go.Proofs.YtkmgmmmpiallhaaDoor
set_option linter.unusedVariables false
set_option maxRecDepth 100000
/-- Another condition. -/
def reC (w c : Nat) : Nat := w % 268435456 + c * 268435456
theorem fit_cond {w v : Nat} (h : w % 268435456 = v % 268435456) {r : RowP} (hr : r.mask < 268435456) : fitR w r = fitR v r := by
  have e : ∀ x : Nat, x &&& r.mask = x % 268435456 &&& r.mask := by
    intro x
    apply Nat.eq_of_testBit_eq
    intro i
    rw [Nat.testBit_and, Nat.testBit_and, show (268435456 : Nat) = 2 ^ 28 from by decide, Nat.testBit_mod_two_pow]
    by_cases hi : i < 28
    · simp [hi]
    · rw [Nat.testBit_lt_two_pow (Nat.lt_of_lt_of_le (show r.mask < 2 ^ 28 from hr) (Nat.pow_le_pow_right (by decide) (by omega)))]; simp
  rw [fitR, fitR, e w, e v, h]
theorem masks_lt : ∀ r ∈ lowL ++ highL, r.mask < 268435456 := by
  have : (lowL ++ highL).all (fun r => decide (r.mask < 268435456)) = true := by decide
  intro r hr
  simpa using List.all_eq_true.1 this r hr
theorem find_cond {w v : Nat} (h : w % 268435456 = v % 268435456) : ∀ (l : List RowP), (∀ r ∈ l, r.mask < 268435456) → l.find? (fitR w) = l.find? (fitR v)
  | [], _ => rfl
  | r :: l, hl => by rw [List.find?_cons, List.find?_cons, fit_cond h (hl r (List.mem_cons_self ..)), find_cond h l (fun x hx => hl x (List.mem_cons_of_mem _ hx))]
theorem row_cond {w v : Nat} (h : w % 268435456 = v % 268435456) : rowW w = rowW v := by
  rw [rowW, rowW, show w / 67108864 % 4 = v / 67108864 % 4 by omega]
  rw [find_cond h lowL fun r hr => masks_lt r (List.mem_append.2 (.inl hr)), find_cond h highL fun r hr => masks_lt r (List.mem_append.2 (.inr hr))]
theorem get_cond {w v : Nat} (h : w % 268435456 = v % 268435456) (k : Nat) : getP w k = getP v k := by
  have hk := (pl_fits k).2
  have e : ∀ x : Nat, x / 2 ^ (plP k).at_ % 2 ^ (plP k).wide = x % 268435456 / 2 ^ (plP k).at_ % 2 ^ (plP k).wide := by
    intro x
    apply Nat.eq_of_testBit_eq
    intro i
    rw [show (268435456 : Nat) = 2 ^ 28 from by decide, Nat.testBit_mod_two_pow, Nat.testBit_mod_two_pow, Nat.testBit_div_two_pow, Nat.testBit_div_two_pow, Nat.testBit_mod_two_pow]
    by_cases hi : i < (plP k).wide
    · rw [decide_eq_true hi, decide_eq_true (show i + (plP k).at_ < 28 by omega), Bool.true_and, Bool.true_and]
    · rw [decide_eq_false hi, Bool.false_and, Bool.false_and]
  rw [getP, getP, e w, e v, h]
theorem put_none (i : Ins) (f v : Nat) (h : 18 ≤ f) : putP i f v = i := by
  unfold putP
  repeat rw [if_neg (by omega)]
theorem put_cond (i : Ins) (f v : Nat) (c : Int) : putP { i with cond := c } f v = { putP i f v with cond := c } := by
  by_cases h : 18 ≤ f
  · rw [put_none _ _ _ h, put_none _ _ _ h]
  · have : f = 0 ∨ f = 1 ∨ f = 2 ∨ f = 3 ∨ f = 4 ∨ f = 5 ∨ f = 6 ∨ f = 7 ∨ f = 8 ∨ f = 9 ∨ f = 10 ∨ f = 11 ∨ f = 12 ∨ f = 13 ∨ f = 14 ∨ f = 15 ∨ f = 16 ∨ f = 17 := by omega
    rcases this with rfl | rfl | rfl | rfl | rfl | rfl | rfl | rfl | rfl | rfl | rfl | rfl | rfl | rfl | rfl | rfl | rfl | rfl <;> rfl
theorem readF_cond {w v : Nat} (h : w % 268435456 = v % 268435456) (c : Int) : ∀ (l : List Nat) (i : Ins), readF v { i with cond := c } l = { readF w i l with cond := c }
  | [], i => rfl
  | k :: l, i => by rw [readF, readF, put_cond, readF_cond h c l, get_cond h]
theorem read_cond {w v : Nat} (h : w % 268435456 = v % 268435456) (r : RowP) : readP r v = { readP r w with cond := ((v / 268435456 : Nat) : Int) } := by
  have e := readF_cond h ((v / 268435456 : Nat) : Int) (chainP 32 r.parts) { insZ with cond := ((w / 268435456 : Nat) : Int), op := r.op, form := r.form }
  unfold readP
  simp only at e ⊢
  rw [e]
  split <;> rfl
theorem may_cond (i : Ins) (c : Int) (h : mayP i = true) (hf : i.form = 3 → i.op ≠ 46) : mayP { i with cond := c } = (!(c == 15) && (!(i.op == 46) || c == 14)) := by
  unfold mayP at h ⊢
  by_cases h15 : i.cond = 15
  · rw [if_pos h15] at h; cases h
  rw [if_neg h15] at h
  by_cases hc : c = 15
  · rw [if_pos (show ({ i with cond := c } : Ins).cond = 15 from hc), hc]; rfl
  rw [if_neg (show ¬ ({ i with cond := c } : Ins).cond = 15 from hc), beq_eq_false_iff_ne.2 hc, Bool.not_false, Bool.true_and]
  by_cases h46 : i.op = 46
  · have hone : isOneP 46 = false := by decide
    have h3 : ¬ i.form = 3 := fun e => hf e h46
    simp only [h46, hone, h3] at h ⊢
    simp
  · rw [beq_eq_false_iff_ne.2 h46, Bool.not_false, Bool.true_or]
    simp only [oneMayP, movesP, manyMayP] at h ⊢
    simp only [h46] at h ⊢
    exact h
/-- The word with another condition says the same with that condition, where it says something. -/
theorem dec_cond {w : Nat} (hw : w < 4294967296) {i : Ins} (h : decP w = some i) (c : Nat) (hc : c < 16) :
    decP (reC w c) = if c = 15 ∨ i.op = 46 ∧ c ≠ 14 then none else some { i with cond := (c : Int) } := by
  have e28 : w % 268435456 = reC w c % 268435456 := by rw [reC]; omega
  have ec : reC w c / 268435456 = c := by rw [reC]; omega
  obtain ⟨r, q, hr, hp, hq, hh, hi, hi'⟩ := dec_hit hw h
  have hm : mayP (readP r w) = true := by
    unfold decP at h
    rw [hr] at h
    have h : (if mayP (readP r w) then some (readP r w) else none) = some i := h
    cases hm : mayP (readP r w) with
    | false => rw [hm] at h; cases h
    | true => rfl
  have hrd := read_cond e28 r
  rw [ec] at hrd
  have hf3 : (readP r w).form = 3 → (readP r w).op ≠ 46 := by
    rw [← hi', hi]
    intro h3 h46
    have hk := (pairs _ hp).may
    have ho := (pairs _ hp).ops w (row_fit hr).1
    have h3' : q.form = 3 := h3
    have h46' : opJ q w = 46 := h46
    simp only [mayK, Bool.and_eq_true] at hk
    have k1 := hk.1
    rw [h3', show ((3 : Int) != 3) = false from rfl, Bool.false_or, Bool.and_eq_true] at k1
    have := List.all_eq_true.1 k1.1 (opJ q w) (by simpa using ho)
    rw [h46'] at this
    exact absurd this (by decide)
  have hmc := may_cond (readP r w) (c : Int) hm hf3
  rw [decP, ← row_cond e28, hr]
  show (if mayP (readP r (reC w c)) then some (readP r (reC w c)) else none) = _
  rw [hrd, hmc, ← hi']
  by_cases h15 : c = 15
  · rw [if_pos (Or.inl h15), h15]; rfl
  · rw [beq_eq_false_iff_ne.2 (show ¬ (c : Int) = 15 by omega), Bool.not_false, Bool.true_and]
    by_cases h46 : i.op = 46
    · rw [beq_iff_eq.2 h46]
      by_cases h14 : c = 14
      · rw [if_neg (show ¬ (c = 15 ∨ i.op = 46 ∧ c ≠ 14) by omega), beq_iff_eq.2 (show (c : Int) = 14 by omega)]; rfl
      · rw [if_pos (show (c = 15 ∨ i.op = 46 ∧ c ≠ 14) from .inr ⟨h46, h14⟩), beq_eq_false_iff_ne.2 (show ¬ (c : Int) = 14 by omega)]; rfl
    · rw [beq_eq_false_iff_ne.2 h46, if_neg (show ¬ (c = 15 ∨ i.op = 46 ∧ c ≠ 14) by omega)]; rfl
theorem xor_ne (w k : Nat) : w ^^^ 2 ^ k ≠ w := by
  intro h
  have := congrArg (fun z => Nat.testBit z k) h
  simp only [Nat.testBit_xor, tb_pow] at this
  cases hb : w.testBit k <;> rw [hb] at this <;> simp at this
end Go.Proofs.YtkmgmmmpiallhaaDoor
