import Derived.Test.YtilhceajhlaojaaGreatDoorZ7
namespace Go.Proofs.YtilhceajhlaojaaGreatDoor.Is
set_option linter.unusedVariables false
set_option maxRecDepth 100000
theorem getP_eq (w k : Nat) (h : (plP k).wide + (plP k).frm ≤ 32) : getP w k = w / 2 ^ (plP k).at_ % 2 ^ (plP k).wide * 2 ^ (plP k).frm := by
  unfold getP
  generalize (plP k).wide = a at *
  generalize (plP k).frm = b at *
  have h1 : w / 2 ^ (plP k).at_ % 2 ^ a < 2 ^ a := Nat.mod_lt _ (Nat.two_pow_pos _)
  have h2 : 0 < 2 ^ b := Nat.two_pow_pos _
  have h3 : 2 ^ a * 2 ^ b ≤ 4294967296 := by rw [← Nat.pow_add]; exact Nat.pow_le_pow_right (n := 2) (by decide) h
  generalize w / 2 ^ (plP k).at_ % 2 ^ a = x at *
  have h4 : x * 2 ^ b < 2 ^ a * 2 ^ b := Nat.mul_lt_mul_of_pos_right h1 h2
  exact Nat.mod_eq_of_lt (by omega)
theorem pl_fits : ∀ k, (plP k).wide + (plP k).frm ≤ 32 ∧ (plP k).at_ + (plP k).wide ≤ 28 := by
  intro k
  by_cases h : k < 28
  · have : ∀ k : Fin 28, (plP k.1).wide + (plP k.1).frm ≤ 32 ∧ (plP k.1).at_ + (plP k.1).wide ≤ 28 := by decide
    exact this ⟨k, h⟩
  · have : plL[k]? = none := List.getElem?_eq_none (by have : plL.length = 28 := rfl; omega)
    rw [plP, List.getD_eq_getElem?_getD, this]; decide
def fgK (c : UInt8) (l : List UInt8) (k : Nat) : Bool := (decide (c ≠ 32) && decide ((plP k).at_ + (plP k).wide ≤ 32)) && (coL c l == crL (plP k).at_ (plP k).wide (plP k).frm 32)
theorem fg {c : UInt8} {l : List UInt8} {k : Nat} (w : Nat) (h : fgK c l k = true) : fvP c w l = getP w k := by rw [fv_run c l _ _ _ w h, getP_eq w k (pl_fits k).1]
def fg2K (c : UInt8) (l : List UInt8) (k k' : Nat) : Bool := (((decide (c ≠ 32) && (decide ((plP k).at_ + (plP k).wide ≤ 32) && decide ((plP k').at_ + (plP k').wide ≤ 32))) && (coL c l == addL (crL (plP k).at_ (plP k).wide (plP k).frm 32) (crL (plP k').at_ (plP k').wide (plP k').frm 32))) && (decide ((plP k).frm = 0) && decide ((plP k).wide ≤ (plP k').frm)))
theorem fg2 {c : UInt8} {l : List UInt8} {k k' : Nat} (w : Nat) (h : fg2K c l k k' = true) : fvP c w l = (0 ||| getP w k) ||| getP w k' := by
  rw [fg2K, Bool.and_eq_true, Bool.and_eq_true (decide _), decide_eq_true_eq, decide_eq_true_eq] at h
  obtain ⟨h1, h2, h3⟩ := h
  rw [fv_two c l _ _ _ _ _ _ w h1, getP_eq w k (pl_fits k).1, getP_eq w k' (pl_fits k').1, Nat.zero_or, or_add]
  rw [h2, Nat.pow_zero, Nat.mul_one]
  exact Nat.lt_of_lt_of_le (Nat.mod_lt _ (Nat.two_pow_pos _)) (Nat.pow_le_pow_right (by decide) h3)
theorem fg1 {c : UInt8} {l : List UInt8} {k : Nat} (w : Nat) (h : fgK c l k = true) : fvP c w l = 0 ||| getP w k := by rw [Nat.zero_or]; exact fg w h
theorem reach_eq (w : Nat) : immJ 41 (getP w 11 / 4) = ((signP (0 ||| getP w 11) : Nat) : Int) ∧ immJ 42 (getP w 11 / 4) = ((signP (0 ||| getP w 11) : Nat) : Int) := by
  have e : getP w 11 = w / 2 ^ 0 % 2 ^ 24 * 2 ^ 2 := getP_eq w 11 (by decide)
  have h : w / 2 ^ 0 % 2 ^ 24 < 16777216 := Nat.mod_lt _ (by decide)
  rw [Nat.zero_or, e]
  generalize w / 2 ^ 0 % 2 ^ 24 = x at *
  have e4 : x * 2 ^ 2 / 4 = x := by omega
  rw [e4]
  have main : ∀ op, isB op = true → immJ op x = ((signP (x * 2 ^ 2) : Nat) : Int) := by
    intro op ho
    rw [immJ, if_pos ho, signP]
    by_cases h1 : 33554432 ≤ x * 4 % 4294967296
    · rw [if_pos h1, if_pos (by omega)]; omega
    · rw [if_neg h1, if_neg (by omega)]; omega
  exact ⟨main 41 rfl, main 42 rfl⟩
theorem reach_fv (l : List UInt8) (w : Nat) (h : ((decide ((105 : UInt8) ≠ 32) && decide (0 + 24 ≤ 32)) && (coL 105 l == crL 0 24 0 32)) = true) : fvP 105 w l = getP w 11 / 4 := by
  rw [fv_run 105 l 0 24 0 w h, getP_eq w 11 (by decide), show (plP 11).at_ = 0 from rfl, show (plP 11).wide = 24 from rfl, show (plP 11).frm = 2 from rfl]
  omega
/-- Which operations a row of sixteen says. -/
def opsK (r : RowP) (q : RowJ) : Bool := (List.range 16).all fun v => notK r.mask r.bits 31457280 (v * 2097152) || q.ops.contains ((v : Int) + 1)
theorem kb_opv (w : Nat) : kb 31457280 (w / 2 ^ 21 % 2 ^ 4 * 2097152) w := by
  have := kb_op (w := w) (op := ((w / 2 ^ 21 % 2 ^ 4 : Nat) : Int) + 1) (by omega) (by have : w / 2 ^ 21 % 2 ^ 4 < 16 := Nat.mod_lt _ (by decide); omega) rfl
  rwa [show (((w / 2 ^ 21 % 2 ^ 4 : Nat) : Int) + 1 - 1).toNat = w / 2 ^ 21 % 2 ^ 4 by omega] at this
theorem ops_of {w : Nat} {r : RowP} {q : RowJ} (hs : r.bits &&& r.mask = r.bits) (hf : fitR w r = true) (hk : opsK r q = true) : q.ops.contains (((getP w 0 : Nat) : Int) + 1) = true := by
  have e : getP w 0 = w / 2 ^ 21 % 2 ^ 4 := by rw [getP_eq w 0 (by decide)]; exact Nat.mul_one _
  have h16 : w / 2 ^ 21 % 2 ^ 4 < 16 := Nat.mod_lt _ (by decide)
  have := List.all_eq_true.1 hk (w / 2 ^ 21 % 2 ^ 4) (List.mem_range.2 h16)
  rw [Bool.or_eq_true, kb_not ((fit_kb w r hs).1 hf) (kb_opv w)] at this
  rw [e]
  rcases this with h | h
  · cases h
  · exact h
theorem opJ_16 {w : Nat} {q : RowJ} (h : (decide (0 < cnt 111 q.pat) && fgK 111 q.pat 0) = true) : opJ q w = ((getP w 0 : Nat) : Int) + 1 := by
  rw [Bool.and_eq_true, decide_eq_true_eq] at h
  rw [opJ, if_pos h.1, fg w h.2]
theorem opJ_1 {w : Nat} {q : RowJ} (h : cnt 111 q.pat = 0) : opJ q w = q.ops.headD 0 := by rw [opJ, if_neg (by omega)]
theorem ins_eq {a1 a2 a4 a5 a6 a7 a8 a9 a10 a11 a12 a16 a17 a18 a19 a20 b1 b2 b4 b5 b6 b7 b8 b9 b10 b11 b12 b16 b17 b18 b19 b20 : Int} {a3 a13 a14 a15 b3 b13 b14 b15 : Bool}
    (h1 : a1 = b1) (h2 : a2 = b2) (h3 : a3 = b3) (h4 : a4 = b4) (h5 : a5 = b5) (h6 : a6 = b6) (h7 : a7 = b7) (h8 : a8 = b8) (h9 : a9 = b9) (h10 : a10 = b10) (h11 : a11 = b11) (h12 : a12 = b12) (h13 : a13 = b13) (h14 : a14 = b14) (h15 : a15 = b15) (h16 : a16 = b16) (h17 : a17 = b17) (h18 : a18 = b18) (h19 : a19 = b19) (h20 : a20 = b20) :
    (⟨a1, a2, a3, a4, a5, a6, a7, a8, a9, a10, a11, a12, a13, a14, a15, a16, a17, a18, a19, a20⟩ : Ins) = ⟨b1, b2, b3, b4, b5, b6, b7, b8, b9, b10, b11, b12, b13, b14, b15, b16, b17, b18, b19, b20⟩ := by
  subst h1 h2 h3 h4 h5 h6 h7 h8 h9 h10 h11 h12 h13 h14 h15 h16 h17 h18 h19 h20
  rfl
theorem nn {a b : Nat} (h : a = b) : (a : Int) = (b : Int) := congrArg _ h
theorem n0 {a : Nat} (h : a = 0) : (a : Int) = 0 := by omega
theorem b0 {a : Nat} (h : a = 0) : (a == 1) = false := by rw [h]; rfl
theorem bb {a b : Nat} (h : a = b) : (a == 1) = (b == 1) := by rw [h]
theorem cond_eq {l : List UInt8} {w : Nat} (hw : w < 4294967296) (h : ((decide ((99 : UInt8) ≠ 32) && decide (28 + 4 ≤ 32)) && (coL 99 l == crL 28 4 0 32)) = true) : fvP 99 w l = w / 268435456 := by
  rw [fv_run 99 l 28 4 0 w h]; omega
theorem tests_no {q : RowJ} {op : Int} (h : q.ops.contains op = true) (hk : q.ops.all (fun o => !tests o && !isB o) = true) : tests op = false ∧ isB op = false := by
  have := List.all_eq_true.1 hk op (by simpa using h)
  simpa using this
theorem tests_yes {q : RowJ} {op : Int} (h : q.ops.contains op = true) (hk : q.ops.all (fun o => tests o && !isB o) = true) : tests op = true ∧ isB op = false := by
  have := List.all_eq_true.1 hk op (by simpa using h)
  simpa using this
theorem immJ_no {op : Int} {x : Nat} (h : isB op = false) : immJ op x = (x : Int) := by rw [immJ, h]; rfl
theorem rd0 (w : Nat) : readP rp0 w = ⟨((w / 268435456 : Nat) : Int), ((getP w 0 : Nat) : Int) + 1, getP w 1 == 1, 1, ((getP w 3 : Nat) : Int), ((getP w 5 : Nat) : Int), 0, 0, 0, ((0 ||| getP w 9 : Nat) : Int), 0, 0, false, false, false, 0, 0, 0, 0, 0⟩ := by kernel_rfl
theorem op0 {w : Nat} (hf : fitR w rp0 = true) : rj0.ops.contains (opJ rj0 w) = true := by
  rw [opJ_16 (by decide)]
  exact ops_of (by decide) hf (by decide)
theorem rs0 {w : Nat} (hw : w < 4294967296) (hf : fitR w rp0 = true) : readP rp0 w = sayJ rj0 w := by
  have ho := op0 hf
  have e := opJ_16 (w := w) (q := rj0) (by decide)
  have ht := tests_no ho (by decide)
  rw [e] at ht
  rw [rd0, sayJ, e]
  refine ins_eq (nn (cond_eq hw (by decide)).symm) rfl (by rw [ht.1, Bool.or_false, fg (k := 1) w (by decide)]) rfl (nn (fg (k := 3) w (by decide)).symm) (nn (fg (k := 5) w (by decide)).symm) ((n0 (fv_none _ _ _ (by decide))).symm) ((n0 (fv_none _ _ _ (by decide))).symm) ((n0 (fv_none _ _ _ (by decide))).symm) (by rw [immJ_no (ht.2), fg1 (k := 9) w (by decide)]) ((n0 (fv_none _ _ _ (by decide))).symm) ((n0 (fv_none _ _ _ (by decide))).symm) ((b0 (fv_none _ _ _ (by decide))).symm) ((b0 (fv_none _ _ _ (by decide))).symm) ((b0 (fv_none _ _ _ (by decide))).symm) ((n0 (by rw [fv_none _ _ _ (by decide)])).symm) ((n0 (fv_none _ _ _ (by decide))).symm) ((n0 (fv_none _ _ _ (by decide))).symm) ((n0 (fv_none _ _ _ (by decide))).symm) ((n0 (fv_none _ _ _ (by decide))).symm)
theorem fi0 {w : Nat} (hf : fitR w rp0 = true) : fiP w rj0.pat = true := (fi_kb _ _).2 (kb_sub ((fit_kb w rp0 (by decide)).1 hf) (by decide))
theorem rd1 (w : Nat) : readP rp1 w = ⟨((w / 268435456 : Nat) : Int), ((getP w 0 : Nat) : Int) + 1, getP w 1 == 1, 2, ((getP w 3 : Nat) : Int), ((getP w 5 : Nat) : Int), ((getP w 6 : Nat) : Int), 0, 0, 0, ((getP w 16 : Nat) : Int), ((getP w 17 : Nat) : Int), false, false, false, 0, 0, 0, 0, 0⟩ := by kernel_rfl
theorem op1 {w : Nat} (hf : fitR w rp1 = true) : rj1.ops.contains (opJ rj1 w) = true := by
  rw [opJ_16 (by decide)]
  exact ops_of (by decide) hf (by decide)
theorem rs1 {w : Nat} (hw : w < 4294967296) (hf : fitR w rp1 = true) : readP rp1 w = sayJ rj1 w := by
  have ho := op1 hf
  have e := opJ_16 (w := w) (q := rj1) (by decide)
  have ht := tests_no ho (by decide)
  rw [e] at ht
  rw [rd1, sayJ, e]
  refine ins_eq (nn (cond_eq hw (by decide)).symm) rfl (by rw [ht.1, Bool.or_false, fg (k := 1) w (by decide)]) rfl (nn (fg (k := 3) w (by decide)).symm) (nn (fg (k := 5) w (by decide)).symm) (nn (fg (k := 6) w (by decide)).symm) ((n0 (fv_none _ _ _ (by decide))).symm) ((n0 (fv_none _ _ _ (by decide))).symm) (by rw [immJ_no (ht.2), fv_none _ _ _ (by decide)]; rfl) (nn (fg (k := 16) w (by decide)).symm) (nn (fg (k := 17) w (by decide)).symm) ((b0 (fv_none _ _ _ (by decide))).symm) ((b0 (fv_none _ _ _ (by decide))).symm) ((b0 (fv_none _ _ _ (by decide))).symm) ((n0 (by rw [fv_none _ _ _ (by decide)])).symm) ((n0 (fv_none _ _ _ (by decide))).symm) ((n0 (fv_none _ _ _ (by decide))).symm) ((n0 (fv_none _ _ _ (by decide))).symm) ((n0 (fv_none _ _ _ (by decide))).symm)
theorem fi1 {w : Nat} (hf : fitR w rp1 = true) : fiP w rj1.pat = true := (fi_kb _ _).2 (kb_sub ((fit_kb w rp1 (by decide)).1 hf) (by decide))
theorem rd2 (w : Nat) : readP rp2 w = ⟨((w / 268435456 : Nat) : Int), ((getP w 0 : Nat) : Int) + 1, getP w 1 == 1, 3, ((getP w 3 : Nat) : Int), ((getP w 5 : Nat) : Int), ((getP w 6 : Nat) : Int), ((getP w 7 : Nat) : Int), 0, 0, ((getP w 16 : Nat) : Int), 0, false, false, false, 0, 0, 0, 0, 0⟩ := by kernel_rfl
theorem op2 {w : Nat} (hf : fitR w rp2 = true) : rj2.ops.contains (opJ rj2 w) = true := by
  rw [opJ_16 (by decide)]
  exact ops_of (by decide) hf (by decide)
theorem rs2 {w : Nat} (hw : w < 4294967296) (hf : fitR w rp2 = true) : readP rp2 w = sayJ rj2 w := by
  have ho := op2 hf
  have e := opJ_16 (w := w) (q := rj2) (by decide)
  have ht := tests_no ho (by decide)
  rw [e] at ht
  rw [rd2, sayJ, e]
  refine ins_eq (nn (cond_eq hw (by decide)).symm) rfl (by rw [ht.1, Bool.or_false, fg (k := 1) w (by decide)]) rfl (nn (fg (k := 3) w (by decide)).symm) (nn (fg (k := 5) w (by decide)).symm) (nn (fg (k := 6) w (by decide)).symm) (nn (fg (k := 7) w (by decide)).symm) ((n0 (fv_none _ _ _ (by decide))).symm) (by rw [immJ_no (ht.2), fv_none _ _ _ (by decide)]; rfl) (nn (fg (k := 16) w (by decide)).symm) ((n0 (fv_none _ _ _ (by decide))).symm) ((b0 (fv_none _ _ _ (by decide))).symm) ((b0 (fv_none _ _ _ (by decide))).symm) ((b0 (fv_none _ _ _ (by decide))).symm) ((n0 (by rw [fv_none _ _ _ (by decide)])).symm) ((n0 (fv_none _ _ _ (by decide))).symm) ((n0 (fv_none _ _ _ (by decide))).symm) ((n0 (fv_none _ _ _ (by decide))).symm) ((n0 (fv_none _ _ _ (by decide))).symm)
theorem fi2 {w : Nat} (hf : fitR w rp2 = true) : fiP w rj2.pat = true := (fi_kb _ _).2 (kb_sub ((fit_kb w rp2 (by decide)).1 hf) (by decide))
theorem rd3 (w : Nat) : readP rp3 w = ⟨((w / 268435456 : Nat) : Int), ((getP w 0 : Nat) : Int) + 1, getP w 1 == 1, 1, ((getP w 3 : Nat) : Int), ((getP w 5 : Nat) : Int), 0, 0, 0, ((0 ||| getP w 9 : Nat) : Int), 0, 0, false, false, false, 0, 0, 0, 0, 0⟩ := by kernel_rfl
theorem op3 {w : Nat} (hf : fitR w rp3 = true) : rj0.ops.contains (opJ rj0 w) = true := by
  rw [opJ_16 (by decide)]
  exact ops_of (by decide) hf (by decide)
theorem rs3 {w : Nat} (hw : w < 4294967296) (hf : fitR w rp3 = true) : readP rp3 w = sayJ rj0 w := by
  have ho := op3 hf
  have e := opJ_16 (w := w) (q := rj0) (by decide)
  have ht := tests_no ho (by decide)
  rw [e] at ht
  rw [rd3, sayJ, e]
  refine ins_eq (nn (cond_eq hw (by decide)).symm) rfl (by rw [ht.1, Bool.or_false, fg (k := 1) w (by decide)]) rfl (nn (fg (k := 3) w (by decide)).symm) (nn (fg (k := 5) w (by decide)).symm) ((n0 (fv_none _ _ _ (by decide))).symm) ((n0 (fv_none _ _ _ (by decide))).symm) ((n0 (fv_none _ _ _ (by decide))).symm) (by rw [immJ_no (ht.2), fg1 (k := 9) w (by decide)]) ((n0 (fv_none _ _ _ (by decide))).symm) ((n0 (fv_none _ _ _ (by decide))).symm) ((b0 (fv_none _ _ _ (by decide))).symm) ((b0 (fv_none _ _ _ (by decide))).symm) ((b0 (fv_none _ _ _ (by decide))).symm) ((n0 (by rw [fv_none _ _ _ (by decide)])).symm) ((n0 (fv_none _ _ _ (by decide))).symm) ((n0 (fv_none _ _ _ (by decide))).symm) ((n0 (fv_none _ _ _ (by decide))).symm) ((n0 (fv_none _ _ _ (by decide))).symm)
theorem fi3 {w : Nat} (hf : fitR w rp3 = true) : fiP w rj0.pat = true := (fi_kb _ _).2 (kb_sub ((fit_kb w rp3 (by decide)).1 hf) (by decide))
theorem rd4 (w : Nat) : readP rp4 w = ⟨((w / 268435456 : Nat) : Int), ((getP w 0 : Nat) : Int) + 1, getP w 1 == 1, 2, ((getP w 3 : Nat) : Int), ((getP w 5 : Nat) : Int), ((getP w 6 : Nat) : Int), 0, 0, 0, ((getP w 16 : Nat) : Int), ((getP w 17 : Nat) : Int), false, false, false, 0, 0, 0, 0, 0⟩ := by kernel_rfl
theorem op4 {w : Nat} (hf : fitR w rp4 = true) : rj1.ops.contains (opJ rj1 w) = true := by
  rw [opJ_16 (by decide)]
  exact ops_of (by decide) hf (by decide)
theorem rs4 {w : Nat} (hw : w < 4294967296) (hf : fitR w rp4 = true) : readP rp4 w = sayJ rj1 w := by
  have ho := op4 hf
  have e := opJ_16 (w := w) (q := rj1) (by decide)
  have ht := tests_no ho (by decide)
  rw [e] at ht
  rw [rd4, sayJ, e]
  refine ins_eq (nn (cond_eq hw (by decide)).symm) rfl (by rw [ht.1, Bool.or_false, fg (k := 1) w (by decide)]) rfl (nn (fg (k := 3) w (by decide)).symm) (nn (fg (k := 5) w (by decide)).symm) (nn (fg (k := 6) w (by decide)).symm) ((n0 (fv_none _ _ _ (by decide))).symm) ((n0 (fv_none _ _ _ (by decide))).symm) (by rw [immJ_no (ht.2), fv_none _ _ _ (by decide)]; rfl) (nn (fg (k := 16) w (by decide)).symm) (nn (fg (k := 17) w (by decide)).symm) ((b0 (fv_none _ _ _ (by decide))).symm) ((b0 (fv_none _ _ _ (by decide))).symm) ((b0 (fv_none _ _ _ (by decide))).symm) ((n0 (by rw [fv_none _ _ _ (by decide)])).symm) ((n0 (fv_none _ _ _ (by decide))).symm) ((n0 (fv_none _ _ _ (by decide))).symm) ((n0 (fv_none _ _ _ (by decide))).symm) ((n0 (fv_none _ _ _ (by decide))).symm)
theorem fi4 {w : Nat} (hf : fitR w rp4 = true) : fiP w rj1.pat = true := (fi_kb _ _).2 (kb_sub ((fit_kb w rp4 (by decide)).1 hf) (by decide))
theorem rd5 (w : Nat) : readP rp5 w = ⟨((w / 268435456 : Nat) : Int), ((getP w 0 : Nat) : Int) + 1, getP w 1 == 1, 3, ((getP w 3 : Nat) : Int), ((getP w 5 : Nat) : Int), ((getP w 6 : Nat) : Int), ((getP w 7 : Nat) : Int), 0, 0, ((getP w 16 : Nat) : Int), 0, false, false, false, 0, 0, 0, 0, 0⟩ := by kernel_rfl
theorem op5 {w : Nat} (hf : fitR w rp5 = true) : rj2.ops.contains (opJ rj2 w) = true := by
  rw [opJ_16 (by decide)]
  exact ops_of (by decide) hf (by decide)
theorem rs5 {w : Nat} (hw : w < 4294967296) (hf : fitR w rp5 = true) : readP rp5 w = sayJ rj2 w := by
  have ho := op5 hf
  have e := opJ_16 (w := w) (q := rj2) (by decide)
  have ht := tests_no ho (by decide)
  rw [e] at ht
  rw [rd5, sayJ, e]
  refine ins_eq (nn (cond_eq hw (by decide)).symm) rfl (by rw [ht.1, Bool.or_false, fg (k := 1) w (by decide)]) rfl (nn (fg (k := 3) w (by decide)).symm) (nn (fg (k := 5) w (by decide)).symm) (nn (fg (k := 6) w (by decide)).symm) (nn (fg (k := 7) w (by decide)).symm) ((n0 (fv_none _ _ _ (by decide))).symm) (by rw [immJ_no (ht.2), fv_none _ _ _ (by decide)]; rfl) (nn (fg (k := 16) w (by decide)).symm) ((n0 (fv_none _ _ _ (by decide))).symm) ((b0 (fv_none _ _ _ (by decide))).symm) ((b0 (fv_none _ _ _ (by decide))).symm) ((b0 (fv_none _ _ _ (by decide))).symm) ((n0 (by rw [fv_none _ _ _ (by decide)])).symm) ((n0 (fv_none _ _ _ (by decide))).symm) ((n0 (fv_none _ _ _ (by decide))).symm) ((n0 (fv_none _ _ _ (by decide))).symm) ((n0 (fv_none _ _ _ (by decide))).symm)
theorem fi5 {w : Nat} (hf : fitR w rp5 = true) : fiP w rj2.pat = true := (fi_kb _ _).2 (kb_sub ((fit_kb w rp5 (by decide)).1 hf) (by decide))
theorem rd6 (w : Nat) : readP rp6 w = ⟨((w / 268435456 : Nat) : Int), ((getP w 0 : Nat) : Int) + 1, getP w 1 == 1, 1, 0, ((getP w 5 : Nat) : Int), 0, 0, 0, ((0 ||| getP w 9 : Nat) : Int), 0, 0, false, false, false, 0, 0, 0, 0, 0⟩ := by kernel_rfl
theorem op6 {w : Nat} (hf : fitR w rp6 = true) : rj3.ops.contains (opJ rj3 w) = true := by
  rw [opJ_16 (by decide)]
  exact ops_of (by decide) hf (by decide)
theorem rs6 {w : Nat} (hw : w < 4294967296) (hf : fitR w rp6 = true) : readP rp6 w = sayJ rj3 w := by
  have ho := op6 hf
  have e := opJ_16 (w := w) (q := rj3) (by decide)
  have ht := tests_yes ho (by decide)
  rw [e] at ht
  have hs : getP w 1 = 1 := by
    rw [getP_eq w 1 (by decide)]
    exact (kb_field (at_ := 20) (wide := 1) ((fit_kb w rp6 (by decide)).1 hf) (by decide)) ▸ (Nat.mul_one _)
  rw [rd6, sayJ, e]
  refine ins_eq (nn (cond_eq hw (by decide)).symm) rfl (by rw [hs, ht.1, Bool.or_true]; rfl) rfl ((n0 (fv_none _ _ _ (by decide))).symm) (nn (fg (k := 5) w (by decide)).symm) ((n0 (fv_none _ _ _ (by decide))).symm) ((n0 (fv_none _ _ _ (by decide))).symm) ((n0 (fv_none _ _ _ (by decide))).symm) (by rw [immJ_no (ht.2), fg1 (k := 9) w (by decide)]) ((n0 (fv_none _ _ _ (by decide))).symm) ((n0 (fv_none _ _ _ (by decide))).symm) ((b0 (fv_none _ _ _ (by decide))).symm) ((b0 (fv_none _ _ _ (by decide))).symm) ((b0 (fv_none _ _ _ (by decide))).symm) ((n0 (by rw [fv_none _ _ _ (by decide)])).symm) ((n0 (fv_none _ _ _ (by decide))).symm) ((n0 (fv_none _ _ _ (by decide))).symm) ((n0 (fv_none _ _ _ (by decide))).symm) ((n0 (fv_none _ _ _ (by decide))).symm)
theorem fi6 {w : Nat} (hf : fitR w rp6 = true) : fiP w rj3.pat = true := (fi_kb _ _).2 (kb_sub ((fit_kb w rp6 (by decide)).1 hf) (by decide))
theorem rd7 (w : Nat) : readP rp7 w = ⟨((w / 268435456 : Nat) : Int), ((getP w 0 : Nat) : Int) + 1, getP w 1 == 1, 2, 0, ((getP w 5 : Nat) : Int), ((getP w 6 : Nat) : Int), 0, 0, 0, ((getP w 16 : Nat) : Int), ((getP w 17 : Nat) : Int), false, false, false, 0, 0, 0, 0, 0⟩ := by kernel_rfl
theorem op7 {w : Nat} (hf : fitR w rp7 = true) : rj4.ops.contains (opJ rj4 w) = true := by
  rw [opJ_16 (by decide)]
  exact ops_of (by decide) hf (by decide)
theorem rs7 {w : Nat} (hw : w < 4294967296) (hf : fitR w rp7 = true) : readP rp7 w = sayJ rj4 w := by
  have ho := op7 hf
  have e := opJ_16 (w := w) (q := rj4) (by decide)
  have ht := tests_yes ho (by decide)
  rw [e] at ht
  have hs : getP w 1 = 1 := by
    rw [getP_eq w 1 (by decide)]
    exact (kb_field (at_ := 20) (wide := 1) ((fit_kb w rp7 (by decide)).1 hf) (by decide)) ▸ (Nat.mul_one _)
  rw [rd7, sayJ, e]
  refine ins_eq (nn (cond_eq hw (by decide)).symm) rfl (by rw [hs, ht.1, Bool.or_true]; rfl) rfl ((n0 (fv_none _ _ _ (by decide))).symm) (nn (fg (k := 5) w (by decide)).symm) (nn (fg (k := 6) w (by decide)).symm) ((n0 (fv_none _ _ _ (by decide))).symm) ((n0 (fv_none _ _ _ (by decide))).symm) (by rw [immJ_no (ht.2), fv_none _ _ _ (by decide)]; rfl) (nn (fg (k := 16) w (by decide)).symm) (nn (fg (k := 17) w (by decide)).symm) ((b0 (fv_none _ _ _ (by decide))).symm) ((b0 (fv_none _ _ _ (by decide))).symm) ((b0 (fv_none _ _ _ (by decide))).symm) ((n0 (by rw [fv_none _ _ _ (by decide)])).symm) ((n0 (fv_none _ _ _ (by decide))).symm) ((n0 (fv_none _ _ _ (by decide))).symm) ((n0 (fv_none _ _ _ (by decide))).symm) ((n0 (fv_none _ _ _ (by decide))).symm)
theorem fi7 {w : Nat} (hf : fitR w rp7 = true) : fiP w rj4.pat = true := (fi_kb _ _).2 (kb_sub ((fit_kb w rp7 (by decide)).1 hf) (by decide))
theorem rd8 (w : Nat) : readP rp8 w = ⟨((w / 268435456 : Nat) : Int), ((getP w 0 : Nat) : Int) + 1, getP w 1 == 1, 3, 0, ((getP w 5 : Nat) : Int), ((getP w 6 : Nat) : Int), ((getP w 7 : Nat) : Int), 0, 0, ((getP w 16 : Nat) : Int), 0, false, false, false, 0, 0, 0, 0, 0⟩ := by kernel_rfl
theorem op8 {w : Nat} (hf : fitR w rp8 = true) : rj5.ops.contains (opJ rj5 w) = true := by
  rw [opJ_16 (by decide)]
  exact ops_of (by decide) hf (by decide)
theorem rs8 {w : Nat} (hw : w < 4294967296) (hf : fitR w rp8 = true) : readP rp8 w = sayJ rj5 w := by
  have ho := op8 hf
  have e := opJ_16 (w := w) (q := rj5) (by decide)
  have ht := tests_yes ho (by decide)
  rw [e] at ht
  have hs : getP w 1 = 1 := by
    rw [getP_eq w 1 (by decide)]
    exact (kb_field (at_ := 20) (wide := 1) ((fit_kb w rp8 (by decide)).1 hf) (by decide)) ▸ (Nat.mul_one _)
  rw [rd8, sayJ, e]
  refine ins_eq (nn (cond_eq hw (by decide)).symm) rfl (by rw [hs, ht.1, Bool.or_true]; rfl) rfl ((n0 (fv_none _ _ _ (by decide))).symm) (nn (fg (k := 5) w (by decide)).symm) (nn (fg (k := 6) w (by decide)).symm) (nn (fg (k := 7) w (by decide)).symm) ((n0 (fv_none _ _ _ (by decide))).symm) (by rw [immJ_no (ht.2), fv_none _ _ _ (by decide)]; rfl) (nn (fg (k := 16) w (by decide)).symm) ((n0 (fv_none _ _ _ (by decide))).symm) ((b0 (fv_none _ _ _ (by decide))).symm) ((b0 (fv_none _ _ _ (by decide))).symm) ((b0 (fv_none _ _ _ (by decide))).symm) ((n0 (by rw [fv_none _ _ _ (by decide)])).symm) ((n0 (fv_none _ _ _ (by decide))).symm) ((n0 (fv_none _ _ _ (by decide))).symm) ((n0 (fv_none _ _ _ (by decide))).symm) ((n0 (fv_none _ _ _ (by decide))).symm)
theorem fi8 {w : Nat} (hf : fitR w rp8 = true) : fiP w rj5.pat = true := (fi_kb _ _).2 (kb_sub ((fit_kb w rp8 (by decide)).1 hf) (by decide))
theorem rd9 (w : Nat) : readP rp9 w = ⟨((w / 268435456 : Nat) : Int), ((getP w 0 : Nat) : Int) + 1, getP w 1 == 1, 1, ((getP w 3 : Nat) : Int), 0, 0, 0, 0, ((0 ||| getP w 9 : Nat) : Int), 0, 0, false, false, false, 0, 0, 0, 0, 0⟩ := by kernel_rfl
theorem op9 {w : Nat} (hf : fitR w rp9 = true) : rj6.ops.contains (opJ rj6 w) = true := by
  rw [opJ_16 (by decide)]
  exact ops_of (by decide) hf (by decide)
theorem rs9 {w : Nat} (hw : w < 4294967296) (hf : fitR w rp9 = true) : readP rp9 w = sayJ rj6 w := by
  have ho := op9 hf
  have e := opJ_16 (w := w) (q := rj6) (by decide)
  have ht := tests_no ho (by decide)
  rw [e] at ht
  rw [rd9, sayJ, e]
  refine ins_eq (nn (cond_eq hw (by decide)).symm) rfl (by rw [ht.1, Bool.or_false, fg (k := 1) w (by decide)]) rfl (nn (fg (k := 3) w (by decide)).symm) ((n0 (fv_none _ _ _ (by decide))).symm) ((n0 (fv_none _ _ _ (by decide))).symm) ((n0 (fv_none _ _ _ (by decide))).symm) ((n0 (fv_none _ _ _ (by decide))).symm) (by rw [immJ_no (ht.2), fg1 (k := 9) w (by decide)]) ((n0 (fv_none _ _ _ (by decide))).symm) ((n0 (fv_none _ _ _ (by decide))).symm) ((b0 (fv_none _ _ _ (by decide))).symm) ((b0 (fv_none _ _ _ (by decide))).symm) ((b0 (fv_none _ _ _ (by decide))).symm) ((n0 (by rw [fv_none _ _ _ (by decide)])).symm) ((n0 (fv_none _ _ _ (by decide))).symm) ((n0 (fv_none _ _ _ (by decide))).symm) ((n0 (fv_none _ _ _ (by decide))).symm) ((n0 (fv_none _ _ _ (by decide))).symm)
theorem fi9 {w : Nat} (hf : fitR w rp9 = true) : fiP w rj6.pat = true := (fi_kb _ _).2 (kb_sub ((fit_kb w rp9 (by decide)).1 hf) (by decide))
theorem rd10 (w : Nat) : readP rp10 w = ⟨((w / 268435456 : Nat) : Int), ((getP w 0 : Nat) : Int) + 1, getP w 1 == 1, 2, ((getP w 3 : Nat) : Int), 0, ((getP w 6 : Nat) : Int), 0, 0, 0, ((getP w 16 : Nat) : Int), ((getP w 17 : Nat) : Int), false, false, false, 0, 0, 0, 0, 0⟩ := by kernel_rfl
theorem op10 {w : Nat} (hf : fitR w rp10 = true) : rj7.ops.contains (opJ rj7 w) = true := by
  rw [opJ_16 (by decide)]
  exact ops_of (by decide) hf (by decide)
theorem rs10 {w : Nat} (hw : w < 4294967296) (hf : fitR w rp10 = true) : readP rp10 w = sayJ rj7 w := by
  have ho := op10 hf
  have e := opJ_16 (w := w) (q := rj7) (by decide)
  have ht := tests_no ho (by decide)
  rw [e] at ht
  rw [rd10, sayJ, e]
  refine ins_eq (nn (cond_eq hw (by decide)).symm) rfl (by rw [ht.1, Bool.or_false, fg (k := 1) w (by decide)]) rfl (nn (fg (k := 3) w (by decide)).symm) ((n0 (fv_none _ _ _ (by decide))).symm) (nn (fg (k := 6) w (by decide)).symm) ((n0 (fv_none _ _ _ (by decide))).symm) ((n0 (fv_none _ _ _ (by decide))).symm) (by rw [immJ_no (ht.2), fv_none _ _ _ (by decide)]; rfl) (nn (fg (k := 16) w (by decide)).symm) (nn (fg (k := 17) w (by decide)).symm) ((b0 (fv_none _ _ _ (by decide))).symm) ((b0 (fv_none _ _ _ (by decide))).symm) ((b0 (fv_none _ _ _ (by decide))).symm) ((n0 (by rw [fv_none _ _ _ (by decide)])).symm) ((n0 (fv_none _ _ _ (by decide))).symm) ((n0 (fv_none _ _ _ (by decide))).symm) ((n0 (fv_none _ _ _ (by decide))).symm) ((n0 (fv_none _ _ _ (by decide))).symm)
theorem fi10 {w : Nat} (hf : fitR w rp10 = true) : fiP w rj7.pat = true := (fi_kb _ _).2 (kb_sub ((fit_kb w rp10 (by decide)).1 hf) (by decide))
theorem rd11 (w : Nat) : readP rp11 w = ⟨((w / 268435456 : Nat) : Int), ((getP w 0 : Nat) : Int) + 1, getP w 1 == 1, 3, ((getP w 3 : Nat) : Int), 0, ((getP w 6 : Nat) : Int), ((getP w 7 : Nat) : Int), 0, 0, ((getP w 16 : Nat) : Int), 0, false, false, false, 0, 0, 0, 0, 0⟩ := by kernel_rfl
theorem op11 {w : Nat} (hf : fitR w rp11 = true) : rj8.ops.contains (opJ rj8 w) = true := by
  rw [opJ_16 (by decide)]
  exact ops_of (by decide) hf (by decide)
theorem rs11 {w : Nat} (hw : w < 4294967296) (hf : fitR w rp11 = true) : readP rp11 w = sayJ rj8 w := by
  have ho := op11 hf
  have e := opJ_16 (w := w) (q := rj8) (by decide)
  have ht := tests_no ho (by decide)
  rw [e] at ht
  rw [rd11, sayJ, e]
  refine ins_eq (nn (cond_eq hw (by decide)).symm) rfl (by rw [ht.1, Bool.or_false, fg (k := 1) w (by decide)]) rfl (nn (fg (k := 3) w (by decide)).symm) ((n0 (fv_none _ _ _ (by decide))).symm) (nn (fg (k := 6) w (by decide)).symm) (nn (fg (k := 7) w (by decide)).symm) ((n0 (fv_none _ _ _ (by decide))).symm) (by rw [immJ_no (ht.2), fv_none _ _ _ (by decide)]; rfl) (nn (fg (k := 16) w (by decide)).symm) ((n0 (fv_none _ _ _ (by decide))).symm) ((b0 (fv_none _ _ _ (by decide))).symm) ((b0 (fv_none _ _ _ (by decide))).symm) ((b0 (fv_none _ _ _ (by decide))).symm) ((n0 (by rw [fv_none _ _ _ (by decide)])).symm) ((n0 (fv_none _ _ _ (by decide))).symm) ((n0 (fv_none _ _ _ (by decide))).symm) ((n0 (fv_none _ _ _ (by decide))).symm) ((n0 (fv_none _ _ _ (by decide))).symm)
theorem fi11 {w : Nat} (hf : fitR w rp11 = true) : fiP w rj8.pat = true := (fi_kb _ _).2 (kb_sub ((fit_kb w rp11 (by decide)).1 hf) (by decide))
theorem rd12 (w : Nat) : readP rp12 w = ⟨((w / 268435456 : Nat) : Int), 17, false, 0, ((getP w 3 : Nat) : Int), 0, 0, 0, 0, (((0 ||| getP w 9) ||| getP w 15 : Nat) : Int), 0, 0, false, false, false, 0, 0, 0, 0, 0⟩ := by kernel_rfl
theorem op12 {w : Nat} (hf : fitR w rp12 = true) : rj9.ops.contains (opJ rj9 w) = true := by
  rw [opJ_1 (by decide)]; decide
theorem rs12 {w : Nat} (hw : w < 4294967296) (hf : fitR w rp12 = true) : readP rp12 w = sayJ rj9 w := by
  have ho := op12 hf
  have e := opJ_1 (w := w) (q := rj9) (by decide)
  rw [rd12, sayJ, e]
  refine ins_eq (nn (cond_eq hw (by decide)).symm) rfl (by rw [show tests _ = false from rfl, Bool.or_false, fv_none _ _ _ (by decide)]; rfl) rfl (nn (fg (k := 3) w (by decide)).symm) ((n0 (fv_none _ _ _ (by decide))).symm) ((n0 (fv_none _ _ _ (by decide))).symm) ((n0 (fv_none _ _ _ (by decide))).symm) ((n0 (fv_none _ _ _ (by decide))).symm) (by rw [immJ_no (show isB _ = false from rfl), fg2 (k := 9) (k' := 15) w (by decide)]) ((n0 (fv_none _ _ _ (by decide))).symm) ((n0 (fv_none _ _ _ (by decide))).symm) ((b0 (fv_none _ _ _ (by decide))).symm) ((b0 (fv_none _ _ _ (by decide))).symm) ((b0 (fv_none _ _ _ (by decide))).symm) ((n0 (by rw [fv_none _ _ _ (by decide)])).symm) ((n0 (fv_none _ _ _ (by decide))).symm) ((n0 (fv_none _ _ _ (by decide))).symm) ((n0 (fv_none _ _ _ (by decide))).symm) ((n0 (fv_none _ _ _ (by decide))).symm)
theorem fi12 {w : Nat} (hf : fitR w rp12 = true) : fiP w rj9.pat = true := (fi_kb _ _).2 (kb_sub ((fit_kb w rp12 (by decide)).1 hf) (by decide))
theorem rd13 (w : Nat) : readP rp13 w = ⟨((w / 268435456 : Nat) : Int), 18, false, 0, ((getP w 3 : Nat) : Int), 0, 0, 0, 0, (((0 ||| getP w 9) ||| getP w 15 : Nat) : Int), 0, 0, false, false, false, 0, 0, 0, 0, 0⟩ := by kernel_rfl
theorem op13 {w : Nat} (hf : fitR w rp13 = true) : rj10.ops.contains (opJ rj10 w) = true := by
  rw [opJ_1 (by decide)]; decide
theorem rs13 {w : Nat} (hw : w < 4294967296) (hf : fitR w rp13 = true) : readP rp13 w = sayJ rj10 w := by
  have ho := op13 hf
  have e := opJ_1 (w := w) (q := rj10) (by decide)
  rw [rd13, sayJ, e]
  refine ins_eq (nn (cond_eq hw (by decide)).symm) rfl (by rw [show tests _ = false from rfl, Bool.or_false, fv_none _ _ _ (by decide)]; rfl) rfl (nn (fg (k := 3) w (by decide)).symm) ((n0 (fv_none _ _ _ (by decide))).symm) ((n0 (fv_none _ _ _ (by decide))).symm) ((n0 (fv_none _ _ _ (by decide))).symm) ((n0 (fv_none _ _ _ (by decide))).symm) (by rw [immJ_no (show isB _ = false from rfl), fg2 (k := 9) (k' := 15) w (by decide)]) ((n0 (fv_none _ _ _ (by decide))).symm) ((n0 (fv_none _ _ _ (by decide))).symm) ((b0 (fv_none _ _ _ (by decide))).symm) ((b0 (fv_none _ _ _ (by decide))).symm) ((b0 (fv_none _ _ _ (by decide))).symm) ((n0 (by rw [fv_none _ _ _ (by decide)])).symm) ((n0 (fv_none _ _ _ (by decide))).symm) ((n0 (fv_none _ _ _ (by decide))).symm) ((n0 (fv_none _ _ _ (by decide))).symm) ((n0 (fv_none _ _ _ (by decide))).symm)
theorem fi13 {w : Nat} (hf : fitR w rp13 = true) : fiP w rj10.pat = true := (fi_kb _ _).2 (kb_sub ((fit_kb w rp13 (by decide)).1 hf) (by decide))
theorem rd14 (w : Nat) : readP rp14 w = ⟨((w / 268435456 : Nat) : Int), 19, getP w 1 == 1, 0, ((getP w 4 : Nat) : Int), 0, ((getP w 6 : Nat) : Int), ((getP w 7 : Nat) : Int), 0, 0, 0, 0, false, false, false, 0, 0, 0, 0, 0⟩ := by kernel_rfl
theorem op14 {w : Nat} (hf : fitR w rp14 = true) : rj11.ops.contains (opJ rj11 w) = true := by
  rw [opJ_1 (by decide)]; decide
theorem rs14 {w : Nat} (hw : w < 4294967296) (hf : fitR w rp14 = true) : readP rp14 w = sayJ rj11 w := by
  have ho := op14 hf
  have e := opJ_1 (w := w) (q := rj11) (by decide)
  rw [rd14, sayJ, e]
  refine ins_eq (nn (cond_eq hw (by decide)).symm) rfl (by rw [show tests _ = false from rfl, Bool.or_false, fg (k := 1) w (by decide)]) rfl (nn (fg (k := 4) w (by decide)).symm) ((n0 (fv_none _ _ _ (by decide))).symm) (nn (fg (k := 6) w (by decide)).symm) (nn (fg (k := 7) w (by decide)).symm) ((n0 (fv_none _ _ _ (by decide))).symm) (by rw [immJ_no (show isB _ = false from rfl), fv_none _ _ _ (by decide)]; rfl) ((n0 (fv_none _ _ _ (by decide))).symm) ((n0 (fv_none _ _ _ (by decide))).symm) ((b0 (fv_none _ _ _ (by decide))).symm) ((b0 (fv_none _ _ _ (by decide))).symm) ((b0 (fv_none _ _ _ (by decide))).symm) ((n0 (by rw [fv_none _ _ _ (by decide)])).symm) ((n0 (fv_none _ _ _ (by decide))).symm) ((n0 (fv_none _ _ _ (by decide))).symm) ((n0 (fv_none _ _ _ (by decide))).symm) ((n0 (fv_none _ _ _ (by decide))).symm)
theorem fi14 {w : Nat} (hf : fitR w rp14 = true) : fiP w rj11.pat = true := (fi_kb _ _).2 (kb_sub ((fit_kb w rp14 (by decide)).1 hf) (by decide))
theorem rd15 (w : Nat) : readP rp15 w = ⟨((w / 268435456 : Nat) : Int), 20, getP w 1 == 1, 0, ((getP w 4 : Nat) : Int), 0, ((getP w 6 : Nat) : Int), ((getP w 7 : Nat) : Int), ((getP w 8 : Nat) : Int), 0, 0, 0, false, false, false, 0, 0, 0, 0, 0⟩ := by kernel_rfl
theorem op15 {w : Nat} (hf : fitR w rp15 = true) : rj12.ops.contains (opJ rj12 w) = true := by
  rw [opJ_1 (by decide)]; decide
theorem rs15 {w : Nat} (hw : w < 4294967296) (hf : fitR w rp15 = true) : readP rp15 w = sayJ rj12 w := by
  have ho := op15 hf
  have e := opJ_1 (w := w) (q := rj12) (by decide)
  rw [rd15, sayJ, e]
  refine ins_eq (nn (cond_eq hw (by decide)).symm) rfl (by rw [show tests _ = false from rfl, Bool.or_false, fg (k := 1) w (by decide)]) rfl (nn (fg (k := 4) w (by decide)).symm) ((n0 (fv_none _ _ _ (by decide))).symm) (nn (fg (k := 6) w (by decide)).symm) (nn (fg (k := 7) w (by decide)).symm) (nn (fg (k := 8) w (by decide)).symm) (by rw [immJ_no (show isB _ = false from rfl), fv_none _ _ _ (by decide)]; rfl) ((n0 (fv_none _ _ _ (by decide))).symm) ((n0 (fv_none _ _ _ (by decide))).symm) ((b0 (fv_none _ _ _ (by decide))).symm) ((b0 (fv_none _ _ _ (by decide))).symm) ((b0 (fv_none _ _ _ (by decide))).symm) ((n0 (by rw [fv_none _ _ _ (by decide)])).symm) ((n0 (fv_none _ _ _ (by decide))).symm) ((n0 (fv_none _ _ _ (by decide))).symm) ((n0 (fv_none _ _ _ (by decide))).symm) ((n0 (fv_none _ _ _ (by decide))).symm)
theorem fi15 {w : Nat} (hf : fitR w rp15 = true) : fiP w rj12.pat = true := (fi_kb _ _).2 (kb_sub ((fit_kb w rp15 (by decide)).1 hf) (by decide))
theorem rd16 (w : Nat) : readP rp16 w = ⟨((w / 268435456 : Nat) : Int), 21, getP w 1 == 1, 0, ((getP w 4 : Nat) : Int), 0, ((getP w 6 : Nat) : Int), ((getP w 7 : Nat) : Int), ((getP w 8 : Nat) : Int), 0, 0, 0, false, false, false, 0, 0, 0, 0, 0⟩ := by kernel_rfl
theorem op16 {w : Nat} (hf : fitR w rp16 = true) : rj13.ops.contains (opJ rj13 w) = true := by
  rw [opJ_1 (by decide)]; decide
theorem rs16 {w : Nat} (hw : w < 4294967296) (hf : fitR w rp16 = true) : readP rp16 w = sayJ rj13 w := by
  have ho := op16 hf
  have e := opJ_1 (w := w) (q := rj13) (by decide)
  rw [rd16, sayJ, e]
  refine ins_eq (nn (cond_eq hw (by decide)).symm) rfl (by rw [show tests _ = false from rfl, Bool.or_false, fg (k := 1) w (by decide)]) rfl (nn (fg (k := 4) w (by decide)).symm) ((n0 (fv_none _ _ _ (by decide))).symm) (nn (fg (k := 6) w (by decide)).symm) (nn (fg (k := 7) w (by decide)).symm) (nn (fg (k := 8) w (by decide)).symm) (by rw [immJ_no (show isB _ = false from rfl), fv_none _ _ _ (by decide)]; rfl) ((n0 (fv_none _ _ _ (by decide))).symm) ((n0 (fv_none _ _ _ (by decide))).symm) ((b0 (fv_none _ _ _ (by decide))).symm) ((b0 (fv_none _ _ _ (by decide))).symm) ((b0 (fv_none _ _ _ (by decide))).symm) ((n0 (by rw [fv_none _ _ _ (by decide)])).symm) ((n0 (fv_none _ _ _ (by decide))).symm) ((n0 (fv_none _ _ _ (by decide))).symm) ((n0 (fv_none _ _ _ (by decide))).symm) ((n0 (fv_none _ _ _ (by decide))).symm)
theorem fi16 {w : Nat} (hf : fitR w rp16 = true) : fiP w rj13.pat = true := (fi_kb _ _).2 (kb_sub ((fit_kb w rp16 (by decide)).1 hf) (by decide))
theorem rd17 (w : Nat) : readP rp17 w = ⟨((w / 268435456 : Nat) : Int), 22, getP w 1 == 1, 0, ((getP w 4 : Nat) : Int), 0, ((getP w 6 : Nat) : Int), ((getP w 7 : Nat) : Int), ((getP w 8 : Nat) : Int), 0, 0, 0, false, false, false, 0, 0, 0, 0, 0⟩ := by kernel_rfl
theorem op17 {w : Nat} (hf : fitR w rp17 = true) : rj14.ops.contains (opJ rj14 w) = true := by
  rw [opJ_1 (by decide)]; decide
theorem rs17 {w : Nat} (hw : w < 4294967296) (hf : fitR w rp17 = true) : readP rp17 w = sayJ rj14 w := by
  have ho := op17 hf
  have e := opJ_1 (w := w) (q := rj14) (by decide)
  rw [rd17, sayJ, e]
  refine ins_eq (nn (cond_eq hw (by decide)).symm) rfl (by rw [show tests _ = false from rfl, Bool.or_false, fg (k := 1) w (by decide)]) rfl (nn (fg (k := 4) w (by decide)).symm) ((n0 (fv_none _ _ _ (by decide))).symm) (nn (fg (k := 6) w (by decide)).symm) (nn (fg (k := 7) w (by decide)).symm) (nn (fg (k := 8) w (by decide)).symm) (by rw [immJ_no (show isB _ = false from rfl), fv_none _ _ _ (by decide)]; rfl) ((n0 (fv_none _ _ _ (by decide))).symm) ((n0 (fv_none _ _ _ (by decide))).symm) ((b0 (fv_none _ _ _ (by decide))).symm) ((b0 (fv_none _ _ _ (by decide))).symm) ((b0 (fv_none _ _ _ (by decide))).symm) ((n0 (by rw [fv_none _ _ _ (by decide)])).symm) ((n0 (fv_none _ _ _ (by decide))).symm) ((n0 (fv_none _ _ _ (by decide))).symm) ((n0 (fv_none _ _ _ (by decide))).symm) ((n0 (fv_none _ _ _ (by decide))).symm)
theorem fi17 {w : Nat} (hf : fitR w rp17 = true) : fiP w rj14.pat = true := (fi_kb _ _).2 (kb_sub ((fit_kb w rp17 (by decide)).1 hf) (by decide))
theorem rd18 (w : Nat) : readP rp18 w = ⟨((w / 268435456 : Nat) : Int), 23, getP w 1 == 1, 0, ((getP w 4 : Nat) : Int), 0, ((getP w 6 : Nat) : Int), ((getP w 7 : Nat) : Int), ((getP w 8 : Nat) : Int), 0, 0, 0, false, false, false, 0, 0, 0, 0, 0⟩ := by kernel_rfl
theorem op18 {w : Nat} (hf : fitR w rp18 = true) : rj15.ops.contains (opJ rj15 w) = true := by
  rw [opJ_1 (by decide)]; decide
theorem rs18 {w : Nat} (hw : w < 4294967296) (hf : fitR w rp18 = true) : readP rp18 w = sayJ rj15 w := by
  have ho := op18 hf
  have e := opJ_1 (w := w) (q := rj15) (by decide)
  rw [rd18, sayJ, e]
  refine ins_eq (nn (cond_eq hw (by decide)).symm) rfl (by rw [show tests _ = false from rfl, Bool.or_false, fg (k := 1) w (by decide)]) rfl (nn (fg (k := 4) w (by decide)).symm) ((n0 (fv_none _ _ _ (by decide))).symm) (nn (fg (k := 6) w (by decide)).symm) (nn (fg (k := 7) w (by decide)).symm) (nn (fg (k := 8) w (by decide)).symm) (by rw [immJ_no (show isB _ = false from rfl), fv_none _ _ _ (by decide)]; rfl) ((n0 (fv_none _ _ _ (by decide))).symm) ((n0 (fv_none _ _ _ (by decide))).symm) ((b0 (fv_none _ _ _ (by decide))).symm) ((b0 (fv_none _ _ _ (by decide))).symm) ((b0 (fv_none _ _ _ (by decide))).symm) ((n0 (by rw [fv_none _ _ _ (by decide)])).symm) ((n0 (fv_none _ _ _ (by decide))).symm) ((n0 (fv_none _ _ _ (by decide))).symm) ((n0 (fv_none _ _ _ (by decide))).symm) ((n0 (fv_none _ _ _ (by decide))).symm)
theorem fi18 {w : Nat} (hf : fitR w rp18 = true) : fiP w rj15.pat = true := (fi_kb _ _).2 (kb_sub ((fit_kb w rp18 (by decide)).1 hf) (by decide))
theorem rd19 (w : Nat) : readP rp19 w = ⟨((w / 268435456 : Nat) : Int), 24, getP w 1 == 1, 0, ((getP w 4 : Nat) : Int), 0, ((getP w 6 : Nat) : Int), ((getP w 7 : Nat) : Int), ((getP w 8 : Nat) : Int), 0, 0, 0, false, false, false, 0, 0, 0, 0, 0⟩ := by kernel_rfl
theorem op19 {w : Nat} (hf : fitR w rp19 = true) : rj16.ops.contains (opJ rj16 w) = true := by
  rw [opJ_1 (by decide)]; decide
theorem rs19 {w : Nat} (hw : w < 4294967296) (hf : fitR w rp19 = true) : readP rp19 w = sayJ rj16 w := by
  have ho := op19 hf
  have e := opJ_1 (w := w) (q := rj16) (by decide)
  rw [rd19, sayJ, e]
  refine ins_eq (nn (cond_eq hw (by decide)).symm) rfl (by rw [show tests _ = false from rfl, Bool.or_false, fg (k := 1) w (by decide)]) rfl (nn (fg (k := 4) w (by decide)).symm) ((n0 (fv_none _ _ _ (by decide))).symm) (nn (fg (k := 6) w (by decide)).symm) (nn (fg (k := 7) w (by decide)).symm) (nn (fg (k := 8) w (by decide)).symm) (by rw [immJ_no (show isB _ = false from rfl), fv_none _ _ _ (by decide)]; rfl) ((n0 (fv_none _ _ _ (by decide))).symm) ((n0 (fv_none _ _ _ (by decide))).symm) ((b0 (fv_none _ _ _ (by decide))).symm) ((b0 (fv_none _ _ _ (by decide))).symm) ((b0 (fv_none _ _ _ (by decide))).symm) ((n0 (by rw [fv_none _ _ _ (by decide)])).symm) ((n0 (fv_none _ _ _ (by decide))).symm) ((n0 (fv_none _ _ _ (by decide))).symm) ((n0 (fv_none _ _ _ (by decide))).symm) ((n0 (fv_none _ _ _ (by decide))).symm)
theorem fi19 {w : Nat} (hf : fitR w rp19 = true) : fiP w rj16.pat = true := (fi_kb _ _).2 (kb_sub ((fit_kb w rp19 (by decide)).1 hf) (by decide))
theorem rd20 (w : Nat) : readP rp20 w = ⟨((w / 268435456 : Nat) : Int), 25, false, 0, ((getP w 3 : Nat) : Int), 0, ((getP w 6 : Nat) : Int), 0, 0, 0, 0, 0, false, false, false, 0, 0, 0, 0, 0⟩ := by kernel_rfl
theorem op20 {w : Nat} (hf : fitR w rp20 = true) : rj17.ops.contains (opJ rj17 w) = true := by
  rw [opJ_1 (by decide)]; decide
theorem rs20 {w : Nat} (hw : w < 4294967296) (hf : fitR w rp20 = true) : readP rp20 w = sayJ rj17 w := by
  have ho := op20 hf
  have e := opJ_1 (w := w) (q := rj17) (by decide)
  rw [rd20, sayJ, e]
  refine ins_eq (nn (cond_eq hw (by decide)).symm) rfl (by rw [show tests _ = false from rfl, Bool.or_false, fv_none _ _ _ (by decide)]; rfl) rfl (nn (fg (k := 3) w (by decide)).symm) ((n0 (fv_none _ _ _ (by decide))).symm) (nn (fg (k := 6) w (by decide)).symm) ((n0 (fv_none _ _ _ (by decide))).symm) ((n0 (fv_none _ _ _ (by decide))).symm) (by rw [immJ_no (show isB _ = false from rfl), fv_none _ _ _ (by decide)]; rfl) ((n0 (fv_none _ _ _ (by decide))).symm) ((n0 (fv_none _ _ _ (by decide))).symm) ((b0 (fv_none _ _ _ (by decide))).symm) ((b0 (fv_none _ _ _ (by decide))).symm) ((b0 (fv_none _ _ _ (by decide))).symm) ((n0 (by rw [fv_none _ _ _ (by decide)])).symm) ((n0 (fv_none _ _ _ (by decide))).symm) ((n0 (fv_none _ _ _ (by decide))).symm) ((n0 (fv_none _ _ _ (by decide))).symm) ((n0 (fv_none _ _ _ (by decide))).symm)
theorem fi20 {w : Nat} (hf : fitR w rp20 = true) : fiP w rj17.pat = true := (fi_kb _ _).2 (kb_sub ((fit_kb w rp20 (by decide)).1 hf) (by decide))
theorem rd21 (w : Nat) : readP rp21 w = ⟨((w / 268435456 : Nat) : Int), 35, false, 1, ((getP w 3 : Nat) : Int), ((getP w 5 : Nat) : Int), 0, 0, 0, (((0 ||| getP w 12) ||| getP w 13 : Nat) : Int), 0, 0, getP w 20 == 1, getP w 21 == 1, getP w 22 == 1, 0, 0, 0, 0, 0⟩ := by kernel_rfl
theorem op21 {w : Nat} (hf : fitR w rp21 = true) : rj44.ops.contains (opJ rj44 w) = true := by
  rw [opJ_1 (by decide)]; decide
theorem rs21 {w : Nat} (hw : w < 4294967296) (hf : fitR w rp21 = true) : readP rp21 w = sayJ rj44 w := by
  have ho := op21 hf
  have e := opJ_1 (w := w) (q := rj44) (by decide)
  rw [rd21, sayJ, e]
  refine ins_eq (nn (cond_eq hw (by decide)).symm) rfl (by rw [show tests _ = false from rfl, Bool.or_false, fv_none _ _ _ (by decide)]; rfl) rfl (nn (fg (k := 3) w (by decide)).symm) (nn (fg (k := 5) w (by decide)).symm) ((n0 (fv_none _ _ _ (by decide))).symm) ((n0 (fv_none _ _ _ (by decide))).symm) ((n0 (fv_none _ _ _ (by decide))).symm) (by rw [immJ_no (show isB _ = false from rfl), fg2 (k := 12) (k' := 13) w (by decide)]) ((n0 (fv_none _ _ _ (by decide))).symm) ((n0 (fv_none _ _ _ (by decide))).symm) (bb (fg (k := 20) w (by decide)).symm) (bb (fg (k := 21) w (by decide)).symm) (bb (fg (k := 22) w (by decide)).symm) ((n0 (by rw [fv_none _ _ _ (by decide)])).symm) ((n0 (fv_none _ _ _ (by decide))).symm) ((n0 (fv_none _ _ _ (by decide))).symm) ((n0 (fv_none _ _ _ (by decide))).symm) ((n0 (fv_none _ _ _ (by decide))).symm)
theorem fi21 {w : Nat} (hf : fitR w rp21 = true) : fiP w rj44.pat = true := (fi_kb _ _).2 (kb_sub ((fit_kb w rp21 (by decide)).1 hf) (by decide))
theorem rd22 (w : Nat) : readP rp22 w = ⟨((w / 268435456 : Nat) : Int), 36, false, 1, ((getP w 3 : Nat) : Int), ((getP w 5 : Nat) : Int), 0, 0, 0, (((0 ||| getP w 12) ||| getP w 13 : Nat) : Int), 0, 0, getP w 20 == 1, getP w 21 == 1, getP w 22 == 1, 0, 0, 0, 0, 0⟩ := by kernel_rfl
theorem op22 {w : Nat} (hf : fitR w rp22 = true) : rj45.ops.contains (opJ rj45 w) = true := by
  rw [opJ_1 (by decide)]; decide
theorem rs22 {w : Nat} (hw : w < 4294967296) (hf : fitR w rp22 = true) : readP rp22 w = sayJ rj45 w := by
  have ho := op22 hf
  have e := opJ_1 (w := w) (q := rj45) (by decide)
  rw [rd22, sayJ, e]
  refine ins_eq (nn (cond_eq hw (by decide)).symm) rfl (by rw [show tests _ = false from rfl, Bool.or_false, fv_none _ _ _ (by decide)]; rfl) rfl (nn (fg (k := 3) w (by decide)).symm) (nn (fg (k := 5) w (by decide)).symm) ((n0 (fv_none _ _ _ (by decide))).symm) ((n0 (fv_none _ _ _ (by decide))).symm) ((n0 (fv_none _ _ _ (by decide))).symm) (by rw [immJ_no (show isB _ = false from rfl), fg2 (k := 12) (k' := 13) w (by decide)]) ((n0 (fv_none _ _ _ (by decide))).symm) ((n0 (fv_none _ _ _ (by decide))).symm) (bb (fg (k := 20) w (by decide)).symm) (bb (fg (k := 21) w (by decide)).symm) (bb (fg (k := 22) w (by decide)).symm) ((n0 (by rw [fv_none _ _ _ (by decide)])).symm) ((n0 (fv_none _ _ _ (by decide))).symm) ((n0 (fv_none _ _ _ (by decide))).symm) ((n0 (fv_none _ _ _ (by decide))).symm) ((n0 (fv_none _ _ _ (by decide))).symm)
theorem fi22 {w : Nat} (hf : fitR w rp22 = true) : fiP w rj45.pat = true := (fi_kb _ _).2 (kb_sub ((fit_kb w rp22 (by decide)).1 hf) (by decide))
theorem rd23 (w : Nat) : readP rp23 w = ⟨((w / 268435456 : Nat) : Int), 37, false, 1, ((getP w 3 : Nat) : Int), ((getP w 5 : Nat) : Int), 0, 0, 0, (((0 ||| getP w 12) ||| getP w 13 : Nat) : Int), 0, 0, getP w 20 == 1, getP w 21 == 1, getP w 22 == 1, 0, 0, 0, 0, 0⟩ := by kernel_rfl
theorem op23 {w : Nat} (hf : fitR w rp23 = true) : rj46.ops.contains (opJ rj46 w) = true := by
  rw [opJ_1 (by decide)]; decide
theorem rs23 {w : Nat} (hw : w < 4294967296) (hf : fitR w rp23 = true) : readP rp23 w = sayJ rj46 w := by
  have ho := op23 hf
  have e := opJ_1 (w := w) (q := rj46) (by decide)
  rw [rd23, sayJ, e]
  refine ins_eq (nn (cond_eq hw (by decide)).symm) rfl (by rw [show tests _ = false from rfl, Bool.or_false, fv_none _ _ _ (by decide)]; rfl) rfl (nn (fg (k := 3) w (by decide)).symm) (nn (fg (k := 5) w (by decide)).symm) ((n0 (fv_none _ _ _ (by decide))).symm) ((n0 (fv_none _ _ _ (by decide))).symm) ((n0 (fv_none _ _ _ (by decide))).symm) (by rw [immJ_no (show isB _ = false from rfl), fg2 (k := 12) (k' := 13) w (by decide)]) ((n0 (fv_none _ _ _ (by decide))).symm) ((n0 (fv_none _ _ _ (by decide))).symm) (bb (fg (k := 20) w (by decide)).symm) (bb (fg (k := 21) w (by decide)).symm) (bb (fg (k := 22) w (by decide)).symm) ((n0 (by rw [fv_none _ _ _ (by decide)])).symm) ((n0 (fv_none _ _ _ (by decide))).symm) ((n0 (fv_none _ _ _ (by decide))).symm) ((n0 (fv_none _ _ _ (by decide))).symm) ((n0 (fv_none _ _ _ (by decide))).symm)
theorem fi23 {w : Nat} (hf : fitR w rp23 = true) : fiP w rj46.pat = true := (fi_kb _ _).2 (kb_sub ((fit_kb w rp23 (by decide)).1 hf) (by decide))
theorem rd24 (w : Nat) : readP rp24 w = ⟨((w / 268435456 : Nat) : Int), 38, false, 1, ((getP w 3 : Nat) : Int), ((getP w 5 : Nat) : Int), 0, 0, 0, (((0 ||| getP w 12) ||| getP w 13 : Nat) : Int), 0, 0, getP w 20 == 1, getP w 21 == 1, getP w 22 == 1, 0, 0, 0, 0, 0⟩ := by kernel_rfl
theorem op24 {w : Nat} (hf : fitR w rp24 = true) : rj47.ops.contains (opJ rj47 w) = true := by
  rw [opJ_1 (by decide)]; decide
theorem rs24 {w : Nat} (hw : w < 4294967296) (hf : fitR w rp24 = true) : readP rp24 w = sayJ rj47 w := by
  have ho := op24 hf
  have e := opJ_1 (w := w) (q := rj47) (by decide)
  rw [rd24, sayJ, e]
  refine ins_eq (nn (cond_eq hw (by decide)).symm) rfl (by rw [show tests _ = false from rfl, Bool.or_false, fv_none _ _ _ (by decide)]; rfl) rfl (nn (fg (k := 3) w (by decide)).symm) (nn (fg (k := 5) w (by decide)).symm) ((n0 (fv_none _ _ _ (by decide))).symm) ((n0 (fv_none _ _ _ (by decide))).symm) ((n0 (fv_none _ _ _ (by decide))).symm) (by rw [immJ_no (show isB _ = false from rfl), fg2 (k := 12) (k' := 13) w (by decide)]) ((n0 (fv_none _ _ _ (by decide))).symm) ((n0 (fv_none _ _ _ (by decide))).symm) (bb (fg (k := 20) w (by decide)).symm) (bb (fg (k := 21) w (by decide)).symm) (bb (fg (k := 22) w (by decide)).symm) ((n0 (by rw [fv_none _ _ _ (by decide)])).symm) ((n0 (fv_none _ _ _ (by decide))).symm) ((n0 (fv_none _ _ _ (by decide))).symm) ((n0 (fv_none _ _ _ (by decide))).symm) ((n0 (fv_none _ _ _ (by decide))).symm)
theorem fi24 {w : Nat} (hf : fitR w rp24 = true) : fiP w rj47.pat = true := (fi_kb _ _).2 (kb_sub ((fit_kb w rp24 (by decide)).1 hf) (by decide))
theorem rd25 (w : Nat) : readP rp25 w = ⟨((w / 268435456 : Nat) : Int), 35, false, 2, ((getP w 3 : Nat) : Int), ((getP w 5 : Nat) : Int), ((getP w 6 : Nat) : Int), 0, 0, 0, 0, 0, getP w 20 == 1, getP w 21 == 1, getP w 22 == 1, 0, 0, 0, 0, 0⟩ := by kernel_rfl
theorem op25 {w : Nat} (hf : fitR w rp25 = true) : rj48.ops.contains (opJ rj48 w) = true := by
  rw [opJ_1 (by decide)]; decide
theorem rs25 {w : Nat} (hw : w < 4294967296) (hf : fitR w rp25 = true) : readP rp25 w = sayJ rj48 w := by
  have ho := op25 hf
  have e := opJ_1 (w := w) (q := rj48) (by decide)
  rw [rd25, sayJ, e]
  refine ins_eq (nn (cond_eq hw (by decide)).symm) rfl (by rw [show tests _ = false from rfl, Bool.or_false, fv_none _ _ _ (by decide)]; rfl) rfl (nn (fg (k := 3) w (by decide)).symm) (nn (fg (k := 5) w (by decide)).symm) (nn (fg (k := 6) w (by decide)).symm) ((n0 (fv_none _ _ _ (by decide))).symm) ((n0 (fv_none _ _ _ (by decide))).symm) (by rw [immJ_no (show isB _ = false from rfl), fv_none _ _ _ (by decide)]; rfl) ((n0 (fv_none _ _ _ (by decide))).symm) ((n0 (fv_none _ _ _ (by decide))).symm) (bb (fg (k := 20) w (by decide)).symm) (bb (fg (k := 21) w (by decide)).symm) (bb (fg (k := 22) w (by decide)).symm) ((n0 (by rw [fv_none _ _ _ (by decide)])).symm) ((n0 (fv_none _ _ _ (by decide))).symm) ((n0 (fv_none _ _ _ (by decide))).symm) ((n0 (fv_none _ _ _ (by decide))).symm) ((n0 (fv_none _ _ _ (by decide))).symm)
theorem fi25 {w : Nat} (hf : fitR w rp25 = true) : fiP w rj48.pat = true := (fi_kb _ _).2 (kb_sub ((fit_kb w rp25 (by decide)).1 hf) (by decide))
theorem rd26 (w : Nat) : readP rp26 w = ⟨((w / 268435456 : Nat) : Int), 36, false, 2, ((getP w 3 : Nat) : Int), ((getP w 5 : Nat) : Int), ((getP w 6 : Nat) : Int), 0, 0, 0, 0, 0, getP w 20 == 1, getP w 21 == 1, getP w 22 == 1, 0, 0, 0, 0, 0⟩ := by kernel_rfl
theorem op26 {w : Nat} (hf : fitR w rp26 = true) : rj49.ops.contains (opJ rj49 w) = true := by
  rw [opJ_1 (by decide)]; decide
theorem rs26 {w : Nat} (hw : w < 4294967296) (hf : fitR w rp26 = true) : readP rp26 w = sayJ rj49 w := by
  have ho := op26 hf
  have e := opJ_1 (w := w) (q := rj49) (by decide)
  rw [rd26, sayJ, e]
  refine ins_eq (nn (cond_eq hw (by decide)).symm) rfl (by rw [show tests _ = false from rfl, Bool.or_false, fv_none _ _ _ (by decide)]; rfl) rfl (nn (fg (k := 3) w (by decide)).symm) (nn (fg (k := 5) w (by decide)).symm) (nn (fg (k := 6) w (by decide)).symm) ((n0 (fv_none _ _ _ (by decide))).symm) ((n0 (fv_none _ _ _ (by decide))).symm) (by rw [immJ_no (show isB _ = false from rfl), fv_none _ _ _ (by decide)]; rfl) ((n0 (fv_none _ _ _ (by decide))).symm) ((n0 (fv_none _ _ _ (by decide))).symm) (bb (fg (k := 20) w (by decide)).symm) (bb (fg (k := 21) w (by decide)).symm) (bb (fg (k := 22) w (by decide)).symm) ((n0 (by rw [fv_none _ _ _ (by decide)])).symm) ((n0 (fv_none _ _ _ (by decide))).symm) ((n0 (fv_none _ _ _ (by decide))).symm) ((n0 (fv_none _ _ _ (by decide))).symm) ((n0 (fv_none _ _ _ (by decide))).symm)
theorem fi26 {w : Nat} (hf : fitR w rp26 = true) : fiP w rj49.pat = true := (fi_kb _ _).2 (kb_sub ((fit_kb w rp26 (by decide)).1 hf) (by decide))
theorem rd27 (w : Nat) : readP rp27 w = ⟨((w / 268435456 : Nat) : Int), 37, false, 2, ((getP w 3 : Nat) : Int), ((getP w 5 : Nat) : Int), ((getP w 6 : Nat) : Int), 0, 0, 0, 0, 0, getP w 20 == 1, getP w 21 == 1, getP w 22 == 1, 0, 0, 0, 0, 0⟩ := by kernel_rfl
theorem op27 {w : Nat} (hf : fitR w rp27 = true) : rj50.ops.contains (opJ rj50 w) = true := by
  rw [opJ_1 (by decide)]; decide
theorem rs27 {w : Nat} (hw : w < 4294967296) (hf : fitR w rp27 = true) : readP rp27 w = sayJ rj50 w := by
  have ho := op27 hf
  have e := opJ_1 (w := w) (q := rj50) (by decide)
  rw [rd27, sayJ, e]
  refine ins_eq (nn (cond_eq hw (by decide)).symm) rfl (by rw [show tests _ = false from rfl, Bool.or_false, fv_none _ _ _ (by decide)]; rfl) rfl (nn (fg (k := 3) w (by decide)).symm) (nn (fg (k := 5) w (by decide)).symm) (nn (fg (k := 6) w (by decide)).symm) ((n0 (fv_none _ _ _ (by decide))).symm) ((n0 (fv_none _ _ _ (by decide))).symm) (by rw [immJ_no (show isB _ = false from rfl), fv_none _ _ _ (by decide)]; rfl) ((n0 (fv_none _ _ _ (by decide))).symm) ((n0 (fv_none _ _ _ (by decide))).symm) (bb (fg (k := 20) w (by decide)).symm) (bb (fg (k := 21) w (by decide)).symm) (bb (fg (k := 22) w (by decide)).symm) ((n0 (by rw [fv_none _ _ _ (by decide)])).symm) ((n0 (fv_none _ _ _ (by decide))).symm) ((n0 (fv_none _ _ _ (by decide))).symm) ((n0 (fv_none _ _ _ (by decide))).symm) ((n0 (fv_none _ _ _ (by decide))).symm)
theorem fi27 {w : Nat} (hf : fitR w rp27 = true) : fiP w rj50.pat = true := (fi_kb _ _).2 (kb_sub ((fit_kb w rp27 (by decide)).1 hf) (by decide))
theorem rd28 (w : Nat) : readP rp28 w = ⟨((w / 268435456 : Nat) : Int), 38, false, 2, ((getP w 3 : Nat) : Int), ((getP w 5 : Nat) : Int), ((getP w 6 : Nat) : Int), 0, 0, 0, 0, 0, getP w 20 == 1, getP w 21 == 1, getP w 22 == 1, 0, 0, 0, 0, 0⟩ := by kernel_rfl
theorem op28 {w : Nat} (hf : fitR w rp28 = true) : rj51.ops.contains (opJ rj51 w) = true := by
  rw [opJ_1 (by decide)]; decide
theorem rs28 {w : Nat} (hw : w < 4294967296) (hf : fitR w rp28 = true) : readP rp28 w = sayJ rj51 w := by
  have ho := op28 hf
  have e := opJ_1 (w := w) (q := rj51) (by decide)
  rw [rd28, sayJ, e]
  refine ins_eq (nn (cond_eq hw (by decide)).symm) rfl (by rw [show tests _ = false from rfl, Bool.or_false, fv_none _ _ _ (by decide)]; rfl) rfl (nn (fg (k := 3) w (by decide)).symm) (nn (fg (k := 5) w (by decide)).symm) (nn (fg (k := 6) w (by decide)).symm) ((n0 (fv_none _ _ _ (by decide))).symm) ((n0 (fv_none _ _ _ (by decide))).symm) (by rw [immJ_no (show isB _ = false from rfl), fv_none _ _ _ (by decide)]; rfl) ((n0 (fv_none _ _ _ (by decide))).symm) ((n0 (fv_none _ _ _ (by decide))).symm) (bb (fg (k := 20) w (by decide)).symm) (bb (fg (k := 21) w (by decide)).symm) (bb (fg (k := 22) w (by decide)).symm) ((n0 (by rw [fv_none _ _ _ (by decide)])).symm) ((n0 (fv_none _ _ _ (by decide))).symm) ((n0 (fv_none _ _ _ (by decide))).symm) ((n0 (fv_none _ _ _ (by decide))).symm) ((n0 (fv_none _ _ _ (by decide))).symm)
theorem fi28 {w : Nat} (hf : fitR w rp28 = true) : fiP w rj51.pat = true := (fi_kb _ _).2 (kb_sub ((fit_kb w rp28 (by decide)).1 hf) (by decide))
theorem rd29 (w : Nat) : readP rp29 w = ⟨((w / 268435456 : Nat) : Int), 43, false, 0, 0, 0, ((getP w 6 : Nat) : Int), 0, 0, 0, 0, 0, false, false, false, 0, 0, 0, 0, 0⟩ := by kernel_rfl
theorem op29 {w : Nat} (hf : fitR w rp29 = true) : rj25.ops.contains (opJ rj25 w) = true := by
  rw [opJ_1 (by decide)]; decide
theorem rs29 {w : Nat} (hw : w < 4294967296) (hf : fitR w rp29 = true) : readP rp29 w = sayJ rj25 w := by
  have ho := op29 hf
  have e := opJ_1 (w := w) (q := rj25) (by decide)
  rw [rd29, sayJ, e]
  refine ins_eq (nn (cond_eq hw (by decide)).symm) rfl (by rw [show tests _ = false from rfl, Bool.or_false, fv_none _ _ _ (by decide)]; rfl) rfl ((n0 (fv_none _ _ _ (by decide))).symm) ((n0 (fv_none _ _ _ (by decide))).symm) (nn (fg (k := 6) w (by decide)).symm) ((n0 (fv_none _ _ _ (by decide))).symm) ((n0 (fv_none _ _ _ (by decide))).symm) (by rw [immJ_no (show isB _ = false from rfl), fv_none _ _ _ (by decide)]; rfl) ((n0 (fv_none _ _ _ (by decide))).symm) ((n0 (fv_none _ _ _ (by decide))).symm) ((b0 (fv_none _ _ _ (by decide))).symm) ((b0 (fv_none _ _ _ (by decide))).symm) ((b0 (fv_none _ _ _ (by decide))).symm) ((n0 (by rw [fv_none _ _ _ (by decide)])).symm) ((n0 (fv_none _ _ _ (by decide))).symm) ((n0 (fv_none _ _ _ (by decide))).symm) ((n0 (fv_none _ _ _ (by decide))).symm) ((n0 (fv_none _ _ _ (by decide))).symm)
theorem fi29 {w : Nat} (hf : fitR w rp29 = true) : fiP w rj25.pat = true := (fi_kb _ _).2 (kb_sub ((fit_kb w rp29 (by decide)).1 hf) (by decide))
theorem rd30 (w : Nat) : readP rp30 w = ⟨((w / 268435456 : Nat) : Int), 44, false, 0, 0, 0, ((getP w 6 : Nat) : Int), 0, 0, 0, 0, 0, false, false, false, 0, 0, 0, 0, 0⟩ := by kernel_rfl
theorem op30 {w : Nat} (hf : fitR w rp30 = true) : rj26.ops.contains (opJ rj26 w) = true := by
  rw [opJ_1 (by decide)]; decide
theorem rs30 {w : Nat} (hw : w < 4294967296) (hf : fitR w rp30 = true) : readP rp30 w = sayJ rj26 w := by
  have ho := op30 hf
  have e := opJ_1 (w := w) (q := rj26) (by decide)
  rw [rd30, sayJ, e]
  refine ins_eq (nn (cond_eq hw (by decide)).symm) rfl (by rw [show tests _ = false from rfl, Bool.or_false, fv_none _ _ _ (by decide)]; rfl) rfl ((n0 (fv_none _ _ _ (by decide))).symm) ((n0 (fv_none _ _ _ (by decide))).symm) (nn (fg (k := 6) w (by decide)).symm) ((n0 (fv_none _ _ _ (by decide))).symm) ((n0 (fv_none _ _ _ (by decide))).symm) (by rw [immJ_no (show isB _ = false from rfl), fv_none _ _ _ (by decide)]; rfl) ((n0 (fv_none _ _ _ (by decide))).symm) ((n0 (fv_none _ _ _ (by decide))).symm) ((b0 (fv_none _ _ _ (by decide))).symm) ((b0 (fv_none _ _ _ (by decide))).symm) ((b0 (fv_none _ _ _ (by decide))).symm) ((n0 (by rw [fv_none _ _ _ (by decide)])).symm) ((n0 (fv_none _ _ _ (by decide))).symm) ((n0 (fv_none _ _ _ (by decide))).symm) ((n0 (fv_none _ _ _ (by decide))).symm) ((n0 (fv_none _ _ _ (by decide))).symm)
theorem fi30 {w : Nat} (hf : fitR w rp30 = true) : fiP w rj26.pat = true := (fi_kb _ _).2 (kb_sub ((fit_kb w rp30 (by decide)).1 hf) (by decide))
theorem rd31 (w : Nat) : readP rp31 w = ⟨((w / 268435456 : Nat) : Int), 46, false, 0, 0, 0, 0, 0, 0, (((0 ||| getP w 12) ||| getP w 14 : Nat) : Int), 0, 0, false, false, false, 0, 0, 0, 0, 0⟩ := by kernel_rfl
theorem op31 {w : Nat} (hf : fitR w rp31 = true) : rj28.ops.contains (opJ rj28 w) = true := by
  rw [opJ_1 (by decide)]; decide
theorem rs31 {w : Nat} (hw : w < 4294967296) (hf : fitR w rp31 = true) : readP rp31 w = sayJ rj28 w := by
  have ho := op31 hf
  have e := opJ_1 (w := w) (q := rj28) (by decide)
  rw [rd31, sayJ, e]
  refine ins_eq (nn (cond_eq hw (by decide)).symm) rfl (by rw [show tests _ = false from rfl, Bool.or_false, fv_none _ _ _ (by decide)]; rfl) rfl ((n0 (fv_none _ _ _ (by decide))).symm) ((n0 (fv_none _ _ _ (by decide))).symm) ((n0 (fv_none _ _ _ (by decide))).symm) ((n0 (fv_none _ _ _ (by decide))).symm) ((n0 (fv_none _ _ _ (by decide))).symm) (by rw [immJ_no (show isB _ = false from rfl), fg2 (k := 12) (k' := 14) w (by decide)]) ((n0 (fv_none _ _ _ (by decide))).symm) ((n0 (fv_none _ _ _ (by decide))).symm) ((b0 (fv_none _ _ _ (by decide))).symm) ((b0 (fv_none _ _ _ (by decide))).symm) ((b0 (fv_none _ _ _ (by decide))).symm) ((n0 (by rw [fv_none _ _ _ (by decide)])).symm) ((n0 (fv_none _ _ _ (by decide))).symm) ((n0 (fv_none _ _ _ (by decide))).symm) ((n0 (fv_none _ _ _ (by decide))).symm) ((n0 (fv_none _ _ _ (by decide))).symm)
theorem fi31 {w : Nat} (hf : fitR w rp31 = true) : fiP w rj28.pat = true := (fi_kb _ _).2 (kb_sub ((fit_kb w rp31 (by decide)).1 hf) (by decide))
theorem rd32 (w : Nat) : readP rp32 w = ⟨((w / 268435456 : Nat) : Int), 47, getP w 2 == 1, 0, ((getP w 3 : Nat) : Int), 0, 0, 0, 0, 0, 0, 0, false, false, false, 0, 0, 0, 0, 0⟩ := by kernel_rfl
theorem op32 {w : Nat} (hf : fitR w rp32 = true) : rj29.ops.contains (opJ rj29 w) = true := by
  rw [opJ_1 (by decide)]; decide
theorem rs32 {w : Nat} (hw : w < 4294967296) (hf : fitR w rp32 = true) : readP rp32 w = sayJ rj29 w := by
  have ho := op32 hf
  have e := opJ_1 (w := w) (q := rj29) (by decide)
  rw [rd32, sayJ, e]
  refine ins_eq (nn (cond_eq hw (by decide)).symm) rfl (by rw [show tests _ = false from rfl, Bool.or_false, fg (k := 2) w (by decide)]) rfl (nn (fg (k := 3) w (by decide)).symm) ((n0 (fv_none _ _ _ (by decide))).symm) ((n0 (fv_none _ _ _ (by decide))).symm) ((n0 (fv_none _ _ _ (by decide))).symm) ((n0 (fv_none _ _ _ (by decide))).symm) (by rw [immJ_no (show isB _ = false from rfl), fv_none _ _ _ (by decide)]; rfl) ((n0 (fv_none _ _ _ (by decide))).symm) ((n0 (fv_none _ _ _ (by decide))).symm) ((b0 (fv_none _ _ _ (by decide))).symm) ((b0 (fv_none _ _ _ (by decide))).symm) ((b0 (fv_none _ _ _ (by decide))).symm) ((n0 (by rw [fv_none _ _ _ (by decide)])).symm) ((n0 (fv_none _ _ _ (by decide))).symm) ((n0 (fv_none _ _ _ (by decide))).symm) ((n0 (fv_none _ _ _ (by decide))).symm) ((n0 (fv_none _ _ _ (by decide))).symm)
theorem fi32 {w : Nat} (hf : fitR w rp32 = true) : fiP w rj29.pat = true := (fi_kb _ _).2 (kb_sub ((fit_kb w rp32 (by decide)).1 hf) (by decide))
theorem rd33 (w : Nat) : readP rp33 w = ⟨((w / 268435456 : Nat) : Int), 51, false, 0, 0, 0, 0, 0, 0, 0, 0, 0, false, false, false, 0, 0, 0, 0, 0⟩ := by kernel_rfl
theorem op33 {w : Nat} (hf : fitR w rp33 = true) : rj34.ops.contains (opJ rj34 w) = true := by
  rw [opJ_1 (by decide)]; decide
theorem rs33 {w : Nat} (hw : w < 4294967296) (hf : fitR w rp33 = true) : readP rp33 w = sayJ rj34 w := by
  have ho := op33 hf
  have e := opJ_1 (w := w) (q := rj34) (by decide)
  rw [rd33, sayJ, e]
  refine ins_eq (nn (cond_eq hw (by decide)).symm) rfl (by rw [show tests _ = false from rfl, Bool.or_false, fv_none _ _ _ (by decide)]; rfl) rfl ((n0 (fv_none _ _ _ (by decide))).symm) ((n0 (fv_none _ _ _ (by decide))).symm) ((n0 (fv_none _ _ _ (by decide))).symm) ((n0 (fv_none _ _ _ (by decide))).symm) ((n0 (fv_none _ _ _ (by decide))).symm) (by rw [immJ_no (show isB _ = false from rfl), fv_none _ _ _ (by decide)]; rfl) ((n0 (fv_none _ _ _ (by decide))).symm) ((n0 (fv_none _ _ _ (by decide))).symm) ((b0 (fv_none _ _ _ (by decide))).symm) ((b0 (fv_none _ _ _ (by decide))).symm) ((b0 (fv_none _ _ _ (by decide))).symm) ((n0 (by rw [fv_none _ _ _ (by decide)])).symm) ((n0 (fv_none _ _ _ (by decide))).symm) ((n0 (fv_none _ _ _ (by decide))).symm) ((n0 (fv_none _ _ _ (by decide))).symm) ((n0 (fv_none _ _ _ (by decide))).symm)
theorem fi33 {w : Nat} (hf : fitR w rp33 = true) : fiP w rj34.pat = true := (fi_kb _ _).2 (kb_sub ((fit_kb w rp33 (by decide)).1 hf) (by decide))
theorem rd34 (w : Nat) : readP rp34 w = ⟨((w / 268435456 : Nat) : Int), 52, false, 0, 0, 0, 0, 0, 0, 0, 0, 0, false, false, false, 0, 0, 0, 0, 0⟩ := by kernel_rfl
theorem op34 {w : Nat} (hf : fitR w rp34 = true) : rj35.ops.contains (opJ rj35 w) = true := by
  rw [opJ_1 (by decide)]; decide
theorem rs34 {w : Nat} (hw : w < 4294967296) (hf : fitR w rp34 = true) : readP rp34 w = sayJ rj35 w := by
  have ho := op34 hf
  have e := opJ_1 (w := w) (q := rj35) (by decide)
  rw [rd34, sayJ, e]
  refine ins_eq (nn (cond_eq hw (by decide)).symm) rfl (by rw [show tests _ = false from rfl, Bool.or_false, fv_none _ _ _ (by decide)]; rfl) rfl ((n0 (fv_none _ _ _ (by decide))).symm) ((n0 (fv_none _ _ _ (by decide))).symm) ((n0 (fv_none _ _ _ (by decide))).symm) ((n0 (fv_none _ _ _ (by decide))).symm) ((n0 (fv_none _ _ _ (by decide))).symm) (by rw [immJ_no (show isB _ = false from rfl), fv_none _ _ _ (by decide)]; rfl) ((n0 (fv_none _ _ _ (by decide))).symm) ((n0 (fv_none _ _ _ (by decide))).symm) ((b0 (fv_none _ _ _ (by decide))).symm) ((b0 (fv_none _ _ _ (by decide))).symm) ((b0 (fv_none _ _ _ (by decide))).symm) ((n0 (by rw [fv_none _ _ _ (by decide)])).symm) ((n0 (fv_none _ _ _ (by decide))).symm) ((n0 (fv_none _ _ _ (by decide))).symm) ((n0 (fv_none _ _ _ (by decide))).symm) ((n0 (fv_none _ _ _ (by decide))).symm)
theorem fi34 {w : Nat} (hf : fitR w rp34 = true) : fiP w rj35.pat = true := (fi_kb _ _).2 (kb_sub ((fit_kb w rp34 (by decide)).1 hf) (by decide))
theorem rd35 (w : Nat) : readP rp35 w = ⟨((w / 268435456 : Nat) : Int), 48, getP w 2 == 1, 2, 0, 0, ((getP w 6 : Nat) : Int), 0, 0, 0, 0, ((getP w 19 : Nat) : Int), false, false, false, 0, 0, 0, 0, 0⟩ := by kernel_rfl
theorem op35 {w : Nat} (hf : fitR w rp35 = true) : rj30.ops.contains (opJ rj30 w) = true := by
  rw [opJ_1 (by decide)]; decide
theorem rs35 {w : Nat} (hw : w < 4294967296) (hf : fitR w rp35 = true) : readP rp35 w = sayJ rj30 w := by
  have ho := op35 hf
  have e := opJ_1 (w := w) (q := rj30) (by decide)
  rw [rd35, sayJ, e]
  refine ins_eq (nn (cond_eq hw (by decide)).symm) rfl (by rw [show tests _ = false from rfl, Bool.or_false, fg (k := 2) w (by decide)]) rfl ((n0 (fv_none _ _ _ (by decide))).symm) ((n0 (fv_none _ _ _ (by decide))).symm) (nn (fg (k := 6) w (by decide)).symm) ((n0 (fv_none _ _ _ (by decide))).symm) ((n0 (fv_none _ _ _ (by decide))).symm) (by rw [immJ_no (show isB _ = false from rfl), fv_none _ _ _ (by decide)]; rfl) ((n0 (fv_none _ _ _ (by decide))).symm) (nn (fg (k := 19) w (by decide)).symm) ((b0 (fv_none _ _ _ (by decide))).symm) ((b0 (fv_none _ _ _ (by decide))).symm) ((b0 (fv_none _ _ _ (by decide))).symm) ((n0 (by rw [fv_none _ _ _ (by decide)])).symm) ((n0 (fv_none _ _ _ (by decide))).symm) ((n0 (fv_none _ _ _ (by decide))).symm) ((n0 (fv_none _ _ _ (by decide))).symm) ((n0 (fv_none _ _ _ (by decide))).symm)
theorem fi35 {w : Nat} (hf : fitR w rp35 = true) : fiP w rj30.pat = true := (fi_kb _ _).2 (kb_sub ((fit_kb w rp35 (by decide)).1 hf) (by decide))
theorem rd36 (w : Nat) : readP rp36 w = ⟨((w / 268435456 : Nat) : Int), 48, getP w 2 == 1, 1, 0, 0, 0, 0, 0, ((0 ||| getP w 9 : Nat) : Int), 0, ((getP w 19 : Nat) : Int), false, false, false, 0, 0, 0, 0, 0⟩ := by kernel_rfl
theorem op36 {w : Nat} (hf : fitR w rp36 = true) : rj31.ops.contains (opJ rj31 w) = true := by
  rw [opJ_1 (by decide)]; decide
theorem rs36 {w : Nat} (hw : w < 4294967296) (hf : fitR w rp36 = true) : readP rp36 w = sayJ rj31 w := by
  have ho := op36 hf
  have e := opJ_1 (w := w) (q := rj31) (by decide)
  rw [rd36, sayJ, e]
  refine ins_eq (nn (cond_eq hw (by decide)).symm) rfl (by rw [show tests _ = false from rfl, Bool.or_false, fg (k := 2) w (by decide)]) rfl ((n0 (fv_none _ _ _ (by decide))).symm) ((n0 (fv_none _ _ _ (by decide))).symm) ((n0 (fv_none _ _ _ (by decide))).symm) ((n0 (fv_none _ _ _ (by decide))).symm) ((n0 (fv_none _ _ _ (by decide))).symm) (by rw [immJ_no (show isB _ = false from rfl), fg1 (k := 9) w (by decide)]) ((n0 (fv_none _ _ _ (by decide))).symm) (nn (fg (k := 19) w (by decide)).symm) ((b0 (fv_none _ _ _ (by decide))).symm) ((b0 (fv_none _ _ _ (by decide))).symm) ((b0 (fv_none _ _ _ (by decide))).symm) ((n0 (by rw [fv_none _ _ _ (by decide)])).symm) ((n0 (fv_none _ _ _ (by decide))).symm) ((n0 (fv_none _ _ _ (by decide))).symm) ((n0 (fv_none _ _ _ (by decide))).symm) ((n0 (fv_none _ _ _ (by decide))).symm)
theorem fi36 {w : Nat} (hf : fitR w rp36 = true) : fiP w rj31.pat = true := (fi_kb _ _).2 (kb_sub ((fit_kb w rp36 (by decide)).1 hf) (by decide))
theorem rd37 (w : Nat) : readP rp37 w = ⟨((w / 268435456 : Nat) : Int), 31, false, 1, ((getP w 3 : Nat) : Int), ((getP w 5 : Nat) : Int), 0, 0, 0, ((0 ||| getP w 9 : Nat) : Int), 0, 0, getP w 20 == 1, getP w 21 == 1, getP w 22 == 1, 0, 0, 0, 0, 0⟩ := by kernel_rfl
theorem op37 {w : Nat} (hf : fitR w rp37 = true) : rj36.ops.contains (opJ rj36 w) = true := by
  rw [opJ_1 (by decide)]; decide
theorem rs37 {w : Nat} (hw : w < 4294967296) (hf : fitR w rp37 = true) : readP rp37 w = sayJ rj36 w := by
  have ho := op37 hf
  have e := opJ_1 (w := w) (q := rj36) (by decide)
  rw [rd37, sayJ, e]
  refine ins_eq (nn (cond_eq hw (by decide)).symm) rfl (by rw [show tests _ = false from rfl, Bool.or_false, fv_none _ _ _ (by decide)]; rfl) rfl (nn (fg (k := 3) w (by decide)).symm) (nn (fg (k := 5) w (by decide)).symm) ((n0 (fv_none _ _ _ (by decide))).symm) ((n0 (fv_none _ _ _ (by decide))).symm) ((n0 (fv_none _ _ _ (by decide))).symm) (by rw [immJ_no (show isB _ = false from rfl), fg1 (k := 9) w (by decide)]) ((n0 (fv_none _ _ _ (by decide))).symm) ((n0 (fv_none _ _ _ (by decide))).symm) (bb (fg (k := 20) w (by decide)).symm) (bb (fg (k := 21) w (by decide)).symm) (bb (fg (k := 22) w (by decide)).symm) ((n0 (by rw [fv_none _ _ _ (by decide)])).symm) ((n0 (fv_none _ _ _ (by decide))).symm) ((n0 (fv_none _ _ _ (by decide))).symm) ((n0 (fv_none _ _ _ (by decide))).symm) ((n0 (fv_none _ _ _ (by decide))).symm)
theorem fi37 {w : Nat} (hf : fitR w rp37 = true) : fiP w rj36.pat = true := (fi_kb _ _).2 (kb_sub ((fit_kb w rp37 (by decide)).1 hf) (by decide))
theorem rd38 (w : Nat) : readP rp38 w = ⟨((w / 268435456 : Nat) : Int), 32, false, 1, ((getP w 3 : Nat) : Int), ((getP w 5 : Nat) : Int), 0, 0, 0, ((0 ||| getP w 9 : Nat) : Int), 0, 0, getP w 20 == 1, getP w 21 == 1, getP w 22 == 1, 0, 0, 0, 0, 0⟩ := by kernel_rfl
theorem op38 {w : Nat} (hf : fitR w rp38 = true) : rj37.ops.contains (opJ rj37 w) = true := by
  rw [opJ_1 (by decide)]; decide
theorem rs38 {w : Nat} (hw : w < 4294967296) (hf : fitR w rp38 = true) : readP rp38 w = sayJ rj37 w := by
  have ho := op38 hf
  have e := opJ_1 (w := w) (q := rj37) (by decide)
  rw [rd38, sayJ, e]
  refine ins_eq (nn (cond_eq hw (by decide)).symm) rfl (by rw [show tests _ = false from rfl, Bool.or_false, fv_none _ _ _ (by decide)]; rfl) rfl (nn (fg (k := 3) w (by decide)).symm) (nn (fg (k := 5) w (by decide)).symm) ((n0 (fv_none _ _ _ (by decide))).symm) ((n0 (fv_none _ _ _ (by decide))).symm) ((n0 (fv_none _ _ _ (by decide))).symm) (by rw [immJ_no (show isB _ = false from rfl), fg1 (k := 9) w (by decide)]) ((n0 (fv_none _ _ _ (by decide))).symm) ((n0 (fv_none _ _ _ (by decide))).symm) (bb (fg (k := 20) w (by decide)).symm) (bb (fg (k := 21) w (by decide)).symm) (bb (fg (k := 22) w (by decide)).symm) ((n0 (by rw [fv_none _ _ _ (by decide)])).symm) ((n0 (fv_none _ _ _ (by decide))).symm) ((n0 (fv_none _ _ _ (by decide))).symm) ((n0 (fv_none _ _ _ (by decide))).symm) ((n0 (fv_none _ _ _ (by decide))).symm)
theorem fi38 {w : Nat} (hf : fitR w rp38 = true) : fiP w rj37.pat = true := (fi_kb _ _).2 (kb_sub ((fit_kb w rp38 (by decide)).1 hf) (by decide))
theorem rd39 (w : Nat) : readP rp39 w = ⟨((w / 268435456 : Nat) : Int), 33, false, 1, ((getP w 3 : Nat) : Int), ((getP w 5 : Nat) : Int), 0, 0, 0, ((0 ||| getP w 9 : Nat) : Int), 0, 0, getP w 20 == 1, getP w 21 == 1, getP w 22 == 1, 0, 0, 0, 0, 0⟩ := by kernel_rfl
theorem op39 {w : Nat} (hf : fitR w rp39 = true) : rj38.ops.contains (opJ rj38 w) = true := by
  rw [opJ_1 (by decide)]; decide
theorem rs39 {w : Nat} (hw : w < 4294967296) (hf : fitR w rp39 = true) : readP rp39 w = sayJ rj38 w := by
  have ho := op39 hf
  have e := opJ_1 (w := w) (q := rj38) (by decide)
  rw [rd39, sayJ, e]
  refine ins_eq (nn (cond_eq hw (by decide)).symm) rfl (by rw [show tests _ = false from rfl, Bool.or_false, fv_none _ _ _ (by decide)]; rfl) rfl (nn (fg (k := 3) w (by decide)).symm) (nn (fg (k := 5) w (by decide)).symm) ((n0 (fv_none _ _ _ (by decide))).symm) ((n0 (fv_none _ _ _ (by decide))).symm) ((n0 (fv_none _ _ _ (by decide))).symm) (by rw [immJ_no (show isB _ = false from rfl), fg1 (k := 9) w (by decide)]) ((n0 (fv_none _ _ _ (by decide))).symm) ((n0 (fv_none _ _ _ (by decide))).symm) (bb (fg (k := 20) w (by decide)).symm) (bb (fg (k := 21) w (by decide)).symm) (bb (fg (k := 22) w (by decide)).symm) ((n0 (by rw [fv_none _ _ _ (by decide)])).symm) ((n0 (fv_none _ _ _ (by decide))).symm) ((n0 (fv_none _ _ _ (by decide))).symm) ((n0 (fv_none _ _ _ (by decide))).symm) ((n0 (fv_none _ _ _ (by decide))).symm)
theorem fi39 {w : Nat} (hf : fitR w rp39 = true) : fiP w rj38.pat = true := (fi_kb _ _).2 (kb_sub ((fit_kb w rp39 (by decide)).1 hf) (by decide))
theorem rd40 (w : Nat) : readP rp40 w = ⟨((w / 268435456 : Nat) : Int), 34, false, 1, ((getP w 3 : Nat) : Int), ((getP w 5 : Nat) : Int), 0, 0, 0, ((0 ||| getP w 9 : Nat) : Int), 0, 0, getP w 20 == 1, getP w 21 == 1, getP w 22 == 1, 0, 0, 0, 0, 0⟩ := by kernel_rfl
theorem op40 {w : Nat} (hf : fitR w rp40 = true) : rj39.ops.contains (opJ rj39 w) = true := by
  rw [opJ_1 (by decide)]; decide
theorem rs40 {w : Nat} (hw : w < 4294967296) (hf : fitR w rp40 = true) : readP rp40 w = sayJ rj39 w := by
  have ho := op40 hf
  have e := opJ_1 (w := w) (q := rj39) (by decide)
  rw [rd40, sayJ, e]
  refine ins_eq (nn (cond_eq hw (by decide)).symm) rfl (by rw [show tests _ = false from rfl, Bool.or_false, fv_none _ _ _ (by decide)]; rfl) rfl (nn (fg (k := 3) w (by decide)).symm) (nn (fg (k := 5) w (by decide)).symm) ((n0 (fv_none _ _ _ (by decide))).symm) ((n0 (fv_none _ _ _ (by decide))).symm) ((n0 (fv_none _ _ _ (by decide))).symm) (by rw [immJ_no (show isB _ = false from rfl), fg1 (k := 9) w (by decide)]) ((n0 (fv_none _ _ _ (by decide))).symm) ((n0 (fv_none _ _ _ (by decide))).symm) (bb (fg (k := 20) w (by decide)).symm) (bb (fg (k := 21) w (by decide)).symm) (bb (fg (k := 22) w (by decide)).symm) ((n0 (by rw [fv_none _ _ _ (by decide)])).symm) ((n0 (fv_none _ _ _ (by decide))).symm) ((n0 (fv_none _ _ _ (by decide))).symm) ((n0 (fv_none _ _ _ (by decide))).symm) ((n0 (fv_none _ _ _ (by decide))).symm)
theorem fi40 {w : Nat} (hf : fitR w rp40 = true) : fiP w rj39.pat = true := (fi_kb _ _).2 (kb_sub ((fit_kb w rp40 (by decide)).1 hf) (by decide))
theorem rd41 (w : Nat) : readP rp41 w = ⟨((w / 268435456 : Nat) : Int), 31, false, 2, ((getP w 3 : Nat) : Int), ((getP w 5 : Nat) : Int), ((getP w 6 : Nat) : Int), 0, 0, 0, ((getP w 16 : Nat) : Int), ((getP w 17 : Nat) : Int), getP w 20 == 1, getP w 21 == 1, getP w 22 == 1, 0, 0, 0, 0, 0⟩ := by kernel_rfl
theorem op41 {w : Nat} (hf : fitR w rp41 = true) : rj40.ops.contains (opJ rj40 w) = true := by
  rw [opJ_1 (by decide)]; decide
theorem rs41 {w : Nat} (hw : w < 4294967296) (hf : fitR w rp41 = true) : readP rp41 w = sayJ rj40 w := by
  have ho := op41 hf
  have e := opJ_1 (w := w) (q := rj40) (by decide)
  rw [rd41, sayJ, e]
  refine ins_eq (nn (cond_eq hw (by decide)).symm) rfl (by rw [show tests _ = false from rfl, Bool.or_false, fv_none _ _ _ (by decide)]; rfl) rfl (nn (fg (k := 3) w (by decide)).symm) (nn (fg (k := 5) w (by decide)).symm) (nn (fg (k := 6) w (by decide)).symm) ((n0 (fv_none _ _ _ (by decide))).symm) ((n0 (fv_none _ _ _ (by decide))).symm) (by rw [immJ_no (show isB _ = false from rfl), fv_none _ _ _ (by decide)]; rfl) (nn (fg (k := 16) w (by decide)).symm) (nn (fg (k := 17) w (by decide)).symm) (bb (fg (k := 20) w (by decide)).symm) (bb (fg (k := 21) w (by decide)).symm) (bb (fg (k := 22) w (by decide)).symm) ((n0 (by rw [fv_none _ _ _ (by decide)])).symm) ((n0 (fv_none _ _ _ (by decide))).symm) ((n0 (fv_none _ _ _ (by decide))).symm) ((n0 (fv_none _ _ _ (by decide))).symm) ((n0 (fv_none _ _ _ (by decide))).symm)
theorem fi41 {w : Nat} (hf : fitR w rp41 = true) : fiP w rj40.pat = true := (fi_kb _ _).2 (kb_sub ((fit_kb w rp41 (by decide)).1 hf) (by decide))
theorem rd42 (w : Nat) : readP rp42 w = ⟨((w / 268435456 : Nat) : Int), 32, false, 2, ((getP w 3 : Nat) : Int), ((getP w 5 : Nat) : Int), ((getP w 6 : Nat) : Int), 0, 0, 0, ((getP w 16 : Nat) : Int), ((getP w 17 : Nat) : Int), getP w 20 == 1, getP w 21 == 1, getP w 22 == 1, 0, 0, 0, 0, 0⟩ := by kernel_rfl
theorem op42 {w : Nat} (hf : fitR w rp42 = true) : rj41.ops.contains (opJ rj41 w) = true := by
  rw [opJ_1 (by decide)]; decide
theorem rs42 {w : Nat} (hw : w < 4294967296) (hf : fitR w rp42 = true) : readP rp42 w = sayJ rj41 w := by
  have ho := op42 hf
  have e := opJ_1 (w := w) (q := rj41) (by decide)
  rw [rd42, sayJ, e]
  refine ins_eq (nn (cond_eq hw (by decide)).symm) rfl (by rw [show tests _ = false from rfl, Bool.or_false, fv_none _ _ _ (by decide)]; rfl) rfl (nn (fg (k := 3) w (by decide)).symm) (nn (fg (k := 5) w (by decide)).symm) (nn (fg (k := 6) w (by decide)).symm) ((n0 (fv_none _ _ _ (by decide))).symm) ((n0 (fv_none _ _ _ (by decide))).symm) (by rw [immJ_no (show isB _ = false from rfl), fv_none _ _ _ (by decide)]; rfl) (nn (fg (k := 16) w (by decide)).symm) (nn (fg (k := 17) w (by decide)).symm) (bb (fg (k := 20) w (by decide)).symm) (bb (fg (k := 21) w (by decide)).symm) (bb (fg (k := 22) w (by decide)).symm) ((n0 (by rw [fv_none _ _ _ (by decide)])).symm) ((n0 (fv_none _ _ _ (by decide))).symm) ((n0 (fv_none _ _ _ (by decide))).symm) ((n0 (fv_none _ _ _ (by decide))).symm) ((n0 (fv_none _ _ _ (by decide))).symm)
theorem fi42 {w : Nat} (hf : fitR w rp42 = true) : fiP w rj41.pat = true := (fi_kb _ _).2 (kb_sub ((fit_kb w rp42 (by decide)).1 hf) (by decide))
theorem rd43 (w : Nat) : readP rp43 w = ⟨((w / 268435456 : Nat) : Int), 33, false, 2, ((getP w 3 : Nat) : Int), ((getP w 5 : Nat) : Int), ((getP w 6 : Nat) : Int), 0, 0, 0, ((getP w 16 : Nat) : Int), ((getP w 17 : Nat) : Int), getP w 20 == 1, getP w 21 == 1, getP w 22 == 1, 0, 0, 0, 0, 0⟩ := by kernel_rfl
theorem op43 {w : Nat} (hf : fitR w rp43 = true) : rj42.ops.contains (opJ rj42 w) = true := by
  rw [opJ_1 (by decide)]; decide
theorem rs43 {w : Nat} (hw : w < 4294967296) (hf : fitR w rp43 = true) : readP rp43 w = sayJ rj42 w := by
  have ho := op43 hf
  have e := opJ_1 (w := w) (q := rj42) (by decide)
  rw [rd43, sayJ, e]
  refine ins_eq (nn (cond_eq hw (by decide)).symm) rfl (by rw [show tests _ = false from rfl, Bool.or_false, fv_none _ _ _ (by decide)]; rfl) rfl (nn (fg (k := 3) w (by decide)).symm) (nn (fg (k := 5) w (by decide)).symm) (nn (fg (k := 6) w (by decide)).symm) ((n0 (fv_none _ _ _ (by decide))).symm) ((n0 (fv_none _ _ _ (by decide))).symm) (by rw [immJ_no (show isB _ = false from rfl), fv_none _ _ _ (by decide)]; rfl) (nn (fg (k := 16) w (by decide)).symm) (nn (fg (k := 17) w (by decide)).symm) (bb (fg (k := 20) w (by decide)).symm) (bb (fg (k := 21) w (by decide)).symm) (bb (fg (k := 22) w (by decide)).symm) ((n0 (by rw [fv_none _ _ _ (by decide)])).symm) ((n0 (fv_none _ _ _ (by decide))).symm) ((n0 (fv_none _ _ _ (by decide))).symm) ((n0 (fv_none _ _ _ (by decide))).symm) ((n0 (fv_none _ _ _ (by decide))).symm)
theorem fi43 {w : Nat} (hf : fitR w rp43 = true) : fiP w rj42.pat = true := (fi_kb _ _).2 (kb_sub ((fit_kb w rp43 (by decide)).1 hf) (by decide))
theorem rd44 (w : Nat) : readP rp44 w = ⟨((w / 268435456 : Nat) : Int), 34, false, 2, ((getP w 3 : Nat) : Int), ((getP w 5 : Nat) : Int), ((getP w 6 : Nat) : Int), 0, 0, 0, ((getP w 16 : Nat) : Int), ((getP w 17 : Nat) : Int), getP w 20 == 1, getP w 21 == 1, getP w 22 == 1, 0, 0, 0, 0, 0⟩ := by kernel_rfl
theorem op44 {w : Nat} (hf : fitR w rp44 = true) : rj43.ops.contains (opJ rj43 w) = true := by
  rw [opJ_1 (by decide)]; decide
theorem rs44 {w : Nat} (hw : w < 4294967296) (hf : fitR w rp44 = true) : readP rp44 w = sayJ rj43 w := by
  have ho := op44 hf
  have e := opJ_1 (w := w) (q := rj43) (by decide)
  rw [rd44, sayJ, e]
  refine ins_eq (nn (cond_eq hw (by decide)).symm) rfl (by rw [show tests _ = false from rfl, Bool.or_false, fv_none _ _ _ (by decide)]; rfl) rfl (nn (fg (k := 3) w (by decide)).symm) (nn (fg (k := 5) w (by decide)).symm) (nn (fg (k := 6) w (by decide)).symm) ((n0 (fv_none _ _ _ (by decide))).symm) ((n0 (fv_none _ _ _ (by decide))).symm) (by rw [immJ_no (show isB _ = false from rfl), fv_none _ _ _ (by decide)]; rfl) (nn (fg (k := 16) w (by decide)).symm) (nn (fg (k := 17) w (by decide)).symm) (bb (fg (k := 20) w (by decide)).symm) (bb (fg (k := 21) w (by decide)).symm) (bb (fg (k := 22) w (by decide)).symm) ((n0 (by rw [fv_none _ _ _ (by decide)])).symm) ((n0 (fv_none _ _ _ (by decide))).symm) ((n0 (fv_none _ _ _ (by decide))).symm) ((n0 (fv_none _ _ _ (by decide))).symm) ((n0 (fv_none _ _ _ (by decide))).symm)
theorem fi44 {w : Nat} (hf : fitR w rp44 = true) : fiP w rj43.pat = true := (fi_kb _ _).2 (kb_sub ((fit_kb w rp44 (by decide)).1 hf) (by decide))
theorem rd45 (w : Nat) : readP rp45 w = ⟨((w / 268435456 : Nat) : Int), 26, false, 0, ((getP w 3 : Nat) : Int), 0, ((getP w 6 : Nat) : Int), 0, 0, 0, 0, 0, false, false, false, 0, 0, 0, 0, 0⟩ := by kernel_rfl
theorem op45 {w : Nat} (hf : fitR w rp45 = true) : rj18.ops.contains (opJ rj18 w) = true := by
  rw [opJ_1 (by decide)]; decide
theorem rs45 {w : Nat} (hw : w < 4294967296) (hf : fitR w rp45 = true) : readP rp45 w = sayJ rj18 w := by
  have ho := op45 hf
  have e := opJ_1 (w := w) (q := rj18) (by decide)
  rw [rd45, sayJ, e]
  refine ins_eq (nn (cond_eq hw (by decide)).symm) rfl (by rw [show tests _ = false from rfl, Bool.or_false, fv_none _ _ _ (by decide)]; rfl) rfl (nn (fg (k := 3) w (by decide)).symm) ((n0 (fv_none _ _ _ (by decide))).symm) (nn (fg (k := 6) w (by decide)).symm) ((n0 (fv_none _ _ _ (by decide))).symm) ((n0 (fv_none _ _ _ (by decide))).symm) (by rw [immJ_no (show isB _ = false from rfl), fv_none _ _ _ (by decide)]; rfl) ((n0 (fv_none _ _ _ (by decide))).symm) ((n0 (fv_none _ _ _ (by decide))).symm) ((b0 (fv_none _ _ _ (by decide))).symm) ((b0 (fv_none _ _ _ (by decide))).symm) ((b0 (fv_none _ _ _ (by decide))).symm) ((n0 (by rw [fv_none _ _ _ (by decide)])).symm) ((n0 (fv_none _ _ _ (by decide))).symm) ((n0 (fv_none _ _ _ (by decide))).symm) ((n0 (fv_none _ _ _ (by decide))).symm) ((n0 (fv_none _ _ _ (by decide))).symm)
theorem fi45 {w : Nat} (hf : fitR w rp45 = true) : fiP w rj18.pat = true := (fi_kb _ _).2 (kb_sub ((fit_kb w rp45 (by decide)).1 hf) (by decide))
theorem rd46 (w : Nat) : readP rp46 w = ⟨((w / 268435456 : Nat) : Int), 27, false, 0, ((getP w 3 : Nat) : Int), 0, ((getP w 6 : Nat) : Int), 0, 0, 0, 0, ((getP w 18 : Nat) : Int), false, false, false, 0, 0, 0, 0, 0⟩ := by kernel_rfl
theorem op46 {w : Nat} (hf : fitR w rp46 = true) : rj19.ops.contains (opJ rj19 w) = true := by
  rw [opJ_1 (by decide)]; decide
theorem rs46 {w : Nat} (hw : w < 4294967296) (hf : fitR w rp46 = true) : readP rp46 w = sayJ rj19 w := by
  have ho := op46 hf
  have e := opJ_1 (w := w) (q := rj19) (by decide)
  rw [rd46, sayJ, e]
  refine ins_eq (nn (cond_eq hw (by decide)).symm) rfl (by rw [show tests _ = false from rfl, Bool.or_false, fv_none _ _ _ (by decide)]; rfl) rfl (nn (fg (k := 3) w (by decide)).symm) ((n0 (fv_none _ _ _ (by decide))).symm) (nn (fg (k := 6) w (by decide)).symm) ((n0 (fv_none _ _ _ (by decide))).symm) ((n0 (fv_none _ _ _ (by decide))).symm) (by rw [immJ_no (show isB _ = false from rfl), fv_none _ _ _ (by decide)]; rfl) ((n0 (fv_none _ _ _ (by decide))).symm) (nn (fg (k := 18) w (by decide)).symm) ((b0 (fv_none _ _ _ (by decide))).symm) ((b0 (fv_none _ _ _ (by decide))).symm) ((b0 (fv_none _ _ _ (by decide))).symm) ((n0 (by rw [fv_none _ _ _ (by decide)])).symm) ((n0 (fv_none _ _ _ (by decide))).symm) ((n0 (fv_none _ _ _ (by decide))).symm) ((n0 (fv_none _ _ _ (by decide))).symm) ((n0 (fv_none _ _ _ (by decide))).symm)
theorem fi46 {w : Nat} (hf : fitR w rp46 = true) : fiP w rj19.pat = true := (fi_kb _ _).2 (kb_sub ((fit_kb w rp46 (by decide)).1 hf) (by decide))
theorem rd47 (w : Nat) : readP rp47 w = ⟨((w / 268435456 : Nat) : Int), 28, false, 0, ((getP w 3 : Nat) : Int), 0, ((getP w 6 : Nat) : Int), 0, 0, 0, 0, ((getP w 18 : Nat) : Int), false, false, false, 0, 0, 0, 0, 0⟩ := by kernel_rfl
theorem op47 {w : Nat} (hf : fitR w rp47 = true) : rj20.ops.contains (opJ rj20 w) = true := by
  rw [opJ_1 (by decide)]; decide
theorem rs47 {w : Nat} (hw : w < 4294967296) (hf : fitR w rp47 = true) : readP rp47 w = sayJ rj20 w := by
  have ho := op47 hf
  have e := opJ_1 (w := w) (q := rj20) (by decide)
  rw [rd47, sayJ, e]
  refine ins_eq (nn (cond_eq hw (by decide)).symm) rfl (by rw [show tests _ = false from rfl, Bool.or_false, fv_none _ _ _ (by decide)]; rfl) rfl (nn (fg (k := 3) w (by decide)).symm) ((n0 (fv_none _ _ _ (by decide))).symm) (nn (fg (k := 6) w (by decide)).symm) ((n0 (fv_none _ _ _ (by decide))).symm) ((n0 (fv_none _ _ _ (by decide))).symm) (by rw [immJ_no (show isB _ = false from rfl), fv_none _ _ _ (by decide)]; rfl) ((n0 (fv_none _ _ _ (by decide))).symm) (nn (fg (k := 18) w (by decide)).symm) ((b0 (fv_none _ _ _ (by decide))).symm) ((b0 (fv_none _ _ _ (by decide))).symm) ((b0 (fv_none _ _ _ (by decide))).symm) ((n0 (by rw [fv_none _ _ _ (by decide)])).symm) ((n0 (fv_none _ _ _ (by decide))).symm) ((n0 (fv_none _ _ _ (by decide))).symm) ((n0 (fv_none _ _ _ (by decide))).symm) ((n0 (fv_none _ _ _ (by decide))).symm)
theorem fi47 {w : Nat} (hf : fitR w rp47 = true) : fiP w rj20.pat = true := (fi_kb _ _).2 (kb_sub ((fit_kb w rp47 (by decide)).1 hf) (by decide))
theorem rd48 (w : Nat) : readP rp48 w = ⟨((w / 268435456 : Nat) : Int), 29, false, 0, ((getP w 3 : Nat) : Int), 0, ((getP w 6 : Nat) : Int), 0, 0, 0, 0, ((getP w 18 : Nat) : Int), false, false, false, 0, 0, 0, 0, 0⟩ := by kernel_rfl
theorem op48 {w : Nat} (hf : fitR w rp48 = true) : rj21.ops.contains (opJ rj21 w) = true := by
  rw [opJ_1 (by decide)]; decide
theorem rs48 {w : Nat} (hw : w < 4294967296) (hf : fitR w rp48 = true) : readP rp48 w = sayJ rj21 w := by
  have ho := op48 hf
  have e := opJ_1 (w := w) (q := rj21) (by decide)
  rw [rd48, sayJ, e]
  refine ins_eq (nn (cond_eq hw (by decide)).symm) rfl (by rw [show tests _ = false from rfl, Bool.or_false, fv_none _ _ _ (by decide)]; rfl) rfl (nn (fg (k := 3) w (by decide)).symm) ((n0 (fv_none _ _ _ (by decide))).symm) (nn (fg (k := 6) w (by decide)).symm) ((n0 (fv_none _ _ _ (by decide))).symm) ((n0 (fv_none _ _ _ (by decide))).symm) (by rw [immJ_no (show isB _ = false from rfl), fv_none _ _ _ (by decide)]; rfl) ((n0 (fv_none _ _ _ (by decide))).symm) (nn (fg (k := 18) w (by decide)).symm) ((b0 (fv_none _ _ _ (by decide))).symm) ((b0 (fv_none _ _ _ (by decide))).symm) ((b0 (fv_none _ _ _ (by decide))).symm) ((n0 (by rw [fv_none _ _ _ (by decide)])).symm) ((n0 (fv_none _ _ _ (by decide))).symm) ((n0 (fv_none _ _ _ (by decide))).symm) ((n0 (fv_none _ _ _ (by decide))).symm) ((n0 (fv_none _ _ _ (by decide))).symm)
theorem fi48 {w : Nat} (hf : fitR w rp48 = true) : fiP w rj21.pat = true := (fi_kb _ _).2 (kb_sub ((fit_kb w rp48 (by decide)).1 hf) (by decide))
theorem rd49 (w : Nat) : readP rp49 w = ⟨((w / 268435456 : Nat) : Int), 30, false, 0, ((getP w 3 : Nat) : Int), 0, ((getP w 6 : Nat) : Int), 0, 0, 0, 0, ((getP w 18 : Nat) : Int), false, false, false, 0, 0, 0, 0, 0⟩ := by kernel_rfl
theorem op49 {w : Nat} (hf : fitR w rp49 = true) : rj22.ops.contains (opJ rj22 w) = true := by
  rw [opJ_1 (by decide)]; decide
theorem rs49 {w : Nat} (hw : w < 4294967296) (hf : fitR w rp49 = true) : readP rp49 w = sayJ rj22 w := by
  have ho := op49 hf
  have e := opJ_1 (w := w) (q := rj22) (by decide)
  rw [rd49, sayJ, e]
  refine ins_eq (nn (cond_eq hw (by decide)).symm) rfl (by rw [show tests _ = false from rfl, Bool.or_false, fv_none _ _ _ (by decide)]; rfl) rfl (nn (fg (k := 3) w (by decide)).symm) ((n0 (fv_none _ _ _ (by decide))).symm) (nn (fg (k := 6) w (by decide)).symm) ((n0 (fv_none _ _ _ (by decide))).symm) ((n0 (fv_none _ _ _ (by decide))).symm) (by rw [immJ_no (show isB _ = false from rfl), fv_none _ _ _ (by decide)]; rfl) ((n0 (fv_none _ _ _ (by decide))).symm) (nn (fg (k := 18) w (by decide)).symm) ((b0 (fv_none _ _ _ (by decide))).symm) ((b0 (fv_none _ _ _ (by decide))).symm) ((b0 (fv_none _ _ _ (by decide))).symm) ((n0 (by rw [fv_none _ _ _ (by decide)])).symm) ((n0 (fv_none _ _ _ (by decide))).symm) ((n0 (fv_none _ _ _ (by decide))).symm) ((n0 (fv_none _ _ _ (by decide))).symm) ((n0 (fv_none _ _ _ (by decide))).symm)
theorem fi49 {w : Nat} (hf : fitR w rp49 = true) : fiP w rj22.pat = true := (fi_kb _ _).2 (kb_sub ((fit_kb w rp49 (by decide)).1 hf) (by decide))
theorem rd50 (w : Nat) : readP rp50 w = ⟨((w / 268435456 : Nat) : Int), 39, false, 0, 0, ((getP w 5 : Nat) : Int), 0, 0, 0, 0, 0, 0, getP w 20 == 1, getP w 21 == 1, getP w 22 == 1, ((getP w 23 % 65536 : Nat) : Int), 0, 0, 0, 0⟩ := by kernel_rfl
theorem op50 {w : Nat} (hf : fitR w rp50 = true) : rj52.ops.contains (opJ rj52 w) = true := by
  rw [opJ_1 (by decide)]; decide
theorem rs50 {w : Nat} (hw : w < 4294967296) (hf : fitR w rp50 = true) : readP rp50 w = sayJ rj52 w := by
  have ho := op50 hf
  have e := opJ_1 (w := w) (q := rj52) (by decide)
  rw [rd50, sayJ, e]
  refine ins_eq (nn (cond_eq hw (by decide)).symm) rfl (by rw [show tests _ = false from rfl, Bool.or_false, fv_none _ _ _ (by decide)]; rfl) rfl ((n0 (fv_none _ _ _ (by decide))).symm) (nn (fg (k := 5) w (by decide)).symm) ((n0 (fv_none _ _ _ (by decide))).symm) ((n0 (fv_none _ _ _ (by decide))).symm) ((n0 (fv_none _ _ _ (by decide))).symm) (by rw [immJ_no (show isB _ = false from rfl), fv_none _ _ _ (by decide)]; rfl) ((n0 (fv_none _ _ _ (by decide))).symm) ((n0 (fv_none _ _ _ (by decide))).symm) (bb (fg (k := 20) w (by decide)).symm) (bb (fg (k := 21) w (by decide)).symm) (bb (fg (k := 22) w (by decide)).symm) (nn (by rw [fg (k := 23) w (by decide)])) ((n0 (fv_none _ _ _ (by decide))).symm) ((n0 (fv_none _ _ _ (by decide))).symm) ((n0 (fv_none _ _ _ (by decide))).symm) ((n0 (fv_none _ _ _ (by decide))).symm)
theorem fi50 {w : Nat} (hf : fitR w rp50 = true) : fiP w rj52.pat = true := (fi_kb _ _).2 (kb_sub ((fit_kb w rp50 (by decide)).1 hf) (by decide))
theorem rd51 (w : Nat) : readP rp51 w = ⟨((w / 268435456 : Nat) : Int), 40, false, 0, 0, ((getP w 5 : Nat) : Int), 0, 0, 0, 0, 0, 0, getP w 20 == 1, getP w 21 == 1, getP w 22 == 1, ((getP w 23 % 65536 : Nat) : Int), 0, 0, 0, 0⟩ := by kernel_rfl
theorem op51 {w : Nat} (hf : fitR w rp51 = true) : rj53.ops.contains (opJ rj53 w) = true := by
  rw [opJ_1 (by decide)]; decide
theorem rs51 {w : Nat} (hw : w < 4294967296) (hf : fitR w rp51 = true) : readP rp51 w = sayJ rj53 w := by
  have ho := op51 hf
  have e := opJ_1 (w := w) (q := rj53) (by decide)
  rw [rd51, sayJ, e]
  refine ins_eq (nn (cond_eq hw (by decide)).symm) rfl (by rw [show tests _ = false from rfl, Bool.or_false, fv_none _ _ _ (by decide)]; rfl) rfl ((n0 (fv_none _ _ _ (by decide))).symm) (nn (fg (k := 5) w (by decide)).symm) ((n0 (fv_none _ _ _ (by decide))).symm) ((n0 (fv_none _ _ _ (by decide))).symm) ((n0 (fv_none _ _ _ (by decide))).symm) (by rw [immJ_no (show isB _ = false from rfl), fv_none _ _ _ (by decide)]; rfl) ((n0 (fv_none _ _ _ (by decide))).symm) ((n0 (fv_none _ _ _ (by decide))).symm) (bb (fg (k := 20) w (by decide)).symm) (bb (fg (k := 21) w (by decide)).symm) (bb (fg (k := 22) w (by decide)).symm) (nn (by rw [fg (k := 23) w (by decide)])) ((n0 (fv_none _ _ _ (by decide))).symm) ((n0 (fv_none _ _ _ (by decide))).symm) ((n0 (fv_none _ _ _ (by decide))).symm) ((n0 (fv_none _ _ _ (by decide))).symm)
theorem fi51 {w : Nat} (hf : fitR w rp51 = true) : fiP w rj53.pat = true := (fi_kb _ _).2 (kb_sub ((fit_kb w rp51 (by decide)).1 hf) (by decide))
theorem rd52 (w : Nat) : readP rp52 w = ⟨((w / 268435456 : Nat) : Int), 41, false, 0, 0, 0, 0, 0, 0, ((signP (0 ||| getP w 11) : Nat) : Int), 0, 0, false, false, false, 0, 0, 0, 0, 0⟩ := by kernel_rfl
theorem op52 {w : Nat} (hf : fitR w rp52 = true) : rj23.ops.contains (opJ rj23 w) = true := by
  rw [opJ_1 (by decide)]; decide
theorem rs52 {w : Nat} (hw : w < 4294967296) (hf : fitR w rp52 = true) : readP rp52 w = sayJ rj23 w := by
  have ho := op52 hf
  have e := opJ_1 (w := w) (q := rj23) (by decide)
  rw [rd52, sayJ, e]
  refine ins_eq (nn (cond_eq hw (by decide)).symm) rfl (by rw [show tests _ = false from rfl, Bool.or_false, fv_none _ _ _ (by decide)]; rfl) rfl ((n0 (fv_none _ _ _ (by decide))).symm) ((n0 (fv_none _ _ _ (by decide))).symm) ((n0 (fv_none _ _ _ (by decide))).symm) ((n0 (fv_none _ _ _ (by decide))).symm) ((n0 (fv_none _ _ _ (by decide))).symm) (by rw [reach_fv _ _ (by decide)]; exact (reach_eq w).1.symm) ((n0 (fv_none _ _ _ (by decide))).symm) ((n0 (fv_none _ _ _ (by decide))).symm) ((b0 (fv_none _ _ _ (by decide))).symm) ((b0 (fv_none _ _ _ (by decide))).symm) ((b0 (fv_none _ _ _ (by decide))).symm) ((n0 (by rw [fv_none _ _ _ (by decide)])).symm) ((n0 (fv_none _ _ _ (by decide))).symm) ((n0 (fv_none _ _ _ (by decide))).symm) ((n0 (fv_none _ _ _ (by decide))).symm) ((n0 (fv_none _ _ _ (by decide))).symm)
theorem fi52 {w : Nat} (hf : fitR w rp52 = true) : fiP w rj23.pat = true := (fi_kb _ _).2 (kb_sub ((fit_kb w rp52 (by decide)).1 hf) (by decide))
theorem rd53 (w : Nat) : readP rp53 w = ⟨((w / 268435456 : Nat) : Int), 42, false, 0, 0, 0, 0, 0, 0, ((signP (0 ||| getP w 11) : Nat) : Int), 0, 0, false, false, false, 0, 0, 0, 0, 0⟩ := by kernel_rfl
theorem op53 {w : Nat} (hf : fitR w rp53 = true) : rj24.ops.contains (opJ rj24 w) = true := by
  rw [opJ_1 (by decide)]; decide
theorem rs53 {w : Nat} (hw : w < 4294967296) (hf : fitR w rp53 = true) : readP rp53 w = sayJ rj24 w := by
  have ho := op53 hf
  have e := opJ_1 (w := w) (q := rj24) (by decide)
  rw [rd53, sayJ, e]
  refine ins_eq (nn (cond_eq hw (by decide)).symm) rfl (by rw [show tests _ = false from rfl, Bool.or_false, fv_none _ _ _ (by decide)]; rfl) rfl ((n0 (fv_none _ _ _ (by decide))).symm) ((n0 (fv_none _ _ _ (by decide))).symm) ((n0 (fv_none _ _ _ (by decide))).symm) ((n0 (fv_none _ _ _ (by decide))).symm) ((n0 (fv_none _ _ _ (by decide))).symm) (by rw [reach_fv _ _ (by decide)]; exact (reach_eq w).2.symm) ((n0 (fv_none _ _ _ (by decide))).symm) ((n0 (fv_none _ _ _ (by decide))).symm) ((b0 (fv_none _ _ _ (by decide))).symm) ((b0 (fv_none _ _ _ (by decide))).symm) ((b0 (fv_none _ _ _ (by decide))).symm) ((n0 (by rw [fv_none _ _ _ (by decide)])).symm) ((n0 (fv_none _ _ _ (by decide))).symm) ((n0 (fv_none _ _ _ (by decide))).symm) ((n0 (fv_none _ _ _ (by decide))).symm) ((n0 (fv_none _ _ _ (by decide))).symm)
theorem fi53 {w : Nat} (hf : fitR w rp53 = true) : fiP w rj24.pat = true := (fi_kb _ _).2 (kb_sub ((fit_kb w rp53 (by decide)).1 hf) (by decide))
theorem rd54 (w : Nat) : readP rp54 w = ⟨((w / 268435456 : Nat) : Int), 45, false, 0, 0, 0, 0, 0, 0, ((0 ||| getP w 10 : Nat) : Int), 0, 0, false, false, false, 0, 0, 0, 0, 0⟩ := by kernel_rfl
theorem op54 {w : Nat} (hf : fitR w rp54 = true) : rj27.ops.contains (opJ rj27 w) = true := by
  rw [opJ_1 (by decide)]; decide
theorem rs54 {w : Nat} (hw : w < 4294967296) (hf : fitR w rp54 = true) : readP rp54 w = sayJ rj27 w := by
  have ho := op54 hf
  have e := opJ_1 (w := w) (q := rj27) (by decide)
  rw [rd54, sayJ, e]
  refine ins_eq (nn (cond_eq hw (by decide)).symm) rfl (by rw [show tests _ = false from rfl, Bool.or_false, fv_none _ _ _ (by decide)]; rfl) rfl ((n0 (fv_none _ _ _ (by decide))).symm) ((n0 (fv_none _ _ _ (by decide))).symm) ((n0 (fv_none _ _ _ (by decide))).symm) ((n0 (fv_none _ _ _ (by decide))).symm) ((n0 (fv_none _ _ _ (by decide))).symm) (by rw [immJ_no (show isB _ = false from rfl), fg1 (k := 10) w (by decide)]) ((n0 (fv_none _ _ _ (by decide))).symm) ((n0 (fv_none _ _ _ (by decide))).symm) ((b0 (fv_none _ _ _ (by decide))).symm) ((b0 (fv_none _ _ _ (by decide))).symm) ((b0 (fv_none _ _ _ (by decide))).symm) ((n0 (by rw [fv_none _ _ _ (by decide)])).symm) ((n0 (fv_none _ _ _ (by decide))).symm) ((n0 (fv_none _ _ _ (by decide))).symm) ((n0 (fv_none _ _ _ (by decide))).symm) ((n0 (fv_none _ _ _ (by decide))).symm)
theorem fi54 {w : Nat} (hf : fitR w rp54 = true) : fiP w rj27.pat = true := (fi_kb _ _).2 (kb_sub ((fit_kb w rp54 (by decide)).1 hf) (by decide))
theorem rd55 (w : Nat) : readP rp55 w = ⟨((w / 268435456 : Nat) : Int), 49, false, 0, ((getP w 3 : Nat) : Int), 0, 0, 0, 0, 0, 0, 0, false, false, false, 0, ((getP w 24 : Nat) : Int), ((getP w 25 : Nat) : Int), ((getP w 26 : Nat) : Int), ((getP w 27 : Nat) : Int)⟩ := by kernel_rfl
theorem op55 {w : Nat} (hf : fitR w rp55 = true) : rj32.ops.contains (opJ rj32 w) = true := by
  rw [opJ_1 (by decide)]; decide
theorem rs55 {w : Nat} (hw : w < 4294967296) (hf : fitR w rp55 = true) : readP rp55 w = sayJ rj32 w := by
  have ho := op55 hf
  have e := opJ_1 (w := w) (q := rj32) (by decide)
  rw [rd55, sayJ, e]
  refine ins_eq (nn (cond_eq hw (by decide)).symm) rfl (by rw [show tests _ = false from rfl, Bool.or_false, fv_none _ _ _ (by decide)]; rfl) rfl (nn (fg (k := 3) w (by decide)).symm) ((n0 (fv_none _ _ _ (by decide))).symm) ((n0 (fv_none _ _ _ (by decide))).symm) ((n0 (fv_none _ _ _ (by decide))).symm) ((n0 (fv_none _ _ _ (by decide))).symm) (by rw [immJ_no (show isB _ = false from rfl), fv_none _ _ _ (by decide)]; rfl) ((n0 (fv_none _ _ _ (by decide))).symm) ((n0 (fv_none _ _ _ (by decide))).symm) ((b0 (fv_none _ _ _ (by decide))).symm) ((b0 (fv_none _ _ _ (by decide))).symm) ((b0 (fv_none _ _ _ (by decide))).symm) ((n0 (by rw [fv_none _ _ _ (by decide)])).symm) (nn (fg (k := 24) w (by decide)).symm) (nn (fg (k := 25) w (by decide)).symm) (nn (fg (k := 26) w (by decide)).symm) (nn (fg (k := 27) w (by decide)).symm)
theorem fi55 {w : Nat} (hf : fitR w rp55 = true) : fiP w rj32.pat = true := (fi_kb _ _).2 (kb_sub ((fit_kb w rp55 (by decide)).1 hf) (by decide))
theorem rd56 (w : Nat) : readP rp56 w = ⟨((w / 268435456 : Nat) : Int), 50, false, 0, ((getP w 3 : Nat) : Int), 0, 0, 0, 0, 0, 0, 0, false, false, false, 0, ((getP w 24 : Nat) : Int), ((getP w 25 : Nat) : Int), ((getP w 26 : Nat) : Int), ((getP w 27 : Nat) : Int)⟩ := by kernel_rfl
theorem op56 {w : Nat} (hf : fitR w rp56 = true) : rj33.ops.contains (opJ rj33 w) = true := by
  rw [opJ_1 (by decide)]; decide
theorem rs56 {w : Nat} (hw : w < 4294967296) (hf : fitR w rp56 = true) : readP rp56 w = sayJ rj33 w := by
  have ho := op56 hf
  have e := opJ_1 (w := w) (q := rj33) (by decide)
  rw [rd56, sayJ, e]
  refine ins_eq (nn (cond_eq hw (by decide)).symm) rfl (by rw [show tests _ = false from rfl, Bool.or_false, fv_none _ _ _ (by decide)]; rfl) rfl (nn (fg (k := 3) w (by decide)).symm) ((n0 (fv_none _ _ _ (by decide))).symm) ((n0 (fv_none _ _ _ (by decide))).symm) ((n0 (fv_none _ _ _ (by decide))).symm) ((n0 (fv_none _ _ _ (by decide))).symm) (by rw [immJ_no (show isB _ = false from rfl), fv_none _ _ _ (by decide)]; rfl) ((n0 (fv_none _ _ _ (by decide))).symm) ((n0 (fv_none _ _ _ (by decide))).symm) ((b0 (fv_none _ _ _ (by decide))).symm) ((b0 (fv_none _ _ _ (by decide))).symm) ((b0 (fv_none _ _ _ (by decide))).symm) ((n0 (by rw [fv_none _ _ _ (by decide)])).symm) (nn (fg (k := 24) w (by decide)).symm) (nn (fg (k := 25) w (by decide)).symm) (nn (fg (k := 26) w (by decide)).symm) (nn (fg (k := 27) w (by decide)).symm)
theorem fi56 {w : Nat} (hf : fitR w rp56 = true) : fiP w rj33.pat = true := (fi_kb _ _).2 (kb_sub ((fit_kb w rp56 (by decide)).1 hf) (by decide))
end Go.Proofs.YtilhceajhlaojaaGreatDoor.Is
