import Derived.Test.YtkmgmmmpiallhaaDoorQg
namespace Go.Proofs.YtkmgmmmpiallhaaDoor
set_option linter.unusedVariables false
set_option maxRecDepth 100000
def wordK (q : RowJ) : Bool :=
  (nb q.pat == 32 && decide (cnt 49 q.pat ≤ 32)) && (q.pat.all (fun x => lettersJ.contains x || (x == 48 || (x == 49 || x == 32))) && (lettersJ.all (fun c => decide (cnt c q.pat ≤ 32)) && (decide (cnt 108 q.pat ≤ 16) && ((decide (cnt 112 q.pat ≤ 1) && (decide (cnt 117 q.pat ≤ 1) && (decide (cnt 119 q.pat ≤ 1) && decide (cnt 115 q.pat ≤ 1)))) && ((cnt 115 q.pat == 0 || q.ops.all (fun o => !tests o)) && (q.ops.all (fun o => !isB o) || cnt 105 q.pat == 24))))))
theorem wordK_all : ∀ q ∈ rowsJ, wordK q = true := by
  have : rowsJ.all wordK = true := by decide
  exact List.all_eq_true.1 this
/-- A sum of letters' values. -/
theorem sumJ_eq (p : List UInt8) (w : Nat) : ∀ (L : List UInt8) (V : List Nat) (x : Nat), x < 4294967296 → L.length = V.length → (∀ a ∈ L.zip V, mkP a.1 a.2 p = seP a.1 w p) → sumJ p L V x = (x + suP (fun c => seP c w p) L) % 4294967296
  | [], [], x, hx, _, _ => by show x = (x + 0) % 4294967296; omega
  | c :: L, v :: V, x, hx, hl, h => by
    have e : mkP c v p = seP c w p := h (c, v) (List.mem_cons_self ..)
    have ih := sumJ_eq p w L V ((x + seP c w p) % 4294967296) (Nat.mod_lt _ (by decide)) (by simpa using hl) (fun a ha => h a (List.mem_cons_of_mem _ ha))
    show sumJ p L V ((x + mkP c v p) % 4294967296) = (x + (seP c w p + suP (fun c => seP c w p) L)) % 4294967296
    rw [e, ih]
    generalize suP (fun c => seP c w p) L = S
    generalize seP c w p = T
    omega
  | [], v :: V, x, hx, hl, _ => by cases hl
  | c :: L, [], x, hx, hl, _ => by cases hl
theorem se_num {p : List UInt8} {w : Nat} {c : UInt8} {v : Nat} (hc : cnt c p ≤ 32) (hv : v = (((fvP c w p : Nat) : Int) % 4294967296).toNat) : mkP c v p = seP c w p := by
  refine mk_se c w p v ?_
  have h1 := fvP_lt c w p
  have h2 : 2 ^ cnt c p ≤ 2 ^ 32 := Nat.pow_le_pow_right (by decide) hc
  have h3 : (2 : Nat) ^ 32 = 4294967296 := by decide
  have : v = fvP c w p := by omega
  rw [this]; exact Nat.mod_eq_of_lt h1
theorem se_bool {p : List UInt8} {w : Nat} {c : UInt8} {v : Nat} (hc : cnt c p ≤ 1) (hv : v = (fvP c w p == 1).toNat) : mkP c v p = seP c w p := by
  refine mk_se c w p v ?_
  have h1 := fvP_lt c w p
  have h2 : 2 ^ cnt c p ≤ 2 ^ 1 := Nat.pow_le_pow_right (by decide) hc
  have : v = fvP c w p := by
    rcases (by omega : fvP c w p = 0 ∨ fvP c w p = 1) with e | e <;> rw [hv, e] <;> rfl
  rw [this]; exact Nat.mod_eq_of_lt h1
theorem se_zero {p : List UInt8} {w : Nat} {c : UInt8} {v : Nat} (hc : cnt c p = 0) : mkP c v p = seP c w p := by
  refine mk_se c w p v ?_
  rw [hc, fv_none c p w hc, Nat.pow_zero, Nat.mod_one]
theorem reach_back (x : Nat) (h : x < 16777216) : (if 33554432 ≤ x * 4 % 4294967296 then (((x * 4 + 4227858432) % 4294967296 : Nat) : Int) else ((x * 4 % 4294967296 : Nat) : Int)).toNat / 4 % 16777216 = x := by
  by_cases h1 : 33554432 ≤ x * 4 % 4294967296
  · rw [if_pos h1, Int.toNat_natCast]; omega
  · rw [if_neg h1, Int.toNat_natCast]; omega
/-- The reference's word of what a row says is the word. -/
theorem word_say {q : RowJ} {w : Nat} (hq : q ∈ rowsJ) (hw : w < 4294967296) (hf : fiP w q.pat = true) (ho : q.ops.contains (opJ q w) = true) : wordJ q (sayJ q w) = w := by
  have hk := wordK_all q hq
  simp only [wordK, Bool.and_eq_true, decide_eq_true_eq, beq_iff_eq] at hk
  obtain ⟨⟨k1, k2⟩, k3, k4, k5, ⟨k6, k7, k8, k9⟩, k10, k11⟩ := hk
  have hmem : opJ q w ∈ q.ops := by simpa using ho
  have hc : ∀ c ∈ lettersJ, cnt c q.pat ≤ 32 := fun c h => by simpa using List.all_eq_true.1 k4 c h
  have hall := all_se lettersJ (by decide) (by decide) (by decide) (by decide) w q.pat (fun x hx => by
    have := List.all_eq_true.1 k3 x hx
    simpa [or_assoc] using this) hf
  rw [k1] at hall
  have hon : onP q.pat < 4294967296 := by
    have : w % 2 ^ 32 < 2 ^ 32 := Nat.mod_lt _ (by decide)
    have h3 : (2 : Nat) ^ 32 = 4294967296 := by decide
    omega
  rw [wordJ, mk_on q.pat k2, sumJ_eq q.pat w lettersJ _ _ hon rfl ?_, hall]
  · have h3 : (2 : Nat) ^ 32 = 4294967296 := by decide
    rw [h3]; omega
  · show ∀ a ∈ [((99 : UInt8), (((sayJ q w).cond % 4294967296).toNat)), (111, ((((sayJ q w).op - 1) % 4294967296).toNat)), (100, (((sayJ q w).rd % 4294967296).toNat)), (110, (((sayJ q w).rn % 4294967296).toNat)), (109, (((sayJ q w).rm % 4294967296).toNat)), (114, (((sayJ q w).rs % 4294967296).toNat)), (97, (((sayJ q w).ra % 4294967296).toNat)), (116, (((sayJ q w).shift % 4294967296).toNat)), (107, (((sayJ q w).amount % 4294967296).toNat)), (120, (((sayJ q w).crn % 4294967296).toNat)), (121, (((sayJ q w).op1 % 4294967296).toNat)), (122, (((sayJ q w).crm % 4294967296).toNat)), (118, (((sayJ q w).op2 % 4294967296).toNat)), (108, (sayJ q w).list.toNat), (105, (if isB (sayJ q w).op then (sayJ q w).imm.toNat / 4 else (sayJ q w).imm.toNat)), (115, (sayJ q w).s.toNat), (112, (sayJ q w).pre.toNat), (117, (sayJ q w).up.toNat), (119, (sayJ q w).write.toNat)], mkP a.1 a.2 q.pat = seP a.1 w q.pat
    simp only [List.forall_mem_cons]
    refine ⟨se_num (hc _ (by decide)) rfl, ?_, se_num (hc _ (by decide)) rfl, se_num (hc _ (by decide)) rfl, se_num (hc _ (by decide)) rfl, se_num (hc _ (by decide)) rfl, se_num (hc _ (by decide)) rfl, se_num (hc _ (by decide)) rfl, se_num (hc _ (by decide)) rfl, se_num (hc _ (by decide)) rfl, se_num (hc _ (by decide)) rfl, se_num (hc _ (by decide)) rfl, se_num (hc _ (by decide)) rfl, ?_, ?_, ?_, se_bool k6 rfl, se_bool k7 rfl, se_bool k8 rfl, fun p h => by cases h⟩
    · by_cases h0 : 0 < cnt 111 q.pat
      · refine se_num (hc 111 (by decide)) ?_
        show (((opJ q w) - 1) % 4294967296).toNat = _
        rw [opJ, if_pos h0, Int.add_sub_cancel]
      · exact se_zero (by omega)
    · refine mk_se 108 w q.pat _ ?_
      have h1 := fvP_lt 108 w q.pat
      have h2 : 2 ^ cnt 108 q.pat ≤ 2 ^ 16 := Nat.pow_le_pow_right (by decide) k5
      have h3 : (2 : Nat) ^ 16 = 65536 := by decide
      show (((fvP 108 w q.pat % 65536 : Nat) : Int)).toNat % 2 ^ cnt 108 q.pat = _
      rw [Int.toNat_natCast, Nat.mod_eq_of_lt (by omega : fvP 108 w q.pat < 65536)]
      exact Nat.mod_eq_of_lt h1
    · have h1 := fvP_lt 105 w q.pat
      refine mk_se 105 w q.pat _ ?_
      show (if isB (opJ q w) then (immJ (opJ q w) (fvP 105 w q.pat)).toNat / 4 else (immJ (opJ q w) (fvP 105 w q.pat)).toNat) % 2 ^ cnt 105 q.pat = _
      cases hb : isB (opJ q w) with
      | false =>
        rw [immJ_no hb]
        exact Nat.mod_eq_of_lt h1
      | true =>
        have h24 : cnt 105 q.pat = 24 := by
          rw [Bool.or_eq_true] at k11
          rcases k11 with h | h
          · have := List.all_eq_true.1 h _ hmem
            rw [hb] at this; cases this
          · simpa using h
        rw [h24] at h1 ⊢
        rw [if_pos rfl, immJ, if_pos hb]
        rw [show (2 : Nat) ^ 24 = 16777216 from rfl] at h1 ⊢
        exact reach_back _ h1
    · rw [Bool.or_eq_true] at k10
      rcases k10 with h | h
      · exact se_zero (by simpa using h)
      · refine se_bool k9 ?_
        show (fvP 115 w q.pat == 1 || tests (opJ q w)).toNat = _
        have := List.all_eq_true.1 h _ hmem
        have ht : tests (opJ q w) = false := by simpa using this
        rw [ht, Bool.or_false]
end Go.Proofs.YtkmgmmmpiallhaaDoor
