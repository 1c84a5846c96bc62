import Derived.Test.YtkmgmmmpiallhaaDoorQj
import Derived.Test.YtkmgmmmpiallhaaDoorGb
namespace Go.Proofs.YtkmgmmmpiallhaaDoor
set_option linter.unusedVariables false
set_option maxRecDepth 100000
def onlyN (b : Bool) (n : Int) : Nat := if b then 2 ^ n.toNat else 0
/-- What the program says that an instruction reads. -/
def readsR (r : RowP) (i : Ins) : Nat :=
  let n := ((onlyN (hasR r 5) i.rn ||| onlyN (hasR r 6) i.rm) ||| onlyN (hasR r 7) i.rs) ||| (onlyN (rRaP i.op) i.ra ||| onlyN (rRdP i.op) i.rd)
  if i.op = 40 then n ||| i.list.toNat else n
def readsP (i : Ins) : Nat := match encP i with | none => 0 | some _ => readsR ((rowN i.op i.form).getD rowZ) i
def writesR (r : RowP) (i : Ins) : Nat :=
  let n := (onlyN ((hasR r 3 || hasR r 4) && !sendsP i.op) i.rd ||| onlyN (isLongP i.op) i.ra) ||| ((onlyN (movesP i) i.rn ||| onlyN (goesP i.op) 15) ||| onlyN (comesP i.op) 14)
  if i.op = 39 then n ||| i.list.toNat else n
def writesP (i : Ins) : Nat := match encP i with | none => 0 | some _ => writesR ((rowN i.op i.form).getD rowZ) i
/-- What the reference says. -/
def raJ (op : Int) : Bool := [20, 22, 24].contains op
def rdJ (op : Int) : Bool := [18, 22, 24, 32, 34, 36, 49].contains op
def readsQ (q : RowJ) (i : Ins) : Nat :=
  let n := (((onlyN (hasJ q 110) i.rn ||| onlyN (hasJ q 109) i.rm) ||| onlyN (hasJ q 114) i.rs) ||| onlyN (raJ i.op) i.ra) ||| onlyN (rdJ i.op) i.rd
  if i.op = 40 then n ||| i.list.toNat else n
def rowJZ : RowJ := ⟨[], 0, []⟩
def readsJ (i : Ins) : Nat := match encJ i with | none => 0 | some w => readsQ ((findJ w).getD rowJZ) i
def wrdJ (op : Int) : Bool := decide (op ≤ 8) || (decide (13 ≤ op) && decide (op ≤ 31) || [33, 35, 37, 38, 47, 50].contains op)
def backJ (i : Ins) : Bool := (decide (31 ≤ i.op) && decide (i.op ≤ 38)) && (i.write || !i.pre) || (i.op == 39 || i.op == 40) && i.write
def writesQ (i : Ins) : Nat :=
  let n := (((onlyN (wrdJ i.op) i.rd ||| onlyN (isLongP i.op) i.ra) ||| onlyN (backJ i) i.rn) ||| onlyN (i.op == 42 || i.op == 44) 14) ||| onlyN (decide (41 ≤ i.op) && decide (i.op ≤ 44)) 15
  if i.op = 39 then n ||| i.list.toNat else n
def writesJ (i : Ins) : Nat := match encJ i with | none => 0 | some _ => writesQ i
def touchK (r : RowP) (q : RowJ) : Bool :=
  ((hasR r 5 == hasJ q 110 && (hasR r 6 == hasJ q 109 && hasR r 7 == hasJ q 114)) &&
  (q.ops.all (fun o => rRaP o == raJ o && rRdP o == rdJ o) &&
  (q.ops.all (fun o => ((hasR r 3 || hasR r 4) && !sendsP o) == wrdJ o && (goesP o == (decide (41 ≤ o) && decide (o ≤ 44)) && comesP o == (o == 42 || o == 44))) &&
  (cnt 119 q.pat == 0 || q.ops.all (fun o => decide (31 ≤ o) && decide (o ≤ 40))))))
theorem touches : ∀ p ∈ prL, touchK p.1 p.2 = true := by
  have : prL.all (fun p => touchK p.1 p.2) = true := by decide
  exact fun p hp => List.all_eq_true.1 this p hp
theorem enc_row {i : Ins} {w : Nat} (h : encP i = some w) : ∃ r q, rowN i.op i.form = some r ∧ (r, q) ∈ prL ∧ findJ w = some q ∧ q.ops.contains i.op = true ∧ i = sayJ q w := by
  obtain ⟨hd, hw⟩ := enc_dec h
  obtain ⟨r, q, hr, hp, hq, hh, hi, hi'⟩ := dec_hit hw hd
  have hj := dec_eq hw
  rw [hd] at hj
  unfold decJ at hj
  cases hf : findJ w with
  | none => rw [hf] at hj; cases hj
  | some q' =>
    have hf' : rowsJ.find? (hitJ w) = some q' := hf
    have hq' := List.mem_of_find?_eq_some hf'
    have hh' := List.find?_some hf'
    obtain ⟨r', hr', hp'⟩ := to_all w q' hq' hh'
    rw [hr] at hr'
    obtain rfl := Option.some.inj hr'
    have hi2 : i = sayJ q' w := by
      rw [hf] at hj
      exact Option.some.inj hj
    have hfit := (row_fit hr).1
    refine ⟨r, q', ?_, hp', rfl, ?_, hi2⟩
    · rw [hi2]; exact name_of hp' hfit
    · rw [hi2]; exact (pairs _ hp').ops w hfit
theorem or_five (a b c d e : Nat) : ((a ||| b) ||| c) ||| (d ||| e) = (((a ||| b) ||| c) ||| d) ||| e := (Nat.or_assoc _ _ _).symm
theorem reads_eq (i : Ins) : readsP i = readsJ i := by
  unfold readsP readsJ
  rw [← enc_eq]
  cases he : encP i with
  | none => rfl
  | some w =>
    obtain ⟨r, q, hn, hp, hf, ho, hi⟩ := enc_row he
    have hk := touches _ hp
    simp only [touchK, Bool.and_eq_true, beq_iff_eq] at hk
    obtain ⟨⟨k5, k6, k7⟩, ka, _, _⟩ := hk
    have h2 := List.all_eq_true.1 ka i.op (by simpa using ho)
    simp only [Bool.and_eq_true, beq_iff_eq] at h2
    show readsR ((rowN i.op i.form).getD rowZ) i = readsQ ((findJ w).getD rowJZ) i
    rw [hn, hf]
    show readsR r i = readsQ q i
    unfold readsR readsQ
    rw [k5, k6, k7, h2.1, h2.2, or_five]
theorem or_six (a b c d e : Nat) : (a ||| b) ||| ((c ||| d) ||| e) = (((a ||| b) ||| c) ||| e) ||| d := by
  rw [← Nat.or_assoc, ← Nat.or_assoc, Nat.or_assoc (a ||| b ||| c), Nat.or_comm d e, ← Nat.or_assoc]
theorem writes_eq (i : Ins) : writesP i = writesJ i := by
  unfold writesP writesJ
  rw [← enc_eq]
  cases he : encP i with
  | none => rfl
  | some w =>
    obtain ⟨r, q, hn, hp, hf, ho, hi⟩ := enc_row he
    have hk := touches _ hp
    simp only [touchK, Bool.and_eq_true] at hk
    obtain ⟨_, _, kb, kc⟩ := hk
    have h2 := List.all_eq_true.1 kb i.op (by simpa using ho)
    simp only [Bool.and_eq_true, beq_iff_eq] at h2
    have hm : movesP i = backJ i := by
      unfold movesP backJ
      have hz : ¬ (31 ≤ i.op ∧ i.op ≤ 40) → i.write = false := by
        intro hn
        rw [Bool.or_eq_true] at kc
        rcases kc with k | k
        · rw [hi]
          show (fvP 119 w q.pat == 1) = false
          rw [fv_none 119 q.pat w (by simpa using k)]; rfl
        · have := List.all_eq_true.1 k i.op (by simpa using ho)
          simp only [Bool.and_eq_true, decide_eq_true_eq] at this
          exact absurd this hn
      by_cases h : 31 ≤ i.op ∧ i.op ≤ 38
      · rw [isOneP, decide_eq_true h.1, decide_eq_true h.2, beq_eq_false_iff_ne.2 (show i.op ≠ 39 by omega), beq_eq_false_iff_ne.2 (show i.op ≠ 40 by omega)]
        simp
      · have h1 : isOneP i.op = false := by rw [isOneP]; by_cases x : 31 ≤ i.op <;> by_cases y : i.op ≤ 38 <;> simp [x, y] <;> omega
        have h1' : (decide (31 ≤ i.op) && decide (i.op ≤ 38)) = false := h1
        rw [h1, h1', Bool.false_and, Bool.false_and, Bool.or_false, Bool.false_or]
        by_cases h4 : i.op = 39 ∨ i.op = 40
        · have : (i.op == 39 || i.op == 40) = true := by rcases h4 with e | e <;> rw [e] <;> rfl
          rw [this, Bool.true_and]
        · rw [hz (by omega), Bool.and_false]
    show writesR ((rowN i.op i.form).getD rowZ) i = writesQ i
    rw [hn]
    show writesR r i = writesQ i
    unfold writesR writesQ
    rw [h2.1, h2.2.1, h2.2.2, hm, or_six]
theorem onlyP_N (b : Bool) (n : Int) : onlyP b n = ((onlyN b n : Nat) : Int) := by
  cases b
  · rfl
  · show (2 : Int) ^ n.toNat = ((2 ^ n.toNat : Nat) : Int)
    rw [pow_nat]
end Go.Proofs.YtkmgmmmpiallhaaDoor
