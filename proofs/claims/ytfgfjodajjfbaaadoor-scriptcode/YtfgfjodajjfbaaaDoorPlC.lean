import Derived.Test.YtfgfjodajjfbaaaDoorPlB
import Derived.Lib.Strings
import Derived.Lib.IndexBytes
namespace Go.Proofs.YtfgfjodajjfbaaaDoor

/-- What a digit counts; 16 for any other rune. -/
def dg (c : Int) : Int := if 48 ≤ c ∧ c ≤ 57 then c - 48 else if 97 ≤ c ∧ c ≤ 102 then c - 87 else if 65 ≤ c ∧ c ≤ 70 then c - 55 else 16
/-- The same in a base, -1 for what is no digit there. -/
def wo (c : Int) (base : Int) : Int := if base ≤ dg c then -1 else dg c

theorem dg_bd (c : Int) : 0 ≤ dg c ∧ dg c ≤ 16 := by
  unfold dg
  repeat' split
  all_goals omega
theorem dg_95 : dg 95 = 16 := by decide
theorem dg_high {c : Int} (h : 128 ≤ c) : dg c = 16 := by
  unfold dg
  rw [if_neg (by omega), if_neg (by omega), if_neg (by omega)]

/-- The number that a text writes from a place on, of digits of a base, v being what stands ahead of it; b: whether the last byte was a digit. -/
def numFrom (s : ByteArray) (base : Int) : Nat → Nat → Int → Bool → Option Int
  | 0, _, v, b => if b then some v else none
  | f + 1, pos, v, b =>
    if pos < s.size then
      if bt s pos = 95 ∧ b = true then numFrom s base f (pos + 1) v false
      else if base ≤ dg (bt s pos) then none
      else if 1099511627776 ≤ v * base + dg (bt s pos) then none
      else numFrom s base f (pos + 1) (v * base + dg (bt s pos)) true
    else if b then some v else none
def numB (s : ByteArray) (base : Int) : Option Int := numFrom s base s.size 0 0 false
/-- The number told, and the error. -/
def numV (o : Option Int) : Int := o.getD 0
def numE (o : Option Int) : Int := if o.isSome then 0 else 11
theorem numV_none : numV none = 0 := rfl
theorem numE_none : numE none = 11 := rfl
theorem numV_some (v : Int) : numV (some v) = v := rfl
theorem numE_some (v : Int) : numE (some v) = 0 := rfl

theorem numFrom_end (s : ByteArray) (base : Int) (f pos : Nat) (v : Int) (b : Bool) (h : ¬ pos < s.size) : numFrom s base f pos v b = if b then some v else none := by
  cases f <;> simp [numFrom, h]

section
variable {s : ByteArray} {base : Int} {f pos : Nat} {v : Int} {b : Bool}
theorem numFrom_under (h : pos < s.size) (hf : s.size ≤ pos + f) (h95 : bt s pos = 95) : ∃ g, f = g + 1 ∧ numFrom s base f pos v true = numFrom s base g (pos + 1) v false := by
  cases f with
  | zero => omega
  | succ g => exact ⟨g, rfl, by rw [numFrom, if_pos h, if_pos ⟨h95, rfl⟩]⟩
theorem numFrom_bad (h : pos < s.size) (hf : s.size ≤ pos + f) (hn : ¬ (bt s pos = 95 ∧ b = true)) (hd : base ≤ dg (bt s pos)) : numFrom s base f pos v b = none := by
  cases f with
  | zero => omega
  | succ g => rw [numFrom, if_pos h, if_neg hn, if_pos hd]
theorem numFrom_big (h : pos < s.size) (hf : s.size ≤ pos + f) (hn : ¬ bt s pos = 95) (hd : ¬ base ≤ dg (bt s pos)) (hv : 1099511627776 ≤ v * base + dg (bt s pos)) : numFrom s base f pos v b = none := by
  cases f with
  | zero => omega
  | succ g => rw [numFrom, if_pos h, if_neg (fun x => hn x.1), if_neg hd, if_pos hv]
theorem numFrom_step (h : pos < s.size) (hf : s.size ≤ pos + f) (hn : ¬ bt s pos = 95) (hd : ¬ base ≤ dg (bt s pos)) (hv : ¬ 1099511627776 ≤ v * base + dg (bt s pos)) :
    ∃ g, f = g + 1 ∧ numFrom s base f pos v b = numFrom s base g (pos + 1) (v * base + dg (bt s pos)) true := by
  cases f with
  | zero => omega
  | succ g => exact ⟨g, rfl, by rw [numFrom, if_pos h, if_neg (fun x => hn x.1), if_neg hd, if_neg hv]⟩
end

/-- Does a text begin with 0x? -/
def is0x (s : ByteArray) : Bool := decide (2 ≤ s.size ∧ bt s 0 = 48 ∧ bt s 1 = 120)
/-- The number that a text writes. -/
def numAll (s : ByteArray) : Option Int := if is0x s then numB (s.extract 2 s.size) 16 else numB s 10

theorem pre_eq (s : ByteArray) (h : 2 ≤ s.size) : ((s.extract 0 2).toList == [48, 120]) = decide (bt s 0 = 48 ∧ bt s 1 = 120) := by
  obtain ⟨tl, ht⟩ := Lib.two_bytes s h
  rw [Lib.extract_toList, ht, ← bt_get s 0 (by omega), ← bt_get s 1 (by omega)]
  rw [Bool.eq_iff_iff]
  simp only [List.drop_zero, Nat.sub_zero, List.take_succ_cons, List.take_zero, beq_iff_eq, List.cons.injEq, and_true, decide_eq_true_eq, ← UInt8.toNat_inj]
  rfl

end Go.Proofs.YtfgfjodajjfbaaaDoor
