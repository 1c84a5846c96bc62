import Derived.Test.YtfgfjodajjfbaaaDoorPl
namespace Go.Proofs.YtfgfjodajjfbaaaDoor

/-- A letter. -/
def ltr (r : Int) : Bool := decide ((97 ≤ r ∧ r ≤ 122) ∨ (65 ≤ r ∧ r ≤ 90) ∨ (192 ≤ r ∧ r ≤ 591 ∧ r ≠ 215 ∧ r ≠ 247) ∨ (913 ≤ r ∧ r ≤ 969 ∧ r ≠ 930))
/-- A digit. -/
def dgt (r : Int) : Bool := decide (48 ≤ r ∧ r ≤ 57)
/-- May the rune stand in a name, as its first one or behind it? -/
def inN (r : Int) (first : Bool) : Bool := ltr r || (!first && (dgt r || r == 95))

theorem decode_bad {s : ByteArray} {i : Nat} (h : 128 ≤ bt s i) (e : (Utf8.decode s i).2 = 1) : Utf8.decode s i = (65533, 1) := by
  revert e
  rw [dec_eq, if_neg (by omega)]
  repeat' split
  all_goals simp

theorem inN_rr (s : ByteArray) (i : Nat) (f : Bool) : inN (rr s i) f = inN ((Utf8.decode s i).1 : Int) f := by
  unfold rr
  by_cases h : 128 ≤ bt s i ∧ (Utf8.decode s i).2 = 1
  · rw [if_pos h, decode_bad h.1 h.2]
    simp [inN, ltr, dgt]
  · rw [if_neg h]

/-- Is what begins at a place, behind n runes, the rest of a name? -/
def nameFrom (s : ByteArray) : Nat → Nat → Nat → Bool
  | 0, _, n => decide (1 ≤ n ∧ n ≤ 16)
  | f + 1, pos, n => if pos < s.size then inN ((Utf8.decode s pos).1 : Int) ((n : Int) == 0) && nameFrom s f (pos + (Utf8.decode s pos).2) (n + 1) else decide (1 ≤ n ∧ n ≤ 16)
def nameB (s : ByteArray) : Bool := nameFrom s s.size 0 0

theorem nameFrom_end (s : ByteArray) (f pos n : Nat) (h : ¬ pos < s.size) : nameFrom s f pos n = decide (1 ≤ n ∧ n ≤ 16) := by
  cases f <;> simp [nameFrom, h]

theorem nameFrom_big (s : ByteArray) : ∀ f pos n, 16 < n → nameFrom s f pos n = false
  | 0, _, n, h => by simp [nameFrom]; omega
  | f + 1, pos, n, h => by
    have ih := nameFrom_big s f (pos + (Utf8.decode s pos).2) (n + 1) (by omega)
    unfold nameFrom
    rw [ih]
    simp
    omega

theorem nameFrom_yes {s : ByteArray} {f pos n : Nat} (h : pos < s.size) (hb : s.size ≤ pos + f) (hx : inN ((Utf8.decode s pos).1 : Int) ((n : Int) == 0) = true) :
    ∃ g, f = g + 1 ∧ nameFrom s f pos n = nameFrom s g (pos + (Utf8.decode s pos).2) (n + 1) := by
  cases f with
  | zero => omega
  | succ g => exact ⟨g, rfl, by rw [nameFrom, if_pos h, hx, Bool.true_and]⟩

theorem nameFrom_no {s : ByteArray} {f pos n : Nat} (h : pos < s.size) (hb : s.size ≤ pos + f) (hx : inN ((Utf8.decode s pos).1 : Int) ((n : Int) == 0) = false) :
    nameFrom s f pos n = false := by
  cases f with
  | zero => omega
  | succ g => rw [nameFrom, if_pos h, hx, Bool.false_and]

theorem decode_i32 (s : ByteArray) (i : Nat) : (Utf8.decode s i).1 ≤ 2147483647 := decode_le s i

end Go.Proofs.YtfgfjodajjfbaaaDoor
