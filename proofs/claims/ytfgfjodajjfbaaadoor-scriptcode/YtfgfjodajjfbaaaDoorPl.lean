import Derived.Laws.RangeAny
import Derived.Lib.RuneCount
namespace Go.Proofs.YtfgfjodajjfbaaaDoor

/-- The byte at a place. -/
def bt (s : ByteArray) (i : Nat) : Nat := (s.get! i).toNat
/-- Does a rune go on there? -/
def tl (s : ByteArray) (i : Nat) : Bool := decide (i < s.size) && (decide (128 ≤ bt s i) && decide (bt s i ≤ 191))
/-- The rune that begins there, -1 a bad one. -/
def rr (s : ByteArray) (i : Nat) : Int := if 128 ≤ bt s i ∧ (Utf8.decode s i).2 = 1 then -1 else ((Utf8.decode s i).1 : Int)
/-- How many bytes it has. -/
def rl (s : ByteArray) (i : Nat) : Nat := (Utf8.decode s i).2

theorem bt_lt (s : ByteArray) (i : Nat) : bt s i < 256 := (s.get! i).toNat_lt
theorem bt_get (s : ByteArray) (i : Nat) (h : i < s.size) : (s[i]'h).toNat = bt s i := by
  have := get_at s i h
  simp at this
  unfold bt
  rw [this]

theorem cont_tl (s : ByteArray) (i k : Nat) : (decide (i + k < s.size) && ((s.get! (i + k)).toNat / 64 == 2)) = tl s (i + k) := by
  unfold tl bt
  by_cases h : i + k < s.size
  · simp only [h, decide_true, Bool.true_and]
    rw [Bool.eq_iff_iff]
    simp
    omega
  · simp [h]

theorem dec_eq (s : ByteArray) (i : Nat) : Utf8.decode s i =
    if bt s i < 128 then (bt s i, 1)
    else if (bt s i / 32 == 6 && tl s (i + 1)) = true then
      (if (bt s i % 32) * 64 + bt s (i + 1) % 64 ≥ 128 then ((bt s i % 32) * 64 + bt s (i + 1) % 64, 2) else (65533, 1))
    else if (bt s i / 16 == 14 && tl s (i + 1) && tl s (i + 2)) = true then
      (if ((bt s i % 16) * 4096 + (bt s (i + 1) % 64) * 64 + bt s (i + 2) % 64 ≥ 2048 && Utf8.valid (((bt s i % 16) * 4096 + (bt s (i + 1) % 64) * 64 + bt s (i + 2) % 64 : Nat) : Int)) = true
        then ((bt s i % 16) * 4096 + (bt s (i + 1) % 64) * 64 + bt s (i + 2) % 64, 3) else (65533, 1))
    else if (bt s i / 8 == 30 && tl s (i + 1) && tl s (i + 2) && tl s (i + 3)) = true then
      (if ((bt s i % 8) * 262144 + (bt s (i + 1) % 64) * 4096 + (bt s (i + 2) % 64) * 64 + bt s (i + 3) % 64 ≥ 65536 && Utf8.valid (((bt s i % 8) * 262144 + (bt s (i + 1) % 64) * 4096 + (bt s (i + 2) % 64) * 64 + bt s (i + 3) % 64 : Nat) : Int)) = true
        then ((bt s i % 8) * 262144 + (bt s (i + 1) % 64) * 4096 + (bt s (i + 2) % 64) * 64 + bt s (i + 3) % 64, 4) else (65533, 1))
    else (65533, 1) := by
  rw [← cont_tl s i 1, ← cont_tl s i 2, ← cont_tl s i 3]
  rfl

theorem tl_bd {s : ByteArray} {i : Nat} (h : tl s i = true) : 128 ≤ bt s i ∧ bt s i ≤ 191 ∧ i < s.size := by
  unfold tl at h
  simp at h
  exact ⟨h.2.1, h.2.2, h.1⟩

theorem rune1 {s : ByteArray} {i : Nat} (h : bt s i < 128) : rr s i = (bt s i : Int) ∧ rl s i = 1 := by
  unfold rr rl
  rw [dec_eq]
  simp [h, Nat.not_le.2 h]

theorem rune2 {s : ByteArray} {i : Nat} (h1 : 194 ≤ bt s i) (h2 : bt s i ≤ 223) (t : tl s (i + 1) = true) :
    rr s i = ((bt s i : Int) - 192) * 64 + (bt s (i + 1) : Int) - 128 ∧ rl s i = 2 := by
  obtain ⟨a, b, _⟩ := tl_bd t
  have e : Utf8.decode s i = ((bt s i % 32) * 64 + bt s (i + 1) % 64, 2) := by
    rw [dec_eq, if_neg (by omega), if_pos (by simp [t]; omega), if_pos (by omega)]
  unfold rr rl
  rw [e]
  refine ⟨?_, rfl⟩
  rw [if_neg (by simp)]
  simp only
  omega

theorem bad_of {s : ByteArray} {i : Nat} (h : 128 ≤ bt s i) (e : Utf8.decode s i = (65533, 1)) : rr s i = -1 ∧ rl s i = 1 := by
  unfold rr rl
  rw [e]
  exact ⟨if_pos ⟨h, rfl⟩, rfl⟩

theorem rune2n {s : ByteArray} {i : Nat} (h1 : 194 ≤ bt s i) (h2 : bt s i ≤ 223) (t : tl s (i + 1) = false) : rr s i = -1 ∧ rl s i = 1 := by
  refine bad_of (by omega) ?_
  rw [dec_eq, if_neg (by omega), if_neg (by simp [t]), if_neg (by simp [t]), if_neg (by simp [t])]

theorem rune3 {s : ByteArray} {i : Nat} (h1 : 224 ≤ bt s i) (h2 : bt s i ≤ 239) (t1 : tl s (i + 1) = true) (t2 : tl s (i + 2) = true)
    (r : Int) (hr : r = ((bt s i : Int) - 224) * 4096 + ((bt s (i + 1) : Int) - 128) * 64 + (bt s (i + 2) : Int) - 128)
    (h : 2048 ≤ r ∧ (r < 55296 ∨ 57343 < r)) : rr s i = r ∧ rl s i = 3 := by
  obtain ⟨a1, b1, _⟩ := tl_bd t1
  obtain ⟨a2, b2, _⟩ := tl_bd t2
  have e : Utf8.decode s i = ((bt s i % 16) * 4096 + (bt s (i + 1) % 64) * 64 + bt s (i + 2) % 64, 3) := by
    rw [dec_eq, if_neg (by omega), if_neg (by simp; omega), if_pos (by simp [t1, t2]; omega), if_pos ?_]
    simp only [Utf8.valid, Bool.and_eq_true, Bool.or_eq_true, decide_eq_true_eq]
    omega
  unfold rr rl
  rw [e]
  refine ⟨?_, rfl⟩
  rw [if_neg (by simp)]
  simp only
  omega

theorem rune3n {s : ByteArray} {i : Nat} (h1 : 224 ≤ bt s i) (h2 : bt s i ≤ 239)
    (h : tl s (i + 1) = false ∨ tl s (i + 2) = false ∨ ¬ (2048 ≤ ((bt s i : Int) - 224) * 4096 + ((bt s (i + 1) : Int) - 128) * 64 + (bt s (i + 2) : Int) - 128 ∧ (((bt s i : Int) - 224) * 4096 + ((bt s (i + 1) : Int) - 128) * 64 + (bt s (i + 2) : Int) - 128 < 55296 ∨ 57343 < ((bt s i : Int) - 224) * 4096 + ((bt s (i + 1) : Int) - 128) * 64 + (bt s (i + 2) : Int) - 128))) :
    rr s i = -1 ∧ rl s i = 1 := by
  refine bad_of (by omega) ?_
  rw [dec_eq, if_neg (by omega), if_neg (by simp; omega)]
  cases t1 : tl s (i + 1)
  · rw [if_neg (by simp), if_neg (by simp)]
  cases t2 : tl s (i + 2)
  · rw [if_neg (by simp), if_neg (by simp)]
  obtain ⟨a1, b1, _⟩ := tl_bd t1
  obtain ⟨a2, b2, _⟩ := tl_bd t2
  rw [if_pos (by simp; omega), if_neg ?_]
  simp only [Utf8.valid, Bool.and_eq_true, Bool.or_eq_true, decide_eq_true_eq]
  simp only [t1, t2, Bool.true_eq_false, false_or] at h
  omega

theorem rune4 {s : ByteArray} {i : Nat} (h1 : 240 ≤ bt s i) (h2 : bt s i ≤ 244) (t1 : tl s (i + 1) = true) (t2 : tl s (i + 2) = true) (t3 : tl s (i + 3) = true)
    (r : Int) (hr : r = ((bt s i : Int) - 240) * 262144 + ((bt s (i + 1) : Int) - 128) * 4096 + ((bt s (i + 2) : Int) - 128) * 64 + (bt s (i + 3) : Int) - 128)
    (h : 65536 ≤ r ∧ r ≤ 1114111) : rr s i = r ∧ rl s i = 4 := by
  obtain ⟨a1, b1, _⟩ := tl_bd t1
  obtain ⟨a2, b2, _⟩ := tl_bd t2
  obtain ⟨a3, b3, _⟩ := tl_bd t3
  have e : Utf8.decode s i = ((bt s i % 8) * 262144 + (bt s (i + 1) % 64) * 4096 + (bt s (i + 2) % 64) * 64 + bt s (i + 3) % 64, 4) := by
    rw [dec_eq, if_neg (by omega), if_neg (by simp; omega), if_neg (by simp; omega), if_pos (by simp [t1, t2, t3]; omega), if_pos ?_]
    simp only [Utf8.valid, Bool.and_eq_true, Bool.or_eq_true, decide_eq_true_eq]
    omega
  unfold rr rl
  rw [e]
  refine ⟨?_, rfl⟩
  rw [if_neg (by simp)]
  simp only
  omega

theorem rune4n {s : ByteArray} {i : Nat} (h1 : 240 ≤ bt s i) (h2 : bt s i ≤ 244)
    (h : tl s (i + 1) = false ∨ tl s (i + 2) = false ∨ tl s (i + 3) = false ∨
      ¬ (65536 ≤ ((bt s i : Int) - 240) * 262144 + ((bt s (i + 1) : Int) - 128) * 4096 + ((bt s (i + 2) : Int) - 128) * 64 + (bt s (i + 3) : Int) - 128 ∧ ((bt s i : Int) - 240) * 262144 + ((bt s (i + 1) : Int) - 128) * 4096 + ((bt s (i + 2) : Int) - 128) * 64 + (bt s (i + 3) : Int) - 128 ≤ 1114111)) :
    rr s i = -1 ∧ rl s i = 1 := by
  refine bad_of (by omega) ?_
  rw [dec_eq, if_neg (by omega), if_neg (by simp; omega), if_neg (by simp; omega)]
  cases t1 : tl s (i + 1)
  · rw [if_neg (by simp)]
  cases t2 : tl s (i + 2)
  · rw [if_neg (by simp)]
  cases t3 : tl s (i + 3)
  · rw [if_neg (by simp)]
  obtain ⟨a1, b1, _⟩ := tl_bd t1
  obtain ⟨a2, b2, _⟩ := tl_bd t2
  obtain ⟨a3, b3, _⟩ := tl_bd t3
  rw [if_pos (by simp; omega), if_neg ?_]
  simp only [Utf8.valid, Bool.and_eq_true, Bool.or_eq_true, decide_eq_true_eq]
  simp only [t1, t2, t3, Bool.true_eq_false, false_or] at h
  omega

theorem runeN {s : ByteArray} {i : Nat} (h1 : 128 ≤ bt s i) (h2 : bt s i < 194 ∨ 244 < bt s i) : rr s i = -1 ∧ rl s i = 1 := by
  have hb := bt_lt s i
  refine bad_of h1 ?_
  rw [dec_eq, if_neg (by omega)]
  by_cases c : (bt s i / 32 == 6 && tl s (i + 1)) = true
  · rw [if_pos c, if_neg ?_]
    simp at c
    omega
  rw [if_neg c, if_neg (by simp; omega)]
  by_cases d : (bt s i / 8 == 30 && tl s (i + 1) && tl s (i + 2) && tl s (i + 3)) = true
  · rw [if_pos d, if_neg ?_]
    simp only [Bool.and_eq_true, beq_iff_eq] at d
    obtain ⟨a1, b1, _⟩ := tl_bd d.1.1.2
    obtain ⟨a2, b2, _⟩ := tl_bd d.1.2
    obtain ⟨a3, b3, _⟩ := tl_bd d.2
    simp only [Utf8.valid, Bool.and_eq_true, Bool.or_eq_true, decide_eq_true_eq]
    omega
  · rw [if_neg d]

theorem rl_bd (s : ByteArray) (i : Nat) : 1 ≤ rl s i ∧ rl s i ≤ 4 := by
  unfold rl
  rw [dec_eq]
  repeat' split
  all_goals simp

theorem rl_in (s : ByteArray) (i : Nat) (h : i < s.size) : i + rl s i ≤ s.size := by
  unfold rl
  rw [dec_eq]
  by_cases h0 : bt s i < 128
  · rw [if_pos h0]
    simp
    omega
  rw [if_neg h0]
  by_cases c : (bt s i / 32 == 6 && tl s (i + 1)) = true
  · rw [if_pos c]
    simp only [Bool.and_eq_true] at c
    have := (tl_bd c.2).2.2
    split <;> (simp; omega)
  rw [if_neg c]
  by_cases c : (bt s i / 16 == 14 && tl s (i + 1) && tl s (i + 2)) = true
  · rw [if_pos c]
    simp only [Bool.and_eq_true] at c
    have := (tl_bd c.2).2.2
    split <;> (simp; omega)
  rw [if_neg c]
  by_cases d : (bt s i / 8 == 30 && tl s (i + 1) && tl s (i + 2) && tl s (i + 3)) = true
  · rw [if_pos d]
    simp only [Bool.and_eq_true] at d
    have := (tl_bd d.2).2.2
    split <;> (simp; omega)
  · rw [if_neg d]
    simp
    omega

end Go.Proofs.YtfgfjodajjfbaaaDoor
