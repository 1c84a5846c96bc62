import Derived.Test.YtfgfjodajjfbaaaDoorPlC
import Derived.Lib.Bytealg
import Derived.Lib.IndexLaws
namespace Go.Proofs.YtfgfjodajjfbaaaDoor

/-- A blank. -/
def blk (r : Int) : Bool := decide (r = 9 ∨ r = 13 ∨ r = 32 ∨ r = 160 ∨ r = 8195 ∨ r = 12288)

theorem blk_rr (s : ByteArray) (i : Nat) : blk (rr s i) = blk ((Utf8.decode s i).1 : Int) := by
  unfold rr
  by_cases h : 128 ≤ bt s i ∧ (Utf8.decode s i).2 = 1
  · rw [if_pos h, decode_bad h.1 h.2]
    simp [blk]
  · rw [if_neg h]

/-- The words of a text from a place on; st: where the word that is gone through begins, below 0 between words. -/
def fieldsFrom (t : ByteArray) : Nat → Nat → Int → List ByteArray
  | 0, _, st => if 0 ≤ st then [t.extract st.toNat t.size] else []
  | f + 1, pos, st =>
    if pos < t.size then
      if blk ((Utf8.decode t pos).1 : Int) then (if 0 ≤ st then [t.extract st.toNat pos] else []) ++ fieldsFrom t f (pos + (Utf8.decode t pos).2) (-1)
      else fieldsFrom t f (pos + (Utf8.decode t pos).2) (if 0 ≤ st then st else pos)
    else if 0 ≤ st then [t.extract st.toNat t.size] else []
def fieldsB (t : ByteArray) : List ByteArray := fieldsFrom t t.size 0 (-1)

section
variable {t : ByteArray} {f pos : Nat} {st : Int}
theorem fields_end (h : ¬ pos < t.size) : fieldsFrom t f pos st = if 0 ≤ st then [t.extract st.toNat t.size] else [] := by
  cases f <;> simp [fieldsFrom, h]
theorem fields_cut (h : pos < t.size) (hf : t.size ≤ pos + f) (hb : blk ((Utf8.decode t pos).1 : Int) = true) (hst : 0 ≤ st) :
    ∃ g, f = g + 1 ∧ fieldsFrom t f pos st = t.extract st.toNat pos :: fieldsFrom t g (pos + (Utf8.decode t pos).2) (-1) := by
  cases f with
  | zero => omega
  | succ g => exact ⟨g, rfl, by rw [fieldsFrom, if_pos h, if_pos hb, if_pos hst]; rfl⟩
theorem fields_skip (h : pos < t.size) (hf : t.size ≤ pos + f) (hb : blk ((Utf8.decode t pos).1 : Int) = true) (hst : ¬ 0 ≤ st) :
    ∃ g, f = g + 1 ∧ fieldsFrom t f pos st = fieldsFrom t g (pos + (Utf8.decode t pos).2) (-1) := by
  cases f with
  | zero => omega
  | succ g => exact ⟨g, rfl, by rw [fieldsFrom, if_pos h, if_pos hb, if_neg hst]; rfl⟩
theorem fields_in (h : pos < t.size) (hf : t.size ≤ pos + f) (hb : blk ((Utf8.decode t pos).1 : Int) = false) (hst : 0 ≤ st) :
    ∃ g, f = g + 1 ∧ fieldsFrom t f pos st = fieldsFrom t g (pos + (Utf8.decode t pos).2) st := by
  cases f with
  | zero => omega
  | succ g => exact ⟨g, rfl, by rw [fieldsFrom, if_pos h, if_neg (by simp [hb]), if_pos hst]⟩
theorem fields_on (h : pos < t.size) (hf : t.size ≤ pos + f) (hb : blk ((Utf8.decode t pos).1 : Int) = false) (hst : ¬ 0 ≤ st) :
    ∃ g, f = g + 1 ∧ fieldsFrom t f pos st = fieldsFrom t g (pos + (Utf8.decode t pos).2) pos := by
  cases f with
  | zero => omega
  | succ g => exact ⟨g, rfl, by rw [fieldsFrom, if_pos h, if_neg (by simp [hb]), if_neg hst]⟩
end

/-- Where the first # stands, or the text's length. -/
def hpos (s : ByteArray) : Nat := if Lib.indexByte s.data.toList 35 < 0 then s.size else (Lib.indexByte s.data.toList 35).toNat
/-- What stands ahead of it. -/
def ahead (s : ByteArray) : ByteArray := s.extract 0 (hpos s)

theorem bt_data (s : ByteArray) (i : Nat) (h : i < s.size) : ∃ c : UInt8, s.data.toList[i]? = some c ∧ c.toNat = bt s i := by
  refine ⟨s[i]'h, Lib.data_getElem? s i h, bt_get s i h⟩

theorem hpos_le (s : ByteArray) : hpos s ≤ s.size := by
  unfold hpos
  split
  · exact Nat.le_refl _
  · rename_i h
    have e : Lib.indexByte s.data.toList 35 = ((Lib.indexByte s.data.toList 35).toNat : Int) := by omega
    have := (Lib.indexByte_some e).1
    have := (List.getElem?_eq_some_iff.1 this).1
    rw [← Lib.size_eq] at this
    omega

theorem hpos_ne (s : ByteArray) (i : Nat) (h : i < hpos s) : bt s i ≠ 35 := by
  have hle := hpos_le s
  obtain ⟨c, hc, hb⟩ := bt_data s i (by omega)
  intro h35
  have hc35 : c = 35 := by
    apply UInt8.toNat_inj.1
    rw [hb, h35]
    rfl
  subst hc35
  unfold hpos at h
  split at h
  · rename_i hneg
    have hge := Lib.indexByte_ge s.data.toList 35
    exact Lib.indexByte_none (by omega) i hc
  · rename_i hnn
    have e : Lib.indexByte s.data.toList 35 = ((Lib.indexByte s.data.toList 35).toNat : Int) := by omega
    exact (Lib.indexByte_some e).2 i h hc

theorem hpos_at (s : ByteArray) (h : hpos s < s.size) : bt s (hpos s) = 35 := by
  obtain ⟨c, hc, hb⟩ := bt_data s (hpos s) h
  rw [← hb]
  revert hc h
  unfold hpos
  split
  · intro h
    omega
  · rename_i hnn
    intro h hc
    have e : Lib.indexByte s.data.toList 35 = ((Lib.indexByte s.data.toList 35).toNat : Int) := by omega
    have := (Lib.indexByte_some e).1
    rw [this] at hc
    cases hc
    rfl

theorem ahead_size (s : ByteArray) : (ahead s).size = hpos s := by
  have := hpos_le s
  unfold ahead
  simp
  omega

theorem ahead_bt (s : ByteArray) (i : Nat) (h : i < hpos s) : bt (ahead s) i = bt s i := by
  have hle := hpos_le s
  obtain ⟨c, hc, hb⟩ := bt_data s i (by omega)
  obtain ⟨d, hd, hb'⟩ := bt_data (ahead s) i (by rw [ahead_size]; exact h)
  rw [← hb, ← hb']
  unfold ahead at hd
  rw [Lib.extract_data] at hd
  simp only [List.drop_zero, Nat.sub_zero] at hd
  rw [List.getElem?_take_of_lt h, hc] at hd
  cases hd
  rfl

theorem ahead_tl (s : ByteArray) (i : Nat) (h : i ≤ hpos s) : tl (ahead s) i = tl s i := by
  by_cases he : i = hpos s
  · subst he
    have h1 : tl (ahead s) (hpos s) = false := by
      unfold tl
      rw [ahead_size]
      simp
    rw [h1]
    unfold tl
    by_cases hs : hpos s < s.size
    · rw [hpos_at s hs]
      simp
    · simp [hs]
  · have hlt : i < hpos s := by omega
    have hle := hpos_le s
    unfold tl
    rw [ahead_size, ahead_bt s i hlt]
    simp only [show i < hpos s from hlt, show i < s.size by omega, decide_true]

theorem ahead_dec (s : ByteArray) (i : Nat) (h : i < hpos s) : Utf8.decode (ahead s) i = Utf8.decode s i := by
  rw [dec_eq, dec_eq, ahead_bt s i h, ahead_tl s (i + 1) (by omega)]
  by_cases h1 : tl s (i + 1) = true
  · have hlt1 : i + 1 < hpos s := by
      refine Nat.lt_of_le_of_ne (by omega) (fun e => ?_)
      obtain ⟨a, _, b⟩ := tl_bd h1
      rw [e] at a b
      rw [hpos_at s b] at a
      omega
    rw [ahead_bt s (i + 1) hlt1, ahead_tl s (i + 2) (by omega)]
    by_cases h2 : tl s (i + 2) = true
    · have hlt2 : i + 2 < hpos s := by
        refine Nat.lt_of_le_of_ne (by omega) (fun e => ?_)
        obtain ⟨a, _, b⟩ := tl_bd h2
        rw [e] at a b
        rw [hpos_at s b] at a
        omega
      rw [ahead_bt s (i + 2) hlt2, ahead_tl s (i + 3) (by omega)]
      by_cases h3 : tl s (i + 3) = true
      · have hlt3 : i + 3 < hpos s := by
          refine Nat.lt_of_le_of_ne (by omega) (fun e => ?_)
          obtain ⟨a, _, b⟩ := tl_bd h3
          rw [e] at a b
          rw [hpos_at s b] at a
          omega
        rw [ahead_bt s (i + 3) hlt3]
      · simp only [Bool.not_eq_true] at h3
        simp [h3]
    · simp only [Bool.not_eq_true] at h2
      simp [h2]
  · simp only [Bool.not_eq_true] at h1
    simp [h1]

theorem ahead_cut (s : ByteArray) (a b : Nat) (h : b ≤ hpos s) : (ahead s).extract a b = s.extract a b := by
  unfold ahead
  rw [Lib.extract_eq, Lib.extract_eq s a b, Lib.extract_data]
  congr 2
  simp only [List.drop_zero, Nat.sub_zero]
  rw [List.drop_take, List.take_take]
  congr 1
  omega

theorem ahead_miss (s : ByteArray) (h : Lib.indexByte s.data.toList 35 = -1) : ahead s = s := by
  unfold ahead hpos
  rw [if_pos (by omega), Lib.extract_eq]
  simp only [List.drop_zero, Nat.sub_zero]
  rw [List.take_of_length_le (by rw [← Lib.size_eq]; exact Nat.le_refl _)]

theorem ahead_hit (s : ByteArray) (i : Nat) (h : Lib.indexByte s.data.toList 35 = i) : ahead s = s.extract 0 i ∧ i < s.size := by
  have e : hpos s = i := by
    unfold hpos
    rw [if_neg (by omega)]
    omega
  refine ⟨by unfold ahead; rw [e], ?_⟩
  have := (Lib.indexByte_some h).1
  have := (List.getElem?_eq_some_iff.1 this).1
  rw [← Lib.size_eq] at this
  exact this

end Go.Proofs.YtfgfjodajjfbaaaDoor
