import Derived.Test.YtfgfjodajjfbaaaDoorPlD
namespace Go.Proofs.YtfgfjodajjfbaaaDoor

/-- Two texts that are alike up to a place at which no rune goes on. -/
theorem dec_same (t u : ByteArray) (n : Nat) (hb : ∀ i, i < n → bt t i = bt u i) (ht : ∀ i, i ≤ n → tl t i = tl u i) (hn : tl u n = false) (i : Nat) (h : i < n) : Utf8.decode t i = Utf8.decode u i := by
  rw [dec_eq, dec_eq, hb i h, ht (i + 1) (by omega)]
  by_cases h1 : tl u (i + 1) = true
  · have hlt1 : i + 1 < n := Nat.lt_of_le_of_ne (by omega) (fun e => by rw [e, hn] at h1; cases h1)
    rw [hb (i + 1) hlt1, ht (i + 2) (by omega)]
    by_cases h2 : tl u (i + 2) = true
    · have hlt2 : i + 2 < n := Nat.lt_of_le_of_ne (by omega) (fun e => by rw [e, hn] at h2; cases h2)
      rw [hb (i + 2) hlt2, ht (i + 3) (by omega)]
      by_cases h3 : tl u (i + 3) = true
      · have hlt3 : i + 3 < n := Nat.lt_of_le_of_ne (by omega) (fun e => by rw [e, hn] at h3; cases h3)
        rw [hb (i + 3) hlt3]
      · simp only [Bool.not_eq_true] at h3
        simp [h3]
    · simp only [Bool.not_eq_true] at h2
      simp [h2]
  · simp only [Bool.not_eq_true] at h1
    simp [h1]

theorem bt_of_data {s t : ByteArray} {i j : Nat} (hi : i < s.size) (hj : j < t.size) (h : s.data.toList[i]? = t.data.toList[j]?) : bt s i = bt t j := by
  obtain ⟨c, hc, hb⟩ := bt_data s i hi
  obtain ⟨d, hd, hb'⟩ := bt_data t j hj
  rw [hc, hd] at h
  cases h
  rw [← hb, ← hb']

theorem app_data (s u : ByteArray) : (s ++ u).data.toList = s.data.toList ++ u.data.toList := by
  rw [ByteArray.data_append]
  simp

theorem app_size (s u : ByteArray) : (s ++ u).size = s.size + u.size := by simp

theorem app_bt_l (s u : ByteArray) (i : Nat) (h : i < s.size) : bt (s ++ u) i = bt s i := by
  refine bt_of_data (by rw [app_size]; omega) h ?_
  rw [app_data, List.getElem?_append_left (by rw [← Lib.size_eq]; exact h)]

theorem app_bt_r (s u : ByteArray) (i : Nat) (h : i < u.size) : bt (s ++ u) (s.size + i) = bt u i := by
  refine bt_of_data (by rw [app_size]; omega) h ?_
  rw [app_data, List.getElem?_append_right (by rw [← Lib.size_eq]; omega), ← Lib.size_eq]
  congr 1
  omega

theorem tl_off {s : ByteArray} {i : Nat} (h : ¬ i < s.size) : tl s i = false := by
  unfold tl
  simp [h]

theorem app_tl_l (s u : ByteArray) (i : Nat) (h : i < s.size) : tl (s ++ u) i = tl s i := by
  unfold tl
  rw [app_size, app_bt_l s u i h]
  simp only [show i < s.size + u.size by omega, h]

/-- A text with another behind it that doesn't go on in a rune. -/
theorem dec_app (s u : ByteArray) (hu : tl u 0 = false) (i : Nat) (h : i < s.size) : Utf8.decode (s ++ u) i = Utf8.decode s i := by
  have hn : tl (s ++ u) s.size = false := by
    by_cases h0 : 0 < u.size
    · have e := app_bt_r s u 0 h0
      unfold tl at hu ⊢
      rw [Nat.add_zero] at e
      rw [app_size, e]
      simp only [show s.size < s.size + u.size by omega, h0] at hu ⊢
      exact hu
    · exact tl_off (by rw [app_size]; omega)
  refine (dec_same s (s ++ u) s.size (fun j hj => (app_bt_l s u j hj).symm) (fun j hj => ?_) hn i h).symm
  rcases Nat.lt_or_eq_of_le hj with h1 | rfl
  · exact (app_tl_l s u j h1).symm
  · rw [hn]
    exact tl_off (by omega)

/-- Are the runes from a place on, behind n others, ones of a name? -/
def okFrom (s : ByteArray) : Nat → Nat → Nat → Bool
  | 0, _, _ => true
  | f + 1, pos, n => if pos < s.size then inN ((Utf8.decode s pos).1 : Int) ((n : Int) == 0) && okFrom s f (pos + (Utf8.decode s pos).2) (n + 1) else true

theorem okFrom_end {s : ByteArray} {f pos n : Nat} (h : ¬ pos < s.size) : okFrom s f pos n = true := by
  cases f <;> simp [okFrom, h]

theorem name_split (s : ByteArray) : ∀ f pos n, nameFrom s f pos n = (okFrom s f pos n && decide (1 ≤ n + Lib.runeCountFrom s f pos ∧ n + Lib.runeCountFrom s f pos ≤ 16))
  | 0, pos, n => by
    simp only [nameFrom, okFrom, Lib.runeCountFrom, Nat.add_zero, Bool.true_and]
    exact decide_eq_decide.2 Iff.rfl
  | f + 1, pos, n => by
    have ih := name_split s f (pos + (Utf8.decode s pos).2) (n + 1)
    unfold nameFrom okFrom Lib.runeCountFrom
    by_cases h : pos < s.size
    · rw [if_pos h, if_pos h, if_pos h, ih, Bool.and_assoc]
      congr 2
      rw [decide_eq_decide]
      omega
    · rw [if_neg h, if_neg h, if_neg h]
      simp

/-- One byte more behind a text, which doesn't go on in a rune. -/
theorem ok_app (s u : ByteArray) (hu : tl u 0 = false) (h1 : u.size = 1) (r : Int) (hr : ((Utf8.decode (s ++ u) s.size).1 : Int) = r) (hk : (Utf8.decode (s ++ u) s.size).2 = 1) :
    ∀ f pos n, pos ≤ s.size → s.size + 1 ≤ pos + f →
      okFrom (s ++ u) f pos n = (okFrom s f pos n && inN r (((n + Lib.runeCountFrom s f pos : Nat) : Int) == 0)) ∧ Lib.runeCountFrom (s ++ u) f pos = Lib.runeCountFrom s f pos + 1
  | 0, pos, n, hp, hf => by omega
  | f + 1, pos, n, hp, hf => by
    have hsz : (s ++ u).size = s.size + 1 := by rw [app_size, h1]
    by_cases h : pos < s.size
    · have hd := dec_app s u hu pos h
      have hin := rl_in s pos h
      have hwd := rl_bd s pos
      unfold rl at hin hwd
      obtain ⟨ih1, ih2⟩ := ok_app s u hu h1 r hr hk f (pos + (Utf8.decode s pos).2) (n + 1) hin (by omega)
      have hp2 : pos < (s ++ u).size := by omega
      constructor
      · rw [okFrom, if_pos hp2, hd, ih1, okFrom, if_pos h, Lib.runeCountFrom, if_pos h, Bool.and_assoc]
        congr 4
        omega
      · rw [Lib.runeCountFrom, if_pos hp2, hd, ih2, Lib.runeCountFrom, if_pos h]
        omega
    · have he : pos = s.size := by omega
      subst he
      have hp2 : s.size < (s ++ u).size := by omega
      constructor
      · rw [okFrom, if_pos hp2, hr, hk, okFrom_end (s := s ++ u) (by omega), okFrom_end (s := s) (by omega), Lib.runeCountFrom_end _ _ _ (by omega)]
        simp
      · rw [Lib.runeCountFrom, if_pos hp2, hk, Lib.runeCountFrom_end _ _ _ (by omega), Lib.runeCountFrom_end _ _ _ (by omega)]

theorem ok_fuel (s : ByteArray) : ∀ f g pos n, s.size ≤ pos + f → s.size ≤ pos + g → okFrom s f pos n = okFrom s g pos n ∧ Lib.runeCountFrom s f pos = Lib.runeCountFrom s g pos
  | 0, g, pos, n, hf, hg => by
    have h : ¬ pos < s.size := by omega
    exact ⟨by rw [okFrom_end h, okFrom_end h], by rw [Lib.runeCountFrom_end _ _ _ h, Lib.runeCountFrom_end _ _ _ h]⟩
  | f + 1, g, pos, n, hf, hg => by
    by_cases h : pos < s.size
    · cases g with
      | zero => omega
      | succ g =>
        have hwd := rl_bd s pos
        unfold rl at hwd
        obtain ⟨i1, i2⟩ := ok_fuel s f g (pos + (Utf8.decode s pos).2) (n + 1) (by omega) (by omega)
        exact ⟨by rw [okFrom, if_pos h, i1, okFrom, if_pos h], by rw [Lib.runeCountFrom, if_pos h, i2, Lib.runeCountFrom, if_pos h]⟩
    · exact ⟨by rw [okFrom_end h, okFrom_end h], by rw [Lib.runeCountFrom_end _ _ _ h, Lib.runeCountFrom_end _ _ _ h]⟩

theorem name_eq (s : ByteArray) : nameB s = (okFrom s s.size 0 0 && decide (1 ≤ Lib.runeCount s ∧ Lib.runeCount s ≤ 16)) := by
  unfold nameB
  rw [name_split]
  simp only [Lib.runeCount, Nat.zero_add]
  congr 1

/-- A name with one byte behind it. -/
theorem name_app (s u : ByteArray) (hu : tl u 0 = false) (h1 : u.size = 1) (r : Int) (hr : ((Utf8.decode (s ++ u) s.size).1 : Int) = r) (hk : (Utf8.decode (s ++ u) s.size).2 = 1) :
    nameB (s ++ u) = (okFrom s s.size 0 0 && inN r ((Lib.runeCount s : Int) == 0) && decide (Lib.runeCount s + 1 ≤ 16)) := by
  obtain ⟨a, b⟩ := ok_app s u hu h1 r hr hk (s.size + 1) 0 0 (by omega) (by omega)
  obtain ⟨c, d⟩ := ok_fuel s (s.size + 1) s.size 0 0 (by omega) (by omega)
  have hsz : (s ++ u).size = s.size + 1 := by rw [app_size, h1]
  rw [name_eq]
  unfold Lib.runeCount
  rw [hsz, a, b, c, d]
  congr 1
  · simp
  · rw [decide_eq_decide]
    omega

/-- An ASCII byte at a place. -/
theorem dec_ascii_at (u : ByteArray) (i : Nat) (h : bt u i < 128) : Utf8.decode u i = (bt u i, 1) := by
  rw [dec_eq, if_pos h]
theorem dec_ff_at (u : ByteArray) (i : Nat) (h : bt u i = 255) : Utf8.decode u i = (65533, 1) := by
  rw [dec_eq, h]
  simp

section
variable (s : ByteArray)
theorem at_end (c : UInt8) : bt (s ++ ⟨#[c]⟩) s.size = c.toNat := by
  have := app_bt_r s ⟨#[c]⟩ 0 (by show 0 < 1; omega)
  rw [Nat.add_zero] at this
  rw [this]
  rfl
theorem tl_one (c : UInt8) (h : c.toNat < 128 ∨ 192 ≤ c.toNat) : tl ⟨#[c]⟩ 0 = false := by
  unfold tl
  have : bt ⟨#[c]⟩ 0 = c.toNat := rfl
  rw [this]
  simp
  omega
theorem name_ascii (c : UInt8) (h : c.toNat < 128) : nameB (s ++ ⟨#[c]⟩) = (okFrom s s.size 0 0 && inN (c.toNat : Int) ((Lib.runeCount s : Int) == 0) && decide (Lib.runeCount s + 1 ≤ 16)) := by
  have e := at_end s c
  have d := dec_ascii_at (s ++ ⟨#[c]⟩) s.size (by rw [e]; exact h)
  rw [e] at d
  exact name_app s _ (tl_one c (.inl h)) rfl _ (by rw [d]) (by rw [d])

theorem name_dash : nameB (s ++ ⟨#[45]⟩) = false := by
  rw [name_ascii s 45 (by decide), show inN ((45 : UInt8).toNat : Int) ((Lib.runeCount s : Int) == 0) = false from by simp [inN, ltr, dgt]]
  simp
theorem name_blank : nameB (s ++ ⟨#[32]⟩) = false := by
  rw [name_ascii s 32 (by decide), show inN ((32 : UInt8).toNat : Int) ((Lib.runeCount s : Int) == 0) = false from by simp [inN, ltr, dgt]]
  simp
theorem name_ff : nameB (s ++ ⟨#[255]⟩) = false := by
  have e := at_end s 255
  have d := dec_ff_at (s ++ ⟨#[255]⟩) s.size (by rw [e]; rfl)
  rw [name_app s _ (tl_one 255 (.inr (by decide))) rfl 65533 (by rw [d]; rfl) (by rw [d])]
  simp [inN, ltr, dgt]
theorem name_seven (h : nameB s = true) : nameB (s ++ ⟨#[55]⟩) = decide (Lib.runeCount s < 16) := by
  rw [name_eq, Bool.and_eq_true, decide_eq_true_eq] at h
  have hz : ((Lib.runeCount s : Int) == 0) = false := beq_eq_false_iff_ne.2 (by omega)
  rw [name_ascii s 55 (by decide), h.1, hz, show inN ((55 : UInt8).toNat : Int) false = true from by decide]
  rw [Bool.true_and, Bool.true_and, decide_eq_decide]
  omega
theorem name_under (h : nameB s = true) : nameB (s ++ ⟨#[95]⟩) = decide (Lib.runeCount s < 16) := by
  rw [name_eq, Bool.and_eq_true, decide_eq_true_eq] at h
  have hz : ((Lib.runeCount s : Int) == 0) = false := beq_eq_false_iff_ne.2 (by omega)
  rw [name_ascii s 95 (by decide), h.1, hz, show inN ((95 : UInt8).toNat : Int) false = true from by decide]
  rw [Bool.true_and, Bool.true_and, decide_eq_decide]
  omega
theorem name_first : nameB (⟨#[55]⟩ ++ s) = false := by
  have hsz : (⟨#[55]⟩ ++ s : ByteArray).size = s.size + 1 := by rw [app_size]; show 1 + s.size = _; omega
  have e : bt (⟨#[55]⟩ ++ s) 0 = 55 := by
    rw [app_bt_l _ _ 0 (by show 0 < 1; omega)]
    rfl
  have d := dec_ascii_at (⟨#[55]⟩ ++ s) 0 (by rw [e]; decide)
  unfold nameB
  refine nameFrom_no (by omega) (by omega) ?_
  rw [d, e]
  decide
end

/-- How many runes lead from a place (n ahead of it) to another one, if all of them are ones of a name. -/
def upTo (s : ByteArray) (i : Nat) : Nat → Nat → Nat → Option Nat
  | 0, pos, n => if pos = i then some n else none
  | f + 1, pos, n => if pos = i then some n else if pos < s.size ∧ inN ((Utf8.decode s pos).1 : Int) ((n : Int) == 0) = true then upTo s i f (pos + (Utf8.decode s pos).2) (n + 1) else none

theorem upTo_le {s : ByteArray} {i : Nat} : ∀ {f pos n a}, upTo s i f pos n = some a → pos ≤ i ∧ n ≤ a ∧ (pos ≠ i → n < a)
  | 0, pos, n, a, h => by
    unfold upTo at h
    split at h
    · cases h
      exact ⟨by omega, by omega, fun x => absurd ‹pos = i› x⟩
    · cases h
  | f + 1, pos, n, a, h => by
    unfold upTo at h
    split at h
    · cases h
      exact ⟨by omega, by omega, fun x => absurd ‹pos = i› x⟩
    · split at h
      · obtain ⟨a1, a2, _⟩ := upTo_le h
        exact ⟨by omega, by omega, fun _ => by omega⟩
      · cases h

theorem upTo_next {s : ByteArray} {i : Nat} (hi : i < s.size) : ∀ {f pos n a}, upTo s i f pos n = some a → inN ((Utf8.decode s i).1 : Int) ((a : Int) == 0) = true → upTo s (i + (Utf8.decode s i).2) (f + 1) pos n = some (a + 1)
  | f, pos, n, a, h, hx => by
    have hwd := rl_bd s i
    unfold rl at hwd
    have hle := (upTo_le h).1
    by_cases he : pos = i
    · subst he
      have ha : a = n := by
        cases f <;> (unfold upTo at h; rw [if_pos rfl] at h; cases h; rfl)
      subst ha
      rw [upTo, if_neg (by omega), if_pos ⟨hi, hx⟩]
      cases f <;> (rw [upTo, if_pos rfl])
    · cases f with
      | zero =>
        unfold upTo at h
        rw [if_neg he] at h
        cases h
      | succ f =>
        unfold upTo at h
        rw [if_neg he] at h
        split at h
        · rename_i hc
          have ih := upTo_next hi h hx
          rw [upTo, if_neg (by omega), if_pos hc]
          exact ih
        · cases h

/-- The bytes of a text up to a place. -/
theorem pre_bt (s : ByteArray) (i j : Nat) (hi : i ≤ s.size) (h : j < i) : bt (s.extract 0 i) j = bt s j := by
  have hsz : (s.extract 0 i).size = i := by simp; omega
  refine bt_of_data (by omega) (by omega) ?_
  rw [Lib.extract_data]
  simp only [List.drop_zero, Nat.sub_zero]
  rw [List.getElem?_take_of_lt h]

theorem pre_dec (s : ByteArray) (i : Nat) (hi : i ≤ s.size) (ht : tl s i = false) (j : Nat) (h : j < i) : Utf8.decode (s.extract 0 i) j = Utf8.decode s j := by
  have hsz : (s.extract 0 i).size = i := by simp; omega
  refine dec_same _ s i (fun k hk => pre_bt s i k hi hk) (fun k hk => ?_) ht j h
  rcases Nat.lt_or_eq_of_le hk with h1 | rfl
  · unfold tl
    rw [hsz, pre_bt s i k hi h1]
    simp only [h1, show k < s.size by omega]
  · rw [ht]
    exact tl_off (by omega)

theorem pre_ok (s : ByteArray) (i : Nat) (hi : i ≤ s.size) (ht : tl s i = false) : ∀ {f pos n a} g, upTo s i f pos n = some a → i ≤ pos + g → okFrom (s.extract 0 i) g pos n = true ∧ n + Lib.runeCountFrom (s.extract 0 i) g pos = a
  | f, pos, n, a, g, h, hg => by
    have hsz : (s.extract 0 i).size = i := by simp; omega
    have hle := (upTo_le h).1
    by_cases he : pos = i
    · have ha : a = n := by
        cases f <;> (unfold upTo at h; rw [if_pos he] at h; cases h; rfl)
      exact ⟨okFrom_end (by omega), by rw [Lib.runeCountFrom_end _ _ _ (by omega)]; omega⟩
    · cases f with
      | zero =>
        unfold upTo at h
        rw [if_neg he] at h
        cases h
      | succ f =>
        unfold upTo at h
        rw [if_neg he] at h
        split at h
        · rename_i hc
          have hwd := rl_bd s pos
          unfold rl at hwd
          have hd := pre_dec s i hi ht pos (by omega)
          cases g with
          | zero => omega
          | succ g =>
            obtain ⟨i1, i2⟩ := pre_ok s i hi ht g h (by omega)
            exact ⟨by rw [okFrom, if_pos (by omega), hd, hc.2, i1]; rfl, by rw [Lib.runeCountFrom, if_pos (by omega), hd]; omega⟩
        · cases h

/-- A rune of a name begins with a byte that doesn't go on in one. -/
theorem tl_of_in {s : ByteArray} {i : Nat} {b : Bool} (h : inN ((Utf8.decode s i).1 : Int) b = true) : tl s i = false := by
  cases ht : tl s i with
  | false => rfl
  | true =>
    obtain ⟨a, c, _⟩ := tl_bd ht
    have hn := runeN a (.inl (by omega))
    rw [← inN_rr, hn.1] at h
    revert h
    cases b <;> decide

/-- The part of a name that ends where a rune of it begins. -/
theorem name_pre {s : ByteArray} {i f a : Nat} (hi : i < s.size) (hu : upTo s i f 0 0 = some a) (hx : inN ((Utf8.decode s i).1 : Int) ((a : Int) == 0) = true) (h0 : 0 < i) (ha : a ≤ 16) : nameB (s.extract 0 i) = true := by
  have hsz : (s.extract 0 i).size = i := by simp; omega
  obtain ⟨h1, h2⟩ := pre_ok s i (by omega) (tl_of_in hx) i hu (by omega)
  have h3 := (upTo_le hu).2.2 (by omega)
  rw [name_eq]
  unfold Lib.runeCount
  rw [hsz, h1, Bool.true_and, decide_eq_true_eq]
  omega

theorem ok_step {s : ByteArray} {f pos n : Nat} (hp : pos < s.size) (hf : s.size ≤ pos + f) (h : okFrom s f pos n = true) :
    ∃ g, f = g + 1 ∧ inN ((Utf8.decode s pos).1 : Int) ((n : Int) == 0) = true ∧ okFrom s g (pos + (Utf8.decode s pos).2) (n + 1) = true ∧ Lib.runeCountFrom s f pos = 1 + Lib.runeCountFrom s g (pos + (Utf8.decode s pos).2) := by
  cases f with
  | zero => omega
  | succ g =>
    rw [okFrom, if_pos hp, Bool.and_eq_true] at h
    exact ⟨g, rfl, h.1, h.2, by rw [Lib.runeCountFrom, if_pos hp]⟩

end Go.Proofs.YtfgfjodajjfbaaaDoor
