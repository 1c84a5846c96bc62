import Derived.Test.YtfgfjodajjfbaaaDoorPlE
namespace Go.Proofs.YtfgfjodajjfbaaaDoor

/-- A piece of a text, alike from a place o on, up to where no rune goes on. -/
theorem dec_shift (t u : ByteArray) (o n : Nat) (hb : ∀ i, i < n → bt t i = bt u (o + i)) (ht : ∀ i, i ≤ n → tl t i = tl u (o + i)) (hn : tl u (o + n) = false) (i : Nat) (h : i < n) : Utf8.decode t i = Utf8.decode u (o + i) := by
  rw [dec_eq, dec_eq, hb i h, ht (i + 1) (by omega)]
  rw [show o + (i + 1) = o + i + 1 by omega]
  by_cases h1 : tl u (o + i + 1) = true
  · have hlt1 : i + 1 < n := Nat.lt_of_le_of_ne (by omega) (fun e => by rw [← e, show o + (i + 1) = o + i + 1 by omega, h1] at hn; cases hn)
    rw [hb (i + 1) hlt1, ht (i + 2) (by omega), show o + (i + 1) = o + i + 1 by omega, show o + (i + 2) = o + i + 2 by omega]
    by_cases h2 : tl u (o + i + 2) = true
    · have hlt2 : i + 2 < n := Nat.lt_of_le_of_ne (by omega) (fun e => by rw [← e, show o + (i + 2) = o + i + 2 by omega, h2] at hn; cases hn)
      rw [hb (i + 2) hlt2, ht (i + 3) (by omega), show o + (i + 2) = o + i + 2 by omega, show o + (i + 3) = o + i + 3 by omega]
      by_cases h3 : tl u (o + i + 3) = true
      · have hlt3 : i + 3 < n := Nat.lt_of_le_of_ne (by omega) (fun e => by rw [← e, show o + (i + 3) = o + i + 3 by omega, h3] at hn; cases hn)
        rw [hb (i + 3) hlt3, show o + (i + 3) = o + i + 3 by omega]
      · simp only [Bool.not_eq_true] at h3
        simp [h3]
    · simp only [Bool.not_eq_true] at h2
      simp [h2]
  · simp only [Bool.not_eq_true] at h1
    simp [h1]

theorem ext_size (s : ByteArray) (a b : Nat) (hb : b ≤ s.size) : (s.extract a b).size = b - a := by
  simp
  omega

theorem ext_bt (s : ByteArray) (a b i : Nat) (hb : b ≤ s.size) (h : i < b - a) : bt (s.extract a b) i = bt s (a + i) := by
  have hsz := ext_size s a b hb
  refine bt_of_data (by omega) (by omega) ?_
  rw [Lib.extract_data, List.getElem?_take_of_lt h, List.getElem?_drop]

/-- A piece that ends where no rune goes on is decoded as where it lies. -/
theorem ext_dec (s : ByteArray) (a b i : Nat) (hb : b ≤ s.size) (ht : tl s b = false) (h : i < b - a) : Utf8.decode (s.extract a b) i = Utf8.decode s (a + i) := by
  have hsz := ext_size s a b hb
  refine dec_shift _ s a (b - a) (fun j hj => ext_bt s a b j hb hj) (fun j hj => ?_) (by rw [show a + (b - a) = b by omega]; exact ht) i h
  rcases Nat.lt_or_eq_of_le hj with h1 | rfl
  · unfold tl
    rw [hsz, ext_bt s a b j hb h1]
    simp only [h1, show a + j < s.size by omega]
  · rw [show a + (b - a) = b by omega, ht]
    exact tl_off (by omega)

/-- No rune from a place on is a blank. -/
def noBlank (s : ByteArray) : Nat → Nat → Bool
  | 0, _ => true
  | f + 1, pos => if pos < s.size then !blk ((Utf8.decode s pos).1 : Int) && noBlank s f (pos + (Utf8.decode s pos).2) else true

/-- A word: not empty, without a blank, without a #. -/
structure Word (x : ByteArray) : Prop where
  some : 0 < x.size
  none : noBlank x x.size 0 = true
  hash : ∀ i, i < x.size → bt x i ≠ 35

/-- A rune doesn't leap over a byte of ASCII. -/
theorem rl_ascii {s : ByteArray} {pos i : Nat} (h : pos < i) (hi : bt s i < 128) : pos + (Utf8.decode s pos).2 ≤ i := by
  have hno : tl s i = false := by
    cases ht : tl s i with
    | false => rfl
    | true => have := (tl_bd ht).1; omega
  have key : ∀ k, 1 ≤ k → tl s (pos + k) = true → pos + k ≠ i := fun k _ hk e => by rw [e, hno] at hk; cases hk
  rw [dec_eq]
  by_cases h0 : bt s pos < 128
  · rw [if_pos h0]
    simp
    omega
  rw [if_neg h0]
  by_cases c : (bt s pos / 32 == 6 && tl s (pos + 1)) = true
  · rw [if_pos c]
    simp only [Bool.and_eq_true] at c
    have := key 1 (by omega) c.2
    split <;> (simp; omega)
  rw [if_neg c]
  by_cases c : (bt s pos / 16 == 14 && tl s (pos + 1) && tl s (pos + 2)) = true
  · rw [if_pos c]
    simp only [Bool.and_eq_true] at c
    have := key 1 (by omega) c.1.2
    have := key 2 (by omega) c.2
    split <;> (simp; omega)
  rw [if_neg c]
  by_cases d : (bt s pos / 8 == 30 && tl s (pos + 1) && tl s (pos + 2) && tl s (pos + 3)) = true
  · rw [if_pos d]
    simp only [Bool.and_eq_true] at d
    have := key 1 (by omega) d.1.1.2
    have := key 2 (by omega) d.1.2
    have := key 3 (by omega) d.2
    split <;> (simp; omega)
  · rw [if_neg d]
    simp
    omega

theorem noBlank_byte {s : ByteArray} : ∀ {f pos}, noBlank s f pos = true → s.size ≤ pos + f → ∀ i, pos ≤ i → i < s.size → bt s i < 128 → blk (bt s i : Int) = false
  | 0, pos, _, hf, i, h1, h2, _ => by omega
  | f + 1, pos, h, hf, i, h1, h2, h3 => by
    have hp : pos < s.size := by omega
    rw [noBlank, if_pos hp, Bool.and_eq_true] at h
    have hwd := rl_bd s pos
    unfold rl at hwd
    by_cases he : pos = i
    · subst he
      have := h.1
      rw [dec_ascii_at s pos h3] at this
      simpa using this
    · exact noBlank_byte h.2 (by omega) i (rl_ascii (by omega) h3) h2 h3

theorem Word.byte {x : ByteArray} (h : Word x) (i : Nat) (hi : i < x.size) : bt x i ≠ 32 ∧ bt x i ≠ 9 ∧ bt x i ≠ 13 ∧ bt x i ≠ 35 := by
  have hk := h.hash i hi
  by_cases ha : bt x i < 128
  · have := noBlank_byte h.none (by omega) i (by omega) hi ha
    unfold blk at this
    simp at this
    omega
  · omega

/-- A blank begins with a byte that doesn't go on in a rune. -/
theorem tl_of_blk {s : ByteArray} {i : Nat} (h : blk ((Utf8.decode s i).1 : Int) = true) : tl s i = false := by
  cases ht : tl s i with
  | false => rfl
  | true =>
    obtain ⟨a, c, _⟩ := tl_bd ht
    have hn := runeN a (.inl (by omega))
    rw [← blk_rr, hn.1] at h
    revert h
    decide

/-- No blank between two places of a text at which runes begin. -/
def clear (s : ByteArray) (b : Nat) : Nat → Nat → Bool
  | 0, pos => pos == b
  | f + 1, pos => if pos = b then true else if pos < b then !blk ((Utf8.decode s pos).1 : Int) && clear s b f (pos + (Utf8.decode s pos).2) else false

theorem clear_next {s : ByteArray} {b : Nat} (hb : blk ((Utf8.decode s b).1 : Int) = false) : ∀ {f pos}, clear s b f pos = true → clear s (b + (Utf8.decode s b).2) (f + 1) pos = true
  | f, pos, h => by
    have hwd := rl_bd s b
    unfold rl at hwd
    by_cases he : pos = b
    · subst he
      rw [clear, if_neg (by omega), if_pos (by omega), hb]
      cases f <;> simp [clear]
    · cases f with
      | zero =>
        unfold clear at h
        simp at h
        omega
      | succ f =>
        unfold clear at h
        rw [if_neg he] at h
        split at h
        · rw [Bool.and_eq_true] at h
          rw [clear, if_neg (by omega), if_pos (by omega), h.1]
          exact clear_next hb h.2
        · cases h

theorem clear_word {s : ByteArray} {a b : Nat} (hb : b ≤ s.size) (ht : tl s b = false) : ∀ {f i} g, clear s b f (a + i) = true → b - a ≤ i + g → noBlank (s.extract a b) g i = true
  | f, i, g, h, hg => by
    have hsz := ext_size s a b hb
    cases g with
    | zero => rfl
    | succ g =>
      by_cases hi : i < b - a
      · have hd := ext_dec s a b i hb ht hi
        have hwd := rl_bd s (a + i)
        unfold rl at hwd
        rw [noBlank, if_pos (by omega), hd]
        cases f with
        | zero =>
          unfold clear at h
          simp at h
          omega
        | succ f =>
          unfold clear at h
          rw [if_neg (by omega), if_pos (by omega), Bool.and_eq_true] at h
          rw [h.1, Bool.true_and]
          refine clear_word (f := f) hb ht g ?_ (by omega)
          rw [← Nat.add_assoc]
          exact h.2
      · rw [noBlank, if_neg (by omega)]

/-- The words that are told of a text without a # are words. -/
theorem fields_words {t : ByteArray} (hh : ∀ i, i < t.size → bt t i ≠ 35) : ∀ (f pos : Nat) (st : Int), pos ≤ t.size → t.size ≤ pos + f → (0 ≤ st → st.toNat < pos ∧ ∃ g, clear t pos g st.toNat = true) → ∀ x ∈ fieldsFrom t f pos st, Word x := by
  have mk : ∀ a b g, a < b → b ≤ t.size → tl t b = false → clear t b g a = true → Word (t.extract a b) := by
    intro a b g hab hb ht hc
    have hsz := ext_size t a b hb
    refine ⟨by omega, ?_, fun i hi => ?_⟩
    · rw [hsz]
      exact clear_word (i := 0) hb ht (b - a) hc (by omega)
    · rw [ext_bt t a b i hb (by omega)]
      exact hh _ (by omega)
  intro f
  induction f with
  | zero =>
    intro pos st hp hf hst x hx
    unfold fieldsFrom at hx
    split at hx
    · rename_i h0
      obtain ⟨h1, g, hg⟩ := hst h0
      have he : pos = t.size := by omega
      simp only [List.mem_singleton] at hx
      subst hx
      rw [he] at hg h1
      exact mk _ _ g h1 (Nat.le_refl _) (tl_off (by omega)) hg
    · simp at hx
  | succ f ih =>
    intro pos st hp hf hst x hx
    by_cases h : pos < t.size
    · have hwd := rl_bd t pos
      have hin := rl_in t pos h
      unfold rl at hwd hin
      cases hb : blk ((Utf8.decode t pos).1 : Int)
      · by_cases h0 : 0 ≤ st
        · obtain ⟨g, hg, he⟩ := fields_in (st := st) h hf hb h0
          cases hg
          rw [he] at hx
          refine ih _ _ hin (by omega) (fun _ => ?_) x hx
          obtain ⟨h1, g, hg⟩ := hst h0
          exact ⟨by omega, g + 1, clear_next hb hg⟩
        · obtain ⟨g, hg, he⟩ := fields_on (st := st) h hf hb h0
          cases hg
          rw [he] at hx
          refine ih _ _ hin (by omega) (fun _ => ?_) x hx
          rw [Int.toNat_natCast]
          exact ⟨by omega, 0 + 1, clear_next hb (by simp [clear])⟩
      · by_cases h0 : 0 ≤ st
        · obtain ⟨g, hg, he⟩ := fields_cut (st := st) h hf hb h0
          cases hg
          rw [he] at hx
          rcases List.mem_cons.1 hx with rfl | hx
          · obtain ⟨h1, g, hg⟩ := hst h0
            exact mk _ _ g h1 (by omega) (tl_of_blk hb) hg
          · exact ih _ _ hin (by omega) (fun h => by omega) x hx
        · obtain ⟨g, hg, he⟩ := fields_skip (st := st) h hf hb h0
          cases hg
          rw [he] at hx
          exact ih _ _ hin (by omega) (fun h => by omega) x hx
    · rw [fields_end h] at hx
      split at hx
      · rename_i h0
        obtain ⟨h1, g, hg⟩ := hst h0
        have he : pos = t.size := by omega
        simp only [List.mem_singleton] at hx
        subst hx
        rw [he] at hg h1
        exact mk _ _ g h1 (Nat.le_refl _) (tl_off (by omega)) hg
      · simp at hx

theorem fieldsB_words (s : ByteArray) : ∀ x ∈ fieldsB (ahead s), Word x := by
  refine fields_words (fun i hi => ?_) _ 0 (-1) (by omega) (by omega) (fun h => by omega)
  rw [ahead_size] at hi
  rw [ahead_bt s i hi]
  exact hpos_ne s i hi

end Go.Proofs.YtfgfjodajjfbaaaDoor
