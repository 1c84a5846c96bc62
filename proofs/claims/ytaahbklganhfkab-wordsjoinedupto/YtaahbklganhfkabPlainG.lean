import Derived.Test.YtaahbklganhfkabPlainF
namespace Go.Proofs.Ytaahbklganhfkab

theorem fields_fuel (u : ByteArray) : ∀ f g pos st, u.size ≤ pos + f → u.size ≤ pos + g → fieldsFrom u f pos st = fieldsFrom u g pos st
  | 0, g, pos, st, hf, hg => by rw [fields_end (by omega), fields_end (by omega)]
  | f + 1, g, pos, st, hf, hg => by
    by_cases h : pos < u.size
    · cases g with
      | zero => omega
      | succ g =>
        have hwd := rl_bd u pos
        unfold rl at hwd
        rw [fieldsFrom, if_pos h, fieldsFrom, if_pos h, fields_fuel u f g _ _ (by omega) (by omega), fields_fuel u f g _ (if 0 ≤ st then st else ↑pos) (by omega) (by omega)]
    · rw [fields_end h, fields_end h]

/-- The words from a place on. -/
def fld (u : ByteArray) (pos : Nat) (st : Int) : List ByteArray := fieldsFrom u u.size pos st

theorem fld_end {u : ByteArray} {pos : Nat} (h : ¬ pos < u.size) : fld u pos (-1) = [] := by
  unfold fld
  rw [fields_end h]
  rfl
theorem fld_last {u : ByteArray} {pos p : Nat} (h : pos = u.size) : fld u pos (p : Int) = [u.extract p pos] := by
  unfold fld
  rw [fields_end (by omega), if_pos (by omega), Int.toNat_natCast, h]
theorem fld_skip {u : ByteArray} {pos : Nat} (h : pos < u.size) (hb : blk ((Utf8.decode u pos).1 : Int) = true) : fld u pos (-1) = fld u (pos + (Utf8.decode u pos).2) (-1) := by
  have hwd := rl_bd u pos
  unfold rl at hwd
  obtain ⟨g, hg, he⟩ := fields_skip (f := u.size) (st := -1) h (by omega) hb (by omega)
  unfold fld
  rw [he]
  exact fields_fuel u _ _ _ _ (by omega) (by omega)
theorem fld_cut {u : ByteArray} {pos p : Nat} (h : pos < u.size) (hb : blk ((Utf8.decode u pos).1 : Int) = true) : fld u pos (p : Int) = u.extract p pos :: fld u (pos + (Utf8.decode u pos).2) (-1) := by
  have hwd := rl_bd u pos
  unfold rl at hwd
  obtain ⟨g, hg, he⟩ := fields_cut (f := u.size) (st := p) h (by omega) hb (by omega)
  unfold fld
  rw [he, Int.toNat_natCast]
  congr 1
  exact fields_fuel u _ _ _ _ (by omega) (by omega)
theorem fld_in {u : ByteArray} {pos p : Nat} (h : pos < u.size) (hb : blk ((Utf8.decode u pos).1 : Int) = false) : fld u pos (p : Int) = fld u (pos + (Utf8.decode u pos).2) p := by
  have hwd := rl_bd u pos
  unfold rl at hwd
  obtain ⟨g, hg, he⟩ := fields_in (f := u.size) (st := p) h (by omega) hb (by omega)
  unfold fld
  rw [he]
  exact fields_fuel u _ _ _ _ (by omega) (by omega)
theorem fld_on {u : ByteArray} {pos : Nat} (h : pos < u.size) (hb : blk ((Utf8.decode u pos).1 : Int) = false) : fld u pos (-1) = fld u (pos + (Utf8.decode u pos).2) pos := by
  have hwd := rl_bd u pos
  unfold rl at hwd
  obtain ⟨g, hg, he⟩ := fields_on (f := u.size) (st := -1) h (by omega) hb (by omega)
  unfold fld
  rw [he]
  exact fields_fuel u _ _ _ _ (by omega) (by omega)

/-- A text that stands in another one, from a place on. -/
structure Lies (u : ByteArray) (p : Nat) (x : ByteArray) : Prop where
  room : p + x.size ≤ u.size
  bytes : ∀ i, i < x.size → bt u (p + i) = bt x i
  ends : tl u (p + x.size) = false

theorem Lies.dec {u : ByteArray} {p : Nat} {x : ByteArray} (h : Lies u p x) (i : Nat) (hi : i < x.size) : Utf8.decode u (p + i) = Utf8.decode x i := by
  have hr := h.room
  refine (dec_shift x u p x.size (fun j hj => (h.bytes j hj).symm) (fun j hj => ?_) h.ends i hi).symm
  rcases Nat.lt_or_eq_of_le hj with h1 | rfl
  · unfold tl
    rw [h.bytes j h1]
    simp only [h1, show p + j < u.size by omega]
  · rw [h.ends]
    exact tl_off (by omega)

theorem scan_rest {u : ByteArray} {p : Nat} {x : ByteArray} (h : Lies u p x) : ∀ g i, i ≤ x.size → x.size ≤ i + g → noBlank x g i = true → fld u (p + i) (p : Int) = fld u (p + x.size) p
  | 0, i, h1, h2, _ => by rw [show i = x.size by omega]
  | g + 1, i, h1, h2, hn => by
    by_cases hi : i < x.size
    · have hr := h.room
      have hd := h.dec i hi
      have hin := rl_in x i hi
      have hwd := rl_bd x i
      unfold rl at hin hwd
      rw [noBlank, if_pos hi, Bool.and_eq_true] at hn
      have hb : blk ((Utf8.decode u (p + i)).1 : Int) = false := by rw [hd]; simpa using hn.1
      rw [fld_in (by omega) hb, hd, Nat.add_assoc]
      exact scan_rest h g _ hin (by omega) hn.2
    · rw [show i = x.size by omega]

theorem scan_word {u : ByteArray} {p : Nat} {x : ByteArray} (h : Lies u p x) (hw : Word x) : fld u p (-1) = fld u (p + x.size) p := by
  have hr := h.room
  have hs := hw.some
  have hn := hw.none
  have hd := h.dec 0 hs
  rw [Nat.add_zero] at hd
  obtain ⟨g, hg⟩ : ∃ g, x.size = g + 1 := ⟨x.size - 1, by omega⟩
  rw [hg, noBlank, if_pos hs, Bool.and_eq_true] at hn
  have hb : blk ((Utf8.decode u p).1 : Int) = false := by rw [hd]; simpa using hn.1
  have hin := rl_in x 0 hs
  have hwd := rl_bd x 0
  unfold rl at hin hwd
  rw [fld_on (by omega) hb, hd]
  have := scan_rest h g (0 + (Utf8.decode x 0).2) hin (by omega) hn.2
  rw [Nat.zero_add] at this
  exact this

theorem Lies.eq {u : ByteArray} {p : Nat} {x : ByteArray} (h : Lies u p x) : u.extract p (p + x.size) = x := by
  have hr := h.room
  have hsz := ext_size u p (p + x.size) hr
  have hl : (u.extract p (p + x.size)).data.toList = x.data.toList := by
    apply List.ext_getElem?
    intro i
    by_cases hi : i < x.size
    · obtain ⟨c, hc, hb⟩ := bt_data (u.extract p (p + x.size)) i (by omega)
      obtain ⟨d, hd, hb'⟩ := bt_data x i hi
      rw [hc, hd]
      congr 1
      apply UInt8.toNat_inj.1
      rw [hb, hb', ext_bt u p _ i hr (by omega), h.bytes i hi]
    · rw [List.getElem?_eq_none (by rw [← Lib.size_eq]; omega), List.getElem?_eq_none (by rw [← Lib.size_eq]; omega)]
  rw [← Lib.mk_data (u.extract p (p + x.size)), hl, Lib.mk_data]

/-- The bytes of words, joined by single spaces. -/
def jl : List ByteArray → List UInt8
  | [] => []
  | [x] => x.data.toList
  | x :: y :: r => x.data.toList ++ 32 :: jl (y :: r)

theorem jl_snoc : ∀ (l : List ByteArray) (x : ByteArray), jl (l ++ [x]) = if l = [] then x.data.toList else jl l ++ 32 :: x.data.toList
  | [], x => by simp [jl]
  | [y], x => by simp [jl]
  | y :: z :: r, x => by
    have ih := jl_snoc (z :: r) x
    simp only [List.cons_append] at ih ⊢
    rw [jl, ih, jl]
    simp

theorem bt_list {u : ByteArray} {A X Y : List UInt8} (hu : u.data.toList = A ++ (X ++ Y)) (i : Nat) (h : i < X.length) : bt u (A.length + i) = (X[i]).toNat := by
  have hsz : u.size = A.length + (X.length + Y.length) := by rw [Lib.size_eq, hu]; simp
  obtain ⟨c, hc, hb⟩ := bt_data u (A.length + i) (by omega)
  rw [← hb]
  rw [hu, List.getElem?_append_right (by omega), Nat.add_sub_cancel_left, List.getElem?_append_left h, List.getElem?_eq_getElem h] at hc
  cases hc
  rfl

theorem lies_of {u x : ByteArray} {A Y : List UInt8} (hu : u.data.toList = A ++ (x.data.toList ++ Y)) (ht : tl u (A.length + x.size) = false) : Lies u A.length x := by
  have hxl : x.data.toList.length = x.size := (Lib.size_eq x).symm
  have hsz : u.size = A.length + (x.size + Y.length) := by rw [Lib.size_eq, hu, List.length_append, List.length_append, hxl]
  refine ⟨by omega, fun i hi => ?_, ht⟩
  rw [bt_list hu i (by omega)]
  obtain ⟨c, hc, hb⟩ := bt_data x i hi
  rw [List.getElem?_eq_getElem (by omega)] at hc
  rw [Option.some.inj hc]
  exact hb

theorem scan_list : ∀ (l : List ByteArray) (u : ByteArray) (A Y : List UInt8), l ≠ [] → (∀ x ∈ l, Word x) → u.data.toList = A ++ (jl l ++ Y) → tl u (A.length + (jl l).length) = false →
    ((A.length + (jl l).length = u.size → fld u A.length (-1) = l) ∧
     (A.length + (jl l).length < u.size → blk ((Utf8.decode u (A.length + (jl l).length)).1 : Int) = true →
      fld u A.length (-1) = l ++ fld u (A.length + (jl l).length + (Utf8.decode u (A.length + (jl l).length)).2) (-1)))
  | [], _, _, _, h, _, _, _ => absurd rfl h
  | [x], u, A, Y, _, hw, hu, ht => by
    have hxl : (jl [x]).length = x.size := (Lib.size_eq x).symm
    rw [hxl] at ht ⊢
    have hL := lies_of (x := x) hu ht
    have hs := scan_word hL (hw x (by simp))
    have he := hL.eq
    constructor
    · intro h
      rw [hs, fld_last h, he]
    · intro h hb
      rw [hs, fld_cut h hb, he]
      rfl
  | x :: y :: r, u, A, Y, _, hw, hu, ht => by
    have hxl : x.data.toList.length = x.size := (Lib.size_eq x).symm
    have hu1 : u.data.toList = A ++ (x.data.toList ++ (32 :: (jl (y :: r) ++ Y))) := by
      rw [hu, jl]
      simp
    have hlen : (jl (x :: y :: r)).length = x.size + 1 + (jl (y :: r)).length := by
      rw [jl]
      simp [hxl]
      omega
    have hu2 : u.data.toList = (A ++ x.data.toList) ++ ([32] ++ (jl (y :: r) ++ Y)) := by rw [hu1]; simp
    have hu3 : u.data.toList = (A ++ x.data.toList ++ [32]) ++ (jl (y :: r) ++ Y) := by rw [hu1]; simp
    have hA2 : (A ++ x.data.toList).length = A.length + x.size := by simp [hxl]
    have hA3 : (A ++ x.data.toList ++ [32]).length = A.length + x.size + 1 := by simp [hxl]; omega
    have h32 : bt u (A.length + x.size) = 32 := by
      have := bt_list hu2 0 (by simp)
      rw [hA2] at this
      exact this
    have hsz : u.size = A.length + x.size + 1 + (jl (y :: r)).length + Y.length := by
      rw [Lib.size_eq, hu3]
      simp [hxl]
      omega
    have htx : tl u (A.length + x.size) = false := by
      unfold tl
      rw [h32]
      simp
    have hL := lies_of hu1 htx
    have hs := scan_word hL (hw x (by simp))
    have hd := dec_ascii_at u (A.length + x.size) (by omega)
    rw [h32] at hd
    have hcut := fld_cut (p := A.length) (u := u) (pos := A.length + x.size) (by omega) (by rw [hd]; decide)
    rw [hd, hL.eq] at hcut
    have ih := scan_list (y :: r) u (A ++ x.data.toList ++ [32]) Y (by simp) (fun z hz => hw z (by simp [hz])) hu3 (by rw [hA3]; rw [hlen] at ht; rw [show A.length + x.size + 1 + (jl (y :: r)).length = A.length + (x.size + 1 + (jl (y :: r)).length) by omega]; exact ht)
    rw [hA3] at ih
    have heq : A.length + (jl (x :: y :: r)).length = A.length + x.size + 1 + (jl (y :: r)).length := by omega
    rw [heq]
    constructor
    · intro h
      rw [hs, hcut, ih.1 h]
    · intro h hb
      rw [hs, hcut, ih.2 h hb]
      rfl

theorem mem_hash {x : ByteArray} (h : ∀ i, i < x.size → bt x i ≠ 35) (c : UInt8) (hc : c ∈ x.data.toList) : c ≠ 35 := by
  obtain ⟨i, hi, rfl⟩ := List.getElem_of_mem hc
  rw [← Lib.size_eq] at hi
  obtain ⟨d, hd, hb⟩ := bt_data x i hi
  rw [List.getElem?_eq_getElem (by rw [← Lib.size_eq]; exact hi)] at hd
  rw [Option.some.inj hd]
  intro e
  subst e
  exact h i hi hb.symm

theorem jl_hash : ∀ (l : List ByteArray), (∀ x ∈ l, Word x) → ∀ c ∈ jl l, c ≠ 35
  | [], _, c, h => by simp [jl] at h
  | [x], hw, c, h => mem_hash (hw x (by simp)).hash c h
  | x :: y :: r, hw, c, h => by
    rw [jl] at h
    rcases List.mem_append.1 h with h | h
    · exact mem_hash (hw x (by simp)).hash c h
    · rcases List.mem_cons.1 h with rfl | h
      · decide
      · exact jl_hash (y :: r) (fun z hz => hw z (by simp [hz])) c h

theorem bt_mem {u : ByteArray} {L : List UInt8} (hu : u.data.toList = L) (hL : ∀ c ∈ L, c ≠ 35) (i : Nat) (hi : i < u.size) : bt u i ≠ 35 := by
  obtain ⟨c, hc, hb⟩ := bt_data u i hi
  rw [hu] at hc
  intro e
  refine hL c (List.mem_of_getElem? hc) ?_
  apply UInt8.toNat_inj.1
  rw [hb, e]
  rfl

theorem ahead_self {s : ByteArray} (h : ∀ i, i < s.size → bt s i ≠ 35) : ahead s = s := by
  have hp : hpos s = s.size := by
    have hle := hpos_le s
    by_cases hlt : hpos s < s.size
    · exact absurd (hpos_at s hlt) (h _ hlt)
    · omega
  unfold ahead
  rw [hp, Lib.extract_eq]
  simp only [List.drop_zero, Nat.sub_zero]
  rw [List.take_of_length_le (by rw [← Lib.size_eq]; exact Nat.le_refl _)]

theorem hpos_eq {s : ByteArray} {n : Nat} (h : ∀ i, i < n → bt s i ≠ 35) (hn : n < s.size) (h35 : bt s n = 35) : hpos s = n := by
  have hle := hpos_le s
  rcases Nat.lt_trichotomy (hpos s) n with h1 | h1 | h1
  · exact absurd (hpos_at s (by omega)) (h _ h1)
  · exact h1
  · exact absurd h35 (hpos_ne s n h1)

/-- P108: the words of the joined words. -/
theorem joined {l : List ByteArray} (hw : ∀ x ∈ l, Word x) {t : ByteArray} (ht : t.data.toList = jl l) : fieldsB (ahead t) = l := by
  rw [ahead_self (bt_mem ht (jl_hash l hw))]
  have hsz : t.size = (jl l).length := by rw [Lib.size_eq, ht]
  show fld t 0 (-1) = l
  by_cases he : l = []
  · subst he
    exact fld_end (by rw [hsz]; simp [jl])
  · exact (scan_list l t [] [] he hw (by rw [ht]; simp) (tl_off (by simp; omega))).1 (by simp; omega)

theorem wide_blank {u : ByteArray} {A Y : List UInt8} (hu : u.data.toList = A ++ ([227, 128, 128] ++ Y)) : Utf8.decode u A.length = (12288, 3) := by
  have hsz : u.size = A.length + (3 + Y.length) := by rw [Lib.size_eq, hu]; simp; omega
  have b0 : bt u A.length = 227 := bt_list hu 0 (by simp)
  have b1 : bt u (A.length + 1) = 128 := bt_list hu 1 (by simp)
  have b2 : bt u (A.length + 2) = 128 := bt_list hu 2 (by simp)
  have t1 : tl u (A.length + 1) = true := by
    unfold tl
    rw [b1]
    simp
    omega
  have t2 : tl u (A.length + 2) = true := by
    unfold tl
    rw [b2]
    simp
    omega
  rw [dec_eq, b0, b1, b2, t1, t2, if_neg (by decide), if_neg (by decide), if_pos (by decide), if_pos (by decide)]

theorem fld_space {u : ByteArray} {pos : Nat} (h : pos < u.size) (hb : bt u pos = 32 ∨ bt u pos = 9) : fld u pos (-1) = fld u (pos + 1) (-1) := by
  have hd := dec_ascii_at u pos (by omega)
  have := fld_skip h (by rw [hd]; rcases hb with e | e <;> rw [e] <;> decide)
  rw [hd] at this
  exact this

/-- Blanks ahead and behind change nothing. -/
theorem joined_blanks {l : List ByteArray} (hw : ∀ x ∈ l, Word x) {u : ByteArray} (hu : u.data.toList = [32, 9] ++ (jl l ++ [227, 128, 128, 32])) : fieldsB (ahead u) = l := by
  have hh : ∀ c ∈ ([32, 9] ++ (jl l ++ [227, 128, 128, 32]) : List UInt8), c ≠ 35 := by
    intro c hc
    rcases List.mem_append.1 hc with h | h
    · intro e
      subst e
      revert h
      decide
    · rcases List.mem_append.1 h with h | h
      · exact jl_hash l hw c h
      · intro e
        subst e
        revert h
        decide
  rw [ahead_self (bt_mem hu hh)]
  have hsz : u.size = 2 + ((jl l).length + 4) := by rw [Lib.size_eq, hu]; simp; omega
  have b0 : bt u 0 = 32 := bt_list (A := []) (X := [32, 9]) (Y := jl l ++ [227, 128, 128, 32]) (by rw [hu]; rfl) 0 (by simp)
  have b1 : bt u 1 = 9 := bt_list (A := []) (X := [32, 9]) (Y := jl l ++ [227, 128, 128, 32]) (by rw [hu]; rfl) 1 (by simp)
  have hu2 : u.data.toList = ([32, 9] ++ jl l) ++ ([227, 128, 128] ++ [32]) := by rw [hu]; simp
  have hlen : ([32, 9] ++ jl l : List UInt8).length = 2 + (jl l).length := by simp; omega
  have hd := wide_blank hu2
  rw [hlen] at hd
  have hu3 : u.data.toList = ([32, 9] ++ jl l ++ [227, 128, 128]) ++ ([32] ++ []) := by rw [hu]; simp
  have b3 := bt_list hu3 0 (by simp)
  have hlen3 : ([32, 9] ++ jl l ++ [227, 128, 128] : List UInt8).length = 2 + (jl l).length + 3 := by simp; omega
  rw [hlen3] at b3
  have hlast : fld u (2 + (jl l).length + 3) (-1) = [] := by
    rw [fld_space (by omega) (.inl b3)]
    exact fld_end (by omega)
  have hstart : fld u 0 (-1) = fld u 2 (-1) := by rw [fld_space (by omega) (.inl b0), fld_space (by omega) (.inr b1)]
  show fld u 0 (-1) = l
  rw [hstart]
  by_cases he : l = []
  · subst he
    rw [fld_skip (by omega) (by rw [show (2 : Nat) = 2 + (jl []).length from rfl, hd]; decide)]
    rw [show Utf8.decode u 2 = (12288, 3) from hd]
    exact hlast
  · have h227 := bt_list hu2 0 (by simp)
    rw [hlen, Nat.add_zero] at h227
    have hs := (scan_list l u [32, 9] [227, 128, 128, 32] he hw hu (by
      show tl u (2 + (jl l).length) = false
      unfold tl
      rw [h227]
      simp)).2 (by show 2 + (jl l).length < u.size; omega) (by show blk ((Utf8.decode u (2 + (jl l).length)).1 : Int) = true; rw [hd]; decide)
    have hs' : fld u 2 (-1) = l ++ fld u (2 + (jl l).length + (Utf8.decode u (2 + (jl l).length)).2) (-1) := hs
    rw [hs', hd]
    show l ++ fld u (2 + (jl l).length + 3) (-1) = l
    rw [hlast, List.append_nil]

/-- What stands behind a # changes nothing. -/
theorem joined_rest {l : List ByteArray} (hw : ∀ x ∈ l, Word x) {u : ByteArray} {R : List UInt8} (hu : u.data.toList = jl l ++ ([32, 35] ++ R)) : fieldsB (ahead u) = l := by
  have hsz : u.size = (jl l).length + (2 + R.length) := by rw [Lib.size_eq, hu]; simp; omega
  have hp : hpos u = (jl l).length + 1 := by
    refine hpos_eq (fun i hi => ?_) (by omega) ?_
    · obtain ⟨c, hc, hb⟩ := bt_data u i (by omega)
      intro e
      have hc35 : c = 35 := by
        apply UInt8.toNat_inj.1
        rw [hb, e]
        rfl
      subst hc35
      rw [hu] at hc
      by_cases h1 : i < (jl l).length
      · rw [List.getElem?_append_left h1] at hc
        exact jl_hash l hw 35 (List.mem_of_getElem? hc) rfl
      · rw [List.getElem?_append_right (by omega), show i - (jl l).length = 0 by omega] at hc
        simp at hc
    · exact bt_list (A := jl l) (X := [32, 35]) (Y := R) hu 1 (by simp)
  have hv : (ahead u).data.toList = [] ++ (jl l ++ [32]) := by
    unfold ahead
    rw [hp, Lib.extract_data, hu]
    simp only [List.drop_zero, Nat.sub_zero, List.nil_append]
    rw [List.take_append, List.take_of_length_le (by omega), Nat.add_sub_cancel_left]
    rfl
  generalize ahead u = v at hv
  have hvs : v.size = (jl l).length + 1 := by rw [Lib.size_eq, hv]; simp
  have b : bt v (jl l).length = 32 := bt_list (A := jl l) (X := [32]) (Y := []) (by rw [hv]; simp) 0 (by simp)
  have hd := dec_ascii_at v (jl l).length (by omega)
  rw [b] at hd
  show fld v 0 (-1) = l
  by_cases he : l = []
  · subst he
    have hb0 : bt v 0 = 32 := b
    have hv1 : v.size = 1 := hvs
    rw [fld_space (by omega) (.inl hb0)]
    exact fld_end (by omega)
  · have hs := (scan_list l v [] [32] he hw hv (by
      simp only [List.length_nil, Nat.zero_add]
      unfold tl
      rw [b]
      simp)).2 (by simp; omega) (by simp only [List.length_nil, Nat.zero_add]; rw [hd]; decide)
    simp only [List.length_nil, Nat.zero_add] at hs
    rw [hs, hd]
    show l ++ fld v ((jl l).length + 1) (-1) = l
    rw [fld_end (by omega), List.append_nil]

end Go.Proofs.Ytaahbklganhfkab
