import Derived.Test.YtaahbklganhfkabDoorTxD
import Derived.Test.YtaahbklganhfkabDoorPlain
namespace Go.Proofs.YtaahbklganhfkabDoor

/-- The number that digits write, v ahead of them; b: whether a digit stands right ahead. -/
def numL (base : Int) : List UInt8 → Int → Bool → Option Int
  | [], v, b => if b then some v else none
  | c :: r, v, b =>
    if c.toNat = 95 ∧ b = true then numL base r v false
    else if base ≤ dg c.toNat then none
    else if 1099511627776 ≤ v * base + dg c.toNat then none
    else numL base r (v * base + dg c.toNat) true

theorem num_list (s : ByteArray) (base : Int) : ∀ f pos v b, s.size ≤ pos + f → numFrom s base f pos v b = numL base (s.data.toList.drop pos) v b
  | 0, pos, v, b, h => by
    rw [List.drop_of_length_le (by rw [← Lib.size_eq]; omega)]
    rfl
  | f + 1, pos, v, b, h => by
    by_cases hp : pos < s.size
    · obtain ⟨c, hc, hb⟩ := bt_data s pos hp
      have hlt : pos < s.data.toList.length := by rw [← Lib.size_eq]; exact hp
      have hd : s.data.toList.drop pos = c :: s.data.toList.drop (pos + 1) := by
        rw [List.drop_eq_getElem_cons hlt]
        rw [List.getElem?_eq_getElem hlt] at hc
        rw [Option.some.inj hc]
      rw [hd, numFrom, if_pos hp, numL, hb]
      rw [num_list s base f (pos + 1) v false (by omega), num_list s base f (pos + 1) _ true (by omega)]
    · rw [numFrom, if_neg hp, List.drop_of_length_le (by rw [← Lib.size_eq]; omega)]
      rfl

theorem numB_list (s : ByteArray) (base : Int) : numB s base = numL base s.data.toList 0 false := by
  unfold numB
  rw [num_list s base s.size 0 0 false (by omega)]
  rfl

theorem dg_hxd : ∀ n, n < 16 → dg ((hxd n).toNat : Int) = n := by decide
theorem hxd_ne : ∀ n, n < 16 → (hxd n).toNat ≠ 95 ∧ hxd n ≠ 120 := by decide

/-- What a number is told as. -/
def val (v : Nat) : Option Int := if v < 1099511627776 then some (v : Int) else none

theorem numL_digit {base : Int} {n : Nat} (hn : n < 16) (hb : (n : Int) < base) (r : List UInt8) (v : Int) (b : Bool) :
    numL base (hxd n :: r) v b = if 1099511627776 ≤ v * base + n then none else numL base r (v * base + n) true := by
  rw [numL, if_neg (fun h => (hxd_ne n hn).1 h.1), dg_hxd n hn, if_neg (by omega)]

theorem eval16 : ∀ (f v : Nat) (out : List UInt8) (b : Bool), v < 16 ^ (f + 1) → numL 16 (hexAcc (f + 1) v out) 0 b = if v < 1099511627776 then numL 16 out v true else none
  | 0, v, out, b, h => by
    have h16 : v < 16 := by omega
    rw [hexAcc_last h16, numL_digit h16 (by omega), if_neg (by omega), if_pos (by omega)]
    congr 1
    omega
  | f + 1, v, out, b, h => by
    by_cases h16 : v < 16
    · rw [hexAcc_last h16, numL_digit h16 (by omega), if_neg (by omega), if_pos (by omega)]
      congr 1
      omega
    · have hd : v / 16 < 16 ^ (f + 1) := by
        rw [Nat.div_lt_iff_lt_mul (by omega), ← Nat.pow_succ]
        exact h
      have hm : v % 16 < 16 := Nat.mod_lt _ (by omega)
      rw [hexAcc_step h16, eval16 f (v / 16) _ b hd]
      by_cases hT : v / 16 < 1099511627776
      · rw [if_pos hT, numL_digit hm (by omega)]
        have e : ((v / 16 : Nat) : Int) * 16 + ((v % 16 : Nat) : Int) = (v : Int) := by omega
        rw [e]
        by_cases hv : v < 1099511627776
        · rw [if_neg (by omega), if_pos hv]
        · rw [if_pos (by omega), if_neg hv]
      · rw [if_neg hT, if_neg (by omega)]

/-- Decimal digits. -/
def decAcc : Nat → Nat → List UInt8 → List UInt8
  | 0, _, out => out
  | f + 1, v, out => if v < 10 then hxd v :: out else decAcc f (v / 10) (hxd (v % 10) :: out)
def decL (v : Nat) : List UInt8 := decAcc 20 v []
theorem decAcc_last {f v : Nat} {out : List UInt8} (h : v < 10) : decAcc (f + 1) v out = hxd v :: out := by rw [decAcc, if_pos h]
theorem decAcc_step {f v : Nat} {out : List UInt8} (h : ¬ v < 10) : decAcc (f + 1) v out = decAcc f (v / 10) (hxd (v % 10) :: out) := by rw [decAcc, if_neg h]

theorem eval10 : ∀ (f v : Nat) (out : List UInt8) (b : Bool), v < 10 ^ (f + 1) → numL 10 (decAcc (f + 1) v out) 0 b = if v < 1099511627776 then numL 10 out v true else none
  | 0, v, out, b, h => by
    have h10 : v < 10 := by omega
    rw [decAcc_last h10, numL_digit (by omega) (by omega), if_neg (by omega), if_pos (by omega)]
    congr 1
    omega
  | f + 1, v, out, b, h => by
    by_cases h10 : v < 10
    · rw [decAcc_last h10, numL_digit (by omega) (by omega), if_neg (by omega), if_pos (by omega)]
      congr 1
      omega
    · have hd : v / 10 < 10 ^ (f + 1) := by
        rw [Nat.div_lt_iff_lt_mul (by omega), ← Nat.pow_succ]
        exact h
      have hm : v % 10 < 10 := Nat.mod_lt _ (by omega)
      rw [decAcc_step h10, eval10 f (v / 10) _ b hd]
      by_cases hT : v / 10 < 1099511627776
      · rw [if_pos hT, numL_digit (by omega) (by omega)]
        have e : ((v / 10 : Nat) : Int) * 10 + ((v % 10 : Nat) : Int) = (v : Int) := by omega
        rw [e]
        by_cases hv : v < 1099511627776
        · rw [if_neg (by omega), if_pos hv]
        · rw [if_pos (by omega), if_neg hv]
      · rw [if_neg hT, if_neg (by omega)]

theorem num_hex {v : Nat} (h : v < 18446744073709551616) (b : Bool) : numL 16 (hexL v) 0 b = val v := by
  unfold hexL val
  rw [eval16 16 v [] b (by omega)]
  rfl
theorem num_dec10 {v : Nat} (h : v < 18446744073709551616) (b : Bool) : numL 10 (decL v) 0 b = val v := by
  unfold decL val
  rw [eval10 19 v [] b (by omega)]
  rfl

theorem hexAcc_app : ∀ (f v : Nat) (out x : List UInt8), hexAcc f v out ++ x = hexAcc f v (out ++ x)
  | 0, _, _, _ => rfl
  | f + 1, v, out, x => by
    by_cases h : v < 16
    · rw [hexAcc_last h, hexAcc_last h]
      rfl
    · rw [hexAcc_step h, hexAcc_step h, hexAcc_app f]
      rfl

theorem num_hex_under {v : Nat} (h : v < 18446744073709551616) (b : Bool) : numL 16 (hexL v ++ [95]) 0 b = none := by
  unfold hexL
  rw [hexAcc_app, eval16 16 v _ b (by omega)]
  split
  · rfl
  · rfl

theorem num_zeros (base : Int) (hb : 0 < base) (l : List UInt8) : ∀ (k : Nat) (b : Bool), ∃ b', numL base (List.replicate k 48 ++ l) 0 b = numL base l 0 b'
  | 0, b => ⟨b, rfl⟩
  | k + 1, b => by
    obtain ⟨b', h⟩ := num_zeros base hb l k true
    refine ⟨b', ?_⟩
    rw [List.replicate_succ, List.cons_append, show (48 : UInt8) = hxd 0 from rfl, numL_digit (by omega) (by omega), if_neg (by omega)]
    rw [show (0 : Int) * base + ((0 : Nat) : Int) = 0 by omega]
    exact h

/-- With _ between the digits. -/
def und : List UInt8 → List UInt8
  | [] => []
  | [x] => [x]
  | x :: y :: r => x :: 95 :: und (y :: r)

theorem und_snoc : ∀ (l : List UInt8) (x : UInt8), und (l ++ [x]) = if l = [] then [x] else und l ++ [95, x]
  | [], x => by simp [und]
  | [y], x => by simp [und]
  | y :: z :: r, x => by
    have ih := und_snoc (z :: r) x
    simp only [List.cons_append] at ih ⊢
    rw [und, ih, und]
    simp

theorem num_und (base : Int) : ∀ (l : List UInt8), l ≠ [] → (∀ c ∈ l, ∃ n : Nat, n < 16 ∧ (n : Int) < base ∧ c = hxd n) → ∀ p b b', numL base (und l) p b = numL base l p b'
  | [], h, _, _, _, _ => absurd rfl h
  | [x], _, hd, p, b, b' => by
    obtain ⟨n, h1, h2, rfl⟩ := hd x (by simp)
    show numL base [hxd n] p b = numL base [hxd n] p b'
    rw [numL_digit h1 h2, numL_digit h1 h2]
  | x :: y :: r, _, hd, p, b, b' => by
    obtain ⟨n, h1, h2, rfl⟩ := hd x (by simp)
    rw [und, numL_digit h1 h2, numL_digit h1 h2]
    split
    · rfl
    · have hu : numL base (95 :: und (y :: r)) (p * base + n) true = numL base (und (y :: r)) (p * base + n) false := by
        rw [numL, if_pos ⟨rfl, rfl⟩]
      rw [hu]
      exact num_und base (y :: r) (by simp) (fun c hc => hd c (by simp [hc])) _ _ _

theorem hexAcc_mem : ∀ (f v : Nat) (out : List UInt8), (∀ c ∈ out, ∃ n, n < 16 ∧ c = hxd n) → ∀ c ∈ hexAcc f v out, ∃ n, n < 16 ∧ c = hxd n
  | 0, _, _, h => h
  | f + 1, v, out, h => by
    unfold hexAcc
    split
    · rename_i h16
      intro c hc
      rcases List.mem_cons.1 hc with rfl | hc
      · exact ⟨v, h16, rfl⟩
      · exact h c hc
    · refine hexAcc_mem f _ _ (fun c hc => ?_)
      rcases List.mem_cons.1 hc with rfl | hc
      · exact ⟨v % 16, Nat.mod_lt _ (by omega), rfl⟩
      · exact h c hc
theorem decAcc_mem : ∀ (f v : Nat) (out : List UInt8), (∀ c ∈ out, ∃ n, n < 16 ∧ c = hxd n) → ∀ c ∈ decAcc f v out, ∃ n, n < 16 ∧ c = hxd n
  | 0, _, _, h => h
  | f + 1, v, out, h => by
    unfold decAcc
    split
    · rename_i h16
      intro c hc
      rcases List.mem_cons.1 hc with rfl | hc
      · exact ⟨v, by omega, rfl⟩
      · exact h c hc
    · refine decAcc_mem f _ _ (fun c hc => ?_)
      rcases List.mem_cons.1 hc with rfl | hc
      · exact ⟨v % 10, by omega, rfl⟩
      · exact h c hc
theorem hexL_mem (v : Nat) : ∀ c ∈ hexL v, ∃ n, n < 16 ∧ c = hxd n := hexAcc_mem 17 v [] (by simp)
theorem decL_mem (v : Nat) : ∀ c ∈ decL v, ∃ n, n < 16 ∧ c = hxd n := decAcc_mem 20 v [] (by simp)

theorem hexL_ne {v : Nat} (h : v < 18446744073709551616) : hexL v ≠ [] := by
  intro e
  have h1 := num_hex_under h true
  have h2 := num_hex h false
  have h3 := num_hex h true
  rw [e] at h2 h3
  have h4 : (none : Option Int) = val v := h2
  have h5 : (some 0 : Option Int) = val v := h3
  rw [← h4] at h5
  cases h5

theorem hexL_und {v : Nat} (h : v < 18446744073709551616) (b : Bool) : numL 16 (und (hexL v)) 0 b = val v := by
  rw [num_und 16 (hexL v) (hexL_ne h) (fun c hc => by obtain ⟨n, hn, rfl⟩ := hexL_mem v c hc; exact ⟨n, hn, by omega, rfl⟩) 0 b true]
  exact num_hex h true

/-- A text that begins with 0x. -/
theorem all_0x {s : ByteArray} {l : List UInt8} (hs : s.data.toList = 48 :: 120 :: l) : numAll s = numL 16 l 0 false := by
  have hsz : s.size = l.length + 2 := by rw [Lib.size_eq, hs]; simp
  obtain ⟨c0, h0, b0⟩ := bt_data s 0 (by omega)
  obtain ⟨c1, h1, b1⟩ := bt_data s 1 (by omega)
  rw [hs] at h0 h1
  simp at h0 h1
  subst h0 h1
  have hx : is0x s = true := by
    unfold is0x
    exact decide_eq_true ⟨by omega, b0.symm, b1.symm⟩
  unfold numAll
  rw [if_pos hx, numB_list, Lib.extract_data, hs]
  congr 1
  simp only [List.drop_succ_cons, List.drop_zero]
  rw [List.take_of_length_le (by omega)]

/-- A text without an x. -/
theorem all_dec {s : ByteArray} {l : List UInt8} (hs : s.data.toList = l) (hl : ∀ c ∈ l, c ≠ 120) : numAll s = numL 10 l 0 false := by
  have hx : ¬ is0x s = true := by
    unfold is0x
    intro h
    obtain ⟨h2, _, h1⟩ := of_decide_eq_true h
    obtain ⟨c, hc, hb⟩ := bt_data s 1 (by omega)
    rw [hs] at hc
    refine hl c (List.mem_of_getElem? hc) ?_
    apply UInt8.toNat_inj.1
    rw [hb, h1]
    rfl
  unfold numAll
  rw [if_neg hx, numB_list, hs]

theorem decL_x (v : Nat) : ∀ c ∈ decL v, c ≠ 120 := by
  intro c hc
  obtain ⟨n, hn, rfl⟩ := decL_mem v c hc
  exact (hxd_ne n hn).2

theorem text1 {v : Nat} (h : v < 18446744073709551616) {s : ByteArray} (hs : s.data.toList = 48 :: 120 :: hexL v) : numAll s = val v := by rw [all_0x hs, num_hex h]
theorem text2 {v : Nat} (h : v < 18446744073709551616) {s : ByteArray} {k : Nat} (hs : s.data.toList = 48 :: 120 :: (List.replicate k 48 ++ hexL v)) : numAll s = val v := by
  obtain ⟨b, hb⟩ := num_zeros 16 (by omega) (hexL v) k false
  rw [all_0x hs, hb, num_hex h]
theorem text3 {v : Nat} (h : v < 18446744073709551616) {s : ByteArray} (hs : s.data.toList = 48 :: 120 :: und (hexL v)) : numAll s = val v := by rw [all_0x hs, hexL_und h]
theorem text4 {v : Nat} (h : v < 18446744073709551616) {s : ByteArray} (hs : s.data.toList = decL v) : numAll s = val v := by rw [all_dec hs (decL_x v), num_dec10 h]
theorem text5 {v : Nat} (h : v < 18446744073709551616) {s : ByteArray} {k : Nat} (hs : s.data.toList = List.replicate k 48 ++ decL v) : numAll s = val v := by
  obtain ⟨b, hb⟩ := num_zeros 10 (by omega) (decL v) k false
  rw [all_dec hs (fun c hc => ?_), hb, num_dec10 h]
  rcases List.mem_append.1 hc with hc | hc
  · rw [List.eq_of_mem_replicate hc]
    decide
  · exact decL_x v c hc
theorem text6 {v : Nat} (h : v < 18446744073709551616) {s : ByteArray} (hs : s.data.toList = 48 :: 120 :: (hexL v ++ [95])) : numAll s = none := by rw [all_0x hs, num_hex_under h]

end Go.Proofs.YtaahbklganhfkabDoor
