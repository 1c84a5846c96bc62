import Derived.Test.YtilhceajhlaojaaGreatDoorZ6
namespace Go.Proofs.YtilhceajhlaojaaGreatDoor.Is
set_option linter.unusedVariables false
/-- A word has these bits under the mask. -/
def kb (M B w : Nat) : Prop := ∀ i, M.testBit i = true → w.testBit i = B.testBit i
theorem tb_bN (w i : Nat) : w.testBit i = decide (bN w i = 1) := by rw [Nat.testBit_eq_decide_div_mod_eq, bN]
theorem tb_pow (n i : Nat) : (2 ^ n).testBit i = decide (n = i) := Nat.testBit_two_pow
def maskJ : List UInt8 → Nat
  | [] => 0
  | x :: l => if x = 48 then 2 ^ nb l ||| maskJ l else if x = 49 then 2 ^ nb l ||| maskJ l else maskJ l
def biJ : List UInt8 → Nat
  | [] => 0
  | x :: l => if x = 49 then 2 ^ nb l ||| biJ l else biJ l
theorem maskJ_out (l : List UInt8) : ∀ i, nb l ≤ i → (maskJ l).testBit i = false := by
  induction l with
  | nil => intro i _; simp [maskJ]
  | cons x l ih =>
    intro i hi
    have h1 : nb l ≤ nb (x :: l) := by simp only [nb]; split <;> omega
    have ih := ih i (by omega)
    have h2 : x ≠ 32 → nb l < i := by intro hx; simp only [nb, if_neg hx] at hi; omega
    simp only [maskJ]
    by_cases e1 : x = 48
    · have := h2 (by rw [e1]; decide)
      rw [if_pos e1, Nat.testBit_or, tb_pow, ih, decide_eq_false (by omega)]; rfl
    · by_cases e2 : x = 49
      · have := h2 (by rw [e2]; decide)
        rw [if_neg e1, if_pos e2, Nat.testBit_or, tb_pow, ih, decide_eq_false (by omega)]; rfl
      · rw [if_neg e1, if_neg e2, ih]
theorem biJ_out (l : List UInt8) : ∀ i, nb l ≤ i → (biJ l).testBit i = false := by
  induction l with
  | nil => intro i _; simp [biJ]
  | cons x l ih =>
    intro i hi
    have h1 : nb l ≤ nb (x :: l) := by simp only [nb]; split <;> omega
    have ih := ih i (by omega)
    have h2 : x ≠ 32 → nb l < i := by intro hx; simp only [nb, if_neg hx] at hi; omega
    simp only [biJ]
    by_cases e2 : x = 49
    · have := h2 (by rw [e2]; decide)
      rw [if_pos e2, Nat.testBit_or, tb_pow, ih, decide_eq_false (by omega)]; rfl
    · rw [if_neg e2, ih]
/-- A pattern's 0s and 1s, as a mask and its bits. -/
theorem fi_kb (w : Nat) (l : List UInt8) : fiP w l = true ↔ kb (maskJ l) (biJ l) w := by
  induction l with
  | nil => simp [fiP, kb, maskJ]
  | cons x l ih =>
    have hmo := maskJ_out l
    have hbo := biJ_out l
    have hb := tb_bN w (nb l)
    have hlt := bN_lt w (nb l)
    simp only [fiP, Bool.and_eq_true, ih]
    by_cases e1 : x = 48
    · subst e1
      simp only [maskJ, biJ, if_pos, if_neg (show ¬ (48 : UInt8) = 49 by decide)]
      constructor
      · rintro ⟨h1, h2⟩ i hi
        rw [Nat.testBit_or, tb_pow] at hi
        by_cases e : nb l = i
        · subst e
          rw [hbo _ (Nat.le_refl _), hb]
          have : bN w (nb l) = 0 := by simpa using h1
          rw [this]; rfl
        · rw [decide_eq_false e, Bool.false_or] at hi
          exact h2 i hi
      · intro h
        refine ⟨?_, fun i hi => h i (by rw [Nat.testBit_or, hi, Bool.or_true])⟩
        have := h (nb l) (by rw [Nat.testBit_or, tb_pow, decide_eq_true rfl]; rfl)
        rw [hbo _ (Nat.le_refl _), hb] at this
        have : bN w (nb l) ≠ 1 := by simpa using this
        have : bN w (nb l) = 0 := by omega
        rw [this]; rfl
    · by_cases e2 : x = 49
      · subst e2
        simp only [maskJ, biJ, if_pos, if_neg (show ¬ (49 : UInt8) = 48 by decide)]
        constructor
        · rintro ⟨h1, h2⟩ i hi
          rw [Nat.testBit_or, tb_pow] at hi
          rw [Nat.testBit_or, tb_pow]
          by_cases e : nb l = i
          · subst e
            rw [decide_eq_true rfl, hb]
            have : bN w (nb l) = 1 := by simpa using h1
            rw [this]; rfl
          · rw [decide_eq_false e, Bool.false_or] at hi ⊢
            exact h2 i hi
        · intro h
          refine ⟨?_, fun i hi => ?_⟩
          · have := h (nb l) (by rw [Nat.testBit_or, tb_pow, decide_eq_true rfl]; rfl)
            rw [Nat.testBit_or, tb_pow, decide_eq_true rfl, hb] at this
            have : bN w (nb l) = 1 := by simpa using this
            rw [this]; rfl
          · have h3 := h i (by rw [Nat.testBit_or, hi, Bool.or_true])
            have hne : nb l ≠ i := by rintro rfl; rw [hmo _ (Nat.le_refl _)] at hi; cases hi
            rwa [Nat.testBit_or, tb_pow, decide_eq_false hne, Bool.false_or] at h3
      · have hx : (!(x == 48 && bN w (nb l) != 0 || x == 49 && bN w (nb l) != 1)) = true := by
          rw [beq_eq_false_iff_ne.2 e1, beq_eq_false_iff_ne.2 e2]; rfl
        simp only [maskJ, biJ, if_neg e1, if_neg e2, hx, true_and]
theorem fit_kb (w : Nat) (r : RowP) (hs : r.bits &&& r.mask = r.bits) : fitR w r = true ↔ kb r.mask r.bits w := by
  rw [fitR, beq_iff_eq]
  constructor
  · intro h i hi
    rw [← h, Nat.testBit_and, hi, Bool.and_true]
  · intro h
    apply Nat.eq_of_testBit_eq
    intro i
    rw [Nat.testBit_and]
    cases hm : r.mask.testBit i
    · rw [Bool.and_false, ← hs, Nat.testBit_and, hm, Bool.and_false]
    · rw [h i hm, Bool.and_true]
def subK (M B M' B' : Nat) : Bool := (M' &&& M == M') && (B &&& M' == B' &&& M')
theorem kb_sub {M B M' B' w : Nat} (h : kb M B w) (hs : subK M B M' B' = true) : kb M' B' w := by
  simp only [subK, Bool.and_eq_true, beq_iff_eq] at hs
  intro i hi
  have h1 : M.testBit i = true := by
    have := congrArg (fun z => Nat.testBit z i) hs.1
    simp only [Nat.testBit_and, hi, Bool.true_and] at this
    exact this
  have h2 := congrArg (fun z => Nat.testBit z i) hs.2
  simp only [Nat.testBit_and, hi, Bool.and_true] at h2
  rw [h i h1, h2]
def notK (M B M' B' : Nat) : Bool := ((B ^^^ B') &&& M) &&& M' != 0
theorem kb_not {M B M' B' w : Nat} (h : kb M B w) (h' : kb M' B' w) : notK M B M' B' = false := by
  rw [notK, bne_eq_false_iff_eq]
  apply Nat.eq_of_testBit_eq
  intro i
  rw [Nat.testBit_and, Nat.testBit_and, Nat.testBit_xor, Nat.zero_testBit]
  cases h1 : M.testBit i
  · simp
  · cases h2 : M'.testBit i
    · simp
    · rw [← h i h1, ← h' i h2]; simp
theorem kb_and {M B M' B' w : Nat} (h : kb M B w) (h' : kb M' B' w) : kb (M ||| M') ((B &&& M) ||| (B' &&& M')) w := by
  intro i hi
  rw [Nat.testBit_or] at hi
  rw [Nat.testBit_or, Nat.testBit_and, Nat.testBit_and]
  cases h1 : M.testBit i
  · cases h2 : M'.testBit i
    · rw [h1, h2] at hi; cases hi
    · rw [h' i h2]; simp
  · cases h2 : M'.testBit i
    · rw [h i h1]; simp
    · rw [← h i h1, ← h' i h2]; simp
/-- The first row that fits all words with these bits, where that is seen. -/
def findK (M B : Nat) : List RowP → Option RowP
  | [] => none
  | r :: l => if notK M B r.mask r.bits then findK M B l else if subK M B r.mask r.bits then some r else none
theorem findK_some {M B w : Nat} (h : kb M B w) : ∀ (l : List RowP) (r : RowP), (∀ r ∈ l, r.bits &&& r.mask = r.bits) → findK M B l = some r → l.find? (fitR w) = some r
  | [], r, _, hk => by cases hk
  | q :: l, r, hs, hk => by
    rw [findK] at hk
    rw [List.find?_cons]
    have hq := hs q (List.mem_cons_self ..)
    have hl := findK_some h l r (fun y hy => hs y (List.mem_cons_of_mem _ hy))
    by_cases hn : notK M B q.mask q.bits = true
    · have : fitR w q = false := by
        cases hf : fitR w q
        · rfl
        · rw [kb_not h ((fit_kb w q hq).1 hf)] at hn; cases hn
      rw [this]
      rw [if_pos hn] at hk
      exact hl hk
    · rw [if_neg hn] at hk
      by_cases hu : subK M B q.mask q.bits = true
      · rw [if_pos hu] at hk
        rw [(fit_kb w q hq).2 (kb_sub h hu)]
        exact hk
      · rw [if_neg hu] at hk; cases hk
theorem low_sub : ∀ r ∈ lowL, r.bits &&& r.mask = r.bits := by
  have h : lowL.all (fun r => r.bits &&& r.mask == r.bits) = true := by decide
  intro r hr
  simpa using List.all_eq_true.1 h r hr
theorem high_sub : ∀ r ∈ highL, r.bits &&& r.mask = r.bits := by
  have h : highL.all (fun r => r.bits &&& r.mask == r.bits) = true := by decide
  intro r hr
  simpa using List.all_eq_true.1 h r hr
theorem kb_field {M B w at_ wide : Nat} (h : kb M B w) (hs : subK M B (2 ^ at_ * (2 ^ wide - 1)) B = true) : w / 2 ^ at_ % 2 ^ wide = B / 2 ^ at_ % 2 ^ wide := by
  have h' := kb_sub h hs
  apply Nat.eq_of_testBit_eq
  intro i
  rw [Nat.testBit_mod_two_pow, Nat.testBit_mod_two_pow, Nat.testBit_div_two_pow, Nat.testBit_div_two_pow]
  by_cases hi : i < wide
  · rw [h' (i + at_) (by rw [Nat.testBit_two_pow_mul, Nat.testBit_two_pow_sub_one]; simp [hi])]
  · simp [hi]
def rowK (M B : Nat) : Option RowP := if M &&& 201326592 = 201326592 then (if B / 67108864 % 4 = 0 then findK M B lowL else findK M B highL) else none
theorem rowK_some {M B w : Nat} {r : RowP} (h : kb M B w) (hk : rowK M B = some r) : rowW w = some r := by
  unfold rowK at hk
  by_cases hm : M &&& 201326592 = 201326592
  · rw [if_pos hm] at hk
    have := kb_field (at_ := 26) (wide := 2) h (by rw [subK]; simp [Nat.and_comm, hm])
    rw [rowW, show w / 67108864 % 4 = B / 67108864 % 4 from this]
    by_cases h0 : B / 67108864 % 4 = 0
    · rw [if_pos h0] at hk ⊢; exact findK_some h _ _ low_sub hk
    · rw [if_neg h0] at hk ⊢; exact findK_some h _ _ high_sub hk
  · rw [if_neg hm] at hk; cases hk
end Go.Proofs.YtilhceajhlaojaaGreatDoor.Is
namespace Go.Proofs.YtilhceajhlaojaaGreatDoor.Is
set_option linter.unusedVariables false
/-- A sum over the bits of a word: what each counts, from the highest on. -/
def linL : List Nat → Nat → Nat
  | [], _ => 0
  | a :: t, w => bN w t.length * a + linL t w
/-- What a pattern's bits count for a letter. -/
def coL (c : UInt8) : List UInt8 → List Nat
  | [] => []
  | x :: l => if x = 32 then coL c l else (if x = c then 2 ^ cnt c l else 0) :: coL c l
theorem coL_len (c : UInt8) (l : List UInt8) : (coL c l).length = nb l := by
  induction l with
  | nil => rfl
  | cons x l ih =>
    simp only [coL, nb]
    split
    · exact ih
    · rw [List.length_cons, ih]
theorem fv_lin (c : UInt8) (hc : c ≠ 32) (w : Nat) (l : List UInt8) : fvP c w l = linL (coL c l) w := by
  induction l with
  | nil => rfl
  | cons x l ih =>
    simp only [fvP, coL]
    by_cases h32 : x = 32
    · rw [if_pos h32, if_neg (by rintro rfl; exact hc h32), ih]
    · rw [if_neg h32, linL, coL_len]
      by_cases hx : x = c
      · rw [if_pos hx, if_pos hx, ih]
      · rw [if_neg hx, if_neg hx, ih, Nat.mul_zero, Nat.zero_add]
/-- What a word's bits count for a part. -/
def crL (a wd f : Nat) : Nat → List Nat
  | 0 => []
  | n + 1 => (if a ≤ n ∧ n < a + wd then 2 ^ (n - a + f) else 0) :: crL a wd f n
theorem crL_len (a wd f n : Nat) : (crL a wd f n).length = n := by
  induction n with
  | zero => rfl
  | succ n ih => rw [crL, List.length_cons, ih]
theorem cr_lin (a wd f w n : Nat) : linL (crL a wd f n) w = w / 2 ^ a % 2 ^ (min (n - a) wd) * 2 ^ f := by
  induction n with
  | zero => simp [crL, linL, Nat.mod_one]
  | succ n ih =>
    rw [crL, linL, crL_len, ih]
    by_cases h : a ≤ n ∧ n < a + wd
    · rw [if_pos h]
      have e1 : min (n + 1 - a) wd = min (n - a) wd + 1 := by omega
      have e2 : min (n - a) wd = n - a := by omega
      rw [e1, e2, Nat.pow_succ, Nat.mod_mul, Nat.div_div_eq_div_mul, ← Nat.pow_add, show a + (n - a) = n by omega, Nat.pow_add, bN, Nat.add_mul]
      generalize w / 2 ^ n % 2 = q
      rw [Nat.add_comm, ← Nat.mul_assoc, Nat.mul_comm q (2 ^ (n - a))]
    · rw [if_neg h, Nat.mul_zero, Nat.zero_add]
      rw [show min (n + 1 - a) wd = min (n - a) wd by omega]
def addL : List Nat → List Nat → List Nat
  | a :: s, b :: t => (a + b) :: addL s t
  | s, [] => s
  | [], t => t
theorem addL_lin (w : Nat) : ∀ (s t : List Nat), s.length = t.length → linL (addL s t) w = linL s w + linL t w
  | [], [], _ => rfl
  | a :: s, b :: t, h => by
    have hl : s.length = t.length := by simpa using h
    have hal : (addL s t).length = t.length := by
      clear h
      induction s generalizing t with
      | nil => cases t with
        | nil => rfl
        | cons _ _ => cases hl
      | cons x s ih => cases t with
        | nil => cases hl
        | cons y t => simp only [addL, List.length_cons]; rw [ih t (by simpa using hl)]
    rw [addL, linL, linL, linL, hal, hl, addL_lin w s t hl, Nat.mul_add]
    omega
theorem lin_zero (n w : Nat) : linL (List.replicate n 0) w = 0 := by
  induction n with
  | zero => rfl
  | succ n ih => rw [List.replicate_succ, linL, ih, Nat.mul_zero]
/-- A letter that stands in a row of places. -/
theorem fv_run (c : UInt8) (l : List UInt8) (a wd f w : Nat) (h : ((decide (c ≠ 32) && decide (a + wd ≤ 32)) && (coL c l == crL a wd f 32)) = true) : fvP c w l = w / 2 ^ a % 2 ^ wd * 2 ^ f := by
  simp only [Bool.and_eq_true, beq_iff_eq, decide_eq_true_eq] at h
  rw [fv_lin c h.1.1, h.2, cr_lin, show min (32 - a) wd = wd by omega]
theorem fv_two (c : UInt8) (l : List UInt8) (a wd f a' wd' f' w : Nat) (h : ((decide (c ≠ 32) && (decide (a + wd ≤ 32) && decide (a' + wd' ≤ 32))) && (coL c l == addL (crL a wd f 32) (crL a' wd' f' 32))) = true) : fvP c w l = w / 2 ^ a % 2 ^ wd * 2 ^ f + w / 2 ^ a' % 2 ^ wd' * 2 ^ f' := by
  simp only [Bool.and_eq_true, beq_iff_eq, decide_eq_true_eq] at h
  rw [fv_lin c h.1.1, h.2, addL_lin _ _ _ (by rw [crL_len, crL_len]), cr_lin, cr_lin, show min (32 - a) wd = wd by omega, show min (32 - a') wd' = wd' by omega]
theorem fv_none (c : UInt8) (l : List UInt8) (w : Nat) (h : cnt c l = 0) : fvP c w l = 0 := by
  have := fvP_lt c w l
  rw [h] at this
  omega
theorem or_add (a b n : Nat) (h : a < 2 ^ n) : a ||| b * 2 ^ n = a + b * 2 ^ n := by
  rw [Nat.or_comm, Nat.mul_comm, ← Nat.two_pow_add_eq_or_of_lt h, Nat.add_comm]
end Go.Proofs.YtilhceajhlaojaaGreatDoor.Is
namespace Go.Proofs.YtilhceajhlaojaaGreatDoor.Is
set_option linter.unusedVariables false
def rp0 : RowP := ⟨1, 1, 251658240, 33554432, 555⟩
def rp1 : RowP := ⟨1, 2, 251658256, 0, 196715⟩
def rp2 : RowP := ⟨1, 3, 251658384, 16, 65771⟩
def rp3 : RowP := ⟨13, 1, 262144000, 58720256, 555⟩
def rp4 : RowP := ⟨13, 2, 262144016, 25165824, 196715⟩
def rp5 : RowP := ⟨13, 3, 262144144, 25165840, 65771⟩
def rp6 : RowP := ⟨9, 1, 261156864, 51380224, 547⟩
def rp7 : RowP := ⟨9, 2, 261156880, 17825792, 196707⟩
def rp8 : RowP := ⟨9, 3, 261157008, 17825808, 65763⟩
def rp9 : RowP := ⟨14, 1, 263127040, 60817408, 523⟩
def rp10 : RowP := ⟨14, 2, 263127056, 27262976, 196683⟩
def rp11 : RowP := ⟨14, 3, 263127184, 27262992, 65739⟩
def rp12 : RowP := ⟨17, 0, 267386880, 50331648, 33288⟩
def rp13 : RowP := ⟨18, 0, 267386880, 54525952, 33288⟩
def rp14 : RowP := ⟨19, 0, 266399984, 144, 210⟩
def rp15 : RowP := ⟨20, 0, 266338544, 2097296, 466⟩
def rp16 : RowP := ⟨21, 0, 266338544, 8388752, 466⟩
def rp17 : RowP := ⟨22, 0, 266338544, 10485904, 466⟩
def rp18 : RowP := ⟨23, 0, 266338544, 12583056, 466⟩
def rp19 : RowP := ⟨24, 0, 266338544, 14680208, 466⟩
def rp20 : RowP := ⟨25, 0, 268374000, 24055568, 72⟩
def rp21 : RowP := ⟨35, 1, 240124144, 5243056, 7352360⟩
def rp22 : RowP := ⟨36, 1, 240124144, 4194480, 7352360⟩
def rp23 : RowP := ⟨37, 1, 240124144, 5243088, 7352360⟩
def rp24 : RowP := ⟨38, 1, 240124144, 5243120, 7352360⟩
def rp25 : RowP := ⟨35, 2, 240127984, 1048752, 7340136⟩
def rp26 : RowP := ⟨36, 2, 240127984, 176, 7340136⟩
def rp27 : RowP := ⟨37, 2, 240127984, 1048784, 7340136⟩
def rp28 : RowP := ⟨38, 2, 240127984, 1048816, 7340136⟩
def rp29 : RowP := ⟨43, 0, 268435440, 19922704, 64⟩
def rp30 : RowP := ⟨44, 0, 268435440, 19922736, 64⟩
def rp31 : RowP := ⟨46, 0, 267387120, 18874480, 20480⟩
def rp32 : RowP := ⟨47, 0, 264179711, 17760256, 12⟩
def rp33 : RowP := ⟨51, 0, 268435455, 52490240, 0⟩
def rp34 : RowP := ⟨52, 0, 268435455, 52490243, 0⟩
def rp35 : RowP := ⟨48, 2, 263258096, 18935808, 524356⟩
def rp36 : RowP := ⟨48, 1, 263254016, 52490240, 524804⟩
def rp37 : RowP := ⟨31, 1, 240123904, 68157440, 7340584⟩
def rp38 : RowP := ⟨32, 1, 240123904, 67108864, 7340584⟩
def rp39 : RowP := ⟨33, 1, 240123904, 72351744, 7340584⟩
def rp40 : RowP := ⟨34, 1, 240123904, 71303168, 7340584⟩
def rp41 : RowP := ⟨31, 2, 240123920, 101711872, 7536744⟩
def rp42 : RowP := ⟨32, 2, 240123920, 100663296, 7536744⟩
def rp43 : RowP := ⟨33, 2, 240123920, 105906176, 7536744⟩
def rp44 : RowP := ⟨34, 2, 240123920, 104857600, 7536744⟩
def rp45 : RowP := ⟨26, 0, 268374000, 113184560, 72⟩
def rp46 : RowP := ⟨27, 0, 268370928, 116326512, 262216⟩
def rp47 : RowP := ⟨28, 0, 268370928, 117375088, 262216⟩
def rp48 : RowP := ⟨29, 0, 268370928, 112132208, 262216⟩
def rp49 : RowP := ⟨30, 0, 268370928, 113180784, 262216⟩
def rp50 : RowP := ⟨39, 0, 240123904, 135266304, 15728672⟩
def rp51 : RowP := ⟨40, 0, 240123904, 134217728, 15728672⟩
def rp52 : RowP := ⟨41, 0, 251658240, 167772160, 2048⟩
def rp53 : RowP := ⟨42, 0, 251658240, 184549376, 2048⟩
def rp54 : RowP := ⟨45, 0, 251658240, 251658240, 1024⟩
def rp55 : RowP := ⟨49, 0, 252710672, 234884880, 251658248⟩
def rp56 : RowP := ⟨50, 0, 252710672, 235933456, 251658248⟩
theorem low_eq : lowL = [rp0, rp1, rp2, rp3, rp4, rp5, rp6, rp7, rp8, rp9, rp10, rp11, rp12, rp13, rp14, rp15, rp16, rp17, rp18, rp19, rp20, rp21, rp22, rp23, rp24, rp25, rp26, rp27, rp28, rp29, rp30, rp31, rp32, rp33, rp34, rp35, rp36] := rfl
theorem high_eq : highL = [rp37, rp38, rp39, rp40, rp41, rp42, rp43, rp44, rp45, rp46, rp47, rp48, rp49, rp50, rp51, rp52, rp53, rp54, rp55, rp56] := rfl
/-- Which row of the program is which of the reference. -/
def prL : List (RowP × RowJ) := [(rp0, rj0), (rp1, rj1), (rp2, rj2), (rp3, rj0), (rp4, rj1), (rp5, rj2), (rp6, rj3), (rp7, rj4), (rp8, rj5), (rp9, rj6), (rp10, rj7), (rp11, rj8), (rp12, rj9), (rp13, rj10), (rp14, rj11), (rp15, rj12), (rp16, rj13), (rp17, rj14), (rp18, rj15), (rp19, rj16), (rp20, rj17), (rp21, rj44), (rp22, rj45), (rp23, rj46), (rp24, rj47), (rp25, rj48), (rp26, rj49), (rp27, rj50), (rp28, rj51), (rp29, rj25), (rp30, rj26), (rp31, rj28), (rp32, rj29), (rp33, rj34), (rp34, rj35), (rp35, rj30), (rp36, rj31), (rp37, rj36), (rp38, rj37), (rp39, rj38), (rp40, rj39), (rp41, rj40), (rp42, rj41), (rp43, rj42), (rp44, rj43), (rp45, rj18), (rp46, rj19), (rp47, rj20), (rp48, rj21), (rp49, rj22), (rp50, rj52), (rp51, rj53), (rp52, rj23), (rp53, rj24), (rp54, rj27), (rp55, rj32), (rp56, rj33)]
/-- The operation that a row of sixteen says. -/
def o16 (r : RowJ) : Bool := decide (0 < cnt 111 r.pat)
def fldO (r : RowJ) : Bool := coL 111 r.pat == crL 21 4 0 32
def eqP (a b : RowP) : Bool := a.op == b.op && (a.form == b.form && (a.mask == b.mask && (a.bits == b.bits && a.parts == b.parts)))
theorem eqP_eq {a b : RowP} (h : eqP a b = true) : a = b := by
  cases a; cases b
  simp only [eqP, Bool.and_eq_true, beq_iff_eq] at h
  obtain ⟨h1, h2, h3, h4, h5⟩ := h
  subst h1 h2 h3 h4 h5
  rfl
/-- The row of the program that is found, is one of these. -/
def goesK (M B : Nat) (ps : List RowP) : Bool := match rowK M B with | none => false | some r => ps.any (eqP r)
theorem goesK_some {M B w : Nat} {ps : List RowP} (h : kb M B w) (hg : goesK M B ps = true) : ∃ r ∈ ps, rowW w = some r := by
  unfold goesK at hg
  split at hg
  · cases hg
  · rename_i r hr
    obtain ⟨q, hq, e⟩ := List.any_eq_true.1 hg
    exact ⟨r, by rw [eqP_eq e]; exact hq, rowK_some h hr⟩
def goesO (M B : Nat) (ps : List RowP) (op : Int) : Bool := decide (1 ≤ op ∧ op ≤ 16) && goesK (M ||| 31457280) ((B &&& M) ||| (((op - 1).toNat * 2097152) &&& 31457280)) ps
theorem kb_op {w : Nat} {op : Int} (h1 : 1 ≤ op) (h2 : op ≤ 16) (h : ((w / 2 ^ 21 % 2 ^ 4 : Nat) : Int) + 1 = op) : kb 31457280 ((op - 1).toNat * 2097152) w := by
  have e : w / 2 ^ 21 % 2 ^ 4 = (op - 1).toNat := by omega
  intro i hi
  have h3 : (31457280 : Nat) = 2 ^ 21 * (2 ^ 4 - 1) := by decide
  rw [h3, Nat.testBit_two_pow_mul, Nat.testBit_two_pow_sub_one] at hi
  simp only [Bool.and_eq_true, decide_eq_true_eq, ge_iff_le] at hi
  have h4 := congrArg (fun z => Nat.testBit z (i - 21)) e
  simp only [Nat.testBit_mod_two_pow, Nat.testBit_div_two_pow] at h4
  rw [show i - 21 + 21 = i by omega, decide_eq_true hi.2, Bool.true_and] at h4
  rw [h4, show (op - 1).toNat * 2097152 = 2 ^ 21 * (op - 1).toNat by omega, Nat.testBit_two_pow_mul, decide_eq_true hi.1, Bool.true_and]
/-- A row of the reference says something of a word: which row of the program is found. -/
def goesR (r : RowJ) (ps : List RowP) : Bool := if o16 r then fldO r && r.ops.all (goesO (maskJ r.pat) (biJ r.pat) ps) else goesK (maskJ r.pat) (biJ r.pat) ps
theorem goesR_some {w : Nat} {r : RowJ} {ps : List RowP} (hf : fiP w r.pat = true) (ho : r.ops.contains (opJ r w) = true) (hg : goesR r ps = true) : ∃ q ∈ ps, rowW w = some q := by
  have hk := (fi_kb w r.pat).1 hf
  unfold goesR at hg
  by_cases h16 : o16 r = true
  · rw [if_pos h16, Bool.and_eq_true] at hg
    have h16' : 0 < cnt 111 r.pat := by simpa [o16] using h16
    have hop : opJ r w = (fvP 111 w r.pat : Int) + 1 := by rw [opJ, if_pos h16']
    have hfv := fv_run 111 r.pat 21 4 0 w (by rw [show coL 111 r.pat = crL 21 4 0 32 from by simpa [fldO] using hg.1]; decide)
    rw [Nat.pow_zero, Nat.mul_one] at hfv
    have hgo := List.all_eq_true.1 hg.2 (opJ r w) (by simpa using ho)
    simp only [goesO, Bool.and_eq_true, decide_eq_true_eq] at hgo
    exact goesK_some (kb_and hk (kb_op hgo.1.1 hgo.1.2 (by rw [hop, hfv]))) hgo.2
  · rw [if_neg h16] at hg
    exact goesK_some hk hg
/-- A word that MSR says by a number has a mask. -/
def psMsr (k : Nat) (r : RowJ) (ps : List RowP) : Bool := goesK (maskJ r.pat ||| 2 ^ k) ((biJ r.pat &&& maskJ r.pat) ||| (2 ^ k &&& 2 ^ k)) ps
theorem msr_some {w k : Nat} {r : RowJ} {ps : List RowP} (hf : fiP w r.pat = true) (hb : w.testBit k = true) (hg : psMsr k r ps = true) : ∃ q ∈ ps, rowW w = some q := by
  have hk := (fi_kb w r.pat).1 hf
  refine goesK_some (kb_and hk (M' := 2 ^ k) (B' := 2 ^ k) ?_) hg
  intro i hi
  rw [tb_pow] at hi
  have : k = i := by simpa using hi
  subst this
  rw [hb, tb_pow, decide_eq_true rfl]
theorem goes0 : goesR rj0 [rp0, rp3] = true := by decide
theorem goes1 : goesR rj1 [rp1, rp4] = true := by decide
theorem goes2 : goesR rj2 [rp2, rp5] = true := by decide
theorem goes3 : goesR rj3 [rp6] = true := by decide
theorem goes4 : goesR rj4 [rp7] = true := by decide
theorem goes5 : goesR rj5 [rp8] = true := by decide
theorem goes6 : goesR rj6 [rp9] = true := by decide
theorem goes7 : goesR rj7 [rp10] = true := by decide
theorem goes8 : goesR rj8 [rp11] = true := by decide
theorem goes9 : goesR rj9 [rp12] = true := by decide
theorem goes10 : goesR rj10 [rp13] = true := by decide
theorem goes11 : goesR rj11 [rp14] = true := by decide
theorem goes12 : goesR rj12 [rp15] = true := by decide
theorem goes13 : goesR rj13 [rp16] = true := by decide
theorem goes14 : goesR rj14 [rp17] = true := by decide
theorem goes15 : goesR rj15 [rp18] = true := by decide
theorem goes16 : goesR rj16 [rp19] = true := by decide
theorem goes17 : goesR rj17 [rp20] = true := by decide
theorem goes18 : goesR rj18 [rp45] = true := by decide
theorem goes19 : goesR rj19 [rp46] = true := by decide
theorem goes20 : goesR rj20 [rp47] = true := by decide
theorem goes21 : goesR rj21 [rp48] = true := by decide
theorem goes22 : goesR rj22 [rp49] = true := by decide
theorem goes23 : goesR rj23 [rp52] = true := by decide
theorem goes24 : goesR rj24 [rp53] = true := by decide
theorem goes25 : goesR rj25 [rp29] = true := by decide
theorem goes26 : goesR rj26 [rp30] = true := by decide
theorem goes27 : goesR rj27 [rp54] = true := by decide
theorem goes28 : goesR rj28 [rp31] = true := by decide
theorem goes29 : goesR rj29 [rp32] = true := by decide
theorem goes30 : goesR rj30 [rp35] = true := by decide
theorem goes32 : goesR rj32 [rp55] = true := by decide
theorem goes33 : goesR rj33 [rp56] = true := by decide
theorem goes34 : goesR rj34 [rp33] = true := by decide
theorem goes35 : goesR rj35 [rp34] = true := by decide
theorem goes36 : goesR rj36 [rp37] = true := by decide
theorem goes37 : goesR rj37 [rp38] = true := by decide
theorem goes38 : goesR rj38 [rp39] = true := by decide
theorem goes39 : goesR rj39 [rp40] = true := by decide
theorem goes40 : goesR rj40 [rp41] = true := by decide
theorem goes41 : goesR rj41 [rp42] = true := by decide
theorem goes42 : goesR rj42 [rp43] = true := by decide
theorem goes43 : goesR rj43 [rp44] = true := by decide
theorem goes44 : goesR rj44 [rp21] = true := by decide
theorem goes45 : goesR rj45 [rp22] = true := by decide
theorem goes46 : goesR rj46 [rp23] = true := by decide
theorem goes47 : goesR rj47 [rp24] = true := by decide
theorem goes48 : goesR rj48 [rp25] = true := by decide
theorem goes49 : goesR rj49 [rp26] = true := by decide
theorem goes50 : goesR rj50 [rp27] = true := by decide
theorem goes51 : goesR rj51 [rp28] = true := by decide
theorem goes52 : goesR rj52 [rp50] = true := by decide
theorem goes53 : goesR rj53 [rp51] = true := by decide
theorem goesM16 : psMsr 16 rj31 [rp36] = true := by decide
theorem goesM17 : psMsr 17 rj31 [rp36] = true := by decide
theorem goesM18 : psMsr 18 rj31 [rp36] = true := by decide
theorem goesM19 : psMsr 19 rj31 [rp36] = true := by decide
end Go.Proofs.YtilhceajhlaojaaGreatDoor.Is
