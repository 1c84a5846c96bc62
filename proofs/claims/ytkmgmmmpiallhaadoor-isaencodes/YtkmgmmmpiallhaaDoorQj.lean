import Derived.Test.YtkmgmmmpiallhaaDoorQh
import Derived.Test.YtkmgmmmpiallhaaDoorQi
namespace Go.Proofs.YtkmgmmmpiallhaaDoor
set_option linter.unusedVariables false
set_option maxRecDepth 100000
def eqO (o : Option RowP) (r : RowP) : Bool := match o with | none => false | some q => eqP q r
theorem eqO_eq {o : Option RowP} {r : RowP} (h : eqO o r = true) : o = some r := by
  cases o with
  | none => cases h
  | some q => rw [eqP_eq (a := q) (b := r) h]
def nameK (r : RowP) (q : RowJ) : Bool :=
  if o16 q then fgK 111 q.pat 0 && (List.range 16).all (fun v => notK r.mask r.bits 31457280 (v * 2097152) || eqO (rowN ((v : Int) + 1) q.form) r)
  else eqO (rowN (q.ops.headD 0) q.form) r
theorem names : ∀ p ∈ prL, nameK p.1 p.2 = true := by
  have : prL.all (fun p => nameK p.1 p.2) = true := by decide
  exact fun p hp => List.all_eq_true.1 this p hp
theorem name_of {r : RowP} {q : RowJ} {w : Nat} (hp : (r, q) ∈ prL) (hf : fitR w r = true) : rowN (opJ q w) q.form = some r := by
  have hk := names _ hp
  have hs := (pairs _ hp).sub
  simp only [nameK] at hk
  by_cases h : o16 q = true
  · rw [if_pos h, Bool.and_eq_true] at hk
    have h0 : 0 < cnt 111 q.pat := by simpa [o16] using h
    have e : getP w 0 = w / 2 ^ 21 % 2 ^ 4 := by rw [getP_eq w 0 (by decide)]; exact Nat.mul_one _
    have h16 : w / 2 ^ 21 % 2 ^ 4 < 16 := Nat.mod_lt _ (by decide)
    have := List.all_eq_true.1 hk.2 (w / 2 ^ 21 % 2 ^ 4) (List.mem_range.2 h16)
    rw [Bool.or_eq_true, kb_not ((fit_kb w r hs).1 hf) (kb_opv w)] at this
    rw [opJ, if_pos h0, fg w hk.1, e]
    rcases this with x | x
    · cases x
    · exact eqO_eq x
  · rw [if_neg h] at hk
    have h0 : cnt 111 q.pat = 0 := by
      have : ¬ 0 < cnt 111 q.pat := by simpa [o16] using h
      omega
    rw [opJ_1 h0]; exact eqO_eq hk
/-- What a word says is said by that word. -/
theorem dec_enc {w : Nat} (hw : w < 4294967296) {i : Ins} (h : decP w = some i) : encP i = some w := by
  obtain ⟨r, q, hr, hp, hq, hh, hi, hi'⟩ := dec_hit hw h
  have hf := (row_fit hr).1
  have hn : rowN i.op i.form = some r := by rw [hi]; exact name_of hp hf
  have hl : layP r i = w := by rw [hi']; exact lays _ hp w hw hf
  unfold encP
  rw [hn]
  show (match decP (layP r i) with | none => none | some j => if j.same i then some (layP r i) else none) = some w
  rw [hl, h]
  show (if i.same i then some w else none) = some w
  rw [Ins.same_self]; rfl
theorem or_lt32 {a b : Nat} (ha : a < 4294967296) (hb : b < 4294967296) : a ||| b < 4294967296 := by
  have h3 : (2 : Nat) ^ 32 = 4294967296 := by decide
  rw [← h3] at *
  exact Nat.or_lt_two_pow ha hb
theorem layF_lt (i : Ins) : ∀ (l : List Nat) (w : Nat), w < 4294967296 → layF i w l < 4294967296
  | [], w, h => h
  | k :: l, w, h => layF_lt i l _ (or_lt32 h (Nat.mod_lt _ (by decide)))
theorem layP_lt {r : RowP} (hr : r.bits < 4294967296) (i : Ins) : layP r i < 4294967296 := layF_lt i _ _ (or_lt32 hr (by omega))
theorem rows_lt : ∀ r ∈ lowL ++ highL, r.bits < 4294967296 := by
  have : (lowL ++ highL).all (fun r => decide (r.bits < 4294967296)) = true := by decide
  intro r hr
  simpa using List.all_eq_true.1 this r hr
theorem rowN_mem {op form : Int} {r : RowP} (h : rowN op form = some r) : r ∈ lowL ++ highL := List.mem_of_find?_eq_some h
theorem enc_dec {i : Ins} {w : Nat} (h : encP i = some w) : decP w = some i ∧ w < 4294967296 := by
  unfold encP at h
  cases hn : rowN i.op i.form with
  | none => rw [hn] at h; cases h
  | some r =>
    rw [hn] at h
    have h : (match decP (layP r i) with | none => none | some j => if j.same i then some (layP r i) else none) = some w := h
    cases hd : decP (layP r i) with
    | none => rw [hd] at h; cases h
    | some j =>
      rw [hd] at h
      have h : (if j.same i then some (layP r i) else none) = some w := h
      cases hs : j.same i with
      | false => rw [hs] at h; cases h
      | true =>
        rw [hs, if_pos rfl] at h
        have e := Option.some.inj h
        have hj := (Ins.same_iff j i).1 hs
        rw [← e, hd, hj]
        exact ⟨rfl, layP_lt (rows_lt r (rowN_mem hn)) i⟩
theorem sumJ_lt (p : List UInt8) : ∀ (L : List UInt8) (V : List Nat) (x : Nat), x < 4294967296 → sumJ p L V x < 4294967296
  | [], [], x, h => h
  | [], _ :: _, x, h => h
  | _ :: _, [], x, h => h
  | c :: L, v :: V, x, h => sumJ_lt p L V _ (Nat.mod_lt _ (by decide))
theorem on_lt : ∀ q ∈ rowsJ, mkP 49 4294967295 q.pat < 4294967296 := by
  have : rowsJ.all (fun q => decide (mkP 49 4294967295 q.pat < 4294967296)) = true := by decide
  intro q hq
  simpa using List.all_eq_true.1 this q hq
theorem wordJ_lt {q : RowJ} (hq : q ∈ rowsJ) (i : Ins) : wordJ q i < 4294967296 := sumJ_lt _ _ _ _ (on_lt q hq)
theorem try_some {i : Ins} {q : RowJ} (hq : q ∈ rowsJ) (h : tryJ i q = true) : decP (wordJ q i) = some i := by
  rw [tryJ, Bool.and_eq_true, Bool.and_eq_true] at h
  have h2 := h.2.2
  rw [dec_eq (wordJ_lt hq i)]
  cases hd : decJ (wordJ q i) with
  | none => rw [hd] at h2; cases h2
  | some j =>
    rw [hd] at h2
    rw [(Ins.same_iff j i).1 h2]
theorem say_try {w : Nat} (hw : w < 4294967296) {i : Ins} {q : RowJ} (hq : q ∈ rowsJ) (hh : hitJ w q = true) (hi : i = sayJ q w) (hd : decP w = some i) : tryJ i q = true := by
  have hh' := hh
  rw [hitJ, Bool.and_eq_true, Bool.and_eq_true] at hh'
  have hw' : wordJ q i = w := by rw [hi]; exact word_say hq hw hh'.1 hh'.2.1
  rw [tryJ, hw', ← dec_eq hw, hd]
  show (q.ops.contains i.op && (q.form == i.form && i.same i)) = true
  rw [Ins.same_self, hi]
  show (q.ops.contains (opJ q w) && (q.form == q.form && true)) = true
  rw [hh'.2.1, beq_self_eq_true]; rfl
/-- The program encodes as the reference does. -/
theorem enc_eq (i : Ins) : encP i = encJ i := by
  unfold encJ
  cases hf : rowsJ.find? (tryJ i) with
  | some q =>
    have hq := List.mem_of_find?_eq_some hf
    exact dec_enc (wordJ_lt hq i) (try_some hq (List.find?_some hf))
  | none =>
    rw [List.find?_eq_none] at hf
    cases he : encP i with
    | none => rfl
    | some w =>
      obtain ⟨hd, hw⟩ := enc_dec he
      obtain ⟨r, q, _, _, hq, hh, hi, _⟩ := dec_hit hw hd
      exact absurd (say_try hw hq hh hi hd) (hf q hq)
/-- No two words say the same. -/
theorem dec_inj {w v : Nat} (hw : w < 4294967296) (hv : v < 4294967296) {i : Ins} (h1 : decP w = some i) (h2 : decP v = some i) : w = v := by
  have a := dec_enc hw h1
  have b := dec_enc hv h2
  rw [a] at b
  exact Option.some.inj b
end Go.Proofs.YtkmgmmmpiallhaaDoor
