import Derived.Test.YtfbapflbjkmocaaDoorLl
namespace Go.Proofs.YtfbapflbjkmocaaDoor
open Go.RowKit
set_option linter.unusedVariables false
set_option linter.unusedSimpArgs false
/-- No block is twice there. -/
def Uni (L : List Slo) : Prop := ∀ (i j : Nat) (s t : Slo), L[i]? = some s → L[j]? = some t → s.full = true → t.full = true → s.b = t.b → i = j
theorem Uni.zeros (n : Nat) : Uni (List.replicate n sZ) := fun i j s t hs ht h1 h2 h3 => by
  rw [List.getElem?_replicate] at hs
  split at hs
  · injection hs with hs; rw [← hs] at h1; cases h1
  · cases hs
theorem Uni.setZ {L : List Slo} (h : Uni L) (k : Nat) : Uni (L.set k sZ) := fun i j s t hs ht h1 h2 h3 => by
  have f : ∀ (i : Nat) (s : Slo), (L.set k sZ)[i]? = some s → s.full = true → L[i]? = some s := fun i s hs h1 => by
    by_cases hi : k = i
    · subst hi
      rw [List.getElem?_set] at hs
      simp at hs
      rw [← hs.2] at h1
      cases h1
    · rw [List.getElem?_set_ne hi] at hs
      exact hs
  exact h i j s t (f i s hs h1) (f j t ht h2) h1 h2 h3
theorem ix_none {L : List Slo} {b : Blo} (h : ixF L ⟨true, b⟩ = none) {i : Nat} {s : Slo} (hs : L[i]? = some s) (hf : s.full = true) : ¬ s.b = b := fun e => by
  unfold ixF at h
  rw [List.findIdx?_eq_none_iff] at h
  have h1 := h s (List.mem_of_getElem? hs)
  rw [full_same, hf, e, Blo.same_self] at h1
  cases h1
theorem Uni.setB {L : List Slo} (h : Uni L) (k : Nat) (b : Blo) (hn : ixF L ⟨true, b⟩ = none) : Uni (L.set k ⟨true, b⟩) := fun i j s t hs ht h1 h2 h3 => by
  by_cases hi : k = i
  · by_cases hj : k = j
    · omega
    · subst hi
      rw [List.getElem?_set_ne hj] at ht
      rw [List.getElem?_set] at hs
      simp at hs
      rw [← hs.2] at h3
      exact absurd h3.symm (ix_none hn ht h2)
  · rw [List.getElem?_set_ne hi] at hs
    by_cases hj : k = j
    · subst hj
      rw [List.getElem?_set] at ht
      simp at ht
      rw [← ht.2] at h3
      exact absurd h3 (ix_none hn hs h1)
    · rw [List.getElem?_set_ne hj] at ht
      exact h i j s t hs ht h1 h2 h3
theorem flF_at (L : List Slo) (d : Dro) (i : Nat) : (flF L d).2[i]? = L[i]?.map (flS d) := by
  simp only [flF, List.getElem?_map]
  rfl
theorem Uni.flush {L : List Slo} (h : Uni L) (d : Dro) : Uni (flF L d).2 := fun i j s t hs ht h1 h2 h3 => by
  have f : ∀ (i : Nat) (s : Slo), (flF L d).2[i]? = some s → s.full = true → L[i]? = some s := fun i s hs h1 => by
    rw [flF_at] at hs
    cases hi : L[i]? with
    | none => rw [hi] at hs; cases hs
    | some x =>
      rw [hi] at hs
      simp [flS] at hs
      split at hs
      · rw [← hs] at h1; cases h1
      · rw [hs]
  exact h i j s t (f i s hs h1) (f j t ht h2) h1 h2 h3
theorem Uni.put {L : List Slo} (h : Uni L) (b : Blo) (pick : Int) : Uni (puF L b pick).2 := by
  cases hr : bR b
  · simp only [puF, hr]; exact h
  · cases hi : ixF L ⟨true, b⟩ with
    | some i => simp only [puF, hr, hi, if_true]; exact h
    | none => rw [puF_at pick hr hi]; exact h.setB _ b hi
theorem Uni.evict {L : List Slo} (h : Uni L) (i : Int) : Uni (evF L i).2 := by
  unfold evF
  split
  · exact h.setZ _
  · exact h
theorem Uni.op {L : List Slo} (h : Uni L) (o : Opr) : Uni (opF L o) := by
  unfold opF
  split
  · exact h.put _ _
  · split
    · exact h.evict _
    · split
      · exact h.flush _
      · exact h
theorem wi_one {L : List Slo} (h : Uni L) {k : Nat} {s : Slo} (hs : L[k]? = some s) (hf : s.full = true) : wiN L s.b = 1 := by
  have hk := (List.getElem?_eq_some_iff.1 hs).1
  unfold wiN
  rw [ix_split hs, List.countP_append, List.countP_cons]
  have e0 : wiS s.b s = true := by simp [wiS, hf, Blo.same_self]
  have e1 : (L.take k).countP (wiS s.b) = 0 := by
    rw [List.countP_eq_zero]
    intro x hx hw
    obtain ⟨i, hi, hxi⟩ := List.getElem_of_mem hx
    simp [wiS, Blo.same_iff] at hw
    have hik : i < k := by rw [List.length_take] at hi; omega
    have := h i k x s (by rw [← hxi, List.getElem_take]; exact List.getElem?_eq_getElem _) hs hw.1 hf hw.2
    omega
  have e2 : (L.drop (k + 1)).countP (wiS s.b) = 0 := by
    rw [List.countP_eq_zero]
    intro x hx hw
    obtain ⟨i, hi, hxi⟩ := List.getElem_of_mem hx
    simp [wiS, Blo.same_iff] at hw
    have := h (k + 1 + i) k x s (by rw [← hxi, List.getElem_drop]; exact List.getElem?_eq_getElem _) hs hw.1 hf hw.2
    omega
  rw [e1, e2, if_pos e0]
theorem wi_zero {L : List Slo} {b : Blo} (h : ixF L ⟨true, b⟩ = none) : wiN L b = 0 := by
  unfold wiN
  rw [List.countP_eq_zero]
  intro x hx hw
  obtain ⟨i, hi, hxi⟩ := List.getElem_of_mem hx
  simp [wiS, Blo.same_iff] at hw
  exact ix_none h (List.getElem?_eq_some_iff.2 ⟨hi, hxi⟩) hw.1 hw.2
theorem dsB_two {L : List Slo} {o : Opr} (hk : o.kind = 2) : dsB L o = bR o.b := by
  unfold dsB
  rw [if_pos hk]
  cases hr : bR o.b
  · simp [puF, hr]
  · cases hi : ixF L ⟨true, o.b⟩ with
    | some i => simp [puF, hr, hi]
    | none => rw [puF_at _ hr hi]; rfl
theorem dsB_no {L : List Slo} {o : Opr} (hk : ¬ o.kind = 2) : dsB L o = false := by
  unfold dsB
  rw [if_neg hk]
/-- What a Put that takes its block does. -/
theorem view_put {L : List Slo} (hU : Uni L) {o : Opr} (h1 : 1 ≤ L.length) (hk : o.kind = 2) (hr : bR o.b = true) :
    wiN (opF L o) o.b = 1 ∧ (opF L o = L ∨ (dsI L o < L.length ∧ opF L o = L.set (dsI L o) ⟨true, o.b⟩ ∧ wiN L o.b = 0)) := by
  have eI : dsI L o = (puF L o.b o.n).1.1 := by unfold dsI; rw [if_pos hk]
  have eM : opF L o = (puF L o.b o.n).2 := by unfold opF; rw [if_pos hk]
  rw [eI, eM]
  cases hi : ixF L ⟨true, o.b⟩ with
  | some i =>
    have e : puF L o.b o.n = ((i, 0), L) := by simp [puF, hr, hi]
    rw [e]
    refine ⟨?_, .inl rfl⟩
    unfold ixF at hi
    obtain ⟨hl, hp, _⟩ := List.findIdx?_eq_some_iff_getElem.1 hi
    rw [full_same] at hp
    simp [Blo.same_iff] at hp
    have := wi_one hU (List.getElem?_eq_getElem hl) hp.1
    rw [hp.2] at this
    exact this
  | none =>
    have hz : (o.n % (L.length : Int)).toNat < L.length := by
      have a := Int.emod_nonneg o.n (show (L.length : Int) ≠ 0 by omega)
      have b := Int.emod_lt_of_pos o.n (show (0 : Int) < L.length by omega)
      omega
    have hat := atF_lt L 0 _ hz
    rw [puF_at _ hr hi]
    generalize atF L 0 (o.n % (L.length : Int)).toNat = m at *
    refine ⟨?_, .inr ⟨hat, rfl, wi_zero hi⟩⟩
    have hU2 := hU.setB m o.b hi
    exact wi_one hU2 (k := m) (s := ⟨true, o.b⟩) (by rw [List.getElem?_set_self hat]) rfl
theorem view_evict {L : List Slo} {o : Opr} (hk : o.kind = 3) {k : Nat} {s : Slo} (hs : L[k]? = some s) : (opF L o)[k]? = some (if (k : Int) = o.n then sZ else s) := by
  have hl := (List.getElem?_eq_some_iff.1 hs).1
  have eM : opF L o = (evF L o.n).2 := by simp [opF, hk]
  rw [eM]
  unfold evF
  by_cases h : 0 ≤ o.n ∧ o.n < (L.length : Int)
  · rw [if_pos h]
    by_cases e : (k : Int) = o.n
    · rw [if_pos e]
      have : o.n.toNat = k := by omega
      rw [this]
      exact List.getElem?_set_self hl
    · rw [if_neg e]
      have : o.n.toNat ≠ k := by omega
      show (L.set o.n.toNat sZ)[k]? = some s
      rw [List.getElem?_set_ne this]
      exact hs
  · rw [if_neg h, if_neg (by omega)]
    exact hs
theorem view_flush {L : List Slo} {o : Opr} (hk : o.kind = 4) {k : Nat} {s : Slo} (hs : L[k]? = some s) : (opF L o)[k]? = some (flS o.d s) := by
  have eM : opF L o = (flF L o.d).2 := by simp [opF, hk]
  rw [eM, flF_at, hs]
  rfl
theorem view_rest {L : List Slo} {o : Opr} (hk : dsB L o = false) (h3 : ¬ o.kind = 3) (h4 : ¬ o.kind = 4) : opF L o = L := by
  unfold opF
  by_cases h2 : o.kind = 2
  · rw [if_pos h2]
    rw [dsB_two h2] at hk
    simp [puF, hk]
  · rw [if_neg h2, if_neg h3, if_neg h4]
end Go.Proofs.YtfbapflbjkmocaaDoor
