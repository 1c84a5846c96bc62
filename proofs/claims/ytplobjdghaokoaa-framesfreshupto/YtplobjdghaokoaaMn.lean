import Derived.Test.YtplobjdghaokoaaBs
namespace Go.Proofs.Ytplobjdghaokoaa
open Go.RowKit
set_option linter.unusedVariables false

def Inc (l : List Int) : Prop := l.Pairwise (· < ·)
theorem inc_ext {a b : List Int} (ha : Inc a) (hb : Inc b) (h : ∀ x, x ∈ a ↔ x ∈ b) : a = b := by
  induction a generalizing b with
  | nil =>
    cases b with
    | nil => rfl
    | cons y b => exact absurd ((h y).2 (by simp)) (by simp)
  | cons x a ih =>
    cases b with
    | nil => exact absurd ((h x).1 (by simp)) (by simp)
    | cons y b =>
      unfold Inc at ha hb
      rw [List.pairwise_cons] at ha hb
      have hxy : x = y := by
        rcases List.mem_cons.1 ((h x).1 (by simp)) with e | e
        · exact e
        · rcases List.mem_cons.1 ((h y).2 (by simp)) with e2 | e2
          · exact e2.symm
          · have h1 := hb.1 x e
            have h2 := ha.1 y e2
            omega
      subst hxy
      congr 1
      refine ih ha.2 hb.2 (fun z => ⟨fun hz => ?_, fun hz => ?_⟩)
      · rcases List.mem_cons.1 ((h z).1 (by simp [hz])) with e | e
        · have := ha.1 z hz; omega
        · exact e
      · rcases List.mem_cons.1 ((h z).2 (by simp [hz])) with e | e
        · have := hb.1 z hz; omega
        · exact e
theorem mem_tabsTo (c : Cut) (k : Nat) (x : Int) : x ∈ c.tabsTo k ↔ ∃ i : Nat, i < k ∧ c.b i = true ∧ x = 4 * (c.f : Int) + i := by
  unfold Cut.tabsTo
  rw [List.mem_map]
  constructor
  · rintro ⟨i, hi, rfl⟩
    rw [List.mem_filter, List.mem_range] at hi
    exact ⟨i, hi.1, hi.2, rfl⟩
  · rintro ⟨i, h1, h2, rfl⟩
    exact ⟨i, by rw [List.mem_filter, List.mem_range]; exact ⟨h1, h2⟩, rfl⟩
theorem inc_tabsTo (c : Cut) (k : Nat) : Inc (c.tabsTo k) := by
  induction k with
  | zero => exact List.Pairwise.nil
  | succ k ih =>
    rw [tabsTo_succ]
    unfold Inc
    rw [List.pairwise_append]
    refine ⟨ih, ?_, fun a ha b hb => ?_⟩
    · split <;> simp
    · split at hb
      · simp at hb
        subst hb
        obtain ⟨i, h1, _, rfl⟩ := (mem_tabsTo c k a).1 ha
        omega
      · cases hb
theorem mem_tabsL (cs : List Cut) (x : Int) : x ∈ tabsL cs ↔ ∃ c ∈ cs, ∃ i : Nat, i < 4 ∧ c.b i = true ∧ x = 4 * (c.f : Int) + i := by
  unfold tabsL
  rw [List.mem_flatMap]
  constructor
  · rintro ⟨c, hc, h⟩
    exact ⟨c, hc, (mem_tabsTo c 4 x).1 h⟩
  · rintro ⟨c, hc, h⟩
    exact ⟨c, hc, (mem_tabsTo c 4 x).2 h⟩
theorem inc_tabsL {cs : List Cut} (h : Srt cs) : Inc (tabsL cs) := by
  induction cs with
  | nil => exact List.Pairwise.nil
  | cons c r ih =>
    unfold Srt at h
    rw [List.pairwise_cons] at h
    unfold Inc tabsL
    rw [List.flatMap_cons, List.pairwise_append]
    refine ⟨inc_tabsTo c 4, ih h.2, fun a ha b hb => ?_⟩
    obtain ⟨i, h1, _, rfl⟩ := (mem_tabsTo c 4 a).1 ha
    obtain ⟨d, hd, j, h3, _, rfl⟩ := (mem_tabsL r b).1 hb
    have := h.1 d hd
    omega
theorem tabsL_bd {cs : List Cut} (h : ∀ c ∈ cs, c.f < 268435456) : ∀ x ∈ tabsL cs, 0 ≤ x ∧ x ≤ 1073741824 := by
  intro x hx
  obtain ⟨c, hc, i, h1, _, rfl⟩ := (mem_tabsL cs x).1 hx
  have := h c hc
  omega
theorem tabs_ne {c : Cut} (h : c.any = true) : c.tabs ≠ [] := by
  intro e
  have : ∀ i, i < 4 → c.b i = false := fun i hi => by
    cases hb : c.b i with
    | false => rfl
    | true =>
      have : (4 * (c.f : Int) + i) ∈ c.tabs := (mem_tabsTo c 4 _).2 ⟨i, hi, hb, rfl⟩
      rw [e] at this
      cases this
  unfold Cut.any at h
  rw [this 0 (by omega), this 1 (by omega), this 2 (by omega), this 3 (by omega)] at h
  cases h
theorem set_srt {cs : List Cut} (h : Srt cs) {k : Nat} {c : Cut} (hk : cs[k]? = some c) (i : Nat) (v : Bool) : Srt (cs.set k (c.put i v)) := by
  unfold Srt at h ⊢
  rw [List.pairwise_iff_getElem] at h ⊢
  have hf : ∀ (q : Nat) (hq : q < (cs.set k (c.put i v)).length), ((cs.set k (c.put i v))[q]).f = (cs[q]'(by simpa using hq)).f := by
    intro q hq
    rw [List.getElem_set]
    split
    · rename_i e
      subst e
      rw [(List.getElem?_eq_some_iff.1 hk).2]
      rfl
    · rfl
  intro a b ha hb hab
  rw [hf a ha, hf b hb]
  exact h a b _ _ hab
theorem mem_set {cs : List Cut} {k : Nat} {c c' : Cut} (hk : cs[k]? = some c) (d : Cut) : d ∈ cs.set k c' ↔ d = c' ∨ ∃ j, j ≠ k ∧ cs[j]? = some d := by
  have hl : k < cs.length := (List.getElem?_eq_some_iff.1 hk).1
  constructor
  · intro h
    obtain ⟨j, hj⟩ := List.mem_iff_getElem?.1 h
    by_cases e : j = k
    · subst e
      rw [List.getElem?_set_self hl] at hj
      cases hj
      exact .inl rfl
    · rw [List.getElem?_set_ne (Ne.symm e)] at hj
      exact .inr ⟨j, e, hj⟩
  · rintro (rfl | ⟨j, hj, h⟩)
    · exact List.mem_of_getElem? (List.getElem?_set_self hl)
    · exact List.mem_of_getElem? (by rw [List.getElem?_set_ne (Ne.symm hj)]; exact h)
theorem srt_unique {cs : List Cut} (h : Srt cs) {j k : Nat} {c d : Cut} (hj : cs[j]? = some c) (hk : cs[k]? = some d) (e : c.f = d.f) : j = k := by
  rcases Nat.lt_trichotomy j k with h1 | h1 | h1
  · have := srt_at h hj hk h1; omega
  · exact h1
  · have := srt_at h hk hj h1; omega
theorem left_of {c : Cut} {i : Nat} (hi : i < 4) (h1 : c.b i = false) (h2 : ∀ j, j < i → c.b j = true) : c.left = i := by
  unfold Cut.left
  rcases (show i = 0 ∨ i = 1 ∨ i = 2 ∨ i = 3 by omega) with rfl | rfl | rfl | rfl
  · rw [if_pos h1]; rfl
  · rw [if_neg (by simp [h2 0]), if_pos h1]; rfl
  · rw [if_neg (by simp [h2 0]), if_neg (by simp [h2 1]), if_pos h1]; rfl
  · rw [if_neg (by simp [h2 0]), if_neg (by simp [h2 1]), if_neg (by simp [h2 2]), if_pos h1]; rfl
theorem framesL_at {cs : List Cut} {i : Nat} {c : Cut} (h : cs[i]? = some c) : (framesL cs)[i]? = some (c.f : Int) := by unfold framesL; rw [List.getElem?_map, h]; rfl
theorem posOf_ex (cs : List Cut) (f : Nat) : Srt cs → ∃ k, PosOf cs f k := by
  induction cs with
  | nil => intro _; exact ⟨0, Nat.le_refl _, fun t c ht => by omega, fun t c _ h => by simp at h⟩
  | cons c r ih =>
    intro h
    unfold Srt at h
    rw [List.pairwise_cons] at h
    by_cases hf : f ≤ c.f
    · refine ⟨0, Nat.zero_le _, fun t d ht => by omega, fun t d _ hd => ?_⟩
      rcases List.mem_cons.1 (List.mem_of_getElem? hd) with rfl | hm
      · exact hf
      · have := h.1 d hm; omega
    · obtain ⟨k, h1, h2, h3⟩ := ih h.2
      refine ⟨k + 1, by simp; exact h1, fun t d ht hd => ?_, fun t d ht hd => ?_⟩
      · cases t with
        | zero => simp at hd; subst hd; omega
        | succ t => exact h2 t d (by omega) (by simpa using hd)
      · cases t with
        | zero => omega
        | succ t => exact h3 t d (by omega) (by simpa using hd)
theorem posOf_eq {cs : List Cut} {f k k' : Nat} (h : PosOf cs f k) (h' : PosOf cs f k') : k = k' := by
  rcases Nat.lt_trichotomy k k' with h1 | h1 | h1
  · obtain ⟨c, hc⟩ : ∃ c, cs[k]? = some c := ⟨_, List.getElem?_eq_getElem (by have := h'.1; omega)⟩
    have := h'.2.1 k c h1 hc
    have := h.2.2 k c (Nat.le_refl _) hc
    omega
  · exact h1
  · obtain ⟨c, hc⟩ : ∃ c, cs[k']? = some c := ⟨_, List.getElem?_eq_getElem (by have := h.1; omega)⟩
    have := h.2.1 k' c h1 hc
    have := h'.2.2 k' c (Nat.le_refl _) hc
    omega
def rmL (T : List Int) (t : Int) : List Int := T.filter fun x => decide (x ≠ t)
theorem mem_rmL {T : List Int} {t x : Int} : x ∈ rmL T t ↔ x ∈ T ∧ x ≠ t := by unfold rmL; rw [List.mem_filter]; simp
theorem inc_rmL {T : List Int} (t : Int) (h : Inc T) : Inc (rmL T t) := List.Pairwise.sublist List.filter_sublist h
theorem any_iff (c : Cut) : c.any = true ↔ ∃ j, j < 4 ∧ c.b j = true := by
  unfold Cut.any
  simp
  constructor
  · rintro (((h | h) | h) | h)
    · exact ⟨0, by omega, h⟩
    · exact ⟨1, by omega, h⟩
    · exact ⟨2, by omega, h⟩
    · exact ⟨3, by omega, h⟩
  · rintro ⟨j, hj, h⟩
    rcases (show j = 0 ∨ j = 1 ∨ j = 2 ∨ j = 3 by omega) with rfl | rfl | rfl | rfl <;> simp [h]
theorem put_b (c : Cut) (i j : Nat) (v : Bool) : (c.put i v).b j = if j = i then v else c.b j := rfl
section
variable {cs : List Cut} {k : Nat} {c : Cut} {i : Nat}
theorem rm_set (h : Srt cs) (hk : cs[k]? = some c) (hi : i < 4) : rmL (tabsL cs) (4 * (c.f : Int) + i) = tabsL (cs.set k (c.put i false)) := by
  refine inc_ext (inc_rmL _ (inc_tabsL h)) (inc_tabsL (set_srt h hk i false)) (fun x => ?_)
  rw [mem_rmL, mem_tabsL, mem_tabsL]
  constructor
  · rintro ⟨⟨d, hd, j, h1, h2, rfl⟩, hne⟩
    obtain ⟨q, hq⟩ := List.mem_iff_getElem?.1 hd
    by_cases e : q = k
    · subst e
      rw [hk] at hq
      cases hq
      exact ⟨_, (mem_set hk _).2 (.inl rfl), j, h1, by rw [put_b, if_neg (by intro e; subst e; exact hne rfl)]; exact h2, rfl⟩
    · exact ⟨d, (mem_set hk _).2 (.inr ⟨q, e, hq⟩), j, h1, h2, rfl⟩
  · rintro ⟨d, hd, j, h1, h2, rfl⟩
    rcases (mem_set hk d).1 hd with rfl | ⟨q, hq, hq2⟩
    · rw [put_b] at h2
      split at h2
      · cases h2
      · rename_i hne
        exact ⟨⟨c, List.mem_of_getElem? hk, j, h1, h2, rfl⟩, by show 4 * (c.f : Int) + j ≠ _; omega⟩
    · refine ⟨⟨d, List.mem_of_getElem? hq2, j, h1, h2, rfl⟩, fun e => hq ?_⟩
      exact srt_unique h hq2 hk (by omega)
theorem rm_erase (h : Srt cs) (hk : cs[k]? = some c) (hi : i < 4) (hb : (c.put i false).any = false) : rmL (tabsL cs) (4 * (c.f : Int) + i) = tabsL (cs.eraseIdx k) := by
  refine inc_ext (inc_rmL _ (inc_tabsL h)) (inc_tabsL (srt_erase h k)) (fun x => ?_)
  rw [mem_rmL, mem_tabsL, mem_tabsL]
  constructor
  · rintro ⟨⟨d, hd, j, h1, h2, rfl⟩, hne⟩
    obtain ⟨q, hq⟩ := List.mem_iff_getElem?.1 hd
    by_cases e : q = k
    · subst e
      rw [hk] at hq
      cases hq
      exfalso
      have : (c.put i false).any = true := (any_iff _).2 ⟨j, h1, by rw [put_b, if_neg (by intro e; subst e; exact hne rfl)]; exact h2⟩
      rw [hb] at this
      cases this
    · exact ⟨d, List.mem_eraseIdx_iff_getElem?.2 ⟨q, e, hq⟩, j, h1, h2, rfl⟩
  · rintro ⟨d, hd, j, h1, h2, rfl⟩
    obtain ⟨q, hq, hq2⟩ := List.mem_eraseIdx_iff_getElem?.1 hd
    refine ⟨⟨d, List.mem_of_getElem? hq2, j, h1, h2, rfl⟩, fun e => hq ?_⟩
    exact srt_unique h hq2 hk (by omega)
end
theorem slT_det {f0 : Nat} {u : List Nat} {cs : List Cut} {r e r' e' : Int} {u1 u2 : List Nat} {c1 c2 : List Cut} (h : SlT f0 u cs r e u1 c1) (h' : SlT f0 u cs r' e' u2 c2) : r = r' ∧ e = e' ∧ u1 = u2 ∧ c1 = c2 := by
  rcases h with ⟨k, c, i, a1, a2, a3, rfl, rfl, rfl, rfl⟩ | ⟨a1, a2, rfl, rfl, rfl, rfl⟩ | ⟨t, k, a1, a2, a3, rfl, rfl, rfl, rfl⟩
  · rcases h' with ⟨k', c', i', b1, b2, b3, rfl, rfl, rfl, rfl⟩ | ⟨b1, b2, rfl, rfl, rfl, rfl⟩ | ⟨t', k', b1, b2, b3, rfl, rfl, rfl, rfl⟩
    · obtain rfl : k = k' := by
        rcases Nat.lt_trichotomy k k' with h1 | h1 | h1
        · have := b2 k c h1 a1; omega
        · exact h1
        · have := a2 k' c' h1 b1; omega
      rw [a1] at b1
      cases b1
      obtain rfl : i = i' := by omega
      exact ⟨rfl, rfl, rfl, rfl⟩
    · have := b1 c (List.mem_of_getElem? a1); omega
    · have := b1 c (List.mem_of_getElem? a1); omega
  · rcases h' with ⟨k', c', i', b1, b2, b3, rfl, rfl, rfl, rfl⟩ | ⟨b1, b2, rfl, rfl, rfl, rfl⟩ | ⟨t', k', b1, b2, b3, rfl, rfl, rfl, rfl⟩
    · have := a1 c' (List.mem_of_getElem? b1); omega
    · exact ⟨rfl, rfl, rfl, rfl⟩
    · rw [a2] at b2; cases b2
  · rcases h' with ⟨k', c', i', b1, b2, b3, rfl, rfl, rfl, rfl⟩ | ⟨b1, b2, rfl, rfl, rfl, rfl⟩ | ⟨t', k', b1, b2, b3, rfl, rfl, rfl, rfl⟩
    · have := a1 c' (List.mem_of_getElem? b1); omega
    · rw [a2] at b2; cases b2
    · rw [a2] at b2
      cases b2
      obtain rfl := posOf_eq a3 b3
      exact ⟨rfl, rfl, rfl, rfl⟩
theorem slD_det {f0 : Nat} {u : List Nat} {cs : List Cut} {t e e' : Int} {u1 u2 : List Nat} {c1 c2 : List Cut} (hs : Srt cs) (h : SlD f0 u cs t e u1 c1) (h' : SlD f0 u cs t e' u2 c2) : e = e' ∧ u1 = u2 ∧ c1 = c2 := by
  rcases h with ⟨k, c, i, a1, a2, a3, rfl, rfl, a4⟩ | ⟨a1, rfl, rfl, rfl⟩
  · rcases h' with ⟨k', c', i', b1, b2, b3, b4, rfl, b5⟩ | ⟨b1, rfl, rfl, rfl⟩
    · obtain rfl : k = k' := srt_unique hs a1 b1 (by omega)
      rw [a1] at b1
      cases b1
      obtain rfl : i = i' := by omega
      rcases a4 with ⟨q1, rfl, rfl⟩ | ⟨q1, rfl, rfl⟩
      · rcases b5 with ⟨q2, rfl, rfl⟩ | ⟨q2, rfl, rfl⟩
        · exact ⟨rfl, rfl, rfl⟩
        · rw [q1] at q2; cases q2
      · rcases b5 with ⟨q2, rfl, rfl⟩ | ⟨q2, rfl, rfl⟩
        · rw [q1] at q2; cases q2
        · exact ⟨rfl, rfl, rfl⟩
    · exact absurd rfl (b1 c (List.mem_of_getElem? a1) i a2 a3)
  · rcases h' with ⟨k', c', i', b1, b2, b3, b4, rfl, b5⟩ | ⟨b1, rfl, rfl, rfl⟩
    · exact absurd b4 (a1 c' (List.mem_of_getElem? b1) i' b2 b3)
    · exact ⟨rfl, rfl, rfl⟩
theorem mdr_nz {g : Nat → Nat} {u : List Nat} {a n i x : Nat} (h : u[i]? = some x) (h0 : x ≠ 0) (hg : a ≤ i → i < a + n → g x ≠ 0) : ∃ y, (mdr g u a n)[i]? = some y ∧ y ≠ 0 := by
  rw [mdr_at, h]
  refine ⟨_, rfl, ?_⟩
  split
  · rename_i hc
    exact hg hc.1 hc.2
  · exact h0
theorem mem_ins {cs : List Cut} {k : Nat} {a d : Cut} (h : d ∈ cs.take k ++ [a] ++ cs.drop k) : d = a ∨ d ∈ cs := by
  simp only [List.mem_append, List.mem_singleton] at h
  rcases h with (h | h) | h
  · exact .inr (List.mem_of_mem_take h)
  · exact .inl h
  · exact .inr (List.mem_of_mem_drop h)
end Go.Proofs.Ytplobjdghaokoaa
