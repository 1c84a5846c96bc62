import Derived.Test.YtplobjdghaokoabRh
namespace Go.Proofs.Ytplobjdghaokoab
open Go.RowKit
set_option linter.unusedVariables false

/-! ### a table less -/
def rmL (T : List Int) (t : Int) : List Int := T.filter fun x => decide (x ≠ t)
def mrB (T : List Int) (t : Int) : Bool := (rmL T t).any fun x => decide (x / 4 = t / 4)
theorem rmL_snoc (T : List Int) (t : Int) {k : Nat} {x : Int} (h : T[k]? = some x) : rmL (T.take (k + 1)) t = rmL (T.take k) t ++ if x = t then [] else [x] := by
  unfold rmL
  rw [take_snoc T h, List.filter_append]
  congr 1
  by_cases e : x = t <;> simp [e]
theorem mrB_snoc (T : List Int) (t : Int) {k : Nat} {x : Int} (h : T[k]? = some x) (hx : x ≠ t) : mrB (T.take (k + 1)) t = (mrB (T.take k) t || decide (x / 4 = t / 4)) := by
  unfold mrB
  rw [rmL_snoc T t h, if_neg hx, List.any_append]
  simp
theorem rmL_len (T : List Int) (t : Int) (k : Nat) : (rmL (T.take k) t).length ≤ k := Nat.le_trans (List.length_filter_le _ _) (by rw [List.length_take]; omega)
theorem mem_rmL {T : List Int} {t x : Int} : x ∈ rmL T t ↔ x ∈ T ∧ x ≠ t := by unfold rmL; rw [List.mem_filter]; simp
theorem inc_rmL {T : List Int} (t : Int) (h : Inc T) : Inc (rmL T t) := List.Pairwise.sublist List.filter_sublist h
theorem any_iff (c : Cut) : c.any = true ↔ ∃ j, j < 4 ∧ c.b j = true := by
  unfold Cut.any
  simp
  constructor
  · rintro (((h | h) | h) | h)
    · exact ⟨0, by omega, h⟩
    · exact ⟨1, by omega, h⟩
    · exact ⟨2, by omega, h⟩
    · exact ⟨3, by omega, h⟩
  · rintro ⟨j, hj, h⟩
    rcases (show j = 0 ∨ j = 1 ∨ j = 2 ∨ j = 3 by omega) with rfl | rfl | rfl | rfl <;> simp [h]
theorem put_b (c : Cut) (i j : Nat) (v : Bool) : (c.put i v).b j = if j = i then v else c.b j := rfl
section
variable {cs : List Cut} {k : Nat} {c : Cut} {i : Nat}
theorem mrB_tabs (h : Srt cs) (hk : cs[k]? = some c) (hi : i < 4) : mrB (tabsL cs) (4 * (c.f : Int) + i) = (c.put i false).any := by
  rw [Bool.eq_iff_iff, any_iff]
  unfold mrB
  rw [List.any_eq_true]
  constructor
  · rintro ⟨x, hx, hd⟩
    obtain ⟨h1, h2⟩ := mem_rmL.1 hx
    obtain ⟨d, hd1, j, h3, h4, rfl⟩ := (mem_tabsL cs x).1 h1
    have hdd : (4 * (d.f : Int) + j) / 4 = (4 * (c.f : Int) + i) / 4 := by simpa using hd
    obtain ⟨q, hq⟩ := List.mem_iff_getElem?.1 hd1
    obtain rfl : q = k := srt_unique h hq hk (by omega)
    rw [hk] at hq
    cases hq
    exact ⟨j, h3, by rw [put_b, if_neg (by intro e; subst e; exact h2 rfl)]; exact h4⟩
  · rintro ⟨j, h1, h2⟩
    rw [put_b] at h2
    split at h2
    · cases h2
    · rename_i hne
      refine ⟨4 * (c.f : Int) + j, mem_rmL.2 ⟨(mem_tabsL cs _).2 ⟨c, List.mem_of_getElem? hk, j, h1, h2, rfl⟩, by omega⟩, ?_⟩
      simp
      omega
theorem rm_set (h : Srt cs) (hk : cs[k]? = some c) (hi : i < 4) : rmL (tabsL cs) (4 * (c.f : Int) + i) = tabsL (cs.set k (c.put i false)) := by
  refine inc_ext (inc_rmL _ (inc_tabsL h)) (inc_tabsL (set_srt h hk i false)) (fun x => ?_)
  rw [mem_rmL, mem_tabsL, mem_tabsL]
  constructor
  · rintro ⟨⟨d, hd, j, h1, h2, rfl⟩, hne⟩
    obtain ⟨q, hq⟩ := List.mem_iff_getElem?.1 hd
    by_cases e : q = k
    · subst e
      rw [hk] at hq
      cases hq
      exact ⟨_, (mem_set hk _).2 (.inl rfl), j, h1, by rw [put_b, if_neg (by intro e; subst e; exact hne rfl)]; exact h2, rfl⟩
    · exact ⟨d, (mem_set hk _).2 (.inr ⟨q, e, hq⟩), j, h1, h2, rfl⟩
  · rintro ⟨d, hd, j, h1, h2, rfl⟩
    rcases (mem_set hk d).1 hd with rfl | ⟨q, hq, hq2⟩
    · rw [put_b] at h2
      split at h2
      · cases h2
      · rename_i hne
        exact ⟨⟨c, List.mem_of_getElem? hk, j, h1, h2, rfl⟩, by show 4 * (c.f : Int) + j ≠ _; omega⟩
    · refine ⟨⟨d, List.mem_of_getElem? hq2, j, h1, h2, rfl⟩, fun e => hq ?_⟩
      exact srt_unique h hq2 hk (by omega)
theorem rm_erase (h : Srt cs) (hk : cs[k]? = some c) (hi : i < 4) (hb : (c.put i false).any = false) : rmL (tabsL cs) (4 * (c.f : Int) + i) = tabsL (cs.eraseIdx k) := by
  refine inc_ext (inc_rmL _ (inc_tabsL h)) (inc_tabsL (srt_erase h k)) (fun x => ?_)
  rw [mem_rmL, mem_tabsL, mem_tabsL]
  constructor
  · rintro ⟨⟨d, hd, j, h1, h2, rfl⟩, hne⟩
    obtain ⟨q, hq⟩ := List.mem_iff_getElem?.1 hd
    by_cases e : q = k
    · subst e
      rw [hk] at hq
      cases hq
      exfalso
      have : (c.put i false).any = true := (any_iff _).2 ⟨j, h1, by rw [put_b, if_neg (by intro e; subst e; exact hne rfl)]; exact h2⟩
      rw [hb] at this
      cases this
    · exact ⟨d, List.mem_eraseIdx_iff_getElem?.2 ⟨q, e, hq⟩, j, h1, h2, rfl⟩
  · rintro ⟨d, hd, j, h1, h2, rfl⟩
    obtain ⟨q, hq, hq2⟩ := List.mem_eraseIdx_iff_getElem?.1 hd
    refine ⟨⟨d, List.mem_of_getElem? hq2, j, h1, h2, rfl⟩, fun e => hq ?_⟩
    exact srt_unique h hq2 hk (by omega)
end

/-! ### one answer -/
theorem slT_det {f0 : Nat} {u : List Nat} {cs : List Cut} {r e r' e' : Int} {u1 u2 : List Nat} {c1 c2 : List Cut} (h : SlT f0 u cs r e u1 c1) (h' : SlT f0 u cs r' e' u2 c2) : r = r' ∧ e = e' ∧ u1 = u2 ∧ c1 = c2 := by
  rcases h with ⟨k, c, i, a1, a2, a3, rfl, rfl, rfl, rfl⟩ | ⟨a1, a2, rfl, rfl, rfl, rfl⟩ | ⟨t, k, a1, a2, a3, rfl, rfl, rfl, rfl⟩
  · rcases h' with ⟨k', c', i', b1, b2, b3, rfl, rfl, rfl, rfl⟩ | ⟨b1, b2, rfl, rfl, rfl, rfl⟩ | ⟨t', k', b1, b2, b3, rfl, rfl, rfl, rfl⟩
    · obtain rfl : k = k' := by
        rcases Nat.lt_trichotomy k k' with h1 | h1 | h1
        · have := b2 k c h1 a1; omega
        · exact h1
        · have := a2 k' c' h1 b1; omega
      rw [a1] at b1
      cases b1
      obtain rfl : i = i' := by omega
      exact ⟨rfl, rfl, rfl, rfl⟩
    · have := b1 c (List.mem_of_getElem? a1); omega
    · have := b1 c (List.mem_of_getElem? a1); omega
  · rcases h' with ⟨k', c', i', b1, b2, b3, rfl, rfl, rfl, rfl⟩ | ⟨b1, b2, rfl, rfl, rfl, rfl⟩ | ⟨t', k', b1, b2, b3, rfl, rfl, rfl, rfl⟩
    · have := a1 c' (List.mem_of_getElem? b1); omega
    · exact ⟨rfl, rfl, rfl, rfl⟩
    · rw [a2] at b2; cases b2
  · rcases h' with ⟨k', c', i', b1, b2, b3, rfl, rfl, rfl, rfl⟩ | ⟨b1, b2, rfl, rfl, rfl, rfl⟩ | ⟨t', k', b1, b2, b3, rfl, rfl, rfl, rfl⟩
    · have := a1 c' (List.mem_of_getElem? b1); omega
    · rw [a2] at b2; cases b2
    · rw [a2] at b2
      cases b2
      obtain rfl := posOf_eq a3 b3
      exact ⟨rfl, rfl, rfl, rfl⟩
theorem slD_det {f0 : Nat} {u : List Nat} {cs : List Cut} {t e e' : Int} {u1 u2 : List Nat} {c1 c2 : List Cut} (hs : Srt cs) (h : SlD f0 u cs t e u1 c1) (h' : SlD f0 u cs t e' u2 c2) : e = e' ∧ u1 = u2 ∧ c1 = c2 := by
  rcases h with ⟨k, c, i, a1, a2, a3, rfl, rfl, a4⟩ | ⟨a1, rfl, rfl, rfl⟩
  · rcases h' with ⟨k', c', i', b1, b2, b3, b4, rfl, b5⟩ | ⟨b1, rfl, rfl, rfl⟩
    · obtain rfl : k = k' := srt_unique hs a1 b1 (by omega)
      rw [a1] at b1
      cases b1
      obtain rfl : i = i' := by omega
      rcases a4 with ⟨q1, rfl, rfl⟩ | ⟨q1, rfl, rfl⟩
      · rcases b5 with ⟨q2, rfl, rfl⟩ | ⟨q2, rfl, rfl⟩
        · exact ⟨rfl, rfl, rfl⟩
        · rw [q1] at q2; cases q2
      · rcases b5 with ⟨q2, rfl, rfl⟩ | ⟨q2, rfl, rfl⟩
        · rw [q1] at q2; cases q2
        · exact ⟨rfl, rfl, rfl⟩
    · exact absurd rfl (b1 c (List.mem_of_getElem? a1) i a2 a3)
  · rcases h' with ⟨k', c', i', b1, b2, b3, b4, rfl, b5⟩ | ⟨b1, rfl, rfl, rfl⟩
    · exact absurd b4 (a1 c' (List.mem_of_getElem? b1) i' b2 b3)
    · exact ⟨rfl, rfl, rfl⟩
end Go.Proofs.Ytplobjdghaokoab
