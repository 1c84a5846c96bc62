import Derived.Test.YtliiblaodhcjhaaSaid
import Derived.Test.YtliiblaodhcjhaaDifP
namespace Go.Proofs.Ytliiblaodhcjhaa
set_option linter.unusedVariables false

/-- Two places of a list are swapped. -/
def swapL {α : Type} (l : List α) (i j : Nat) (a b : α) : List α := (l.set i b).set j a

theorem swap_len {α : Type} (l : List α) (i j : Nat) (a b : α) : (swapL l i j a b).length = l.length := by simp [swapL]
theorem swap_mem {α : Type} {l : List α} {i j : Nat} {a b : α} (hi : l[i]? = some a) (hj : l[j]? = some b) (x : α) : x ∈ swapL l i j a b ↔ x ∈ l := by
  have hi' := (List.getElem?_eq_some_iff.1 hi).1
  have hj' := (List.getElem?_eq_some_iff.1 hj).1
  rw [List.mem_iff_getElem?, List.mem_iff_getElem?]
  constructor
  · rintro ⟨m, hm⟩
    rw [swapL, List.getElem?_set] at hm
    split at hm
    · first | (rw [if_pos (by simpa using hj')] at hm) | skip
      cases hm
      exact ⟨i, hi⟩
    · rw [List.getElem?_set] at hm
      split at hm
      · first | (rw [if_pos hi'] at hm) | skip
        cases hm
        exact ⟨j, hj⟩
      · exact ⟨m, hm⟩
  · rintro ⟨m, hm⟩
    by_cases h1 : m = i
    · subst h1
      rw [hi] at hm
      cases hm
      exact ⟨j, by rw [swapL, List.getElem?_set, if_pos rfl, if_pos (by simpa using hj')]⟩
    · by_cases h2 : m = j
      · subst h2
        rw [hj] at hm
        cases hm
        exact ⟨i, by rw [swapL, List.getElem?_set, if_neg h1, List.getElem?_set, if_pos rfl, if_pos hi']⟩
      · exact ⟨m, by rw [swapL, List.getElem?_set, if_neg (Ne.symm h2), List.getElem?_set, if_neg (Ne.symm h1)]; exact hm⟩

/-- The spans of a list, set one behind another. -/
def layP (l : List (Sp Int)) : List (Sp Int) := l.foldl (fun L s => setR L s.lo s.hi s.val) []
theorem layP_take_succ (l : List (Sp Int)) (k : Nat) (s : Sp Int) (h : l[k]? = some s) : layP (l.take (k + 1)) = setR (layP (l.take k)) s.lo s.hi s.val := by
  have hk : k < l.length := (List.getElem?_eq_some_iff.1 h).1
  have ho : l[k] = s := (List.getElem?_eq_some_iff.1 h).2
  rw [layP, List.take_succ_eq_append_getElem hk, List.foldl_append, ho]
  rfl

theorem layP_inv {L l : List (Sp Int)} (hg : Good 0 none L) (hm : ∀ s ∈ l, s ∈ L) (q : Nat) (hq : q ≤ l.length) :
    Good 0 none (layP (l.take q)) ∧ (∀ k, (∃ s ∈ l.take q, s.lo ≤ k ∧ k ≤ s.hi) → get (layP (l.take q)) k = get L k) ∧ (∀ k, (∀ s ∈ l.take q, ¬ (s.lo ≤ k ∧ k ≤ s.hi)) → get (layP (l.take q)) k = none) := by
  induction q with
  | zero => exact ⟨trivial, (fun k ⟨s, hs, _⟩ => by simp at hs), fun k _ => rfl⟩
  | succ q ih =>
    obtain ⟨g1, g2, g3⟩ := ih (by omega)
    obtain ⟨s, hs⟩ : ∃ s, l[q]? = some s := ⟨_, List.getElem?_eq_getElem (by omega)⟩
    have hsm := hm s (List.mem_of_getElem? hs)
    obtain ⟨b1, b2, b3⟩ := good_lo hg s hsm
    have hk : q < l.length := (List.getElem?_eq_some_iff.1 hs).1
    have ho : l[q] = s := (List.getElem?_eq_some_iff.1 hs).2
    have ht : l.take (q + 1) = l.take q ++ [s] := by rw [List.take_succ_eq_append_getElem hk, ho]
    rw [layP_take_succ l q s hs, setR, if_pos b2]
    refine ⟨setL_good g1 b1 b2 b3 _, fun k ⟨t, htm, h1⟩ => ?_, fun k hk => ?_⟩
    · rw [setL_get g1 b1 b2 b3]
      split
      · rename_i h
        exact (mem_get hg hsm h.1 h.2).symm
      · rename_i h
        refine g2 k ⟨t, ?_, h1⟩
        rw [ht] at htm
        rcases List.mem_append.1 htm with h2 | h2
        · exact h2
        · simp only [List.mem_singleton] at h2
          subst h2
          exact absurd h1 h
    · rw [setL_get g1 b1 b2 b3, if_neg (hk s (by rw [ht]; simp))]
      exact g3 k (fun t htm => hk t (by rw [ht]; simp [htm]))

theorem layP_all {L l : List (Sp Int)} (hg : Good 0 none L) (hm : ∀ s, s ∈ l ↔ s ∈ L) : layP l = L := by
  obtain ⟨g1, g2, g3⟩ := layP_inv hg (fun s hs => (hm s).1 hs) l.length (Nat.le_refl _)
  rw [List.take_length] at g1 g2 g3
  refine g1.uniq hg (fun k h0 h1 => ?_)
  by_cases h : ∃ s ∈ l, s.lo ≤ k ∧ k ≤ s.hi
  · exact g2 k h
  · rw [g3 k (fun s hs hc => h ⟨s, hs, hc⟩), get_out (fun s hs hc => h ⟨s, (hm s).2 hs, hc⟩)]

/-- One key turned: the two part there alone. -/
theorem turned {L : List (Sp Int)} (hg : Good 0 none L) {key x : Int} (h0 : 0 ≤ key) (h1 : key ≤ 18446744073709551615) (hx : get L key ≠ some x) : DiffIs L (setR L key key x) [⟨key, key, ()⟩] := by
  refine ⟨⟨h0, Int.le_refl _, h1, by simp, trivial⟩, fun k k0 k1 => ?_⟩
  rw [setR, if_pos (Int.le_refl _), partF]
  have e := setL_get hg h0 (Int.le_refl _) h1 x k
  by_cases hk : k = key
  · subst hk
    rw [if_pos ⟨Int.le_refl _, Int.le_refl _⟩] at e
    rw [e, if_neg hx]
    simp [get]
  · rw [if_neg (by omega)] at e
    rw [e, if_pos rfl]
    have : ¬ (key ≤ k ∧ k ≤ key) := by omega
    simp [get, this]
end Go.Proofs.Ytliiblaodhcjhaa
