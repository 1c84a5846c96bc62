import Derived.Test.YtbbnodhpafiplaaDoorHb
import Derived.Test.YtbbnodhpafiplaaDoorLa
import Derived.Test.YtbbnodhpafiplaaDoorCg
import Derived.Laws.AppendOwn
import Derived.Deep.DeepAppendWide
import Derived.Test.YtbbnodhpafiplaaDoorAp
import Derived.Test.YtbbnodhpafiplaaDoorHe1
import Derived.Test.YtbbnodhpafiplaaDoorHf
import Derived.Test.YtbbnodhpafiplaaDoorOa
namespace Go.Proofs.YtbbnodhpafiplaaDoor
open Go.RowKit
set_option linter.unusedVariables false
set_option linter.unusedSimpArgs false
/-- Each block in a place is among K. -/
def Inv (X : Hi) (K : List Blo) : Prop := ∀ s, (s ∈ X.i ∨ s ∈ X.d ∨ s ∈ X.m) → s.full = true → s.b ∈ K
theorem mem_puF {L : List Slo} {b : Blo} {pick : Int} {s : Slo} (h : s ∈ (puF L b pick).2) : s ∈ L ∨ s = ⟨true, b⟩ := by
  unfold puF at h
  split at h
  · split at h
    · exact .inl h
    · split at h
      · exact List.mem_or_eq_of_mem_set h
      · exact List.mem_or_eq_of_mem_set h
  · exact .inl h
theorem mem_filF {L : List Slo} {b : Blo} {va asid pick : Int} {s : Slo} (h : s ∈ filF L b va asid pick) : s ∈ L ∨ s = ⟨true, b⟩ := by
  unfold filF at h
  split at h
  · exact mem_puF h
  · exact .inl h
theorem mem_evF {L : List Slo} {i : Int} {s : Slo} (h : s ∈ (evF L i).2) : s ∈ L ∨ s = sZ := by
  unfold evF at h
  split at h
  · exact List.mem_or_eq_of_mem_set h
  · exact .inl h
theorem mem_flF {L : List Slo} {d : Dro} {s : Slo} (h : s ∈ (flF L d).2) (hf : s.full = true) : s ∈ L ∧ tkF d s.b = false := by
  simp only [flF, List.mem_map] at h
  obtain ⟨x, hx, hs⟩ := h
  by_cases h1 : fkF d x = true
  · rw [if_pos h1] at hs
    rw [← hs] at hf
    cases hf
  · rw [if_neg h1] at hs
    subst hs
    refine ⟨hx, ?_⟩
    simp [fkF, hf] at h1
    exact h1
theorem lkP_fold (va asid : Int) (L : List Slo) (r : Blo × Nat) : (L.foldl (lkS va asid) r = r) ∨ (r.2 < (L.foldl (lkS va asid) r).2 ∧ ∃ s, s ∈ L ∧ s.full = true ∧ ovF s.b va asid = true ∧ (L.foldl (lkS va asid) r).1 = s.b) := by
  induction L generalizing r with
  | nil => exact .inl rfl
  | cons x L ih =>
    simp only [List.foldl_cons]
    rcases ih (lkS va asid r x) with h | ⟨h1, s, h2, h3, h4, h5⟩
    · by_cases hx : (x.full && ovF x.b va asid) = true
      · have he : lkS va asid r x = (x.b, r.2 + 1) := by simp only [lkS, hx, if_true]
        rw [h, he]
        simp only [Bool.and_eq_true] at hx
        exact .inr ⟨by simp, x, .head _, hx.1, hx.2, rfl⟩
      · have he : lkS va asid r x = r := by simp only [lkS]; rw [if_neg hx]
        rw [h, he]
        exact .inl rfl
    · have hle : r.2 ≤ (lkS va asid r x).2 := by unfold lkS; split <;> simp
      exact .inr ⟨Nat.lt_of_le_of_lt hle h1, s, .tail _ h2, h3, h4, h5⟩
theorem lk_one {L : List Slo} {va asid : Int} (h : (lkF L va asid).2 = 1) : ∃ s, s ∈ L ∧ s.full = true ∧ ovF s.b va asid = true ∧ (lkF L va asid).1 = s.b := by
  have h1 : lkF L va asid = lkP L va asid := by
    unfold lkF at h ⊢
    split at h
    · rename_i h1; rw [if_pos h1]
    · rename_i h1; exact absurd h h1
  rw [h1] at h ⊢
  rcases lkP_fold va asid L (bZ, 0) with h2 | ⟨_, h2⟩
  · have h3 : lkP L va asid = (bZ, 0) := h2
    rw [h3] at h
    cases h
  · exact h2
theorem lk_ne {L : List Slo} {va asid : Int} (h : ¬ (lkF L va asid).2 = 1) : (lkF L va asid).1 = bZ := by
  unfold lkF at h ⊢
  split
  · rename_i h1
    rw [if_pos h1] at h
    exact absurd h1 h
  · rfl
theorem Inv.sm {X : Hi} {K : List Blo} (h : Inv X K) (f : Bool) {s : Slo} (hs : s ∈ X.sm f) (hf : s.full = true) : s.b ∈ K := by
  cases f
  · exact h s (.inr (.inl hs)) hf
  · exact h s (.inl hs) hf
theorem Inv.setS {X : Hi} {K : List Blo} (h : Inv X K) (f : Bool) {L : List Slo} (hL : ∀ s ∈ L, s.full = true → s.b ∈ K) : Inv (X.setS f L) K := by
  cases f
  · rintro s (hs | hs | hs) hf
    · exact h s (.inl hs) hf
    · exact hL s hs hf
    · exact h s (.inr (.inr hs)) hf
  · rintro s (hs | hs | hs) hf
    · exact hL s hs hf
    · exact h s (.inr (.inl hs)) hf
    · exact h s (.inr (.inr hs)) hf
theorem Inv.mono {X : Hi} {K K' : List Blo} (h : Inv X K) (hk : ∀ b ∈ K, b ∈ K') : Inv X K' := fun s hs hf => hk _ (h s hs hf)
theorem Inv.find {X : Hi} {K : List Blo} (h : Inv X K) (va asid : Int) (f : Bool) (pick : Int) (mf : Bool) : Inv (fiF X va asid f pick mf).2 K := by
  unfold fiF
  split
  · simp only
    split
    · rename_i h1
      refine h.setS f fun s hs hf => ?_
      rcases mem_puF hs with h2 | h2
      · exact h.sm f h2 hf
      · rw [h2]
        obtain ⟨t, ht1, ht2, _, ht4⟩ := lk_one h1.1
        show (lkF X.m va asid).1 ∈ K
        rw [ht4]
        exact h t (.inr (.inr ht1)) ht2
    · exact h
  · exact h
theorem fi_one {X : Hi} {K : List Blo} (h : Inv X K) {va asid : Int} {f : Bool} {pick : Int} {mf : Bool} (h1 : (fiF X va asid f pick mf).1.2 = 1) : (fiF X va asid f pick mf).1.1 ∈ K ∧ ovF (fiF X va asid f pick mf).1.1 va asid = true := by
  unfold fiF at h1 ⊢
  split
  · rename_i hc
    rw [if_pos hc] at h1
    obtain ⟨t, ht1, ht2, ht3, ht4⟩ := lk_one (L := X.m) (va := va) (asid := asid) (by simp only at h1; omega)
    simp only
    rw [ht4]
    exact ⟨h t (.inr (.inr ht1)) ht2, ht3⟩
  · rename_i hc
    rw [if_neg hc] at h1
    obtain ⟨t, ht1, ht2, ht3, ht4⟩ := lk_one (L := X.sm f) (va := va) (asid := asid) (by simp only at h1; omega)
    simp only
    rw [ht4]
    exact ⟨h.sm f ht1 ht2, ht3⟩
theorem fi_ne {X : Hi} {va asid : Int} {f : Bool} {pick : Int} {mf : Bool} (h1 : ¬ (fiF X va asid f pick mf).1.2 = 1) : (fiF X va asid f pick mf).1.1 = bZ := by
  unfold fiF at h1 ⊢
  split
  · rename_i hc
    rw [if_pos hc] at h1
    exact lk_ne (by simp only at h1; omega)
  · rename_i hc
    rw [if_neg hc] at h1
    exact lk_ne (by simp only at h1; omega)
theorem fi_le (X : Hi) (va asid : Int) (f : Bool) (pick : Int) (mf : Bool) : (fiF X va asid f pick mf).1.2 ≤ 2 := by
  unfold fiF
  split <;> exact Nat.min_le_right _ _
theorem Inv.keep {X : Hi} {K : List Blo} (h : Inv X K) (b : Blo) (va asid : Int) (f : Bool) (pick : Int) : Inv (keF X b va asid f pick).2 (K ++ [b]) := by
  have h2 : Inv X (K ++ [b]) := h.mono fun x hx => List.mem_append_left _ hx
  have hb : b ∈ K ++ [b] := List.mem_append_right _ (.head _)
  unfold keF
  split
  · refine Inv.setS (X := ⟨X.i, X.d, filF X.m b va asid pick⟩) ?_ f ?_
    · rintro s (hs | hs | hs) hf
      · exact h2 s (.inl hs) hf
      · exact h2 s (.inr (.inl hs)) hf
      · rcases mem_filF hs with h3 | h3
        · exact h2 s (.inr (.inr h3)) hf
        · rw [h3]; exact hb
    · intro s hs hf
      rcases mem_filF hs with h3 | h3
      · exact h2.sm f h3 hf
      · rw [h3]; exact hb
  · exact h2
theorem ke_ok {X : Hi} {b : Blo} {va asid : Int} {f : Bool} {pick : Int} (h : (keF X b va asid f pick).1 = 0) : ovF b va asid = true := by
  unfold keF at h
  split at h
  · assumption
  · simp at h
theorem ke_no {X : Hi} {b : Blo} {va asid : Int} {f : Bool} {pick : Int} (h : ¬ (keF X b va asid f pick).1 = 0) : (keF X b va asid f pick).2 = X := by
  unfold keF at h ⊢
  split
  · rename_i h1; rw [if_pos h1] at h; exact absurd rfl h
  · rfl
theorem Inv.evict {X : Hi} {K : List Blo} (h : Inv X K) (which i : Int) : Inv (evH X which i).2 K := by
  unfold evH
  split
  · rintro s (hs | hs | hs) hf
    · rcases mem_evF hs with h1 | h1
      · exact h s (.inl h1) hf
      · rw [h1] at hf; cases hf
    · exact h s (.inr (.inl hs)) hf
    · exact h s (.inr (.inr hs)) hf
  · split
    · rintro s (hs | hs | hs) hf
      · exact h s (.inl hs) hf
      · rcases mem_evF hs with h1 | h1
        · exact h s (.inr (.inl h1)) hf
        · rw [h1] at hf; cases hf
      · exact h s (.inr (.inr hs)) hf
    · split
      · rintro s (hs | hs | hs) hf
        · exact h s (.inl hs) hf
        · exact h s (.inr (.inl hs)) hf
        · rcases mem_evF hs with h1 | h1
          · exact h s (.inr (.inr h1)) hf
          · rw [h1] at hf; cases hf
      · exact h
theorem Inv.drop {X : Hi} {K : List Blo} (h : Inv X K) (d : Dro) : Inv (drH X d).2 (K.filter fun b => !tkF d b) := by
  have f : ∀ s : Slo, tkF d s.b = false → s.b ∈ K → s.b ∈ K.filter fun b => !tkF d b := fun s h1 h2 => List.mem_filter.2 ⟨h2, by rw [h1]; rfl⟩
  rintro s (hs | hs | hs) hf
  · obtain ⟨h1, h2⟩ := mem_flF hs hf
    exact f s h2 (h s (.inl h1) hf)
  · obtain ⟨h1, h2⟩ := mem_flF hs hf
    exact f s h2 (h s (.inr (.inl h1)) hf)
  · obtain ⟨h1, h2⟩ := mem_flF hs hf
    exact f s h2 (h s (.inr (.inr h1)) hf)
theorem Inv.pl {X : Hi} {K : List Blo} (h : Inv X K) (k : Int) : ∀ s ∈ plH X k, s.full = true → s.b ∈ K := by
  intro s hs hf
  unfold plH at hs
  split at hs
  · exact h s (.inl hs) hf
  · split at hs
    · exact h s (.inr (.inl hs)) hf
    · split at hs
      · exact h s (.inr (.inr hs)) hf
      · cases hs
theorem any_mem {K : List Blo} {b : Blo} (h : b ∈ K) : K.any (fun y => y.same b) = true := List.any_eq_true.2 ⟨b, h, Blo.same_self b⟩
/-- The first block. -/
def fB : Blo := ⟨3, 1, 4096, 8192, 0, 3, 0, true, false⟩
theorem fB_ok : BOk fB := ⟨by decide, by decide, by decide⟩
theorem zeros_look (n : Nat) (va asid : Int) : lkF (List.replicate n sZ) va asid = (bZ, 0) := by
  have h : ∀ (m : Nat) (r : Blo × Nat), (List.replicate m sZ).foldl (lkS va asid) r = r := by
    intro m
    induction m with
    | zero => intro r; rfl
    | succ m ih => intro r; rw [List.replicate_succ, List.foldl_cons]; exact ih _
  have h1 : lkP (List.replicate n sZ) va asid = (bZ, 0) := h n _
  unfold lkF
  rw [h1]
  rfl
theorem one_look {b : Blo} {va asid : Int} (h : ovF b va asid = true) (n : Nat) : lkF (⟨true, b⟩ :: List.replicate n sZ) va asid = (b, 1) := by
  have h0 : ∀ (m : Nat) (r : Blo × Nat), (List.replicate m sZ).foldl (lkS va asid) r = r := by
    intro m
    induction m with
    | zero => intro r; rfl
    | succ m ih => intro r; rw [List.replicate_succ, List.foldl_cons]; exact ih _
  have h1 : lkP (⟨true, b⟩ :: List.replicate n sZ) va asid = (b, 1) := by
    unfold lkP
    rw [List.foldl_cons, h0]
    simp [lkS, h]
  unfold lkF
  rw [h1]
  rfl
theorem zeros_put {b : Blo} (hb : bR b = true) (n : Nat) (pick : Int) : (puF (List.replicate (n + 1) sZ) b pick).2 = ⟨true, b⟩ :: List.replicate n sZ := by
  have h1 : ixF (List.replicate (n + 1) sZ) ⟨true, b⟩ = none := by
    unfold ixF
    rw [List.findIdx?_eq_none_iff]
    intro x hx
    rw [(List.mem_replicate.1 hx).2]
    rfl
  have h2 : ixF (List.replicate (n + 1) sZ) sZ = some 0 := by
    unfold ixF
    rw [List.replicate_succ, List.findIdx?_cons]
    rfl
  unfold puF
  rw [if_pos hb, h1, h2]
  simp [List.replicate_succ]
theorem zeros_fil {b : Blo} {va asid : Int} (hb : ovF b va asid = true) (n : Nat) (pick : Int) : filF (List.replicate (n + 1) sZ) b va asid pick = ⟨true, b⟩ :: List.replicate n sZ := by
  unfold filF
  rw [if_pos (by rw [zeros_look])]
  exact zeros_put (by unfold ovF at hb; simp at hb; exact hb.1) n pick
end Go.Proofs.YtbbnodhpafiplaaDoor
namespace Go.Proofs.YtbbnodhpafiplaaDoor
open Go.RowKit
set_option linter.unusedVariables false
set_option linter.unusedSimpArgs false
/-- No block is twice there. -/
def Uni (L : List Slo) : Prop := ∀ (i j : Nat) (s t : Slo), L[i]? = some s → L[j]? = some t → s.full = true → t.full = true → s.b = t.b → i = j
theorem Uni.zeros (n : Nat) : Uni (List.replicate n sZ) := fun i j s t hs ht h1 h2 h3 => by
  rw [List.getElem?_replicate] at hs
  split at hs
  · injection hs with hs; rw [← hs] at h1; cases h1
  · cases hs
theorem ix_none {L : List Slo} {b : Blo} (h : ixF L ⟨true, b⟩ = none) {i : Nat} {s : Slo} (hs : L[i]? = some s) (hf : s.full = true) : ¬ s.b = b := fun e => by
  unfold ixF at h
  rw [List.findIdx?_eq_none_iff] at h
  have h1 := h s (List.mem_of_getElem? hs)
  rw [full_same, hf, e, Blo.same_self] at h1
  cases h1
theorem Uni.setB {L : List Slo} (h : Uni L) (k : Nat) (b : Blo) (hn : ixF L ⟨true, b⟩ = none) : Uni (L.set k ⟨true, b⟩) := fun i j s t hs ht h1 h2 h3 => by
  by_cases hi : k = i
  · by_cases hj : k = j
    · omega
    · subst hi
      rw [List.getElem?_set_ne hj] at ht
      rw [List.getElem?_set] at hs
      simp at hs
      rw [← hs.2] at h3
      exact absurd h3.symm (ix_none hn ht h2)
  · rw [List.getElem?_set_ne hi] at hs
    by_cases hj : k = j
    · subst hj
      rw [List.getElem?_set] at ht
      simp at ht
      rw [← ht.2] at h3
      exact absurd h3 (ix_none hn hs h1)
    · rw [List.getElem?_set_ne hj] at ht
      exact h i j s t hs ht h1 h2 h3
theorem Uni.put {L : List Slo} (h : Uni L) (b : Blo) (pick : Int) : Uni (puF L b pick).2 := by
  cases hr : bR b
  · simp only [puF, hr]; exact h
  · cases hi : ixF L ⟨true, b⟩ with
    | some i => simp only [puF, hr, hi, if_true]; exact h
    | none => rw [puF_at pick hr hi]; exact h.setB _ b hi
theorem Uni.fil {L : List Slo} (h : Uni L) (b : Blo) (va asid pick : Int) : Uni (filF L b va asid pick) := by
  unfold filF
  split
  · exact h.put b pick
  · exact h
/-- All three. -/
def UniH (X : Hi) : Prop := Uni X.i ∧ Uni X.d ∧ Uni X.m
theorem UniH.sm {X : Hi} (h : UniH X) (f : Bool) : Uni (X.sm f) := by
  cases f
  · exact h.2.1
  · exact h.1
theorem UniH.setS {X : Hi} (h : UniH X) (f : Bool) {L : List Slo} (hL : Uni L) : UniH (X.setS f L) := by
  cases f
  · exact ⟨h.1, hL, h.2.2⟩
  · exact ⟨hL, h.2.1, h.2.2⟩
theorem UniH.find {X : Hi} (h : UniH X) (va asid : Int) (f : Bool) (pick : Int) (mf : Bool) : UniH (fiF X va asid f pick mf).2 := by
  unfold fiF
  split
  · simp only
    split
    · exact h.setS f ((h.sm f).put _ pick)
    · exact h
  · exact h
theorem UniH.keep {X : Hi} (h : UniH X) (b : Blo) (va asid : Int) (f : Bool) (pick : Int) : UniH (keF X b va asid f pick).2 := by
  unfold keF
  split
  · exact UniH.setS (X := ⟨X.i, X.d, filF X.m b va asid pick⟩) ⟨h.1, h.2.1, h.2.2.fil b va asid pick⟩ f ((h.sm f).fil b va asid pick)
  · exact h
theorem UniH.zeros (i d m : Nat) : UniH ⟨List.replicate i sZ, List.replicate d sZ, List.replicate m sZ⟩ := ⟨Uni.zeros _, Uni.zeros _, Uni.zeros _⟩
theorem Inv.zeros (i d m : Nat) : Inv ⟨List.replicate i sZ, List.replicate d sZ, List.replicate m sZ⟩ [] := by
  rintro s (hs | hs | hs) hf
  all_goals
    rw [(List.mem_replicate.1 hs).2] at hf
    cases hf
/-- How many match. -/
theorem lk_count (va asid : Int) (L : List Slo) (r : Blo × Nat) : (L.foldl (lkS va asid) r).2 = r.2 + L.countP (fun s => s.full && ovF s.b va asid) := by
  induction L generalizing r with
  | nil => simp
  | cons x L ih =>
    rw [List.foldl_cons, ih, List.countP_cons]
    by_cases h : (x.full && ovF x.b va asid) = true
    · simp only [lkS, h, if_true]; omega
    · simp only [lkS, h, if_false]; simp
theorem count_one {p : Slo → Bool} (L : List Slo) (h : ∀ (i j : Nat) (s t : Slo), L[i]? = some s → L[j]? = some t → p s = true → p t = true → i = j) : L.countP p ≤ 1 := by
  induction L with
  | nil => simp
  | cons x L ih =>
    rw [List.countP_cons]
    by_cases hx : p x = true
    · have h0 : L.countP p = 0 := by
        rw [List.countP_eq_zero]
        intro a ha hp
        obtain ⟨j, hj⟩ := List.mem_iff_getElem?.1 ha
        have := h 0 (j + 1) x a (by simp) (by simpa using hj) hx hp
        omega
      rw [h0]; simp [hx]
    · have := ih (fun i j s t hs ht h1 h2 => by have := h (i + 1) (j + 1) s t (by simpa using hs) (by simpa using ht) h1 h2; omega)
      simp only [hx]
      simpa using this
/-- Blocks that lie over no common address. -/
def apF (a b : Blo) : Bool := decide (a.t.va + byN a.t.size ≤ b.t.va) || decide (b.t.va + byN b.t.size ≤ a.t.va)
abbrev Aps (l : List Blo) : Prop := l.Pairwise (fun a b => apF a b = true)
theorem pair_all {R : Blo → Blo → Prop} (hs : ∀ x y, R x y → R y x) (hr : ∀ x, R x x) {l : List Blo} (h : l.Pairwise R) : ∀ a ∈ l, ∀ b ∈ l, R a b := by
  induction h with
  | nil => intro a ha; cases ha
  | cons h1 _ ih =>
    intro a ha b hb
    rcases List.mem_cons.1 ha with e1 | ha2
    · rcases List.mem_cons.1 hb with e2 | hb2
      · rw [e1, e2]; exact hr _
      · rw [e1]; exact h1 _ hb2
    · rcases List.mem_cons.1 hb with e2 | hb2
      · rw [e2]; exact hs _ _ (h1 _ ha2)
      · exact ih a ha2 b hb2
theorem aps_same {l : List Blo} (h : Aps l) {a b : Blo} (ha : a ∈ l) (hb : b ∈ l) {va : Int} (h1 : liF a va = true) (h2 : liF b va = true) : a = b := by
  have key : l.Pairwise (fun a b => liF a va = true → liF b va = true → a = b) := h.imp (fun {x y} hxy hx hy => by
    exfalso
    simp only [apF, liF, Bool.or_eq_true, Bool.and_eq_true, decide_eq_true_eq] at hxy hx hy
    omega)
  exact pair_all (R := fun a b => liF a va = true → liF b va = true → a = b) (fun x y hxy hx hy => (hxy hy hx).symm) (fun x _ _ => rfl) key a ha b hb h1 h2
theorem ov_li {b : Blo} {va asid : Int} (h : ovF b va asid = true) : liF b va = true := by
  unfold ovF maF at h
  simp only [Bool.and_eq_true] at h
  exact h.2.1
theorem lk_two {L : List Slo} {K : List Blo} (hU : Uni L) (hK : ∀ s ∈ L, s.full = true → s.b ∈ K) (hA : Aps K) (va asid : Int) : (lkF L va asid).2 ≤ 1 := by
  have h1 : (lkP L va asid).2 ≤ 1 := by
    unfold lkP
    rw [lk_count, Nat.zero_add]
    refine count_one L fun i j s t hs ht h1 h2 => ?_
    simp only [Bool.and_eq_true] at h1 h2
    exact hU i j s t hs ht h1.1 h2.1 (aps_same hA (hK s (List.mem_of_getElem? hs) h1.1) (hK t (List.mem_of_getElem? ht) h2.1) (ov_li h1.2) (ov_li h2.2))
  unfold lkF
  split <;> exact h1
theorem fi_two {X : Hi} {K : List Blo} (hU : UniH X) (hK : Inv X K) (hA : Aps K) (va asid : Int) (f : Bool) (pick : Int) (mf : Bool) : (fiF X va asid f pick mf).1.2 ≤ 1 := by
  have h1 := lk_two hU.2.2 (fun s hs hf => hK s (.inr (.inr hs)) hf) hA va asid
  have h2 := lk_two (hU.sm f) (fun s hs hf => hK.sm f hs hf) hA va asid
  unfold fiF
  split
  · simp only; omega
  · simp only; omega
theorem right_bytes {b : Blo} (h : bR b = true) : 0 < byN b.t.size := by
  unfold bR at h
  cases hr : riF b.t
  · rw [hr] at h; cases h
  · unfold riF at hr
    simp only [Bool.and_eq_true, decide_eq_true_eq] at hr
    obtain ⟨⟨h1, h2⟩, _⟩ := hr
    rcases (show b.t.size = 1 ∨ b.t.size = 2 ∨ b.t.size = 3 ∨ b.t.size = 4 by omega) with h3 | h3 | h3 | h3 <;> rw [h3] <;> decide
theorem ap_self {b : Blo} (h : bR b = true) : apF b b = false := by
  have h1 : 0 < byN b.t.size := right_bytes h
  simp only [apF, Bool.or_eq_false_iff, decide_eq_false_iff_not]
  omega
/-- A right block is kept at its own address, for what its ASID is within 8 bits. -/
theorem ov_own {b : Blo} (h : bR b = true) {x : Int} (hx : (b.asid = -1) ∨ (x = b.asid)) : ovF b b.t.va x = true := by
  have h1 := right_bytes h
  unfold ovF maF liF hoF
  rw [h]
  rcases hx with hx | hx
  · simp [hx]; omega
  · simp [hx]; omega
theorem right_asid {b : Blo} (h : bR b = true) : b.asid = -1 ∨ (0 ≤ b.asid ∧ b.asid ≤ 255) := by
  unfold bR at h
  cases hr : riF b.t
  · rw [hr] at h; cases h
  · rw [hr] at h
    simp only [if_true] at h
    split at h
    · unfold asF at h
      simp at h
      exact .inr h
    · simp at h
      exact .inl h
end Go.Proofs.YtbbnodhpafiplaaDoor
namespace Go.Proofs.YtbbnodhpafiplaaDoor
open Go.RowKit
set_option linter.unusedVariables false
set_option linter.unusedSimpArgs false
/-- A row of blocks. -/
def encB (b : Blo) : List Value := [.int .i64 b.asid, .int .i64 b.t.size, .int .u32 b.t.va, .int .u64 b.t.pa, .int .i64 b.t.dom, .int .i64 b.t.ap, .int .u32 b.t.bits, .bool b.t.ng, .bool b.t.xn]
def rowB (K : List Blo) : List Value := K.flatMap encB
theorem rowB_cons (x : Blo) (l : List Blo) : rowB (x :: l) = encB x ++ rowB l := rfl
theorem rowB_app (l m : List Blo) : rowB (l ++ m) = rowB l ++ rowB m := by simp [rowB]
theorem rowB_len (l : List Blo) : (rowB l).length = l.length * 9 := by
  induction l with
  | nil => rfl
  | cons x l ih => rw [rowB_cons, List.length_append, ih, List.length_cons]; show 9 + _ = _; omega
theorem rowB_at {l : List Blo} {i : Nat} {x : Blo} (h : l[i]? = some x) (j : Nat) (hj : j < 9) : (rowB l)[i * 9 + j]? = (encB x)[j]? := by
  induction l generalizing i with
  | nil => simp at h
  | cons y l ih =>
    have hy : (encB y).length = 9 := rfl
    cases i with
    | zero =>
      simp at h; subst h
      rw [rowB_cons, List.getElem?_append_left (by omega), Nat.zero_mul, Nat.zero_add]
    | succ i =>
      simp at h
      rw [rowB_cons, List.getElem?_append_right (by omega), hy, show (i + 1) * 9 + j - 9 = i * 9 + j by omega]
      exact ih h
/-- A slice of blocks that can be read. -/
def RB (w : World) (a : Option Addr) (K : List Blo) : Prop := K = [] ∨ ∃ g, a = some ⟨g, 0, none⟩ ∧ ∀ i u, (rowB K)[i]? = some u → w.cell? ⟨g, i, none⟩ = some u
theorem RB.below {w w' : World} {a : Option Addr} {K : List Blo} (h : RB w a K) (hb : Below w.heap.size w w') : RB w' a K := by
  rcases h with h | ⟨g, h1, h2⟩
  · exact .inl h
  · exact .inr ⟨g, h1, fun i u hu => (hb.cell (cell_lt (h2 i u hu))).trans (h2 i u hu)⟩
theorem RB.at {w : World} {a : Option Addr} {K : List Blo} (h : RB w a K) {k : Nat} {x : Blo} (hx : K[k]? = some x) :
    ∃ g, a = some ⟨g, 0, none⟩ ∧ g < w.heap.size ∧ w.cell? ⟨g, k * 9, none⟩ = some (.int .i64 x.asid) ∧ w.cell? ⟨g, k * 9 + 1, none⟩ = some (.int .i64 x.t.size) ∧ w.cell? ⟨g, k * 9 + 2, none⟩ = some (.int .u32 x.t.va) ∧ w.cell? ⟨g, k * 9 + 3, none⟩ = some (.int .u64 x.t.pa) ∧ w.cell? ⟨g, k * 9 + 4, none⟩ = some (.int .i64 x.t.dom) ∧ w.cell? ⟨g, k * 9 + 5, none⟩ = some (.int .i64 x.t.ap) ∧ w.cell? ⟨g, k * 9 + 6, none⟩ = some (.int .u32 x.t.bits) ∧ w.cell? ⟨g, k * 9 + 7, none⟩ = some (.bool x.t.ng) ∧ w.cell? ⟨g, k * 9 + 8, none⟩ = some (.bool x.t.xn) := by
  rcases h with h | ⟨g, h1, h2⟩
  · subst h; simp at hx
  · have e : ∀ j v, (encB x)[j]? = some v → w.cell? ⟨g, k * 9 + j, none⟩ = some v := fun j v hv => by
      refine h2 _ _ ?_
      have hj : j < 9 := (List.getElem?_eq_some_iff.1 hv).1
      rw [rowB_at hx j hj]
      exact hv
    exact ⟨g, h1, cell_lt (e 0 _ rfl), e 0 _ rfl, e 1 _ rfl, e 2 _ rfl, e 3 _ rfl, e 4 _ rfl, e 5 _ rfl, e 6 _ rfl, e 7 _ rfl, e 8 _ rfl⟩
/-- A list of blocks of one's own. -/
abbrev Ob (w : World) (lo : Nat) (v : Value) (K : List Blo) : Prop := w.ownsRow lo 38 9 v K.length (rowB K)
theorem Ob.rb {w : World} {lo : Nat} {v : Value} {K : List Blo} (h : Ob w lo v K) : ∃ a cap, v = .slice a K.length cap ∧ RB w a K := by
  have h0 := h
  rcases h.2 with ⟨rfl, hn⟩ | ⟨g, cap, cur, rfl, _⟩
  · exact ⟨none, 0, by rw [hn], .inl (List.eq_nil_of_length_eq_zero hn)⟩
  · refine ⟨_, cap, rfl, .inr ⟨g, rfl, fun i u hu => ?_⟩⟩
    have := h0.cells (g := g) rfl i u hu
    rw [Addr.add_lit, Nat.zero_add] at this
    exact this
theorem Ob.nil (w : World) (lo : Nat) : Ob w lo (.slice none 0 0) [] := World.ownsRow_nil w lo _ _
theorem Ob.block {w : World} {lo : Nat} {v : Value} {K : List Blo} (h : Ob w lo v K) {x : Nat} (hx : v.ownBlock = some x) : lo ≤ x ∧ x < w.heap.size ∧ ∃ c, Bl w x 38 c := by
  rcases h.2 with ⟨rfl, hn⟩ | ⟨g, cap, cur, rfl, h1, h2, _⟩
  · cases hx
  · have hx : g = x := by injection hx
    subst hx
    have hB : Bl w g 38 cur.toList := by show w.heap[g]? = _; rw [h2]
    exact ⟨h1, hB.lt, _, hB⟩
theorem Ob.turn {w w' : World} {lo : Nat} {v : Value} {K : List Blo} {S : Nat → Prop} (h : Ob w lo v K) (hT : Turn S w w') (hn : ∀ x, v.ownBlock = some x → ¬ S x) : Ob w' lo v K := by
  refine ⟨h.1, ?_⟩
  rcases h.2 with h1 | ⟨g, cap, cur, rfl, h1, h2, h3⟩
  · exact .inl h1
  · exact .inr ⟨g, cap, cur, rfl, h1, (hT.block g (Array.getElem?_eq_some_iff.1 h2).1 (hn g rfl)).trans h2, h3⟩
theorem Ob.below {w w' : World} {lo : Nat} {v : Value} {K : List Blo} (h : Ob w lo v K) (hb : Below w.heap.size w w') : Ob w' lo v K := h.turn (S := fun _ => False) (Turn.below hb) (fun _ _ h => h)
theorem turn_grown {w w' : World} {row : Option Nat} (h : w.grownBy w' row) : Turn (fun x => row = some x) w w' := ⟨h.os, h.tape, h.output, h.size, fun i hi hn => h.block i hi (fun e => hn e.symm)⟩
theorem infoB : (Tryd.prog.info? 38).map (fun i => (i.zero, i.size, i.bytes)) = some (some (.agg #[.int .i64 0, .int .i64 0, .int .u32 0, .int .u64 0, .int .i64 0, .int .i64 0, .int .u32 0, .bool false, .bool false]), 9, 56) := by kernel_rfl
/-- append of one block. -/
theorem appB (wr : World) (lo : Nat) (v : Value) (K : List Blo) (b : Blo) (h : Ob wr lo v K) (hlo : lo ≤ wr.heap.size) (hk : (K.length + 1) * 56 ≤ 140737488355328) :
    ∃ v' w', (Builtin.append_ #[24, 24] 24 #[v, .slice (some ⟨wr.heap.size, 0, none⟩) 1 1]).run Tryd.prog (wr.alloc (.cells ([.int .i64 b.asid, .int .i64 b.t.size, .int .u32 b.t.va, .int .u64 b.t.pa, .int .i64 b.t.dom, .int .i64 b.t.ap, .int .u32 b.t.bits, .bool b.t.ng, .bool b.t.xn]).toArray 38)) = .ok v' w' ∧ Ob w' lo v' (K ++ [b]) ∧ Turn (fun x => v.ownBlock = some x) wr w' := by
  obtain ⟨i, hi, hz, h1, h2⟩ := info_parts infoB
  have hB := Bl.new wr 38 ([.int .i64 b.asid, .int .i64 b.t.size, .int .u32 b.t.va, .int .u64 b.t.pa, .int .i64 b.t.dom, .int .i64 b.t.ap, .int .u32 b.t.bits, .bool b.t.ng, .bool b.t.xn])
  obtain ⟨v', w', r1, r2, r3, _⟩ := run_append_own (P := Tryd.prog) (wr.alloc (.cells ([.int .i64 b.asid, .int .i64 b.t.size, .int .u32 b.t.va, .int .u64 b.t.pa, .int .i64 b.t.dom, .int .i64 b.t.ap, .int .u32 b.t.bits, .bool b.t.ng, .bool b.t.xn]).toArray 38)) lo 24 24 38 i _ 9 56 Tryd.underlying24 hi hz h1 h2 rfl (by omega) v K.length (rowB K) (h.below (below_new _ _)) ⟨wr.heap.size, 0, none⟩ 1 1 ([.int .i64 b.asid, .int .i64 b.t.size, .int .u32 b.t.va, .int .u64 b.t.pa, .int .i64 b.t.dom, .int .i64 b.t.ap, .int .u32 b.t.bits, .bool b.t.ng, .bool b.t.xn]) rfl
    (fun j u hj => by rw [Addr.add_lit, Nat.zero_add]; exact (hB.cell j).trans hj) (fun u hu => by simp at hu; rcases hu with rfl | rfl | rfl | rfl | rfl | rfl | rfl | rfl | rfl <;> rfl) (by unfold maxLen; omega) hk (by simp; omega)
  refine ⟨v', w', r1, ?_, ((Turn.refl _ wr).alloc _).then (turn_grown r3)⟩
  show w'.ownsRow lo _ 9 v' (K ++ [b]).length (rowB (K ++ [b]))
  rw [rowB_app, List.length_append]
  exact r2
/-- among. -/
structure AMX (W wr : World) (B : Nat) (a : Option Addr) (K : List Blo) (b : Blo) : Prop where
  bel : Below W.heap.size W wr
  row : RB wr a K
  box : Bl wr B 38 ([.int .i64 b.asid, .int .i64 b.t.size, .int .u32 b.t.va, .int .u64 b.t.pa, .int .i64 b.t.dom, .int .i64 b.t.ap, .int .u32 b.t.bits, .bool b.t.ng, .bool b.t.xn])
theorem AMX.drewN {W wr : World} {B : Nat} {a : Option Addr} {K : List Blo} {b : Blo} (x : AMX W wr B a K b) (q : Nat) : AMX W (wr.drewN q) B a K b := ⟨below_drewN x.bel q, x.row.below (below_drewN (Below.refl _ _) q), x.box.drewN q⟩
theorem any_take {K : List Blo} {k : Nat} {x b : Blo} (hx : K[k]? = some x) : (K.take (k + 1)).any (fun y => y.same b) = ((K.take k).any (fun y => y.same b) || x.same b) := by
  rw [List.take_add_one, hx]
  simp
theorem any_here {K : List Blo} {k : Nat} {x b : Blo} (hx : K[k]? = some x) (h : x.same b = true) : K.any (fun y => y.same b) = true := List.any_eq_true.2 ⟨x, List.mem_of_getElem? hx, h⟩
set_option maxRecDepth 100000 in
set_option maxHeartbeats 4000000 in
theorem among_any (W : World) (a : Option Addr) (cap : Nat) (K : List Blo) (b : Blo) (h : RB W a K) (hl : K.length ≤ 4611686018427387904) :
    Calls Tryd.prog 13 #[.slice a K.length cap, .agg #[.int .i64 b.asid, .int .i64 b.t.size, .int .u32 b.t.va, .int .u64 b.t.pa, .int .i64 b.t.dom, .int .i64 b.t.ap, .int .u32 b.t.bits, .bool b.t.ng, .bool b.t.xn]] W fun e w' => e = .returned (.bool (K.any (fun y => y.same b))) ∧ Below W.heap.size W w' := by
  have HX0 : Hid (AMX W (W.alloc (.cells ([.int .i64 b.asid, .int .i64 b.t.size, .int .u32 b.t.va, .int .u64 b.t.pa, .int .i64 b.t.dom, .int .i64 b.t.ap, .int .u32 b.t.bits, .bool b.t.ng, .bool b.t.xn]).toArray 38)) W.heap.size a K b) := hidW ⟨below_new _ _, h.below (below_new _ _), Bl.new _ _ _⟩
  have HE := hidW (fun s : Blo => eqB s b)
  clear h
  generalize hn : K.length = n at *
  have HN : Hid (K.length = n) := hn
  clear hn
  go_enter Tryd.func13, Tryd.ntmps13
  go_wp2
  generalize World.alloc _ _ = w0 at *
  generalize hB : W.heap.size = B at HX0 ⊢
  clear hB
  go_loopw [5] (fun i wr => ∃ k : Nat, k ≤ n ∧ i = .int .i64 k ∧ Hid ((K.take k).any (fun y => y.same b) = false) ∧ AMX W wr B a K b) (fun i _ => n - (intOf i).toNat)
  case atStart => exact ⟨0, by omega, rfl, hidW rfl, HX0.out⟩
  case round =>
    clear HX0
    obtain ⟨k, hk, rfl, HF, hX⟩ := hrel
    have HX := hidW hX
    clear hX
    by_cases hlt : k < n
    · obtain ⟨s, hs⟩ : ∃ s, K[k]? = some s := ⟨_, List.getElem?_eq_getElem (by rw [HN.out]; exact hlt)⟩
      obtain ⟨g, rfl, hg, e0, e1, e2, e3, e4, e5, e6, e7, e8⟩ := HX.out.row.at hs
      have c0 := HX.out.box.cell
      have he := HE.out s
      have HD := fun q => hidW (HX.out.drewN q)
      have HS := hidW hs
      clear HX hs
      cases hm : s.same b
      · rw [hm] at he
        have HF2 : Hid ((K.take (k + 1)).any (fun y => y.same b) = false) := hidW (by rw [any_take HS.out, HF.out, hm]; rfl)
        clear HF HS hm
        go_wp2
        go_quiet (fail)
        go_wp2
        go_roundw
        case rel => exact ⟨k + 1, by omega, by go_num, HF2, (HD _).out⟩
        case measure => simp [intOf]; omega
      · rw [hm] at he
        have HT := hidW (any_here HS.out hm)
        clear HF HS hm
        go_wp2
        go_quiet (fail)
        go_wp2
        go_ret
        exact ⟨by rw [HT.out]; rfl, (HD _).out.bel⟩
    · obtain rfl : k = n := by omega
      have HF2 : Hid (K.any (fun y => y.same b) = false) := hidW (by have := HF.out; rw [← HN.out, List.take_length] at this; exact this)
      clear HF
      go_wp2
      go_ret
      exact ⟨by rw [HF2.out]; rfl, HX.out.bel⟩
end Go.Proofs.YtbbnodhpafiplaaDoor
namespace Go.Proofs.YtbbnodhpafiplaaDoor
open Go.RowKit
set_option linter.unusedVariables false
set_option linter.unusedSimpArgs false
/-- Pieces of a code. -/
def sq2 : Code → Code
  | .seq _ y => y
  | c => c
def sq1 : Code → Code
  | .seq x _ => x
  | c => c
def blkC : Code → Code
  | .block _ c => c
  | c => c
def lpC : Code → Code
  | .loop c => c
  | c => c
def cnA : Code → Code
  | .cond _ a _ => a
  | c => c
def cnB : Code → Code
  | .cond _ _ b => b
  | c => c
/-- The bodies of the loops. -/
def inJ (f : Func) : Code := lpC (blkC (sq2 (sq1 (sq2 (blkC (sq1 (sq2 (lpC (blkC (sq2 (sq1 (sq2 (sq2 (sq2 (sq2 (sq2 (sq2 (sq2 (f.body.getD .skip)))))))))))))))))))
def inK (f : Func) : Code := lpC (blkC (sq2 (sq1 (sq2 (sq2 (sq2 (sq2 (sq2 (sq2 (sq2 (f.body.getD .skip)))))))))))
def inS (f : Func) : Code := lpC (blkC (sq2 (sq1 (sq2 (sq2 (sq2 (sq2 (sq2 (sq2 (sq2 (sq2 (f.body.getD .skip))))))))))))
theorem setCells_bl {t : TypeId} {b : Nat} : ∀ (cs : List Value) (o : Nat) (w : World) (l : List Value), Bl w b t l → l.length = o + cs.length → Bl (w.setCells b o cs) b t (l.take o ++ cs)
  | [], o, w, l, h, hl => by
    rw [List.take_of_length_le (by simp at hl; omega), List.append_nil]
    exact h
  | c :: cs, o, w, l, h, hl => by
    have h1 := setCells_bl cs (o + 1) _ _ (h.set o c) (by simp at hl ⊢; omega)
    rw [World.setCells]
    have h2 : (l.set o c).take (o + 1) = l.take o ++ [c] := by
      rw [List.take_add_one, List.take_set_of_le (Nat.le_refl _), List.getElem?_set_self (by simp at hl; omega)]
      rfl
    rw [h2, List.append_assoc] at h1
    exact h1
theorem setCells_turn (b : Nat) : ∀ (cs : List Value) (o : Nat) (w : World), Turn (· = b) w (w.setCells b o cs)
  | [], _, w => Turn.refl _ w
  | c :: cs, o, w => by
    rw [World.setCells]
    exact ((Turn.refl (· = b) w).setCell (p := ⟨b, o, none⟩) (.inl rfl) c).then (setCells_turn b cs (o + 1) _)
/-- A box of many cells. -/
theorem box_big (w : World) (t : TypeId) (zs cs : List Value) (hl : zs.length = cs.length) : Bl ((w.alloc (.cells zs.toArray t)).setCells w.heap.size 0 cs) w.heap.size t cs ∧ Below w.heap.size w ((w.alloc (.cells zs.toArray t)).setCells w.heap.size 0 cs) := by
  have h := setCells_bl cs 0 _ _ (Bl.new w t zs) (by omega)
  rw [List.take_zero, List.nil_append] at h
  exact ⟨h, ((Turn.below (S := (· = w.heap.size)) (below_new w _)).then (setCells_turn _ cs 0 _)).to (fun x hx => by rw [hx]; exact Nat.le_refl _) (Nat.le_refl _)⟩
theorem there_new (w : World) (t : TypeId) (zs : List Value) (n : Nat) (hn : n = zs.length) : (w.alloc (.cells zs.toArray t)).there w.heap.size 0 n := fun j hj => by
  have h := Bl.new w t zs
  rw [Nat.zero_add]
  refine ⟨?_, h.frozen j⟩
  rw [h.cell, List.getElem?_eq_getElem (by omega)]
  rfl
theorem ol_one (o : Opr) : ([.int .i64 o.kind, .int .i64 o.asid, .int .i64 o.pick, .int .i64 o.which, .int .u32 o.va, .bool o.fetch, .bool o.mfirst, .int .i64 o.b.asid, .int .i64 o.b.t.size, .int .u32 o.b.t.va, .int .u64 o.b.t.pa, .int .i64 o.b.t.dom, .int .i64 o.b.t.ap, .int .u32 o.b.t.bits, .bool o.b.t.ng, .bool o.b.t.xn, .int .i64 o.d.kind, .int .u32 o.d.va, .int .i64 o.d.asid] : List Value).toArray.all (·.oneCell') = true := all_oneCell_toArray (fun v hv => by simp at hv; rcases hv with rfl | rfl | rfl | rfl | rfl | rfl | rfl | rfl | rfl | rfl | rfl | rfl | rfl | rfl | rfl | rfl | rfl | rfl | rfl <;> rfl)
theorem byN_le (s : Int) : 0 ≤ byN s ∧ byN s ≤ 16777216 := by
  unfold byN
  repeat (split; exact ⟨by decide, by decide⟩)
  exact ⟨by decide, by decide⟩
set_option maxRecDepth 100000 in
set_option maxHeartbeats 4000000 in
theorem apart_any (a b : Blo) (W : World) (ht : TB W) (ha : BOk a) (hb : BOk b) : Calls Tryd.prog 10 #[.agg #[.int .i64 a.asid, .int .i64 a.t.size, .int .u32 a.t.va, .int .u64 a.t.pa, .int .i64 a.t.dom, .int .i64 a.t.ap, .int .u32 a.t.bits, .bool a.t.ng, .bool a.t.xn], .agg #[.int .i64 b.asid, .int .i64 b.t.size, .int .u32 b.t.va, .int .u64 b.t.pa, .int .i64 b.t.dom, .int .i64 b.t.ap, .int .u32 b.t.bits, .bool b.t.ng, .bool b.t.xn]] W fun e w' => e = .returned (.bool (apF a b)) ∧ Below W.heap.size W w' := by
  have HY : Hid (∀ w s, Below W.heap.size W w → Calls Tryd.prog 27 #[.int .i64 s] w fun r w' => r = .returned (.int .u64 (byN s)) ∧ w = w') := fun w s h => bytes_any _ _ (ht.below h)
  have HB : Hid (Below W.heap.size W ((W.alloc (.cells ([.int .i64 a.asid, .int .i64 a.t.size, .int .u32 a.t.va, .int .u64 a.t.pa, .int .i64 a.t.dom, .int .i64 a.t.ap, .int .u32 a.t.bits, .bool a.t.ng, .bool a.t.xn]).toArray 38)).alloc (.cells ([.int .i64 b.asid, .int .i64 b.t.size, .int .u32 b.t.va, .int .u64 b.t.pa, .int .i64 b.t.dom, .int .i64 b.t.ap, .int .u32 b.t.bits, .bool b.t.ng, .bool b.t.xn]).toArray 38))) := hidW (Below.step (below_new _ _) (below_new _ _))
  have h1 := ha.va
  have h2 := hb.va
  have q1 : 0 ≤ byN a.t.size ∧ byN a.t.size ≤ 16777216 := byN_le _
  have q2 : 0 ≤ byN b.t.size ∧ byN b.t.size ≤ 16777216 := byN_le _
  have w1 : IntKind.u64.wrap a.t.va = a.t.va := by rw [IntKind.wrap_u64]; omega
  have w2 : IntKind.u64.wrap b.t.va = b.t.va := by rw [IntKind.wrap_u64]; omega
  have w3 : IntKind.u64.wrap (a.t.va + byN a.t.size) = a.t.va + byN a.t.size := by rw [IntKind.wrap_u64]; omega
  have w4 : IntKind.u64.wrap (b.t.va + byN b.t.size) = b.t.va + byN b.t.size := by rw [IntKind.wrap_u64]; omega
  unfold apF
  clear ha hb ht q1 q2
  generalize hn1 : byN a.t.size = n1 at *
  generalize hn2 : byN b.t.size = n2 at *
  obtain ⟨a0, a1, a2, a3, a4, a5, a6, a7, a8⟩ := a
  obtain ⟨b0, b1, b2, b3, b4, b5, b6, b7, b8⟩ := b
  dsimp only at *
  have HY1 := hidW (fun w h => HY.out w a1 h)
  have HY2 := hidW (fun w h => HY.out w b1 h)
  rw [hn1] at HY1
  rw [hn2] at HY2
  clear HY hn1 hn2
  by_cases c1 : a2 + n1 ≤ b2
  · have q : decide (a2 + n1 ≤ b2) = true := decide_eq_true c1
    go_enter Tryd.func10, Tryd.ntmps10
    go_wp2_with (fail)
    go_at_call 27
    refine (HY1.out _ HB.out).mono ?_
    rintro e w' ⟨rfl, rfl⟩
    go_wp2
    go_ret
    exact ⟨by simp [c1], HB.out⟩
  · have q : decide (a2 + n1 ≤ b2) = false := decide_eq_false c1
    go_enter Tryd.func10, Tryd.ntmps10
    go_wp2_with (fail)
    go_at_call 27
    refine (HY1.out _ HB.out).mono ?_
    rintro e w' ⟨rfl, rfl⟩
    go_wp2_with (fail)
    go_at_call 27
    refine (HY2.out _ HB.out).mono ?_
    rintro e w' ⟨rfl, rfl⟩
    go_wp2
    go_ret
    exact ⟨by simp [c1]; omega, HB.out⟩
/-- Two of them, and what is kept, all one's own. -/
structure QX (W wr : World) (A B : Ad) (X Y : Hi) (K : List Blo) (v : Value) : Prop where
  bel : Below W.heap.size W wr
  pa : PH 73 95 [] wr A X
  pb : PH 73 95 [] wr B Y
  dis : ∀ x, A.S x → ¬ B.S x
  na : ∀ x, A.S x → W.heap.size ≤ x
  nb : ∀ x, B.S x → W.heap.size ≤ x
  own : Ob wr W.heap.size v K
  kok : ∀ b ∈ K, BOk b
section
variable {W wr w' : World} {A B : Ad} {X Y Z : Hi} {K : List Blo} {v v' : Value}
theorem QX.step (h : QX W wr A B X Y K v) (hb : Below wr.heap.size wr w') : QX W w' A B X Y K v := ⟨Below.step h.bel hb, h.pa.below hb, h.pb.below hb, h.dis, h.na, h.nb, h.own.below hb, h.kok⟩
theorem QX.drew (h : QX W wr A B X Y K v) : QX W wr.drew A B X Y K v := h.step (below_drew (Below.refl _ _))
theorem QX.turnA (h : QX W wr A B X Y K v) (hp : PH 73 95 [] w' A Z) (hT : Turn A.S wr w') : QX W w' A B Z Y K v :=
  ⟨((Turn.below (S := A.S) h.bel).then hT).to (fun x hx => h.na x hx) (Nat.le_refl _), hp, h.pb.turn hT (fun x hx => h.dis x hx) h.pa.row, h.dis, h.na, h.nb, h.own.turn hT (fun x hx hs => by obtain ⟨_, _, c, hc⟩ := h.own.block hx; obtain ⟨c2, hc2⟩ := h.pa.row _ hs; exact hc.ne hc2 (by decide) rfl), h.kok⟩
theorem QX.turnB (h : QX W wr A B X Y K v) (hp : PH 73 95 [] w' B Z) (hT : Turn B.S wr w') : QX W w' A B X Z K v :=
  ⟨((Turn.below (S := B.S) h.bel).then hT).to (fun x hx => h.nb x hx) (Nat.le_refl _), h.pa.turn hT (fun x hx ha => h.dis x ha hx) h.pb.row, hp, h.dis, h.na, h.nb, h.own.turn hT (fun x hx hs => by obtain ⟨_, _, c, hc⟩ := h.own.block hx; obtain ⟨c2, hc2⟩ := h.pb.row _ hs; exact hc.ne hc2 (by decide) rfl), h.kok⟩
theorem PH.own {w w' : World} {A : Ad} {X : Hi} {lo : Nat} {v : Value} {K : List Blo} (h : PH 73 95 [] w A X) (ho : Ob w lo v K) (hT : Turn (fun x => v.ownBlock = some x) w w') : PH 73 95 [] w' A X := by
  have f : ∀ {p : Nat} {t : TypeId} {c : List Value}, Bl w p t c → t ≠ 38 → ¬ v.ownBlock = some p := fun hq ht hs => by
    obtain ⟨_, _, c, hc⟩ := ho.block hs
    exact hq.ne hc ht rfl
  exact ⟨h.box.turn hT (f h.box (by decide)), h.ti.turn hT (f h.ti.box (by decide)) (f h.ti.row (by decide)), h.td.turn hT (f h.td.box (by decide)) (f h.td.row (by decide)), h.tm.turn hT (f h.tm.box (by decide)) (f h.tm.row (by decide)), h.n1, h.n2, h.n3, h.ne⟩
theorem QX.app (h : QX W wr A B X Y K v) {b : Blo} (ho : Ob w' W.heap.size v' (K ++ [b])) (hT : Turn (fun x => v.ownBlock = some x) wr w') (hb : BOk b) : QX W w' A B X Y (K ++ [b]) v' := by
  refine ⟨((Turn.below (S := fun x => v.ownBlock = some x) h.bel).then hT).to (fun x hx => (h.own.block hx).1) (Nat.le_refl _), h.pa.own h.own hT, h.pb.own h.own hT, h.dis, h.na, h.nb, ho, fun x hx => ?_⟩
  rcases List.mem_append.1 hx with h1 | h1
  · exact h.kok x h1
  · rw [List.mem_singleton.1 h1]; exact hb
theorem QX.among {a : Option Addr} {cp : Nat} (h : QX W wr A B X Y K (.slice a K.length cp)) (hl : K.length ≤ 4611686018427387904) {b : Blo} (hb : b ∈ K) : Calls Tryd.prog 13 #[.slice a K.length cp, .agg #[.int .i64 b.asid, .int .i64 b.t.size, .int .u32 b.t.va, .int .u64 b.t.pa, .int .i64 b.t.dom, .int .i64 b.t.ap, .int .u32 b.t.bits, .bool b.t.ng, .bool b.t.xn]] wr fun e w' => e = .returned (.bool true) ∧ Below wr.heap.size wr w' := by
  obtain ⟨a2, cp2, hv, hr⟩ := h.own.rb
  injection hv with h1 _ h3
  subst h1 h3
  have := among_any wr a cp K b hr hl
  rw [any_mem hb] at this
  exact this
theorem QX.rb {a : Option Addr} {cp : Nat} (h : QX W wr A B X Y K (.slice a K.length cp)) : RB wr a K := by
  obtain ⟨a2, cp2, hv, hr⟩ := h.own.rb
  injection hv with h1 _ h3
  subst h1 h3
  exact hr
end
end Go.Proofs.YtbbnodhpafiplaaDoor
