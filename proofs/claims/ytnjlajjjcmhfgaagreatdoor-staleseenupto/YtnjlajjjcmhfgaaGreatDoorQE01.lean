import Derived.Test.YtnjlajjjcmhfgaaGreatDoorQA42
import Derived.Test.YtnjlajjjcmhfgaaGreatDoorQE00
namespace Go.Proofs.YtnjlajjjcmhfgaaGreatDoor
open Go.RowKit
open Mm (Turn gr RM valV errV Byts setV RowAt)
set_option linter.unusedVariables false
set_option linter.unusedSimpArgs false
/-! ### a TLB of known blocks, plain -/
/-- Each place has a known block, no two the same one. -/
structure Srv (K : List Blo) (L : List Slo) : Prop where
  kn : ∀ s ∈ L, s.full = true → s.b ∈ K
  un : L.Pairwise fun a b => a.full = true → a ≠ b
theorem Srv.zeros (K : List Blo) (n : Nat) : Srv K (List.replicate n sZ) := by
  refine ⟨fun s hs h => ?_, ?_⟩
  · rw [(List.mem_replicate.1 hs).2] at h; cases h
  · refine List.pairwise_iff_getElem.2 (fun i j hi hj _ h => ?_)
    rw [List.getElem_replicate] at h; cases h
theorem Srv.set {K : List Blo} {L : List Slo} (h : Srv K L) (i : Nat) {x : Slo} (hx : x.full = true → x.b ∈ K ∧ x ∉ L) : Srv K (L.set i x) := by
  refine ⟨fun s hs hf => ?_, ?_⟩
  · rcases List.mem_or_eq_of_mem_set hs with h1 | h1
    · exact h.kn s h1 hf
    · subst h1; exact (hx hf).1
  · refine List.pairwise_iff_getElem.2 (fun j k hj hk hjk hf => ?_)
    have q := List.pairwise_iff_getElem.1 h.un j k (by simpa using hj) (by simpa using hk) hjk
    have mj : L[j]'(by simpa using hj) ∈ L := List.getElem_mem _
    have mk : L[k]'(by simpa using hk) ∈ L := List.getElem_mem _
    rw [List.getElem_set] at hf
    rw [List.getElem_set, List.getElem_set]
    by_cases e1 : i = j
    · rw [if_pos e1] at hf ⊢
      rw [if_neg (by omega)]
      intro e
      rw [e] at hx hf
      exact (hx hf).2 mk
    · rw [if_neg e1] at hf ⊢
      by_cases e2 : i = k
      · rw [if_pos e2]
        intro e
        rw [← e] at hx
        exact (hx hf).2 mj
      · rw [if_neg e2]
        exact q hf
theorem ixF_none {L : List Slo} {s : Slo} (h : ixF L s = none) : s ∉ L := by
  intro hm
  unfold ixF at h
  rw [List.findIdx?_eq_none_iff] at h
  have := h s hm
  rw [Slo.same_self] at this
  cases this
theorem Srv.put {K : List Blo} {L : List Slo} (h : Srv K L) {b : Blo} (hb : b ∈ K) (pick : Int) : Srv K (puF L b pick).2 := by
  unfold puF
  split
  · split
    · exact h
    · rename_i hn
      split
      · exact h.set _ (fun _ => ⟨hb, ixF_none hn⟩)
      · exact h.set _ (fun _ => ⟨hb, ixF_none hn⟩)
  · exact h
theorem puF_err {L : List Slo} {b : Blo} (hb : bR b = true) (pick : Int) : (puF L b pick).1.2 = 0 := by
  unfold puF
  rw [if_pos hb]
  split
  · rfl
  · split <;> rfl
theorem Srv.evict {K : List Blo} {L : List Slo} (h : Srv K L) (i : Int) : Srv K (evF L i).2 := by
  unfold evF
  split
  · exact h.set _ (fun hf => by cases hf)
  · exact h
theorem lk_gen (va asid : Int) : ∀ (L : List Slo) (r : Blo × Nat), (L.foldl (lkS va asid) r).2 = r.2 + L.countP (fun s => s.full && ovF s.b va asid) ∧ (0 < L.countP (fun s => s.full && ovF s.b va asid) → ∃ s ∈ L, (s.full && ovF s.b va asid) = true ∧ (L.foldl (lkS va asid) r).1 = s.b) ∧ (L.countP (fun s => s.full && ovF s.b va asid) = 0 → (L.foldl (lkS va asid) r).1 = r.1)
  | [], r => ⟨by simp, fun h => by simp at h, fun _ => rfl⟩
  | s :: L, r => by
    obtain ⟨h1, h2, h3⟩ := lk_gen va asid L (lkS va asid r s)
    rw [List.foldl_cons, List.countP_cons]
    cases hm : (s.full && ovF s.b va asid) with
    | false =>
      have e : lkS va asid r s = r := by unfold lkS; rw [hm]; rfl
      rw [e] at h1 h2 h3 ⊢
      simp only [Bool.false_eq_true, if_false, Nat.add_zero]
      refine ⟨h1, fun h => ?_, h3⟩
      obtain ⟨x, hx, h4, h5⟩ := h2 h
      exact ⟨x, .tail _ hx, h4, h5⟩
    | true =>
      have e : lkS va asid r s = (s.b, r.2 + 1) := by unfold lkS; rw [hm]; rfl
      rw [e] at h1 h2 h3 ⊢
      simp only [if_true]
      dsimp only at h1 h3
      refine ⟨by omega, fun _ => ?_, fun h => by omega⟩
      by_cases h0 : 0 < L.countP (fun s => s.full && ovF s.b va asid)
      · obtain ⟨x, hx, h4, h5⟩ := h2 h0
        exact ⟨x, .tail _ hx, h4, h5⟩
      · exact ⟨s, .head _, hm, h3 (by omega)⟩
theorem one_len {α : Type} {l : List α} (hd : l.Nodup) (h : ∀ a ∈ l, ∀ b ∈ l, a = b) : l.length ≤ 1 := by
  match l, hd, h with
  | [], _, _ => simp
  | [_], _, _ => simp
  | a :: b :: l, hd, h =>
    have := (List.pairwise_cons.1 hd).1 b (.head _)
    exact absurd (h a (.head _) b (.tail _ (.head _))) this
theorem Srv.look {K : List Blo} {J : Jud} {M : Mo} {L : List Slo} (h : Srv K L) (hK : ∀ b ∈ K, KOk b) (hM : M.Ok) {asid va : Int} {c : Ctx} (hc : c.Ok) (hj : J asid = some c) (hv : 0 ≤ va ∧ va < 4294967296) (hs : stF M K J asid va = false) :
    (lkF L va asid).2 ≤ 1 ∧ ((lkF L va asid).2 = 1 → wk M c va = ((lkF L va asid).1.t, fZ)) := by
  rw [stF_some hj] at hs
  have h0 : ∀ b ∈ K, ovF b va asid = true → b.t = (wk M c va).1 := by
    intro b hb ho
    have := List.any_eq_false.1 hs b hb
    unfold stB at this
    rw [ho, Bool.and_true] at this
    simpa [Tra.same_iff] using this
  obtain ⟨g1, g2, _⟩ := lk_gen va asid L (bZ, 0)
  have hm : ∀ s ∈ L, (s.full && ovF s.b va asid) = true → s.full = true ∧ KOk s.b ∧ s.b.t = (wk M c va).1 ∧ hoF s.b asid = true := by
    intro s hs' hf
    rw [Bool.and_eq_true] at hf
    have hk := h.kn s hs' hf.1
    refine ⟨hf.1, hK _ hk, h0 _ hk hf.2, ?_⟩
    have := hf.2
    unfold ovF maF at this
    simp only [Bool.and_eq_true] at this
    exact this.2.2
  have heq : ∀ a ∈ L.filter (fun s => s.full && ovF s.b va asid), ∀ b ∈ L.filter (fun s => s.full && ovF s.b va asid), a = b := by
    intro a ha b hb
    obtain ⟨a1, a2⟩ := List.mem_filter.1 ha
    obtain ⟨b1, b2⟩ := List.mem_filter.1 hb
    obtain ⟨f1, k1, t1, o1⟩ := hm a a1 a2
    obtain ⟨f2, k2, t2, o2⟩ := hm b b1 b2
    have p1 := k1.own
    have p2 := k2.own
    obtain ⟨fa, aa, ta⟩ := a
    obtain ⟨fb, ab, tb⟩ := b
    dsimp only at *
    subst f1 f2
    have et : ta = tb := t1.trans t2.symm
    subst et
    unfold hoF at o1 o2
    simp only [Bool.or_eq_true, beq_iff_eq] at o1 o2
    have ea : aa = ab := by
      rcases p1 with ⟨n1, q1⟩ | ⟨n1, q1⟩ <;> rcases p2 with ⟨n2, q2⟩ | ⟨n2, q2⟩
      · omega
      · rw [n1] at n2; cases n2
      · rw [n1] at n2; cases n2
      · omega
    rw [ea]
  have hnd : (L.filter (fun s => s.full && ovF s.b va asid)).Nodup := by
    refine List.Pairwise.imp_of_mem ?_ (List.Pairwise.filter _ h.un)
    intro a b ha hb hr
    have := (List.mem_filter.1 ha).2
    rw [Bool.and_eq_true] at this
    exact hr this.1
  have hle := one_len hnd heq
  rw [← List.countP_eq_length_filter] at hle
  have hP : (lkP L va asid).2 = L.countP (fun s => s.full && ovF s.b va asid) := by
    unfold lkP; rw [g1]; simp
  unfold lkF
  by_cases h1 : (lkP L va asid).2 = 1
  · rw [if_pos h1]
    refine ⟨by omega, fun _ => ?_⟩
    obtain ⟨s, hs', hf, e⟩ := g2 (by omega)
    obtain ⟨f1, k1, t1, o1⟩ := hm s hs' hf
    have e' : (lkP L va asid).1 = s.b := e
    rw [e']
    exact same_found hM hc hv k1.ri ((Tra.same_iff _ _).2 t1.symm)
  · rw [if_neg h1]
    exact ⟨by dsimp only; omega, fun h => absurd h h1⟩
/-- The number of places. -/
theorem places_rng (p : Int) (hp : -9223372036854775808 ≤ p ∧ p ≤ 9223372036854775807) : -15 ≤ p.tmod 16 ∧ p.tmod 16 ≤ 15 := by
  rcases Int.le_total 0 p with h | h
  · rw [Int.tmod_eq_emod_of_nonneg h]; omega
  · have : p.tmod 16 = -((-p) % 16) := by
      rw [← Int.tmod_eq_emod_of_nonneg (by omega : (0 : Int) ≤ -p), Int.neg_tmod, Int.neg_neg]
    omega
end Go.Proofs.YtnjlajjjcmhfgaaGreatDoor
