import Derived.Test.YtmodcbdgnmjkoabDoorEb
import Derived.Test.YtmodcbdgnmjkoabDoorGz
namespace Go.Proofs.YtmodcbdgnmjkoabDoor
open Go.RowKit
open Mm (Turn gr PM valV errV Byts setV wrs byt num)
set_option linter.unusedVariables false
set_option linter.unusedSimpArgs false
theorem sb_D1 {x : Int} (h : 0 ≤ x ∧ x < 4294967296) (hk : (D1 x).kind = 2 ∨ (D1 x).kind = 3) : sb (D1 x) = true := by
  unfold sb
  rw [if_pos hk, Ent.same_iff]
  exact DED1 x h
theorem sb_D2 {x : Int} (h : 0 ≤ x ∧ x < 4294967296) (hk : (D2 x).kind = 4 ∨ (D2 x).kind = 5) : sb (D2 x) = true := by
  unfold sb
  rw [if_neg (by omega), if_pos hk, Ent.same_iff]
  exact DED2 x h
/-- What a walk that finds a block finds. -/
structure Fnd (U : Tra) (va : Int) : Prop where
  sz : U.size = 1 ∨ U.size = 2 ∨ U.size = 3 ∨ U.size = 4
  va : U.va = va / byN U.size * byN U.size
  pa : 0 ≤ U.pa ∧ U.pa < 1099511627776
  bt : 0 ≤ U.bits ∧ U.bits < 4294967296
  rr : RR U
theorem Fnd.rng {U : Tra} {va : Int} (h : Fnd U va) (hv : 0 ≤ va ∧ va < 4294967296) : 0 ≤ U.va ∧ U.va ≤ va ∧ U.va ≤ va / 4096 * 4096 ∧ va - U.va < byN U.size := by
  have h2 := h.va
  rcases h.sz with h1 | h1 | h1 | h1 <;> simp only [h1, byN] at h2 ⊢ <;> simp at h2 ⊢ <;> omega
theorem Fnd.right {U : Tra} {va : Int} (h : Fnd U va) : riF U = true :=
  (ri_iff U ⟨⟨h.pa.1, by have := h.pa.2; show U.pa < _; omega⟩, h.bt⟩ (by have := h.sz; omega)).2 h.rr
theorem Fnd.ft {U : Tra} {va : Int} (h : Fnd U va) (hv : 0 ≤ va ∧ va < 4294967296) : Ft U := ⟨⟨(h.rng hv).1, by have := (h.rng hv).2.1; omega⟩, ⟨h.pa.1, by have := h.pa.2; omega⟩, h.bt⟩
theorem tr_D1 {x : Int} (h : 0 ≤ x ∧ x < 4294967296) (hk : (D1 x).kind = 2 ∨ (D1 x).kind = 3) (d va : Int) (hv : 0 ≤ va ∧ va < 4294967296) :
    trF (D1 x) d va = ⟨szK (D1 x).kind, va / byN (szK (D1 x).kind) * byN (szK (D1 x).kind), (D1 x).base, (D1 x).dom, (D1 x).ap, (D1 x).bits, (D1 x).ng, (D1 x).xn⟩ ∧ Fnd (trF (D1 x) d va) va ∧ 3 ≤ (trF (D1 x) d va).size := by
  obtain ⟨ho, hs⟩ := ok_D1 x h
  have hd : domOf (D1 x) d = (D1 x).dom := if_pos hk
  have hdr : 0 ≤ (D1 x).dom ∧ (D1 x).dom ≤ 15 := by
    rcases hs with h1 | ⟨h1, h2⟩ | ⟨h1, h2, h3, h4⟩ | ⟨h1, h2, h3, h4⟩
    · rw [h1] at hk; rcases hk with hk | hk <;> cases hk
    · omega
    · exact h3
    · omega
  have e : trF (D1 x) d va = ⟨szK (D1 x).kind, va / byN (szK (D1 x).kind) * byN (szK (D1 x).kind), (D1 x).base, (D1 x).dom, (D1 x).ap, (D1 x).bits, (D1 x).ng, (D1 x).xn⟩ := by
    unfold trF
    rw [hd, if_pos ⟨sb_D1 h hk, hdr⟩]
  refine ⟨e, ?_⟩
  rw [e]
  rcases hs with h1 | ⟨h1, h2⟩ | ⟨h1, h2, h3, h4⟩ | ⟨h1, h2, h3, h4⟩
  · rw [h1] at hk; rcases hk with hk | hk <;> cases hk
  · omega
  · rw [h1]
    obtain ⟨⟨b1, b2⟩, b3⟩ := ho
    refine ⟨⟨.inr (.inr (.inl rfl)), rfl, ⟨b1, by show (D1 x).base < _; omega⟩, b3, ?_⟩, by show (3 : Int) ≤ 3; omega⟩
    refine ⟨?_, h4, h3, h2.1, ?_⟩
    · show va / 1048576 * 1048576 % 1048576 = 0
      omega
    · rw [if_neg (by show ¬ (3 : Int) = 4; decide)]
      exact h2.2
  · rw [h1]
    obtain ⟨⟨b1, b2⟩, b3⟩ := ho
    refine ⟨⟨.inr (.inr (.inr rfl)), rfl, ⟨b1, h2.2⟩, b3, ?_⟩, by show (3 : Int) ≤ 4; omega⟩
    refine ⟨?_, h4, by show 0 ≤ (D1 x).dom ∧ _; omega, h2.1, ?_⟩
    · show va / 16777216 * 16777216 % 16777216 = 0
      omega
    · rw [if_pos (by show (4 : Int) = 4; rfl)]
      exact ⟨h2.2, h3⟩
theorem tr_D2 {x : Int} (h : 0 ≤ x ∧ x < 4294967296) (hk : (D2 x).kind = 4 ∨ (D2 x).kind = 5) (d va : Int) (hd0 : 0 ≤ d ∧ d ≤ 15) (hv : 0 ≤ va ∧ va < 4294967296) :
    trF (D2 x) d va = ⟨szK (D2 x).kind, va / byN (szK (D2 x).kind) * byN (szK (D2 x).kind), (D2 x).base, d, (D2 x).ap, (D2 x).bits, (D2 x).ng, (D2 x).xn⟩ ∧ Fnd (trF (D2 x) d va) va ∧ (trF (D2 x) d va).size < 3 := by
  obtain ⟨ho, hs⟩ := ok_D2 x h
  have hd : domOf (D2 x) d = d := if_neg (by omega)
  have e : trF (D2 x) d va = ⟨szK (D2 x).kind, va / byN (szK (D2 x).kind) * byN (szK (D2 x).kind), (D2 x).base, d, (D2 x).ap, (D2 x).bits, (D2 x).ng, (D2 x).xn⟩ := by
    unfold trF
    rw [hd, if_pos ⟨sb_D2 h hk, hd0⟩]
  refine ⟨e, ?_⟩
  rw [e]
  rcases hs with h1 | ⟨h1, h2, h3, h5, h4⟩ | ⟨h1, h2, h3, h5, h4⟩
  · rw [h1] at hk; rcases hk with hk | hk <;> cases hk
  · rw [h1]
    obtain ⟨⟨b1, b2⟩, b3⟩ := ho
    refine ⟨⟨.inr (.inl rfl), rfl, ⟨b1, by show (D2 x).base < _; omega⟩, b3, ?_⟩, by show (2 : Int) < 3; omega⟩
    refine ⟨?_, h4, hd0, h2.1, ?_⟩
    · show va / 65536 * 65536 % 65536 = 0
      omega
    · rw [if_neg (by show ¬ (2 : Int) = 4; decide)]
      exact h2.2
  · rw [h1]
    obtain ⟨⟨b1, b2⟩, b3⟩ := ho
    refine ⟨⟨.inl rfl, rfl, ⟨b1, by show (D2 x).base < _; omega⟩, b3, ?_⟩, by show (1 : Int) < 3; omega⟩
    refine ⟨?_, h4, hd0, h2.1, ?_⟩
    · show va / 4096 * 4096 % 4096 = 0
      omega
    · rw [if_neg (by show ¬ (1 : Int) = 4; decide)]
      exact h2.2
theorem it_fnd (va : Int) (hv : 0 ≤ va ∧ va < 4294967296) : Fnd (itF va) va := by
  refine ⟨.inl rfl, rfl, ⟨by show 0 ≤ va / 4096 * 4096; omega, by show va / 4096 * 4096 < _; omega⟩, ⟨by show (0 : Int) ≤ 0; omega, by show (0 : Int) < _; omega⟩, ?_⟩
  refine ⟨?_, ⟨?_, ?_, ?_⟩, ⟨?_, ?_⟩, ?_, ?_⟩
  · show va / 4096 * 4096 % 4096 = 0; omega
  · show (0 : Int) ≤ 3; omega
  · show (3 : Int) ≤ 7; omega
  · show (0 : Int) ≤ 63; omega
  · show (0 : Int) ≤ 0; omega
  · show (0 : Int) ≤ 15; omega
  · show va / 4096 * 4096 % 4096 = 0; omega
  · rw [if_neg (by show ¬ (1 : Int) = 4; decide)]
    show va / 4096 * 4096 < _; omega
theorem missed {M : Mo} {c : Ctx} {va : Int} {U : Tra} {F : Fa} (h : wk M c va = (U, F)) (hk : F.k ≠ 0) : U = tZ ∧ c.on = true := by
  unfold wk at h
  split at h
  · rename_i hon
    refine ⟨?_, hon⟩
    split at h
    · split at h
      · unfold w2 at h
        split at h
        · split at h
          · exact (Prod.mk.inj h).1.symm
          · exact absurd (by rw [← (Prod.mk.inj h).2]; rfl) hk
        · exact (Prod.mk.inj h).1.symm
      · exact absurd (by rw [← (Prod.mk.inj h).2]; rfl) hk
    · exact (Prod.mk.inj h).1.symm
  · exact absurd (by rw [← (Prod.mk.inj h).2]; rfl) hk
theorem found {M : Mo} {c : Ctx} {va : Int} {U : Tra} {F : Fa} (hM : M.Ok) (hc : c.Ok) (hv : 0 ≤ va ∧ va < 4294967296) (h : wk M c va = (U, F)) (hk : F.k = 0) :
    F = fZ ∧ Fnd U va ∧ ((c.on = false ∧ U = itF va ∧ rdL M c va = []) ∨
      (c.on = true ∧ rdL M c va = [fA c va] ∧ M.er (fA c va) = 0 ∧ trF (D1 (M.wd (fA c va))) U.dom va = U ∧ 3 ≤ U.size) ∨
      (c.on = true ∧ ∃ s, rdL M c va = [fA c va, s] ∧ (0 ≤ s ∧ s < 4294967296) ∧ M.er s = 0 ∧ trF (D2 (M.wd s)) U.dom va = U ∧ U.size < 3)) := by
  unfold wk at h
  split at h
  · rename_i hon
    split at h
    · rename_i h1
      obtain ⟨hO, he, hw, hz⟩ := w1_kind h1
      have hx := hM (fA c va)
      split at h
      · rename_i h2
        have hr : rdL M c va = [fA c va, sA (w1 M c va).1 va] := by
          unfold rdL
          rw [if_pos hon, if_pos ⟨h1, h2⟩]
          simp [r1, hO]
        rw [hw] at h h2 hr
        dsimp only at h h2 hr
        have hs := sA_rng hx h2 hv.1
        have hdm := D1_base _ hx h2
        generalize D1 (M.wd (fA c va)) = x at *
        unfold w2 at h
        split at h
        · rename_i h3
          split at h
          · exfalso
            rw [← (Prod.mk.inj h).2] at hk
            cases hk
          · rename_i h4
            have hy := hM (sA x va)
            have hk2 : (D2 (M.wd (sA x va))).kind = 4 ∨ (D2 (M.wd (sA x va))).kind = 5 := by
              have := D2_kind (M.wd (sA x va)); omega
            obtain ⟨hU, hF⟩ := Prod.mk.inj h
            obtain ⟨e1, e2, e3⟩ := tr_D2 hy hk2 x.dom va hdm.2.2.2 hv
            have hdd : U.dom = x.dom := by rw [← hU, e1]
            refine ⟨hF.symm, by rw [← hU]; exact e2, .inr (.inr ⟨hon, sA x va, hr, ⟨hs.1, hs.2.1⟩, h3, by rw [hdd]; exact hU, by rw [← hU]; exact e3⟩)⟩
        · exfalso
          rw [← (Prod.mk.inj h).2] at hk
          cases hk
      · rename_i h2
        have hr : rdL M c va = [fA c va] := by
          unfold rdL
          rw [if_pos hon, if_neg (fun g => h2 g.2)]
          simp [r1, hO]
        rw [hw] at h h2
        dsimp only at h h2
        have hk1 : (D1 (M.wd (fA c va))).kind = 2 ∨ (D1 (M.wd (fA c va))).kind = 3 := by
          have := D1_kind (M.wd (fA c va)); omega
        obtain ⟨hU, hF⟩ := Prod.mk.inj h
        obtain ⟨e1, e2, e3⟩ := tr_D1 hx hk1 0 va hv
        obtain ⟨g1, _, _⟩ := tr_D1 hx hk1 U.dom va hv
        refine ⟨hF.symm, by rw [← hU]; exact e2, .inr (.inl ⟨hon, hr, he, ?_, by rw [← hU]; exact e3⟩)⟩
        rw [g1, ← e1]; exact hU
    · rename_i h1
      exfalso
      rw [← (Prod.mk.inj h).2] at hk
      exact h1 hk
  · rename_i hon
    obtain ⟨hU, hF⟩ := Prod.mk.inj h
    have hon' : c.on = false := by simpa using hon
    refine ⟨hF.symm, by rw [← hU]; exact it_fnd va hv, .inl ⟨hon', hU.symm, ?_⟩⟩
    unfold rdL
    rw [if_neg hon]
/-- Addresses of one page have one walk. -/
theorem lw_page {c : Ctx} {va vb : Int} (h : va / 1048576 = vb / 1048576) : lw c va = lw c vb := by
  have hn := nN_lt c
  unfold lw
  have e : (2 : Int) ^ (32 - nN c) = 1048576 * 2 ^ (12 - nN c) := by
    rw [show 32 - nN c = 20 + (12 - nN c) by omega, Int.pow_add]; rfl
  rw [e, ← Int.ediv_ediv_of_nonneg (by omega), ← Int.ediv_ediv_of_nonneg (by omega), h]
theorem w1_sec {M : Mo} {c : Ctx} {va vb : Int} (h : va / 1048576 = vb / 1048576) : w1 M c va = w1 M c vb ∧ fA c va = fA c vb ∧ fO c va = fO c vb := by
  have e1 : fA c va = fA c vb := by unfold fA; rw [lw_page h, h]
  have e2 : fO c va = fO c vb := by unfold fO; rw [lw_page h]
  exact ⟨by unfold w1; rw [e1, e2], e1, e2⟩
theorem tr_page {e : Ent} {d va vb : Int} (h : va / 4096 = vb / 4096) : trF e d va = trF e d vb := by
  have hb : ∀ k, va / byN (szK k) * byN (szK k) = vb / byN (szK k) * byN (szK k) := by
    intro k
    unfold szK byN
    by_cases k2 : k = 2
    · simp [k2]; omega
    · by_cases k3 : k = 3
      · simp [k3]; omega
      · by_cases k4 : k = 4
        · simp [k4]; omega
        · by_cases k5 : k = 5
          · simp [k5]; omega
          · simp [k2, k3, k4, k5]
  unfold trF
  rw [hb]
theorem wk_page {M : Mo} {c : Ctx} {va vb : Int} (h : va / 4096 = vb / 4096) : wk M c va = wk M c vb := by
  obtain ⟨e1, e2, e3⟩ := w1_sec (M := M) (c := c) (va := va) (vb := vb) (by omega)
  have e4 : ∀ x, w2 M x va = w2 M x vb := by
    intro x
    unfold w2 sA
    rw [h, tr_page h]
  unfold wk itF
  rw [e1, e4, tr_page h, h]
/-- All addresses of a section have that walk. -/
theorem wk_sec {M : Mo} {c : Ctx} {va vb : Int} {U : Tra} {F : Fa} (hM : M.Ok) (hc : c.Ok) (hv : 0 ≤ va ∧ va < 4294967296) (hw : wk M c va = (U, F)) (hk : F.k = 0) (h3 : U.size = 3) (h : va / 1048576 = vb / 1048576) : wk M c vb = (U, F) := by
  obtain ⟨e1, e2, e3⟩ := w1_sec (M := M) (c := c) (va := va) (vb := vb) h
  obtain ⟨hF, hf, hh⟩ := found hM hc hv hw hk
  rcases hh with ⟨_, hU, _⟩ | ⟨hon, hr, he, hu, hs⟩ | ⟨_, s, _, _, _, _, hs⟩
  · rw [hU] at h3; cases h3
  · unfold wk at hw ⊢
    rw [if_pos hon] at hw ⊢
    rw [← e1]
    split at hw
    · rename_i h1
      rw [if_pos h1]
      split at hw
      · rename_i h2
        exfalso
        have : rdL M c va = r1 c va ++ [sA (w1 M c va).1 va] := by unfold rdL; rw [if_pos hon, if_pos ⟨h1, h2⟩]
        rw [hr] at this
        have hl := congrArg List.length this
        obtain ⟨hO, _⟩ := w1_kind h1
        simp [r1, hO] at hl
      · rename_i h2
        rw [if_neg h2, ← hw]
        obtain ⟨hO, he', hww, hz⟩ := w1_kind h1
        rw [hww] at h2 hw ⊢
        dsimp only at h2 hw ⊢
        have hx := hM (fA c va)
        have hk1 : (D1 (M.wd (fA c va))).kind = 2 ∨ (D1 (M.wd (fA c va))).kind = 3 := by
          have := D1_kind (M.wd (fA c va)); omega
        have hk2 : (D1 (M.wd (fA c va))).kind = 2 := by
          rcases id hk1 with h' | h'
          · exact h'
          · exfalso
            have hU := (Prod.mk.inj hw).1
            rw [(tr_D1 hx hk1 0 va hv).1, h'] at hU
            rw [← hU] at h3
            cases h3
        congr 1
        unfold trF
        rw [hk2]
        show (if _ then (⟨3, vb / 1048576 * 1048576, _, _, _, _, _, _⟩ : Tra) else tZ) = (if _ then (⟨3, va / 1048576 * 1048576, _, _, _, _, _, _⟩ : Tra) else tZ)
        rw [h]
    · rename_i h1
      exfalso
      rw [← (Prod.mk.inj hw).2] at hk
      exact h1 hk
  · omega
/-- The context in which everything is open. -/
def opn (c : Ctx) : Ctx := ⟨c.on, c.tre, false, c.n, c.pd0, c.pd1, c.b0, c.b1, 4294967295, c.prrr, c.nmrr, c.asid⟩
theorem opn_ok {c : Ctx} (h : c.Ok) : (opn c).Ok := ⟨h.n, h.b0, h.b1, by show (0 : Int) ≤ 4294967295; omega, by show (4294967295 : Int) < _; omega⟩
theorem wk_opn (M : Mo) (c : Ctx) (va : Int) : wk M (opn c) va = wk M c va := rfl
theorem ch_opn {U : Tra} {va : Int} (h : Fnd U va) (c : Ctx) (priv : Bool) (k : Int) : chF U (opn c) priv k = fZ := by
  have hd := h.rr.2.2.1
  have hb : baF U (opn c).afe (opn c).dacr priv k = 0 := by
    unfold baF
    rw [if_neg (fun g => by cases g.1)]
    have : fdF (opn c).dacr U.dom = 3 := by
      show fdF 4294967295 U.dom = 3
      generalize U.dom = d at hd
      rcases (show d = 0 ∨ d = 1 ∨ d = 2 ∨ d = 3 ∨ d = 4 ∨ d = 5 ∨ d = 6 ∨ d = 7 ∨ d = 8 ∨ d = 9 ∨ d = 10 ∨ d = 11 ∨ d = 12 ∨ d = 13 ∨ d = 14 ∨ d = 15 by omega) with rfl | rfl | rfl | rfl | rfl | rfl | rfl | rfl | rfl | rfl | rfl | rfl | rfl | rfl | rfl | rfl <;> decide +kernel
    rw [if_pos this]
  unfold chF
  rw [if_pos hb]
  split <;> rfl
end Go.Proofs.YtmodcbdgnmjkoabDoor
