import Derived.Test.YtplobjdghaokoabRj
import Derived.Test.YtplobjdghaokoabBw
namespace Go.Proofs.Ytplobjdghaokoab
open Go.RowKit
set_option linter.unusedVariables false

theorem mdr_nz {g : Nat → Nat} {u : List Nat} {a n i x : Nat} (h : u[i]? = some x) (h0 : x ≠ 0) (hg : a ≤ i → i < a + n → g x ≠ 0) : ∃ y, (mdr g u a n)[i]? = some y ∧ y ≠ 0 := by
  rw [mdr_at, h]
  refine ⟨_, rfl, ?_⟩
  split
  · rename_i hc
    exact hg hc.1 hc.2
  · exact h0
theorem takeR_nz {f0 : Nat} {u : List Nat} (n al : Int) {i x : Nat} (h : u[i]? = some x) (h0 : x ≠ 0) : ∃ y, (takeR f0 u n al).2.2[i]? = some y ∧ y ≠ 0 := by
  unfold takeR
  split
  · exact ⟨x, h, h0⟩
  · split
    · exact ⟨x, h, h0⟩
    · exact mdr_nz h h0 (fun _ _ => by simp)
theorem shareR_nz {f0 : Nat} {u : List Nat} (f n : Int) {i x : Nat} (h : u[i]? = some x) (h0 : x ≠ 0) : ∃ y, (shareR f0 u f n).2[i]? = some y ∧ y ≠ 0 := by
  unfold shareR
  split
  · exact ⟨x, h, h0⟩
  · split
    · exact ⟨x, h, h0⟩
    · exact mdr_nz h h0 (fun _ _ => by simp)
theorem dropR_nz {f0 : Nat} {u : List Nat} {f n : Int} {i x : Nat} (h : u[i]? = some x) (h0 : x ≠ 0) (hb : f ≤ (f0 : Int) + i → (f0 : Int) + i < f + n → x ≠ 1) : ∃ y, (dropR f0 u f n).2.2[i]? = some y ∧ y ≠ 0 := by
  unfold dropR
  split
  · exact ⟨x, h, h0⟩
  · rename_i hn
    have hz : nameE f0 u f n = 0 := by
      by_cases e : nameE f0 u f n = 0
      · exact e
      · exact absurd e hn
    obtain ⟨a, k, rfl, rfl, h1, h2, h3, h4, _⟩ := nameE_ok hz
    rw [h3, h4]
    exact mdr_nz h h0 (fun g1 g2 => by
      have := hb (by omega) (by omega)
      show x - 1 ≠ 0
      omega)
/-- What the slabs' frames are to the pool. -/
def Inv (f0 : Nat) (u : List Nat) (cs : Nat → List Cut) : Prop := (∀ i, i < 2 → Used f0 u (cs i)) ∧ ∀ c ∈ cs 0, ∀ d ∈ cs 1, c.f ≠ d.f
theorem used_to {f0 : Nat} {u u' : List Nat} {cs : List Cut} (h : Used f0 u cs) (hn : ∀ c ∈ cs, ∀ x, u[c.f - f0]? = some x → x ≠ 0 → ∃ y, u'[c.f - f0]? = some y ∧ y ≠ 0) : Used f0 u' cs := fun c hc => by
  obtain ⟨h1, x, h2, h3⟩ := h c hc
  exact ⟨h1, hn c hc x h2 h3⟩
theorem Inv.take {f0 : Nat} {u : List Nat} {cs : Nat → List Cut} (h : Inv f0 u cs) (n al : Int) : Inv f0 (takeR f0 u n al).2.2 cs := ⟨fun i hi => used_to (h.1 i hi) (fun c _ x h1 h2 => takeR_nz n al h1 h2), h.2⟩
theorem Inv.share {f0 : Nat} {u : List Nat} {cs : Nat → List Cut} (h : Inv f0 u cs) (f n : Int) : Inv f0 (shareR f0 u f n).2 cs := ⟨fun i hi => used_to (h.1 i hi) (fun c _ x h1 h2 => shareR_nz f n h1 h2), h.2⟩
/-- No Drop of a slab's last use. -/
def NoBr (f0 : Nat) (u : List Nat) (cs : List Cut) (f n : Int) : Prop := ∀ c ∈ cs, 1 ≤ n → f ≤ (c.f : Int) → (c.f : Int) - f < n → usesR f0 u c.f ≠ 1
theorem usesR_at' {f0 : Nat} {u : List Nat} {i x : Nat} (h : u[i]? = some x) : usesR f0 u ((f0 : Int) + i) = x := by
  have hl := (List.getElem?_eq_some_iff.1 h).1
  unfold usesR hasB
  rw [if_pos (by simp; omega), show ((f0 : Int) + i - f0).toNat = i by omega, h]
  rfl
theorem Inv.drop {f0 : Nat} {u : List Nat} {cs : Nat → List Cut} (h : Inv f0 u cs) {f n : Int} (hb : ∀ i, i < 2 → NoBr f0 u (cs i) f n) : Inv f0 (dropR f0 u f n).2.2 cs := ⟨fun i hi => used_to (h.1 i hi) (fun c hc x h1 h2 => dropR_nz h1 h2 (fun g1 g2 e => by
  have hf := (h.1 i hi c hc).1
  have hu := usesR_at' (f0 := f0) h1
  rw [show (f0 : Int) + ((c.f - f0 : Nat) : Int) = (c.f : Int) by omega] at hu
  exact hb i hi c hc (by omega) (by omega) (by omega) (by rw [hu]; exact e))), h.2⟩
theorem mem_ins {cs : List Cut} {k : Nat} {a d : Cut} (h : d ∈ cs.take k ++ [a] ++ cs.drop k) : d = a ∨ d ∈ cs := by
  simp only [List.mem_append, List.mem_singleton] at h
  rcases h with (h | h) | h
  · exact .inr (List.mem_of_mem_take h)
  · exact .inl h
  · exact .inr (List.mem_of_mem_drop h)
/-- A slab's Take. -/
theorem slT_frames {f0 : Nat} {u u' : List Nat} {cs cs' : List Cut} {r e : Int} (h : SlT f0 u cs r e u' cs') (hU : Used f0 u cs) :
    Used f0 u' cs' ∧ (∀ ds : List Cut, Used f0 u ds → Used f0 u' ds) ∧ (∀ d ∈ cs', (∃ c ∈ cs, c.f = d.f) ∨ ∀ ds : List Cut, Used f0 u ds → ∀ x ∈ ds, x.f ≠ d.f) := by
  rcases h with ⟨k, c, i, a1, a2, a3, rfl, rfl, rfl, rfl⟩ | ⟨a1, a2, rfl, rfl, rfl, rfl⟩ | ⟨t, k, a1, a2, a3, rfl, rfl, rfl, rfl⟩
  · refine ⟨fun d hd => ?_, fun _ h => h, fun d hd => ?_⟩
    · rcases (mem_set a1 d).1 hd with rfl | ⟨j, _, hj⟩
      · exact hU c (List.mem_of_getElem? a1)
      · exact hU d (List.mem_of_getElem? hj)
    · rcases (mem_set a1 d).1 hd with rfl | ⟨j, _, hj⟩
      · exact .inl ⟨c, List.mem_of_getElem? a1, rfl⟩
      · exact .inl ⟨d, List.mem_of_getElem? hj, rfl⟩
  · exact ⟨hU, fun _ h => h, fun d hd => .inl ⟨d, hd, rfl⟩⟩
  · have hm : ∀ ds : List Cut, Used f0 u ds → Used f0 (mdr (fun _ => 1) u t 1) ds := fun ds hd => used_to hd (fun c _ x h1 h2 => mdr_nz h1 h2 (fun _ _ => by simp))
    have htf := tk_free a2
    refine ⟨fun d hd => ?_, hm, fun d hd => ?_⟩
    · rcases mem_ins hd with rfl | hd
      · refine ⟨Nat.le_add_right _ _, 1, ?_, by simp⟩
        show (mdr (fun _ => 1) u t 1)[f0 + t - f0]? = some 1
        rw [Nat.add_sub_cancel_left]
        exact mdr_in _ u t 1 t 0 htf.1 (Nat.le_refl _) (by omega)
      · exact hm cs hU d hd
    · rcases mem_ins hd with rfl | hd
      · exact .inr (fun ds hds x hx => used_new hds a2 x hx)
      · exact .inl ⟨d, hd, rfl⟩
theorem Inv.slT {f0 : Nat} {u u' : List Nat} {cs : Nat → List Cut} (h : Inv f0 u cs) {i : Nat} (hi : i < 2) {r e : Int} {cs' : List Cut} (ht : SlT f0 u (cs i) r e u' cs') : Inv f0 u' (up cs i cs') := by
  obtain ⟨h1, h2, h3⟩ := slT_frames ht (h.1 i hi)
  refine ⟨fun j hj => ?_, ?_⟩
  · by_cases e : j = i
    · subst e; rw [up_same]; exact h1
    · rw [up_other _ _ e]; exact h2 _ (h.1 j hj)
  · rcases (show i = 0 ∨ i = 1 by omega) with rfl | rfl
    · rw [up_same, up_other _ _ (by omega)]
      intro c hc d hd
      rcases h3 c hc with ⟨c0, hc0, e⟩ | hn
      · rw [← e]; exact h.2 c0 hc0 d hd
      · exact fun e => hn (cs 1) (h.1 1 (by omega)) d hd e.symm
    · rw [up_same, up_other _ _ (by omega)]
      intro c hc d hd
      rcases h3 d hd with ⟨c0, hc0, e⟩ | hn
      · rw [← e]; exact h.2 c hc c0 hc0
      · exact hn (cs 0) (h.1 0 (by omega)) c hc
/-- A slab's Drop. -/
theorem Inv.slD {f0 : Nat} {u u' : List Nat} {cs : Nat → List Cut} (h : Inv f0 u cs) {i : Nat} (hi : i < 2) (hs : Srt (cs i)) {t e : Int} {cs' : List Cut} (ht : SlD f0 u (cs i) t e u' cs') : Inv f0 u' (up cs i cs') := by
  have hdis : ∀ j, j < 2 → j ≠ i → ∀ c ∈ cs i, ∀ d ∈ cs j, c.f ≠ d.f := fun j hj hji c hc d hd => by
    rcases (show i = 0 ∨ i = 1 by omega) with rfl | rfl
    · obtain rfl : j = 1 := by omega
      exact h.2 c hc d hd
    · obtain rfl : j = 0 := by omega
      exact fun e => h.2 d hd c hc e.symm
  have key : (∀ d ∈ cs', ∃ c ∈ cs i, c.f = d.f) ∧ Used f0 u' cs' ∧ ∀ j, j < 2 → j ≠ i → Used f0 u' (cs j) := by
    rcases ht with ⟨k, c, b, a1, a2, a3, rfl, rfl, a4⟩ | ⟨a1, rfl, rfl, rfl⟩
    · rcases a4 with ⟨a4, rfl, rfl⟩ | ⟨a4, rfl, rfl⟩
      · have hm : ∀ d ∈ (cs i).set k (c.put b false), ∃ c ∈ cs i, c.f = d.f := fun d hd => by
          rcases (mem_set a1 d).1 hd with rfl | ⟨j, _, hj⟩
          · exact ⟨c, List.mem_of_getElem? a1, rfl⟩
          · exact ⟨d, List.mem_of_getElem? hj, rfl⟩
        refine ⟨hm, fun d hd => ?_, fun j hj _ => h.1 j hj⟩
        obtain ⟨c1, hc1, e1⟩ := hm d hd
        rw [← e1]
        exact h.1 i hi c1 hc1
      · have hU := h.1 i hi
        have hcm := List.mem_of_getElem? a1
        have hother : ∀ d : Cut, d.f ≠ c.f → f0 ≤ d.f → ∀ x, u[d.f - f0]? = some x → x ≠ 0 → ∃ y, (dropR f0 u (c.f : Int) 1).2.2[d.f - f0]? = some y ∧ y ≠ 0 := fun d hd hf x h1 h2 => dropR_nz h1 h2 (fun g1 g2 => by omega)
        refine ⟨fun d hd => ⟨d, mem_eraseIdx hd, rfl⟩, fun d hd => ?_, fun j hj hji => used_to (h.1 j hj) (fun d hd x h1 h2 => hother d (Ne.symm (hdis j hj hji c hcm d hd)) (h.1 j hj d hd).1 x h1 h2)⟩
        obtain ⟨q, hq, hq2⟩ := List.mem_eraseIdx_iff_getElem?.1 hd
        obtain ⟨g1, x, g2, g3⟩ := hU d (List.mem_of_getElem? hq2)
        exact ⟨g1, hother d (fun e => hq (srt_unique hs hq2 a1 e)) g1 x g2 g3⟩
    · exact ⟨fun d hd => ⟨d, hd, rfl⟩, h.1 i hi, fun j hj _ => h.1 j hj⟩
  refine ⟨fun j hj => ?_, ?_⟩
  · by_cases e : j = i
    · subst e; rw [up_same]; exact key.2.1
    · rw [up_other _ _ e]; exact key.2.2 j hj e
  · rcases (show i = 0 ∨ i = 1 by omega) with rfl | rfl
    · rw [up_same, up_other _ _ (by omega)]
      intro c hc d hd
      obtain ⟨c0, hc0, e⟩ := key.1 c hc
      rw [← e]; exact h.2 c0 hc0 d hd
    · rw [up_same, up_other _ _ (by omega)]
      intro c hc d hd
      obtain ⟨c0, hc0, e⟩ := key.1 d hd
      rw [← e]; exact h.2 c hc c0 hc0
end Go.Proofs.Ytplobjdghaokoab
