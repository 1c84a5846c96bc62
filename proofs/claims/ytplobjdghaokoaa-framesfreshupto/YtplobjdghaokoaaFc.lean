import Derived.Test.YtplobjdghaokoaaFb
import Derived.Test.YtplobjdghaokoaaOp
namespace Go.Proofs.Ytplobjdghaokoaa
open Go.RowKit
set_option linter.unusedVariables false

theorem takeR_nz {f0 : Nat} {u : List Nat} (n al : Int) {i x : Nat} (h : u[i]? = some x) (h0 : x ≠ 0) : ∃ y, (takeR f0 u n al).2.2[i]? = some y ∧ y ≠ 0 := by
  unfold takeR
  split
  · exact ⟨x, h, h0⟩
  · split
    · exact ⟨x, h, h0⟩
    · exact mdr_nz h h0 (fun _ _ => by simp)
theorem shareR_nz {f0 : Nat} {u : List Nat} (f n : Int) {i x : Nat} (h : u[i]? = some x) (h0 : x ≠ 0) : ∃ y, (shareR f0 u f n).2[i]? = some y ∧ y ≠ 0 := by
  unfold shareR
  split
  · exact ⟨x, h, h0⟩
  · split
    · exact ⟨x, h, h0⟩
    · exact mdr_nz h h0 (fun _ _ => by simp)
theorem used_to {f0 : Nat} {u u' : List Nat} {cs : List Cut} (h : Used f0 u cs) (hn : ∀ c ∈ cs, ∀ x, u[c.f - f0]? = some x → x ≠ 0 → ∃ y, u'[c.f - f0]? = some y ∧ y ≠ 0) : Used f0 u' cs := fun c hc => by
  obtain ⟨h1, x, h2, h3⟩ := h c hc
  exact ⟨h1, hn c hc x h2 h3⟩
/-- A slab's Take. -/
theorem slT_frames {f0 : Nat} {u u' : List Nat} {cs cs' : List Cut} {r e : Int} (h : SlT f0 u cs r e u' cs') (hU : Used f0 u cs) :
    Used f0 u' cs' ∧ (∀ ds : List Cut, Used f0 u ds → Used f0 u' ds) ∧ (∀ d ∈ cs', (∃ c ∈ cs, c.f = d.f) ∨ ∀ ds : List Cut, Used f0 u ds → ∀ x ∈ ds, x.f ≠ d.f) := by
  rcases h with ⟨k, c, i, a1, a2, a3, rfl, rfl, rfl, rfl⟩ | ⟨a1, a2, rfl, rfl, rfl, rfl⟩ | ⟨t, k, a1, a2, a3, rfl, rfl, rfl, rfl⟩
  · refine ⟨fun d hd => ?_, fun _ h => h, fun d hd => ?_⟩
    · rcases (mem_set a1 d).1 hd with rfl | ⟨j, _, hj⟩
      · exact hU c (List.mem_of_getElem? a1)
      · exact hU d (List.mem_of_getElem? hj)
    · rcases (mem_set a1 d).1 hd with rfl | ⟨j, _, hj⟩
      · exact .inl ⟨c, List.mem_of_getElem? a1, rfl⟩
      · exact .inl ⟨d, List.mem_of_getElem? hj, rfl⟩
  · exact ⟨hU, fun _ h => h, fun d hd => .inl ⟨d, hd, rfl⟩⟩
  · have hm : ∀ ds : List Cut, Used f0 u ds → Used f0 (mdr (fun _ => 1) u t 1) ds := fun ds hd => used_to hd (fun c _ x h1 h2 => mdr_nz h1 h2 (fun _ _ => by simp))
    have htf := tk_free a2
    refine ⟨fun d hd => ?_, hm, fun d hd => ?_⟩
    · rcases mem_ins hd with rfl | hd
      · refine ⟨Nat.le_add_right _ _, 1, ?_, by simp⟩
        show (mdr (fun _ => 1) u t 1)[f0 + t - f0]? = some 1
        rw [Nat.add_sub_cancel_left]
        exact mdr_in _ u t 1 t 0 htf.1 (Nat.le_refl _) (by omega)
      · exact hm cs hU d hd
    · rcases mem_ins hd with rfl | hd
      · exact .inr (fun ds hds x hx => used_new hds a2 x hx)
      · exact .inl ⟨d, hd, rfl⟩
/-- A pool and a slab over it. -/
structure FX (W0 w : World) (p ub f0 s n : Nat) (S : Nat → Prop) (u : List Nat) (cs : List Cut) : Prop where
  trn : Turn (fun _ => False) W0 w
  pp : PP w p ub f0 u
  ps : PS w S s p cs
  lo : W0.heap.size ≤ p ∧ W0.heap.size ≤ ub
  los : ∀ b, S b → W0.heap.size ≤ b
  dP : ∀ b, S b → b ≠ p ∧ b ≠ ub
  us : Used f0 u cs
  len : u.length = n
section
variable {W0 w w' : World} {p ub f0 s n : Nat} {S : Nat → Prop} {u : List Nat} {cs : List Cut}
theorem FX.keepQ (h : FX W0 w p ub f0 s n S u cs) {Q : Nat → Prop} (X : Turn Q w w') (hQ : ∀ b, Q b → w.heap.size ≤ b) : FX W0 w' p ub f0 s n S u cs := by
  have hl := h.pp.lt
  have hz := h.trn.size
  refine ⟨h.trn.trans X (fun b hb => .inr ?_), h.pp.keep X (fun hb => ?_) (fun hb => ?_), h.ps.keep X (fun b hb hq => ?_), h.lo, h.los, h.dP, h.us, h.len⟩
  · have := hQ b hb; omega
  · have := hQ _ hb; omega
  · have := hQ _ hb; omega
  · have := hQ b hq; have := h.ps.lowb b hb; omega
theorem FX.keep (h : FX W0 w p ub f0 s n S u cs) (X : Turn (fun _ => False) w w') : FX W0 w' p ub f0 s n S u cs := h.keepQ X (fun _ h => h.elim)
/-- Behind marks. -/
theorem FX.turn (h : FX W0 w p ub f0 s n S u cs) {b0 : Nat} {Q : Nat → Prop} (hb : ∀ b, b < w.heap.size → Q b → b0 ≤ b) (X : Turn Q w w') (hp : p < b0) (hu : ub < b0) (hS : ∀ b, S b → b < b0) (hW : W0.heap.size ≤ b0) : FX W0 w' p ub f0 s n S u cs := by
  have hl := h.pp.lt
  refine ⟨h.trn.trans (X.mono (S' := fun b => Q b ∧ b < w.heap.size) (fun b h1 h2 => ⟨h2, h1⟩)) (fun b hq => .inr (by have := hb b hq.2 hq.1; omega)), h.pp.keep X (fun hq => ?_) (fun hq => ?_), h.ps.keep X (fun b hs hq => ?_), h.lo, h.los, h.dP, h.us, h.len⟩
  · have := hb _ hl.1 hq; omega
  · have := hb _ hl.2 hq; omega
  · have := hb b (h.ps.lowb b hs) hq; have := hS b hs; omega
theorem fx_take (h : FX W0 w p ub f0 s n S u cs) :
    Calls Try.prog 28 #[.pointer (some ⟨s, 0, none⟩)] w fun e w' => ∃ r e0, e = .returned (.tuple #[.int .i64 r, .int .i64 e0]) ∧ ∃ S' u' cs', FX W0 w' p ub f0 s n S' u' cs' := by
  refine (stake_any w S s p ub f0 cs u h.ps h.pp (fun hb => (h.dP _ hb).1 rfl) (fun hb => (h.dP _ hb).2 rfl) h.us).mono ?_
  rintro e w' ⟨r, e0, u', cs', rfl, ht, hS, hP, X⟩
  have hl := h.pp.lt
  have hz := h.trn.size
  refine ⟨r, e0, rfl, gr S w w', u', cs', h.trn.trans X (fun b hb => .inr ?_), hP, hS, h.lo, fun b hb => ?_, fun b hb => ?_, (slT_frames ht h.us).1, ?_⟩
  · rcases hb with hb | hb | hb
    · exact h.los b hb
    · rw [hb]; exact h.lo.1
    · rw [hb]; exact h.lo.2
  · rcases hb with hb | hb
    · exact h.los b hb
    · omega
  · rcases hb with hb | hb
    · exact h.dP b hb
    · exact ⟨by omega, by omega⟩
  · rcases ht with ⟨k, c, b, a1, a2, a3, rfl, rfl, rfl, rfl⟩ | ⟨a1, a2, rfl, rfl, rfl, rfl⟩ | ⟨t, k, a1, a2, a3, rfl, rfl, rfl, rfl⟩
    · exact h.len
    · exact h.len
    · rw [mdr_len]; exact h.len
theorem poolR_used {o : Op4} (hU : Used f0 u cs) (h3 : o.kind ≠ 3) : Used f0 (poolR f0 u o).2.2 cs := by
  unfold poolR
  split
  · exact used_to hU (fun c _ x h1 h2 => takeR_nz _ _ h1 h2)
  · split
    · exact used_to hU (fun c _ x h1 h2 => shareR_nz _ _ h1 h2)
    · exact hU
theorem fx_pool (h : FX W0 w p ub f0 s n S u cs) (o : Op4) (ho : o.ok) (h3 : o.kind ≠ 3) :
    Calls Try.prog 11 #[.pointer (some ⟨p, 0, none⟩), o.val] w fun e w' => ∃ r e0, e = .returned (.tuple #[.int .i64 r, .int .i64 e0]) ∧ ∃ u', FX W0 w' p ub f0 s n S u' cs := by
  refine (pooled_any w p ub f0 u o h.pp ho).mono ?_
  rintro e w' ⟨rfl, hP, X⟩
  refine ⟨_, _, rfl, (poolR f0 u o).2.2, h.trn.trans X (fun b hb => .inr ?_), hP, h.ps.keep X (fun b hb hq => ?_), h.lo, h.los, h.dP, poolR_used h.us h3, by rw [poolR_len]; exact h.len⟩
  · rcases hb with hb | hb
    · rw [hb]; exact h.lo.1
    · rw [hb]; exact h.lo.2
  · rcases hq with hq | hq
    · exact (h.dP b hb).1 hq
    · exact (h.dP b hb).2 hq
end
end Go.Proofs.Ytplobjdghaokoaa
