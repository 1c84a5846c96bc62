import Derived.Test.YtplobjdghaokoaaRa
namespace Go.Proofs.Ytplobjdghaokoaa
open Go.RowKit
set_option linter.unusedVariables false

def up {α : Type} (f : Nat → α) (i : Nat) (x : α) : Nat → α := fun k => if k = i then x else f k
theorem up_same {α : Type} (f : Nat → α) (i : Nat) (x : α) : up f i x i = x := by simp [up]
theorem up_other {α : Type} (f : Nat → α) {i k : Nat} (x : α) (h : k ≠ i) : up f i x k = f k := by simp [up, h]

/-- Where things lie. -/
structure BC where
  bb : Nat
  p : Nat
  ub : Nat
  r : Nat
  rb : Nat
  sg : Nat
  tg : Nat
  sc : Nat
  tc : Nat
  f0 : Nat
  s : Nat → Nat
  t : Nat → Nat
  sl : List Value
  tl : List Value
/-- A pool with two slabs, and the document's. -/
structure BS (W0 w : World) (c : BC) (S : Nat → Nat → Prop) (u v : List Nat) (cs : Nat → List Cut) (T : Nat → List Int) : Prop where
  box : RowAt w c.bb 57 [.pointer (some ⟨c.p, 0, none⟩), .pointer (some ⟨c.r, 0, none⟩), .slice (some ⟨c.sg, 0, none⟩) 2 c.sc, .slice (some ⟨c.tg, 0, none⟩) 2 c.tc]
  srow : RowAt w c.sg 50 c.sl
  trow : RowAt w c.tg 76 c.tl
  sptr : ∀ i, i < 2 → c.sl[i]? = some (.pointer (some ⟨c.s i, 0, none⟩))
  tptr : ∀ i, i < 2 → c.tl[i]? = some (.pointer (some ⟨c.t i, 0, none⟩))
  pp : PP w c.p c.ub c.f0 u
  rp : RP w c.r c.rb c.f0 v
  ps : ∀ i, i < 2 → PS w (S (2 + i)) (c.s i) c.p (cs i)
  rs : ∀ i, i < 2 → RS w (S (4 + i)) (c.t i) c.r (T i)
  s0 : ∀ b, S 0 b ↔ Two c.p c.ub b
  s1 : ∀ b, S 1 b ↔ Two c.r c.rb b
  s6 : ∀ b, S 6 b ↔ (b = c.bb ∨ b = c.sg ∨ b = c.tg)
  dis : ∀ k j b, k < 7 → j < 7 → k ≠ j → S k b → ¬ S j b
  lo : ∀ k b, k < 7 → S k b → W0.heap.size ≤ b
  trn : Turn (fun _ => False) W0 w
section
variable {W0 w w' : World} {c : BC} {S : Nat → Nat → Prop} {u v u' v' : List Nat} {cs : Nat → List Cut} {T : Nat → List Int}
theorem BS.lowb (h : BS W0 w c S u v cs T) : ∀ k b, k < 7 → S k b → b < w.heap.size := by
  intro k b hk hb
  rcases (show k = 0 ∨ k = 1 ∨ k = 2 ∨ k = 3 ∨ k = 4 ∨ k = 5 ∨ k = 6 by omega) with rfl | rfl | rfl | rfl | rfl | rfl | rfl
  · rcases (h.s0 b).1 hb with rfl | rfl
    · exact h.pp.lt.1
    · exact h.pp.lt.2
  · rcases (h.s1 b).1 hb with rfl | rfl
    · exact h.rp.lt.1
    · exact h.rp.lt.2
  · exact (h.ps 0 (by omega)).lowb b hb
  · exact (h.ps 1 (by omega)).lowb b hb
  · exact (h.rs 0 (by omega)).lowb b hb
  · exact (h.rs 1 (by omega)).lowb b hb
  · rcases (h.s6 b).1 hb with rfl | rfl | rfl
    · exact h.box.lt
    · exact h.srow.lt
    · exact h.trow.lt
/-- What has turned lies in the parts k and k2; the part k has grown. -/
theorem BS.move (h : BS W0 w c S u v cs T) {Q : Nat → Prop} {k k2 : Nat} (hk : k < 6) (hk2 : k2 < 2) (X : Turn Q w w') (hQ : ∀ b, Q b → S k b ∨ S k2 b) {cs' : Nat → List Cut} {T' : Nat → List Int} (hk01 : 2 ≤ k ∨ k = k2)
    (hp : PP w' c.p c.ub c.f0 u') (hr : RP w' c.r c.rb c.f0 v')
    (hps : ∀ i, i < 2 → PS w' (up S k (if k < 2 then S k else gr (S k) w w') (2 + i)) (c.s i) c.p (cs' i)) (hrs : ∀ i, i < 2 → RS w' (up S k (if k < 2 then S k else gr (S k) w w') (4 + i)) (c.t i) c.r (T' i)) :
    BS W0 w' c (up S k (if k < 2 then S k else gr (S k) w w')) u' v' cs' T' := by
  have hl := h.lowb
  have hlw : W0.heap.size ≤ w.heap.size := h.trn.size
  have hq6 : ∀ b, S 6 b → ¬ Q b := fun b hb hq => by
    rcases hQ b hq with h1 | h1
    · exact h.dis 6 k b (by omega) (by omega) (by omega) hb h1
    · exact h.dis 6 k2 b (by omega) (by omega) (by omega) hb h1
  have hv : ∀ j b, up S k (if k < 2 then S k else gr (S k) w w') j b → S j b ∨ (j = k ∧ w.heap.size ≤ b ∧ b < w'.heap.size) := fun j b hb => by
    by_cases e : j = k
    · subst e
      rw [up_same] at hb
      split at hb
      · exact .inl hb
      · rcases hb with hb | hb
        · exact .inl hb
        · exact .inr ⟨rfl, hb⟩
    · rw [up_other _ _ e] at hb
      exact .inl hb
  have hne : ∀ j, j < 2 → ∀ b, up S k (if k < 2 then S k else gr (S k) w w') j b ↔ S j b := fun j hj b => by
    by_cases e : j = k
    · subst e
      rw [up_same, if_pos hj]
    · rw [up_other _ _ e]
  refine ⟨h.box.turn X (hq6 _ ((h.s6 _).2 (.inl rfl))), h.srow.turn X (hq6 _ ((h.s6 _).2 (.inr (.inl rfl)))), h.trow.turn X (hq6 _ ((h.s6 _).2 (.inr (.inr rfl)))), h.sptr, h.tptr, hp, hr, hps, hrs, fun b => (hne 0 (by omega) b).trans (h.s0 b), fun b => (hne 1 (by omega) b).trans (h.s1 b), fun b => ?_, fun a j b ha hj haj h1 h2 => ?_, fun j b hj hb => ?_, h.trn.trans X (fun b hb => ?_)⟩
  · rw [up_other _ _ (by omega)]
    exact h.s6 b
  · rcases hv a b h1 with g1 | ⟨e1, g1, g2⟩
    · rcases hv j b h2 with g3 | ⟨e3, g3, g4⟩
      · exact h.dis a j b ha hj haj g1 g3
      · have := hl a b ha g1; omega
    · rcases hv j b h2 with g3 | ⟨e3, g3, g4⟩
      · have := hl j b hj g3; omega
      · omega
  · rcases hv j b hb with g1 | ⟨e1, g1, g2⟩
    · exact h.lo j b hj g1
    · omega
  · rcases hQ b hb with h1 | h1
    · exact .inr (h.lo k b (by omega) h1)
    · exact .inr (h.lo k2 b (by omega) h1)
end
/-- So, with whatever parts. -/
def BB (W0 w : World) (c : BC) (u v : List Nat) (cs : Nat → List Cut) (T : Nat → List Int) : Prop := ∃ S, BS W0 w c S u v cs T
section
variable {W0 w w' : World} {c : BC} {u v u' v' : List Nat} {cs : Nat → List Cut} {T : Nat → List Int}
theorem BB.keep (h : BB W0 w c u v cs T) (X : Turn (fun _ => False) w w') : BB W0 w' c u v cs T := by
  obtain ⟨S, h⟩ := h
  exact ⟨S, h.box.turn X (fun h => h), h.srow.turn X (fun h => h), h.trow.turn X (fun h => h), h.sptr, h.tptr, h.pp.keep X (fun h => h) (fun h => h), h.rp.keep X (fun h => h) (fun h => h), fun i hi => (h.ps i hi).keep X (fun _ _ h => h), fun i hi => (h.rs i hi).keep X (fun _ _ h => h), h.s0, h.s1, h.s6, h.dis, h.lo, h.trn.trans X (fun _ h => h.elim)⟩
theorem BB.drewN (h : BB W0 w c u v cs T) (q : Nat) : BB W0 (w.drewN q) c u v cs T := h.keep ((Turn.refl _ _).drewN q)
theorem BB.pp (h : BB W0 w c u v cs T) : PP w c.p c.ub c.f0 u := by obtain ⟨S, h⟩ := h; exact h.pp
theorem BB.rp (h : BB W0 w c u v cs T) : RP w c.r c.rb c.f0 v := by obtain ⟨S, h⟩ := h; exact h.rp
theorem BB.ps (h : BB W0 w c u v cs T) {i : Nat} (hi : i < 2) : ∃ S, PS w S (c.s i) c.p (cs i) ∧ ¬ S c.p ∧ ¬ S c.ub := by
  obtain ⟨S, h⟩ := h
  exact ⟨_, h.ps i hi, fun hb => h.dis 0 (2 + i) c.p (by omega) (by omega) (by omega) ((h.s0 _).2 (.inl rfl)) hb, fun hb => h.dis 0 (2 + i) c.ub (by omega) (by omega) (by omega) ((h.s0 _).2 (.inr rfl)) hb⟩
theorem BB.rs (h : BB W0 w c u v cs T) {i : Nat} (hi : i < 2) : ∃ S, RS w S (c.t i) c.r (T i) ∧ ¬ S c.r ∧ ¬ S c.rb := by
  obtain ⟨S, h⟩ := h
  exact ⟨_, h.rs i hi, fun hb => h.dis 1 (4 + i) c.r (by omega) (by omega) (by omega) ((h.s1 _).2 (.inl rfl)) hb, fun hb => h.dis 1 (4 + i) c.rb (by omega) (by omega) (by omega) ((h.s1 _).2 (.inr rfl)) hb⟩
theorem BB.trn (h : BB W0 w c u v cs T) : Turn (fun _ => False) W0 w := by obtain ⟨S, h⟩ := h; exact h.trn
theorem BB.c0 (h : BB W0 w c u v cs T) : w.cell? ⟨c.bb, 0, none⟩ = some (.pointer (some ⟨c.p, 0, none⟩)) := by obtain ⟨S, h⟩ := h; rw [h.box.cell]; rfl
theorem BB.c1 (h : BB W0 w c u v cs T) : w.cell? ⟨c.bb, 1, none⟩ = some (.pointer (some ⟨c.r, 0, none⟩)) := by obtain ⟨S, h⟩ := h; rw [h.box.cell]; rfl
theorem BB.c2 (h : BB W0 w c u v cs T) : w.cell? ⟨c.bb, 2, none⟩ = some (.slice (some ⟨c.sg, 0, none⟩) 2 c.sc) := by obtain ⟨S, h⟩ := h; rw [h.box.cell]; rfl
theorem BB.c3 (h : BB W0 w c u v cs T) : w.cell? ⟨c.bb, 3, none⟩ = some (.slice (some ⟨c.tg, 0, none⟩) 2 c.tc) := by obtain ⟨S, h⟩ := h; rw [h.box.cell]; rfl
theorem BB.cps (h : BB W0 w c u v cs T) {i : Nat} (hi : i < 2) : w.cell? ⟨c.sg, i, none⟩ = some (.pointer (some ⟨c.s i, 0, none⟩)) := by obtain ⟨S, h⟩ := h; rw [h.srow.cell]; exact h.sptr i hi
theorem BB.cpt (h : BB W0 w c u v cs T) {i : Nat} (hi : i < 2) : w.cell? ⟨c.tg, i, none⟩ = some (.pointer (some ⟨c.t i, 0, none⟩)) := by obtain ⟨S, h⟩ := h; rw [h.trow.cell]; exact h.tptr i hi
theorem BB.pool (h : BB W0 w c u v cs T) (hp : PP w' c.p c.ub c.f0 u') (X : Turn (Two c.p c.ub) w w') : BB W0 w' c u' v cs T := by
  obtain ⟨S, h⟩ := h
  have hq : ∀ k, k < 7 → k ≠ 0 → ∀ b, S k b → ¬ Two c.p c.ub b := fun k hk h0 b hb e => h.dis k 0 b hk (by omega) h0 hb ((h.s0 b).2 e)
  have := h.move (k := 0) (k2 := 0) (by omega) (by omega) X (fun b hb => .inl ((h.s0 b).2 hb)) (u' := u') (v' := v) (cs' := cs) (T' := T) (.inr rfl) hp (h.rp.keep X (hq 1 (by omega) (by omega) _ ((h.s1 _).2 (.inl rfl))) (hq 1 (by omega) (by omega) _ ((h.s1 _).2 (.inr rfl))))
    (fun i hi => by rw [up_other _ _ (by omega)]; exact (h.ps i hi).keep X (hq (2 + i) (by omega) (by omega))) (fun i hi => by rw [up_other _ _ (by omega)]; exact (h.rs i hi).keep X (hq (4 + i) (by omega) (by omega)))
  exact ⟨_, this⟩
theorem BB.rpool (h : BB W0 w c u v cs T) (hp : RP w' c.r c.rb c.f0 v') (X : Turn (Two c.r c.rb) w w') : BB W0 w' c u v' cs T := by
  obtain ⟨S, h⟩ := h
  have hq : ∀ k, k < 7 → k ≠ 1 → ∀ b, S k b → ¬ Two c.r c.rb b := fun k hk h0 b hb e => h.dis k 1 b hk (by omega) h0 hb ((h.s1 b).2 e)
  have := h.move (k := 1) (k2 := 1) (by omega) (by omega) X (fun b hb => .inl ((h.s1 b).2 hb)) (u' := u) (v' := v') (cs' := cs) (T' := T) (.inr rfl) (h.pp.keep X (hq 0 (by omega) (by omega) _ ((h.s0 _).2 (.inl rfl))) (hq 0 (by omega) (by omega) _ ((h.s0 _).2 (.inr rfl)))) hp
    (fun i hi => by rw [up_other _ _ (by omega)]; exact (h.ps i hi).keep X (hq (2 + i) (by omega) (by omega))) (fun i hi => by rw [up_other _ _ (by omega)]; exact (h.rs i hi).keep X (hq (4 + i) (by omega) (by omega)))
  exact ⟨_, this⟩
end
/-- A call of a slab of the program's. -/
theorem bb_slab {W0 w : World} {c : BC} {u v : List Nat} {cs : Nat → List Cut} {T : Nat → List Int} (h : BB W0 w c u v cs T) {i : Nat} (hi : i < 2) {F : Nat} {args : Array Value} {R : Ending → List Nat → List Cut → Prop}
    (hc : ∀ S : Nat → Prop, PS w S (c.s i) c.p (cs i) → ¬ S c.p → ¬ S c.ub → Calls Try.prog F args w fun e w' => ∃ u' cs', R e u' cs' ∧ PS w' (gr S w w') (c.s i) c.p cs' ∧ PP w' c.p c.ub c.f0 u' ∧ Turn (GrowS S c.p c.ub) w w') :
    Calls Try.prog F args w fun e w' => ∃ u' cs', R e u' cs' ∧ BB W0 w' c u' v (up cs i cs') T ∧ w.heap.size ≤ w'.heap.size := by
  obtain ⟨S, h⟩ := h
  have hq0 : ∀ k, k < 7 → k ≠ 0 → ∀ b, S k b → b ≠ c.p ∧ b ≠ c.ub := fun k hk h0 b hb => ⟨fun e => h.dis k 0 b hk (by omega) h0 hb ((h.s0 b).2 (.inl e)), fun e => h.dis k 0 b hk (by omega) h0 hb ((h.s0 b).2 (.inr e))⟩
  refine (hc (S (2 + i)) (h.ps i hi) (fun e => (hq0 (2 + i) (by omega) (by omega) _ e).1 rfl) (fun e => (hq0 (2 + i) (by omega) (by omega) _ e).2 rfl)).mono ?_
  rintro e w' ⟨u', cs', hR, hS', hP', X⟩
  have hQ : ∀ b, GrowS (S (2 + i)) c.p c.ub b → S (2 + i) b ∨ S 0 b := fun b hb => by
    rcases hb with hb | hb
    · exact .inl hb
    · exact .inr ((h.s0 b).2 hb)
  have hq : ∀ k, k < 7 → k ≠ 0 → k ≠ 2 + i → ∀ b, S k b → ¬ GrowS (S (2 + i)) c.p c.ub b := fun k hk h0 hki b hb e => by
    rcases e with e | e | e
    · exact h.dis k (2 + i) b hk (by omega) hki hb e
    · exact (hq0 k hk h0 b hb).1 e
    · exact (hq0 k hk h0 b hb).2 e
  refine ⟨u', cs', hR, ⟨_, h.move (k := 2 + i) (k2 := 0) (by omega) (by omega) X hQ (.inl (by omega)) hP' (h.rp.keep X (hq 1 (by omega) (by omega) (by omega) _ ((h.s1 _).2 (.inl rfl))) (hq 1 (by omega) (by omega) (by omega) _ ((h.s1 _).2 (.inr rfl)))) (fun j hj => ?_) (fun j hj => ?_)⟩, X.size⟩
  · by_cases e : j = i
    · subst e
      rw [up_same, up_same, if_neg (by omega)]
      exact hS'
    · rw [up_other _ _ (by omega), up_other _ _ e]
      exact (h.ps j hj).keep X (hq (2 + j) (by omega) (by omega) (by omega))
  · rw [up_other _ _ (by omega)]
    exact (h.rs j hj).keep X (hq (4 + j) (by omega) (by omega) (by omega))
/-- A call of a slab of the reference's. -/
theorem bb_rslab {W0 w : World} {c : BC} {u v : List Nat} {cs : Nat → List Cut} {T : Nat → List Int} (h : BB W0 w c u v cs T) {i : Nat} (hi : i < 2) {F : Nat} {args : Array Value} {R : Ending → List Nat → List Int → Prop}
    (hc : ∀ S : Nat → Prop, RS w S (c.t i) c.r (T i) → ¬ S c.r → ¬ S c.rb → Calls Try.prog F args w fun e w' => ∃ v' T', R e v' T' ∧ RS w' (gr S w w') (c.t i) c.r T' ∧ RP w' c.r c.rb c.f0 v' ∧ Turn (GrowS S c.r c.rb) w w') :
    Calls Try.prog F args w fun e w' => ∃ v' T', R e v' T' ∧ BB W0 w' c u v' cs (up T i T') ∧ w.heap.size ≤ w'.heap.size := by
  obtain ⟨S, h⟩ := h
  have hq0 : ∀ k, k < 7 → k ≠ 1 → ∀ b, S k b → b ≠ c.r ∧ b ≠ c.rb := fun k hk h0 b hb => ⟨fun e => h.dis k 1 b hk (by omega) h0 hb ((h.s1 b).2 (.inl e)), fun e => h.dis k 1 b hk (by omega) h0 hb ((h.s1 b).2 (.inr e))⟩
  refine (hc (S (4 + i)) (h.rs i hi) (fun e => (hq0 (4 + i) (by omega) (by omega) _ e).1 rfl) (fun e => (hq0 (4 + i) (by omega) (by omega) _ e).2 rfl)).mono ?_
  rintro e w' ⟨v', T', hR, hS', hP', X⟩
  have hQ : ∀ b, GrowS (S (4 + i)) c.r c.rb b → S (4 + i) b ∨ S 1 b := fun b hb => by
    rcases hb with hb | hb
    · exact .inl hb
    · exact .inr ((h.s1 b).2 hb)
  have hq : ∀ k, k < 7 → k ≠ 1 → k ≠ 4 + i → ∀ b, S k b → ¬ GrowS (S (4 + i)) c.r c.rb b := fun k hk h0 hki b hb e => by
    rcases e with e | e | e
    · exact h.dis k (4 + i) b hk (by omega) hki hb e
    · exact (hq0 k hk h0 b hb).1 e
    · exact (hq0 k hk h0 b hb).2 e
  refine ⟨v', T', hR, ⟨_, h.move (k := 4 + i) (k2 := 1) (by omega) (by omega) X hQ (.inl (by omega)) (h.pp.keep X (hq 0 (by omega) (by omega) (by omega) _ ((h.s0 _).2 (.inl rfl))) (hq 0 (by omega) (by omega) (by omega) _ ((h.s0 _).2 (.inr rfl)))) hP' (fun j hj => ?_) (fun j hj => ?_)⟩, X.size⟩
  · rw [up_other _ _ (by omega)]
    exact (h.ps j hj).keep X (hq (2 + j) (by omega) (by omega) (by omega))
  · by_cases e : j = i
    · subst e
      rw [up_same, up_same, if_neg (by omega)]
      exact hS'
    · rw [up_other _ _ (by omega), up_other _ _ e]
      exact (h.rs j hj).keep X (hq (4 + j) (by omega) (by omega) (by omega))
end Go.Proofs.Ytplobjdghaokoaa
