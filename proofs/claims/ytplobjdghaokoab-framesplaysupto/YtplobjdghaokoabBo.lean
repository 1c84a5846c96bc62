import Derived.Test.YtplobjdghaokoabBr
namespace Go.Proofs.Ytplobjdghaokoab
open Go.RowKit
set_option linter.unusedVariables false

/-- A pool with two slabs, the document's, and a call's box. -/
def BO (W0 w : World) (c : BC) (o : Nat) (os : List Value) (u v : List Nat) (cs : Nat → List Cut) (T : Nat → List Int) : Prop := ∃ S, BS W0 w c S u v cs T ∧ RowAt w o 29 os ∧ ∀ k, k < 7 → ¬ S k o
section
variable {W0 w w' : World} {c : BC} {o : Nat} {os : List Value} {u v u' v' : List Nat} {cs : Nat → List Cut} {T : Nat → List Int}
theorem BO.of (h : BB W0 w c u v cs T) (os : List Value) : BO W0 (w.alloc (.cells os.toArray 29)) c w.heap.size os u v cs T := by
  have X : Turn (fun _ => False) w (w.alloc (.cells os.toArray 29)) := (Turn.refl _ w).alloc _
  obtain ⟨S, h⟩ := h
  refine ⟨S, ⟨h.box.turn X (fun h => h), h.srow.turn X (fun h => h), h.trow.turn X (fun h => h), h.sptr, h.tptr, h.pp.keep X (fun h => h) (fun h => h), h.rp.keep X (fun h => h) (fun h => h), fun i hi => (h.ps i hi).keep X (fun _ _ h => h), fun i hi => (h.rs i hi).keep X (fun _ _ h => h), h.s0, h.s1, h.s6, h.dis, h.lo, h.trn.trans X (fun _ h => h.elim)⟩, row_new w os 29, fun k hk hb => ?_⟩
  have := h.lowb k _ hk hb
  omega
theorem BO.bb (h : BO W0 w c o os u v cs T) : BB W0 w c u v cs T := by obtain ⟨S, h, _⟩ := h; exact ⟨S, h⟩
theorem BO.keep (h : BO W0 w c o os u v cs T) (X : Turn (fun _ => False) w w') : BO W0 w' c o os u v cs T := by
  obtain ⟨S, h, hr, hn⟩ := h
  exact ⟨S, ⟨h.box.turn X (fun h => h), h.srow.turn X (fun h => h), h.trow.turn X (fun h => h), h.sptr, h.tptr, h.pp.keep X (fun h => h) (fun h => h), h.rp.keep X (fun h => h) (fun h => h), fun i hi => (h.ps i hi).keep X (fun _ _ h => h), fun i hi => (h.rs i hi).keep X (fun _ _ h => h), h.s0, h.s1, h.s6, h.dis, h.lo, h.trn.trans X (fun _ h => h.elim)⟩, hr.turn X (fun h => h), hn⟩
theorem BO.drewN (h : BO W0 w c o os u v cs T) (q : Nat) : BO W0 (w.drewN q) c o os u v cs T := h.keep ((Turn.refl _ _).drewN q)
theorem BO.drew (h : BO W0 w c o os u v cs T) : BO W0 w.drew c o os u v cs T := h.drewN 1
theorem BO.cell (h : BO W0 w c o os u v cs T) (j : Nat) : w.cell? ⟨o, j, none⟩ = os[j]? := by obtain ⟨S, h, hr, hn⟩ := h; rw [hr.cell]
theorem BO.pool (h : BO W0 w c o os u v cs T) (hp : PP w' c.p c.ub c.f0 u') (X : Turn (Two c.p c.ub) w w') : BO W0 w' c o os u' v cs T := by
  obtain ⟨S, h, hr, hn⟩ := h
  have hq : ∀ k, k < 7 → k ≠ 0 → ∀ b, S k b → ¬ Two c.p c.ub b := fun k hk h0 b hb e => h.dis k 0 b hk (by omega) h0 hb ((h.s0 b).2 e)
  have := h.move (k := 0) (k2 := 0) (by omega) (by omega) X (fun b hb => .inl ((h.s0 b).2 hb)) (u' := u') (v' := v) (cs' := cs) (T' := T) (.inr rfl) hp (h.rp.keep X (hq 1 (by omega) (by omega) _ ((h.s1 _).2 (.inl rfl))) (hq 1 (by omega) (by omega) _ ((h.s1 _).2 (.inr rfl))))
    (fun i hi => by rw [up_other _ _ (by omega)]; exact (h.ps i hi).keep X (hq (2 + i) (by omega) (by omega))) (fun i hi => by rw [up_other _ _ (by omega)]; exact (h.rs i hi).keep X (hq (4 + i) (by omega) (by omega)))
  refine ⟨_, this, hr.turn X (fun e => hn 0 (by omega) ((h.s0 o).2 e)), fun k hk => ?_⟩
  by_cases e : k = 0
  · subst e; rw [up_same, if_pos (by omega)]; exact hn 0 (by omega)
  · rw [up_other _ _ e]; exact hn k hk
theorem BO.rpool (h : BO W0 w c o os u v cs T) (hp : RP w' c.r c.rb c.f0 v') (X : Turn (Two c.r c.rb) w w') : BO W0 w' c o os u v' cs T := by
  obtain ⟨S, h, hr, hn⟩ := h
  have hq : ∀ k, k < 7 → k ≠ 1 → ∀ b, S k b → ¬ Two c.r c.rb b := fun k hk h0 b hb e => h.dis k 1 b hk (by omega) h0 hb ((h.s1 b).2 e)
  have := h.move (k := 1) (k2 := 1) (by omega) (by omega) X (fun b hb => .inl ((h.s1 b).2 hb)) (u' := u) (v' := v') (cs' := cs) (T' := T) (.inr rfl) (h.pp.keep X (hq 0 (by omega) (by omega) _ ((h.s0 _).2 (.inl rfl))) (hq 0 (by omega) (by omega) _ ((h.s0 _).2 (.inr rfl)))) hp
    (fun i hi => by rw [up_other _ _ (by omega)]; exact (h.ps i hi).keep X (hq (2 + i) (by omega) (by omega))) (fun i hi => by rw [up_other _ _ (by omega)]; exact (h.rs i hi).keep X (hq (4 + i) (by omega) (by omega)))
  refine ⟨_, this, hr.turn X (fun e => hn 1 (by omega) ((h.s1 o).2 e)), fun k hk => ?_⟩
  by_cases e : k = 1
  · subst e; rw [up_same, if_pos (by omega)]; exact hn 1 (by omega)
  · rw [up_other _ _ e]; exact hn k hk
end
theorem bo_slab {W0 w : World} {c : BC} {o : Nat} {os : List Value} {u v : List Nat} {cs : Nat → List Cut} {T : Nat → List Int} (h : BO W0 w c o os u v cs T) {i : Nat} (hi : i < 2) {F : Nat} {args : Array Value} {R : Ending → List Nat → List Cut → Prop}
    (hc : ∀ S : Nat → Prop, PS w S (c.s i) c.p (cs i) → ¬ S c.p → ¬ S c.ub → Calls Try.prog F args w fun e w' => ∃ u' cs', R e u' cs' ∧ PS w' (gr S w w') (c.s i) c.p cs' ∧ PP w' c.p c.ub c.f0 u' ∧ Turn (GrowS S c.p c.ub) w w') :
    Calls Try.prog F args w fun e w' => ∃ u' cs', R e u' cs' ∧ BO W0 w' c o os u' v (up cs i cs') T := by
  obtain ⟨S, h, hrw, hn⟩ := h
  have hq0 : ∀ k, k < 7 → k ≠ 0 → ∀ b, S k b → b ≠ c.p ∧ b ≠ c.ub := fun k hk h0 b hb => ⟨fun e => h.dis k 0 b hk (by omega) h0 hb ((h.s0 b).2 (.inl e)), fun e => h.dis k 0 b hk (by omega) h0 hb ((h.s0 b).2 (.inr e))⟩
  refine (hc (S (2 + i)) (h.ps i hi) (fun e => (hq0 (2 + i) (by omega) (by omega) _ e).1 rfl) (fun e => (hq0 (2 + i) (by omega) (by omega) _ e).2 rfl)).mono ?_
  rintro e w' ⟨u', cs', hR, hS', hP', X⟩
  have hQ : ∀ b, GrowS (S (2 + i)) c.p c.ub b → S (2 + i) b ∨ S 0 b := fun b hb => by
    rcases hb with hb | hb
    · exact .inl hb
    · exact .inr ((h.s0 b).2 hb)
  have hq : ∀ k, k < 7 → k ≠ 0 → k ≠ 2 + i → ∀ b, S k b → ¬ GrowS (S (2 + i)) c.p c.ub b := fun k hk h0 hki b hb e => by
    rcases e with e | e | e
    · exact h.dis k (2 + i) b hk (by omega) hki hb e
    · exact (hq0 k hk h0 b hb).1 e
    · exact (hq0 k hk h0 b hb).2 e
  refine ⟨u', cs', hR, ⟨_, h.move (k := 2 + i) (k2 := 0) (by omega) (by omega) X hQ (.inl (by omega)) hP' (h.rp.keep X (hq 1 (by omega) (by omega) (by omega) _ ((h.s1 _).2 (.inl rfl))) (hq 1 (by omega) (by omega) (by omega) _ ((h.s1 _).2 (.inr rfl)))) (fun j hj => ?_) (fun j hj => ?_), hrw.turn X (fun hb => ?_), fun k hk hb => ?_⟩⟩
  · by_cases e : j = i
    · subst e
      rw [up_same, up_same, if_neg (by omega)]
      exact hS'
    · rw [up_other _ _ (by omega), up_other _ _ e]
      exact (h.ps j hj).keep X (hq (2 + j) (by omega) (by omega) (by omega))
  · rw [up_other _ _ (by omega)]
    exact (h.rs j hj).keep X (hq (4 + j) (by omega) (by omega) (by omega))
  · rcases hQ o hb with hb | hb
    · exact hn _ (by omega) hb
    · exact hn _ (by omega) hb
  · by_cases e : k = 2 + i
    · subst e
      rw [up_same, if_neg (by omega)] at hb
      rcases hb with hb | hb
      · exact hn _ hk hb
      · have := hrw.lt; omega
    · rw [up_other _ _ e] at hb
      exact hn k hk hb
theorem bo_rslab {W0 w : World} {c : BC} {o : Nat} {os : List Value} {u v : List Nat} {cs : Nat → List Cut} {T : Nat → List Int} (h : BO W0 w c o os u v cs T) {i : Nat} (hi : i < 2) {F : Nat} {args : Array Value} {R : Ending → List Nat → List Int → Prop}
    (hc : ∀ S : Nat → Prop, RS w S (c.t i) c.r (T i) → ¬ S c.r → ¬ S c.rb → Calls Try.prog F args w fun e w' => ∃ v' T', R e v' T' ∧ RS w' (gr S w w') (c.t i) c.r T' ∧ RP w' c.r c.rb c.f0 v' ∧ Turn (GrowS S c.r c.rb) w w') :
    Calls Try.prog F args w fun e w' => ∃ v' T', R e v' T' ∧ BO W0 w' c o os u v' cs (up T i T') := by
  obtain ⟨S, h, hrw, hn⟩ := h
  have hq0 : ∀ k, k < 7 → k ≠ 1 → ∀ b, S k b → b ≠ c.r ∧ b ≠ c.rb := fun k hk h0 b hb => ⟨fun e => h.dis k 1 b hk (by omega) h0 hb ((h.s1 b).2 (.inl e)), fun e => h.dis k 1 b hk (by omega) h0 hb ((h.s1 b).2 (.inr e))⟩
  refine (hc (S (4 + i)) (h.rs i hi) (fun e => (hq0 (4 + i) (by omega) (by omega) _ e).1 rfl) (fun e => (hq0 (4 + i) (by omega) (by omega) _ e).2 rfl)).mono ?_
  rintro e w' ⟨v', T', hR, hS', hP', X⟩
  have hQ : ∀ b, GrowS (S (4 + i)) c.r c.rb b → S (4 + i) b ∨ S 1 b := fun b hb => by
    rcases hb with hb | hb
    · exact .inl hb
    · exact .inr ((h.s1 b).2 hb)
  have hq : ∀ k, k < 7 → k ≠ 1 → k ≠ 4 + i → ∀ b, S k b → ¬ GrowS (S (4 + i)) c.r c.rb b := fun k hk h0 hki b hb e => by
    rcases e with e | e | e
    · exact h.dis k (4 + i) b hk (by omega) hki hb e
    · exact (hq0 k hk h0 b hb).1 e
    · exact (hq0 k hk h0 b hb).2 e
  refine ⟨v', T', hR, ⟨_, h.move (k := 4 + i) (k2 := 1) (by omega) (by omega) X hQ (.inl (by omega)) (h.pp.keep X (hq 0 (by omega) (by omega) (by omega) _ ((h.s0 _).2 (.inl rfl))) (hq 0 (by omega) (by omega) (by omega) _ ((h.s0 _).2 (.inr rfl)))) hP' (fun j hj => ?_) (fun j hj => ?_), hrw.turn X (fun hb => ?_), fun k hk hb => ?_⟩⟩
  · rw [up_other _ _ (by omega)]
    exact (h.ps j hj).keep X (hq (2 + j) (by omega) (by omega) (by omega))
  · by_cases e : j = i
    · subst e
      rw [up_same, up_same, if_neg (by omega)]
      exact hS'
    · rw [up_other _ _ (by omega), up_other _ _ e]
      exact (h.rs j hj).keep X (hq (4 + j) (by omega) (by omega) (by omega))
  · rcases hQ o hb with hb | hb
    · exact hn _ (by omega) hb
    · exact hn _ (by omega) hb
  · by_cases e : k = 4 + i
    · subst e
      rw [up_same, if_neg (by omega)] at hb
      rcases hb with hb | hb
      · exact hn _ hk hb
      · have := hrw.lt; omega
    · rw [up_other _ _ e] at hb
      exact hn k hk hb
/-- The state of a play. -/
def PL (W0 w : World) (c : BC) (u : List Nat) (cs : Nat → List Cut) : Prop := BB W0 w c u u cs (fun i => tabsL (cs i)) ∧ Inv c.f0 u cs
def PO (W0 w : World) (c : BC) (o : Nat) (os : List Value) (u : List Nat) (cs : Nat → List Cut) : Prop := BO W0 w c o os u u cs (fun i => tabsL (cs i)) ∧ Inv c.f0 u cs
theorem up_tabs (cs : Nat → List Cut) (i : Nat) (x : List Cut) : up (fun i => tabsL (cs i)) i (tabsL x) = fun j => tabsL (up cs i x j) := by
  funext j
  by_cases e : j = i
  · subst e; rw [up_same, up_same]
  · rw [up_other _ _ e, up_other _ _ e]
/-- A slab's Take on both. -/
theorem bo_take {W0 w : World} {c : BC} {o : Nat} {os : List Value} {u v : List Nat} {cs : Nat → List Cut} {T : Nat → List Int} (h : BO W0 w c o os u v cs T) (hI : Inv c.f0 u cs) {i : Nat} (hi : i < 2) :
    Calls Try.prog 17 #[.pointer (some ⟨c.s i, 0, none⟩)] w fun e w' => ∃ r e0, e = .returned (.tuple #[.int .i64 r, .int .i64 e0]) ∧ ∃ u' cs', SlT c.f0 u (cs i) r e0 u' cs' ∧ BO W0 w' c o os u' v (up cs i cs') T := by
  refine (bo_slab h hi (R := fun e u' cs' => ∃ r e0, e = .returned (.tuple #[.int .i64 r, .int .i64 e0]) ∧ SlT c.f0 u (cs i) r e0 u' cs') (fun S hS h1 h2 => (stake_any w S (c.s i) c.p c.ub c.f0 (cs i) u hS h.bb.pp h1 h2 (hI.1 i hi)).mono ?_)).mono ?_
  · rintro e w' ⟨r, e0, u', cs', h1, h2, h3, h4, h5⟩
    exact ⟨u', cs', ⟨r, e0, h1, h2⟩, h3, h4, h5⟩
  · rintro e w' ⟨u', cs', ⟨r, e0, h1, h2⟩, h3⟩
    exact ⟨r, e0, h1, u', cs', h2, h3⟩
theorem bo_rtake {W0 w : World} {c : BC} {o : Nat} {os : List Value} {u v : List Nat} {cs ds : Nat → List Cut} {T : Nat → List Int} {i : Nat} (hi : i < 2) (hT : T i = tabsL (ds i)) (h : BO W0 w c o os u v cs T) (hI : Inv c.f0 v ds) (hs : Srt (ds i)) (ha : ∀ c ∈ ds i, c.any = true) (hf : ∀ c ∈ ds i, c.f < 268435456) :
    Calls Try.prog 24 #[.pointer (some ⟨c.t i, 0, none⟩)] w fun e w' => ∃ r e0, e = .returned (.tuple #[.int .i64 r, .int .i64 e0]) ∧ ∃ v' cs', SlT c.f0 v (ds i) r e0 v' cs' ∧ BO W0 w' c o os u v' cs (up T i (tabsL cs')) := by
  refine (bo_rslab h hi (R := fun e v' T' => RTk c.f0 v (ds i) e v' T') (fun S hS h1 h2 => rsTake_any w S (c.t i) c.r c.rb c.f0 v (ds i) (by rw [← hT]; exact hS) h.bb.rp h1 h2 hs ha hf (hI.1 i hi))).mono ?_
  rintro e w' ⟨v', T', ⟨r, e0, cs', h1, h2, h3⟩, h4⟩
  exact ⟨r, e0, h1, v', cs', h2, by rw [← h3]; exact h4⟩
theorem bo_drop {W0 w : World} {c : BC} {o : Nat} {os : List Value} {u v : List Nat} {cs : Nat → List Cut} {T : Nat → List Int} (h : BO W0 w c o os u v cs T) {i : Nat} (hi : i < 2) (x : Int) (hx : x ≤ 9223372036854775807) :
    Calls Try.prog 25 #[.pointer (some ⟨c.s i, 0, none⟩), .int .i64 x] w fun e w' => ∃ e0, e = .returned (.int .i64 e0) ∧ ∃ u' cs', SlD c.f0 u (cs i) x e0 u' cs' ∧ BO W0 w' c o os u' v (up cs i cs') T := by
  refine (bo_slab h hi (R := fun e u' cs' => ∃ e0, e = .returned (.int .i64 e0) ∧ SlD c.f0 u (cs i) x e0 u' cs') (fun S hS h1 h2 => (sdrop_any w S (c.s i) c.p c.ub c.f0 (cs i) u x hS h.bb.pp h1 h2 hx).mono ?_)).mono ?_
  · rintro e w' ⟨e0, u', cs', h1, h2, h3, h4, h5⟩
    exact ⟨u', cs', ⟨e0, h1, h2⟩, h3.mono (fun b hb => .inl hb) (fun b hb => by
      rcases hb with hb | hb
      · exact h3.lowb b hb
      · exact hb.2), h4, h5⟩
  · rintro e w' ⟨u', cs', ⟨e0, h1, h2⟩, h3⟩
    exact ⟨e0, h1, u', cs', h2, h3⟩
theorem bo_rdrop {W0 w : World} {c : BC} {o : Nat} {os : List Value} {u v : List Nat} {cs ds : Nat → List Cut} {T : Nat → List Int} {i : Nat} (hi : i < 2) (hT : T i = tabsL (ds i)) (h : BO W0 w c o os u v cs T) (hs : Srt (ds i)) (hf : ∀ c ∈ ds i, c.f < 268435456) (x : Int) :
    Calls Try.prog 26 #[.pointer (some ⟨c.t i, 0, none⟩), .int .i64 x] w fun e w' => ∃ e0, e = .returned (.int .i64 e0) ∧ ∃ v' cs', SlD c.f0 v (ds i) x e0 v' cs' ∧ BO W0 w' c o os u v' cs (up T i (tabsL cs')) := by
  refine (bo_rslab h hi (R := fun e v' T' => RDr c.f0 v (ds i) x e v' T') (fun S hS h1 h2 => rsDrop_any w S (c.t i) c.r c.rb c.f0 v (ds i) x (by rw [← hT]; exact hS) h.bb.rp h1 h2 hs hf)).mono ?_
  rintro e w' ⟨v', T', ⟨e0, cs', h1, h2, h3⟩, h4⟩
  exact ⟨e0, h1, v', cs', h2, by rw [← h3]; exact h4⟩
end Go.Proofs.Ytplobjdghaokoab
