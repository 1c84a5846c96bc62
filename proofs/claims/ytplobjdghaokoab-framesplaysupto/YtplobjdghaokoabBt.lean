import Derived.Test.YtplobjdghaokoabBs
namespace Go.Proofs.Ytplobjdghaokoab
open Go.RowKit
set_option linter.unusedVariables false

theorem infoPS : (Try.prog.info? 44).map (fun i => (i.zero, i.size, i.bytes)) = some (some (.pointer none), 1, 8) := by kernel_rfl
theorem app_ps {W : World} {lo : Nat} {v : Value} {A : List Value} (h : W.ownsRow lo 44 1 v A.length A) (q : Nat) (hlo : lo ≤ W.heap.size) (hl : A.length ≤ 8796093022208) :
    ∃ v' w', (∀ ty, (Builtin.append_ #[32, 32] ty #[v, .slice (some ⟨W.heap.size, 0, none⟩) 1 1]).run Try.prog (W.alloc (.cells #[.pointer (some ⟨q, 0, none⟩)] 44)) = .ok v' w') ∧ w'.ownsRow lo 44 1 v' (A ++ [Value.pointer (some ⟨q, 0, none⟩)]).length (A ++ [Value.pointer (some ⟨q, 0, none⟩)]) ∧ Turn (fun b => v.ownBlock = some b) W w' ∧ ∀ g, v'.ownBlock = some g → v.ownBlock = some g ∨ W.heap.size ≤ g := by
  obtain ⟨i0, hi, hz0, hz1, hz2⟩ := info_parts infoPS
  have T0 : Turn (fun _ => False) W (W.alloc (.cells #[.pointer (some ⟨q, 0, none⟩)] 44)) := (Turn.refl _ W).alloc _
  have hrow := row_new W [.pointer (some ⟨q, 0, none⟩)] 44
  have hown := own_turn h T0 (fun _ _ h => h)
  have hsz : (W.alloc (.cells #[.pointer (some ⟨q, 0, none⟩)] 44)).heap.size = W.heap.size + 1 := by simp
  have hsrc : Src Try.prog 1 32 (.slice (some ⟨W.heap.size, 0, none⟩) 1 1) 1 [.pointer (some ⟨q, 0, none⟩)] (W.alloc (.cells #[.pointer (some ⟨q, 0, none⟩)] 44)) :=
    Src.ofSlice _ Try.underlying32 ⟨W.heap.size, 0, none⟩ 1 1 _ rfl (fun j u hj => by rw [Addr.add_lit, Nat.zero_add]; exact (hrow.cell j).trans hj) (fun u hu => by simp at hu; subst hu; rfl)
  obtain ⟨v', w', hr, ho, hg, hb⟩ := append_any (P := Try.prog) (W.alloc (.cells #[.pointer (some ⟨q, 0, none⟩)] 44)) 32 44 i0 _ Try.underlying32 hi hz0 (by rw [hz1]; rfl) lo A.length 1 v (.slice (some ⟨W.heap.size, 0, none⟩) 1 1) A [.pointer (some ⟨q, 0, none⟩)] (by rw [hz1]; exact hown) (by rw [hz1]; exact hsrc) (by omega) (by unfold maxLen; omega) (by rw [hz2]; omega)
  rw [hz1] at ho
  refine ⟨v', w', hr, ?_, (T0.mono (S' := fun b => v.ownBlock = some b) (fun _ _ h => h.elim)).trans (Turn.grown (S := fun b => v.ownBlock = some b) hg (fun k hk => .inl hk)) (fun b hb => .inl hb), fun g hg => ?_⟩
  · rw [List.length_append]
    exact ho
  · rcases hb g hg with h1 | h1
    · exact .inl h1
    · exact .inr (by omega)
theorem infoPT : (Try.prog.info? 47).map (fun i => (i.zero, i.size, i.bytes)) = some (some (.pointer none), 1, 8) := by kernel_rfl
theorem app_pt {W : World} {lo : Nat} {v : Value} {A : List Value} (h : W.ownsRow lo 47 1 v A.length A) (q : Nat) (hlo : lo ≤ W.heap.size) (hl : A.length ≤ 8796093022208) :
    ∃ v' w', (∀ ty, (Builtin.append_ #[33, 33] ty #[v, .slice (some ⟨W.heap.size, 0, none⟩) 1 1]).run Try.prog (W.alloc (.cells #[.pointer (some ⟨q, 0, none⟩)] 47)) = .ok v' w') ∧ w'.ownsRow lo 47 1 v' (A ++ [Value.pointer (some ⟨q, 0, none⟩)]).length (A ++ [Value.pointer (some ⟨q, 0, none⟩)]) ∧ Turn (fun b => v.ownBlock = some b) W w' ∧ ∀ g, v'.ownBlock = some g → v.ownBlock = some g ∨ W.heap.size ≤ g := by
  obtain ⟨i0, hi, hz0, hz1, hz2⟩ := info_parts infoPT
  have T0 : Turn (fun _ => False) W (W.alloc (.cells #[.pointer (some ⟨q, 0, none⟩)] 47)) := (Turn.refl _ W).alloc _
  have hrow := row_new W [.pointer (some ⟨q, 0, none⟩)] 47
  have hown := own_turn h T0 (fun _ _ h => h)
  have hsz : (W.alloc (.cells #[.pointer (some ⟨q, 0, none⟩)] 47)).heap.size = W.heap.size + 1 := by simp
  have hsrc : Src Try.prog 1 33 (.slice (some ⟨W.heap.size, 0, none⟩) 1 1) 1 [.pointer (some ⟨q, 0, none⟩)] (W.alloc (.cells #[.pointer (some ⟨q, 0, none⟩)] 47)) :=
    Src.ofSlice _ Try.underlying33 ⟨W.heap.size, 0, none⟩ 1 1 _ rfl (fun j u hj => by rw [Addr.add_lit, Nat.zero_add]; exact (hrow.cell j).trans hj) (fun u hu => by simp at hu; subst hu; rfl)
  obtain ⟨v', w', hr, ho, hg, hb⟩ := append_any (P := Try.prog) (W.alloc (.cells #[.pointer (some ⟨q, 0, none⟩)] 47)) 33 47 i0 _ Try.underlying33 hi hz0 (by rw [hz1]; rfl) lo A.length 1 v (.slice (some ⟨W.heap.size, 0, none⟩) 1 1) A [.pointer (some ⟨q, 0, none⟩)] (by rw [hz1]; exact hown) (by rw [hz1]; exact hsrc) (by omega) (by unfold maxLen; omega) (by rw [hz2]; omega)
  rw [hz1] at ho
  refine ⟨v', w', hr, ?_, (T0.mono (S' := fun b => v.ownBlock = some b) (fun _ _ h => h.elim)).trans (Turn.grown (S := fun b => v.ownBlock = some b) hg (fun k hk => .inl hk)) (fun b hb => .inl hb), fun g hg => ?_⟩
  · rw [List.length_append]
    exact ho
  · rcases hb g hg with h1 | h1
    · exact .inl h1
    · exact .inr (by omega)

def ptrs (s : Nat → Nat) (k : Nat) : List Value := (List.range k).map fun i => .pointer (some ⟨s i, 0, none⟩)
theorem ptrs_succ (s : Nat → Nat) (k q : Nat) : ptrs (up s k q) (k + 1) = ptrs s k ++ [.pointer (some ⟨q, 0, none⟩)] := by
  unfold ptrs
  rw [List.range_succ, List.map_append]
  congr 1
  · apply List.map_congr_left
    intro i hi
    rw [up_other _ _ (by have := List.mem_range.1 hi; omega)]
  · simp [up_same]
theorem ptrs_len (s : Nat → Nat) (k : Nat) : (ptrs s k).length = k := by simp [ptrs]
/-- While begin makes its slabs. -/
structure Bg (W wr : World) (f c k : Nat) (s t : Nat → Nat) (sv tv : Value) : Prop where
  box : RowAt wr (W.heap.size + 4) 35 [.pointer (some ⟨W.heap.size + 1, 0, none⟩), .pointer (some ⟨W.heap.size + 3, 0, none⟩), sv, tv]
  so : wr.ownsRow W.heap.size 44 1 sv k (ptrs s k)
  to : wr.ownsRow W.heap.size 47 1 tv k (ptrs t k)
  pp : PP wr (W.heap.size + 1) W.heap.size f (List.replicate c 0)
  rp : RP wr (W.heap.size + 3) (W.heap.size + 2) f (List.replicate c 0)
  ps : ∀ i, i < k → PS wr (· = s i) (s i) (W.heap.size + 1) []
  rs : ∀ i, i < k → RS wr (· = t i) (t i) (W.heap.size + 3) []
  slo : ∀ i, i < k → W.heap.size + 5 ≤ s i ∧ s i < wr.heap.size
  tlo : ∀ i, i < k → W.heap.size + 5 ≤ t i ∧ t i < wr.heap.size
  sne : ∀ i j, i < j → j < k → s i ≠ s j
  tne : ∀ i j, i < j → j < k → t i ≠ t j
  trn : Turn (fun _ => False) W wr
theorem PS.row {W : World} {S : Nat → Prop} {s p : Nat} {cs : List Cut} (h : PS W S s p cs) : ∃ l, RowAt W s 77 l := by obtain ⟨⟨low, v, h⟩, _⟩ := h; exact ⟨_, h.box⟩
theorem RS.row {W : World} {S : Nat → Prop} {t r : Nat} {T : List Int} (h : RS W S t r T) : ∃ l, RowAt W t 79 l := by obtain ⟨v, h1, _⟩ := h.ex; exact ⟨_, h1⟩
theorem Bg.next {W wr w1 w2 w3 w4 w5 w6 : World} {f c k : Nat} {s t : Nat → Nat} {sv tv sv' tv' : Value} (h : Bg W wr f c k s t sv tv)
    (hs : PS w1 (· = wr.heap.size) wr.heap.size (W.heap.size + 1) []) (x1 : Turn (fun _ => False) wr w1) (z1 : w1.heap.size = wr.heap.size + 1)
    (ht : RS w2 (· = w1.heap.size) w1.heap.size (W.heap.size + 3) []) (x2 : Turn (fun _ => False) w1 w2) (z2 : w2.heap.size = w1.heap.size + 1)
    (so : w3.ownsRow W.heap.size 44 1 sv' (k + 1) (ptrs (up s k wr.heap.size) (k + 1))) (x3 : Turn (fun b => sv.ownBlock = some b) w2 w3) (b3 : ∀ g, sv'.ownBlock = some g → sv.ownBlock = some g ∨ w2.heap.size ≤ g)
    (e4 : w4 = w3.setCell ⟨W.heap.size + 4, 2, none⟩ sv')
    (to : w5.ownsRow W.heap.size 47 1 tv' (k + 1) (ptrs (up t k w1.heap.size) (k + 1))) (x5 : Turn (fun b => tv.ownBlock = some b) w4 w5) (e6 : w6 = w5.setCell ⟨W.heap.size + 4, 3, none⟩ tv') :
    Bg W w6 f c (k + 1) (up s k wr.heap.size) (up t k w1.heap.size) sv' tv' := by
  subst e4
  subst e6
  have T3 : Turn (· = W.heap.size + 4) w3 (w3.setCell ⟨W.heap.size + 4, 2, none⟩ sv') := (Turn.refl (· = W.heap.size + 4) w3).setCell (p := ⟨W.heap.size + 4, 2, none⟩) (.inl rfl) _
  have T6 : Turn (· = W.heap.size + 4) w5 (w5.setCell ⟨W.heap.size + 4, 3, none⟩ tv') := (Turn.refl (· = W.heap.size + 4) w5).setCell (p := ⟨W.heap.size + 4, 3, none⟩) (.inl rfl) _
  have x12 := x1.trans x2 (fun _ h => h.elim)
  have so2 := own_turn h.so x12 (fun _ _ h => h)
  have to2 := own_turn h.to x12 (fun _ _ h => h)
  have tysv : ∀ b, sv.ownBlock = some b → ∃ cur, RowAt w2 b 44 cur := fun b hb => by obtain ⟨cur, h1, _⟩ := own_row so2 hb; exact ⟨cur, h1⟩
  have to3 := own_turn to2 x3 (fun b hb e => by
    obtain ⟨cu, h1⟩ := tysv b e
    obtain ⟨cu2, h2, _⟩ := own_row to2 hb
    exact absurd (h1.ty h2) (by decide))
  have box2 := h.box.turn x12 (fun h => h)
  have box3 := box2.turn x3 (fun e => by obtain ⟨cu, h1⟩ := tysv _ e; exact absurd (h1.ty box2) (by decide))
  have box4 := box3.set 2 sv'
  have to4 := own_turn to3 T3 (fun b hb e => by
    obtain ⟨cu2, h2, _⟩ := own_row to3 hb
    have e' : b = W.heap.size + 4 := e
    subst e'
    exact absurd (h2.ty box3) (by decide))
  have tytv : ∀ b, tv.ownBlock = some b → ∃ cur, RowAt (w3.setCell ⟨W.heap.size + 4, 2, none⟩ sv') b 47 cur := fun b hb => by obtain ⟨cur, h1, _⟩ := own_row to4 hb; exact ⟨cur, h1⟩
  have so4 := own_turn so T3 (fun b hb e => by
    obtain ⟨cu2, h2, _⟩ := own_row so hb
    have e' : b = W.heap.size + 4 := e
    subst e'
    exact absurd (h2.ty box3) (by decide))
  have so5 := own_turn so4 x5 (fun b hb e => by
    obtain ⟨cu, h1⟩ := tytv b e
    obtain ⟨cu2, h2, _⟩ := own_row so4 hb
    exact absurd (h1.ty h2) (by decide))
  have box5 := box4.turn x5 (fun e => by obtain ⟨cu, h1⟩ := tytv _ e; exact absurd (h1.ty box4) (by decide))
  have so6 := own_turn so5 T6 (fun b hb e => by
    obtain ⟨cu2, h2, _⟩ := own_row so5 hb
    have e' : b = W.heap.size + 4 := e
    subst e'
    exact absurd (h2.ty box5) (by decide))
  have to6 := own_turn to T6 (fun b hb e => by
    obtain ⟨cu2, h2, _⟩ := own_row to hb
    have e' : b = W.heap.size + 4 := e
    subst e'
    exact absurd (h2.ty box5) (by decide))
  have hz3 := x3.size
  have hz4 := T3.size
  have hz5 := x5.size
  have hz6 := T6.size
  -- what is neither of the lists' blocks nor the box stays
  have stay : ∀ b e l, RowAt w2 b e l → e ≠ 44 → e ≠ 47 → e ≠ 35 → (¬ (fun b => sv.ownBlock = some b) b) ∧ ¬ ((· = W.heap.size + 4) b) ∧ ¬ ((fun b => tv.ownBlock = some b) b) := fun b e l hr n1 n2 n3 => by
    refine ⟨fun e => ?_, fun e => ?_, fun e => ?_⟩
    · obtain ⟨cu, h1⟩ := tysv b e; exact n1 (hr.ty h1)
    · have e' : b = W.heap.size + 4 := e
      subst e'
      exact n3 (hr.ty box2)
    · obtain ⟨cu2, h2, _⟩ := own_row to2 e
      exact n2 (hr.ty h2)
  have kp : ∀ S p s cs, PS w2 S s p cs → (∀ b, S b → b = s) → PS (w5.setCell ⟨W.heap.size + 4, 3, none⟩ tv') S s p cs := fun S p s cs hp hS => by
    obtain ⟨l, hl⟩ := hp.row
    have st := stay s _ l hl (by decide) (by decide) (by decide)
    exact (((hp.keep x3 (fun b hb => by rw [hS b hb]; exact st.1)).keep T3 (fun b hb => by rw [hS b hb]; exact st.2.1)).keep x5 (fun b hb => by rw [hS b hb]; exact st.2.2)).keep T6 (fun b hb => by rw [hS b hb]; exact st.2.1)
  have kr : ∀ S p s cs, RS w2 S s p cs → (∀ b, S b → b = s) → RS (w5.setCell ⟨W.heap.size + 4, 3, none⟩ tv') S s p cs := fun S p s cs hp hS => by
    obtain ⟨l, hl⟩ := hp.row
    have st := stay s _ l hl (by decide) (by decide) (by decide)
    exact (((hp.keep x3 (fun b hb => by rw [hS b hb]; exact st.1)).keep T3 (fun b hb => by rw [hS b hb]; exact st.2.1)).keep x5 (fun b hb => by rw [hS b hb]; exact st.2.2)).keep T6 (fun b hb => by rw [hS b hb]; exact st.2.1)
  have pp2 := h.pp.keep x12 (fun h => h) (fun h => h)
  have rp2 := h.rp.keep x12 (fun h => h) (fun h => h)
  obtain ⟨low, ppx⟩ := pp2
  have st1 := stay _ _ _ ppx.box (by decide) (by decide) (by decide)
  have st2 := stay _ _ _ ppx.row (by decide) (by decide) (by decide)
  have st3 := stay _ _ _ rp2.box (by decide) (by decide) (by decide)
  have st4 := stay _ _ _ rp2.row (by decide) (by decide) (by decide)
  refine ⟨box5.set 3 tv', so6, to6, ⟨low, (((ppx.keep x3 st1.1 st2.1).keep T3 st1.2.1 st2.2.1).keep x5 st1.2.2 st2.2.2).keep T6 st1.2.1 st2.2.1⟩, (((rp2.keep x3 st3.1 st4.1).keep T3 st3.2.1 st4.2.1).keep x5 st3.2.2 st4.2.2).keep T6 st3.2.1 st4.2.1, fun i hi => ?_, fun i hi => ?_, fun i hi => ?_, fun i hi => ?_, fun i j hij hj => ?_, fun i j hij hj => ?_, ?_⟩
  · by_cases e : i = k
    · subst e
      rw [up_same]
      exact kp _ _ _ _ (hs.keep x2 (fun _ _ h => h)) (fun b hb => hb)
    · rw [up_other _ _ e]
      exact kp _ _ _ _ ((h.ps i (by omega)).keep x12 (fun _ _ h => h)) (fun b hb => hb)
  · by_cases e : i = k
    · subst e
      rw [up_same]
      exact kr _ _ _ _ ht (fun b hb => hb)
    · rw [up_other _ _ e]
      exact kr _ _ _ _ ((h.rs i (by omega)).keep x12 (fun _ _ h => h)) (fun b hb => hb)
  · have hb := h.box.lt
    by_cases e : i = k
    · subst e
      rw [up_same]
      omega
    · rw [up_other _ _ e]
      have := h.slo i (by omega)
      omega
  · have hb := h.box.lt
    by_cases e : i = k
    · subst e
      rw [up_same]
      omega
    · rw [up_other _ _ e]
      have := h.tlo i (by omega)
      omega
  · have h1 := h.slo i
    rw [up_other _ _ (show i ≠ k by omega)]
    by_cases e : j = k
    · subst e
      rw [up_same]
      have := h1 (by omega)
      omega
    · rw [up_other _ _ e]
      exact h.sne i j hij (by omega)
  · have h1 := h.tlo i
    rw [up_other _ _ (show i ≠ k by omega)]
    by_cases e : j = k
    · subst e
      rw [up_same]
      have := h1 (by omega)
      omega
    · rw [up_other _ _ e]
      exact h.tne i j hij (by omega)
  · exact (((((h.trn.trans x12 (fun _ h => h.elim)).trans x3 (fun b hb => .inr (own_row so2 hb).choose_spec.2)).trans T3 (fun b hb => .inr (by rw [hb]; omega))).trans x5 (fun b hb => .inr (own_row to4 hb).choose_spec.2)).trans T6 (fun b hb => .inr (by rw [hb]; omega)))
end Go.Proofs.Ytplobjdghaokoab
