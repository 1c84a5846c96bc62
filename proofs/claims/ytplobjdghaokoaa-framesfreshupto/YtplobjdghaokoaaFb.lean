import Derived.Test.YtplobjdghaokoaaFa
namespace Go.Proofs.Ytplobjdghaokoaa
open Go.RowKit
set_option linter.unusedVariables false

/-- A list that is owned, and where it came to lie. -/
structure Ent where
  v : Value
  t : TypeId
  sz : Nat
  n : Nat
  xs : List Value
  lo : Nat
  hi : Nat
structure Own (w : World) (b0 : Nat) (es : List Ent) : Prop where
  own : ∀ e ∈ es, w.ownsRow e.lo e.t e.sz e.v e.n e.xs
  hi : ∀ e ∈ es, ∀ g, e.v.ownBlock = some g → e.lo ≤ g ∧ g < e.hi
  ord : es.Pairwise (fun a b => a.hi ≤ b.lo)
  top : ∀ e ∈ es, b0 ≤ e.lo ∧ e.hi ≤ w.heap.size
  lh : ∀ e ∈ es, e.lo ≤ e.hi
theorem own_nil (w : World) (b0 : Nat) : Own w b0 [] := ⟨fun e he => absurd he (by simp), fun e he => absurd he (by simp), List.Pairwise.nil, fun e he => absurd he (by simp), fun e he => absurd he (by simp)⟩
theorem ord_idx {es : List Ent} (h : es.Pairwise (fun a b => a.hi ≤ b.lo)) {i j : Nat} {a b : Ent} (hi : es[i]? = some a) (hj : es[j]? = some b) (hij : i ≠ j) : a.hi ≤ b.lo ∨ b.hi ≤ a.lo := by
  obtain ⟨a1, rfl⟩ := List.getElem?_eq_some_iff.1 hi
  obtain ⟨b1, rfl⟩ := List.getElem?_eq_some_iff.1 hj
  rcases Nat.lt_or_gt_of_ne hij with h1 | h1
  · exact .inl (List.pairwise_iff_getElem.1 h i j a1 b1 h1)
  · exact .inr (List.pairwise_iff_getElem.1 h j i b1 a1 h1)
section
variable {w w' : World} {b0 : Nat} {es : List Ent}
theorem Own.keep (h : Own w b0 es) (X : Turn (fun _ => False) w w') : Own w' b0 es :=
  ⟨fun e he => own_turn (h.own e he) X (fun _ _ h => h), h.hi, h.ord, fun e he => ⟨(h.top e he).1, Nat.le_trans (h.top e he).2 X.size⟩, h.lh⟩
theorem Own.add (h : Own w b0 es) (X : Turn (fun _ => False) w w') {t : TypeId} {sz n : Nat} {v : Value} {xs : List Value} (ho : w'.ownsRow w.heap.size t sz v n xs) (hb : b0 ≤ w.heap.size) : Own w' b0 (es ++ [⟨v, t, sz, n, xs, w.heap.size, w'.heap.size⟩]) := by
  have h' := h.keep X
  refine ⟨fun e he => ?_, fun e he => ?_, ?_, fun e he => ?_, fun e he => ?_⟩
  · rcases List.mem_append.1 he with he | he
    · exact h'.own e he
    · simp at he; subst he; exact ho
  · rcases List.mem_append.1 he with he | he
    · exact h'.hi e he
    · simp at he; subst he; exact fun g hg => own_block_new ho hg
  · rw [List.pairwise_append]
    refine ⟨h.ord, by simp, fun a ha b hb => ?_⟩
    simp at hb
    subst hb
    exact (h.top a ha).2
  · rcases List.mem_append.1 he with he | he
    · exact h'.top e he
    · simp at he; subst he; exact ⟨hb, Nat.le_refl _⟩
  · rcases List.mem_append.1 he with he | he
    · exact h'.lh e he
    · simp at he; subst he; exact X.size
/-- Another list's block. -/
theorem Own.apart (h : Own w b0 es) {i j : Nat} {a b : Ent} (hi : es[i]? = some a) (hj : es[j]? = some b) (hij : i ≠ j) {g : Nat} (hg : a.v.ownBlock = some g) : b.v.ownBlock ≠ some g := fun hg2 => by
  have h1 := h.hi a (List.mem_of_getElem? hi) g hg
  have h2 := h.hi b (List.mem_of_getElem? hj) g hg2
  rcases ord_idx h.ord hi hj hij with h3 | h3 <;> omega
theorem Own.app (h : Own w b0 es) {i : Nat} {e : Ent} (hi : es[i]? = some e) (X : Turn (fun b => e.v.ownBlock = some b) w w') (ho : w'.ownsRow e.lo e.t e.sz e.v e.n e.xs) : Own w' b0 es := by
  refine ⟨fun a ha => ?_, h.hi, h.ord, fun e he => ⟨(h.top e he).1, Nat.le_trans (h.top e he).2 X.size⟩, h.lh⟩
  obtain ⟨j, hj⟩ := List.mem_iff_getElem?.1 ha
  by_cases e2 : j = i
  · subst e2
    rw [hi] at hj
    cases hj
    exact ho
  · exact own_turn (h.own a ha) X (fun g hg => h.apart hj hi e2 hg)
end
/-- What was appended onto list i, at g. -/
structure Ap where
  i : Nat
  g : Nat
  c : Value
structure Aps (w : World) (b1 : Nat) (es : List Ent) (ps : List Ap) : Prop where
  at_ : ∀ q ∈ ps, ∃ e, es[q.i]? = some e ∧ w.cell? ⟨q.g, e.n * e.sz, none⟩ = some q.c ∧ q.g < w.heap.size ∧ (e.v.ownBlock = some q.g ∨ b1 ≤ q.g)
theorem aps_nil (w : World) (b1 : Nat) (es : List Ent) : Aps w b1 es [] := ⟨fun q hq => absurd hq (by simp)⟩
theorem Aps.app {w w' : World} {b0 b1 : Nat} {es : List Ent} {ps : List Ap} (h : Aps w b1 es ps) (hO : Own w b0 es) (ht : ∀ e ∈ es, e.hi ≤ b1) (hb : b1 ≤ w.heap.size) {i g : Nat} {e : Ent} {c : Value} (hi : es[i]? = some e) (hni : ∀ q ∈ ps, q.i ≠ i) (X : Turn (fun b => e.v.ownBlock = some b) w w') (hg : e.v.ownBlock = some g ∨ w.heap.size ≤ g) (hc : w'.cell? ⟨g, e.n * e.sz, none⟩ = some c) (hl : g < w'.heap.size) : Aps w' b1 es (ps ++ [⟨i, g, c⟩]) := by
  refine ⟨fun q hq => ?_⟩
  rcases List.mem_append.1 hq with hq | hq
  · obtain ⟨e2, h1, h2, h3, h4⟩ := h.at_ q hq
    refine ⟨e2, h1, ?_, Nat.lt_of_lt_of_le h3 X.size, h4⟩
    rw [X.cell h3 (fun hg2 => ?_)]
    · exact h2
    · rcases h4 with h4 | h4
      · exact hO.apart h1 hi (hni q hq) h4 hg2
      · have h5 := hO.hi e (List.mem_of_getElem? hi) q.g hg2
        have h6 := ht e (List.mem_of_getElem? hi)
        omega
  · simp at hq
    subst hq
    exact ⟨e, hi, hc, hl, by
      rcases hg with hg | hg
      · exact .inl hg
      · exact .inr (by show b1 ≤ g; omega)⟩
/-- Lists that are written full of marks. -/
def wri (i : Nat) : Prop := i = 0 ∨ i = 1 ∨ i = 3 ∨ i = 4 ∨ i = 5
def mkI (i : Nat) : Value := .int .i64 (if i = 0 then -5 else if i = 1 then -6 else if i = 3 then -7 else if i = 4 then -8 else -9)
structure FW (w0 wr : World) (b0 b1 : Nat) (es : List Ent) (ps : List Ap) (kk : Nat → Nat) : Prop where
  o0 : Own w0 b0 es
  tp : ∀ e ∈ es, e.hi ≤ b1
  a0 : Aps w0 b1 es ps
  turn : Turn (fun b => ∃ i e, es[i]? = some e ∧ wri i ∧ e.v.ownBlock = some b) w0 wr
  row : ∀ i e, es[i]? = some e → wri i → ∀ g, e.v.ownBlock = some g → ∃ cur, RowAt wr g e.t cur ∧ e.n * e.sz ≤ cur.length ∧ ∀ j, j < kk i → cur[j * e.sz]? = some (mkI i)
  app : ∀ q ∈ ps, ∃ e, es[q.i]? = some e ∧ wr.cell? ⟨q.g, e.n * e.sz, none⟩ = some q.c
section
variable {w0 wr : World} {b0 b1 : Nat} {es : List Ent} {ps : List Ap} {kk : Nat → Nat}
theorem FW.begin (h : Own w0 b0 es) (ht : ∀ e ∈ es, e.hi ≤ b1) (ha : Aps w0 b1 es ps) : FW w0 w0 b0 b1 es ps (fun _ => 0) := by
  refine ⟨h, ht, ha, Turn.refl _ _, fun i e hi _ g hg => ?_, fun q hq => ?_⟩
  · rcases row_of_own (h.own e (List.mem_of_getElem? hi)) with ⟨e1, _, _⟩ | ⟨g', cap, cur, e1, h2, h3, h4, h5, h6, h7⟩
    · rw [e1] at hg; cases hg
    · rw [e1] at hg
      cases hg
      exact ⟨cur, h3, by rw [h6]; exact Nat.mul_le_mul_right _ h4, fun j hj => by omega⟩
  · obtain ⟨e, h1, h2, _⟩ := ha.at_ q hq
    exact ⟨e, h1, h2⟩
theorem FW.set (h : FW w0 wr b0 b1 es ps kk) {i : Nat} {e : Ent} (hi : es[i]? = some e) (hw : wri i) {g : Nat} (hg : e.v.ownBlock = some g) {o : Nat} (ho : o < e.n * e.sz) (v : Value) (hv : ∀ j, j < kk i → j * e.sz = o → v = mkI i) : FW w0 (wr.setCell ⟨g, o, none⟩ v) b0 b1 es ps kk := by
  refine ⟨h.o0, h.tp, h.a0, h.turn.setCell (p := ⟨g, o, none⟩) (.inl ⟨i, e, hi, hw, hg⟩) v, fun j e2 hj hw2 g2 hg2 => ?_, fun q hq => ?_⟩
  · obtain ⟨cur, h1, h2, h3⟩ := h.row j e2 hj hw2 g2 hg2
    by_cases hij : j = i
    · subst hij
      rw [hi] at hj
      cases hj
      rw [hg] at hg2
      cases hg2
      refine ⟨cur.set o v, h1.set o v, by rw [List.length_set]; exact h2, fun k hk => ?_⟩
      by_cases ek : k * e.sz = o
      · rw [ek, List.getElem?_set_self (by omega), hv k hk ek]
      · rw [List.getElem?_set_ne (fun e0 => ek e0.symm)]
        exact h3 k hk
    · have hne : g2 ≠ g := fun e0 => h.o0.apart hj hi hij hg2 (by rw [e0]; exact hg)
      exact ⟨cur, h1.setO hne o v, h2, h3⟩
  · obtain ⟨e2, h1, h2⟩ := h.app q hq
    refine ⟨e2, h1, ?_⟩
    have hne : (⟨g, o, none⟩ : Addr) ≠ ⟨q.g, e2.n * e2.sz, none⟩ := fun e0 => by
      injection e0 with e3 e4 _
      obtain ⟨e5, h5, _, _, h6⟩ := h.a0.at_ q hq
      rw [h1] at h5
      cases h5
      rcases h6 with h6 | h6
      · by_cases hij : q.i = i
        · rw [hij, hi] at h1
          cases h1
          omega
        · exact h.o0.apart h1 hi hij h6 (by rw [← e3]; exact hg)
      · have h7 := h.o0.hi e (List.mem_of_getElem? hi) g hg
        have h8 := h.tp e (List.mem_of_getElem? hi)
        omega
    rw [World.cell?_setCell_other _ _ _ _ hne]
    exact h2
theorem FW.mark (h : FW w0 wr b0 b1 es ps kk) {i : Nat} {e : Ent} (hi : es[i]? = some e) {j : Nat} (hk : kk i = j) {g : Nat} (hg : e.v.ownBlock = some g) (hc : wr.cell? ⟨g, j * e.sz, none⟩ = some (mkI i)) : FW w0 wr b0 b1 es ps (up kk i (j + 1)) := by
  refine ⟨h.o0, h.tp, h.a0, h.turn, fun k e2 hj hw2 g2 hg2 => ?_, h.app⟩
  obtain ⟨cur, h1, h2, h3⟩ := h.row k e2 hj hw2 g2 hg2
  refine ⟨cur, h1, h2, fun t ht => ?_⟩
  by_cases hki : k = i
  · subst hki
    rw [hi] at hj
    cases hj
    rw [hg] at hg2
    cases hg2
    rw [up_same] at ht
    by_cases e0 : t = j
    · subst e0
      rw [h1.cell] at hc
      exact hc
    · exact h3 t (by omega)
  · rw [up_other _ _ hki] at ht
    exact h3 t ht
theorem FW.has (h : FW w0 wr b0 b1 es ps kk) {i : Nat} {e : Ent} (hi : es[i]? = some e) (hn : 0 < e.n) : ∃ g cap, e.v = .slice (some ⟨g, 0, none⟩) e.n cap := by
  rcases row_of_own (h.o0.own e (List.mem_of_getElem? hi)) with ⟨_, e1, _⟩ | ⟨g', cap, cur, e1, _⟩
  · omega
  · exact ⟨g', cap, e1⟩
end
end Go.Proofs.Ytplobjdghaokoaa
