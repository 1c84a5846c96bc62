import Derived.Test.YtlfgnbjioofplabBo
import Derived.Deep.RegionHeld3
namespace Go.Proofs.Ytlfgnbjioofplab
open Go.RowKit
set_option linter.unusedVariables false

theorem take_set {α : Type} (l : List α) (k : Nat) (u : α) (h : k < l.length) : (l.set k u).take (k + 1) = l.take k ++ [u] := by
  rw [List.take_succ_eq_append_getElem (by simpa using h), List.getElem_set_self]
  congr 1
  rw [List.take_set_of_le (Nat.le_refl k)]

/-- A row that is being written full of marks. -/
def Mk (w W : World) (Q : Nat → Prop) (g : Nat) (e : TypeId) (u : Value) (len k : Nat) : Prop := Turn Q W w ∧ ∃ cur, RowAt w g e cur ∧ cur.length = len ∧ cur.take k = List.replicate k u
theorem Mk.next {w W : World} {Q : Nat → Prop} {g : Nat} {e : TypeId} {u : Value} {len k : Nat} (h : Mk w W Q g e u len k) (hQ : Q g) (hk : k < len) : Mk (w.setCell ⟨g, k, none⟩ u) W Q g e u len (k + 1) := by
  obtain ⟨T, cur, hr, hl, ht⟩ := h
  refine ⟨T.setCell (p := ⟨g, k, none⟩) (.inl hQ) _, cur.set k u, hr.set k u, by rw [List.length_set]; exact hl, ?_⟩
  rw [take_set _ _ _ (by omega), ht, List.replicate_succ']

/-- One cell more at the end of a list of the call's own. -/
theorem app_loop (w : World) (t e : TypeId) (z : Value) (bys : Nat) (ht : Try.prog.underlying t = some (.slice e)) (hinf : (Try.prog.info? e).map (fun i => (i.zero, i.size, i.bytes)) = some (some z, 1, bys)) (hzs : z.cells.size = 1) (hb : bys ≤ 64) (v : Value) (n : Nat) (xs : List Value) (u : Value) (hu : u.oneCell' = true) (ho : w.ownsRow 0 e 1 v n xs) (hk : n ≤ 268435456) :
    ∃ a c w', (∀ ty, (Builtin.append_ #[t, t] ty #[v, .slice (some ⟨w.heap.size, 0, none⟩) 1 1]).run Try.prog (w.alloc (.cells #[u] e)) = .ok (.slice a (n + 1) c) w') ∧ w'.ownsRow 0 e 1 (.slice a (n + 1) c) (n + 1) (xs ++ [u]) ∧ Turn (fun b => v.ownBlock = some b) w w' ∧ (∀ g, (Value.slice a (n + 1) c).ownBlock = some g → v.ownBlock = some g ∨ w.heap.size ≤ g) ∧
      ∀ l ys, In w e l ys → (l.ownBlock = v.ownBlock → xs.take ys.length = ys) → ys.length ≤ n → In w' e l ys := by
  obtain ⟨i0, hi, hz0, hz1, hz2⟩ := info_parts hinf
  have hB := row_new w [u] e
  have T0 : Turn (fun _ => False) w (w.alloc (.cells #[u] e)) := (Turn.refl (fun _ => False) w).alloc _
  have ho2 := own_turn ho T0 (fun _ _ h => h)
  have hxl : xs.length = n := by have := ho.1; rwa [Nat.mul_one] at this
  have hmul : (n + 1) * bys ≤ 268435457 * 64 := Nat.mul_le_mul (by omega) hb
  obtain ⟨v', w', hr, ho', hg⟩ := app_keep (P := Try.prog) (w.alloc (.cells #[u] e)) t e i0 _ ht hi hz0 (by rw [hz1]; exact hzs) 0 n 1 v (.slice (some ⟨w.heap.size, 0, none⟩) 1 1) xs [u] (by rw [hz1]; exact ho2)
    (by rw [hz1]; exact Src.ofSlice _ ht ⟨w.heap.size, 0, none⟩ 1 1 _ rfl (fun j y hj => by rw [Addr.add_lit, Nat.zero_add]; exact (hB.cell j).trans hj) (fun y hy => by simp at hy; subst hy; exact hu)) (Nat.zero_le _) (by unfold maxLen; omega) (by rw [hz2]; omega)
  rw [hz1] at ho'
  obtain ⟨a, c, rfl⟩ := slice_form ho'
  refine ⟨a, c, w', hr, ho', ?_, fun g hgv => ?_, fun l ys hl hp hy => ?_⟩
  · refine (T0.mono (fun _ _ h => h.elim)).trans (S' := fun b => v.ownBlock = some b) ?_ (fun x hx => .inl hx)
    rcases hg with ⟨hg, _⟩ | ⟨g, hg1, hg2, hg⟩
    · exact Turn.grown hg (fun k hk => by cases hk)
    · exact Turn.grown hg (fun k hk => by cases hk; exact .inl hg1)
  · rcases hg with ⟨_, hg⟩ | ⟨g', hg1, hg2, hg⟩
    · exact .inr (Nat.le_trans T0.size (hg g hgv))
    · rw [hgv] at hg2
      cases hg2
      exact .inl hg1
  · have hl2 := hl.turn T0 (fun _ _ h => h)
    rcases hg with ⟨hg, _⟩ | ⟨g, hg1, hg2, hg⟩
    · exact hl2.turn (Turn.grown (S := fun _ => False) hg (fun k hk => by cases hk)) (fun _ _ h => h)
    · obtain ⟨gl, cap, cur, rfl, h1, h2⟩ := hl2
      by_cases e1 : gl = g
      · subst e1
        rcases row_of_own ho' with ⟨q1, _⟩ | ⟨g', cp, cur', q1, q2, q3, q4, q5, q6, q7⟩
        · cases q1
        · cases q1
          cases hg2
          refine ⟨_, cap, cur', rfl, q3, ?_⟩
          rw [Nat.mul_one] at q7
          have := congrArg (fun l => l.take ys.length) q7
          simp only [List.take_take] at this
          rw [Nat.min_eq_left (by omega), List.take_append_of_le_length (by omega), hp hg1.symm] at this
          exact this
      · exact ⟨gl, cap, cur, rfl, h1.grown hg (fun e => e1 (by cases e; rfl)), h2⟩

theorem In.apart {w : World} {e : TypeId} {l : Value} {ys : List Value} {bb : Nat} {v : Nat → Value} {x : Nat → List Value} (h : In w e l ys) (he : e = 5 ∨ e = 3) (hO : BO w bb v x) {b : Nat} (hb : l.ownBlock = some b) : b ≠ bb ∧ ∀ j, j < 4 → (v j).ownBlock ≠ some b := by
  obtain ⟨cur, hr⟩ := h.row hb
  refine ⟨fun e => ?_, fun j hj e => ?_⟩
  · subst e
    have := row_ty hr hO.box
    rcases he with rfl | rfl
    · exact absurd this (by decide)
    · exact absurd this (by decide)
  · obtain ⟨cur', hr'⟩ := own_row (hO.own j hj) e
    have := row_ty hr hr'
    rcases he with rfl | rfl
    · exact (ty_ne j).2.1 this.symm
    · exact (ty_ne j).2.2 this.symm

/-- Lists being taken into a book. -/
structure TS (W w : World) (bb : Nat) (v0 v : Nat → Value) (x : Nat → List Value) (es : List Ent) (gl gt : Nat) (ys : List (TypeId × Value × List Value)) : Prop where
  bo : BO w bb v x
  inn : ∀ e ∈ es, Inn w e
  ins : ∀ y ∈ ys, (y.1 = 5 ∨ y.1 = 3) ∧ In w y.1 y.2.1 y.2.2
  trn : Turn (fun b => b = bb ∨ (∃ k, k < 4 ∧ (v0 k).ownBlock = some b) ∨ b = gl ∨ b = gt) W w
  new : ∀ k b, k < 4 → (v k).ownBlock = some b → (v0 k).ownBlock = some b ∨ W.heap.size ≤ b
section
variable {W w w' : World} {bb : Nat} {v0 v : Nat → Value} {x : Nat → List Value} {es : List Ent} {gl gt : Nat} {ys : List (TypeId × Value × List Value)}
theorem TS.keep (h : TS W w bb v0 v x es gl gt ys) (T : Turn (fun _ => False) w w') : TS W w' bb v0 v x es gl gt ys :=
  ⟨h.bo.keep T (fun h => h) (fun _ _ _ _ h => h), fun e he => (h.inn e he).keep T (fun _ _ _ _ h => h), fun y hy => ⟨(h.ins y hy).1, (h.ins y hy).2.turn T (fun _ _ h => h)⟩, h.trn.trans T (fun _ h => h.elim), h.new⟩
theorem TS.step (h : TS W w bb v0 v x es gl gt ys) {k : Nat} (hk : k < 4) (u : Value) (hu : u.oneCell' = true) (hl : (x k).length ≤ 268435456) :
    ∃ a c w', (∀ ty', (Builtin.append_ #[tyS k, tyS k] ty' #[v k, .slice (some ⟨w.heap.size, 0, none⟩) 1 1]).run Try.prog (w.alloc (.cells #[u] (ty k))) = .ok (.slice a ((x k).length + 1) c) w') ∧
      TS W (w'.setCell ⟨bb, k, none⟩ (.slice a ((x k).length + 1) c)) bb v0 (up v k (.slice a ((x k).length + 1) c)) (up x k (x k ++ [u])) es gl gt ys ∧ w'.cell? ⟨bb, k, none⟩ = some (v k) ∧ w'.frozen? ⟨bb, k, none⟩ = false := by
  obtain ⟨a, c, w', hr, hO, hT, hN, hc, hf⟩ := h.bo.step hk u hu hl
  refine ⟨a, c, w', hr, ⟨hO, fun e he => ?_, fun y hy => ?_, h.trn.trans hT ?_, ?_⟩, hc, hf⟩
  · refine (h.inn e he).keep hT (fun j b hj hb hq => ?_)
    obtain ⟨q1, q2⟩ := (h.inn e he).apart h.bo hj hb
    rcases hq with hq | hq
    · exact q1 hq
    · exact q2 k hk hq
  · refine ⟨(h.ins y hy).1, (h.ins y hy).2.turn hT (fun b hb hq => ?_)⟩
    obtain ⟨q1, q2⟩ := (h.ins y hy).2.apart (h.ins y hy).1 h.bo hb
    rcases hq with hq | hq
    · exact q1 hq
    · exact q2 k hk hq
  · rintro b (hb | hb)
    · exact .inl (.inl hb)
    · rcases h.new k b hk hb with hq | hq
      · exact .inl (.inr (.inl ⟨k, hk, hq⟩))
      · exact .inr hq
  · intro j b hj hb
    by_cases e : j = k
    · subst e
      rw [up_same] at hb
      rcases hN b hb with hq | hq
      · exact h.new j b hj hq
      · exact .inr (Nat.le_trans h.trn.size hq)
    · rw [up_other _ _ e] at hb
      exact h.new j b hj hb
theorem TS.stp (h : TS W w bb v0 v x es gl gt ys) {k : Nat} (hk : k < 4) {t e : TypeId} (ht : tyS k = t) (he : ty k = e) {n : Nat} {a0 : Option Addr} {c0 : Nat} (f0 : v k = .slice a0 n c0) (hn : (x k).length = n) (hl : n ≤ 268435456) (u : Value) (hu : u.oneCell' = true) :
    ∃ a c w', (∀ ty', (Builtin.append_ #[t, t] ty' #[.slice a0 n c0, .slice (some ⟨w.heap.size, 0, none⟩) 1 1]).run Try.prog (w.alloc (.cells #[u] e)) = .ok (.slice a (n + 1) c) w') ∧
      TS W (w'.setCell ⟨bb, k, none⟩ (.slice a (n + 1) c)) bb v0 (up v k (.slice a (n + 1) c)) (up x k (x k ++ [u])) es gl gt ys ∧ w'.cell? ⟨bb, k, none⟩ = some (.slice a0 n c0) ∧ w'.frozen? ⟨bb, k, none⟩ = false := by
  subst hn
  subst ht
  subst he
  have := h.step hk u hu hl
  rw [f0] at this
  exact this
theorem TS.form (h : TS W w bb v0 v x es gl gt ys) {k : Nat} (hk : k < 4) {n : Nat} (hn : (x k).length = n) : ∃ a c, v k = .slice a n c ∧ w.cell? ⟨bb, k, none⟩ = some (.slice a n c) := by
  subst hn
  obtain ⟨a, c, e⟩ := h.bo.form hk
  have := h.bo.cell hk
  rw [e] at this
  exact ⟨a, c, e, this⟩
theorem TS.copy (h : TS W w bb v0 v x es gl gt ys) (t e : TypeId) (z : Value) (bys : Nat) (l : Value) (xs : List Value) {n : Nat} (hn : xs.length = n) (hy : (e, l, xs) ∈ ys) (ht : Try.prog.underlying t = some (.slice e)) (hinf : (Try.prog.info? e).map (fun i => (i.zero, i.size, i.bytes)) = some (some z, 1, bys)) (hzs : z.cells.size = 1) (hb : bys ≤ 64) (h1 : ∀ u ∈ xs, u.oneCell' = true) (hl : n ≤ 1048576) :
    ∃ g cp w', (∀ ty, (Builtin.append_ #[t, t] ty #[.slice (some ⟨w.heap.size, 0, none⟩) 0 0, l]).run Try.prog ((w.alloc (.cells #[] e)).drew) = .ok (.slice (some ⟨g, 0, none⟩) n cp) w') ∧ W.heap.size ≤ g ∧ TS W w' bb v0 v x es gl gt ((e, .slice (some ⟨g, 0, none⟩) n cp, xs) :: ys) := by
  subst hn
  have h := h.keep (w' := w.drew) ⟨rfl, rfl, rfl, Nat.le_refl _, fun _ _ _ => rfl⟩
  obtain ⟨hy1, hy2⟩ := h.ins _ hy
  obtain ⟨g, cp, w', hr, hg, hi, hT⟩ := app_copy w.drew t e z bys ht hinf hzs l xs hy2 h1 hl hb
  have hk := h.keep hT
  refine ⟨g, cp, w', hr, Nat.le_trans h.trn.size hg, ⟨hk.bo, hk.inn, fun y' hy' => ?_, hk.trn, hk.new⟩⟩
  rcases List.mem_cons.1 hy' with rfl | hy'
  · exact ⟨hy1, hi⟩
  · exact hk.ins y' hy'
end

end Go.Proofs.Ytlfgnbjioofplab
