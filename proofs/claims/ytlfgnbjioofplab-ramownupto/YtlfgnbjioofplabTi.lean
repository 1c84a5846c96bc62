import Derived.Test.YtlfgnbjioofplabTj
namespace Go.Proofs.Ytlfgnbjioofplab
open Go.RowKit
set_option linter.unusedVariables false

theorem BO.congr {w : World} {bb : Nat} {v : Nat → Value} {x x' : Nat → List Value} (h : BO w bb v x) (hx : ∀ k, k < 4 → x k = x' k) : BO w bb v x' :=
  ⟨h.box, fun k hk => by rw [← hx k hk]; exact h.own k hk, h.dis⟩

/-- Two lists that go on growing. -/
structure L3 (X w : World) (gl gt nt ct : Nat) (ml mt : List Value) (kl kt : Nat) (lv tv : Value) : Prop where
  trn : Turn (fun b => b = gl ∨ b = gt) X w
  il : In w 5 (.slice (some ⟨gl, 0, none⟩) 64 64) ml
  it : In w 3 (.slice (some ⟨gt, 0, none⟩) nt ct) mt
  ol : ∃ xs, w.ownsRow 0 5 1 lv (64 + kl) xs ∧ xs.take 64 = ml
  ot : ∃ xs, w.ownsRow 0 3 1 tv (nt + kt) xs ∧ xs.take nt = mt
  newL : ∀ g, lv.ownBlock = some g → g = gl ∨ X.heap.size ≤ g
  newT : ∀ g, tv.ownBlock = some g → g = gt ∨ X.heap.size ≤ g
section
variable {X w : World} {gl gt nt ct : Nat} {ml mt : List Value} {kl kt : Nat} {lv tv : Value}
theorem L3.lenL (h : L3 X w gl gt nt ct ml mt kl kt lv tv) : ml.length = 64 := by
  obtain ⟨g, cap, cur, e, _⟩ := h.il
  injection e with _ e _
  exact e.symm
theorem L3.lenT (h : L3 X w gl gt nt ct ml mt kl kt lv tv) : mt.length = nt := by
  obtain ⟨g, cap, cur, e, _⟩ := h.it
  injection e with _ e _
  exact e.symm
theorem u8_ne_int : (5 : TypeId) ≠ 3 := by decide
theorem L3.stepL (h : L3 X w gl gt nt ct ml mt kl kt lv tv) (hk : kl ≤ 64) :
    ∃ a c w', (∀ ty, (Builtin.append_ #[33, 33] ty #[lv, .slice (some ⟨w.heap.size, 0, none⟩) 1 1]).run Try.prog (w.alloc (.cells #[.int .u8 99] 5)) = .ok (.slice a (64 + kl + 1) c) w') ∧ L3 X w' gl gt nt ct ml mt (kl + 1) kt (.slice a (64 + kl + 1) c) tv := by
  have hL := h.lenL
  have hTl := h.lenT
  obtain ⟨xs, ho, hx⟩ := h.ol
  obtain ⟨a, c, w', hr, ho', hT, hN, hI⟩ := app_loop w 33 5 (.int .u8 0) 1 Try.underlying33 info8 rfl (by omega) lv (64 + kl) xs (.int .u8 99) rfl ho (by omega)
  have hxl : xs.length = 64 + kl := by have := ho.1; rwa [Nat.mul_one] at this
  have hz := h.trn.size
  have hty : ∀ g cur, lv.ownBlock = some g → ¬ RowAt w g 3 cur := fun g cur hg hr => by
    obtain ⟨cur', hr'⟩ := own_row ho hg
    exact u8_ne_int (row_ty hr' hr)
  refine ⟨a, c, w', hr, ⟨h.trn.trans hT (fun g hg => ?_), hI _ _ h.il (fun _ => by rw [hL]; exact hx) (by omega), h.it.turn hT (fun g hg hq => ?_), ⟨_, ho', ?_⟩, ?_, fun g hg => ?_, h.newT⟩⟩
  · rcases h.newL g hg with hq | hq
    · exact .inl (.inl hq)
    · exact .inr hq
  · obtain ⟨cur, hr⟩ := h.it.row hg
    exact hty g cur hq hr
  · rw [List.take_append_of_le_length (by omega)]; exact hx
  · obtain ⟨ys, hy1, hy2⟩ := h.ot
    refine ⟨ys, own_turn hy1 hT (fun g hg hq => ?_), hy2⟩
    obtain ⟨cur, hr⟩ := own_row hy1 hg
    exact hty g cur hq hr
  · rcases hN g hg with hq | hq
    · exact h.newL g hq
    · exact .inr (Nat.le_trans hz hq)
theorem L3.stepT (h : L3 X w gl gt nt ct ml mt kl kt lv tv) (hk : kt ≤ 64) (hn : nt ≤ 65536) :
    ∃ a c w', (∀ ty, (Builtin.append_ #[47, 47] ty #[tv, .slice (some ⟨w.heap.size, 0, none⟩) 1 1]).run Try.prog (w.alloc (.cells #[.int .i64 (-4)] 3)) = .ok (.slice a (nt + kt + 1) c) w') ∧ L3 X w' gl gt nt ct ml mt kl (kt + 1) lv (.slice a (nt + kt + 1) c) := by
  have hL := h.lenL
  have hTl := h.lenT
  obtain ⟨xs, ho, hx⟩ := h.ot
  obtain ⟨a, c, w', hr, ho', hT, hN, hI⟩ := app_loop w 47 3 (.int .i64 0) 8 Try.underlying47 infoI rfl (by omega) tv (nt + kt) xs (.int .i64 (-4)) rfl ho (by omega)
  have hxl : xs.length = nt + kt := by have := ho.1; rwa [Nat.mul_one] at this
  have hz := h.trn.size
  have hty : ∀ g cur, tv.ownBlock = some g → ¬ RowAt w g 5 cur := fun g cur hg hr => by
    obtain ⟨cur', hr'⟩ := own_row ho hg
    exact u8_ne_int (row_ty hr hr')
  refine ⟨a, c, w', hr, ⟨h.trn.trans hT (fun g hg => ?_), h.il.turn hT (fun g hg hq => ?_), hI _ _ h.it (fun _ => by rw [hTl]; exact hx) (by omega), ?_, ⟨_, ho', ?_⟩, h.newL, fun g hg => ?_⟩⟩
  · rcases h.newT g hg with hq | hq
    · exact .inl (.inr hq)
    · exact .inr hq
  · obtain ⟨cur, hr⟩ := h.il.row hg
    exact hty g cur hq hr
  · obtain ⟨ys, hy1, hy2⟩ := h.ol
    refine ⟨ys, own_turn hy1 hT (fun g hg hq => ?_), hy2⟩
    obtain ⟨cur, hr⟩ := own_row hy1 hg
    exact hty g cur hq hr
  · rw [List.take_append_of_le_length (by omega)]; exact hx
  · rcases hN g hg with hq | hq
    · exact h.newT g hq
    · exact .inr (Nat.le_trans hz hq)
theorem L3.formL (h : L3 X w gl gt nt ct ml mt kl kt lv tv) : ∃ a c, lv = .slice a (64 + kl) c := by
  obtain ⟨xs, ho, _⟩ := h.ol
  exact slice_form ho
theorem L3.formT (h : L3 X w gl gt nt ct ml mt kl kt lv tv) : ∃ a c, tv = .slice a (nt + kt) c := by
  obtain ⟨xs, ho, _⟩ := h.ot
  exact slice_form ho
end

/-- The end of a taking. -/
theorem take_fin {W w0 x7 wz : World} {bb gl gt nt ct : Nat} {v V : Nat → Value} {x : Nat → List Value} {es : List Ent} {ml mt : List Int} {gc cc ge ce kl kt : Nat} {lv tv : Value}
    (T0 : Turn (fun b => b = gl ∨ b = gt) W w0) (h : TS w0 x7 bb v V x es bb bb [(3, .slice (some ⟨ge, 0, none⟩) nt ce, encI mt), (5, .slice (some ⟨gc, 0, none⟩) 64 cc, encB ml), (5, .slice (some ⟨gl, 0, none⟩) 64 64, encB ml), (3, .slice (some ⟨gt, 0, none⟩) nt ct, encI mt)])
    (h3 : L3 x7 wz gl gt nt ct (encB ml) (encI mt) kl kt lv tv) (hgl : ∀ e ∈ es, ∀ k, k < 4 → (proj k e).ownBlock ≠ some gl) (hgt : ∀ e ∈ es, ∀ k, k < 4 → (proj k e).ownBlock ≠ some gt) (hbl : bb ≠ gl) (hbt : bb ≠ gt) (l1 : gl < W.heap.size) (l2 : gt < W.heap.size) (hgc : w0.heap.size ≤ gc) (hge : w0.heap.size ≤ ge) (hnt : nt ≤ 65536)
    (x0 : x 0 = es.map (proj 0) ++ [.slice (some ⟨gl, 0, none⟩) 64 64]) (x1 : x 1 = es.map (proj 1) ++ [.slice (some ⟨gc, 0, none⟩) 64 cc]) (x2 : x 2 = es.map (proj 2) ++ [.slice (some ⟨gt, 0, none⟩) nt ct]) (x3 : x 3 = es.map (proj 3) ++ [.slice (some ⟨ge, 0, none⟩) nt ce]) :
    ∃ v' en, BO wz bb v' (fun k => (es ++ [en]).map (proj k)) ∧ (∀ e ∈ es ++ [en], Inn wz e) ∧
      Turn (fun b => b = bb ∨ (∃ k, k < 4 ∧ (v k).ownBlock = some b) ∨ b = gl ∨ b = gt) W wz ∧ (∀ k b, k < 4 → (v' k).ownBlock = some b → (v k).ownBlock = some b ∨ W.heap.size ≤ b) ∧ (∀ k b, k < 4 → (proj k en).ownBlock = some b → b = gl ∨ b = gt ∨ W.heap.size ≤ b) := by
  have z0 := T0.size
  have hil := (h.ins (5, .slice (some ⟨gl, 0, none⟩) 64 64, encB ml) (by simp)).2
  have hit := (h.ins (3, .slice (some ⟨gt, 0, none⟩) nt ct, encI mt) (by simp)).2
  have hO : BO wz bb V x := h.bo.keep h3.trn (fun e => e.elim hbl hbt) (fun k b hk hb e => by
    rcases e with rfl | rfl
    · exact (hil.apart (.inl rfl) h.bo rfl).2 k hk hb
    · exact (hit.apart (.inr rfl) h.bo rfl).2 k hk hb)
  refine ⟨V, ⟨.slice (some ⟨gl, 0, none⟩) 64 64, .slice (some ⟨gc, 0, none⟩) 64 cc, .slice (some ⟨gt, 0, none⟩) nt ct, .slice (some ⟨ge, 0, none⟩) nt ce, ml, mt⟩, hO.congr (fun k hk => ?_), fun e he => ?_, ?_, fun k b hk hb => ?_, fun k b hk hb => ?_⟩
  · rw [List.map_append]
    match k, hk with
    | 0, _ => exact x0
    | 1, _ => exact x1
    | 2, _ => exact x2
    | 3, _ => exact x3
  · rcases List.mem_append.1 he with he2 | he2
    · refine (h.inn e he2).keep h3.trn (fun k b hk hb hq => ?_)
      rcases hq with rfl | rfl
      · exact hgl e he2 k hk hb
      · exact hgt e he2 k hk hb
    · simp only [List.mem_cons, List.not_mem_nil, or_false] at he2
      subst he2
      refine ⟨h3.il, (h.ins (5, .slice (some ⟨gc, 0, none⟩) 64 cc, encB ml) (by simp)).2.turn h3.trn (fun g hg hq => ?_), h3.it, (h.ins (3, .slice (some ⟨ge, 0, none⟩) nt ce, encI mt) (by simp)).2.turn h3.trn (fun g hg hq => ?_), by have := h3.lenL; rw [encB_len] at this; show ml.length ≤ _; omega, by have := h3.lenT; rw [encI_len] at this; show mt.length ≤ _; omega⟩
      · have hg2 : some gc = some g := hg
        injection hg2 with hg2
        rcases hq with hq | hq <;> omega
      · have hg2 : some ge = some g := hg
        injection hg2 with hg2
        rcases hq with hq | hq <;> omega
  · refine ((T0.mono (S' := fun b => b = bb ∨ (∃ k, k < 4 ∧ (v k).ownBlock = some b) ∨ b = gl ∨ b = gt) (fun b _ hb => .inr (.inr hb))).trans h.trn (fun b hb => .inl ?_)).trans h3.trn (fun b hb => .inl (.inr (.inr hb)))
    rcases hb with hb | hb | hb | hb
    · exact .inl hb
    · exact .inr (.inl hb)
    · exact .inl hb
    · exact .inl hb
  · rcases h.new k b hk hb with hq | hq
    · exact .inl hq
    · exact .inr (by omega)
  · match k, hk with
    | 0, _ => cases hb; exact .inl rfl
    | 1, _ =>
      have hg2 : some gc = some b := hb
      injection hg2 with hg2
      exact .inr (.inr (by omega))
    | 2, _ => cases hb; exact .inr (.inl rfl)
    | 3, _ =>
      have hg2 : some ge = some b := hb
      injection hg2 with hg2
      exact .inr (.inr (by omega))
end Go.Proofs.Ytlfgnbjioofplab
