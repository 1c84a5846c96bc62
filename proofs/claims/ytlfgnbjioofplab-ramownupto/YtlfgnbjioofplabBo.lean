import Derived.Test.YtlfgnbjioofplabSt
namespace Go.Proofs.Ytlfgnbjioofplab
open Go.RowKit
set_option linter.unusedVariables false

theorem row_ty {w : World} {g : Nat} {e e' : TypeId} {cur cur' : List Value} (h : RowAt w g e cur) (h' : RowAt w g e' cur') : e = e' := by
  have := h.symm.trans h'
  injection this with this
  injection this

section
variable {P : Program}
/-- append onto what is owned: in place, or away. -/
theorem app_keep (w : World) (t e : TypeId) (i : TypeInfo) (z : Value) (ht : P.underlying t = some (.slice e)) (hi : P.info? e = some i) (hz : i.zero = some z) (hzs : z.cells.size = i.size)
    (lo n m : Nat) (s x : Value) (xs news : List Value) (hs : w.ownsRow lo e i.size s n xs) (hx : Src P i.size t x m news w) (hlo : lo ≤ w.heap.size) (h63 : n + m ≤ maxLen) (hby : (n + m) * i.bytes ≤ 140737488355328) :
    ∃ v' w', (∀ ty, (Builtin.append_ #[t, t] ty #[s, x]).run P w = .ok v' w') ∧ w'.ownsRow lo e i.size v' (n + m) (xs ++ news) ∧ ((w.grownBy w' none ∧ ∀ g, v'.ownBlock = some g → w.heap.size ≤ g) ∨ ∃ g, s.ownBlock = some g ∧ v'.ownBlock = some g ∧ w.grownBy w' (some g)) := by
  have hnl := hx.newsLen
  rcases row_of_own hs with ⟨rfl, rfl, rfl⟩ | ⟨g, cap, cur, rfl, a, b, c, d, e1, f⟩
  · by_cases h0 : m = 0
    · subst h0
      obtain rfl : news = [] := List.eq_nil_of_length_eq_zero (by simpa using hnl)
      refine ⟨.slice none 0 0, w, ?_, World.ownsRow_nil _ _ _ _, .inl ⟨grownBy_refl _ _, fun g hg => by cases hg⟩⟩
      intro ty
      simp [Builtin.append_, run_underlying ht, sizeOf, typeInfo, hi, hx.len, hx.cells]
    · obtain ⟨w', cap, rest, h1, h2, h3, h4, h5, h6, h7⟩ := append_away w t e i z ht hi hz hzs none 0 0 [] (by simp) (run_firstCells_none w.drew i.size 0 0 0) x m news hx (by omega) (by omega) hby
      refine ⟨_, w', h1, own_of_row h2 hlo h4 h5 ?_ ?_, .inl ⟨h6, fun g hg => by cases hg; exact Nat.le_refl _⟩⟩
      · rw [List.length_append, List.length_append, h3, hnl, List.length_nil, Nat.zero_add, ← Nat.add_mul]; congr 1; omega
      · rw [List.take_append_of_le_length (by simp [hnl])]
        exact List.take_of_length_le (by simp [hnl])
  · by_cases h0 : n + m ≤ cap
    · have hfit : n * i.size + news.length ≤ cur.length := by rw [hnl, e1, ← Nat.add_mul]; exact Nat.mul_le_mul_right _ h0
      obtain ⟨w', h1, h2, h3⟩ := append_room w t e i ht hi g n cap cur b x m news hx h0 hfit
      refine ⟨_, w', h1, own_of_row h2 a h0 d ?_ ?_, .inr ⟨g, rfl, rfl, h3⟩⟩
      · rw [List.length_append, List.length_append, List.length_take, List.length_drop, ← e1]; omega
      · rw [f, List.take_append_of_le_length (by rw [List.length_append, hs.1, hnl, Nat.add_mul]; exact Nat.le_refl _)]
        exact List.take_of_length_le (by rw [List.length_append, hs.1, hnl, Nat.add_mul]; exact Nat.le_refl _)
    · obtain ⟨w', cap', rest, h1, h2, h3, h4, h5, h6, h7⟩ := append_away w t e i z ht hi hz hzs (some ⟨g, 0, none⟩) n cap xs hs.1
        (run_firstCells_some w.drew i.size n ⟨g, 0, none⟩ n cap xs hs.1 (fun j u hj => hs.cells rfl j u hj)) x m news hx (by omega) h63 hby
      refine ⟨_, w', h1, own_of_row h2 (by omega) h4 h5 ?_ ?_, .inl ⟨h6, fun g hg => by cases hg; exact Nat.le_refl _⟩⟩
      · rw [List.length_append, List.length_append, h3, hnl, hs.1, ← Nat.add_mul, ← Nat.add_mul]; congr 1; omega
      · rw [List.take_append_of_le_length (by rw [List.length_append, hs.1, hnl, Nat.add_mul]; exact Nat.le_refl _)]
        exact List.take_of_length_le (by rw [List.length_append, hs.1, hnl, Nat.add_mul]; exact Nat.le_refl _)
end

/-- A list in memory: its first cells. -/
def In (w : World) (e : TypeId) (v : Value) (xs : List Value) : Prop := ∃ g cap cur, v = .slice (some ⟨g, 0, none⟩) xs.length cap ∧ RowAt w g e cur ∧ cur.take xs.length = xs
theorem In.row {w : World} {e : TypeId} {v : Value} {xs : List Value} (h : In w e v xs) {g : Nat} (hg : v.ownBlock = some g) : ∃ cur, RowAt w g e cur := by
  obtain ⟨g', cap, cur, rfl, h1, _⟩ := h
  cases hg
  exact ⟨cur, h1⟩
theorem In.turn {w w' : World} {Q : Nat → Prop} {e : TypeId} {v : Value} {xs : List Value} (h : In w e v xs) (T : Turn Q w w') (hn : ∀ g, v.ownBlock = some g → ¬ Q g) : In w' e v xs := by
  obtain ⟨g', cap, cur, rfl, h1, h2⟩ := h
  exact ⟨g', cap, cur, rfl, h1.turn T (hn g' rfl), h2⟩
theorem In.cell {w : World} {e : TypeId} {v : Value} {xs : List Value} (h : In w e v xs) : ∃ g cap, v = .slice (some ⟨g, 0, none⟩) xs.length cap ∧ ∀ (j : Nat) (u : Value), xs[j]? = some u → w.cell? ⟨g, j, none⟩ = some u := by
  obtain ⟨g, cap, cur, rfl, h1, h2⟩ := h
  refine ⟨g, cap, rfl, fun j u hj => ?_⟩
  rw [h1.cell]
  have hjl := (List.getElem?_eq_some_iff.1 hj).1
  have := congrArg (fun l => l[j]?) h2
  simp only [List.getElem?_take_of_lt hjl] at this
  rw [this]
  exact hj
theorem own_row {W : World} {lo n size : Nat} {e : TypeId} {v : Value} {xs : List Value} (h : W.ownsRow lo e size v n xs) {g : Nat} (hg : v.ownBlock = some g) : ∃ cur, RowAt W g e cur := by
  rcases row_of_own h with ⟨rfl, _⟩ | ⟨g', cap, cur, rfl, a, b, _⟩
  · cases hg
  · cases hg
    exact ⟨cur, b⟩

/-- The bytes or ints of a list, in a new list. -/
theorem app_copy (w : World) (t e : TypeId) (z : Value) (bys : Nat) (ht : Try.prog.underlying t = some (.slice e)) (hinf : (Try.prog.info? e).map (fun i => (i.zero, i.size, i.bytes)) = some (some z, 1, bys)) (hzs : z.cells.size = 1) (v : Value) (xs : List Value) (h : In w e v xs) (h1 : ∀ u ∈ xs, u.oneCell' = true) (hl : xs.length ≤ 1048576) (hb : bys ≤ 64) :
    ∃ g cp w', (∀ ty, (Builtin.append_ #[t, t] ty #[.slice (some ⟨w.heap.size, 0, none⟩) 0 0, v]).run Try.prog (w.alloc (.cells #[] e)) = .ok (.slice (some ⟨g, 0, none⟩) xs.length cp) w') ∧ w.heap.size ≤ g ∧ In w' e (.slice (some ⟨g, 0, none⟩) xs.length cp) xs ∧ Turn (fun _ => False) w w' := by
  obtain ⟨i0, hi, hz0, hz1, hz2⟩ := info_parts hinf
  have hB := row_new w [] e
  have ho : (w.alloc (.cells #[] e)).ownsRow w.heap.size e 1 (.slice (some ⟨w.heap.size, 0, none⟩) 0 0) 0 [] := own_of_row hB (Nat.le_refl _) (Nat.le_refl _) (Nat.zero_le _) rfl rfl
  have h2 := h.turn ((Turn.refl (fun _ => False) w).alloc (.cells #[] e)) (fun _ _ h => h)
  obtain ⟨gv, cv, rfl, hc⟩ := h2.cell
  have hmul : xs.length * bys ≤ 1048576 * 64 := Nat.mul_le_mul hl hb
  obtain ⟨v', w', hr, ho', hg⟩ := app_keep (P := Try.prog) (w.alloc (.cells #[] e)) t e i0 _ ht hi hz0 (by rw [hz1]; exact hzs) w.heap.size 0 xs.length _ (.slice (some ⟨gv, 0, none⟩) xs.length cv) [] xs (by rw [hz1]; exact ho)
    (by rw [hz1]; exact Src.ofSlice _ ht ⟨gv, 0, none⟩ xs.length cv _ (Nat.mul_one _).symm (fun j u hj => by rw [Addr.add_lit, Nat.zero_add]; exact hc j u hj) h1) (by simp) (by unfold maxLen; omega) (by rw [hz2, Nat.zero_add]; omega)
  rw [hz1, List.nil_append, Nat.zero_add] at ho'
  have hT : Turn (fun _ => False) w w' := by
    refine ((Turn.refl (fun _ => False) w).alloc (.cells #[] e)).trans (S' := fun x => x = w.heap.size) ?_ (fun x hx => .inr (by rw [hx]; exact Nat.le_refl _))
    rcases hg with ⟨hg, _⟩ | ⟨g, hg1, hg2, hg⟩
    · exact Turn.grown hg (fun k hk => by cases hk)
    · exact Turn.grown hg (fun k hk => by cases hk; cases hg1; exact .inl rfl)
  rcases row_of_own ho' with ⟨q1, q2, q3⟩ | ⟨g, cp, cur, rfl, a, b, c, d, e1, f⟩
  · subst q1
    exfalso
    rcases hg with ⟨_, hg⟩ | ⟨g, hg1, hg2, hg⟩
    · have := ho'
      obtain ⟨i1, j1⟩ := ho'
      have hr0 := hr 0
      have hx0 : xs = [] := List.eq_nil_of_length_eq_zero q2
      subst hx0
      obtain ⟨w9, hr9, _, _⟩ := append_room (P := Try.prog) (w.alloc (.cells #[] e)) t e i0 ht hi w.heap.size 0 0 [] hB (.slice (some ⟨gv, 0, none⟩) 0 cv) 0 [] (by rw [hz1]; exact Src.ofSlice _ ht ⟨gv, 0, none⟩ 0 cv _ rfl (fun j u hj => by simp at hj) (fun u hu => by cases hu)) (Nat.le_refl _) (by simp)
      have := (hr9 0).symm.trans hr0
      cases this
    · cases hg2
  · refine ⟨g, cp, w', hr, a, ⟨g, cp, cur, rfl, b, ?_⟩, hT⟩
    rw [Nat.mul_one] at f
    exact f

def ty (k : Nat) : TypeId := if k < 2 then 33 else 47
def tyS (k : Nat) : TypeId := if k < 2 then 27 else 28
theorem infoBs : (Try.prog.info? 33).map (fun i => (i.zero, i.size, i.bytes)) = some (some (.slice none 0 0), 1, 24) := by kernel_rfl
theorem infoIs : (Try.prog.info? 47).map (fun i => (i.zero, i.size, i.bytes)) = some (some (.slice none 0 0), 1, 24) := by kernel_rfl
theorem infoT (k : Nat) : (Try.prog.info? (ty k)).map (fun i => (i.zero, i.size, i.bytes)) = some (some (.slice none 0 0), 1, 24) := by
  unfold ty
  split
  · exact infoBs
  · exact infoIs
theorem undT (k : Nat) : Try.prog.underlying (tyS k) = some (.slice (ty k)) := by
  unfold ty tyS
  split
  · exact Try.underlying27
  · exact Try.underlying28
theorem ty_ne (k : Nat) : ty k ≠ 30 ∧ ty k ≠ 5 ∧ ty k ≠ 3 := by
  unfold ty
  split <;> decide

/-- A book's four lists of lists. -/
structure BO (w : World) (bb : Nat) (v : Nat → Value) (x : Nat → List Value) : Prop where
  box : RowAt w bb 30 [v 0, v 1, v 2, v 3]
  own : ∀ k, k < 4 → w.ownsRow 0 (ty k) 1 (v k) (x k).length (x k)
  dis : ∀ j k b, j < 4 → k < 4 → j ≠ k → (v j).ownBlock = some b → (v k).ownBlock ≠ some b

section
variable {w w' : World} {bb : Nat} {v : Nat → Value} {x : Nat → List Value}
theorem BO.cell (h : BO w bb v x) {k : Nat} (hk : k < 4) : w.cell? ⟨bb, k, none⟩ = some (v k) := by
  rw [h.box.cell]
  match k, hk with
  | 0, _ => rfl
  | 1, _ => rfl
  | 2, _ => rfl
  | 3, _ => rfl
theorem BO.form (h : BO w bb v x) {k : Nat} (hk : k < 4) : ∃ a c, v k = .slice a (x k).length c := slice_form (h.own k hk)
theorem BO.keep (h : BO w bb v x) {Q : Nat → Prop} (T : Turn Q w w') (h0 : ¬ Q bb) (hQ : ∀ k b, k < 4 → (v k).ownBlock = some b → ¬ Q b) : BO w' bb v x :=
  ⟨h.box.turn T h0, fun k hk => own_turn (h.own k hk) T (fun b hb => hQ k b hk hb), h.dis⟩
theorem BO.bne (h : BO w bb v x) {k : Nat} (hk : k < 4) : (v k).ownBlock ≠ some bb := fun e => by
  obtain ⟨cur, hr⟩ := own_row (h.own k hk) e
  exact (ty_ne k).1 (row_ty hr h.box)
theorem boxUp (v : Nat → Value) (u : Value) {k : Nat} (hk : k < 4) : [v 0, v 1, v 2, v 3].set k u = [up v k u 0, up v k u 1, up v k u 2, up v k u 3] := by
  match k, hk with
  | 0, _ => rfl
  | 1, _ => rfl
  | 2, _ => rfl
  | 3, _ => rfl
/-- A list goes behind the others. -/
theorem BO.step (h : BO w bb v x) {k : Nat} (hk : k < 4) (u : Value) (hu : u.oneCell' = true) (hl : (x k).length ≤ 268435456) :
    ∃ a c w', (∀ ty', (Builtin.append_ #[tyS k, tyS k] ty' #[v k, .slice (some ⟨w.heap.size, 0, none⟩) 1 1]).run Try.prog (w.alloc (.cells #[u] (ty k))) = .ok (.slice a ((x k).length + 1) c) w') ∧
      BO (w'.setCell ⟨bb, k, none⟩ (.slice a ((x k).length + 1) c)) bb (up v k (.slice a ((x k).length + 1) c)) (up x k (x k ++ [u])) ∧ Turn (fun b => b = bb ∨ (v k).ownBlock = some b) w (w'.setCell ⟨bb, k, none⟩ (.slice a ((x k).length + 1) c)) ∧
      (∀ g, (Value.slice a ((x k).length + 1) c).ownBlock = some g → (v k).ownBlock = some g ∨ w.heap.size ≤ g) ∧ w'.cell? ⟨bb, k, none⟩ = some (v k) ∧ w'.frozen? ⟨bb, k, none⟩ = false := by
  obtain ⟨i0, hi, hz0, hz1, hz2⟩ := info_parts (infoT k)
  have hB := row_new w [u] (ty k)
  have T0 : Turn (fun _ => False) w (w.alloc (.cells #[u] (ty k))) := (Turn.refl (fun _ => False) w).alloc _
  have ho := own_turn (h.own k hk) T0 (fun _ _ h => h)
  obtain ⟨v', w', hr, ho', hg⟩ := app_keep (P := Try.prog) (w.alloc (.cells #[u] (ty k))) (tyS k) (ty k) i0 _ (undT k) hi hz0 (by rw [hz1]; rfl) 0 (x k).length 1 (v k) (.slice (some ⟨w.heap.size, 0, none⟩) 1 1) (x k) [u] (by rw [hz1]; exact ho)
    (by rw [hz1]; exact Src.ofSlice _ (undT k) ⟨w.heap.size, 0, none⟩ 1 1 _ rfl (fun j y hj => by rw [Addr.add_lit, Nat.zero_add]; exact (hB.cell j).trans hj) (fun y hy => by simp at hy; subst hy; exact hu)) (Nat.zero_le _) (by unfold maxLen; omega) (by rw [hz2]; omega)
  rw [hz1] at ho'
  obtain ⟨a, c, rfl⟩ := slice_form ho'
  have hbl := h.box.lt
  have T1 : Turn (fun b => (v k).ownBlock = some b) w w' := by
    refine (T0.mono (fun _ _ h => h.elim)).trans (S' := fun b => (v k).ownBlock = some b) ?_ (fun x hx => .inl hx)
    rcases hg with ⟨hg, _⟩ | ⟨g, hg1, hg2, hg⟩
    · exact Turn.grown hg (fun k hk => by cases hk)
    · exact Turn.grown hg (fun k hk => by cases hk; exact .inl hg1)
  have hnew : ∀ g, (Value.slice a ((x k).length + 1) c).ownBlock = some g → (v k).ownBlock = some g ∨ w.heap.size ≤ g := fun g hgv => by
    rcases hg with ⟨_, hg⟩ | ⟨g', hg1, hg2, hg⟩
    · exact .inr (Nat.le_trans T0.size (hg g hgv))
    · rw [hgv] at hg2
      cases hg2
      exact .inl hg1
  have hlt : ∀ j b, j < 4 → (v j).ownBlock = some b → b < w.heap.size := fun j b hj hb => by
    obtain ⟨cur, hr⟩ := own_row (h.own j hj) hb
    exact hr.lt
  have hbx := h.box.turn T1 (h.bne hk)
  refine ⟨a, c, w', hr, ⟨?_, fun j hj => ?_, fun i j b h4 hj hij hib hjb => ?_⟩, ?_, hnew, ?_, hbx.frozen k⟩
  · have := hbx.set k (.slice a ((x k).length + 1) c)
    rw [boxUp v _ hk] at this
    exact this
  · have T2 : Turn (fun b => b = bb) w' (w'.setCell ⟨bb, k, none⟩ (.slice a ((x k).length + 1) c)) := (Turn.refl (fun b => b = bb) w').setCell (p := ⟨bb, k, none⟩) (.inl rfl) _
    by_cases hjk : j = k
    · subst hjk
      rw [up_same, up_same, List.length_append]
      refine own_turn ho' T2 (fun b hb e => ?_)
      subst e
      rcases hnew _ hb with hq | hq
      · exact h.bne hk hq
      · omega
    · rw [up_other _ _ hjk, up_other _ _ hjk]
      refine own_turn (own_turn (h.own j hj) T1 (fun b hb e => h.dis j k b hj hk hjk hb e)) T2 (fun b hb e => ?_)
      subst e
      exact h.bne hj hb
  · by_cases hik : i = k
    · subst hik
      rw [up_same] at hib
      rw [up_other _ _ (Ne.symm hij)] at hjb
      rcases hnew _ hib with hq | hq
      · exact h.dis i j b h4 hj hij hq hjb
      · have := hlt j b hj hjb
        omega
    · rw [up_other _ _ hik] at hib
      by_cases hjk : j = k
      · subst hjk
        rw [up_same] at hjb
        rcases hnew _ hjb with hq | hq
        · exact h.dis i j b h4 hj hij hib hq
        · have := hlt i b h4 hib
          omega
      · rw [up_other _ _ hjk] at hjb
        exact h.dis i j b h4 hj hij hib hjb
  · refine (T1.mono (S' := fun b => b = bb ∨ (v k).ownBlock = some b) (fun _ _ h => .inr h)).setCell (p := ⟨bb, k, none⟩) (.inl (.inl rfl)) _
  · rw [hbx.cell]
    have := h.cell hk
    rw [h.box.cell] at this
    exact this
end

/-- What was taken: two lists and what they should be. -/
structure Ent where
  vb : Value
  vw : Value
  vi : Value
  vj : Value
  lb : List Int
  li : List Int
def proj (k : Nat) (e : Ent) : Value := if k = 0 then e.vb else if k = 1 then e.vw else if k = 2 then e.vi else e.vj
structure Inn (w : World) (e : Ent) : Prop where
  ib : In w 5 e.vb (encB e.lb)
  iw : In w 5 e.vw (encB e.lb)
  ii : In w 3 e.vi (encI e.li)
  ij : In w 3 e.vj (encI e.li)
  nb : e.lb.length ≤ 65536
  ni : e.li.length ≤ 65536
theorem Inn.keep {w w' : World} {e : Ent} (h : Inn w e) {Q : Nat → Prop} (T : Turn Q w w') (hQ : ∀ k b, k < 4 → (proj k e).ownBlock = some b → ¬ Q b) : Inn w' e :=
  ⟨h.ib.turn T (fun g hg => hQ 0 g (by omega) hg), h.iw.turn T (fun g hg => hQ 1 g (by omega) hg), h.ii.turn T (fun g hg => hQ 2 g (by omega) hg), h.ij.turn T (fun g hg => hQ 3 g (by omega) hg), h.nb, h.ni⟩
theorem Inn.row {w : World} {e : Ent} (h : Inn w e) {k b : Nat} (hk : k < 4) (hb : (proj k e).ownBlock = some b) : ∃ t cur, RowAt w b t cur ∧ (t = 5 ∨ t = 3) := by
  match k, hk with
  | 0, _ => obtain ⟨cur, hr⟩ := h.ib.row hb; exact ⟨_, cur, hr, .inl rfl⟩
  | 1, _ => obtain ⟨cur, hr⟩ := h.iw.row hb; exact ⟨_, cur, hr, .inl rfl⟩
  | 2, _ => obtain ⟨cur, hr⟩ := h.ii.row hb; exact ⟨_, cur, hr, .inr rfl⟩
  | 3, _ => obtain ⟨cur, hr⟩ := h.ij.row hb; exact ⟨_, cur, hr, .inr rfl⟩
/-- Inner lists lie apart from a book's own. -/
theorem Inn.apart {w : World} {e : Ent} {bb : Nat} {v : Nat → Value} {x : Nat → List Value} (h : Inn w e) (hO : BO w bb v x) {k b : Nat} (hk : k < 4) (hb : (proj k e).ownBlock = some b) : b ≠ bb ∧ ∀ j, j < 4 → (v j).ownBlock ≠ some b := by
  obtain ⟨t, cur, hr, ht⟩ := h.row hk hb
  refine ⟨fun e => ?_, fun j hj e => ?_⟩
  · subst e
    have := row_ty hr hO.box
    rcases ht with rfl | rfl
    · exact absurd this (by decide)
    · exact absurd this (by decide)
  · obtain ⟨cur', hr'⟩ := own_row (hO.own j hj) e
    have := row_ty hr hr'
    rcases ht with rfl | rfl
    · exact (ty_ne j).2.1 this.symm
    · exact (ty_ne j).2.2 this.symm
end Go.Proofs.Ytlfgnbjioofplab
