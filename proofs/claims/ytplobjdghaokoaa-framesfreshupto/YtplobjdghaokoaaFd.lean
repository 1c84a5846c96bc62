import Derived.Test.YtplobjdghaokoaaFc
namespace Go.Proofs.Ytplobjdghaokoaa
open Go.RowKit
set_option linter.unusedVariables false

theorem encR_one (A : List (Nat × Nat)) : ∀ u ∈ A.flatMap encR, u.oneCell' = true := fun u hu => by
  obtain ⟨x, _, h⟩ := List.mem_flatMap.1 hu
  simp [encR] at h
  rcases h with rfl | rfl <;> rfl
theorem encI_one (A : List Int) : ∀ u ∈ encI A, u.oneCell' = true := fun u hu => by
  obtain ⟨x, _, rfl⟩ := List.mem_map.1 hu
  rfl
theorem FW.le {w0 wr : World} {b0 b1 : Nat} {es : List Ent} {ps : List Ap} {kk kk' : Nat → Nat} (h : FW w0 wr b0 b1 es ps kk) (hk : ∀ i, kk' i ≤ kk i) : FW w0 wr b0 b1 es ps kk' :=
  ⟨h.o0, h.tp, h.a0, h.turn, fun i e hi hw g hg => by
    obtain ⟨cur, h1, h2, h3⟩ := h.row i e hi hw g hg
    exact ⟨cur, h1, h2, fun j hj => h3 j (Nat.lt_of_lt_of_le hj (hk i))⟩, h.app⟩
section
variable {w0 wr : World} {b0 b1 : Nat} {es : List Ent} {ps : List Ap} {kk : Nat → Nat} {i g cap j : Nat} {e : Ent} {c : Int}
theorem fs_int (h : FW w0 wr b0 b1 es ps kk) (hi : es[i]? = some e) (hw : wri i) (hs : e.sz = 1) (hg : e.v = .slice (some ⟨g, 0, none⟩) e.n cap) (hk : kk i = j) (hj : j < e.n) (hc : mkI i = .int .i64 c) : FW w0 (wr.setCell ⟨g, j, none⟩ (.int .i64 c)) b0 b1 es ps (up kk i (j + 1)) := by
  have hg' : e.v.ownBlock = some g := by rw [hg]; rfl
  have h1 := h.set hi hw hg' (o := j) (by rw [hs]; omega) (.int .i64 c) (fun k hk2 e2 => hc.symm)
  refine h1.mark hi hk hg' ?_
  obtain ⟨cur, h2, h3, _⟩ := h.row i e hi hw g hg'
  rw [hs, Nat.mul_one, (h2.set j (.int .i64 c)).cell, List.getElem?_set_self (by rw [hs] at h3; omega), hc]
theorem fs_run (h : FW w0 wr b0 b1 es ps kk) (hi : es[i]? = some e) (hw : wri i) (hs : e.sz = 2) (hg : e.v = .slice (some ⟨g, 0, none⟩) e.n cap) (hk : kk i = j) (hj : j < e.n) (hc : mkI i = .int .i64 c) (x : Value) : FW w0 ((wr.setCell ⟨g, j * 2, none⟩ (.int .i64 c)).setCell ⟨g, j * 2 + 1, none⟩ x) b0 b1 es ps (up kk i (j + 1)) := by
  have hg' : e.v.ownBlock = some g := by rw [hg]; rfl
  have h1 := (h.set hi hw hg' (o := j * 2) (by rw [hs]; omega) (.int .i64 c) (fun k hk2 e2 => hc.symm)).set hi hw hg' (o := j * 2 + 1) (by rw [hs]; omega) x (fun k hk2 e2 => by rw [hs] at e2; omega)
  refine h1.mark hi hk hg' ?_
  obtain ⟨cur, h2, h3, _⟩ := h.row i e hi hw g hg'
  rw [hs, ((h2.set (j * 2) (.int .i64 c)).set (j * 2 + 1) x).cell, List.getElem?_set_ne (by omega), List.getElem?_set_self (by rw [hs] at h3; omega), hc]
theorem FW.cell (h : FW w0 wr b0 b1 es ps kk) (hi : es[i]? = some e) (hw : wri i) (hg : e.v = .slice (some ⟨g, 0, none⟩) e.n cap) {o : Nat} (ho : o < e.n * e.sz) : ∃ x, wr.cell? ⟨g, o, none⟩ = some x := by
  obtain ⟨cur, h2, h3, _⟩ := h.row i e hi hw g (by rw [hg]; rfl)
  exact ⟨_, by rw [h2.cell]; exact List.getElem?_eq_getElem (by omega)⟩
theorem FW.marked (h : FW w0 wr b0 b1 es ps kk) (hi : es[i]? = some e) (hw : wri i) (hg : e.v = .slice (some ⟨g, 0, none⟩) e.n cap) (hj : j < kk i) (hc : mkI i = .int .i64 c) : wr.cell? ⟨g, j * e.sz, none⟩ = some (.int .i64 c) := by
  obtain ⟨cur, h2, h3, h4⟩ := h.row i e hi hw g (by rw [hg]; rfl)
  rw [h2.cell, h4 j hj, hc]
theorem FW.keeps (h : FW w0 wr b0 b1 es ps kk) (hi : es[i]? = some e) (hw : ¬ wri i) : wr.ownsRow e.lo e.t e.sz e.v e.n e.xs :=
  own_turn (h.o0.own e (List.mem_of_getElem? hi)) h.turn (fun g hg hq => by
    obtain ⟨i2, e2, h1, h2, h3⟩ := hq
    by_cases e0 : i2 = i
    · rw [e0] at h2; exact hw h2
    · exact h.o0.apart h1 hi e0 h3 hg)
end
def Is (e : Ent) (v : Value) (t : TypeId) (sz n : Nat) (xs : List Value) : Prop := e.v = v ∧ e.t = t ∧ e.sz = sz ∧ e.n = n ∧ e.xs = xs
section
variable {w0 wr : World} {b0 b1 : Nat} {es : List Ent} {ps : List Ap} {kk : Nat → Nat} {i j R ca sz : Nat} {a : Option Addr} {t : TypeId} {e : Ent} {xs : List Value}
theorem fs_at (h : FW w0 wr b0 b1 es ps kk) (hi : es[i]? = some e) (hw : wri i) (hE : Is e (.slice a R ca) t sz R xs) (hj : j < R) : ∃ g, a = some ⟨g, 0, none⟩ ∧ (∀ o, o < R * sz → ∃ x, wr.cell? ⟨g, o, none⟩ = some x) ∧ ∀ o, wr.frozen? ⟨g, o, none⟩ = false := by
  obtain ⟨g, cap, hg⟩ := h.has hi (by rw [hE.2.2.2.1]; omega)
  have hg2 := hg
  rw [hE.1] at hg2
  injection hg2 with h1 h2 h3
  obtain ⟨cur, q1, q2, _⟩ := h.row i e hi hw g (by rw [hg]; rfl)
  refine ⟨g, h1, fun o ho => ⟨_, by rw [q1.cell]; exact List.getElem?_eq_getElem (by rw [hE.2.2.2.1, hE.2.2.1] at q2; omega)⟩, fun o => q1.frozen o⟩
end
/-- From the lists to the marks: a copy of the tables, and one more onto four lists. -/
theorem chain {w6 : World} {b0 : Nat} {ea eb ew ex ey ez : Ent} (h : Own w6 b0 [ea, eb, ew, ex, ey, ez]) (hb0 : b0 ≤ w6.heap.size) (ta : ea.t = 42 ∧ ea.sz = 2 ∧ ea.n ≤ 1099511627776) (tb : eb.t = 42 ∧ eb.sz = 2 ∧ eb.n ≤ 1099511627776)
    (tx : ex.t = 3 ∧ ex.sz = 1 ∧ ex.n ≤ 1099511627776) (ty : ey.t = 3 ∧ ey.sz = 1 ∧ ey.n ≤ 1099511627776) (hx1 : ∀ u ∈ ex.xs, u.oneCell' = true) :
    ∃ (at_ : Option Addr) (ct : Nat) (w7 : World) (g0 k0 : Nat) (w8 : World) (g1 k1 : Nat) (w9 : World) (g2 k2 : Nat) (w10 : World) (g3 k3 : Nat) (w11 : World),
      (∀ ty, (Builtin.append_ #[32, 32] ty #[.slice (some ⟨w6.heap.size, 0, none⟩) 0 0, ex.v]).run Try.prog (w6.alloc (.cells #[] 3)) = .ok (.slice at_ ex.n ct) w7) ∧
      (∀ ty, (Builtin.append_ #[39, 39] ty #[ea.v, .slice (some ⟨w7.heap.size, 0, none⟩) 1 1]).run Try.prog (w7.alloc (.cells #[.int .i64 (-1), .int .i64 0] 42)) = .ok (.slice (some ⟨g0, 0, none⟩) (ea.n + 1) k0) w8) ∧
      (∀ ty, (Builtin.append_ #[39, 39] ty #[eb.v, .slice (some ⟨w8.heap.size, 0, none⟩) 1 1]).run Try.prog (w8.alloc (.cells #[.int .i64 (-2), .int .i64 0] 42)) = .ok (.slice (some ⟨g1, 0, none⟩) (eb.n + 1) k1) w9) ∧
      (∀ ty, (Builtin.append_ #[32, 32] ty #[ex.v, .slice (some ⟨w9.heap.size, 0, none⟩) 1 1]).run Try.prog (w9.alloc (.cells #[.int .i64 (-3)] 3)) = .ok (.slice (some ⟨g2, 0, none⟩) (ex.n + 1) k2) w10) ∧
      (∀ ty, (Builtin.append_ #[32, 32] ty #[ey.v, .slice (some ⟨w10.heap.size, 0, none⟩) 1 1]).run Try.prog (w10.alloc (.cells #[.int .i64 (-4)] 3)) = .ok (.slice (some ⟨g3, 0, none⟩) (ey.n + 1) k3) w11) ∧
      Turn (fun b => b0 ≤ b) w6 w11 ∧
      FW w11 w11 b0 w7.heap.size [ea, eb, ew, ex, ey, ez, ⟨.slice at_ ex.n ct, 3, 1, ex.n, ex.xs, w6.heap.size, w7.heap.size⟩] [⟨0, g0, .int .i64 (-1)⟩, ⟨1, g1, .int .i64 (-2)⟩, ⟨3, g2, .int .i64 (-3)⟩, ⟨4, g3, .int .i64 (-4)⟩] (fun _ => 0) := by
  obtain ⟨ta1, ta2, ta3⟩ := ta
  obtain ⟨tb1, tb2, tb3⟩ := tb
  obtain ⟨tx1, tx2, tx3⟩ := tx
  obtain ⟨ty1, ty2, ty3⟩ := ty
  have hox := h.own ex (by simp)
  rw [tx1, tx2] at hox
  obtain ⟨vt, w7, r7, ho7, ht7⟩ := copy_list infoI rfl Try.underlying32 (by omega) hox hx1 tx3
  obtain ⟨at_, ct, rfl⟩ := slice_form ho7
  have O7 := h.add ht7 ho7 hb0
  simp only [List.cons_append, List.nil_append] at O7
  generalize hes : [ea, eb, ew, ex, ey, ez, (⟨.slice at_ ex.n ct, 3, 1, ex.n, ex.xs, w6.heap.size, w7.heap.size⟩ : Ent)] = es at *
  have i0 : es[0]? = some ea := by rw [← hes]; rfl
  have i1 : es[1]? = some eb := by rw [← hes]; rfl
  have i3 : es[3]? = some ex := by rw [← hes]; rfl
  have i4 : es[4]? = some ey := by rw [← hes]; rfl
  have tp7 : ∀ e ∈ es, e.hi ≤ w7.heap.size := fun e he => (O7.top e he).2
  have lob : ∀ (i : Nat) (e : Ent), es[i]? = some e → ∀ g, e.v.ownBlock = some g → b0 ≤ g := fun i e hi g hg => by
    have h1 := O7.hi e (List.mem_of_getElem? hi) g hg
    have h2 := O7.top e (List.mem_of_getElem? hi)
    omega
  have lol : ∀ (i : Nat) (e : Ent), es[i]? = some e → e.lo ≤ w7.heap.size := fun i e hi => Nat.le_trans (O7.lh e (List.mem_of_getElem? hi)) (tp7 e (List.mem_of_getElem? hi))
  have z7 : w6.heap.size ≤ w7.heap.size := ht7.size
  -- a
  have hoa := O7.own ea (List.mem_of_getElem? i0)
  rw [ta1, ta2] at hoa
  obtain ⟨g0, k0, w8, r8, ho8, ht8, hg8, hc8, hl8⟩ := app_runs hoa (-1) 0 (lol 0 ea i0) ta3
  have O8 := O7.app i0 ht8 (by rw [ta1, ta2]; exact ho8)
  have A8 := (aps_nil w7 w7.heap.size es).app O7 tp7 (Nat.le_refl _) i0 (fun q hq => absurd hq (by simp)) ht8 hg8 (by rw [ta2]; exact hc8) hl8
  -- b
  have hob := O8.own eb (List.mem_of_getElem? i1)
  rw [tb1, tb2] at hob
  obtain ⟨g1, k1, w9, r9, ho9, ht9, hg9, hc9, hl9⟩ := app_runs hob (-2) 0 (Nat.le_trans (lol 1 eb i1) ht8.size) tb3
  have O9 := O8.app i1 ht9 (by rw [tb1, tb2]; exact ho9)
  have A9 := A8.app O8 tp7 ht8.size i1 (fun q hq => by simp at hq; subst hq; simp) ht9 hg9 (by rw [tb2]; exact hc9) hl9
  -- x
  have hox9 := O9.own ex (List.mem_of_getElem? i3)
  rw [tx1, tx2] at hox9
  obtain ⟨g2, k2, w10, r10, ho10, ht10, hg10, hc10, hl10⟩ := app_ints hox9 (-3) (Nat.le_trans (lol 3 ex i3) (Nat.le_trans ht8.size ht9.size)) tx3
  have O10 := O9.app i3 ht10 (by rw [tx1, tx2]; exact ho10)
  have A10 := A9.app O9 tp7 (Nat.le_trans ht8.size ht9.size) i3 (fun q hq => by simp at hq; rcases hq with rfl | rfl <;> simp) ht10 hg10 (by rw [tx2]; exact hc10) hl10
  -- y
  have hoy := O10.own ey (List.mem_of_getElem? i4)
  rw [ty1, ty2] at hoy
  obtain ⟨g3, k3, w11, r11, ho11, ht11, hg11, hc11, hl11⟩ := app_ints hoy (-4) (Nat.le_trans (lol 4 ey i4) (Nat.le_trans ht8.size (Nat.le_trans ht9.size ht10.size))) ty3
  have O11 := O10.app i4 ht11 (by rw [ty1, ty2]; exact ho11)
  have A11 := A10.app O10 tp7 (Nat.le_trans ht8.size (Nat.le_trans ht9.size ht10.size)) i4 (fun q hq => by simp at hq; rcases hq with rfl | rfl | rfl <;> simp) ht11 hg11 (by rw [ty2]; exact hc11) hl11
  subst hes
  refine ⟨at_, ct, w7, g0, k0, w8, g1, k1, w9, g2, k2, w10, g3, k3, w11, r7, r8, r9, r10, r11, ?_, FW.begin O11 tp7 A11⟩
  exact ((((ht7.mono (S' := fun b => b0 ≤ b) (fun _ _ h => h.elim)).trans ht8 (fun b hb => .inl (lob 0 ea i0 b hb))).trans ht9 (fun b hb => .inl (lob 1 eb i1 b hb))).trans ht10 (fun b hb => .inl (lob 3 ex i3 b hb))).trans ht11 (fun b hb => .inl (lob 4 ey i4 b hb))
end Go.Proofs.Ytplobjdghaokoaa
