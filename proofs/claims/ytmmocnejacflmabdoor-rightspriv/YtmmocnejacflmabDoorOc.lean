import Derived.Test.YtmmocnejacflmabDoorOe
import Derived.Test.YtmmocnejacflmabDoorGz
namespace Go.Proofs.YtmmocnejacflmabDoor
open Go.ChangeShapes Go.WideShapes Go.ChangeAt Go.RowKit
set_option linter.unusedVariables false
set_option linter.unusedSimpArgs false
theorem cells_i : Tryd.prog.cellsOf 3 = 1 := by kernel_rfl
theorem cells_b : Tryd.prog.cellsOf 4 = 1 := by kernel_rfl
theorem cells_u8 : Tryd.prog.cellsOf 5 = 1 := by kernel_rfl
theorem cells_u64 : Tryd.prog.cellsOf 33 = 1 := by kernel_rfl
theorem cells_tra : Tryd.prog.cellsOf 35 = 8 := by kernel_rfl
theorem cells_ctx : Tryd.prog.cellsOf 37 = 12 := by kernel_rfl
theorem cells_a6 : Tryd.prog.cellsOf 75 = 6 := by kernel_rfl
variable {H : Type} {enc : TypeId × Value → H} {w : World} {base : Nat} {sp : Nat → Bool} {held : Bool}
/-- What it reads as. -/
def ctxD (m : Ctx) : DataW H := .agg [.lit (.bool m.on), .lit (.bool m.tre), .lit (.bool m.afe), .lit (.int .i64 m.n), .lit (.bool m.pd0), .lit (.bool m.pd1), .lit (.int .u64 m.b0), .lit (.int .u64 m.b1), .lit (.int .u32 m.dacr), .lit (.int .u32 m.prrr), .lit (.int .u32 m.nmrr), .lit (.int .i64 m.asid)]
structure CtxWf (m : Ctx) : Prop where
  n : (Lit.int .i64 m.n).wf = true
  b0 : (Lit.int .u64 m.b0).wf = true
  b1 : (Lit.int .u64 m.b1).wf = true
  dacr : (Lit.int .u32 m.dacr).wf = true
  prrr : (Lit.int .u32 m.prrr).wf = true
  nmrr : (Lit.int .u32 m.nmrr).wf = true
  asid : (Lit.int .i64 m.asid).wf = true
theorem shut_ctx {m : Ctx} (h : CtxWf m) : DataW.Trod enc Tryd.prog w base sp held 37 (.agg #[.bool m.on, .bool m.tre, .bool m.afe, .int .i64 m.n, .bool m.pd0, .bool m.pd1, .int .u64 m.b0, .int .u64 m.b1, .int .u32 m.dacr, .int .u32 m.prrr, .int .u32 m.nmrr, .int .i64 m.asid]) (ctxD m) [] := by
  obtain ⟨h0, h1, h2, h3, h4, h5, h6⟩ := h
  exact ⟨2, by simp [DataW.trod, Value.cells, Tryd.underlying37, Tryd.underlying4, Tryd.underlying3, Tryd.underlying22, Tryd.underlying33, cells_ctx, cells_int, cells_bool, cells_u32, cells_u64, h0, h1, h2, h3, h4, h5, h6, ctxD]⟩
theorem open_ctx {r : Reach} {b0 : Nat} {v : Value} {d : DataW H} {ps : List MemPlace} (hv : Value.okWide Tryd.prog w r b0 37 v) (h : DataW.Trod enc Tryd.prog w base sp held 37 v d ps) :
    ∃ m : Ctx, v = .agg #[.bool m.on, .bool m.tre, .bool m.afe, .int .i64 m.n, .bool m.pd0, .bool m.pd1, .int .u64 m.b0, .int .u64 m.b1, .int .u32 m.dacr, .int .u32 m.prrr, .int .u32 m.nmrr, .int .i64 m.asid] ∧ d = ctxD m ∧ ps = [] ∧ CtxWf m := by
  obtain ⟨cs, rfl, hsz⟩ := okWide_struct Tryd.underlying37 hv
  obtain ⟨v0, v1, v2, v3, v4, v5, v6, v7, v8, v9, v10, v11, rfl⟩ : ∃ v0 v1 v2 v3 v4 v5 v6 v7 v8 v9 v10 v11, cs = #[v0, v1, v2, v3, v4, v5, v6, v7, v8, v9, v10, v11] := by
    obtain ⟨l⟩ := cs
    match l, hsz.trans cells_ctx with
    | [v0, v1, v2, v3, v4, v5, v6, v7, v8, v9, v10, v11], _ => exact ⟨v0, v1, v2, v3, v4, v5, v6, v7, v8, v9, v10, v11, rfl⟩
  obtain ⟨fuel, hf⟩ := h
  obtain ⟨xs, n, _, hx, _, hlen, hq⟩ := DataW.trod_struct Tryd.underlying37 hf
  obtain ⟨y0, y1, y2, y3, y4, y5, y6, y7, y8, y9, y10, y11, rfl⟩ : ∃ y0 y1 y2 y3 y4 y5 y6 y7 y8 y9 y10 y11, xs = [y0, y1, y2, y3, y4, y5, y6, y7, y8, y9, y10, y11] := by
    match xs, hlen with
    | [y0, y1, y2, y3, y4, y5, y6, y7, y8, y9, y10, y11], _ => exact ⟨y0, y1, y2, y3, y4, y5, y6, y7, y8, y9, y10, y11, rfl⟩
  have h0 : DataW.trod enc Tryd.prog w base sp held n 4 [v0] = some y0 := by simpa [Value.cells, cells_bool] using hq 0 _ rfl
  have h1 : DataW.trod enc Tryd.prog w base sp held n 4 [v1] = some y1 := by simpa [Value.cells, cells_bool] using hq 1 _ rfl
  have h2 : DataW.trod enc Tryd.prog w base sp held n 4 [v2] = some y2 := by simpa [Value.cells, cells_bool] using hq 2 _ rfl
  have h3 : DataW.trod enc Tryd.prog w base sp held n 3 [v3] = some y3 := by simpa [Value.cells, cells_int] using hq 3 _ rfl
  have h4 : DataW.trod enc Tryd.prog w base sp held n 4 [v4] = some y4 := by simpa [Value.cells, cells_bool] using hq 4 _ rfl
  have h5 : DataW.trod enc Tryd.prog w base sp held n 4 [v5] = some y5 := by simpa [Value.cells, cells_bool] using hq 5 _ rfl
  have h6 : DataW.trod enc Tryd.prog w base sp held n 33 [v6] = some y6 := by simpa [Value.cells, cells_u64] using hq 6 _ rfl
  have h7 : DataW.trod enc Tryd.prog w base sp held n 33 [v7] = some y7 := by simpa [Value.cells, cells_u64] using hq 7 _ rfl
  have h8 : DataW.trod enc Tryd.prog w base sp held n 22 [v8] = some y8 := by simpa [Value.cells, cells_u32] using hq 8 _ rfl
  have h9 : DataW.trod enc Tryd.prog w base sp held n 22 [v9] = some y9 := by simpa [Value.cells, cells_u32] using hq 9 _ rfl
  have h10 : DataW.trod enc Tryd.prog w base sp held n 22 [v10] = some y10 := by simpa [Value.cells, cells_u32] using hq 10 _ rfl
  have h11 : DataW.trod enc Tryd.prog w base sp held n 3 [v11] = some y11 := by simpa [Value.cells, cells_int] using hq 11 _ rfl
  obtain ⟨i0, e0, r0⟩ := DataW.trod_bool Tryd.underlying4 h0
  obtain ⟨i1, e1, r1⟩ := DataW.trod_bool Tryd.underlying4 h1
  obtain ⟨i2, e2, r2⟩ := DataW.trod_bool Tryd.underlying4 h2
  obtain ⟨i3, e3, r3, w3⟩ := DataW.trod_int Tryd.underlying3 h3
  obtain ⟨i4, e4, r4⟩ := DataW.trod_bool Tryd.underlying4 h4
  obtain ⟨i5, e5, r5⟩ := DataW.trod_bool Tryd.underlying4 h5
  obtain ⟨i6, e6, r6, w6⟩ := DataW.trod_int Tryd.underlying33 h6
  obtain ⟨i7, e7, r7, w7⟩ := DataW.trod_int Tryd.underlying33 h7
  obtain ⟨i8, e8, r8, w8⟩ := DataW.trod_int Tryd.underlying22 h8
  obtain ⟨i9, e9, r9, w9⟩ := DataW.trod_int Tryd.underlying22 h9
  obtain ⟨i10, e10, r10, w10⟩ := DataW.trod_int Tryd.underlying22 h10
  obtain ⟨i11, e11, r11, w11⟩ := DataW.trod_int Tryd.underlying3 h11
  simp only [List.cons.injEq, and_true] at e0 e1 e2 e3 e4 e5 e6 e7 e8 e9 e10 e11
  subst e0 e1 e2 e3 e4 e5 e6 e7 e8 e9 e10 e11 r0 r1 r2 r3 r4 r5 r6 r7 r8 r9 r10 r11
  obtain ⟨hd, hp⟩ := Prod.mk.inj hx
  exact ⟨⟨i0, i1, i2, i3, i4, i5, i6, i7, i8, i9, i10, i11⟩, rfl, hd, hp, ⟨w3, w6, w7, w8, w9, w10, w11⟩⟩
def traD (t : Tra) : DataW H := .agg [.lit (.int .i64 t.size), .lit (.int .u32 t.va), .lit (.int .u64 t.pa), .lit (.int .i64 t.dom), .agg [.lit (.int .i64 t.ap), .lit (.int .u32 t.bits), .lit (.bool t.ng), .lit (.bool t.xn)]]
structure TraWf (t : Tra) : Prop where
  s : (Lit.int .i64 t.size).wf = true
  v : (Lit.int .u32 t.va).wf = true
  p : (Lit.int .u64 t.pa).wf = true
  d : (Lit.int .i64 t.dom).wf = true
  a : (Lit.int .i64 t.ap).wf = true
  t : (Lit.int .u32 t.bits).wf = true
theorem shut_tra {t : Tra} (h : TraWf t) : DataW.Trod enc Tryd.prog w base sp held 35 (.agg #[.int .i64 t.size, .int .u32 t.va, .int .u64 t.pa, .int .i64 t.dom, .int .i64 t.ap, .int .u32 t.bits, .bool t.ng, .bool t.xn]) (traD t) [] := by
  obtain ⟨h1, h2, h3, h4, h5, h6⟩ := h
  exact ⟨3, by simp [DataW.trod, Value.cells, Tryd.underlying35, Tryd.underlying24, Tryd.underlying3, Tryd.underlying4, Tryd.underlying22, Tryd.underlying33, cells_tra, cells_leaf, cells_i, cells_b, cells_u32, cells_u64, h1, h2, h3, h4, h5, h6, traD]⟩

theorem array8 {cs : Array Value} (h : cs.size = 8) : ∃ a b c d e f g i, cs = #[a, b, c, d, e, f, g, i] := by
  obtain ⟨l⟩ := cs
  match l, h with
  | [a, b, c, d, e, f, g, i], _ => exact ⟨a, b, c, d, e, f, g, i, rfl⟩

theorem open_leaf4 {fuel : Nat} {a b c d : Value} {x : DataW H × List MemPlace} (h : DataW.trod enc Tryd.prog w base sp held fuel 24 [a, b, c, d] = some x) :
    ∃ (n m : Int) (p q : Bool), a = .int .i64 n ∧ b = .int .u32 m ∧ c = .bool p ∧ d = .bool q ∧ x = (.agg [.lit (.int .i64 n), .lit (.int .u32 m), .lit (.bool p), .lit (.bool q)], []) ∧ (Lit.int .i64 n).wf = true ∧ (Lit.int .u32 m).wf = true := by
  obtain ⟨y0, y1, y2, y3, n, rfl, _, h0, h1, h2, h3⟩ := Go.Joins.trod_struct4 Tryd.underlying24 h
  simp only [cells_i, cells_u32, cells_b, List.drop_zero, List.drop_succ_cons, List.take_succ_cons, List.take_zero] at h0 h1 h2 h3
  obtain ⟨i0, e0, r0, w0⟩ := DataW.trod_int Tryd.underlying3 h0
  obtain ⟨i1, e1, r1, w1⟩ := DataW.trod_int Tryd.underlying22 h1
  obtain ⟨i2, e2, r2⟩ := DataW.trod_bool Tryd.underlying4 h2
  obtain ⟨i3, e3, r3⟩ := DataW.trod_bool Tryd.underlying4 h3
  simp only [List.cons.injEq, and_true] at e0 e1 e2 e3
  subst e0 e1 e2 e3 r0 r1 r2 r3
  exact ⟨i0, i1, i2, i3, rfl, rfl, rfl, rfl, rfl, w0, w1⟩
theorem open_tra {r : Reach} {b0 : Nat} {v : Value} {d : DataW H} {ps : List MemPlace} (hv : Value.okWide Tryd.prog w r b0 35 v) (h : DataW.Trod enc Tryd.prog w base sp held 35 v d ps) :
    ∃ t : Tra, v = .agg #[.int .i64 t.size, .int .u32 t.va, .int .u64 t.pa, .int .i64 t.dom, .int .i64 t.ap, .int .u32 t.bits, .bool t.ng, .bool t.xn] ∧ d = traD t ∧ ps = [] ∧ TraWf t := by
  obtain ⟨cs, rfl, hsz⟩ := okWide_struct Tryd.underlying35 hv
  obtain ⟨v0, v1, v2, v3, v4, v5, v6, v7, rfl⟩ := array8 (hsz.trans cells_tra)
  obtain ⟨fuel, hf⟩ := h
  obtain ⟨xs, n, _, hx, _, hlen, hq⟩ := DataW.trod_struct Tryd.underlying35 hf
  obtain ⟨y0, y1, y2, y3, y4, rfl⟩ : ∃ y0 y1 y2 y3 y4, xs = [y0, y1, y2, y3, y4] := by
    match xs, hlen with
    | [y0, y1, y2, y3, y4], _ => exact ⟨y0, y1, y2, y3, y4, rfl⟩
  · skip
    have h0 : DataW.trod enc Tryd.prog w base sp held n 3 [v0] = some y0 := by simpa [Value.cells, cells_i] using hq 0 _ rfl
    have h1 : DataW.trod enc Tryd.prog w base sp held n 22 [v1] = some y1 := by simpa [Value.cells, cells_u32] using hq 1 _ rfl
    have h2 : DataW.trod enc Tryd.prog w base sp held n 33 [v2] = some y2 := by simpa [Value.cells, cells_u64] using hq 2 _ rfl
    have h3 : DataW.trod enc Tryd.prog w base sp held n 3 [v3] = some y3 := by simpa [Value.cells, cells_i] using hq 3 _ rfl
    have h4 : DataW.trod enc Tryd.prog w base sp held n 24 [v4, v5, v6, v7] = some y4 := by simpa [Value.cells, cells_leaf] using hq 4 _ rfl
    obtain ⟨i0, e0, r0, w0⟩ := DataW.trod_int Tryd.underlying3 h0
    obtain ⟨i1, e1, r1, w1⟩ := DataW.trod_int Tryd.underlying22 h1
    obtain ⟨i2, e2, r2, w2⟩ := DataW.trod_int Tryd.underlying33 h2
    obtain ⟨i3, e3, r3, w3⟩ := DataW.trod_int Tryd.underlying3 h3
    obtain ⟨i4, i5, i6, i7, rfl, rfl, rfl, rfl, r4, w4, w5⟩ := open_leaf4 h4
    simp only [List.cons.injEq, and_true] at e0 e1 e2 e3
    subst e0 e1 e2 e3 r0 r1 r2 r3 r4
    obtain ⟨hd, hp⟩ := Prod.mk.inj hx
    exact ⟨⟨i0, i1, i2, i3, i4, i5, i6, i7⟩, rfl, hd, hp, ⟨w0, w1, w2, w3, w4, w5⟩⟩

/-- A listed table of numbers. -/
theorem tab_of {k : IntKind} {W : World} {L : List (String × DataW Unit)} {ps : List MemPlace} (h : DataW.LaidVars Tryd.prog W L ps) {n : String} {g : Nat} {t e : TypeId} {m : Nat} (l : List Int)
    (hm : (n, DataW.agg (l.map fun z => .lit (.int k z))) ∈ L) (hg : Tryd.prog.globalNamed n = some g) (hty : (Tryd.prog.globals[g]?).map (·.type) = some t)
    (ht : Tryd.prog.underlying t = some (.array m e)) (he : Tryd.prog.underlying e = some (.int k)) (hce : Tryd.prog.cellsOf e = 1) (hct : Tryd.prog.cellsOf t = m) : Tb k W g l := by
  obtain ⟨g', t', cs, fuel, p, h1, h2, h3, h4⟩ := laid_mem h hm
  obtain rfl := Option.some.inj (hg.symm.trans h1)
  obtain rfl := Option.some.inj (hty.symm.trans h2)
  have hcs := Lib.cells_of_tab (zs := l) ht he hce hct h4
  intro i v hv
  rw [World.var?_cell hg h3 i, ← Array.getElem?_toList, hcs]
  simp [hv]
/-- A listed table of tables of six numbers. -/
theorem tab2_of {W : World} {L : List (String × DataW Unit)} {ps : List MemPlace} (h : DataW.LaidVars Tryd.prog W L ps) {n : String} {g : Nat} {t : TypeId} (ls : List (List Int))
    (hm : (n, DataW.agg (ls.map fun l => .agg (l.map fun z => .lit (.int .u8 z)))) ∈ L) (hg : Tryd.prog.globalNamed n = some g) (hty : (Tryd.prog.globals[g]?).map (·.type) = some t)
    (ht : Tryd.prog.underlying t = some (.array 6 75)) (hct : Tryd.prog.cellsOf t = 36) (i j : Nat) (l : List Int) (v : Int) (hl : ls[i]? = some l) (hv : l[j]? = some v) (hj : j < 6) (hi : i < 6) : W.cell? ⟨g, i * 6 + j, none⟩ = some (.int .u8 v) := by
  obtain ⟨g', t', cs, fuel, p, h1, h2, h3, h4⟩ := laid_mem h hm
  obtain rfl := Option.some.inj (hg.symm.trans h1)
  obtain rfl := Option.some.inj (hty.symm.trans h2)
  rw [World.var?_cell hg h3 (i * 6 + j), ← Array.getElem?_toList]
  cases fuel with
  | zero => simp [DataW.trod] at h4
  | succ fuel =>
    simp only [DataW.trod, ht, hct, cells_a6] at h4
    split at h4
    · obtain ⟨xs, hx1, hx⟩ := Option.map_eq_some_iff.1 h4
      have hxs : xs.map (·.1) = ls.map fun l => (DataW.agg (l.map fun z => .lit (.int .u8 z)) : DataW Unit) := by
        have := congrArg Prod.fst hx
        simpa using this
      obtain ⟨b, hb, hf⟩ := Lib.mapM_at hx1 i i (by simp [hi])
      have hb1 : b.1 = DataW.agg (l.map fun z => .lit (.int .u8 z)) := by
        have e1 : (xs.map (·.1))[i]? = some b.1 := by simp [hb]
        rw [hxs] at e1
        simp [hl] at e1
        exact e1.symm
      obtain ⟨b1, b2⟩ := b
      simp only at hb1
      subst hb1
      have hcs := Lib.cells_of_tab (zs := l) Tryd.underlying75 Tryd.underlying5 cells_u8 cells_a6 hf
      have e2 := congrArg (·[j]?) hcs
      simp only [List.getElem?_take, List.getElem?_drop, List.getElem?_map, hv, if_pos hj, Option.map_some] at e2
      exact e2
    · cases h4
theorem TraWf.ft {t : Tra} (h : TraWf t) : Ft t := by
  have h1 := bounds_u32 h.v
  have h2 := bounds_u64 h.p
  have h3 := bounds_u32 h.t
  exact ⟨by omega, by omega, by omega⟩
end Go.Proofs.YtmmocnejacflmabDoor
