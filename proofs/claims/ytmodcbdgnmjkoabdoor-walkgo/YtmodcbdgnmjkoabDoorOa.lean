import Derived.Test.YtmodcbdgnmjkoabDoorLa
import Derived.Test.YtmodcbdgnmjkoabDoorMG
import Derived.Test.YtmodcbdgnmjkoabDoorRows
import Derived.ChangeSame
import Derived.WalkKit
import Derived.ProofKit
import Derived.OpenShut
import Derived.Lib.LaidTab
import Derived.Lib.SmallJoins
import Derived.Deep.DeepHandedRow
namespace Go.Proofs.YtmodcbdgnmjkoabDoor
open Go.ChangeShapes Go.WideShapes Go.ChangeAt Go.RowKit Go.Deep
set_option linter.unusedVariables false
set_option linter.unusedSimpArgs false
theorem cells_int : Tryd.prog.cellsOf 3 = 1 := by kernel_rfl
theorem cells_bool : Tryd.prog.cellsOf 4 = 1 := by kernel_rfl
theorem cells_u32 : Tryd.prog.cellsOf 24 = 1 := by kernel_rfl
theorem cells_leaf : Tryd.prog.cellsOf 47 = 4 := by kernel_rfl
theorem cells_may : Tryd.prog.cellsOf 149 = 2 := by kernel_rfl
theorem cells_row : Tryd.prog.cellsOf 170 = 4 := by kernel_rfl
set_option linter.unusedVariables false
set_option linter.unusedSimpArgs false
theorem cells_i : Tryd.prog.cellsOf 3 = 1 := by kernel_rfl
theorem cells_b : Tryd.prog.cellsOf 4 = 1 := by kernel_rfl
theorem cells_u8 : Tryd.prog.cellsOf 5 = 1 := by kernel_rfl
theorem cells_u64 : Tryd.prog.cellsOf 23 = 1 := by kernel_rfl
theorem cells_tra : Tryd.prog.cellsOf 49 = 8 := by kernel_rfl
theorem cells_ctx : Tryd.prog.cellsOf 26 = 12 := by kernel_rfl
theorem cells_a6 : Tryd.prog.cellsOf 116 = 6 := by kernel_rfl
theorem cells_put : Tryd.prog.cellsOf 58 = 2 := by kernel_rfl
variable {H : Type} {enc : TypeId × Value → H} {w : World} {base : Nat} {sp : Nat → Bool} {held : Bool}
/-- What it reads as. -/
def ctxD (m : Ctx) : DataW H := .agg [.lit (.bool m.on), .lit (.bool m.tre), .lit (.bool m.afe), .lit (.int .i64 m.n), .lit (.bool m.pd0), .lit (.bool m.pd1), .lit (.int .u64 m.b0), .lit (.int .u64 m.b1), .lit (.int .u32 m.dacr), .lit (.int .u32 m.prrr), .lit (.int .u32 m.nmrr), .lit (.int .i64 m.asid)]
structure CtxWf (m : Ctx) : Prop where
  n : (Lit.int .i64 m.n).wf = true
  b0 : (Lit.int .u64 m.b0).wf = true
  b1 : (Lit.int .u64 m.b1).wf = true
  dacr : (Lit.int .u32 m.dacr).wf = true
  prrr : (Lit.int .u32 m.prrr).wf = true
  nmrr : (Lit.int .u32 m.nmrr).wf = true
  asid : (Lit.int .i64 m.asid).wf = true
set_option maxRecDepth 100000 in
theorem shut_ctx {m : Ctx} (h : CtxWf m) : DataW.Trod enc Tryd.prog w base sp held 26 (.agg #[.bool m.on, .bool m.tre, .bool m.afe, .int .i64 m.n, .bool m.pd0, .bool m.pd1, .int .u64 m.b0, .int .u64 m.b1, .int .u32 m.dacr, .int .u32 m.prrr, .int .u32 m.nmrr, .int .i64 m.asid]) (ctxD m) [] := by
  obtain ⟨h0, h1, h2, h3, h4, h5, h6⟩ := h
  exact ⟨2, by simp [DataW.trod, Value.cells, Tryd.underlying26, Tryd.underlying4, Tryd.underlying3, Tryd.underlying24, Tryd.underlying23, cells_ctx, cells_int, cells_bool, cells_u32, cells_u64, h0, h1, h2, h3, h4, h5, h6, ctxD]⟩
set_option maxRecDepth 100000 in
theorem open_ctx {r : Reach} {b0 : Nat} {v : Value} {d : DataW H} {ps : List MemPlace} (hv : Value.okWide Tryd.prog w r b0 26 v) (h : DataW.Trod enc Tryd.prog w base sp held 26 v d ps) :
    ∃ m : Ctx, v = .agg #[.bool m.on, .bool m.tre, .bool m.afe, .int .i64 m.n, .bool m.pd0, .bool m.pd1, .int .u64 m.b0, .int .u64 m.b1, .int .u32 m.dacr, .int .u32 m.prrr, .int .u32 m.nmrr, .int .i64 m.asid] ∧ d = ctxD m ∧ ps = [] ∧ CtxWf m := by
  obtain ⟨cs, rfl, hsz⟩ := okWide_struct Tryd.underlying26 hv
  obtain ⟨v0, v1, v2, v3, v4, v5, v6, v7, v8, v9, v10, v11, rfl⟩ : ∃ v0 v1 v2 v3 v4 v5 v6 v7 v8 v9 v10 v11, cs = #[v0, v1, v2, v3, v4, v5, v6, v7, v8, v9, v10, v11] := by
    obtain ⟨l⟩ := cs
    match l, hsz.trans cells_ctx with
    | [v0, v1, v2, v3, v4, v5, v6, v7, v8, v9, v10, v11], _ => exact ⟨v0, v1, v2, v3, v4, v5, v6, v7, v8, v9, v10, v11, rfl⟩
  obtain ⟨fuel, hf⟩ := h
  obtain ⟨xs, n, _, hx, _, hlen, hq⟩ := DataW.trod_struct Tryd.underlying26 hf
  obtain ⟨y0, y1, y2, y3, y4, y5, y6, y7, y8, y9, y10, y11, rfl⟩ : ∃ y0 y1 y2 y3 y4 y5 y6 y7 y8 y9 y10 y11, xs = [y0, y1, y2, y3, y4, y5, y6, y7, y8, y9, y10, y11] := by
    match xs, hlen with
    | [y0, y1, y2, y3, y4, y5, y6, y7, y8, y9, y10, y11], _ => exact ⟨y0, y1, y2, y3, y4, y5, y6, y7, y8, y9, y10, y11, rfl⟩
  have h0 : DataW.trod enc Tryd.prog w base sp held n 4 [v0] = some y0 := by simpa [Value.cells, cells_bool] using hq 0 _ rfl
  have h1 : DataW.trod enc Tryd.prog w base sp held n 4 [v1] = some y1 := by simpa [Value.cells, cells_bool] using hq 1 _ rfl
  have h2 : DataW.trod enc Tryd.prog w base sp held n 4 [v2] = some y2 := by simpa [Value.cells, cells_bool] using hq 2 _ rfl
  have h3 : DataW.trod enc Tryd.prog w base sp held n 3 [v3] = some y3 := by simpa [Value.cells, cells_int] using hq 3 _ rfl
  have h4 : DataW.trod enc Tryd.prog w base sp held n 4 [v4] = some y4 := by simpa [Value.cells, cells_bool] using hq 4 _ rfl
  have h5 : DataW.trod enc Tryd.prog w base sp held n 4 [v5] = some y5 := by simpa [Value.cells, cells_bool] using hq 5 _ rfl
  have h6 : DataW.trod enc Tryd.prog w base sp held n 23 [v6] = some y6 := by simpa [Value.cells, cells_u64] using hq 6 _ rfl
  have h7 : DataW.trod enc Tryd.prog w base sp held n 23 [v7] = some y7 := by simpa [Value.cells, cells_u64] using hq 7 _ rfl
  have h8 : DataW.trod enc Tryd.prog w base sp held n 24 [v8] = some y8 := by simpa [Value.cells, cells_u32] using hq 8 _ rfl
  have h9 : DataW.trod enc Tryd.prog w base sp held n 24 [v9] = some y9 := by simpa [Value.cells, cells_u32] using hq 9 _ rfl
  have h10 : DataW.trod enc Tryd.prog w base sp held n 24 [v10] = some y10 := by simpa [Value.cells, cells_u32] using hq 10 _ rfl
  have h11 : DataW.trod enc Tryd.prog w base sp held n 3 [v11] = some y11 := by simpa [Value.cells, cells_int] using hq 11 _ rfl
  obtain ⟨i0, e0, r0⟩ := DataW.trod_bool Tryd.underlying4 h0
  obtain ⟨i1, e1, r1⟩ := DataW.trod_bool Tryd.underlying4 h1
  obtain ⟨i2, e2, r2⟩ := DataW.trod_bool Tryd.underlying4 h2
  obtain ⟨i3, e3, r3, w3⟩ := DataW.trod_int Tryd.underlying3 h3
  obtain ⟨i4, e4, r4⟩ := DataW.trod_bool Tryd.underlying4 h4
  obtain ⟨i5, e5, r5⟩ := DataW.trod_bool Tryd.underlying4 h5
  obtain ⟨i6, e6, r6, w6⟩ := DataW.trod_int Tryd.underlying23 h6
  obtain ⟨i7, e7, r7, w7⟩ := DataW.trod_int Tryd.underlying23 h7
  obtain ⟨i8, e8, r8, w8⟩ := DataW.trod_int Tryd.underlying24 h8
  obtain ⟨i9, e9, r9, w9⟩ := DataW.trod_int Tryd.underlying24 h9
  obtain ⟨i10, e10, r10, w10⟩ := DataW.trod_int Tryd.underlying24 h10
  obtain ⟨i11, e11, r11, w11⟩ := DataW.trod_int Tryd.underlying3 h11
  simp only [List.cons.injEq, and_true] at e0 e1 e2 e3 e4 e5 e6 e7 e8 e9 e10 e11
  subst e0 e1 e2 e3 e4 e5 e6 e7 e8 e9 e10 e11 r0 r1 r2 r3 r4 r5 r6 r7 r8 r9 r10 r11
  obtain ⟨hd, hp⟩ := Prod.mk.inj hx
  exact ⟨⟨i0, i1, i2, i3, i4, i5, i6, i7, i8, i9, i10, i11⟩, rfl, hd, hp, ⟨w3, w6, w7, w8, w9, w10, w11⟩⟩
def traD (t : Tra) : DataW H := .agg [.lit (.int .i64 t.size), .lit (.int .u32 t.va), .lit (.int .u64 t.pa), .lit (.int .i64 t.dom), .agg [.lit (.int .i64 t.ap), .lit (.int .u32 t.bits), .lit (.bool t.ng), .lit (.bool t.xn)]]
structure TraWf (t : Tra) : Prop where
  s : (Lit.int .i64 t.size).wf = true
  v : (Lit.int .u32 t.va).wf = true
  p : (Lit.int .u64 t.pa).wf = true
  d : (Lit.int .i64 t.dom).wf = true
  a : (Lit.int .i64 t.ap).wf = true
  t : (Lit.int .u32 t.bits).wf = true
set_option maxRecDepth 100000 in
theorem shut_tra {t : Tra} (h : TraWf t) : DataW.Trod enc Tryd.prog w base sp held 49 (.agg #[.int .i64 t.size, .int .u32 t.va, .int .u64 t.pa, .int .i64 t.dom, .int .i64 t.ap, .int .u32 t.bits, .bool t.ng, .bool t.xn]) (traD t) [] := by
  obtain ⟨h1, h2, h3, h4, h5, h6⟩ := h
  exact ⟨3, by simp [DataW.trod, Value.cells, Tryd.underlying49, Tryd.underlying47, Tryd.underlying3, Tryd.underlying4, Tryd.underlying24, Tryd.underlying23, cells_tra, cells_leaf, cells_i, cells_b, cells_u32, cells_u64, h1, h2, h3, h4, h5, h6, traD]⟩

theorem array8 {cs : Array Value} (h : cs.size = 8) : ∃ a b c d e f g i, cs = #[a, b, c, d, e, f, g, i] := by
  obtain ⟨l⟩ := cs
  match l, h with
  | [a, b, c, d, e, f, g, i], _ => exact ⟨a, b, c, d, e, f, g, i, rfl⟩

theorem open_leaf4 {fuel : Nat} {a b c d : Value} {x : DataW H × List MemPlace} (h : DataW.trod enc Tryd.prog w base sp held fuel 47 [a, b, c, d] = some x) :
    ∃ (n m : Int) (p q : Bool), a = .int .i64 n ∧ b = .int .u32 m ∧ c = .bool p ∧ d = .bool q ∧ x = (.agg [.lit (.int .i64 n), .lit (.int .u32 m), .lit (.bool p), .lit (.bool q)], []) ∧ (Lit.int .i64 n).wf = true ∧ (Lit.int .u32 m).wf = true := by
  obtain ⟨y0, y1, y2, y3, n, rfl, _, h0, h1, h2, h3⟩ := Go.Joins.trod_struct4 Tryd.underlying47 h
  simp only [cells_i, cells_u32, cells_b, List.drop_zero, List.drop_succ_cons, List.take_succ_cons, List.take_zero] at h0 h1 h2 h3
  obtain ⟨i0, e0, r0, w0⟩ := DataW.trod_int Tryd.underlying3 h0
  obtain ⟨i1, e1, r1, w1⟩ := DataW.trod_int Tryd.underlying24 h1
  obtain ⟨i2, e2, r2⟩ := DataW.trod_bool Tryd.underlying4 h2
  obtain ⟨i3, e3, r3⟩ := DataW.trod_bool Tryd.underlying4 h3
  simp only [List.cons.injEq, and_true] at e0 e1 e2 e3
  subst e0 e1 e2 e3 r0 r1 r2 r3
  exact ⟨i0, i1, i2, i3, rfl, rfl, rfl, rfl, rfl, w0, w1⟩
set_option maxRecDepth 100000 in
theorem open_tra {r : Reach} {b0 : Nat} {v : Value} {d : DataW H} {ps : List MemPlace} (hv : Value.okWide Tryd.prog w r b0 49 v) (h : DataW.Trod enc Tryd.prog w base sp held 49 v d ps) :
    ∃ t : Tra, v = .agg #[.int .i64 t.size, .int .u32 t.va, .int .u64 t.pa, .int .i64 t.dom, .int .i64 t.ap, .int .u32 t.bits, .bool t.ng, .bool t.xn] ∧ d = traD t ∧ ps = [] ∧ TraWf t := by
  obtain ⟨cs, rfl, hsz⟩ := okWide_struct Tryd.underlying49 hv
  obtain ⟨v0, v1, v2, v3, v4, v5, v6, v7, rfl⟩ := array8 (hsz.trans cells_tra)
  obtain ⟨fuel, hf⟩ := h
  obtain ⟨xs, n, _, hx, _, hlen, hq⟩ := DataW.trod_struct Tryd.underlying49 hf
  obtain ⟨y0, y1, y2, y3, y4, rfl⟩ : ∃ y0 y1 y2 y3 y4, xs = [y0, y1, y2, y3, y4] := by
    match xs, hlen with
    | [y0, y1, y2, y3, y4], _ => exact ⟨y0, y1, y2, y3, y4, rfl⟩
  · skip
    have h0 : DataW.trod enc Tryd.prog w base sp held n 3 [v0] = some y0 := by simpa [Value.cells, cells_i] using hq 0 _ rfl
    have h1 : DataW.trod enc Tryd.prog w base sp held n 24 [v1] = some y1 := by simpa [Value.cells, cells_u32] using hq 1 _ rfl
    have h2 : DataW.trod enc Tryd.prog w base sp held n 23 [v2] = some y2 := by simpa [Value.cells, cells_u64] using hq 2 _ rfl
    have h3 : DataW.trod enc Tryd.prog w base sp held n 3 [v3] = some y3 := by simpa [Value.cells, cells_i] using hq 3 _ rfl
    have h4 : DataW.trod enc Tryd.prog w base sp held n 47 [v4, v5, v6, v7] = some y4 := by simpa [Value.cells, cells_leaf] using hq 4 _ rfl
    obtain ⟨i0, e0, r0, w0⟩ := DataW.trod_int Tryd.underlying3 h0
    obtain ⟨i1, e1, r1, w1⟩ := DataW.trod_int Tryd.underlying24 h1
    obtain ⟨i2, e2, r2, w2⟩ := DataW.trod_int Tryd.underlying23 h2
    obtain ⟨i3, e3, r3, w3⟩ := DataW.trod_int Tryd.underlying3 h3
    obtain ⟨i4, i5, i6, i7, rfl, rfl, rfl, rfl, r4, w4, w5⟩ := open_leaf4 h4
    simp only [List.cons.injEq, and_true] at e0 e1 e2 e3
    subst e0 e1 e2 e3 r0 r1 r2 r3 r4
    obtain ⟨hd, hp⟩ := Prod.mk.inj hx
    exact ⟨⟨i0, i1, i2, i3, i4, i5, i6, i7⟩, rfl, hd, hp, ⟨w0, w1, w2, w3, w4, w5⟩⟩

def mayD (a b : Bool) : DataW Unit := .agg [.lit (.bool a), .lit (.bool b)]
def rowD (r : Row) : DataW Unit := .agg [mayD r.pr r.pw, mayD r.ur r.uw]
/-- A listed variable. -/
theorem laid_mem {P : Program} {W : World} {n : String} {d : DataW Unit} : ∀ {L : List (String × DataW Unit)} {ps : List MemPlace}, DataW.LaidVars P W L ps → (n, d) ∈ L →
    ∃ g t cs fuel p, P.globalNamed n = some g ∧ (P.globals[g]?).map (·.type) = some t ∧ W.var? P n = some cs ∧ DataW.trod (fun _ => ()) P W 0 (fun _ => true) false fuel t cs.toList = some (d, p)
  | [], _, _, hm => by cases hm
  | (n', d') :: L, ps, h, hm => by
    obtain ⟨g, t, cs, fuel, p, q, h1, h2, h3, h4, h5, _⟩ := h
    rcases List.mem_cons.1 hm with he | hm
    · cases he
      exact ⟨g, t, cs, fuel, p, h1, h2, h3, h4⟩
    · exact laid_mem h5 hm
/-- An element of an array. -/
theorem arr_at {P : Program} {W : World} {fuel : Nat} {t e : TypeId} {m c : Nat} {cs : List Value} {x : DataW Unit × List MemPlace} (h : DataW.trod (fun _ => ()) P W 0 (fun _ => true) false fuel t cs = some x)
    (ht : P.underlying t = some (.array m e)) (hce : P.cellsOf e = c) (hct : P.cellsOf t = m * c) :
    cs.length = m * c ∧ ∃ ds, x.1 = .agg ds ∧ ds.length = m ∧ ∀ i, i < m → ∃ f' y, ds[i]? = some y.1 ∧ DataW.trod (fun _ => ()) P W 0 (fun _ => true) false f' e ((cs.drop (i * c)).take c) = some y := by
  cases fuel with
  | zero => simp [DataW.trod] at h
  | succ fuel =>
    simp only [DataW.trod, ht, hct, hce] at h
    split at h
    · rename_i hl
      obtain ⟨xs, hx1, rfl⟩ := Option.map_eq_some_iff.1 h
      refine ⟨by simpa using hl, xs.map (·.1), by simp, ?_, fun i hi => ?_⟩
      · have := Lib.mapM_length hx1
        simpa using this
      · obtain ⟨b, hb, hf⟩ := Lib.mapM_at hx1 i i (by simp [hi])
        exact ⟨fuel, b, by simp [hb], hf⟩
    · cases h
/-- An element of a listed array. -/
theorem tab_at {W : World} {L : List (String × DataW Unit)} {ps : List MemPlace} (h : DataW.LaidVars Tryd.prog W L ps) {n : String} {g : Nat} {t e : TypeId} {m c : Nat} (ds : List (DataW Unit))
    (hm : (n, DataW.agg ds) ∈ L) (hg : Tryd.prog.globalNamed n = some g) (hty : (Tryd.prog.globals[g]?).map (·.type) = some t)
    (ht : Tryd.prog.underlying t = some (.array m e)) (hce : Tryd.prog.cellsOf e = c) (hct : Tryd.prog.cellsOf t = m * c) (i : Nat) (hi : i < m) :
    ∃ cs fuel x, (∀ j v, j < c → cs[j]? = some v → W.cell? ⟨g, i * c + j, none⟩ = some v) ∧ ds[i]? = some x.1 ∧ DataW.trod (fun _ => ()) Tryd.prog W 0 (fun _ => true) false fuel e cs = some x := by
  obtain ⟨g', t', cs, fuel, p, h1, h2, h3, h4⟩ := laid_mem h hm
  obtain rfl := Option.some.inj (hg.symm.trans h1)
  obtain rfl := Option.some.inj (hty.symm.trans h2)
  obtain ⟨_, ds', he, _, hat⟩ := arr_at h4 ht hce hct
  obtain rfl : ds = ds' := by simpa using he
  obtain ⟨f', y, hy, hf⟩ := hat i hi
  refine ⟨_, f', y, ?_, hy, hf⟩
  intro j v hj hv
  rw [World.var?_cell hg h3 (i * c + j), ← Array.getElem?_toList]
  simpa [List.getElem?_take, List.getElem?_drop, hj] using hv
set_option maxRecDepth 100000 in
theorem may_cells {W : World} {fuel : Nat} {cs : List Value} {x : DataW Unit × List MemPlace} (h : DataW.trod (fun _ => ()) Tryd.prog W 0 (fun _ => true) false fuel 149 cs = some x) :
    ∃ a b : Bool, cs = [.bool a, .bool b] ∧ x.1 = mayD a b := by
  obtain ⟨y0, y1, n, hx, hl, h0, h1⟩ := trod_struct2 Tryd.underlying149 h
  rw [cells_may] at hl
  obtain ⟨a, b, rfl⟩ : ∃ a b, cs = [a, b] := by
    match cs, hl with
    | [a, b], _ => exact ⟨a, b, rfl⟩
  simp only [cells_bool, List.drop_zero, List.drop_succ_cons, List.take_succ_cons, List.take_zero] at h0 h1
  obtain ⟨i0, e0, r0⟩ := DataW.trod_bool Tryd.underlying4 h0
  obtain ⟨i1, e1, r1⟩ := DataW.trod_bool Tryd.underlying4 h1
  simp only [List.cons.injEq, and_true] at e0 e1
  subst e0 e1 r0 r1
  exact ⟨i0, i1, rfl, by rw [hx]; rfl⟩
set_option maxRecDepth 100000 in
theorem row_cells {W : World} {fuel : Nat} {cs : List Value} {x : DataW Unit × List MemPlace} (h : DataW.trod (fun _ => ()) Tryd.prog W 0 (fun _ => true) false fuel 170 cs = some x) :
    ∃ r : Row, cs = [.bool r.pr, .bool r.pw, .bool r.ur, .bool r.uw] ∧ x.1 = rowD r := by
  obtain ⟨y0, y1, n, hx, hl, h0, h1⟩ := trod_struct2 Tryd.underlying170 h
  rw [cells_row] at hl
  obtain ⟨a, b, c, d, rfl⟩ : ∃ a b c d, cs = [a, b, c, d] := by
    match cs, hl with
    | [a, b, c, d], _ => exact ⟨a, b, c, d, rfl⟩
  simp only [cells_may, List.drop_zero, List.drop_succ_cons, List.take_succ_cons, List.take_zero] at h0 h1
  obtain ⟨a1, b1, e0, r0⟩ := may_cells h0
  obtain ⟨a2, b2, e1, r1⟩ := may_cells h1
  simp only [List.cons.injEq, and_true] at e0 e1
  obtain ⟨rfl, rfl⟩ := e0
  obtain ⟨rfl, rfl⟩ := e1
  exact ⟨⟨a1, b1, a2, b2⟩, rfl, by rw [hx]; simp only [r0, r1]; rfl⟩
/-- A listed table of permissions. -/
theorem perm_of {W : World} {L : List (String × DataW Unit)} {ps : List MemPlace} (h : DataW.LaidVars Tryd.prog W L ps) {n : String} {g : Nat} {t : TypeId} {m : Nat} (l : List Row)
    (hm : (n, DataW.agg (l.map rowD)) ∈ L) (hg : Tryd.prog.globalNamed n = some g) (hty : (Tryd.prog.globals[g]?).map (·.type) = some t)
    (ht : Tryd.prog.underlying t = some (.array m 170)) (hct : Tryd.prog.cellsOf t = m * 4) (hl : l.length = m) : ∀ q r, l[q]? = some r → RoB W g (q * 4) r := by
  intro q r hr
  have hi : q < m := by rw [← hl]; exact (List.getElem?_eq_some_iff.1 hr).1
  obtain ⟨cs, fuel, x, h1, h2, h3⟩ := tab_at h _ hm hg hty ht cells_row hct q hi
  obtain ⟨r', rfl, hx⟩ := row_cells h3
  rw [hx] at h2
  simp [hr] at h2
  obtain rfl : r = r' := by
    obtain ⟨a1, a2, a3, a4⟩ := r
    obtain ⟨b1, b2, b3, b4⟩ := r'
    simpa [rowD, mayD, and_assoc] using h2
  exact ⟨h1 0 _ (by decide) rfl, h1 1 _ (by decide) rfl, h1 2 _ (by decide) rfl, h1 3 _ (by decide) rfl⟩
/-- A listed table of numbers. -/
theorem tab_of {k : IntKind} {W : World} {L : List (String × DataW Unit)} {ps : List MemPlace} (h : DataW.LaidVars Tryd.prog W L ps) {n : String} {g : Nat} {t e : TypeId} {m : Nat} (l : List Int)
    (hm : (n, DataW.agg (l.map fun z => .lit (.int k z))) ∈ L) (hg : Tryd.prog.globalNamed n = some g) (hty : (Tryd.prog.globals[g]?).map (·.type) = some t)
    (ht : Tryd.prog.underlying t = some (.array m e)) (he : Tryd.prog.underlying e = some (.int k)) (hce : Tryd.prog.cellsOf e = 1) (hct : Tryd.prog.cellsOf t = m) : Tb k W g l := by
  obtain ⟨g', t', cs, fuel, p, h1, h2, h3, h4⟩ := laid_mem h hm
  obtain rfl := Option.some.inj (hg.symm.trans h1)
  obtain rfl := Option.some.inj (hty.symm.trans h2)
  have hcs := Lib.cells_of_tab (zs := l) ht he hce hct h4
  intro i v hv
  rw [World.var?_cell hg h3 i, ← Array.getElem?_toList, hcs]
  simp [hv]
/-- A listed table of tables of six numbers. -/
theorem tab2_of {W : World} {L : List (String × DataW Unit)} {ps : List MemPlace} (h : DataW.LaidVars Tryd.prog W L ps) {n : String} {g : Nat} {t : TypeId} (ls : List (List Int))
    (hm : (n, DataW.agg (ls.map fun l => .agg (l.map fun z => .lit (.int .u8 z)))) ∈ L) (hg : Tryd.prog.globalNamed n = some g) (hty : (Tryd.prog.globals[g]?).map (·.type) = some t)
    (ht : Tryd.prog.underlying t = some (.array 6 116)) (hct : Tryd.prog.cellsOf t = 36) (i j : Nat) (l : List Int) (v : Int) (hl : ls[i]? = some l) (hv : l[j]? = some v) (hj : j < 6) (hi : i < 6) : W.cell? ⟨g, i * 6 + j, none⟩ = some (.int .u8 v) := by
  obtain ⟨g', t', cs, fuel, p, h1, h2, h3, h4⟩ := laid_mem h hm
  obtain rfl := Option.some.inj (hg.symm.trans h1)
  obtain rfl := Option.some.inj (hty.symm.trans h2)
  rw [World.var?_cell hg h3 (i * 6 + j), ← Array.getElem?_toList]
  cases fuel with
  | zero => simp [DataW.trod] at h4
  | succ fuel =>
    simp only [DataW.trod, ht, hct, cells_a6] at h4
    split at h4
    · obtain ⟨xs, hx1, hx⟩ := Option.map_eq_some_iff.1 h4
      have hxs : xs.map (·.1) = ls.map fun l => (DataW.agg (l.map fun z => .lit (.int .u8 z)) : DataW Unit) := by
        have := congrArg Prod.fst hx
        simpa using this
      obtain ⟨b, hb, hf⟩ := Lib.mapM_at hx1 i i (by simp [hi])
      have hb1 : b.1 = DataW.agg (l.map fun z => .lit (.int .u8 z)) := by
        have e1 : (xs.map (·.1))[i]? = some b.1 := by simp [hb]
        rw [hxs] at e1
        simp [hl] at e1
        exact e1.symm
      obtain ⟨b1, b2⟩ := b
      simp only at hb1
      subst hb1
      have hcs := Lib.cells_of_tab (zs := l) Tryd.underlying116 Tryd.underlying5 cells_u8 cells_a6 hf
      have e2 := congrArg (·[j]?) hcs
      simp only [List.getElem?_take, List.getElem?_drop, List.getElem?_map, hv, if_pos hj, Option.map_some] at e2
      exact e2
    · cases h4

theorem CtxWf.ok {c : Ctx} (h : CtxWf c) : c.Ok := by
  have h1 := bounds_i64 h.n
  have h2 := bounds_u64 h.b0
  have h3 := bounds_u64 h.b1
  have h4 := bounds_u32 h.dacr
  exact ⟨by omega, by omega, by omega, by omega⟩
theorem add_add' (a : Addr) (m n : Nat) : (a.add m).add n = a.add (m + n) := by
  unfold Addr.add
  split <;> split <;> simp_all <;> omega
/-- A slice of whatever has k cells, opened. -/
theorem open_rows {α : Type} {W : World} (E : TypeId) (k : Nat) (hk : 0 < k) (hE : Tryd.prog.cellsOf E = k) (en : α → List Value) (ok : α → Prop) (d0 : α)
    (dec : ∀ {fuel : Nat} {cs : List Value} {x : DataW H × List MemPlace}, DataW.trod enc Tryd.prog W 0 (fun _ => true) true fuel E cs = some x → ∃ o, cs = en o ∧ ok o) (hen : ∀ o, (en o).length = k)
    {T : TypeId} (hT : Tryd.prog.underlying T = some (.slice E)) {fuel : Nat} {a : Option Addr} {len cap : Nat} {x : DataW H × List MemPlace}
    (h : DataW.trod enc Tryd.prog W 0 (fun _ => true) true fuel T (Value.slice a len cap).cells.toList = some x) :
    ∃ ops : List α, ops.length = len ∧ (∀ i o, ops[i]? = some o → ∃ b off, a = some ⟨b, off, none⟩ ∧ b < W.heap.size ∧ ∀ j v, (en o)[j]? = some v → W.cell? ⟨b, off + i * k + j, none⟩ = some v) ∧ (∀ o ∈ ops, ok o) ∧ ops.length ≤ maxLen := by
  rcases open_slice hT h with ⟨hcs, rfl⟩ | ⟨a', len', cap', m, n, D, Pl, hcs, hb, hl, hm, hmm, rfl, hx⟩
  · simp [Value.cells] at hcs
    obtain ⟨rfl, rfl, rfl⟩ := hcs
    exact ⟨[], rfl, ⟨fun i o ho => (by simp at ho), ⟨fun o ho => (by cases ho), Nat.zero_le _⟩⟩⟩
  · simp [Value.cells] at hcs
    obtain ⟨rfl, rfl, rfl⟩ := hcs
    have hlm : len ≤ m := by rw [hmm]; split <;> omega
    have first : ∀ i, i < len → ∃ o, ok o ∧ ∀ j v, (en o)[j]? = some v → W.cell? (a'.add (i * k + j)) = some v := by
      intro i hi
      obtain ⟨cs', h1, h2⟩ := hx i (by omega)
      rw [hE] at h1
      obtain ⟨_, hlen, hcell⟩ := World.cells?_some h1
      obtain ⟨o, rfl, ho⟩ := dec h2
      refine ⟨o, ho, fun j v hv => ?_⟩
      have hj : j < k := by
        have := (List.getElem?_eq_some_iff.1 hv).1
        rw [hen] at this; exact this
      have ej := hcell j hj
      rw [add_add', hv] at ej
      exact ej
    have hat : ∀ i o, (∀ j v, (en o)[j]? = some v → W.cell? (a'.add (i * k + j)) = some v) → ∃ v, W.cell? (a'.add (i * k)) = some v := by
      intro i o ho
      obtain ⟨v, hv⟩ : ∃ v, (en o)[0]? = some v := ⟨_, List.getElem?_eq_getElem (by rw [hen]; exact hk)⟩
      exact ⟨v, by have := ho 0 v hv; simpa using this⟩
    have each : ∀ i : Nat, ∃ o : α, i < len → (∃ b off, some a' = some (⟨b, off, none⟩ : Addr) ∧ b < W.heap.size ∧ ∀ j v, (en o)[j]? = some v → W.cell? ⟨b, off + i * k + j, none⟩ = some v) ∧ ok o := by
      intro i
      by_cases hi : i < len
      · obtain ⟨o, ho, hc⟩ := first i hi
        obtain ⟨o0, _, hc0⟩ := first 0 (by omega)
        obtain ⟨v0, e0⟩ := hat i o hc
        obtain ⟨v1, e1⟩ := hat 0 o0 hc0
        have hb0 := World.block_lt_of_cell? W _ e0
        obtain ⟨b, off, spot⟩ := a'
        have hsp : spot = none := by
          have := World.cell?_spot e1
          simpa [Addr.add] using this
        subst hsp
        rw [Addr.add_lit] at hb0
        refine ⟨o, fun _ => ⟨⟨b, off, rfl, hb0, fun j v hv => ?_⟩, ho⟩⟩
        have ej := hc j v hv
        rw [Addr.add_lit, ← Nat.add_assoc] at ej
        exact ej
      · exact ⟨d0, fun h => absurd h hi⟩
    obtain ⟨f, hf⟩ := Classical.skolem.1 each
    refine ⟨(List.range len).map f, by simp, fun i o ho => ?_, fun o ho => ?_, ?_⟩
    · have hi : i < len := by
        have := (List.getElem?_eq_some_iff.1 ho).1
        simpa using this
      rw [List.getElem?_map, List.getElem?_range hi] at ho
      simp at ho
      subst ho
      exact (hf i hi).1
    · obtain ⟨i, hi, rfl⟩ := List.mem_map.1 ho
      exact (hf i (List.mem_range.1 hi)).2
    · simp only [List.length_map, List.length_range]
      omega
set_option maxRecDepth 100000 in
theorem put_cells {W : World} {fuel : Nat} {cs : List Value} {x : DataW H × List MemPlace} (h : DataW.trod enc Tryd.prog W base sp held fuel 58 cs = some x) :
    ∃ o : Pt, cs = [.int .u64 o.pa, .int .u32 o.w] ∧ ((0 ≤ o.pa ∧ o.pa < 18446744073709551616) ∧ 0 ≤ o.w ∧ o.w < 4294967296) := by
  obtain ⟨xs, n, _, hx, hl, hlen, hq⟩ := DataW.trod_struct Tryd.underlying58 h
  rw [cells_put] at hl
  obtain ⟨v0, v1, rfl⟩ : ∃ v0 v1, cs = [v0, v1] := by
    match cs, hl with
    | [v0, v1], _ => exact ⟨v0, v1, rfl⟩
  obtain ⟨y0, y1, rfl⟩ : ∃ y0 y1, xs = [y0, y1] := by
    match xs, hlen with
    | [y0, y1], _ => exact ⟨y0, y1, rfl⟩
  have h0 : DataW.trod enc Tryd.prog W base sp held n 23 [v0] = some y0 := by simpa [Value.cells, cells_u64] using hq 0 _ rfl
  have h1 : DataW.trod enc Tryd.prog W base sp held n 24 [v1] = some y1 := by simpa [Value.cells, cells_u32] using hq 1 _ rfl
  obtain ⟨i0, e0, _, w0⟩ := DataW.trod_int Tryd.underlying23 h0
  obtain ⟨i1, e1, _, w1⟩ := DataW.trod_int Tryd.underlying24 h1
  simp only [List.cons.injEq, and_true] at e0 e1
  subst e0 e1
  have b0 := bounds_u64 w0
  have b1 := bounds_u32 w1
  exact ⟨⟨i0, i1⟩, rfl, ⟨by show 0 ≤ i0; omega, by show i0 < _; omega⟩, by show 0 ≤ i1; omega, by show i1 < _; omega⟩
set_option maxRecDepth 100000 in
theorem u32_cells {W : World} {fuel : Nat} {cs : List Value} {x : DataW H × List MemPlace} (h : DataW.trod enc Tryd.prog W base sp held fuel 24 cs = some x) :
    ∃ o : Int, cs = [.int .u32 o] ∧ (0 ≤ o ∧ o < 4294967296) := by
  obtain ⟨i0, e0, _, w0⟩ := DataW.trod_int Tryd.underlying24 h
  have b0 := bounds_u32 w0
  exact ⟨i0, e0, by omega, by omega⟩
set_option maxRecDepth 100000 in
theorem tra_cells {W : World} {fuel : Nat} {cs : List Value} {x : DataW H × List MemPlace} (h : DataW.trod enc Tryd.prog W base sp held fuel 49 cs = some x) :
    ∃ t : Tra, cs = [.int .i64 t.size, .int .u32 t.va, .int .u64 t.pa, .int .i64 t.dom, .int .i64 t.ap, .int .u32 t.bits, .bool t.ng, .bool t.xn] ∧ TraWf t := by
  obtain ⟨xs, n, _, hx, hl, hlen, hq⟩ := DataW.trod_struct Tryd.underlying49 h
  rw [cells_tra] at hl
  obtain ⟨v0, v1, v2, v3, v4, v5, v6, v7, rfl⟩ : ∃ v0 v1 v2 v3 v4 v5 v6 v7, cs = [v0, v1, v2, v3, v4, v5, v6, v7] := by
    match cs, hl with
    | [v0, v1, v2, v3, v4, v5, v6, v7], _ => exact ⟨v0, v1, v2, v3, v4, v5, v6, v7, rfl⟩
  obtain ⟨y0, y1, y2, y3, y4, rfl⟩ : ∃ y0 y1 y2 y3 y4, xs = [y0, y1, y2, y3, y4] := by
    match xs, hlen with
    | [y0, y1, y2, y3, y4], _ => exact ⟨y0, y1, y2, y3, y4, rfl⟩
  have h0 : DataW.trod enc Tryd.prog W base sp held n 3 [v0] = some y0 := by simpa [Value.cells, cells_i] using hq 0 _ rfl
  have h1 : DataW.trod enc Tryd.prog W base sp held n 24 [v1] = some y1 := by simpa [Value.cells, cells_u32] using hq 1 _ rfl
  have h2 : DataW.trod enc Tryd.prog W base sp held n 23 [v2] = some y2 := by simpa [Value.cells, cells_u64] using hq 2 _ rfl
  have h3 : DataW.trod enc Tryd.prog W base sp held n 3 [v3] = some y3 := by simpa [Value.cells, cells_i] using hq 3 _ rfl
  have h4 : DataW.trod enc Tryd.prog W base sp held n 47 [v4, v5, v6, v7] = some y4 := by simpa [Value.cells, cells_leaf] using hq 4 _ rfl
  obtain ⟨i0, e0, _, w0⟩ := DataW.trod_int Tryd.underlying3 h0
  obtain ⟨i1, e1, _, w1⟩ := DataW.trod_int Tryd.underlying24 h1
  obtain ⟨i2, e2, _, w2⟩ := DataW.trod_int Tryd.underlying23 h2
  obtain ⟨i3, e3, _, w3⟩ := DataW.trod_int Tryd.underlying3 h3
  obtain ⟨i4, i5, i6, i7, rfl, rfl, rfl, rfl, _, w4, w5⟩ := open_leaf4 h4
  simp only [List.cons.injEq, and_true] at e0 e1 e2 e3
  subst e0 e1 e2 e3
  exact ⟨⟨i0, i1, i2, i3, i4, i5, i6, i7⟩, rfl, ⟨w0, w1, w2, w3, w4, w5⟩⟩
/-- A script of puts, opened. -/
theorem open_puts {W : World} {fuel : Nat} {a : Option Addr} {len cap : Nat} {x : DataW H × List MemPlace} (h : DataW.trod enc Tryd.prog W 0 (fun _ => true) true fuel 22 (Value.slice a len cap).cells.toList = some x) :
    ∃ ps : List Pt, ps.length = len ∧ PutsAt W a ps ∧ ps.length ≤ maxLen := by
  obtain ⟨ps, h1, h2, h3, h4⟩ := open_rows 58 2 (by omega) cells_put (fun o : Pt => [.int .u64 o.pa, .int .u32 o.w]) _ ⟨0, 0⟩ (fun h => put_cells h) (fun _ => rfl) Tryd.underlying22 h
  refine ⟨ps, h1, ⟨fun k p hp => ?_, h3⟩, h4⟩
  obtain ⟨b, off, e, hb, hc⟩ := h2 k p hp
  exact ⟨b, off, e, hb, hc 0 _ rfl, hc 1 _ rfl⟩
theorem open_u32s {W : World} {fuel : Nat} {a : Option Addr} {len cap : Nat} {x : DataW H × List MemPlace} (h : DataW.trod enc Tryd.prog W 0 (fun _ => true) true fuel 27 (Value.slice a len cap).cells.toList = some x) :
    ∃ vs : List Int, vs.length = len ∧ Ws W a vs ∧ vs.length ≤ maxLen := by
  obtain ⟨ps, h1, h2, h3, h4⟩ := open_rows 24 1 (by omega) cells_u32 (fun o : Int => [.int .u32 o]) _ 0 (fun h => u32_cells h) (fun _ => rfl) Tryd.underlying27 h
  refine ⟨ps, h1, ⟨fun k p hp => ?_, h3⟩, h4⟩
  obtain ⟨b, off, e, hb, hc⟩ := h2 k p hp
  exact ⟨b, off, e, hb, by have := hc 0 _ rfl; simpa using this⟩
theorem open_tras {W : World} {fuel : Nat} {a : Option Addr} {len cap : Nat} {x : DataW H × List MemPlace} (h : DataW.trod enc Tryd.prog W 0 (fun _ => true) true fuel 41 (Value.slice a len cap).cells.toList = some x) :
    ∃ ts : List Tra, ts.length = len ∧ (∀ i o, ts[i]? = some o → ∃ b off, a = some ⟨b, off, none⟩ ∧ b < W.heap.size ∧ ∀ j v, ([.int .i64 o.size, .int .u32 o.va, .int .u64 o.pa, .int .i64 o.dom, .int .i64 o.ap, .int .u32 o.bits, .bool o.ng, .bool o.xn])[j]? = some v → W.cell? ⟨b, off + i * 8 + j, none⟩ = some v) ∧ (∀ o ∈ ts, TraWf o) ∧ ts.length ≤ maxLen :=
  open_rows 49 8 (by omega) cells_tra (fun o : Tra => [.int .i64 o.size, .int .u32 o.va, .int .u64 o.pa, .int .i64 o.dom, .int .i64 o.ap, .int .u32 o.bits, .bool o.ng, .bool o.xn]) _ ⟨0, 0, 0, 0, 0, 0, false, false⟩ (fun h => tra_cells h) (fun _ => rfl) Tryd.underlying41 h
end Go.Proofs.YtmodcbdgnmjkoabDoor
