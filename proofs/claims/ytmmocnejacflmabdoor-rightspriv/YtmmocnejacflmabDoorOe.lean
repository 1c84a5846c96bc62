import Derived.Test.YtmmocnejacflmabDoorGt
import Derived.Test.YtmmocnejacflmabDoorRows
import Derived.ChangeSame
import Derived.WalkKit
import Derived.ProofKit
import Derived.OpenShut
import Derived.Lib.LaidTab
import Derived.Lib.SmallJoins
import Derived.Deep.DeepHandedRow
namespace Go.Proofs.YtmmocnejacflmabDoor
open Go.ChangeShapes Go.WideShapes Go.ChangeAt Go.RowKit
set_option linter.unusedVariables false
set_option linter.unusedSimpArgs false

theorem cells_int : Tryd.prog.cellsOf 3 = 1 := by kernel_rfl
theorem cells_bool : Tryd.prog.cellsOf 4 = 1 := by kernel_rfl
theorem cells_u32 : Tryd.prog.cellsOf 22 = 1 := by kernel_rfl
theorem cells_leaf : Tryd.prog.cellsOf 24 = 4 := by kernel_rfl
theorem cells_fault : Tryd.prog.cellsOf 39 = 3 := by kernel_rfl
theorem cells_rights : Tryd.prog.cellsOf 26 = 3 := by kernel_rfl
theorem cells_may : Tryd.prog.cellsOf 52 = 2 := by kernel_rfl
theorem cells_row : Tryd.prog.cellsOf 70 = 4 := by kernel_rfl
theorem cells_form : Tryd.prog.cellsOf 59 = 4 := by kernel_rfl
theorem cells_a3 : Tryd.prog.cellsOf 57 = 3 := by kernel_rfl

variable {H : Type} {enc : TypeId × Value → H} {w : World} {base : Nat} {sp : Nat → Bool} {held : Bool}

/-- A leaf; a set of rights. -/
structure Lea where
  ap : Int
  bt : Int
  ng : Bool
  xn : Bool
structure Rgt where
  r : Bool
  w : Bool
  x : Bool
/-- What it reads as. -/
def leafD (m : Lea) : DataW H := .agg [.lit (.int .i64 m.ap), .lit (.int .u32 m.bt), .lit (.bool m.ng), .lit (.bool m.xn)]
structure LeaWf (m : Lea) : Prop where
  ap : (Lit.int .i64 m.ap).wf = true
  bt : (Lit.int .u32 m.bt).wf = true
theorem shut_leaf {m : Lea} (h : LeaWf m) : DataW.Trod enc Tryd.prog w base sp held 24 (.agg #[.int .i64 m.ap, .int .u32 m.bt, .bool m.ng, .bool m.xn]) (leafD m) [] := by
  obtain ⟨h0, h1⟩ := h
  exact ⟨2, by simp [DataW.trod, Value.cells, Tryd.underlying24, Tryd.underlying4, Tryd.underlying3, Tryd.underlying22, cells_leaf, cells_int, cells_bool, cells_u32, h0, h1, leafD]⟩
theorem open_leaf {r : Reach} {b0 : Nat} {v : Value} {d : DataW H} {ps : List MemPlace} (hv : Value.okWide Tryd.prog w r b0 24 v) (h : DataW.Trod enc Tryd.prog w base sp held 24 v d ps) :
    ∃ m : Lea, v = .agg #[.int .i64 m.ap, .int .u32 m.bt, .bool m.ng, .bool m.xn] ∧ d = leafD m ∧ ps = [] ∧ LeaWf m := by
  obtain ⟨cs, rfl, hsz⟩ := okWide_struct Tryd.underlying24 hv
  obtain ⟨v0, v1, v2, v3, rfl⟩ : ∃ v0 v1 v2 v3, cs = #[v0, v1, v2, v3] := by
    obtain ⟨l⟩ := cs
    match l, hsz.trans cells_leaf with
    | [v0, v1, v2, v3], _ => exact ⟨v0, v1, v2, v3, rfl⟩
  obtain ⟨fuel, hf⟩ := h
  obtain ⟨xs, n, _, hx, _, hlen, hq⟩ := DataW.trod_struct Tryd.underlying24 hf
  obtain ⟨y0, y1, y2, y3, rfl⟩ : ∃ y0 y1 y2 y3, xs = [y0, y1, y2, y3] := by
    match xs, hlen with
    | [y0, y1, y2, y3], _ => exact ⟨y0, y1, y2, y3, rfl⟩
  have h0 : DataW.trod enc Tryd.prog w base sp held n 3 [v0] = some y0 := by simpa [Value.cells, cells_int] using hq 0 _ rfl
  have h1 : DataW.trod enc Tryd.prog w base sp held n 22 [v1] = some y1 := by simpa [Value.cells, cells_u32] using hq 1 _ rfl
  have h2 : DataW.trod enc Tryd.prog w base sp held n 4 [v2] = some y2 := by simpa [Value.cells, cells_bool] using hq 2 _ rfl
  have h3 : DataW.trod enc Tryd.prog w base sp held n 4 [v3] = some y3 := by simpa [Value.cells, cells_bool] using hq 3 _ rfl
  obtain ⟨i0, e0, r0, w0⟩ := DataW.trod_int Tryd.underlying3 h0
  obtain ⟨i1, e1, r1, w1⟩ := DataW.trod_int Tryd.underlying22 h1
  obtain ⟨i2, e2, r2⟩ := DataW.trod_bool Tryd.underlying4 h2
  obtain ⟨i3, e3, r3⟩ := DataW.trod_bool Tryd.underlying4 h3
  simp only [List.cons.injEq, and_true] at e0 e1 e2 e3
  subst e0 e1 e2 e3 r0 r1 r2 r3
  obtain ⟨hd, hp⟩ := Prod.mk.inj hx
  exact ⟨⟨i0, i1, i2, i3⟩, rfl, hd, hp, ⟨w0, w1⟩⟩
/-- What it reads as. -/
def faultD (m : Fa) : DataW H := .agg [.lit (.int .i64 m.k), .lit (.int .i64 m.l), .lit (.int .i64 m.d)]
structure FaWf (m : Fa) : Prop where
  k : (Lit.int .i64 m.k).wf = true
  l : (Lit.int .i64 m.l).wf = true
  d : (Lit.int .i64 m.d).wf = true
theorem shut_fault {m : Fa} (h : FaWf m) : DataW.Trod enc Tryd.prog w base sp held 39 (.agg #[.int .i64 m.k, .int .i64 m.l, .int .i64 m.d]) (faultD m) [] := by
  obtain ⟨h0, h1, h2⟩ := h
  exact ⟨2, by simp [DataW.trod, Value.cells, Tryd.underlying39, Tryd.underlying3, cells_fault, cells_int, cells_bool, cells_u32, h0, h1, h2, faultD]⟩
theorem open_fault {r : Reach} {b0 : Nat} {v : Value} {d : DataW H} {ps : List MemPlace} (hv : Value.okWide Tryd.prog w r b0 39 v) (h : DataW.Trod enc Tryd.prog w base sp held 39 v d ps) :
    ∃ m : Fa, v = .agg #[.int .i64 m.k, .int .i64 m.l, .int .i64 m.d] ∧ d = faultD m ∧ ps = [] ∧ FaWf m := by
  obtain ⟨cs, rfl, hsz⟩ := okWide_struct Tryd.underlying39 hv
  obtain ⟨v0, v1, v2, rfl⟩ : ∃ v0 v1 v2, cs = #[v0, v1, v2] := by
    obtain ⟨l⟩ := cs
    match l, hsz.trans cells_fault with
    | [v0, v1, v2], _ => exact ⟨v0, v1, v2, rfl⟩
  obtain ⟨fuel, hf⟩ := h
  obtain ⟨xs, n, _, hx, _, hlen, hq⟩ := DataW.trod_struct Tryd.underlying39 hf
  obtain ⟨y0, y1, y2, rfl⟩ : ∃ y0 y1 y2, xs = [y0, y1, y2] := by
    match xs, hlen with
    | [y0, y1, y2], _ => exact ⟨y0, y1, y2, rfl⟩
  have h0 : DataW.trod enc Tryd.prog w base sp held n 3 [v0] = some y0 := by simpa [Value.cells, cells_int] using hq 0 _ rfl
  have h1 : DataW.trod enc Tryd.prog w base sp held n 3 [v1] = some y1 := by simpa [Value.cells, cells_int] using hq 1 _ rfl
  have h2 : DataW.trod enc Tryd.prog w base sp held n 3 [v2] = some y2 := by simpa [Value.cells, cells_int] using hq 2 _ rfl
  obtain ⟨i0, e0, r0, w0⟩ := DataW.trod_int Tryd.underlying3 h0
  obtain ⟨i1, e1, r1, w1⟩ := DataW.trod_int Tryd.underlying3 h1
  obtain ⟨i2, e2, r2, w2⟩ := DataW.trod_int Tryd.underlying3 h2
  simp only [List.cons.injEq, and_true] at e0 e1 e2
  subst e0 e1 e2 r0 r1 r2
  obtain ⟨hd, hp⟩ := Prod.mk.inj hx
  exact ⟨⟨i0, i1, i2⟩, rfl, hd, hp, ⟨w0, w1, w2⟩⟩
/-- What it reads as. -/
def rgtD (m : Rgt) : DataW H := .agg [.lit (.bool m.r), .lit (.bool m.w), .lit (.bool m.x)]
theorem shut_rgt {m : Rgt} : DataW.Trod enc Tryd.prog w base sp held 26 (.agg #[.bool m.r, .bool m.w, .bool m.x]) (rgtD m) [] := by
  exact ⟨2, by simp [DataW.trod, Value.cells, Tryd.underlying26, Tryd.underlying4, cells_rights, cells_int, cells_bool, cells_u32, rgtD]⟩
theorem open_rgt {r : Reach} {b0 : Nat} {v : Value} {d : DataW H} {ps : List MemPlace} (hv : Value.okWide Tryd.prog w r b0 26 v) (h : DataW.Trod enc Tryd.prog w base sp held 26 v d ps) :
    ∃ m : Rgt, v = .agg #[.bool m.r, .bool m.w, .bool m.x] ∧ d = rgtD m ∧ ps = [] := by
  obtain ⟨cs, rfl, hsz⟩ := okWide_struct Tryd.underlying26 hv
  obtain ⟨v0, v1, v2, rfl⟩ : ∃ v0 v1 v2, cs = #[v0, v1, v2] := by
    obtain ⟨l⟩ := cs
    match l, hsz.trans cells_rights with
    | [v0, v1, v2], _ => exact ⟨v0, v1, v2, rfl⟩
  obtain ⟨fuel, hf⟩ := h
  obtain ⟨xs, n, _, hx, _, hlen, hq⟩ := DataW.trod_struct Tryd.underlying26 hf
  obtain ⟨y0, y1, y2, rfl⟩ : ∃ y0 y1 y2, xs = [y0, y1, y2] := by
    match xs, hlen with
    | [y0, y1, y2], _ => exact ⟨y0, y1, y2, rfl⟩
  have h0 : DataW.trod enc Tryd.prog w base sp held n 4 [v0] = some y0 := by simpa [Value.cells, cells_bool] using hq 0 _ rfl
  have h1 : DataW.trod enc Tryd.prog w base sp held n 4 [v1] = some y1 := by simpa [Value.cells, cells_bool] using hq 1 _ rfl
  have h2 : DataW.trod enc Tryd.prog w base sp held n 4 [v2] = some y2 := by simpa [Value.cells, cells_bool] using hq 2 _ rfl
  obtain ⟨i0, e0, r0⟩ := DataW.trod_bool Tryd.underlying4 h0
  obtain ⟨i1, e1, r1⟩ := DataW.trod_bool Tryd.underlying4 h1
  obtain ⟨i2, e2, r2⟩ := DataW.trod_bool Tryd.underlying4 h2
  simp only [List.cons.injEq, and_true] at e0 e1 e2
  subst e0 e1 e2 r0 r1 r2
  obtain ⟨hd, hp⟩ := Prod.mk.inj hx
  exact ⟨⟨i0, i1, i2⟩, rfl, hd, hp⟩

/-- A listed variable. -/
theorem laid_mem {P : Program} {W : World} {n : String} {d : DataW Unit} : ∀ {L : List (String × DataW Unit)} {ps : List MemPlace}, DataW.LaidVars P W L ps → (n, d) ∈ L →
    ∃ g t cs fuel p, P.globalNamed n = some g ∧ (P.globals[g]?).map (·.type) = some t ∧ W.var? P n = some cs ∧ DataW.trod (fun _ => ()) P W 0 (fun _ => true) false fuel t cs.toList = some (d, p)
  | [], _, _, hm => by cases hm
  | (n', d') :: L, ps, h, hm => by
    obtain ⟨g, t, cs, fuel, p, q, h1, h2, h3, h4, h5, _⟩ := h
    rcases List.mem_cons.1 hm with he | hm
    · cases he
      exact ⟨g, t, cs, fuel, p, h1, h2, h3, h4⟩
    · exact laid_mem h5 hm
/-- An element of an array. -/
theorem arr_at {P : Program} {W : World} {fuel : Nat} {t e : TypeId} {m c : Nat} {cs : List Value} {x : DataW Unit × List MemPlace} (h : DataW.trod (fun _ => ()) P W 0 (fun _ => true) false fuel t cs = some x)
    (ht : P.underlying t = some (.array m e)) (hce : P.cellsOf e = c) (hct : P.cellsOf t = m * c) :
    cs.length = m * c ∧ ∃ ds, x.1 = .agg ds ∧ ds.length = m ∧ ∀ i, i < m → ∃ f' y, ds[i]? = some y.1 ∧ DataW.trod (fun _ => ()) P W 0 (fun _ => true) false f' e ((cs.drop (i * c)).take c) = some y := by
  cases fuel with
  | zero => simp [DataW.trod] at h
  | succ fuel =>
    simp only [DataW.trod, ht, hct, hce] at h
    split at h
    · rename_i hl
      obtain ⟨xs, hx1, rfl⟩ := Option.map_eq_some_iff.1 h
      refine ⟨by simpa using hl, xs.map (·.1), by simp, ?_, fun i hi => ?_⟩
      · have := Lib.mapM_length hx1
        simpa using this
      · obtain ⟨b, hb, hf⟩ := Lib.mapM_at hx1 i i (by simp [hi])
        exact ⟨fuel, b, by simp [hb], hf⟩
    · cases h
/-- An element of a listed array. -/
theorem tab_at {W : World} {L : List (String × DataW Unit)} {ps : List MemPlace} (h : DataW.LaidVars Tryd.prog W L ps) {n : String} {g : Nat} {t e : TypeId} {m c : Nat} (ds : List (DataW Unit))
    (hm : (n, DataW.agg ds) ∈ L) (hg : Tryd.prog.globalNamed n = some g) (hty : (Tryd.prog.globals[g]?).map (·.type) = some t)
    (ht : Tryd.prog.underlying t = some (.array m e)) (hce : Tryd.prog.cellsOf e = c) (hct : Tryd.prog.cellsOf t = m * c) (i : Nat) (hi : i < m) :
    ∃ cs fuel x, (∀ j v, j < c → cs[j]? = some v → W.cell? ⟨g, i * c + j, none⟩ = some v) ∧ ds[i]? = some x.1 ∧ DataW.trod (fun _ => ()) Tryd.prog W 0 (fun _ => true) false fuel e cs = some x := by
  obtain ⟨g', t', cs, fuel, p, h1, h2, h3, h4⟩ := laid_mem h hm
  obtain rfl := Option.some.inj (hg.symm.trans h1)
  obtain rfl := Option.some.inj (hty.symm.trans h2)
  obtain ⟨_, ds', he, _, hat⟩ := arr_at h4 ht hce hct
  obtain rfl : ds = ds' := by simpa using he
  obtain ⟨f', y, hy, hf⟩ := hat i hi
  refine ⟨_, f', y, ?_, hy, hf⟩
  intro j v hj hv
  rw [World.var?_cell hg h3 (i * c + j), ← Array.getElem?_toList]
  simpa [List.getElem?_take, List.getElem?_drop, hj] using hv
def mayD (a b : Bool) : DataW Unit := .agg [.lit (.bool a), .lit (.bool b)]
def rowD (r : Row) : DataW Unit := .agg [mayD r.pr r.pw, mayD r.ur r.uw]
def foD (r : Fo) : DataW Unit := .agg [.agg [.lit (.int .u32 r.c0), .lit (.int .u32 r.c1), .lit (.int .u32 r.c2)], .lit (.bool r.dm)]
set_option maxRecDepth 100000 in
theorem may_cells {W : World} {fuel : Nat} {cs : List Value} {x : DataW Unit × List MemPlace} (h : DataW.trod (fun _ => ()) Tryd.prog W 0 (fun _ => true) false fuel 52 cs = some x) :
    ∃ a b : Bool, cs = [.bool a, .bool b] ∧ x.1 = mayD a b := by
  obtain ⟨y0, y1, n, hx, hl, h0, h1⟩ := trod_struct2 Tryd.underlying52 h
  rw [cells_may] at hl
  obtain ⟨a, b, rfl⟩ : ∃ a b, cs = [a, b] := by
    match cs, hl with
    | [a, b], _ => exact ⟨a, b, rfl⟩
  simp only [cells_bool, List.drop_zero, List.drop_succ_cons, List.take_succ_cons, List.take_zero] at h0 h1
  obtain ⟨i0, e0, r0⟩ := DataW.trod_bool Tryd.underlying4 h0
  obtain ⟨i1, e1, r1⟩ := DataW.trod_bool Tryd.underlying4 h1
  simp only [List.cons.injEq, and_true] at e0 e1
  subst e0 e1 r0 r1
  exact ⟨i0, i1, rfl, by rw [hx]; rfl⟩
set_option maxRecDepth 100000 in
theorem row_cells {W : World} {fuel : Nat} {cs : List Value} {x : DataW Unit × List MemPlace} (h : DataW.trod (fun _ => ()) Tryd.prog W 0 (fun _ => true) false fuel 70 cs = some x) :
    ∃ r : Row, cs = [.bool r.pr, .bool r.pw, .bool r.ur, .bool r.uw] ∧ x.1 = rowD r := by
  obtain ⟨y0, y1, n, hx, hl, h0, h1⟩ := trod_struct2 Tryd.underlying70 h
  rw [cells_row] at hl
  obtain ⟨a, b, c, d, rfl⟩ : ∃ a b c d, cs = [a, b, c, d] := by
    match cs, hl with
    | [a, b, c, d], _ => exact ⟨a, b, c, d, rfl⟩
  simp only [cells_may, List.drop_zero, List.drop_succ_cons, List.take_succ_cons, List.take_zero] at h0 h1
  obtain ⟨a1, b1, e0, r0⟩ := may_cells h0
  obtain ⟨a2, b2, e1, r1⟩ := may_cells h1
  simp only [List.cons.injEq, and_true] at e0 e1
  obtain ⟨rfl, rfl⟩ := e0
  obtain ⟨rfl, rfl⟩ := e1
  exact ⟨⟨a1, b1, a2, b2⟩, rfl, by rw [hx]; simp only [r0, r1]; rfl⟩
set_option maxRecDepth 100000 in
theorem codes_cells {W : World} {fuel : Nat} {a b c : Value} {x : DataW Unit × List MemPlace} (h : DataW.trod (fun _ => ()) Tryd.prog W 0 (fun _ => true) false fuel 57 [a, b, c] = some x) :
    ∃ i j k : Int, a = .int .u32 i ∧ b = .int .u32 j ∧ c = .int .u32 k ∧ x.1 = .agg [.lit (.int .u32 i), .lit (.int .u32 j), .lit (.int .u32 k)] := by
  obtain ⟨_, ds, hx, hl, hat⟩ := arr_at h Tryd.underlying57 cells_u32 cells_a3
  obtain ⟨f0, y0, d0, t0⟩ := hat 0 (by decide)
  obtain ⟨f1, y1, d1, t1⟩ := hat 1 (by decide)
  obtain ⟨f2, y2, d2, t2⟩ := hat 2 (by decide)
  simp only [Nat.zero_mul, Nat.one_mul, Nat.reduceMul, List.drop_zero, List.drop_succ_cons, List.take_succ_cons, List.take_zero] at t0 t1 t2
  obtain ⟨i0, e0, r0, w0⟩ := DataW.trod_int Tryd.underlying22 t0
  obtain ⟨i1, e1, r1, w1⟩ := DataW.trod_int Tryd.underlying22 t1
  obtain ⟨i2, e2, r2, w2⟩ := DataW.trod_int Tryd.underlying22 t2
  simp only [List.cons.injEq, and_true] at e0 e1 e2
  subst e0 e1 e2 r0 r1 r2
  refine ⟨i0, i1, i2, rfl, rfl, rfl, ?_⟩
  rw [hx]
  match ds, hl with
  | [p, q, r], _ =>
    simp only [List.getElem?_cons_zero, List.getElem?_cons_succ, Option.some.injEq] at d0 d1 d2
    subst d0 d1 d2
    rfl
set_option maxRecDepth 100000 in
theorem form_cells {W : World} {fuel : Nat} {cs : List Value} {x : DataW Unit × List MemPlace} (h : DataW.trod (fun _ => ()) Tryd.prog W 0 (fun _ => true) false fuel 59 cs = some x) :
    ∃ r : Fo, cs = [.int .u32 r.c0, .int .u32 r.c1, .int .u32 r.c2, .bool r.dm] ∧ x.1 = foD r := by
  obtain ⟨y0, y1, n, hx, hl, h0, h1⟩ := trod_struct2 Tryd.underlying59 h
  rw [cells_form] at hl
  obtain ⟨a, b, c, d, rfl⟩ : ∃ a b c d, cs = [a, b, c, d] := by
    match cs, hl with
    | [a, b, c, d], _ => exact ⟨a, b, c, d, rfl⟩
  simp only [cells_a3, cells_bool, List.drop_zero, List.drop_succ_cons, List.take_succ_cons, List.take_zero] at h0 h1
  obtain ⟨i, j, k, rfl, rfl, rfl, r0⟩ := codes_cells h0
  obtain ⟨i1, e1, r1⟩ := DataW.trod_bool Tryd.underlying4 h1
  simp only [List.cons.injEq, and_true] at e1
  subst e1 r1
  exact ⟨⟨i, j, k, i1⟩, rfl, by rw [hx]; simp only [r0]; rfl⟩
/-- A listed table of permissions. -/
theorem perm_of {W : World} {L : List (String × DataW Unit)} {ps : List MemPlace} (h : DataW.LaidVars Tryd.prog W L ps) {n : String} {g : Nat} {t : TypeId} {m : Nat} (l : List Row)
    (hm : (n, DataW.agg (l.map rowD)) ∈ L) (hg : Tryd.prog.globalNamed n = some g) (hty : (Tryd.prog.globals[g]?).map (·.type) = some t)
    (ht : Tryd.prog.underlying t = some (.array m 70)) (hct : Tryd.prog.cellsOf t = m * 4) (hl : l.length = m) : ∀ q r, l[q]? = some r → RoB W g (q * 4) r := by
  intro q r hr
  have hi : q < m := by rw [← hl]; exact (List.getElem?_eq_some_iff.1 hr).1
  obtain ⟨cs, fuel, x, h1, h2, h3⟩ := tab_at h _ hm hg hty ht cells_row hct q hi
  obtain ⟨r', rfl, hx⟩ := row_cells h3
  rw [hx] at h2
  simp [hr] at h2
  obtain rfl : r = r' := by
    obtain ⟨a1, a2, a3, a4⟩ := r
    obtain ⟨b1, b2, b3, b4⟩ := r'
    simpa [rowD, mayD, and_assoc] using h2
  exact ⟨h1 0 _ (by decide) rfl, h1 1 _ (by decide) rfl, h1 2 _ (by decide) rfl, h1 3 _ (by decide) rfl⟩
/-- The listed table of forms. -/
theorem forms_of {W : World} {L : List (String × DataW Unit)} {ps : List MemPlace} (h : DataW.LaidVars Tryd.prog W L ps) {n : String}
    (hm : (n, DataW.agg (lForm.map foD)) ∈ L) (hg : Tryd.prog.globalNamed n = some 1) (hty : (Tryd.prog.globals[1]?).map (·.type) = some 60)
    (hct : Tryd.prog.cellsOf 60 = 11 * 4) : TF W := by
  intro q r hr
  have hi : q < 11 := (List.getElem?_eq_some_iff.1 hr).1
  obtain ⟨cs, fuel, x, h1, h2, h3⟩ := tab_at h _ hm hg hty Tryd.underlying60 cells_form hct q hi
  obtain ⟨r', rfl, hx⟩ := form_cells h3
  rw [hx] at h2
  simp [hr] at h2
  obtain rfl : r = r' := by
    obtain ⟨a1, a2, a3, a4⟩ := r
    obtain ⟨b1, b2, b3, b4⟩ := r'
    simpa [foD, and_assoc] using h2
  exact ⟨h1 0 _ (by decide) rfl, h1 1 _ (by decide) rfl, h1 2 _ (by decide) rfl, h1 3 _ (by decide) rfl⟩
end Go.Proofs.YtmmocnejacflmabDoor
