import Derived.Test.YtfdjfhhjfgdbaaaGreatDoorMw
import Derived.Test.YtfdjfhhjfgdbaaaGreatDoorRows
import Derived.ChangeSame
import Derived.WalkKit
import Derived.ProofKit
import Derived.OpenShut
import Derived.Lib.LaidTab
import Derived.Lib.SmallJoins
import Derived.Deep.DeepHandedRow
import Derived.Deep.Slices
namespace Go.Proofs.YtfdjfhhjfgdbaaaGreatDoor
open Go.ChangeShapes Go.WideShapes Go.ChangeAt Go.RowKit Go.Deep
set_option linter.unusedVariables false
set_option maxRecDepth 100000
set_option linter.unusedSimpArgs false

theorem cells_int : Tryz.prog.cellsOf 3 = 1 := by kernel_rfl
theorem cells_bool : Tryz.prog.cellsOf 4 = 1 := by kernel_rfl
theorem cells_u32 : Tryz.prog.cellsOf 29 = 1 := by kernel_rfl
theorem cells_tuple : Tryz.prog.cellsOf 34 = 4 := by kernel_rfl
theorem cells_reg : Tryz.prog.cellsOf 149 = 7 := by kernel_rfl

variable {H : Type} {enc : TypeId × Value → H} {w : World} {base : Nat} {sp : Nat → Bool} {held : Bool}
/-- What a tuple reads as. -/
def tupD (m : Tu) : DataW H := .agg [.lit (.int .i64 m.a), .lit (.int .i64 m.b), .lit (.int .i64 m.c), .lit (.int .i64 m.d)]
structure TuWf (m : Tu) : Prop where
  a : (Lit.int .i64 m.a).wf = true
  b : (Lit.int .i64 m.b).wf = true
  c : (Lit.int .i64 m.c).wf = true
  d : (Lit.int .i64 m.d).wf = true
theorem shut_tup {m : Tu} (h : TuWf m) : DataW.Trod enc Tryz.prog w base sp held 34 (.agg #[.int .i64 m.a, .int .i64 m.b, .int .i64 m.c, .int .i64 m.d]) (tupD m) [] := by
  obtain ⟨h0, h1, h2, h3⟩ := h
  exact ⟨2, by simp [DataW.trod, Value.cells, Tryz.underlying34, Tryz.underlying3, cells_tuple, cells_int, h0, h1, h2, h3, tupD]⟩
theorem tup_cells {fuel : Nat} {cs : List Value} {x : DataW H × List MemPlace} (h : DataW.trod enc Tryz.prog w base sp held fuel 34 cs = some x) :
    ∃ m : Tu, cs = [.int .i64 m.a, .int .i64 m.b, .int .i64 m.c, .int .i64 m.d] ∧ x = (tupD m, []) ∧ TuWf m := by
  obtain ⟨xs, n, _, hx, hl, hlen, hq⟩ := DataW.trod_struct Tryz.underlying34 h
  rw [cells_tuple] at hl
  obtain ⟨v0, v1, v2, v3, rfl⟩ : ∃ v0 v1 v2 v3, cs = [v0, v1, v2, v3] := by
    match cs, hl with
    | [v0, v1, v2, v3], _ => exact ⟨v0, v1, v2, v3, rfl⟩
  obtain ⟨y0, y1, y2, y3, rfl⟩ : ∃ y0 y1 y2 y3, xs = [y0, y1, y2, y3] := by
    match xs, hlen with
    | [y0, y1, y2, y3], _ => exact ⟨y0, y1, y2, y3, rfl⟩
  have h0 : DataW.trod enc Tryz.prog w base sp held n 3 [v0] = some y0 := by simpa [Value.cells, cells_int] using hq 0 _ rfl
  have h1 : DataW.trod enc Tryz.prog w base sp held n 3 [v1] = some y1 := by simpa [Value.cells, cells_int] using hq 1 _ rfl
  have h2 : DataW.trod enc Tryz.prog w base sp held n 3 [v2] = some y2 := by simpa [Value.cells, cells_int] using hq 2 _ rfl
  have h3 : DataW.trod enc Tryz.prog w base sp held n 3 [v3] = some y3 := by simpa [Value.cells, cells_int] using hq 3 _ rfl
  obtain ⟨i0, e0, r0, w0⟩ := DataW.trod_int Tryz.underlying3 h0
  obtain ⟨i1, e1, r1, w1⟩ := DataW.trod_int Tryz.underlying3 h1
  obtain ⟨i2, e2, r2, w2⟩ := DataW.trod_int Tryz.underlying3 h2
  obtain ⟨i3, e3, r3, w3⟩ := DataW.trod_int Tryz.underlying3 h3
  simp only [List.cons.injEq, and_true] at e0 e1 e2 e3
  subst e0 e1 e2 e3 r0 r1 r2 r3
  exact ⟨⟨i0, i1, i2, i3⟩, rfl, by rw [hx]; rfl, ⟨w0, w1, w2, w3⟩⟩
theorem open_tup {r : Reach} {b0 : Nat} {v : Value} {d : DataW H} {ps : List MemPlace} (hv : Value.okWide Tryz.prog w r b0 34 v) (h : DataW.Trod enc Tryz.prog w base sp held 34 v d ps) :
    ∃ m : Tu, v = .agg #[.int .i64 m.a, .int .i64 m.b, .int .i64 m.c, .int .i64 m.d] ∧ d = tupD m ∧ ps = [] ∧ TuWf m := by
  obtain ⟨cs, rfl, hsz⟩ := okWide_struct Tryz.underlying34 hv
  obtain ⟨fuel, hf⟩ := h
  obtain ⟨m, h1, h2, h3⟩ := tup_cells hf
  obtain ⟨hd, hp⟩ := Prod.mk.inj h2
  refine ⟨m, ?_, hd, hp, h3⟩
  obtain ⟨l⟩ := cs
  simp only [Value.cells] at h1
  rw [← h1]

structure Cfg where
  a : Int
  b : Int
  c : Int
  d : Int
  e : Int
  g : Int
theorem cells_cfg : Tryz.prog.cellsOf 23 = 6 := by kernel_rfl
def cfgD (m : Cfg) : DataW H := .agg [.lit (.int .i64 m.a), .lit (.int .i64 m.b), .lit (.int .i64 m.c), .lit (.int .i64 m.d), .lit (.int .i64 m.e), .lit (.int .i64 m.g)]
structure CfWf (m : Cfg) : Prop where
  a : (Lit.int .i64 m.a).wf = true
  b : (Lit.int .i64 m.b).wf = true
  c : (Lit.int .i64 m.c).wf = true
  d : (Lit.int .i64 m.d).wf = true
  e : (Lit.int .i64 m.e).wf = true
  g : (Lit.int .i64 m.g).wf = true
theorem shut_cfg {m : Cfg} (h : CfWf m) : DataW.Trod enc Tryz.prog w base sp held 23 (.agg #[.int .i64 m.a, .int .i64 m.b, .int .i64 m.c, .int .i64 m.d, .int .i64 m.e, .int .i64 m.g]) (cfgD m) [] := by
  obtain ⟨h0, h1, h2, h3, h4, h5⟩ := h
  exact ⟨2, by simp [DataW.trod, Value.cells, Tryz.underlying23, Tryz.underlying3, cells_cfg, cells_int, h0, h1, h2, h3, h4, h5, cfgD]⟩
theorem cfg_cells {fuel : Nat} {cs : List Value} {x : DataW H × List MemPlace} (h : DataW.trod enc Tryz.prog w base sp held fuel 23 cs = some x) :
    ∃ m : Cfg, cs = [.int .i64 m.a, .int .i64 m.b, .int .i64 m.c, .int .i64 m.d, .int .i64 m.e, .int .i64 m.g] ∧ x = (cfgD m, []) ∧ CfWf m := by
  obtain ⟨xs, n, _, hx, hl, hlen, hq⟩ := DataW.trod_struct Tryz.underlying23 h
  rw [cells_cfg] at hl
  obtain ⟨v0, v1, v2, v3, v4, v5, rfl⟩ : ∃ v0 v1 v2 v3 v4 v5, cs = [v0, v1, v2, v3, v4, v5] := by
    match cs, hl with
    | [v0, v1, v2, v3, v4, v5], _ => exact ⟨v0, v1, v2, v3, v4, v5, rfl⟩
  obtain ⟨y0, y1, y2, y3, y4, y5, rfl⟩ : ∃ y0 y1 y2 y3 y4 y5, xs = [y0, y1, y2, y3, y4, y5] := by
    match xs, hlen with
    | [y0, y1, y2, y3, y4, y5], _ => exact ⟨y0, y1, y2, y3, y4, y5, rfl⟩
  have h0 : DataW.trod enc Tryz.prog w base sp held n 3 [v0] = some y0 := by simpa [Value.cells, cells_int] using hq 0 _ rfl
  have h1 : DataW.trod enc Tryz.prog w base sp held n 3 [v1] = some y1 := by simpa [Value.cells, cells_int] using hq 1 _ rfl
  have h2 : DataW.trod enc Tryz.prog w base sp held n 3 [v2] = some y2 := by simpa [Value.cells, cells_int] using hq 2 _ rfl
  have h3 : DataW.trod enc Tryz.prog w base sp held n 3 [v3] = some y3 := by simpa [Value.cells, cells_int] using hq 3 _ rfl
  have h4 : DataW.trod enc Tryz.prog w base sp held n 3 [v4] = some y4 := by simpa [Value.cells, cells_int] using hq 4 _ rfl
  have h5 : DataW.trod enc Tryz.prog w base sp held n 3 [v5] = some y5 := by simpa [Value.cells, cells_int] using hq 5 _ rfl
  obtain ⟨i0, e0, r0, w0⟩ := DataW.trod_int Tryz.underlying3 h0
  obtain ⟨i1, e1, r1, w1⟩ := DataW.trod_int Tryz.underlying3 h1
  obtain ⟨i2, e2, r2, w2⟩ := DataW.trod_int Tryz.underlying3 h2
  obtain ⟨i3, e3, r3, w3⟩ := DataW.trod_int Tryz.underlying3 h3
  obtain ⟨i4, e4, r4, w4⟩ := DataW.trod_int Tryz.underlying3 h4
  obtain ⟨i5, e5, r5, w5⟩ := DataW.trod_int Tryz.underlying3 h5
  simp only [List.cons.injEq, and_true] at e0 e1 e2 e3 e4 e5
  subst e0 e1 e2 e3 e4 e5 r0 r1 r2 r3 r4 r5
  exact ⟨⟨i0, i1, i2, i3, i4, i5⟩, rfl, by rw [hx]; rfl, ⟨w0, w1, w2, w3, w4, w5⟩⟩
theorem open_cfg {r : Reach} {b0 : Nat} {v : Value} {d : DataW H} {ps : List MemPlace} (hv : Value.okWide Tryz.prog w r b0 23 v) (h : DataW.Trod enc Tryz.prog w base sp held 23 v d ps) :
    ∃ m : Cfg, v = .agg #[.int .i64 m.a, .int .i64 m.b, .int .i64 m.c, .int .i64 m.d, .int .i64 m.e, .int .i64 m.g] ∧ d = cfgD m ∧ ps = [] ∧ CfWf m := by
  obtain ⟨cs, rfl, hsz⟩ := okWide_struct Tryz.underlying23 hv
  obtain ⟨fuel, hf⟩ := h
  obtain ⟨m, h1, h2, h3⟩ := cfg_cells hf
  obtain ⟨hd, hp⟩ := Prod.mk.inj h2
  refine ⟨m, ?_, hd, hp, h3⟩
  obtain ⟨l⟩ := cs
  simp only [Value.cells] at h1
  rw [← h1]
/-- A listed variable. -/
theorem laid_mem {P : Program} {W : World} {n : String} {d : DataW Unit} : ∀ {L : List (String × DataW Unit)} {ps : List MemPlace}, DataW.LaidVars P W L ps → (n, d) ∈ L →
    ∃ g t cs fuel p, P.globalNamed n = some g ∧ (P.globals[g]?).map (·.type) = some t ∧ W.var? P n = some cs ∧ DataW.trod (fun _ => ()) P W 0 (fun _ => true) false fuel t cs.toList = some (d, p)
  | [], _, _, hm => by cases hm
  | (n', d') :: L, ps, h, hm => by
    obtain ⟨g, t, cs, fuel, p, q, h1, h2, h3, h4, h5, _⟩ := h
    rcases List.mem_cons.1 hm with he | hm
    · cases he
      exact ⟨g, t, cs, fuel, p, h1, h2, h3, h4⟩
    · exact laid_mem h5 hm
/-- An element of an array. -/
theorem arr_at {P : Program} {W : World} {fuel : Nat} {t e : TypeId} {m c : Nat} {cs : List Value} {x : DataW Unit × List MemPlace} (h : DataW.trod (fun _ => ()) P W 0 (fun _ => true) false fuel t cs = some x)
    (ht : P.underlying t = some (.array m e)) (hce : P.cellsOf e = c) (hct : P.cellsOf t = m * c) :
    cs.length = m * c ∧ ∃ ds, x.1 = .agg ds ∧ ds.length = m ∧ ∀ i, i < m → ∃ f' y, ds[i]? = some y.1 ∧ DataW.trod (fun _ => ()) P W 0 (fun _ => true) false f' e ((cs.drop (i * c)).take c) = some y := by
  cases fuel with
  | zero => simp [DataW.trod] at h
  | succ fuel =>
    simp only [DataW.trod, ht, hct, hce] at h
    split at h
    · rename_i hl
      obtain ⟨xs, hx1, rfl⟩ := Option.map_eq_some_iff.1 h
      refine ⟨by simpa using hl, xs.map (·.1), by simp, ?_, fun i hi => ?_⟩
      · have := Lib.mapM_length hx1
        simpa using this
      · obtain ⟨b, hb, hf⟩ := Lib.mapM_at hx1 i i (by simp [hi])
        exact ⟨fuel, b, by simp [hb], hf⟩
    · cases h
/-- An element of a listed array. -/
theorem tab_at {W : World} {L : List (String × DataW Unit)} {ps : List MemPlace} (h : DataW.LaidVars Tryz.prog W L ps) {n : String} {g : Nat} {t e : TypeId} {m c : Nat} (ds : List (DataW Unit))
    (hm : (n, DataW.agg ds) ∈ L) (hg : Tryz.prog.globalNamed n = some g) (hty : (Tryz.prog.globals[g]?).map (·.type) = some t)
    (ht : Tryz.prog.underlying t = some (.array m e)) (hce : Tryz.prog.cellsOf e = c) (hct : Tryz.prog.cellsOf t = m * c) (i : Nat) (hi : i < m) :
    ∃ cs fuel x, (∀ j v, j < c → cs[j]? = some v → W.cell? ⟨g, i * c + j, none⟩ = some v) ∧ ds[i]? = some x.1 ∧ DataW.trod (fun _ => ()) Tryz.prog W 0 (fun _ => true) false fuel e cs = some x := by
  obtain ⟨g', t', cs, fuel, p, h1, h2, h3, h4⟩ := laid_mem h hm
  obtain rfl := Option.some.inj (hg.symm.trans h1)
  obtain rfl := Option.some.inj (hty.symm.trans h2)
  obtain ⟨_, ds', he, _, hat⟩ := arr_at h4 ht hce hct
  obtain rfl : ds = ds' := by simpa using he
  obtain ⟨f', y, hy, hf⟩ := hat i hi
  refine ⟨_, f', y, ?_, hy, hf⟩
  intro j v hj hv
  rw [World.var?_cell hg h3 (i * c + j), ← Array.getElem?_toList]
  simpa [List.getElem?_take, List.getElem?_drop, hj] using hv
/-- What a register of the table reads as. -/
def rgD (r : Rg) : DataW Unit := .agg [tupD r.t, .lit (.int .u32 (r.kept : Nat)), .lit (.int .u32 (r.start : Nat)), .lit (.bool r.ctx)]
set_option maxRecDepth 100000 in
theorem reg_cells {W : World} {fuel : Nat} {cs : List Value} {x : DataW Unit × List MemPlace} (h : DataW.trod (fun _ => ()) Tryz.prog W 0 (fun _ => true) false fuel 149 cs = some x) (r : Rg) (hr : x.1 = rgD r) : cs = rgV r := by
  obtain ⟨xs, n, _, hx, hl, hlen, hq⟩ := DataW.trod_struct Tryz.underlying149 h
  rw [cells_reg] at hl
  obtain ⟨v0, v1, v2, v3, v4, v5, v6, rfl⟩ : ∃ v0 v1 v2 v3 v4 v5 v6, cs = [v0, v1, v2, v3, v4, v5, v6] := by
    match cs, hl with
    | [v0, v1, v2, v3, v4, v5, v6], _ => exact ⟨v0, v1, v2, v3, v4, v5, v6, rfl⟩
  obtain ⟨y0, y1, y2, y3, rfl⟩ : ∃ y0 y1 y2 y3, xs = [y0, y1, y2, y3] := by
    match xs, hlen with
    | [y0, y1, y2, y3], _ => exact ⟨y0, y1, y2, y3, rfl⟩
  have h0 : DataW.trod (fun _ => ()) Tryz.prog W 0 (fun _ => true) false n 34 [v0, v1, v2, v3] = some y0 := by simpa [Value.cells, cells_tuple] using hq 0 _ rfl
  have h1 : DataW.trod (fun _ => ()) Tryz.prog W 0 (fun _ => true) false n 29 [v4] = some y1 := by simpa [Value.cells, cells_u32] using hq 1 _ rfl
  have h2 : DataW.trod (fun _ => ()) Tryz.prog W 0 (fun _ => true) false n 29 [v5] = some y2 := by simpa [Value.cells, cells_u32] using hq 2 _ rfl
  have h3 : DataW.trod (fun _ => ()) Tryz.prog W 0 (fun _ => true) false n 4 [v6] = some y3 := by simpa [Value.cells, cells_bool] using hq 3 _ rfl
  obtain ⟨⟨a, b, c, d⟩, e0, r0, _⟩ := tup_cells h0
  obtain ⟨i1, e1, r1, _⟩ := DataW.trod_int Tryz.underlying29 h1
  obtain ⟨i2, e2, r2, _⟩ := DataW.trod_int Tryz.underlying29 h2
  obtain ⟨i3, e3, r3⟩ := DataW.trod_bool Tryz.underlying4 h3
  simp only [List.cons.injEq, and_true] at e0 e1 e2 e3
  obtain ⟨rfl, rfl, rfl, rfl⟩ := e0
  subst e1 e2 e3 r0 r1 r2 r3
  rw [hx] at hr
  obtain ⟨⟨a', b', c', d'⟩, k, s, ct⟩ := r
  simp [rgD, tupD] at hr
  obtain ⟨⟨rfl, rfl, rfl, rfl⟩, rfl, rfl, rfl⟩ := hr
  rfl
/-- The listed table of registers. -/
theorem regs_of {W : World} {L : List (String × DataW Unit)} {ps : List MemPlace} (h : DataW.LaidVars Tryz.prog W L ps) {n : String}
    (hm : (n, DataW.agg (lRg.map rgD)) ∈ L) (hg : Tryz.prog.globalNamed n = some 0) (hty : (Tryz.prog.globals[0]?).map (·.type) = some 150)
    (hct : Tryz.prog.cellsOf 150 = 13 * 7) : TR W := by
  intro j v hv
  have hj : j < 91 := (List.getElem?_eq_some_iff.1 hv).1
  obtain ⟨cs, fuel, x, h1, h2, h3⟩ := tab_at h _ hm hg hty Tryz.underlying150 cells_reg hct (j / 7) (by omega)
  have hr := rg_at (j / 7) (by omega)
  rw [List.getElem?_map, hr] at h2
  have hcs := reg_cells h3 (rg (j / 7)) (by simpa using h2.symm)
  have e := rgL_at (j / 7) (j % 7) (by omega) (by omega)
  rw [show j / 7 * 7 + j % 7 = j by omega, hv] at e
  have := h1 (j % 7) v (by omega) (by rw [hcs]; exact e.symm)
  rwa [show j / 7 * 7 + j % 7 = 0 + j by omega] at this
end Go.Proofs.YtfdjfhhjfgdbaaaGreatDoor
