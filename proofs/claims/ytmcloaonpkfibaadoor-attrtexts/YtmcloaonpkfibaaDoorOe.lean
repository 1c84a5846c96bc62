import Derived.Test.YtmcloaonpkfibaaDoorWs
import Derived.Test.YtmcloaonpkfibaaDoorRows
import Derived.ChangeSame
import Derived.WalkKit
import Derived.ProofKit
import Derived.OpenShut
import Derived.Lib.LaidTab
import Derived.Lib.SmallJoins
import Derived.Deep.DeepHandedRow
namespace Go.Proofs.YtmcloaonpkfibaaDoor
open Go.ChangeShapes Go.WideShapes Go.ChangeAt Go.RowKit
set_option linter.unusedVariables false
set_option linter.unusedSimpArgs false

theorem cells_i : Tryd.prog.cellsOf 3 = 1 := by kernel_rfl
theorem cells_b : Tryd.prog.cellsOf 4 = 1 := by kernel_rfl
theorem cells_s : Tryd.prog.cellsOf 9 = 1 := by kernel_rfl
theorem cells_mem : Tryd.prog.cellsOf 24 = 4 := by kernel_rfl
theorem cells_mean : Tryd.prog.cellsOf 51 = 5 := by kernel_rfl

variable {H : Type} {enc : TypeId × Value → H} {w : World} {base : Nat} {sp : Nat → Bool} {held : Bool}

/-- What a kind reads as. -/
def memD (m : Mem) : DataW H := .agg [.lit (.int .i64 m.t), .lit (.int .i64 m.i), .lit (.int .i64 m.o), .lit (.int .i64 m.s)]
def meanD (r : Bool × Mem) : DataW H := .agg [.lit (.bool r.1), memD r.2]
structure MemWf (m : Mem) : Prop where
  t : (Lit.int .i64 m.t).wf = true
  i : (Lit.int .i64 m.i).wf = true
  o : (Lit.int .i64 m.o).wf = true
  s : (Lit.int .i64 m.s).wf = true
theorem shut_mem {m : Mem} (h : MemWf m) : DataW.Trod enc Tryd.prog w base sp held 24 (.agg #[.int .i64 m.t, .int .i64 m.i, .int .i64 m.o, .int .i64 m.s]) (memD m) [] := by
  obtain ⟨h1, h2, h3, h4⟩ := h
  exact ⟨2, by simp [DataW.trod, Value.cells, Tryd.underlying24, Tryd.underlying3, cells_mem, cells_i, h1, h2, h3, h4, memD]⟩
theorem mem_cells {fuel : Nat} {cs : List Value} {x : DataW H × List MemPlace} (h : DataW.trod enc Tryd.prog w base sp held fuel 24 cs = some x) :
    ∃ m : Mem, cs = [.int .i64 m.t, .int .i64 m.i, .int .i64 m.o, .int .i64 m.s] ∧ x = (memD m, []) ∧ MemWf m := by
  obtain ⟨y0, y1, y2, y3, n, rfl, hl, h0, h1, h2, h3⟩ := Go.Joins.trod_struct4 Tryd.underlying24 h
  rw [cells_mem] at hl
  obtain ⟨a, b, c, d, rfl⟩ : ∃ a b c d, cs = [a, b, c, d] := by
    match cs, hl with
    | [a, b, c, d], _ => exact ⟨a, b, c, d, rfl⟩
  simp only [cells_i, List.drop_zero, List.drop_succ_cons, List.take_succ_cons, List.take_zero] at h0 h1 h2 h3
  obtain ⟨i0, e0, r0, w0⟩ := DataW.trod_int Tryd.underlying3 h0
  obtain ⟨i1, e1, r1, w1⟩ := DataW.trod_int Tryd.underlying3 h1
  obtain ⟨i2, e2, r2, w2⟩ := DataW.trod_int Tryd.underlying3 h2
  obtain ⟨i3, e3, r3, w3⟩ := DataW.trod_int Tryd.underlying3 h3
  simp only [List.cons.injEq, and_true] at e0 e1 e2 e3
  subst e0 e1 e2 e3 r0 r1 r2 r3
  exact ⟨⟨i0, i1, i2, i3⟩, rfl, rfl, ⟨w0, w1, w2, w3⟩⟩
theorem open_mem {r : Reach} {b0 : Nat} {v : Value} {d : DataW H} {ps : List MemPlace} (hv : Value.okWide Tryd.prog w r b0 24 v) (h : DataW.Trod enc Tryd.prog w base sp held 24 v d ps) :
    ∃ m : Mem, v = .agg #[.int .i64 m.t, .int .i64 m.i, .int .i64 m.o, .int .i64 m.s] ∧ d = memD m ∧ ps = [] ∧ MemWf m := by
  obtain ⟨cs, rfl, hsz⟩ := okWide_struct Tryd.underlying24 hv
  obtain ⟨fuel, hf⟩ := h
  obtain ⟨m, h1, h2, h3⟩ := mem_cells hf
  obtain ⟨hd, hp⟩ := Prod.mk.inj h2
  have e : cs = [Value.int .i64 m.t, .int .i64 m.i, .int .i64 m.o, .int .i64 m.s].toArray := by
    have h4 : cs.toList = [Value.int .i64 m.t, .int .i64 m.i, .int .i64 m.o, .int .i64 m.s] := h1
    rw [← h4]
  exact ⟨m, by rw [e], hd, hp, h3⟩
theorem mean_cells {fuel : Nat} {cs : List Value} {x : DataW H × List MemPlace} (h : DataW.trod enc Tryd.prog w base sp held fuel 51 cs = some x) :
    ∃ r : Bool × Mem, cs = [.bool r.1, .int .i64 r.2.t, .int .i64 r.2.i, .int .i64 r.2.o, .int .i64 r.2.s] ∧ x.1 = meanD r := by
  obtain ⟨y0, y1, n, hx, hl, h0, h1⟩ := trod_struct2 Tryd.underlying51 h
  rw [cells_mean] at hl
  obtain ⟨a, b, c, d, e, rfl⟩ : ∃ a b c d e, cs = [a, b, c, d, e] := by
    match cs, hl with
    | [a, b, c, d, e], _ => exact ⟨a, b, c, d, e, rfl⟩
  simp only [cells_b, cells_mem, List.drop_zero, List.drop_succ_cons, List.take_succ_cons, List.take_zero] at h0 h1
  obtain ⟨i0, e0, r0⟩ := DataW.trod_bool Tryd.underlying4 h0
  obtain ⟨m, e1, r1, _⟩ := mem_cells h1
  simp only [List.cons.injEq, and_true] at e0 e1
  obtain ⟨rfl, rfl, rfl, rfl⟩ := e1
  subst e0 r0 r1
  exact ⟨(i0, m), rfl, by rw [hx]; rfl⟩

/-- A listed variable. -/
theorem laid_mem {P : Program} {W : World} {n : String} {d : DataW Unit} : ∀ {L : List (String × DataW Unit)} {ps : List MemPlace}, DataW.LaidVars P W L ps → (n, d) ∈ L →
    ∃ g t cs fuel p, P.globalNamed n = some g ∧ (P.globals[g]?).map (·.type) = some t ∧ W.var? P n = some cs ∧ DataW.trod (fun _ => ()) P W 0 (fun _ => true) false fuel t cs.toList = some (d, p)
  | [], _, _, hm => by cases hm
  | (n', d') :: L, ps, h, hm => by
    obtain ⟨g, t, cs, fuel, p, q, h1, h2, h3, h4, h5, _⟩ := h
    rcases List.mem_cons.1 hm with he | hm
    · cases he
      exact ⟨g, t, cs, fuel, p, h1, h2, h3, h4⟩
    · exact laid_mem h5 hm
/-- An element of a listed array. -/
theorem tab_at {W : World} {L : List (String × DataW Unit)} {ps : List MemPlace} (h : DataW.LaidVars Tryd.prog W L ps) {n : String} {g : Nat} {t e : TypeId} {m c : Nat} (ds : List (DataW Unit))
    (hm : (n, DataW.agg ds) ∈ L) (hg : Tryd.prog.globalNamed n = some g) (hty : (Tryd.prog.globals[g]?).map (·.type) = some t)
    (ht : Tryd.prog.underlying t = some (.array m e)) (hce : Tryd.prog.cellsOf e = c) (hct : Tryd.prog.cellsOf t = m * c) (i : Nat) (hi : i < m) :
    ∃ cs fuel x, (∀ j v, j < c → cs[j]? = some v → W.cell? ⟨g, i * c + j, none⟩ = some v) ∧ ds[i]? = some x.1 ∧ DataW.trod (fun _ => ()) Tryd.prog W 0 (fun _ => true) false fuel e cs = some x := by
  obtain ⟨g', t', cs, fuel, p, h1, h2, h3, h4⟩ := laid_mem h hm
  obtain rfl := Option.some.inj (hg.symm.trans h1)
  obtain rfl := Option.some.inj (hty.symm.trans h2)
  cases fuel with
  | zero => simp [DataW.trod] at h4
  | succ fuel =>
    simp only [DataW.trod, ht, hct, hce] at h4
    split at h4
    · obtain ⟨xs, hx1, hx⟩ := Option.map_eq_some_iff.1 h4
      have hxs : xs.map (·.1) = ds := by
        have := congrArg Prod.fst hx
        simpa using this
      obtain ⟨b, hb, hf⟩ := Lib.mapM_at hx1 i i (by simp [hi])
      refine ⟨_, fuel, b, ?_, ?_, hf⟩
      · intro j v hj hv
        rw [World.var?_cell hg h3 (i * c + j), ← Array.getElem?_toList]
        simpa [List.getElem?_take, List.getElem?_drop, hj] using hv
      · rw [← hxs]
        simp [hb]
    · cases h4
/-- A listed table of words. -/
theorem words_of {W : World} {L : List (String × DataW Unit)} {ps : List MemPlace} (h : DataW.LaidVars Tryd.prog W L ps) {n : String} {g : Nat} {t : TypeId} {m : Nat} (l : List ByteArray)
    (hm : (n, DataW.agg (l.map fun z => .lit (.string z.data.toList))) ∈ L) (hg : Tryd.prog.globalNamed n = some g) (hty : (Tryd.prog.globals[g]?).map (·.type) = some t)
    (ht : Tryd.prog.underlying t = some (.array m 9)) (hct : Tryd.prog.cellsOf t = m) (hl : l.length = m) : Ts W g l := by
  intro i v hv
  have hi : i < m := by rw [← hl]; exact (List.getElem?_eq_some_iff.1 hv).1
  obtain ⟨cs, fuel, x, h1, h2, h3⟩ := tab_at h _ hm hg hty ht cells_s (by rw [hct, Nat.mul_one]) i hi
  obtain ⟨s, rfl, rfl, _⟩ := DataW.trod_string Tryd.underlying9 h3
  have hc := h1 0 _ (by decide) rfl
  rw [Nat.mul_one, Nat.add_zero] at hc
  rw [hc]
  simp [hv] at h2
  have e : v = s := by
    apply ByteArray.ext
    exact Array.ext' (by simpa using h2)
  rw [e]
/-- The listed table of meanings. -/
theorem plain_of {W : World} {L : List (String × DataW Unit)} {ps : List MemPlace} (h : DataW.LaidVars Tryd.prog W L ps) {n : String}
    (hm : (n, DataW.agg (lPl.map meanD)) ∈ L) (hg : Tryd.prog.globalNamed n = some 3) (hty : (Tryd.prog.globals[3]?).map (·.type) = some 69)
    (hct : Tryd.prog.cellsOf 69 = 16 * 5) : TP W := by
  intro q r hr
  have hi : q < 16 := (List.getElem?_eq_some_iff.1 hr).1
  obtain ⟨cs, fuel, x, h1, h2, h3⟩ := tab_at h _ hm hg hty Tryd.underlying69 cells_mean hct q hi
  obtain ⟨r', rfl, hx⟩ := mean_cells h3
  rw [hx] at h2
  simp [hr] at h2
  obtain rfl : r = r' := by
    obtain ⟨g1, ⟨a1, a2, a3, a4⟩⟩ := r
    obtain ⟨g2, ⟨b1, b2, b3, b4⟩⟩ := r'
    simpa [meanD, memD] using h2
  exact ⟨h1 0 _ (by decide) rfl, h1 1 _ (by decide) rfl, h1 2 _ (by decide) rfl, h1 3 _ (by decide) rfl, h1 4 _ (by decide) rfl⟩
end Go.Proofs.YtmcloaonpkfibaaDoor
