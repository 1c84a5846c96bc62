import Derived.Test.YtbbnodhpafiplaaDoorHp
import Derived.Test.YtbbnodhpafiplaaDoorRows
import Derived.ChangeSame
import Derived.WalkKit
import Derived.ProofKit
import Derived.OpenShut
import Derived.Lib.LaidTab
import Derived.Lib.SmallJoins
import Derived.Deep.DeepHandedRow
namespace Go.Proofs.YtbbnodhpafiplaaDoor
open Go.ChangeShapes Go.WideShapes Go.ChangeAt Go.RowKit Go.Deep
set_option linter.unusedVariables false
set_option linter.unusedSimpArgs false
variable {H : Type} {enc : TypeId × Value → H} {w : World} {base : Nat} {sp : Nat → Bool} {held : Bool}
theorem cells_int : Tryd.prog.cellsOf 3 = 1 := by kernel_rfl
theorem cells_bool : Tryd.prog.cellsOf 4 = 1 := by kernel_rfl
theorem cells_u32 : Tryd.prog.cellsOf 31 = 1 := by kernel_rfl
theorem cells_leaf : Tryd.prog.cellsOf 34 = 4 := by kernel_rfl
theorem cells_i : Tryd.prog.cellsOf 3 = 1 := by kernel_rfl
theorem cells_b : Tryd.prog.cellsOf 4 = 1 := by kernel_rfl
theorem cells_u8 : Tryd.prog.cellsOf 5 = 1 := by kernel_rfl
theorem cells_u64 : Tryd.prog.cellsOf 32 = 1 := by kernel_rfl
theorem cells_tra : Tryd.prog.cellsOf 36 = 8 := by kernel_rfl
theorem cells_a6 : Tryd.prog.cellsOf 96 = 6 := by kernel_rfl
def traD (t : Tra) : DataW H := .agg [.lit (.int .i64 t.size), .lit (.int .u32 t.va), .lit (.int .u64 t.pa), .lit (.int .i64 t.dom), .agg [.lit (.int .i64 t.ap), .lit (.int .u32 t.bits), .lit (.bool t.ng), .lit (.bool t.xn)]]
structure TraWf (t : Tra) : Prop where
  s : (Lit.int .i64 t.size).wf = true
  v : (Lit.int .u32 t.va).wf = true
  p : (Lit.int .u64 t.pa).wf = true
  d : (Lit.int .i64 t.dom).wf = true
  a : (Lit.int .i64 t.ap).wf = true
  t : (Lit.int .u32 t.bits).wf = true
set_option maxRecDepth 100000 in
theorem shut_tra {t : Tra} (h : TraWf t) : DataW.Trod enc Tryd.prog w base sp held 36 (.agg #[.int .i64 t.size, .int .u32 t.va, .int .u64 t.pa, .int .i64 t.dom, .int .i64 t.ap, .int .u32 t.bits, .bool t.ng, .bool t.xn]) (traD t) [] := by
  obtain ⟨h1, h2, h3, h4, h5, h6⟩ := h
  exact ⟨3, by simp [DataW.trod, Value.cells, Tryd.underlying36, Tryd.underlying34, Tryd.underlying3, Tryd.underlying4, Tryd.underlying31, Tryd.underlying32, cells_tra, cells_leaf, cells_i, cells_b, cells_u32, cells_u64, h1, h2, h3, h4, h5, h6, traD]⟩

theorem array8 {cs : Array Value} (h : cs.size = 8) : ∃ a b c d e f g i, cs = #[a, b, c, d, e, f, g, i] := by
  obtain ⟨l⟩ := cs
  match l, h with
  | [a, b, c, d, e, f, g, i], _ => exact ⟨a, b, c, d, e, f, g, i, rfl⟩

theorem open_leaf4 {fuel : Nat} {a b c d : Value} {x : DataW H × List MemPlace} (h : DataW.trod enc Tryd.prog w base sp held fuel 34 [a, b, c, d] = some x) :
    ∃ (n m : Int) (p q : Bool), a = .int .i64 n ∧ b = .int .u32 m ∧ c = .bool p ∧ d = .bool q ∧ x = (.agg [.lit (.int .i64 n), .lit (.int .u32 m), .lit (.bool p), .lit (.bool q)], []) ∧ (Lit.int .i64 n).wf = true ∧ (Lit.int .u32 m).wf = true := by
  obtain ⟨y0, y1, y2, y3, n, rfl, _, h0, h1, h2, h3⟩ := Go.Joins.trod_struct4 Tryd.underlying34 h
  simp only [cells_i, cells_u32, cells_b, List.drop_zero, List.drop_succ_cons, List.take_succ_cons, List.take_zero] at h0 h1 h2 h3
  obtain ⟨i0, e0, r0, w0⟩ := DataW.trod_int Tryd.underlying3 h0
  obtain ⟨i1, e1, r1, w1⟩ := DataW.trod_int Tryd.underlying31 h1
  obtain ⟨i2, e2, r2⟩ := DataW.trod_bool Tryd.underlying4 h2
  obtain ⟨i3, e3, r3⟩ := DataW.trod_bool Tryd.underlying4 h3
  simp only [List.cons.injEq, and_true] at e0 e1 e2 e3
  subst e0 e1 e2 e3 r0 r1 r2 r3
  exact ⟨i0, i1, i2, i3, rfl, rfl, rfl, rfl, rfl, w0, w1⟩
set_option maxRecDepth 100000 in
theorem open_tra {r : Reach} {b0 : Nat} {v : Value} {d : DataW H} {ps : List MemPlace} (hv : Value.okWide Tryd.prog w r b0 36 v) (h : DataW.Trod enc Tryd.prog w base sp held 36 v d ps) :
    ∃ t : Tra, v = .agg #[.int .i64 t.size, .int .u32 t.va, .int .u64 t.pa, .int .i64 t.dom, .int .i64 t.ap, .int .u32 t.bits, .bool t.ng, .bool t.xn] ∧ d = traD t ∧ ps = [] ∧ TraWf t := by
  obtain ⟨cs, rfl, hsz⟩ := okWide_struct Tryd.underlying36 hv
  obtain ⟨v0, v1, v2, v3, v4, v5, v6, v7, rfl⟩ := array8 (hsz.trans cells_tra)
  obtain ⟨fuel, hf⟩ := h
  obtain ⟨xs, n, _, hx, _, hlen, hq⟩ := DataW.trod_struct Tryd.underlying36 hf
  obtain ⟨y0, y1, y2, y3, y4, rfl⟩ : ∃ y0 y1 y2 y3 y4, xs = [y0, y1, y2, y3, y4] := by
    match xs, hlen with
    | [y0, y1, y2, y3, y4], _ => exact ⟨y0, y1, y2, y3, y4, rfl⟩
  · skip
    have h0 : DataW.trod enc Tryd.prog w base sp held n 3 [v0] = some y0 := by simpa [Value.cells, cells_i] using hq 0 _ rfl
    have h1 : DataW.trod enc Tryd.prog w base sp held n 31 [v1] = some y1 := by simpa [Value.cells, cells_u32] using hq 1 _ rfl
    have h2 : DataW.trod enc Tryd.prog w base sp held n 32 [v2] = some y2 := by simpa [Value.cells, cells_u64] using hq 2 _ rfl
    have h3 : DataW.trod enc Tryd.prog w base sp held n 3 [v3] = some y3 := by simpa [Value.cells, cells_i] using hq 3 _ rfl
    have h4 : DataW.trod enc Tryd.prog w base sp held n 34 [v4, v5, v6, v7] = some y4 := by simpa [Value.cells, cells_leaf] using hq 4 _ rfl
    obtain ⟨i0, e0, r0, w0⟩ := DataW.trod_int Tryd.underlying3 h0
    obtain ⟨i1, e1, r1, w1⟩ := DataW.trod_int Tryd.underlying31 h1
    obtain ⟨i2, e2, r2, w2⟩ := DataW.trod_int Tryd.underlying32 h2
    obtain ⟨i3, e3, r3, w3⟩ := DataW.trod_int Tryd.underlying3 h3
    obtain ⟨i4, i5, i6, i7, rfl, rfl, rfl, rfl, r4, w4, w5⟩ := open_leaf4 h4
    simp only [List.cons.injEq, and_true] at e0 e1 e2 e3
    subst e0 e1 e2 e3 r0 r1 r2 r3 r4
    obtain ⟨hd, hp⟩ := Prod.mk.inj hx
    exact ⟨⟨i0, i1, i2, i3, i4, i5, i6, i7⟩, rfl, hd, hp, ⟨w0, w1, w2, w3, w4, w5⟩⟩

def mayD (a b : Bool) : DataW Unit := .agg [.lit (.bool a), .lit (.bool b)]
/-- A listed variable. -/
theorem laid_mem {P : Program} {W : World} {n : String} {d : DataW Unit} : ∀ {L : List (String × DataW Unit)} {ps : List MemPlace}, DataW.LaidVars P W L ps → (n, d) ∈ L →
    ∃ g t cs fuel p, P.globalNamed n = some g ∧ (P.globals[g]?).map (·.type) = some t ∧ W.var? P n = some cs ∧ DataW.trod (fun _ => ()) P W 0 (fun _ => true) false fuel t cs.toList = some (d, p)
  | [], _, _, hm => by cases hm
  | (n', d') :: L, ps, h, hm => by
    obtain ⟨g, t, cs, fuel, p, q, h1, h2, h3, h4, h5, _⟩ := h
    rcases List.mem_cons.1 hm with he | hm
    · cases he
      exact ⟨g, t, cs, fuel, p, h1, h2, h3, h4⟩
    · exact laid_mem h5 hm
/-- An element of an array. -/
theorem arr_at {P : Program} {W : World} {fuel : Nat} {t e : TypeId} {m c : Nat} {cs : List Value} {x : DataW Unit × List MemPlace} (h : DataW.trod (fun _ => ()) P W 0 (fun _ => true) false fuel t cs = some x)
    (ht : P.underlying t = some (.array m e)) (hce : P.cellsOf e = c) (hct : P.cellsOf t = m * c) :
    cs.length = m * c ∧ ∃ ds, x.1 = .agg ds ∧ ds.length = m ∧ ∀ i, i < m → ∃ f' y, ds[i]? = some y.1 ∧ DataW.trod (fun _ => ()) P W 0 (fun _ => true) false f' e ((cs.drop (i * c)).take c) = some y := by
  cases fuel with
  | zero => simp [DataW.trod] at h
  | succ fuel =>
    simp only [DataW.trod, ht, hct, hce] at h
    split at h
    · rename_i hl
      obtain ⟨xs, hx1, rfl⟩ := Option.map_eq_some_iff.1 h
      refine ⟨by simpa using hl, xs.map (·.1), by simp, ?_, fun i hi => ?_⟩
      · have := Lib.mapM_length hx1
        simpa using this
      · obtain ⟨b, hb, hf⟩ := Lib.mapM_at hx1 i i (by simp [hi])
        exact ⟨fuel, b, by simp [hb], hf⟩
    · cases h
/-- An element of a listed array. -/
theorem tab_at {W : World} {L : List (String × DataW Unit)} {ps : List MemPlace} (h : DataW.LaidVars Tryd.prog W L ps) {n : String} {g : Nat} {t e : TypeId} {m c : Nat} (ds : List (DataW Unit))
    (hm : (n, DataW.agg ds) ∈ L) (hg : Tryd.prog.globalNamed n = some g) (hty : (Tryd.prog.globals[g]?).map (·.type) = some t)
    (ht : Tryd.prog.underlying t = some (.array m e)) (hce : Tryd.prog.cellsOf e = c) (hct : Tryd.prog.cellsOf t = m * c) (i : Nat) (hi : i < m) :
    ∃ cs fuel x, (∀ j v, j < c → cs[j]? = some v → W.cell? ⟨g, i * c + j, none⟩ = some v) ∧ ds[i]? = some x.1 ∧ DataW.trod (fun _ => ()) Tryd.prog W 0 (fun _ => true) false fuel e cs = some x := by
  obtain ⟨g', t', cs, fuel, p, h1, h2, h3, h4⟩ := laid_mem h hm
  obtain rfl := Option.some.inj (hg.symm.trans h1)
  obtain rfl := Option.some.inj (hty.symm.trans h2)
  obtain ⟨_, ds', he, _, hat⟩ := arr_at h4 ht hce hct
  obtain rfl : ds = ds' := by simpa using he
  obtain ⟨f', y, hy, hf⟩ := hat i hi
  refine ⟨_, f', y, ?_, hy, hf⟩
  intro j v hj hv
  rw [World.var?_cell hg h3 (i * c + j), ← Array.getElem?_toList]
  simpa [List.getElem?_take, List.getElem?_drop, hj] using hv
/-- A listed table of numbers. -/
theorem tab_of {k : IntKind} {W : World} {L : List (String × DataW Unit)} {ps : List MemPlace} (h : DataW.LaidVars Tryd.prog W L ps) {n : String} {g : Nat} {t e : TypeId} {m : Nat} (l : List Int)
    (hm : (n, DataW.agg (l.map fun z => .lit (.int k z))) ∈ L) (hg : Tryd.prog.globalNamed n = some g) (hty : (Tryd.prog.globals[g]?).map (·.type) = some t)
    (ht : Tryd.prog.underlying t = some (.array m e)) (he : Tryd.prog.underlying e = some (.int k)) (hce : Tryd.prog.cellsOf e = 1) (hct : Tryd.prog.cellsOf t = m) : Tb k W g l := by
  obtain ⟨g', t', cs, fuel, p, h1, h2, h3, h4⟩ := laid_mem h hm
  obtain rfl := Option.some.inj (hg.symm.trans h1)
  obtain rfl := Option.some.inj (hty.symm.trans h2)
  have hcs := Lib.cells_of_tab (zs := l) ht he hce hct h4
  intro i v hv
  rw [World.var?_cell hg h3 i, ← Array.getElem?_toList, hcs]
  simp [hv]
/-- A listed table of tables of six numbers. -/
theorem tab2_of {W : World} {L : List (String × DataW Unit)} {ps : List MemPlace} (h : DataW.LaidVars Tryd.prog W L ps) {n : String} {g : Nat} {t : TypeId} (ls : List (List Int))
    (hm : (n, DataW.agg (ls.map fun l => .agg (l.map fun z => .lit (.int .u8 z)))) ∈ L) (hg : Tryd.prog.globalNamed n = some g) (hty : (Tryd.prog.globals[g]?).map (·.type) = some t)
    (ht : Tryd.prog.underlying t = some (.array 6 96)) (hct : Tryd.prog.cellsOf t = 36) (i j : Nat) (l : List Int) (v : Int) (hl : ls[i]? = some l) (hv : l[j]? = some v) (hj : j < 6) (hi : i < 6) : W.cell? ⟨g, i * 6 + j, none⟩ = some (.int .u8 v) := by
  obtain ⟨g', t', cs, fuel, p, h1, h2, h3, h4⟩ := laid_mem h hm
  obtain rfl := Option.some.inj (hg.symm.trans h1)
  obtain rfl := Option.some.inj (hty.symm.trans h2)
  rw [World.var?_cell hg h3 (i * 6 + j), ← Array.getElem?_toList]
  cases fuel with
  | zero => simp [DataW.trod] at h4
  | succ fuel =>
    simp only [DataW.trod, ht, hct, cells_a6] at h4
    split at h4
    · obtain ⟨xs, hx1, hx⟩ := Option.map_eq_some_iff.1 h4
      have hxs : xs.map (·.1) = ls.map fun l => (DataW.agg (l.map fun z => .lit (.int .u8 z)) : DataW Unit) := by
        have := congrArg Prod.fst hx
        simpa using this
      obtain ⟨b, hb, hf⟩ := Lib.mapM_at hx1 i i (by simp [hi])
      have hb1 : b.1 = DataW.agg (l.map fun z => .lit (.int .u8 z)) := by
        have e1 : (xs.map (·.1))[i]? = some b.1 := by simp [hb]
        rw [hxs] at e1
        simp [hl] at e1
        exact e1.symm
      obtain ⟨b1, b2⟩ := b
      simp only at hb1
      subst hb1
      have hcs := Lib.cells_of_tab (zs := l) Tryd.underlying96 Tryd.underlying5 cells_u8 cells_a6 hf
      have e2 := congrArg (·[j]?) hcs
      simp only [List.getElem?_take, List.getElem?_drop, List.getElem?_map, hv, if_pos hj, Option.map_some] at e2
      exact e2
    · cases h4

theorem add_add' (a : Addr) (m n : Nat) : (a.add m).add n = a.add (m + n) := by
  unfold Addr.add
  split <;> split <;> simp_all <;> omega
/-- A slice of whatever has k cells, opened. -/
theorem open_rows {α : Type} {W : World} (E : TypeId) (k : Nat) (hk : 0 < k) (hE : Tryd.prog.cellsOf E = k) (en : α → List Value) (ok : α → Prop) (d0 : α)
    (dec : ∀ {fuel : Nat} {cs : List Value} {x : DataW H × List MemPlace}, DataW.trod enc Tryd.prog W 0 (fun _ => true) true fuel E cs = some x → ∃ o, cs = en o ∧ ok o) (hen : ∀ o, (en o).length = k)
    {T : TypeId} (hT : Tryd.prog.underlying T = some (.slice E)) {fuel : Nat} {a : Option Addr} {len cap : Nat} {x : DataW H × List MemPlace}
    (h : DataW.trod enc Tryd.prog W 0 (fun _ => true) true fuel T (Value.slice a len cap).cells.toList = some x) :
    ∃ ops : List α, ops.length = len ∧ (∀ i o, ops[i]? = some o → ∃ b off, a = some ⟨b, off, none⟩ ∧ b < W.heap.size ∧ ∀ j v, (en o)[j]? = some v → W.cell? ⟨b, off + i * k + j, none⟩ = some v) ∧ (∀ o ∈ ops, ok o) ∧ ops.length ≤ maxLen := by
  rcases open_slice hT h with ⟨hcs, rfl⟩ | ⟨a', len', cap', m, n, D, Pl, hcs, hb, hl, hm, hmm, rfl, hx⟩
  · simp [Value.cells] at hcs
    obtain ⟨rfl, rfl, rfl⟩ := hcs
    exact ⟨[], rfl, ⟨fun i o ho => (by simp at ho), ⟨fun o ho => (by cases ho), Nat.zero_le _⟩⟩⟩
  · simp [Value.cells] at hcs
    obtain ⟨rfl, rfl, rfl⟩ := hcs
    have hlm : len ≤ m := by rw [hmm]; split <;> omega
    have first : ∀ i, i < len → ∃ o, ok o ∧ ∀ j v, (en o)[j]? = some v → W.cell? (a'.add (i * k + j)) = some v := by
      intro i hi
      obtain ⟨cs', h1, h2⟩ := hx i (by omega)
      rw [hE] at h1
      obtain ⟨_, hlen, hcell⟩ := World.cells?_some h1
      obtain ⟨o, rfl, ho⟩ := dec h2
      refine ⟨o, ho, fun j v hv => ?_⟩
      have hj : j < k := by
        have := (List.getElem?_eq_some_iff.1 hv).1
        rw [hen] at this; exact this
      have ej := hcell j hj
      rw [add_add', hv] at ej
      exact ej
    have hat : ∀ i o, (∀ j v, (en o)[j]? = some v → W.cell? (a'.add (i * k + j)) = some v) → ∃ v, W.cell? (a'.add (i * k)) = some v := by
      intro i o ho
      obtain ⟨v, hv⟩ : ∃ v, (en o)[0]? = some v := ⟨_, List.getElem?_eq_getElem (by rw [hen]; exact hk)⟩
      exact ⟨v, by have := ho 0 v hv; simpa using this⟩
    have each : ∀ i : Nat, ∃ o : α, i < len → (∃ b off, some a' = some (⟨b, off, none⟩ : Addr) ∧ b < W.heap.size ∧ ∀ j v, (en o)[j]? = some v → W.cell? ⟨b, off + i * k + j, none⟩ = some v) ∧ ok o := by
      intro i
      by_cases hi : i < len
      · obtain ⟨o, ho, hc⟩ := first i hi
        obtain ⟨o0, _, hc0⟩ := first 0 (by omega)
        obtain ⟨v0, e0⟩ := hat i o hc
        obtain ⟨v1, e1⟩ := hat 0 o0 hc0
        have hb0 := World.block_lt_of_cell? W _ e0
        obtain ⟨b, off, spot⟩ := a'
        have hsp : spot = none := by
          have := World.cell?_spot e1
          simpa [Addr.add] using this
        subst hsp
        rw [Addr.add_lit] at hb0
        refine ⟨o, fun _ => ⟨⟨b, off, rfl, hb0, fun j v hv => ?_⟩, ho⟩⟩
        have ej := hc j v hv
        rw [Addr.add_lit, ← Nat.add_assoc] at ej
        exact ej
      · exact ⟨d0, fun h => absurd h hi⟩
    obtain ⟨f, hf⟩ := Classical.skolem.1 each
    refine ⟨(List.range len).map f, by simp, fun i o ho => ?_, fun o ho => ?_, ?_⟩
    · have hi : i < len := by
        have := (List.getElem?_eq_some_iff.1 ho).1
        simpa using this
      rw [List.getElem?_map, List.getElem?_range hi] at ho
      simp at ho
      subst ho
      exact (hf i hi).1
    · obtain ⟨i, hi, rfl⟩ := List.mem_map.1 ho
      exact (hf i (List.mem_range.1 hi)).2
    · simp only [List.length_map, List.length_range]
      omega
set_option maxRecDepth 100000 in
theorem u32_cells {W : World} {fuel : Nat} {cs : List Value} {x : DataW H × List MemPlace} (h : DataW.trod enc Tryd.prog W base sp held fuel 31 cs = some x) :
    ∃ o : Int, cs = [.int .u32 o] ∧ (0 ≤ o ∧ o < 4294967296) := by
  obtain ⟨i0, e0, _, w0⟩ := DataW.trod_int Tryd.underlying31 h
  have b0 := bounds_u32 w0
  exact ⟨i0, e0, by omega, by omega⟩
set_option maxRecDepth 100000 in
theorem tra_cells {W : World} {fuel : Nat} {cs : List Value} {x : DataW H × List MemPlace} (h : DataW.trod enc Tryd.prog W base sp held fuel 36 cs = some x) :
    ∃ t : Tra, cs = [.int .i64 t.size, .int .u32 t.va, .int .u64 t.pa, .int .i64 t.dom, .int .i64 t.ap, .int .u32 t.bits, .bool t.ng, .bool t.xn] ∧ TraWf t := by
  obtain ⟨xs, n, _, hx, hl, hlen, hq⟩ := DataW.trod_struct Tryd.underlying36 h
  rw [cells_tra] at hl
  obtain ⟨v0, v1, v2, v3, v4, v5, v6, v7, rfl⟩ : ∃ v0 v1 v2 v3 v4 v5 v6 v7, cs = [v0, v1, v2, v3, v4, v5, v6, v7] := by
    match cs, hl with
    | [v0, v1, v2, v3, v4, v5, v6, v7], _ => exact ⟨v0, v1, v2, v3, v4, v5, v6, v7, rfl⟩
  obtain ⟨y0, y1, y2, y3, y4, rfl⟩ : ∃ y0 y1 y2 y3 y4, xs = [y0, y1, y2, y3, y4] := by
    match xs, hlen with
    | [y0, y1, y2, y3, y4], _ => exact ⟨y0, y1, y2, y3, y4, rfl⟩
  have h0 : DataW.trod enc Tryd.prog W base sp held n 3 [v0] = some y0 := by simpa [Value.cells, cells_i] using hq 0 _ rfl
  have h1 : DataW.trod enc Tryd.prog W base sp held n 31 [v1] = some y1 := by simpa [Value.cells, cells_u32] using hq 1 _ rfl
  have h2 : DataW.trod enc Tryd.prog W base sp held n 32 [v2] = some y2 := by simpa [Value.cells, cells_u64] using hq 2 _ rfl
  have h3 : DataW.trod enc Tryd.prog W base sp held n 3 [v3] = some y3 := by simpa [Value.cells, cells_i] using hq 3 _ rfl
  have h4 : DataW.trod enc Tryd.prog W base sp held n 34 [v4, v5, v6, v7] = some y4 := by simpa [Value.cells, cells_leaf] using hq 4 _ rfl
  obtain ⟨i0, e0, _, w0⟩ := DataW.trod_int Tryd.underlying3 h0
  obtain ⟨i1, e1, _, w1⟩ := DataW.trod_int Tryd.underlying31 h1
  obtain ⟨i2, e2, _, w2⟩ := DataW.trod_int Tryd.underlying32 h2
  obtain ⟨i3, e3, _, w3⟩ := DataW.trod_int Tryd.underlying3 h3
  obtain ⟨i4, i5, i6, i7, rfl, rfl, rfl, rfl, _, w4, w5⟩ := open_leaf4 h4
  simp only [List.cons.injEq, and_true] at e0 e1 e2 e3
  subst e0 e1 e2 e3
  exact ⟨⟨i0, i1, i2, i3, i4, i5, i6, i7⟩, rfl, ⟨w0, w1, w2, w3, w4, w5⟩⟩
theorem cells_blo : Tryd.prog.cellsOf 38 = 9 := by kernel_rfl
theorem cells_dro : Tryd.prog.cellsOf 42 = 3 := by kernel_rfl
theorem cells_opr : Tryd.prog.cellsOf 44 = 19 := by kernel_rfl
set_option maxRecDepth 100000 in
theorem tra_read {W : World} {fuel : Nat} {cs : List Value} {x : DataW H × List MemPlace} (h : DataW.trod enc Tryd.prog W base sp held fuel 36 cs = some x) :
    ∃ t : Tra, cs = [.int .i64 t.size, .int .u32 t.va, .int .u64 t.pa, .int .i64 t.dom, .int .i64 t.ap, .int .u32 t.bits, .bool t.ng, .bool t.xn] ∧ x = (traD t, []) ∧ TraWf t := by
  obtain ⟨xs, n, _, hx, hl, hlen, hq⟩ := DataW.trod_struct Tryd.underlying36 h
  rw [cells_tra] at hl
  obtain ⟨v0, v1, v2, v3, v4, v5, v6, v7, rfl⟩ : ∃ v0 v1 v2 v3 v4 v5 v6 v7, cs = [v0, v1, v2, v3, v4, v5, v6, v7] := by
    match cs, hl with
    | [v0, v1, v2, v3, v4, v5, v6, v7], _ => exact ⟨v0, v1, v2, v3, v4, v5, v6, v7, rfl⟩
  obtain ⟨y0, y1, y2, y3, y4, rfl⟩ : ∃ y0 y1 y2 y3 y4, xs = [y0, y1, y2, y3, y4] := by
    match xs, hlen with
    | [y0, y1, y2, y3, y4], _ => exact ⟨y0, y1, y2, y3, y4, rfl⟩
  have h0 : DataW.trod enc Tryd.prog W base sp held n 3 [v0] = some y0 := by simpa [Value.cells, cells_i] using hq 0 _ rfl
  have h1 : DataW.trod enc Tryd.prog W base sp held n 31 [v1] = some y1 := by simpa [Value.cells, cells_u32] using hq 1 _ rfl
  have h2 : DataW.trod enc Tryd.prog W base sp held n 32 [v2] = some y2 := by simpa [Value.cells, cells_u64] using hq 2 _ rfl
  have h3 : DataW.trod enc Tryd.prog W base sp held n 3 [v3] = some y3 := by simpa [Value.cells, cells_i] using hq 3 _ rfl
  have h4 : DataW.trod enc Tryd.prog W base sp held n 34 [v4, v5, v6, v7] = some y4 := by simpa [Value.cells, cells_leaf] using hq 4 _ rfl
  obtain ⟨i0, e0, r0, w0⟩ := DataW.trod_int Tryd.underlying3 h0
  obtain ⟨i1, e1, r1, w1⟩ := DataW.trod_int Tryd.underlying31 h1
  obtain ⟨i2, e2, r2, w2⟩ := DataW.trod_int Tryd.underlying32 h2
  obtain ⟨i3, e3, r3, w3⟩ := DataW.trod_int Tryd.underlying3 h3
  obtain ⟨i4, i5, i6, i7, rfl, rfl, rfl, rfl, r4, w4, w5⟩ := open_leaf4 h4
  simp only [List.cons.injEq, and_true] at e0 e1 e2 e3
  subst e0 e1 e2 e3 r0 r1 r2 r3 r4
  exact ⟨⟨i0, i1, i2, i3, i4, i5, i6, i7⟩, rfl, by rw [hx]; rfl, ⟨w0, w1, w2, w3, w4, w5⟩⟩
/-- What a block reads as. -/
def bloD (b : Blo) : DataW H := .agg [.lit (.int .i64 b.asid), traD b.t]
structure BloWf (b : Blo) : Prop where
  asid : (Lit.int .i64 b.asid).wf = true
  t : TraWf b.t
set_option maxRecDepth 100000 in
theorem shut_blo {b : Blo} (h : BloWf b) : DataW.Trod enc Tryd.prog w base sp held 38 (.agg #[.int .i64 b.asid, .int .i64 b.t.size, .int .u32 b.t.va, .int .u64 b.t.pa, .int .i64 b.t.dom, .int .i64 b.t.ap, .int .u32 b.t.bits, .bool b.t.ng, .bool b.t.xn]) (bloD b) [] := by
  obtain ⟨h0, h1, h2, h3, h4, h5, h6⟩ := h
  exact ⟨4, by simp [DataW.trod, Value.cells, Tryd.underlying38, Tryd.underlying36, Tryd.underlying34, Tryd.underlying3, Tryd.underlying4, Tryd.underlying31, Tryd.underlying32, cells_blo, cells_tra, cells_leaf, cells_i, cells_b, cells_u32, cells_u64, h0, h1, h2, h3, h4, h5, h6, traD, bloD]⟩
set_option maxRecDepth 100000 in
theorem blo_read {W : World} {fuel : Nat} {cs : List Value} {x : DataW H × List MemPlace} (h : DataW.trod enc Tryd.prog W base sp held fuel 38 cs = some x) :
    ∃ b : Blo, cs = [.int .i64 b.asid, .int .i64 b.t.size, .int .u32 b.t.va, .int .u64 b.t.pa, .int .i64 b.t.dom, .int .i64 b.t.ap, .int .u32 b.t.bits, .bool b.t.ng, .bool b.t.xn] ∧ x = (bloD b, []) ∧ BloWf b := by
  obtain ⟨xs, n, _, hx, hl, hlen, hq⟩ := DataW.trod_struct Tryd.underlying38 h
  rw [cells_blo] at hl
  obtain ⟨v0, v1, v2, v3, v4, v5, v6, v7, v8, rfl⟩ : ∃ v0 v1 v2 v3 v4 v5 v6 v7 v8, cs = [v0, v1, v2, v3, v4, v5, v6, v7, v8] := by
    match cs, hl with
    | [v0, v1, v2, v3, v4, v5, v6, v7, v8], _ => exact ⟨v0, v1, v2, v3, v4, v5, v6, v7, v8, rfl⟩
  obtain ⟨y0, y1, rfl⟩ : ∃ y0 y1, xs = [y0, y1] := by
    match xs, hlen with
    | [y0, y1], _ => exact ⟨y0, y1, rfl⟩
  have h0 : DataW.trod enc Tryd.prog W base sp held n 3 [v0] = some y0 := by simpa [Value.cells, cells_i] using hq 0 _ rfl
  have h1 : DataW.trod enc Tryd.prog W base sp held n 36 [v1, v2, v3, v4, v5, v6, v7, v8] = some y1 := by simpa [Value.cells, cells_tra] using hq 1 _ rfl
  obtain ⟨i0, e0, r0, w0⟩ := DataW.trod_int Tryd.underlying3 h0
  obtain ⟨t, e1, r1, w1⟩ := tra_read h1
  simp only [List.cons.injEq, and_true] at e0 e1
  obtain ⟨rfl, rfl, rfl, rfl, rfl, rfl, rfl, rfl⟩ := e1
  subst e0 r0 r1
  exact ⟨⟨i0, t⟩, rfl, by rw [hx]; rfl, ⟨w0, w1⟩⟩
set_option maxRecDepth 100000 in
theorem open_blo {r : Reach} {b0 : Nat} {v : Value} {d : DataW H} {ps : List MemPlace} (hv : Value.okWide Tryd.prog w r b0 38 v) (h : DataW.Trod enc Tryd.prog w base sp held 38 v d ps) :
    ∃ b : Blo, v = .agg #[.int .i64 b.asid, .int .i64 b.t.size, .int .u32 b.t.va, .int .u64 b.t.pa, .int .i64 b.t.dom, .int .i64 b.t.ap, .int .u32 b.t.bits, .bool b.t.ng, .bool b.t.xn] ∧ d = bloD b ∧ ps = [] ∧ BloWf b := by
  obtain ⟨cs, rfl, hsz⟩ := okWide_struct Tryd.underlying38 hv
  obtain ⟨fuel, hf⟩ := h
  obtain ⟨m, h1, h2, h3⟩ := blo_read hf
  obtain ⟨hd, hp⟩ := Prod.mk.inj h2
  refine ⟨m, ?_, hd, hp, h3⟩
  obtain ⟨l⟩ := cs
  simp only [Value.cells] at h1
  rw [← h1]
theorem BloWf.ok {b : Blo} (h : BloWf b) : BOk b := by
  have h1 := bounds_u32 h.t.v
  have h2 := bounds_u64 h.t.p
  have h3 := bounds_u32 h.t.t
  exact ⟨by omega, by omega, by omega⟩
/-- What a dropping reads as. -/
def droD (b : Dro) : DataW H := .agg [.lit (.int .i64 b.kind), .lit (.int .u32 b.va), .lit (.int .i64 b.asid)]
structure DroWf (b : Dro) : Prop where
  kind : (Lit.int .i64 b.kind).wf = true
  va : (Lit.int .u32 b.va).wf = true
  asid : (Lit.int .i64 b.asid).wf = true
set_option maxRecDepth 100000 in
theorem shut_dro {b : Dro} (h : DroWf b) : DataW.Trod enc Tryd.prog w base sp held 42 (.agg #[.int .i64 b.kind, .int .u32 b.va, .int .i64 b.asid]) (droD b) [] := by
  obtain ⟨h0, h1, h2⟩ := h
  exact ⟨2, by simp [DataW.trod, Value.cells, Tryd.underlying42, Tryd.underlying3, Tryd.underlying31, cells_dro, cells_i, cells_u32, h0, h1, h2, droD]⟩
set_option maxRecDepth 100000 in
theorem dro_read {W : World} {fuel : Nat} {cs : List Value} {x : DataW H × List MemPlace} (h : DataW.trod enc Tryd.prog W base sp held fuel 42 cs = some x) :
    ∃ b : Dro, cs = [.int .i64 b.kind, .int .u32 b.va, .int .i64 b.asid] ∧ x = (droD b, []) ∧ DroWf b := by
  obtain ⟨xs, n, _, hx, hl, hlen, hq⟩ := DataW.trod_struct Tryd.underlying42 h
  rw [cells_dro] at hl
  obtain ⟨v0, v1, v2, rfl⟩ : ∃ v0 v1 v2, cs = [v0, v1, v2] := by
    match cs, hl with
    | [v0, v1, v2], _ => exact ⟨v0, v1, v2, rfl⟩
  obtain ⟨y0, y1, y2, rfl⟩ : ∃ y0 y1 y2, xs = [y0, y1, y2] := by
    match xs, hlen with
    | [y0, y1, y2], _ => exact ⟨y0, y1, y2, rfl⟩
  have h0 : DataW.trod enc Tryd.prog W base sp held n 3 [v0] = some y0 := by simpa [Value.cells, cells_i] using hq 0 _ rfl
  have h1 : DataW.trod enc Tryd.prog W base sp held n 31 [v1] = some y1 := by simpa [Value.cells, cells_u32] using hq 1 _ rfl
  have h2 : DataW.trod enc Tryd.prog W base sp held n 3 [v2] = some y2 := by simpa [Value.cells, cells_i] using hq 2 _ rfl
  obtain ⟨i0, e0, r0, w0⟩ := DataW.trod_int Tryd.underlying3 h0
  obtain ⟨i1, e1, r1, w1⟩ := DataW.trod_int Tryd.underlying31 h1
  obtain ⟨i2, e2, r2, w2⟩ := DataW.trod_int Tryd.underlying3 h2
  simp only [List.cons.injEq, and_true] at e0 e1 e2
  subst e0 e1 e2 r0 r1 r2
  exact ⟨⟨i0, i1, i2⟩, rfl, by rw [hx]; rfl, ⟨w0, w1, w2⟩⟩
set_option maxRecDepth 100000 in
theorem open_dro {r : Reach} {b0 : Nat} {v : Value} {d : DataW H} {ps : List MemPlace} (hv : Value.okWide Tryd.prog w r b0 42 v) (h : DataW.Trod enc Tryd.prog w base sp held 42 v d ps) :
    ∃ b : Dro, v = .agg #[.int .i64 b.kind, .int .u32 b.va, .int .i64 b.asid] ∧ d = droD b ∧ ps = [] ∧ DroWf b := by
  obtain ⟨cs, rfl, hsz⟩ := okWide_struct Tryd.underlying42 hv
  obtain ⟨fuel, hf⟩ := h
  obtain ⟨m, h1, h2, h3⟩ := dro_read hf
  obtain ⟨hd, hp⟩ := Prod.mk.inj h2
  refine ⟨m, ?_, hd, hp, h3⟩
  obtain ⟨l⟩ := cs
  simp only [Value.cells] at h1
  rw [← h1]
set_option maxRecDepth 100000 in
theorem opr_read {W : World} {fuel : Nat} {cs : List Value} {x : DataW H × List MemPlace} (h : DataW.trod enc Tryd.prog W base sp held fuel 44 cs = some x) :
    ∃ o : Opr, cs = [.int .i64 o.kind, .int .i64 o.asid, .int .i64 o.pick, .int .i64 o.which, .int .u32 o.va, .bool o.fetch, .bool o.mfirst, .int .i64 o.b.asid, .int .i64 o.b.t.size, .int .u32 o.b.t.va, .int .u64 o.b.t.pa, .int .i64 o.b.t.dom, .int .i64 o.b.t.ap, .int .u32 o.b.t.bits, .bool o.b.t.ng, .bool o.b.t.xn, .int .i64 o.d.kind, .int .u32 o.d.va, .int .i64 o.d.asid] ∧ OOk o := by
  obtain ⟨xs, n, _, hx, hl, hlen, hq⟩ := DataW.trod_struct Tryd.underlying44 h
  rw [cells_opr] at hl
  obtain ⟨v0, v1, v2, v3, v4, v5, v6, v7, v8, v9, v10, v11, v12, v13, v14, v15, v16, v17, v18, rfl⟩ : ∃ v0 v1 v2 v3 v4 v5 v6 v7 v8 v9 v10 v11 v12 v13 v14 v15 v16 v17 v18, cs = [v0, v1, v2, v3, v4, v5, v6, v7, v8, v9, v10, v11, v12, v13, v14, v15, v16, v17, v18] := by
    match cs, hl with
    | [v0, v1, v2, v3, v4, v5, v6, v7, v8, v9, v10, v11, v12, v13, v14, v15, v16, v17, v18], _ => exact ⟨v0, v1, v2, v3, v4, v5, v6, v7, v8, v9, v10, v11, v12, v13, v14, v15, v16, v17, v18, rfl⟩
  obtain ⟨y0, y1, y2, y3, y4, y5, y6, y7, y8, rfl⟩ : ∃ y0 y1 y2 y3 y4 y5 y6 y7 y8, xs = [y0, y1, y2, y3, y4, y5, y6, y7, y8] := by
    match xs, hlen with
    | [y0, y1, y2, y3, y4, y5, y6, y7, y8], _ => exact ⟨y0, y1, y2, y3, y4, y5, y6, y7, y8, rfl⟩
  have h0 : DataW.trod enc Tryd.prog W base sp held n 3 [v0] = some y0 := by simpa [Value.cells, cells_i] using hq 0 _ rfl
  have h1 : DataW.trod enc Tryd.prog W base sp held n 3 [v1] = some y1 := by simpa [Value.cells, cells_i] using hq 1 _ rfl
  have h2 : DataW.trod enc Tryd.prog W base sp held n 3 [v2] = some y2 := by simpa [Value.cells, cells_i] using hq 2 _ rfl
  have h3 : DataW.trod enc Tryd.prog W base sp held n 3 [v3] = some y3 := by simpa [Value.cells, cells_i] using hq 3 _ rfl
  have h4 : DataW.trod enc Tryd.prog W base sp held n 31 [v4] = some y4 := by simpa [Value.cells, cells_u32] using hq 4 _ rfl
  have h5 : DataW.trod enc Tryd.prog W base sp held n 4 [v5] = some y5 := by simpa [Value.cells, cells_b] using hq 5 _ rfl
  have h6 : DataW.trod enc Tryd.prog W base sp held n 4 [v6] = some y6 := by simpa [Value.cells, cells_b] using hq 6 _ rfl
  have h7 : DataW.trod enc Tryd.prog W base sp held n 38 [v7, v8, v9, v10, v11, v12, v13, v14, v15] = some y7 := by simpa [Value.cells, cells_blo] using hq 7 _ rfl
  have h8 : DataW.trod enc Tryd.prog W base sp held n 42 [v16, v17, v18] = some y8 := by simpa [Value.cells, cells_dro] using hq 8 _ rfl
  obtain ⟨i0, e0, _, w0⟩ := DataW.trod_int Tryd.underlying3 h0
  obtain ⟨i1, e1, _, w1⟩ := DataW.trod_int Tryd.underlying3 h1
  obtain ⟨i2, e2, _, w2⟩ := DataW.trod_int Tryd.underlying3 h2
  obtain ⟨i3, e3, _, w3⟩ := DataW.trod_int Tryd.underlying3 h3
  obtain ⟨i4, e4, _, w4⟩ := DataW.trod_int Tryd.underlying31 h4
  obtain ⟨i5, e5, _⟩ := DataW.trod_bool Tryd.underlying4 h5
  obtain ⟨i6, e6, _⟩ := DataW.trod_bool Tryd.underlying4 h6
  obtain ⟨b, e7, _, w7⟩ := blo_read h7
  obtain ⟨d, e8, _, w8⟩ := dro_read h8
  simp only [List.cons.injEq, and_true] at e0 e1 e2 e3 e4 e5 e6 e7 e8
  obtain ⟨rfl, rfl, rfl, rfl, rfl, rfl, rfl, rfl, rfl⟩ := e7
  obtain ⟨rfl, rfl, rfl⟩ := e8
  subst e0 e1 e2 e3 e4 e5 e6
  have b4 := bounds_u32 w4
  have b8 := bounds_u32 w8.va
  exact ⟨⟨i0, i1, i2, i3, i4, i5, i6, b, d⟩, rfl, ⟨by show 0 ≤ i4; omega, by show i4 < _; omega⟩, w7.ok, by show 0 ≤ d.va; omega, by show d.va < _; omega⟩
/-- A script in memory. -/
def Scr (W : World) (a : Option Addr) (ops : List Opr) : Prop := (∀ i o, ops[i]? = some o → ∃ b off, a = some ⟨b, off, none⟩ ∧ b < W.heap.size ∧ ∀ j v, ([.int .i64 o.kind, .int .i64 o.asid, .int .i64 o.pick, .int .i64 o.which, .int .u32 o.va, .bool o.fetch, .bool o.mfirst, .int .i64 o.b.asid, .int .i64 o.b.t.size, .int .u32 o.b.t.va, .int .u64 o.b.t.pa, .int .i64 o.b.t.dom, .int .i64 o.b.t.ap, .int .u32 o.b.t.bits, .bool o.b.t.ng, .bool o.b.t.xn, .int .i64 o.d.kind, .int .u32 o.d.va, .int .i64 o.d.asid])[j]? = some v → W.cell? ⟨b, off + i * 19 + j, none⟩ = some v) ∧ ∀ o ∈ ops, OOk o
def oZ : Opr := ⟨0, 0, 0, 0, 0, false, false, ⟨0, 0, 0, 0, 0, 0, 0, false, false⟩, ⟨0, 0, 0⟩⟩
theorem open_ops {W : World} {fuel : Nat} {a : Option Addr} {len cap : Nat} {x : DataW H × List MemPlace} (h : DataW.trod enc Tryd.prog W 0 (fun _ => true) true fuel 23 (Value.slice a len cap).cells.toList = some x) :
    ∃ ops : List Opr, ops.length = len ∧ Scr W a ops ∧ ops.length ≤ maxLen := by
  obtain ⟨ops, h1, h2, h3, h4⟩ := open_rows 44 19 (by omega) cells_opr (fun o : Opr => [.int .i64 o.kind, .int .i64 o.asid, .int .i64 o.pick, .int .i64 o.which, .int .u32 o.va, .bool o.fetch, .bool o.mfirst, .int .i64 o.b.asid, .int .i64 o.b.t.size, .int .u32 o.b.t.va, .int .u64 o.b.t.pa, .int .i64 o.b.t.dom, .int .i64 o.b.t.ap, .int .u32 o.b.t.bits, .bool o.b.t.ng, .bool o.b.t.xn, .int .i64 o.d.kind, .int .u32 o.d.va, .int .i64 o.d.asid]) OOk oZ (fun h => opr_read h) (fun _ => rfl) Tryd.underlying23 h
  exact ⟨ops, h1, ⟨h2, h3⟩, h4⟩
theorem Scr.at {W w : World} {a : Option Addr} {ops : List Opr} (h : Scr W a ops) (hb : Below W.heap.size W w) {k : Nat} (hk : k < ops.length) :
    ∃ o b off, ops[k]? = some o ∧ a = some ⟨b, off, none⟩ ∧ OOk o ∧ w.cell? ⟨b, off + k * 19, none⟩ = some (.int .i64 o.kind) ∧ w.cell? ⟨b, off + k * 19 + 1, none⟩ = some (.int .i64 o.asid) ∧ w.cell? ⟨b, off + k * 19 + 2, none⟩ = some (.int .i64 o.pick) ∧ w.cell? ⟨b, off + k * 19 + 3, none⟩ = some (.int .i64 o.which) ∧ w.cell? ⟨b, off + k * 19 + 4, none⟩ = some (.int .u32 o.va) ∧ w.cell? ⟨b, off + k * 19 + 5, none⟩ = some (.bool o.fetch) ∧ w.cell? ⟨b, off + k * 19 + 6, none⟩ = some (.bool o.mfirst) ∧ w.cell? ⟨b, off + k * 19 + 7, none⟩ = some (.int .i64 o.b.asid) ∧ w.cell? ⟨b, off + k * 19 + 8, none⟩ = some (.int .i64 o.b.t.size) ∧ w.cell? ⟨b, off + k * 19 + 9, none⟩ = some (.int .u32 o.b.t.va) ∧ w.cell? ⟨b, off + k * 19 + 10, none⟩ = some (.int .u64 o.b.t.pa) ∧ w.cell? ⟨b, off + k * 19 + 11, none⟩ = some (.int .i64 o.b.t.dom) ∧ w.cell? ⟨b, off + k * 19 + 12, none⟩ = some (.int .i64 o.b.t.ap) ∧ w.cell? ⟨b, off + k * 19 + 13, none⟩ = some (.int .u32 o.b.t.bits) ∧ w.cell? ⟨b, off + k * 19 + 14, none⟩ = some (.bool o.b.t.ng) ∧ w.cell? ⟨b, off + k * 19 + 15, none⟩ = some (.bool o.b.t.xn) ∧ w.cell? ⟨b, off + k * 19 + 16, none⟩ = some (.int .i64 o.d.kind) ∧ w.cell? ⟨b, off + k * 19 + 17, none⟩ = some (.int .u32 o.d.va) ∧ w.cell? ⟨b, off + k * 19 + 18, none⟩ = some (.int .i64 o.d.asid) := by
  obtain ⟨b, off, ha, hlt, hc⟩ := h.1 k ops[k] (List.getElem?_eq_getElem hk)
  have e : ∀ j v, ([.int .i64 (ops[k]).kind, .int .i64 (ops[k]).asid, .int .i64 (ops[k]).pick, .int .i64 (ops[k]).which, .int .u32 (ops[k]).va, .bool (ops[k]).fetch, .bool (ops[k]).mfirst, .int .i64 ((ops[k]).b).asid, .int .i64 ((ops[k]).b).t.size, .int .u32 ((ops[k]).b).t.va, .int .u64 ((ops[k]).b).t.pa, .int .i64 ((ops[k]).b).t.dom, .int .i64 ((ops[k]).b).t.ap, .int .u32 ((ops[k]).b).t.bits, .bool ((ops[k]).b).t.ng, .bool ((ops[k]).b).t.xn, .int .i64 ((ops[k]).d).kind, .int .u32 ((ops[k]).d).va, .int .i64 ((ops[k]).d).asid])[j]? = some v → w.cell? ⟨b, off + k * 19 + j, none⟩ = some v := fun j v hv => by
    rw [← hc j v hv]
    exact hb.cell (p := ⟨b, off + k * 19 + j, none⟩) hlt
  exact ⟨ops[k], b, off, List.getElem?_eq_getElem hk, ha, h.2 _ (List.getElem_mem _), e 0 _ rfl, e 1 _ rfl, e 2 _ rfl, e 3 _ rfl, e 4 _ rfl, e 5 _ rfl, e 6 _ rfl, e 7 _ rfl, e 8 _ rfl, e 9 _ rfl, e 10 _ rfl, e 11 _ rfl, e 12 _ rfl, e 13 _ rfl, e 14 _ rfl, e 15 _ rfl, e 16 _ rfl, e 17 _ rfl, e 18 _ rfl⟩
end Go.Proofs.YtbbnodhpafiplaaDoor
