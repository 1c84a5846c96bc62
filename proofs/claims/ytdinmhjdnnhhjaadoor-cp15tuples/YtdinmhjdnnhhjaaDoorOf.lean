import Derived.Test.YtdinmhjdnnhhjaaDoorLc
import Derived.Test.YtdinmhjdnnhhjaaDoorOe
namespace Go.Proofs.YtdinmhjdnnhhjaaDoor
open Go.ChangeShapes Go.WideShapes Go.ChangeAt Go.RowKit Go.Deep
set_option linter.unusedVariables false
set_option linter.unusedSimpArgs false
theorem add_add' (a : Addr) (m n : Nat) : (a.add m).add n = a.add (m + n) := by
  unfold Addr.add
  split <;> split <;> simp_all <;> omega
/-- A script in memory. -/
structure Scr (W : World) (a : Option Addr) (ops : List Opr) : Prop where
  lies : ∀ k o, ops[k]? = some o → ∃ b off, a = some ⟨b, off, none⟩ ∧ b < W.heap.size ∧ ∀ j v, ([.int .i64 o.k, .int .i64 o.t.a, .int .i64 o.t.b, .int .i64 o.t.c, .int .i64 o.t.d, .bool o.priv, .int .u32 (o.w : Nat), .int .i64 o.reg])[j]? = some v → W.cell? ⟨b, off + k * 8 + j, none⟩ = some v
  oks : ∀ o ∈ ops, o.w < 4294967296
theorem op_cells {H : Type} {enc : TypeId × Value → H} {w : World} {base : Nat} {sp : Nat → Bool} {held : Bool} {fuel : Nat} {cs : List Value} {x : DataW H × List MemPlace} (h : DataW.trod enc Tryd.prog w base sp held fuel 30 cs = some x) :
    ∃ o : Opr, cs = [.int .i64 o.k, .int .i64 o.t.a, .int .i64 o.t.b, .int .i64 o.t.c, .int .i64 o.t.d, .bool o.priv, .int .u32 (o.w : Nat), .int .i64 o.reg] ∧ o.w < 4294967296 := by
  obtain ⟨xs, n, _, hx, hl, hlen, hq⟩ := DataW.trod_struct Tryd.underlying30 h
  rw [cells_op] at hl
  obtain ⟨v0, v1, v2, v3, v4, v5, v6, v7, rfl⟩ : ∃ v0 v1 v2 v3 v4 v5 v6 v7, cs = [v0, v1, v2, v3, v4, v5, v6, v7] := by
    match cs, hl with
    | [v0, v1, v2, v3, v4, v5, v6, v7], _ => exact ⟨v0, v1, v2, v3, v4, v5, v6, v7, rfl⟩
  obtain ⟨y0, y1, y2, y3, y4, rfl⟩ : ∃ y0 y1 y2 y3 y4, xs = [y0, y1, y2, y3, y4] := by
    match xs, hlen with
    | [y0, y1, y2, y3, y4], _ => exact ⟨y0, y1, y2, y3, y4, rfl⟩
  have h0 : DataW.trod enc Tryd.prog w base sp held n 3 [v0] = some y0 := by simpa [Value.cells, cells_int] using hq 0 _ rfl
  have h1 : DataW.trod enc Tryd.prog w base sp held n 27 [v1, v2, v3, v4] = some y1 := by simpa [Value.cells, cells_tuple] using hq 1 _ rfl
  have h2 : DataW.trod enc Tryd.prog w base sp held n 4 [v5] = some y2 := by simpa [Value.cells, cells_bool] using hq 2 _ rfl
  have h3 : DataW.trod enc Tryd.prog w base sp held n 28 [v6] = some y3 := by simpa [Value.cells, cells_u32] using hq 3 _ rfl
  have h4 : DataW.trod enc Tryd.prog w base sp held n 3 [v7] = some y4 := by simpa [Value.cells, cells_int] using hq 4 _ rfl
  obtain ⟨i0, e0, _, _⟩ := DataW.trod_int Tryd.underlying3 h0
  obtain ⟨t, e1, _, _⟩ := tup_cells h1
  obtain ⟨i2, e2, _⟩ := DataW.trod_bool Tryd.underlying4 h2
  obtain ⟨i3, e3, _, w3⟩ := DataW.trod_int Tryd.underlying28 h3
  obtain ⟨i4, e4, _, _⟩ := DataW.trod_int Tryd.underlying3 h4
  simp only [List.cons.injEq, and_true] at e0 e1 e2 e3 e4
  obtain ⟨rfl, rfl, rfl, rfl⟩ := e1
  subst e0 e2 e3 e4
  have b3 := bounds_u32 w3
  refine ⟨⟨i0, t, i2, i3.toNat, i4⟩, ?_, ?_⟩
  · rw [show ((i3.toNat : Nat) : Int) = i3 by omega]
  · show i3.toNat < 4294967296
    omega
set_option maxRecDepth 100000 in
/-- A script, opened. -/
theorem open_script {H : Type} {enc : TypeId × Value → H} {W : World} {fuel : Nat} {a : Option Addr} {len cap : Nat} {x : DataW H × List MemPlace}
    (h : DataW.trod enc Tryd.prog W 0 (fun _ => true) true fuel 22 (Value.slice a len cap).cells.toList = some x) :
    ∃ ops : List Opr, ops.length = len ∧ Scr W a ops ∧ ops.length ≤ maxLen := by
  rcases open_slice Tryd.underlying22 h with ⟨hcs, rfl⟩ | ⟨a', len', cap', m, n, D, Pl, hcs, hb, hl, hm, hmm, rfl, hx⟩
  · simp [Value.cells] at hcs
    obtain ⟨rfl, rfl, rfl⟩ := hcs
    exact ⟨[], rfl, ⟨fun i o ho => by simp at ho, fun o ho => by cases ho⟩, Nat.zero_le _⟩
  · simp [Value.cells] at hcs
    obtain ⟨rfl, rfl, rfl⟩ := hcs
    have hlm : len ≤ m := by rw [hmm]; split <;> omega
    have each : ∀ i : Nat, ∃ o : Opr, i < len → (∃ b off, some a' = some (⟨b, off, none⟩ : Addr) ∧ b < W.heap.size ∧ ∀ j v, ([.int .i64 o.k, .int .i64 o.t.a, .int .i64 o.t.b, .int .i64 o.t.c, .int .i64 o.t.d, .bool o.priv, .int .u32 (o.w : Nat), .int .i64 o.reg])[j]? = some v → W.cell? ⟨b, off + i * 8 + j, none⟩ = some v) ∧ o.w < 4294967296 := by
      intro i
      by_cases hi : i < len
      · obtain ⟨cs', h1, h2⟩ := hx i (by omega)
        rw [cells_op] at h1
        obtain ⟨_, hlen, hcell⟩ := World.cells?_some h1
        obtain ⟨o, rfl, ho⟩ := op_cells h2
        have e0 := hcell 0 (by omega)
        rw [add_add'] at e0
        simp at e0
        have hb0 := World.block_lt_of_cell? W _ e0
        obtain ⟨b, off, spot⟩ := a'
        have hsp : spot = none := by
          by_cases h0 : i = 0
          · have := World.cell?_spot e0
            subst h0
            simpa [Addr.add] using this
          · obtain ⟨cs0, z1, z2⟩ := hx 0 (by omega)
            rw [cells_op] at z1
            obtain ⟨_, hlen0, hcell0⟩ := World.cells?_some z1
            have z3 := hcell0 0 (by omega)
            rw [add_add'] at z3
            obtain ⟨o0, rfl, _⟩ := op_cells z2
            simp at z3
            have := World.cell?_spot z3
            simpa [Addr.add] using this
        subst hsp
        rw [Addr.add_lit] at hb0
        refine ⟨o, fun _ => ⟨⟨b, off, rfl, hb0, fun j v hv => ?_⟩, ho⟩⟩
        have hj : j < 8 := by
          have := (List.getElem?_eq_some_iff.1 hv).1
          simpa using this
        have ej := hcell j hj
        rw [add_add', Addr.add_lit, hv] at ej
        rw [← Nat.add_assoc] at ej
        exact ej
      · exact ⟨⟨0, ⟨0, 0, 0, 0⟩, false, 0, 0⟩, fun h => absurd h hi⟩
    obtain ⟨f, hf⟩ := Classical.skolem.1 each
    refine ⟨(List.range len).map f, by simp, ⟨fun i o ho => ?_, fun o ho => ?_⟩, ?_⟩
    · have hi : i < len := by
        have := (List.getElem?_eq_some_iff.1 ho).1
        simpa using this
      rw [List.getElem?_map, List.getElem?_range hi] at ho
      simp at ho
      subst ho
      exact (hf i hi).1
    · obtain ⟨i, hi, rfl⟩ := List.mem_map.1 ho
      exact (hf i (List.mem_range.1 hi)).2
    · simp only [List.length_map, List.length_range]
      omega
end Go.Proofs.YtdinmhjdnnhhjaaDoor
