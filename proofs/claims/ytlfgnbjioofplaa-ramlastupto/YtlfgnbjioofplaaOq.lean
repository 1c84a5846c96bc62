import Derived.Test.YtlfgnbjioofplaaOp
namespace Go.Proofs.Ytlfgnbjioofplaa
open Go.ChangeShapes Go.WideShapes Go.ChangeAt Go.RowKit Go.Deep
set_option linter.unusedVariables false

/-- One of a script's bytes to be put. -/
structure Pt where
  at_ : Int
  v : Int
  wp : Bool
  wide : Int
structure ScrP (W : World) (a : Option Addr) (ops : List Pt) : Prop where
  lies : ∀ k o, ops[k]? = some o → ∃ b off, a = some ⟨b, off, none⟩ ∧ b < W.heap.size ∧ W.cell? ⟨b, off + k * 4, none⟩ = some (.int .i64 o.at_) ∧ W.cell? ⟨b, off + k * 4 + 1, none⟩ = some (.int .u8 o.v) ∧ W.cell? ⟨b, off + k * 4 + 2, none⟩ = some (.bool o.wp) ∧ W.cell? ⟨b, off + k * 4 + 3, none⟩ = some (.int .i64 o.wide)
  oks : ∀ o ∈ ops, 0 ≤ o.v ∧ o.v < 256

theorem cells_put : Try.prog.cellsOf 42 = 4 := by kernel_rfl
theorem cells_bool : Try.prog.cellsOf 4 = 1 := by kernel_rfl

set_option maxRecDepth 100000 in
/-- A script of puts, opened. -/
theorem open_puts {H : Type} {enc : TypeId × Value → H} {W : World} {fuel : Nat} {a : Option Addr} {len cap : Nat} {x : DataW H × List MemPlace}
    (h : DataW.trod enc Try.prog W 0 (fun _ => true) true fuel 36 (Value.slice a len cap).cells.toList = some x) (hbk : Rows.uptoBulk x.1 ≤ 1048576) :
    ∃ ops : List Pt, ops.length = len ∧ ScrP W a ops ∧ ops.length ≤ Rows.uptoBulk x.1 := by
  rcases open_slice Try.underlying36 h with ⟨hcs, rfl⟩ | ⟨a', len', cap', m, n, D, Pl, hcs, hb, hl, hm, hmm, rfl, hx⟩
  · simp [Value.cells] at hcs
    obtain ⟨rfl, rfl, rfl⟩ := hcs
    exact ⟨[], rfl, ⟨fun i o ho => by simp at ho, fun o ho => by cases ho⟩, Nat.zero_le _⟩
  · simp [Value.cells] at hcs
    obtain ⟨rfl, rfl, rfl⟩ := hcs
    have hlm : len ≤ m := by rw [hmm]; split <;> omega
    simp only [Rows.uptoBulk] at hbk
    have each : ∀ i : Nat, ∃ o : Pt, i < len → (∃ b off, some a' = some (⟨b, off, none⟩ : Addr) ∧ b < W.heap.size ∧ W.cell? ⟨b, off + i * 4, none⟩ = some (.int .i64 o.at_) ∧ W.cell? ⟨b, off + i * 4 + 1, none⟩ = some (.int .u8 o.v) ∧ W.cell? ⟨b, off + i * 4 + 2, none⟩ = some (.bool o.wp) ∧ W.cell? ⟨b, off + i * 4 + 3, none⟩ = some (.int .i64 o.wide)) ∧ 0 ≤ o.v ∧ o.v < 256 := by
      intro i
      by_cases hi : i < len
      · obtain ⟨cs', h1, h2⟩ := hx i (by omega)
        rw [cells_put] at h1
        obtain ⟨_, hlen, hcell⟩ := World.cells?_some h1
        obtain ⟨xs, k, hk, hxy, _, hxl, hf⟩ := DataW.trod_struct Try.underlying42 h2
        match xs, hxl, cs', hlen with
        | [y0, y1, y2, y3], _, [v0, v1, v2, v3], _ =>
          have g0 := hf 0 _ rfl
          have g1 := hf 1 _ rfl
          have g2 := hf 2 _ rfl
          have g3 := hf 3 _ rfl
          simp [cells_i, cells_u8, cells_bool] at g0 g1 g2 g3
          have e0 := hcell 0 (by omega)
          have e1 := hcell 1 (by omega)
          have e2 := hcell 2 (by omega)
          have e3 := hcell 3 (by omega)
          rw [add_add'] at e0 e1 e2 e3
          simp at e0 e1 e2 e3
          obtain ⟨n0, c0, _, w0⟩ := DataW.trod_int Try.underlying3 g0
          obtain ⟨n1, c1, _, w1⟩ := DataW.trod_int Try.underlying5 g1
          obtain ⟨n2, c2, _⟩ := DataW.trod_bool Try.underlying4 g2
          obtain ⟨n3, c3, _, w3⟩ := DataW.trod_int Try.underlying3 g3
          cases c0; cases c1; cases c2; cases c3
          have d1 := bounds_u8 w1
          refine ⟨⟨n0, n1, n2, n3⟩, fun _ => ⟨?_, d1.1, by show n1 < _; omega⟩⟩
          have hb1 := World.block_lt_of_cell? W _ e1
          obtain ⟨b, off, spot⟩ := a'
          have hsp : spot = none := by
            by_cases h0 : i = 0
            · have := World.cell?_spot e0
              subst h0
              simpa [Addr.add] using this
            · have hx0 := hx 0 (by omega)
              obtain ⟨cs0, z1, z2⟩ := hx0
              rw [cells_put] at z1
              obtain ⟨_, hlen0, hcell0⟩ := World.cells?_some z1
              have z3 := hcell0 0 (by omega)
              rw [add_add'] at z3
              match cs0, hlen0 with
              | [_, _, _, _], _ =>
                simp at z3
                have := World.cell?_spot z3
                simpa [Addr.add] using this
          subst hsp
          rw [Addr.add_lit] at e0 e1 e2 e3 hb1
          exact ⟨b, off, rfl, hb1, by simpa [Nat.add_assoc] using e0, by simpa [Nat.add_assoc] using e1, by simpa [Nat.add_assoc] using e2, by simpa [Nat.add_assoc] using e3⟩
      · exact ⟨⟨0, 0, false, 0⟩, fun h => absurd h hi⟩
    obtain ⟨f, hf⟩ := Classical.skolem.1 each
    refine ⟨(List.range len).map f, by simp, ⟨fun i o ho => ?_, fun o ho => ?_⟩, ?_⟩
    · have hi : i < len := by
        have := (List.getElem?_eq_some_iff.1 ho).1
        simpa using this
      rw [List.getElem?_map, List.getElem?_range hi] at ho
      simp at ho
      subst ho
      exact (hf i hi).1
    · obtain ⟨i, hi, rfl⟩ := List.mem_map.1 ho
      exact (hf i (List.mem_range.1 hi)).2
    · simp only [List.length_map, List.length_range, Rows.uptoBulk]
      have := bulk_len ((List.range len).map D)
      simp only [List.length_map, List.length_range] at this
      omega
end Go.Proofs.Ytlfgnbjioofplaa
