import Derived.Test.YtplobjdghaokoaaLy
import Derived.Test.YtplobjdghaokoaaRows
import Derived.Deep.Slices
import Derived.ChangeSame
import Derived.WalkKit
import Derived.ProofKit
import Derived.OpenShut
import Derived.SizedLaws
import Derived.JoinedCond
import Derived.Deep.CondSized
namespace Go.Proofs.Ytplobjdghaokoaa
open Go.ChangeShapes Go.WideShapes Go.ChangeAt Go.RowKit Go.Deep
set_option linter.unusedVariables false

theorem cells_op : Try.prog.cellsOf 31 = 5 := by kernel_rfl
theorem cells_i : Try.prog.cellsOf 3 = 1 := by kernel_rfl

theorem bulk_pos {H : Type} (d : DataW H) : 1 ≤ Rows.uptoBulk d := by
  cases d with
  | lit l => cases l <;> simp [Rows.uptoBulk]
  | nil => simp [Rows.uptoBulk]
  | ptr d => simp [Rows.uptoBulk]
  | slice a b => simp [Rows.uptoBulk]
  | agg a => simp [Rows.uptoBulk]
  | iface a b => simp [Rows.uptoBulk]
  | map a => simp [Rows.uptoBulk]
  | held a => simp [Rows.uptoBulk]
theorem bulk_len {H : Type} (l : List (DataW H)) : l.length ≤ Rows.uptoBulkAll l := by
  induction l with
  | nil => simp [Rows.uptoBulkAll]
  | cons d r ih =>
    have := bulk_pos d
    simp only [Rows.uptoBulkAll, List.length_cons]
    omega
theorem bulk_mem {H : Type} {d : DataW H} {l : List (DataW H)} (h : d ∈ l) : Rows.uptoBulk d ≤ Rows.uptoBulkAll l := by
  induction l with
  | nil => cases h
  | cons e r ih =>
    simp only [Rows.uptoBulkAll]
    rcases List.mem_cons.1 h with rfl | h
    · omega
    · have := ih h
      omega
theorem add_add' (a : Addr) (m n : Nat) : (a.add m).add n = a.add (m + n) := by
  unfold Addr.add
  split <;> split <;> simp_all <;> omega

/-- A script in memory. -/
structure Scr (W : World) (a : Option Addr) (ops : List Op4) : Prop where
  lies : ∀ k o, ops[k]? = some o → ∃ b off, a = some ⟨b, off, none⟩ ∧ b < W.heap.size ∧ W.cell? ⟨b, off + k * 5, none⟩ = some (.int .i64 o.kind) ∧ W.cell? ⟨b, off + k * 5 + 1, none⟩ = some (.int .i64 o.first) ∧ W.cell? ⟨b, off + k * 5 + 2, none⟩ = some (.int .i64 o.n) ∧ W.cell? ⟨b, off + k * 5 + 3, none⟩ = some (.int .i64 o.align) ∧ W.cell? ⟨b, off + k * 5 + 4, none⟩ = some (.int .i64 o.which)
  oks : ∀ o ∈ ops, o.ok

set_option maxRecDepth 100000 in
/-- A script, opened. -/
theorem open_script {H : Type} {enc : TypeId × Value → H} {W : World} {fuel : Nat} {a : Option Addr} {len cap : Nat} {x : DataW H × List MemPlace}
    (h : DataW.trod enc Try.prog W 0 (fun _ => true) true fuel 22 (Value.slice a len cap).cells.toList = some x) (hbk : Rows.uptoBulk x.1 ≤ 1048576) :
    ∃ ops : List Op4, ops.length = len ∧ Scr W a ops ∧ ops.length ≤ Rows.uptoBulk x.1 := by
  rcases open_slice Try.underlying22 h with ⟨hcs, rfl⟩ | ⟨a', len', cap', m, n, D, Pl, hcs, hb, hl, hm, hmm, rfl, hx⟩
  · simp [Value.cells] at hcs
    obtain ⟨rfl, rfl, rfl⟩ := hcs
    exact ⟨[], rfl, ⟨fun i o ho => by simp at ho, fun o ho => by cases ho⟩, Nat.zero_le _⟩
  · simp [Value.cells] at hcs
    obtain ⟨rfl, rfl, rfl⟩ := hcs
    have hlm : len ≤ m := by rw [hmm]; split <;> omega
    have each : ∀ i : Nat, ∃ o : Op4, i < len → (∃ b off, some a' = some (⟨b, off, none⟩ : Addr) ∧ b < W.heap.size ∧ W.cell? ⟨b, off + i * 5, none⟩ = some (.int .i64 o.kind) ∧ W.cell? ⟨b, off + i * 5 + 1, none⟩ = some (.int .i64 o.first) ∧ W.cell? ⟨b, off + i * 5 + 2, none⟩ = some (.int .i64 o.n) ∧ W.cell? ⟨b, off + i * 5 + 3, none⟩ = some (.int .i64 o.align) ∧ W.cell? ⟨b, off + i * 5 + 4, none⟩ = some (.int .i64 o.which)) ∧ o.ok := by
      intro i
      by_cases hi : i < len
      · obtain ⟨cs', h1, h2⟩ := hx i (by omega)
        rw [cells_op] at h1
        obtain ⟨_, hlen, hcell⟩ := World.cells?_some h1
        obtain ⟨xs, k, hk, hxy, _, hxl, hf⟩ := DataW.trod_struct Try.underlying31 h2
        match xs, hxl, cs', hlen with
        | [y0, y1, y2, y3, y4], _, [v0, v1, v2, v3, v4], _ =>
          have g0 := hf 0 _ rfl
          have g1 := hf 1 _ rfl
          have g2 := hf 2 _ rfl
          have g3 := hf 3 _ rfl
          have g4 := hf 4 _ rfl
          simp [cells_i] at g0 g1 g2 g3 g4
          have e0 := hcell 0 (by omega)
          have e1 := hcell 1 (by omega)
          have e2 := hcell 2 (by omega)
          have e3 := hcell 3 (by omega)
          have e4 := hcell 4 (by omega)
          rw [add_add'] at e0 e1 e2 e3 e4
          simp at e0 e1 e2 e3 e4
          obtain ⟨n0, c0, _, w0⟩ := DataW.trod_int Try.underlying3 g0
          obtain ⟨n1, c1, _, w1⟩ := DataW.trod_int Try.underlying3 g1
          obtain ⟨n2, c2, _, w2⟩ := DataW.trod_int Try.underlying3 g2
          obtain ⟨n3, c3, _, w3⟩ := DataW.trod_int Try.underlying3 g3
          obtain ⟨n4, c4, _, w4⟩ := DataW.trod_int Try.underlying3 g4
          cases c0; cases c1; cases c2; cases c3; cases c4
          refine ⟨⟨n0, n1, n2, n3, n4⟩, fun _ => ⟨?_, ⟨bounds_i64 w0, bounds_i64 w1, bounds_i64 w2, bounds_i64 w3, bounds_i64 w4⟩⟩⟩
          have hb1 := World.block_lt_of_cell? W _ e1
          obtain ⟨b, off, spot⟩ := a'
          have hsp : spot = none := by
            by_cases h0 : i = 0
            · have := World.cell?_spot e0
              subst h0
              simpa [Addr.add] using this
            · have hx0 := hx 0 (by omega)
              obtain ⟨cs0, z1, z2⟩ := hx0
              rw [cells_op] at z1
              obtain ⟨_, hlen0, hcell0⟩ := World.cells?_some z1
              have z3 := hcell0 0 (by omega)
              rw [add_add'] at z3
              match cs0, hlen0 with
              | [_, _, _, _, _], _ =>
                simp at z3
                have := World.cell?_spot z3
                simpa [Addr.add] using this
          subst hsp
          rw [Addr.add_lit] at e0 e1 e2 e3 e4 hb1
          exact ⟨b, off, rfl, hb1, by simpa [Nat.add_assoc] using e0, by simpa [Nat.add_assoc] using e1, by simpa [Nat.add_assoc] using e2, by simpa [Nat.add_assoc] using e3, by simpa [Nat.add_assoc] using e4⟩
      · exact ⟨⟨0, 0, 0, 0, 0⟩, fun h => absurd h hi⟩
    obtain ⟨f, hf⟩ := Classical.skolem.1 each
    refine ⟨(List.range len).map f, by simp, ⟨fun i o ho => ?_, fun o ho => ?_⟩, ?_⟩
    · have hi : i < len := by
        have := (List.getElem?_eq_some_iff.1 ho).1
        simpa using this
      rw [List.getElem?_map, List.getElem?_range hi] at ho
      simp at ho
      subst ho
      exact (hf i hi).1
    · obtain ⟨i, hi, rfl⟩ := List.mem_map.1 ho
      exact (hf i (List.mem_range.1 hi)).2
    · simp only [List.length_map, List.length_range, Rows.uptoBulk]
      have := bulk_len ((List.range len).map D)
      simp only [List.length_map, List.length_range] at this
      omega
end Go.Proofs.Ytplobjdghaokoaa
