import Derived.Test.YtdinmhjdnnhhjaaDoorPe
namespace Go.Proofs.YtdinmhjdnnhhjaaDoor
open Go.RowKit
set_option linter.unusedVariables false
set_option linter.unusedSimpArgs false
/-- What stands in the field of an operation: the functions; the closures over two boxes each. -/
def doV (n c : Nat) : Value :=
  match c with
  | 0 => .func (.func 40) #[] #[]
  | 1 => .func (.func 41) #[] #[]
  | 2 => .func (.func 42) #[] #[]
  | 3 => .func (.func 43) #[] #[]
  | 4 => .func (.func 48) #[] #[.pointer (some ⟨n + 1, 0, none⟩), .pointer (some ⟨n + 2, 0, none⟩)]
  | 5 => .func (.func 48) #[] #[.pointer (some ⟨n + 3, 0, none⟩), .pointer (some ⟨n + 4, 0, none⟩)]
  | 6 => .func (.func 48) #[] #[.pointer (some ⟨n + 5, 0, none⟩), .pointer (some ⟨n + 6, 0, none⟩)]
  | 7 => .func (.func 48) #[] #[.pointer (some ⟨n + 7, 0, none⟩), .pointer (some ⟨n + 8, 0, none⟩)]
  | _ => .func (.func 45) #[] #[]
def opV (n : Nat) (o : Tu × Nat) : List Value := [.int .i64 o.1.a, .int .i64 o.1.b, .int .i64 o.1.c, .int .i64 o.1.d, .bool (o.2 == 8), doV n o.2]
def opL (n : Nat) : List Value := lOp.flatMap (opV n)
structure Asks (w : World) (n : Nat) : Prop where
  c1 : w.cell? ⟨n + 1, 0, none⟩ = some (.bool false)
  c2 : w.cell? ⟨n + 2, 0, none⟩ = some (.bool false)
  c3 : w.cell? ⟨n + 3, 0, none⟩ = some (.bool false)
  c4 : w.cell? ⟨n + 4, 0, none⟩ = some (.bool true)
  c5 : w.cell? ⟨n + 5, 0, none⟩ = some (.bool true)
  c6 : w.cell? ⟨n + 6, 0, none⟩ = some (.bool false)
  c7 : w.cell? ⟨n + 7, 0, none⟩ = some (.bool true)
  c8 : w.cell? ⟨n + 8, 0, none⟩ = some (.bool true)
theorem Asks.below {w w' : World} {n : Nat} (h : Asks w n) (hb : Below w.heap.size w w') : Asks w' n :=
  ⟨(hb.cell (cell_lt h.c1)).trans h.c1, (hb.cell (cell_lt h.c2)).trans h.c2, (hb.cell (cell_lt h.c3)).trans h.c3, (hb.cell (cell_lt h.c4)).trans h.c4, (hb.cell (cell_lt h.c5)).trans h.c5, (hb.cell (cell_lt h.c6)).trans h.c6, (hb.cell (cell_lt h.c7)).trans h.c7, (hb.cell (cell_lt h.c8)).trans h.c8⟩
def opZ : List Value := (List.replicate 21 [Value.int .i64 0, .int .i64 0, .int .i64 0, .int .i64 0, .bool false, .nilFunc]).flatten
theorem zero84 (w : World) : (zeroValue 84).run Tryd.prog w = .ok (.agg opZ.toArray) w := by kernel_rfl
theorem wpList_value {P : Program} {ops : Array Oper} {rest : List Oper} {op : Oper} {a : Act} {w : World} {Q : Exit → Act → World → Prop} (hgd : op.guard = none) (v : Value) (hr : (execOp a.eval op).run P w = .ok (.value v) w)
    (h : wpList P ops Q rest (a.put op.dst v) w) : wpList P ops Q (op :: rest) a w :=
  wpList_plain hgd fun _ hK => by unfold Oper.wp; rw [hr]; exact hK _ _ h
theorem opL_one (n : Nat) : ∀ v ∈ opL n, v.oneCell' = true := by
  intro v hv
  simp only [opL, List.mem_flatMap] at hv
  obtain ⟨o, _, hv⟩ := hv
  simp only [opV, List.mem_cons, List.not_mem_nil, or_false] at hv
  rcases hv with rfl | rfl | rfl | rfl | rfl | rfl
  · rfl
  · rfl
  · rfl
  · rfl
  · rfl
  · unfold doV
    split <;> rfl
theorem below_cells {B b : Nat} {a : World} (hb : B ≤ b) : ∀ (vs : List Value) (o : Nat) (w : World), Below B a w → Below B a (w.setCells b o vs)
  | [], _, _, h => h
  | v :: r, o, w, h => below_cells hb r (o + 1) _ (h.setCell hb v)
def opW (w : World) : World := ((((((((w.alloc (.cells opZ.toArray 84)).alloc (.cells #[.bool false] 4)).alloc (.cells #[.bool false] 4)).alloc (.cells #[.bool false] 4)).alloc (.cells #[.bool true] 4)).alloc (.cells #[.bool true] 4)).alloc (.cells #[.bool false] 4)).alloc (.cells #[.bool true] 4)).alloc (.cells #[.bool true] 4)
theorem opW_below (w : World) : Below w.heap.size w (opW w) := by
  unfold opW
  (repeat (with_reducible refine Below.alloc ?_ (by simp; try omega) _))
  exact Below.refl _ _
theorem bl_at (v : World) (b : Bool) (n : Nat) (h : v.heap.size = n) : Bl (v.alloc (.cells #[.bool b] 4)) n 4 [.bool b] := by
  subst h
  exact Bl.new v 4 [.bool b]
theorem opW_bl (w : World) : Bl (opW w) w.heap.size 84 opZ := by
  unfold opW
  iterate 8 (refine Bl.below ?_ (below_new _ _))
  exact Bl.new _ _ _
theorem opW_asks (w : World) : Asks (opW w) w.heap.size := by
  unfold opW
  refine ⟨(Bl.cell (t := 4) (l := [.bool false]) ?_ 0).trans rfl, (Bl.cell (t := 4) (l := [.bool false]) ?_ 0).trans rfl, (Bl.cell (t := 4) (l := [.bool false]) ?_ 0).trans rfl, (Bl.cell (t := 4) (l := [.bool true]) ?_ 0).trans rfl, (Bl.cell (t := 4) (l := [.bool true]) ?_ 0).trans rfl, (Bl.cell (t := 4) (l := [.bool false]) ?_ 0).trans rfl, (Bl.cell (t := 4) (l := [.bool true]) ?_ 0).trans rfl, (Bl.cell (t := 4) (l := [.bool true]) ?_ 0).trans rfl⟩
  · iterate 7 (refine Bl.below ?_ (below_new _ _))
    exact bl_at _ _ _ (by simp)
  · iterate 6 (refine Bl.below ?_ (below_new _ _))
    exact bl_at _ _ _ (by simp)
  · iterate 5 (refine Bl.below ?_ (below_new _ _))
    exact bl_at _ _ _ (by simp)
  · iterate 4 (refine Bl.below ?_ (below_new _ _))
    exact bl_at _ _ _ (by simp)
  · iterate 3 (refine Bl.below ?_ (below_new _ _))
    exact bl_at _ _ _ (by simp)
  · iterate 2 (refine Bl.below ?_ (below_new _ _))
    exact bl_at _ _ _ (by simp)
  · iterate 1 (refine Bl.below ?_ (below_new _ _))
    exact bl_at _ _ _ (by simp)
  · exact bl_at _ _ _ (by simp)
theorem opW_there (w : World) : (opW w).there w.heap.size 0 126 := fun j hj => by
  have h := opW_bl w
  rw [h.cell, h.frozen]
  have : 0 + j < opZ.length := by rw [Nat.zero_add]; exact hj
  exact ⟨by rw [List.getElem?_eq_getElem this]; rfl, rfl⟩
theorem opW_end (w : World) : Asks ((opW w).setCells w.heap.size 0 (opL w.heap.size)) w.heap.size ∧ Below w.heap.size w ((opW w).setCells w.heap.size 0 (opL w.heap.size)) ∧ ((opW w).setCells w.heap.size 0 (opL w.heap.size)).rangeAt w.heap.size 0 (opL w.heap.size) := by
  have h := opW_asks w
  have out : ∀ j, 0 < j → ((opW w).setCells w.heap.size 0 (opL w.heap.size)).cell? ⟨w.heap.size + j, 0, none⟩ = (opW w).cell? ⟨w.heap.size + j, 0, none⟩ := fun j hj =>
    World.cell?_setCells_out _ _ _ _ _ (fun e => by have : w.heap.size + j = w.heap.size := e; omega)
  refine ⟨⟨?_, ?_, ?_, ?_, ?_, ?_, ?_, ?_⟩, below_cells (Nat.le_refl _) _ _ _ (opW_below w), World.rangeAt_setCells_same _ _ _ _ (opW_there w)⟩
  · exact (out 1 (by omega)).trans h.c1
  · exact (out 2 (by omega)).trans h.c2
  · exact (out 3 (by omega)).trans h.c3
  · exact (out 4 (by omega)).trans h.c4
  · exact (out 5 (by omega)).trans h.c5
  · exact (out 6 (by omega)).trans h.c6
  · exact (out 7 (by omega)).trans h.c7
  · exact (out 8 (by omega)).trans h.c8
theorem ret_cell0 {R : Ending → World → Prop} {a : Act} {V : World} {v : Value} {n : Nat} (h0 : a.tmps.getD 0 undef = .pointer (some ⟨n, 0, none⟩)) (hl : (loadVar 84 ⟨n, 0, none⟩).run Tryd.prog V = .ok v V) (hd : a.defers = []) (hR : R (.returned v) V) : bodyPost Tryd.prog Tryd.f34 R .ret a V := by
  refine bodyPost_ret (v := v) ?_ hd hR
  simp only [results, Tryd.results34]
  generalize loadVar = LV at *
  have h1 : a.tmps[0]?.getD undef = .pointer (some ⟨n, 0, none⟩) := by simpa using h0
  simp [h1, hl, asAddr]
end Go.Proofs.YtdinmhjdnnhhjaaDoor
