import Derived.Test.YtdinmhjdnnhhjaaDoorPf
import Derived.Test.YtdinmhjdnnhhjaaDoorPc
namespace Go.Proofs.YtdinmhjdnnhhjaaDoor
open Go.RowKit
set_option linter.unusedVariables false
set_option linter.unusedSimpArgs false
theorem upto21 (k : Nat) (h : k < 21) : k = 0 ∨ k = 1 ∨ k = 2 ∨ k = 3 ∨ k = 4 ∨ k = 5 ∨ k = 6 ∨ k = 7 ∨ k = 8 ∨ k = 9 ∨ k = 10 ∨ k = 11 ∨ k = 12 ∨ k = 13 ∨ k = 14 ∨ k = 15 ∨ k = 16 ∨ k = 17 ∨ k = 18 ∨ k = 19 ∨ k = 20 := by omega
theorem op_ix (n k : Nat) (hk : k < 21) (w : World) : (Instr.index 84 (.agg (opL n).toArray) (.int .i64 k)).run Tryd.prog w = .ok (.agg #[.int .i64 (op k).1.a, .int .i64 (op k).1.b, .int .i64 (op k).1.c, .int .i64 (op k).1.d, .bool ((op k).2 == 8), doV n (op k).2]) w := by
  rcases upto21 k hk with rfl | rfl | rfl | rfl | rfl | rfl | rfl | rfl | rfl | rfl | rfl | rfl | rfl | rfl | rfl | rfl | rfl | rfl | rfl | rfl | rfl <;> kernel_rfl
theorem cell_setO {w : World} {g k : Nat} (j : Nat) (v : Value) (h : ¬ k = g) (o : Nat) : (w.setCell ⟨g, j, none⟩ v).cell? ⟨k, o, none⟩ = w.cell? ⟨k, o, none⟩ :=
  World.cell?_of_block (w := w) (Below.heap_setCell _ _ _ _ h)
theorem Asks.setO {w : World} {n g : Nat} (h : Asks w n) (hg : g ≤ n) (j : Nat) (v : Value) : Asks (w.setCell ⟨g, j, none⟩ v) n :=
  ⟨(cell_setO j v (by omega) 0).trans h.c1, (cell_setO j v (by omega) 0).trans h.c2, (cell_setO j v (by omega) 0).trans h.c3, (cell_setO j v (by omega) 0).trans h.c4, (cell_setO j v (by omega) 0).trans h.c5, (cell_setO j v (by omega) 0).trans h.c6, (cell_setO j v (by omega) 0).trans h.c7, (cell_setO j v (by omega) 0).trans h.c8⟩
/-- The box of the tuple, the result's cells, all else new. -/
structure NX (w wr : World) (t : Tu) (n : Nat) : Prop where
  bel : Below w.heap.size w wr
  box : Bl wr w.heap.size 27 ([.int .i64 t.a, .int .i64 t.b, .int .i64 t.c, .int .i64 t.d])
  res : Bl wr (w.heap.size + 1) 72 [.int .i64 0, .int .i64 0, .int .i64 0, .int .i64 0, .bool false, .nilFunc]
  ask : Asks wr n
  far : w.heap.size + 1 < n
theorem NX.alloc {w wr : World} {t : Tu} {n : Nat} (h : NX w wr t n) (o : Obj) : NX w (wr.alloc o) t n := ⟨h.bel.alloc h.bel.size o, h.box.below (below_new _ _), h.res.below (below_new _ _), h.ask.below (below_new _ _), h.far⟩
end Go.Proofs.YtdinmhjdnnhhjaaDoor
