import Derived.Test.YtmcloaonpkfibaaDoorLv
namespace Go.Proofs.YtmcloaonpkfibaaDoor
open Go.RowKit
set_option linter.unusedVariables false
set_option linter.unusedSimpArgs false
theorem Bl.set {w : World} {b : Nat} {t : TypeId} {l : List Value} (h : Bl w b t l) (j : Nat) (v : Value) : Bl (w.setCell ⟨b, j, none⟩ v) b t (l.set j v) := by
  have h1 : w.heap[b]? = some (.cells l.toArray t (0, 0)) := h
  have hb : b < w.heap.size := h.lt
  show (w.setCell ⟨b, j, none⟩ v).heap[b]? = _
  simp [World.setCell, Array.getElem?_modify, h1]
theorem Bl.set_ne {w : World} {b b' : Nat} {t : TypeId} {l : List Value} (h : Bl w b t l) (hn : b ≠ b') (j : Nat) (v : Value) : Bl (w.setCell ⟨b', j, none⟩ v) b t l := by
  show (w.setCell ⟨b', j, none⟩ v).heap[b]? = _
  rw [Below.heap_setCell _ _ _ _ hn]
  exact h
theorem AX.set {w wr : World} (hT : TA w) (h : AX w wr) {b : Nat} (hb : w.heap.size ≤ b) (j : Nat) (v : Value) : AX w (wr.setCell ⟨b, j, none⟩ v) := by
  have hB : Below w.heap.size w (wr.setCell ⟨b, j, none⟩ v) := Below.setCell h.bel hb v
  exact ⟨hB, hT.below hB⟩
theorem AX.st4 {w wr : World} (hT : TA w) (h : AX w wr) {b : Nat} (hb : w.heap.size ≤ b) (m : Mem) : AX w ((((wr.setCell ⟨b, 0, none⟩ (.int .i64 m.t)).setCell ⟨b, 1, none⟩ (.int .i64 m.i)).setCell ⟨b, 2, none⟩ (.int .i64 m.o)).setCell ⟨b, 3, none⟩ (.int .i64 m.s)) :=
  ((((h.set hT hb 0 _).set hT hb 1 _).set hT hb 2 _).set hT hb 3 _)
theorem Bl.st4 {w : World} {b : Nat} {t : TypeId} {x0 x1 x2 x3 : Value} (h : Bl w b t [x0, x1, x2, x3]) (m : Mem) : Bl ((((w.setCell ⟨b, 0, none⟩ (.int .i64 m.t)).setCell ⟨b, 1, none⟩ (.int .i64 m.i)).setCell ⟨b, 2, none⟩ (.int .i64 m.o)).setCell ⟨b, 3, none⟩ (.int .i64 m.s)) b t [.int .i64 m.t, .int .i64 m.i, .int .i64 m.o, .int .i64 m.s] :=
  ((((h.set 0 _).set 1 _).set 2 _).set 3 _)
theorem Bl.st4_ne {w : World} {b b' : Nat} {t : TypeId} {l : List Value} (h : Bl w b t l) (hn : b ≠ b') (m : Mem) : Bl ((((w.setCell ⟨b', 0, none⟩ (.int .i64 m.t)).setCell ⟨b', 1, none⟩ (.int .i64 m.i)).setCell ⟨b', 2, none⟩ (.int .i64 m.o)).setCell ⟨b', 3, none⟩ (.int .i64 m.s)) b t l :=
  ((((h.set_ne hn 0 _).set_ne hn 1 _).set_ne hn 2 _).set_ne hn 3 _)
end Go.Proofs.YtmcloaonpkfibaaDoor
