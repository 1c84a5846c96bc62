import Derived.Test.YtmmocnejacflmaaDoorProg
import Derived.WalkKit
import Derived.ProofKit
import Derived.Outline
import Derived.Deep.QuietTactic
import Derived.BigQuiet
import Derived.LoopTactic
import Derived.Deep.RegionHeld3
import Derived.Laws.BitsAllLaws
namespace Go.Proofs.YtmmocnejacflmaaDoor
open Go.RowKit
set_option linter.unusedVariables false

theorem below_drewN {B : Nat} {a w : World} (h : Below B a w) (q : Nat) : Below B a (w.drewN q) := ⟨h.os, h.tape, h.output, h.size, h.block⟩
theorem below_drew {B : Nat} {a w : World} (h : Below B a w) : Below B a w.drew := ⟨h.os, h.tape, h.output, h.size, h.block⟩
theorem Below.one {w w' : World} {o : Obj} (h : Below (w.alloc o).heap.size (w.alloc o) w') : Below w.heap.size w w' :=
  ((Below.refl _ _).alloc (Nat.le_refl _) o).trans (h.mono (by simp))
theorem Below.step {w w1 w2 : World} (h1 : Below w.heap.size w w1) (h2 : Below w1.heap.size w1 w2) : Below w.heap.size w w2 := h1.trans (h2.mono h1.size)
theorem cell_lt {w : World} {p : Addr} {v : Value} (h : w.cell? p = some v) : p.block < w.heap.size := by
  cases hb : w.heap[p.block]? with
  | none => simp [World.cell?, hb] at h
  | some o => exact (Array.getElem?_eq_some_iff.1 hb).1
/-- A block of cells. -/
def Bl (w : World) (b : Nat) (t : TypeId) (l : List Value) : Prop := w.heap[b]? = some (.cells l.toArray t (0, 0))
theorem Bl.new (w : World) (t : TypeId) (l : List Value) : Bl (w.alloc (.cells l.toArray t)) w.heap.size t l := heap_alloc_new w (.cells l.toArray t)
theorem Bl.lt {w : World} {b : Nat} {t : TypeId} {l : List Value} (h : Bl w b t l) : b < w.heap.size := (Array.getElem?_eq_some_iff.1 h).1
theorem Bl.below {w w' : World} {b : Nat} {t : TypeId} {l : List Value} (h : Bl w b t l) (hb : Below w.heap.size w w') : Bl w' b t l := (hb.block b h.lt).trans h
theorem Bl.drew {w : World} {b : Nat} {t : TypeId} {l : List Value} (h : Bl w b t l) : Bl w.drew b t l := h
theorem Bl.cell {w : World} {b : Nat} {t : TypeId} {l : List Value} (h : Bl w b t l) (j : Nat) : w.cell? ⟨b, j, none⟩ = l[j]? := by
  rw [World.cell?, show w.heap[b]? = _ from h]
  simp
theorem Bl.frozen {w : World} {b : Nat} {t : TypeId} {l : List Value} (h : Bl w b t l) (j : Nat) : w.frozen? ⟨b, j, none⟩ = false := by
  simp [World.frozen?, show w.heap[b]? = _ from h]
theorem pow_nat (n : Nat) : ((2 ^ n : Nat) : Int) = 2 ^ n := Int.natCast_pow 2 n
theorem pow_pos (n : Nat) : (0 : Int) < 2 ^ n := by have := Nat.two_pow_pos n; have := pow_nat n; omega
theorem shr_range (x : Int) (n : Nat) (hx : 0 ≤ x ∧ x < 4294967296) : 0 ≤ x / 2 ^ n ∧ x / 2 ^ n < 4294967296 := by
  have h := pow_pos n
  refine ⟨Int.ediv_nonneg hx.1 (by omega), ?_⟩
  have := Int.ediv_le_self (2 ^ n) hx.1
  omega
end Go.Proofs.YtmmocnejacflmaaDoor
