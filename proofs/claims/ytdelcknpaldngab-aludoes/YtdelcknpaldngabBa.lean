import Derived.Test.YtdelcknpaldngabProg
import Derived.WalkKit
import Derived.ProofKit
import Derived.Outline
import Derived.Deep.QuietTactic
import Derived.BigQuiet
import Derived.LoopTactic
import Derived.Deep.RegionHeld3
import Derived.Laws.BitsAllLaws
import Derived.Laws.EntriesVeiled
namespace Go.Proofs.Ytdelcknpaldngab
open Go.RowKit
set_option linter.unusedVariables false

theorem below_drewN {B : Nat} {a w : World} (h : Below B a w) (q : Nat) : Below B a (w.drewN q) := ⟨h.os, h.tape, h.output, h.size, h.block⟩
theorem below_drew {B : Nat} {a w : World} (h : Below B a w) : Below B a w.drew := ⟨h.os, h.tape, h.output, h.size, h.block⟩
theorem below_new (w : World) (o : Obj) : Below w.heap.size w (w.alloc o) := (Below.refl _ _).alloc (Nat.le_refl _) o
theorem Below.step {w w1 w2 : World} (h1 : Below w.heap.size w w1) (h2 : Below w1.heap.size w1 w2) : Below w.heap.size w w2 := h1.trans (h2.mono h1.size)
theorem cell_lt {w : World} {p : Addr} {v : Value} (h : w.cell? p = some v) : p.block < w.heap.size := by
  cases hb : w.heap[p.block]? with
  | none => simp [World.cell?, hb] at h
  | some o => exact (Array.getElem?_eq_some_iff.1 hb).1
theorem pow_nat (n : Nat) : ((2 ^ n : Nat) : Int) = 2 ^ n := Int.natCast_pow 2 n
theorem pow_pos (n : Nat) : (0 : Int) < 2 ^ n := by have := Nat.two_pow_pos n; have := pow_nat n; omega
theorem shr_range (x : Int) (n : Nat) (hx : 0 ≤ x ∧ x < 4294967296) : 0 ≤ x / 2 ^ n ∧ x / 2 ^ n < 4294967296 := by
  have h := pow_pos n
  refine ⟨Int.ediv_nonneg hx.1 (by omega), ?_⟩
  have := Int.ediv_le_self (2 ^ n) hx.1
  omega
/-- The lowest bits of a word. -/
theorem band_mod (k : Nat) (m x : Int) (hm : m = 2 ^ k - 1) (hk : k ≤ 32) (hx : 0 ≤ x ∧ x < 4294967296) : bits .and .u32 x m = x % 2 ^ k := by
  have hp : (2 : Int) ^ k = ((2 ^ k : Nat) : Int) := (pow_nat k).symm
  have hp2 : 2 ^ k ≤ 4294967296 := by simpa using Nat.pow_le_pow_right (n := 2) (by decide) hk
  have hp1 : 0 < 2 ^ k := Nat.two_pow_pos k
  rw [u32_and x m hx.1 hx.2 (by omega) (by omega)]
  have : m.toNat = 2 ^ k - 1 := by omega
  obtain ⟨X, rfl⟩ := Int.eq_ofNat_of_zero_le hx.1
  rw [this, Nat.and_two_pow_sub_one_eq_mod, hp, Int.toNat_natCast]
  rfl
theorem band1 (x : Int) (hx : 0 ≤ x ∧ x < 4294967296) : bits .and .u32 x 1 = x % 2 := band_mod 1 1 x (by decide) (by decide) hx
/-- The four flags. -/
structure Fl where
  n : Bool
  z : Bool
  c : Bool
  v : Bool
/-- A block of cells. -/
def Bl (w : World) (b : Nat) (t : TypeId) (l : List Value) : Prop := w.heap[b]? = some (.cells l.toArray t (0, 0))
theorem Bl.new (w : World) (t : TypeId) (l : List Value) : Bl (w.alloc (.cells l.toArray t)) w.heap.size t l := heap_alloc_new w (.cells l.toArray t)
theorem Bl.lt {w : World} {b : Nat} {t : TypeId} {l : List Value} (h : Bl w b t l) : b < w.heap.size := (Array.getElem?_eq_some_iff.1 h).1
theorem Bl.below {w w' : World} {b : Nat} {t : TypeId} {l : List Value} (h : Bl w b t l) (hb : Below w.heap.size w w') : Bl w' b t l := (hb.block b h.lt).trans h
theorem Bl.alloc {w : World} {b : Nat} {t : TypeId} {l : List Value} (h : Bl w b t l) (o : Obj) : Bl (w.alloc o) b t l := h.below (below_new w o)
theorem Bl.drew {w : World} {b : Nat} {t : TypeId} {l : List Value} (h : Bl w b t l) : Bl w.drew b t l := h
theorem Bl.cell {w : World} {b : Nat} {t : TypeId} {l : List Value} (h : Bl w b t l) (j : Nat) : w.cell? ⟨b, j, none⟩ = l[j]? := by
  rw [World.cell?, show w.heap[b]? = _ from h]
  simp
theorem Bl.frozen {w : World} {b : Nat} {t : TypeId} {l : List Value} (h : Bl w b t l) (j : Nat) : w.frozen? ⟨b, j, none⟩ = false := by
  simp [World.frozen?, show w.heap[b]? = _ from h]
/-- Four cells and their marks. -/
theorem Bl.four {w : World} {b : Nat} {t : TypeId} {x0 x1 x2 x3 : Value} (h : Bl w b t [x0, x1, x2, x3]) :
    (w.cell? ⟨b, 0, none⟩ = some x0 ∧ w.cell? ⟨b, 1, none⟩ = some x1 ∧ w.cell? ⟨b, 2, none⟩ = some x2 ∧ w.cell? ⟨b, 3, none⟩ = some x3) ∧ w.frozen? ⟨b, 0, none⟩ = false ∧ w.frozen? ⟨b, 1, none⟩ = false ∧ w.frozen? ⟨b, 2, none⟩ = false ∧ w.frozen? ⟨b, 3, none⟩ = false :=
  ⟨⟨h.cell 0, h.cell 1, h.cell 2, h.cell 3⟩, h.frozen 0, h.frozen 1, h.frozen 2, h.frozen 3⟩
theorem Bl.set {w : World} {b : Nat} {t : TypeId} {l : List Value} (h : Bl w b t l) (j : Nat) (v : Value) : Bl (w.setCell ⟨b, j, none⟩ v) b t (l.set j v) := by
  have h1 : w.heap[b]? = some (.cells l.toArray t (0, 0)) := h
  have hb : b < w.heap.size := h.lt
  show (w.setCell ⟨b, j, none⟩ v).heap[b]? = _
  simp [World.setCell, Array.getElem?_modify, h1]
theorem Bl.set_ne {w : World} {b b' : Nat} {t : TypeId} {l : List Value} (h : Bl w b t l) (hn : b ≠ b') (j : Nat) (v : Value) : Bl (w.setCell ⟨b', j, none⟩ v) b t l := by
  show (w.setCell ⟨b', j, none⟩ v).heap[b]? = _
  rw [Below.heap_setCell _ _ _ _ hn]
  exact h
/-- Four cells stored in a row, beside another block. -/
theorem put4 {w : World} {b c : Nat} {t t' : TypeId} {x0 x1 x2 x3 : Value} {l : List Value} (hb : Bl w b t [x0, x1, x2, x3]) (hc : Bl w c t' l) (hn : c ≠ b) (v0 v1 v2 v3 : Value) :
    Bl ((((w.setCell ⟨b, 0, none⟩ v0).setCell ⟨b, 1, none⟩ v1).setCell ⟨b, 2, none⟩ v2).setCell ⟨b, 3, none⟩ v3) b t [v0, v1, v2, v3] ∧ Bl ((((w.setCell ⟨b, 0, none⟩ v0).setCell ⟨b, 1, none⟩ v1).setCell ⟨b, 2, none⟩ v2).setCell ⟨b, 3, none⟩ v3) c t' l ∧
    ∀ B a, B ≤ b → Below B a w → Below B a ((((w.setCell ⟨b, 0, none⟩ v0).setCell ⟨b, 1, none⟩ v1).setCell ⟨b, 2, none⟩ v2).setCell ⟨b, 3, none⟩ v3) :=
  ⟨(((hb.set 0 v0).set 1 v1).set 2 v2).set 3 v3, (((hc.set_ne hn 0 v0).set_ne hn 1 v1).set_ne hn 2 v2).set_ne hn 3 v3, fun B a hB h => (((h.setCell hB v0).setCell hB v1).setCell hB v2).setCell hB v3⟩
end Go.Proofs.Ytdelcknpaldngab
