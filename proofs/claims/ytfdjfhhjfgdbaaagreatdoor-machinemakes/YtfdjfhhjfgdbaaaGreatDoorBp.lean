import Derived.Test.YtfdjfhhjfgdbaaaGreatDoorProg
import Derived.WalkKit
import Derived.ProofKit
import Derived.Outline
import Derived.Deep.QuietTactic
import Derived.BigQuiet
import Derived.LoopTactic
import Derived.Deep.RegionHeld3
import Derived.Laws.BitsAllLaws
import Derived.Deep.MidRow
import Derived.Laws.MakeOwn
import Derived.OwnWalk
import Derived.Laws.CopyRow
import Derived.Laws.Externs
import Derived.Deep.Draws
namespace Go.Proofs.YtfdjfhhjfgdbaaaGreatDoor
open Go.RowKit
set_option linter.unusedVariables false
set_option linter.unusedSimpArgs false
theorem below_drewN {B : Nat} {a w : World} (h : Below B a w) (q : Nat) : Below B a (w.drewN q) := ⟨h.os, h.tape, h.output, h.size, h.block⟩
theorem below_drew {B : Nat} {a w : World} (h : Below B a w) : Below B a w.drew := ⟨h.os, h.tape, h.output, h.size, h.block⟩

theorem cell_lt {w : World} {p : Addr} {v : Value} (h : w.cell? p = some v) : p.block < w.heap.size := by
  cases hb : w.heap[p.block]? with
  | none => simp [World.cell?, hb] at h
  | some o => exact (Array.getElem?_eq_some_iff.1 hb).1
/-- A translation. -/
structure Tra where
  size : Int
  va : Int
  pa : Int
  dom : Int
  ap : Int
  bits : Int
  ng : Bool
  xn : Bool
def Tra.same (a b : Tra) : Bool := a.size == b.size && (a.va == b.va && (a.pa == b.pa && (a.dom == b.dom && (a.ap == b.ap && (a.bits == b.bits && (a.ng == b.ng && a.xn == b.xn))))))
theorem Tra.same_iff (a b : Tra) : a.same b = true ↔ a = b := by
  obtain ⟨a1, a2, a3, a4, a5, a6, a7, a8⟩ := a
  obtain ⟨b1, b2, b3, b4, b5, b6, b7, b8⟩ := b
  simp [Tra.same]
/-- A block of cells. -/
def Bl (w : World) (b : Nat) (t : TypeId) (l : List Value) : Prop := w.heap[b]? = some (.cells l.toArray t (0, 0))
theorem Bl.new (w : World) (t : TypeId) (l : List Value) : Bl (w.alloc (.cells l.toArray t)) w.heap.size t l := heap_alloc_new w (.cells l.toArray t)
theorem Bl.lt {w : World} {b : Nat} {t : TypeId} {l : List Value} (h : Bl w b t l) : b < w.heap.size := (Array.getElem?_eq_some_iff.1 h).1
theorem Bl.below {w w' : World} {b : Nat} {t : TypeId} {l : List Value} (h : Bl w b t l) (hb : Below w.heap.size w w') : Bl w' b t l := (hb.block b h.lt).trans h
theorem Bl.drew {w : World} {b : Nat} {t : TypeId} {l : List Value} (h : Bl w b t l) : Bl w.drew b t l := h
theorem Bl.cell {w : World} {b : Nat} {t : TypeId} {l : List Value} (h : Bl w b t l) (j : Nat) : w.cell? ⟨b, j, none⟩ = l[j]? := by
  rw [World.cell?, show w.heap[b]? = _ from h]
  simp
theorem Bl.frozen {w : World} {b : Nat} {t : TypeId} {l : List Value} (h : Bl w b t l) (j : Nat) : w.frozen? ⟨b, j, none⟩ = false := by
  simp [World.frozen?, show w.heap[b]? = _ from h]
theorem Below.step {w w1 w2 : World} (h1 : Below w.heap.size w w1) (h2 : Below w1.heap.size w1 w2) : Below w.heap.size w w2 := h1.trans (h2.mono h1.size)

def tZ : Tra := ⟨0, 0, 0, 0, 0, 0, false, false⟩
/-- Not asked by this law: which blocks are right. -/
def riF (t : Tra) : Bool := decide (1 ≤ t.size)
/-- Sizes, as numbers of bytes and of bits. -/
def byN (s : Int) : Int := if s = 1 then 4096 else if s = 2 then 65536 else if s = 3 then 1048576 else if s = 4 then 16777216 else 0
/-- A block, a place, a dropping, a call. -/
structure Blo where
  asid : Int
  t : Tra
structure Slo where
  full : Bool
  b : Blo
structure Dro where
  kind : Int
  va : Int
  asid : Int
def bZ : Blo := ⟨0, tZ⟩
def sZ : Slo := ⟨false, bZ⟩
def Blo.same (a b : Blo) : Bool := a.asid == b.asid && a.t.same b.t
def Slo.same (a b : Slo) : Bool := a.full == b.full && a.b.same b.b
theorem Blo.same_iff (a b : Blo) : a.same b = true ↔ a = b := by
  obtain ⟨a1, a2⟩ := a
  obtain ⟨b1, b2⟩ := b
  simp [Blo.same, Tra.same_iff]
theorem Slo.same_iff (a b : Slo) : a.same b = true ↔ a = b := by
  obtain ⟨a1, a2⟩ := a
  obtain ⟨b1, b2⟩ := b
  simp [Slo.same, Blo.same_iff]
theorem Blo.same_self (a : Blo) : a.same a = true := (Blo.same_iff a a).2 rfl
theorem Slo.same_self (a : Slo) : a.same a = true := (Slo.same_iff a a).2 rfl
theorem Blo.same_comm (a b : Blo) : a.same b = b.same a := by
  rw [Bool.eq_iff_iff, Blo.same_iff, Blo.same_iff]
  exact ⟨Eq.symm, Eq.symm⟩
theorem Slo.same_comm (a b : Slo) : a.same b = b.same a := by
  rw [Bool.eq_iff_iff, Slo.same_iff, Slo.same_iff]
  exact ⟨Eq.symm, Eq.symm⟩
def asF (n : Int) : Bool := decide (0 ≤ n) && decide (n ≤ 255)
/-- A right block. -/
def bR (b : Blo) : Bool := if riF b.t then (if b.t.ng then asF b.asid else b.asid == -1) else false
/-- It lies over an address, and holds for an ASID. -/
def liF (b : Blo) (va : Int) : Bool := decide (b.t.va ≤ va) && decide (va - b.t.va < byN b.t.size)
def hoF (b : Blo) (asid : Int) : Bool := b.asid == asid || b.asid == -1
def maF (b : Blo) (va asid : Int) : Bool := liF b va && hoF b asid
def ovF (b : Blo) (va asid : Int) : Bool := bR b && maF b va asid
/-- What a dropping takes. -/
def pkF (d : Dro) (b : Blo) : Bool :=
  if (d.kind == 1 && (d.va == 0 && d.asid == 0)) = true then true
  else if (d.kind == 2 && asF d.asid) = true then maF b d.va d.asid
  else if (d.kind == 3 && (d.va == 0 && asF d.asid)) = true then b.asid == d.asid
  else if (d.kind == 4 && d.asid == 0) = true then liF b d.va
  else false
def tkF (d : Dro) (b : Blo) : Bool := bR b && pkF d b
/-- The numbers are such as they can be. -/
structure BOk (b : Blo) : Prop where
  va : 0 ≤ b.t.va ∧ b.t.va < 4294967296
  pa : 0 ≤ b.t.pa ∧ b.t.pa < 18446744073709551616
  bits : 0 ≤ b.t.bits ∧ b.t.bits < 4294967296
theorem BOk.zero : BOk bZ := ⟨by decide, by decide, by decide⟩
/-- A place that is kept right. -/
structure SOk (s : Slo) : Prop where
  ok : BOk s.b
  yes : s.full = true → bR s.b = true
  no : s.full = false → s = sZ
theorem SOk.zero : SOk sZ := ⟨BOk.zero, by decide, fun _ => rfl⟩
abbrev LOk (L : List Slo) : Prop := ∀ s ∈ L, SOk s
theorem LOk.at {L : List Slo} (h : LOk L) {k : Nat} {s : Slo} (hs : L[k]? = some s) : SOk s := h s (List.mem_of_getElem? hs)
theorem LOk.set {L : List Slo} (h : LOk L) (k : Nat) {s : Slo} (hs : SOk s) : LOk (L.set k s) := fun x hx => by
  rcases List.mem_or_eq_of_mem_set hx with h1 | h1
  · exact h x h1
  · rw [h1]; exact hs
theorem LOk.zeros (n : Nat) : LOk (List.replicate n sZ) := fun s hs => by rw [(List.mem_replicate.1 hs).2]; exact SOk.zero
/-- Look. -/
def lkS (va asid : Int) (r : Blo × Nat) (s : Slo) : Blo × Nat := if (s.full && ovF s.b va asid) = true then (s.b, r.2 + 1) else r
def lkP (L : List Slo) (va asid : Int) : Blo × Nat := L.foldl (lkS va asid) (bZ, 0)
def lkF (L : List Slo) (va asid : Int) : Blo × Nat := if (lkP L va asid).2 = 1 then lkP L va asid else (bZ, (lkP L va asid).2)
theorem foldl_take {α β : Type} (f : β → α → β) (z : β) {L : List α} {k : Nat} {s : α} (h : L[k]? = some s) : (L.take (k + 1)).foldl f z = f ((L.take k).foldl f z) s := by
  rw [List.take_add_one, h]
  simp
theorem lkP_take {L : List Slo} {k : Nat} {s : Slo} (h : L[k]? = some s) (va asid : Int) : lkP (L.take (k + 1)) va asid = lkS va asid (lkP (L.take k) va asid) s := foldl_take _ _ h
theorem lkP_le (va asid : Int) (L : List Slo) : (lkP L va asid).2 ≤ L.length := by
  unfold lkP
  suffices h : ∀ (L : List Slo) (r : Blo × Nat), (L.foldl (lkS va asid) r).2 ≤ r.2 + L.length by simpa using h L (bZ, 0)
  intro L
  induction L with
  | nil => intro r; simp
  | cons s L ih =>
    intro r
    have h1 := ih (lkS va asid r s)
    have h2 : (lkS va asid r s).2 ≤ r.2 + 1 := by unfold lkS; split <;> simp
    simp only [List.foldl_cons, List.length_cons]
    omega
/-- Len. -/
def leN (L : List Slo) : Nat := L.countP (·.full)
theorem countP_take {α : Type} (p : α → Bool) {L : List α} {k : Nat} {s : α} (h : L[k]? = some s) : (L.take (k + 1)).countP p = (L.take k).countP p + (if p s = true then 1 else 0) := by
  rw [List.take_add_one, h]
  simp [List.countP_append, List.countP_singleton]
/-- Put. -/
def ixF (L : List Slo) (s : Slo) : Option Nat := L.findIdx? (fun x => x.same s)
def puF (L : List Slo) (b : Blo) (pick : Int) : (Nat × Int) × List Slo :=
  if bR b then
    match ixF L ⟨true, b⟩ with
    | some i => ((i, 0), L)
    | none =>
      match ixF L sZ with
      | some i => ((i, 0), L.set i ⟨true, b⟩)
      | none => (((pick % (L.length : Int)).toNat, 0), L.set (pick % (L.length : Int)).toNat ⟨true, b⟩)
  else ((0, 101), L)
/-- Evict. -/
def evF (L : List Slo) (i : Int) : Bool × List Slo := if 0 ≤ i ∧ i < (L.length : Int) then ((L.getD i.toNat sZ).full, L.set i.toNat sZ) else (false, L)
/-- Flush. -/
def fkF (d : Dro) (s : Slo) : Bool := s.full && tkF d s.b
def flF (L : List Slo) (d : Dro) : Nat × List Slo := (L.countP (fkF d), L.map fun s => if fkF d s = true then sZ else s)
theorem puF_len (L : List Slo) (b : Blo) (pick : Int) : (puF L b pick).2.length = L.length := by
  unfold puF
  split
  · split
    · rfl
    · split <;> simp
  · rfl
theorem evF_len (L : List Slo) (i : Int) : (evF L i).2.length = L.length := by
  unfold evF
  split <;> simp
theorem flF_len (L : List Slo) (d : Dro) : (flF L d).2.length = L.length := by simp [flF]
theorem puF_ok {L : List Slo} (h : LOk L) {b : Blo} (hb : BOk b) (pick : Int) : LOk (puF L b pick).2 := by
  unfold puF
  split
  · rename_i hr
    have hs : SOk ⟨true, b⟩ := ⟨hb, fun _ => hr, fun h => by cases h⟩
    split
    · exact h
    · split
      · exact h.set _ hs
      · exact h.set _ hs
  · exact h
theorem evF_ok {L : List Slo} (h : LOk L) (i : Int) : LOk (evF L i).2 := by
  unfold evF
  split
  · exact h.set _ SOk.zero
  · exact h
theorem flF_ok {L : List Slo} (h : LOk L) (d : Dro) : LOk (flF L d).2 := by
  intro s hs
  simp only [flF, List.mem_map] at hs
  obtain ⟨x, hx, rfl⟩ := hs
  split
  · exact SOk.zero
  · exact h x hx
end Go.Proofs.YtfdjfhhjfgdbaaaGreatDoor
