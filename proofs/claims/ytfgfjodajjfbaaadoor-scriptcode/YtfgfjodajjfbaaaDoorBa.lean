import Derived.Test.YtfgfjodajjfbaaaDoorNa
import Derived.Deep.RegionHeld3
import Derived.Deep.MidRow
import Derived.Handy
namespace Go.Proofs.YtfgfjodajjfbaaaDoor
open Go.RowKit
set_option linter.unusedVariables false

theorem below_drew {B : Nat} {a w : World} (h : Below B a w) : Below B a w.drew := ⟨h.os, h.tape, h.output, h.size, h.block⟩
theorem below_new (w : World) (o : Obj) : Below w.heap.size w (w.alloc o) := (Below.refl _ _).alloc (Nat.le_refl _) o
theorem Below.one {w w' : World} {o : Obj} (h : Below (w.alloc o).heap.size (w.alloc o) w') : Below w.heap.size w w' :=
  ((Below.refl _ _).alloc (Nat.le_refl _) o).trans (h.mono (by simp))
theorem Below.step {w w1 w2 : World} (h1 : Below w.heap.size w w1) (h2 : Below w1.heap.size w1 w2) : Below w.heap.size w w2 := h1.trans (h2.mono h1.size)
theorem cell_lt {w : World} {p : Addr} {v : Value} (h : w.cell? p = some v) : p.block < w.heap.size := by
  cases hb : w.heap[p.block]? with
  | none => simp [World.cell?, hb] at h
  | some o => exact (Array.getElem?_eq_some_iff.1 hb).1
/-- What has turned lies in S, or is new. -/
structure Turn (S : Nat → Prop) (w w' : World) : Prop where
  os : w'.os = w.os
  tape : w'.tape = w.tape
  output : w'.output = w.output
  size : w.heap.size ≤ w'.heap.size
  block : ∀ k, k < w.heap.size → ¬ S k → w'.heap[k]? = w.heap[k]?
theorem Turn.refl (S : Nat → Prop) (w : World) : Turn S w w := ⟨rfl, rfl, rfl, Nat.le_refl _, fun _ _ _ => rfl⟩
theorem Turn.trans {S S' : Nat → Prop} {a b c : World} (h : Turn S a b) (k : Turn S' b c) (hS : ∀ x, S' x → S x ∨ a.heap.size ≤ x) : Turn S a c :=
  ⟨k.os.trans h.os, k.tape.trans h.tape, k.output.trans h.output, Nat.le_trans h.size k.size, fun i hi hn =>
    (k.block i (Nat.lt_of_lt_of_le hi h.size) (fun hs => by rcases hS i hs with h1 | h1; exact hn h1; omega)).trans (h.block i hi hn)⟩
theorem Turn.then {S : Nat → Prop} {a b c : World} (h : Turn S a b) (k : Turn S b c) : Turn S a c := h.trans k (fun _ hx => .inl hx)
theorem Turn.below {S : Nat → Prop} {a b : World} (h : Below a.heap.size a b) : Turn S a b := ⟨h.os, h.tape, h.output, h.size, fun i hi _ => h.block i hi⟩
theorem Turn.to {S : Nat → Prop} {a b : World} {B : Nat} (h : Turn S a b) (hS : ∀ x, S x → B ≤ x) (hB : B ≤ a.heap.size) : Below B a b :=
  ⟨h.os, h.tape, h.output, h.size, fun i hi => h.block i (by omega) (fun hs => by have := hS i hs; omega)⟩
theorem Turn.alloc {S : Nat → Prop} {a b : World} (h : Turn S a b) (o : Obj) : Turn S a (b.alloc o) :=
  h.trans (S' := fun _ => False) ⟨rfl, rfl, rfl, by simp, fun i hi _ => Below.heap_alloc _ _ _ hi⟩ (fun _ h => h.elim)
theorem Turn.setCell {S : Nat → Prop} {a b : World} (h : Turn S a b) {p : Addr} (hp : S p.block ∨ a.heap.size ≤ p.block) (u : Value) : Turn S a (b.setCell p u) :=
  h.trans (S' := fun x => x = p.block) ⟨rfl, rfl, rfl, by simp [World.setCell], fun i hi hn => Below.heap_setCell _ _ _ _ hn⟩ (fun x hx => by subst hx; exact hp)
theorem Turn.drewN {S : Nat → Prop} {a b : World} (h : Turn S a b) (n : Nat) : Turn S a (b.drewN n) := ⟨h.os, h.tape, h.output, h.size, h.block⟩
theorem Turn.drew {S : Nat → Prop} {a b : World} (h : Turn S a b) : Turn S a b.drew := ⟨h.os, h.tape, h.output, h.size, h.block⟩
/-- A block of cells. -/
def Bl (w : World) (b : Nat) (t : TypeId) (l : List Value) : Prop := w.heap[b]? = some (.cells l.toArray t (0, 0))
theorem Bl.new (w : World) (t : TypeId) (l : List Value) : Bl (w.alloc (.cells l.toArray t)) w.heap.size t l := heap_alloc_new w (.cells l.toArray t)
theorem Bl.lt {w : World} {b : Nat} {t : TypeId} {l : List Value} (h : Bl w b t l) : b < w.heap.size := (Array.getElem?_eq_some_iff.1 h).1
theorem Bl.below {w w' : World} {b : Nat} {t : TypeId} {l : List Value} (h : Bl w b t l) (hb : Below w.heap.size w w') : Bl w' b t l := (hb.block b h.lt).trans h
theorem Bl.turn {S : Nat → Prop} {w w' : World} {b : Nat} {t : TypeId} {l : List Value} (h : Bl w b t l) (hb : Turn S w w') (hn : ¬ S b) : Bl w' b t l := (hb.block b h.lt hn).trans h
theorem Bl.drew {w : World} {b : Nat} {t : TypeId} {l : List Value} (h : Bl w b t l) : Bl w.drew b t l := h
theorem Bl.drewN {w : World} {b : Nat} {t : TypeId} {l : List Value} (h : Bl w b t l) (q : Nat) : Bl (w.drewN q) b t l := h
theorem Bl.cell {w : World} {b : Nat} {t : TypeId} {l : List Value} (h : Bl w b t l) (j : Nat) : w.cell? ⟨b, j, none⟩ = l[j]? := by
  rw [World.cell?, show w.heap[b]? = _ from h]
  simp
theorem Bl.frozen {w : World} {b : Nat} {t : TypeId} {l : List Value} (h : Bl w b t l) (j : Nat) : w.frozen? ⟨b, j, none⟩ = false := by
  simp [World.frozen?, show w.heap[b]? = _ from h]
theorem Bl.range {w : World} {b : Nat} {t : TypeId} {l : List Value} (h : Bl w b t l) : w.rangeAt b 0 l := fun j v hv => by rw [Nat.zero_add, h.cell, hv]
theorem Bl.set {w : World} {b : Nat} {t : TypeId} {l : List Value} (h : Bl w b t l) (j : Nat) (v : Value) : Bl (w.setCell ⟨b, j, none⟩ v) b t (l.set j v) := by
  show (w.heap.modify b _)[b]? = _
  rw [Array.getElem?_modify, if_pos rfl, show w.heap[b]? = _ from h]
  simp
theorem Bl.setO {w : World} {b k : Nat} {t : TypeId} {l : List Value} (h : Bl w b t l) (hk : b ≠ k) (j : Nat) (v : Value) : Bl (w.setCell ⟨k, j, none⟩ v) b t l := by
  show (w.heap.modify k _)[b]? = _
  rw [Array.getElem?_modify, if_neg (Ne.symm hk)]
  exact h
theorem Bl.ty {w : World} {g : Nat} {e e' : TypeId} {c c' : List Value} (h : Bl w g e c) (h' : Bl w g e' c') : e = e' := by
  have h1 : w.heap[g]? = _ := h
  rw [show w.heap[g]? = _ from h'] at h1
  injection h1 with h1
  injection h1 with _ h2 _
  exact h2.symm
theorem Bl.ne {w : World} {g k : Nat} {e e' : TypeId} {c c' : List Value} (h : Bl w g e c) (h' : Bl w k e' c') (hne : e ≠ e') : g ≠ k := fun e => hne (by subst e; exact h.ty h')
end Go.Proofs.YtfgfjodajjfbaaaDoor
