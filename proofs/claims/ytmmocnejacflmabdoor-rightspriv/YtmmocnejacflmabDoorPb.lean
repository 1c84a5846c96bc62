import Derived.Test.YtmmocnejacflmabDoorGz
import Derived.Test.YtmmocnejacflmabDoorLa
namespace Go.Proofs.YtmmocnejacflmabDoor
open Go.RowKit
set_option linter.unusedVariables false
set_option linter.unusedSimpArgs false
theorem i64_low (n : Int) (k : Nat) (hk : k ≤ 8) : bits BinOp.and IntKind.i64 n ((2 ^ k - 1 : Nat) : Int) = n % 2 ^ k := by
  have hp : (2 : Nat) ^ k ≤ 2 ^ 8 := Nat.pow_le_pow_right (by omega) hk
  have h0 := Nat.two_pow_pos k
  have hc : (BitVec.ofInt 64 ((2 ^ k - 1 : Nat) : Int)).toNat = 2 ^ k - 1 := by
    rw [BitVec.toNat_ofInt]
    omega
  have key : (BitVec.ofInt 64 n &&& BitVec.ofInt 64 ((2 ^ k - 1 : Nat) : Int)).toNat = (n % ((2 ^ 64 : Nat) : Int)).toNat % 2 ^ k := by
    rw [BitVec.toNat_and, BitVec.toNat_ofInt, hc, Nat.and_two_pow_sub_one_eq_mod]
  show IntKind.i64.wrap ((BitVec.ofInt 64 n &&& BitVec.ofInt 64 ((2 ^ k - 1 : Nat) : Int)).toNat : Nat) = n % 2 ^ k
  rw [key, IntKind.wrap_i64]
  rcases (show k = 0 ∨ k = 1 ∨ k = 2 ∨ k = 3 ∨ k = 4 ∨ k = 5 ∨ k = 6 ∨ k = 7 ∨ k = 8 by omega) with rfl | rfl | rfl | rfl | rfl | rfl | rfl | rfl | rfl <;> simp only [Nat.reducePow, Int.reducePow] <;> omega
theorem Bl.setP {w : World} {b : Nat} {t : TypeId} {l : List Value} (h : Bl w b t l) (j : Nat) (v : Value) : Bl (w.setCell ⟨b, j, none⟩ v) b t (l.set j v) := by
  have h1 : w.heap[b]? = some (.cells l.toArray t (0, 0)) := h
  have hb : b < w.heap.size := h.lt
  show (w.setCell ⟨b, j, none⟩ v).heap[b]? = _
  simp [World.setCell, Array.getElem?_modify, h1]
/-- The leaf's box and the translation's in a world behind. -/
structure PX (w wr : World) (b1 : Nat) (L T : List Value) : Prop where
  bel : Below w.heap.size w wr
  l : Bl wr w.heap.size 24 L
  t : Bl wr b1 35 T
theorem PX.step {w wr wn : World} {b1 : Nat} {L T : List Value} (h : PX w wr b1 L T) (hb : Below wr.heap.size wr wn) : PX w wn b1 L T := ⟨Below.step h.bel hb, h.l.below hb, h.t.below hb⟩
/-- Besides, the context's. -/
structure PC (w wr : World) (b1 b2 : Nat) (L T C : List Value) : Prop extends PX w wr b1 L T where
  c : Bl wr b2 37 C
theorem PC.step {w wr wn : World} {b1 b2 : Nat} {L T C : List Value} (h : PC w wr b1 b2 L T C) (hb : Below wr.heap.size wr wn) : PC w wn b1 b2 L T C := ⟨h.toPX.step hb, h.c.below hb⟩
/-- Besides, both faults'. -/
structure PU (w wr : World) (b1 b2 b3 b4 : Nat) (L T C U V : List Value) : Prop extends PC w wr b1 b2 L T C where
  u : Bl wr b3 39 U
  v : Bl wr b4 39 V
theorem PU.step {w wr wn : World} {b1 b2 b3 b4 : Nat} {L T C U V : List Value} (h : PU w wr b1 b2 b3 b4 L T C U V) (hb : Below wr.heap.size wr wn) : PU w wn b1 b2 b3 b4 L T C U V := ⟨h.toPC.step hb, h.u.below hb, h.v.below hb⟩
theorem PU.drew {w wr : World} {b1 b2 b3 b4 : Nat} {L T C U V : List Value} (h : PU w wr b1 b2 b3 b4 L T C U V) : PU w wr.drew b1 b2 b3 b4 L T C U V := ⟨⟨⟨below_drew h.bel, h.l.drew, h.t.drew⟩, h.c.drew⟩, h.u.drew, h.v.drew⟩
end Go.Proofs.YtmmocnejacflmabDoor
