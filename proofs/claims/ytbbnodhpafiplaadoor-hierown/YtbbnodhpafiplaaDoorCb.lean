import Derived.Test.YtbbnodhpafiplaaDoorCa
namespace Go.Proofs.YtbbnodhpafiplaaDoor
open Go.RowKit
set_option linter.unusedVariables false
set_option linter.unusedSimpArgs false
/-- What is new, and a TLB. -/
structure NX (T : TypeId) (W wr : World) (p g : Nat) (L : List Slo) : Prop where
  bel : Below W.heap.size W wr
  pt : PT T wr p g L
section
variable {T : TypeId} {W wr w' : World} {p g : Nat} {L : List Slo}
theorem NX.step (h : NX T W wr p g L) (hb : Below wr.heap.size wr w') : NX T W w' p g L := ⟨Below.step h.bel hb, h.pt.below hb⟩
theorem NX.alloc (h : NX T W wr p g L) (o : Obj) : NX T W (wr.alloc o) p g L := h.step (below_new _ _)
theorem NX.drewN (h : NX T W wr p g L) (q : Nat) : NX T W (wr.drewN q) p g L := ⟨below_drewN h.bel q, h.pt.drewN q⟩
theorem NX.start (h : PT T W p g L) : NX T W W p g L := ⟨Below.refl _ _, h⟩
end
end Go.Proofs.YtbbnodhpafiplaaDoor
