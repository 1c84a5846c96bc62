import Derived.Test.YtfbapflbjkmocaaDoorLh
namespace Go.Proofs.YtfbapflbjkmocaaDoor
open Go.RowKit
set_option linter.unusedVariables false
set_option linter.unusedSimpArgs false
/-- A TLB of one's own, its places ahead and behind, the call. -/
structure KZ (W wr : World) (p g a b c : Nat) (L M : List Slo) (o : Opr) : Prop where
  lv : LV W wr p g M
  ra : Bl wr a 49 (rowS L)
  rb : Bl wr b 49 (rowS M)
  box : Bl wr c 45 ([.int .i64 o.kind, .int .u32 o.va, .int .i64 o.n, .int .i64 o.b.asid, .int .i64 o.b.t.size, .int .u32 o.b.t.va, .int .u64 o.b.t.pa, .int .i64 o.b.t.dom, .int .i64 o.b.t.ap, .int .u32 o.b.t.bits, .bool o.b.t.ng, .bool o.b.t.xn, .int .i64 o.d.kind, .int .u32 o.d.va, .int .i64 o.d.asid])
section
variable {W wr w' : World} {p g a b c : Nat} {L M : List Slo} {o : Opr}
theorem KZ.step (h : KZ W wr p g a b c L M o) (hb : Below wr.heap.size wr w') : KZ W w' p g a b c L M o := ⟨h.lv.step hb, h.ra.below hb, h.rb.below hb, h.box.below hb⟩
theorem KZ.drewN (h : KZ W wr p g a b c L M o) (q : Nat) : KZ W (wr.drewN q) p g a b c L M o := h.step (below_drewN (Below.refl _ _) q)
theorem KZ.drew (h : KZ W wr p g a b c L M o) : KZ W wr.drew p g a b c L M o := h.step (below_drew (Below.refl _ _))
end
/-- Pieces of a code. -/
def sq2 : Code → Code
  | .seq _ y => y
  | c => c
def sq1 : Code → Code
  | .seq x _ => x
  | c => c
def blkC : Code → Code
  | .block _ c => c
  | c => c
def lpC : Code → Code
  | .loop c => c
  | c => c
/-- The body of the inner loop. -/
def inB (f : Func) : Code := lpC (blkC (sq2 (sq1 (sq2 (sq2 (sq2 (sq2 (sq2 (sq2 (blkC (sq1 (sq2 (lpC (blkC (sq2 (sq1 (sq2 (sq2 (sq2 (f.body.getD .skip))))))))))))))))))))
end Go.Proofs.YtfbapflbjkmocaaDoor
