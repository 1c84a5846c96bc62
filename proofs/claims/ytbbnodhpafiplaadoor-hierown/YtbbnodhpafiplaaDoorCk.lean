import Derived.Test.YtbbnodhpafiplaaDoorCf
namespace Go.Proofs.YtbbnodhpafiplaaDoor
open Go.RowKit
set_option linter.unusedVariables false
set_option linter.unusedSimpArgs false
/-- Takes: the boxes of the dropping and of the block. -/
structure KX (W wr : World) (A B : Nat) (d : Dro) (b : Blo) : Prop where
  bel : Below W.heap.size W wr
  bd : Bl wr A 42 ([.int .i64 d.kind, .int .u32 d.va, .int .i64 d.asid])
  bb : Bl wr B 38 ([.int .i64 b.asid, .int .i64 b.t.size, .int .u32 b.t.va, .int .u64 b.t.pa, .int .i64 b.t.dom, .int .i64 b.t.ap, .int .u32 b.t.bits, .bool b.t.ng, .bool b.t.xn])
theorem KX.step {W wr w' : World} {A B : Nat} {d : Dro} {b : Blo} (h : KX W wr A B d b) (hb : Below wr.heap.size wr w') : KX W w' A B d b := ⟨Below.step h.bel hb, h.bd.below hb, h.bb.below hb⟩
theorem KX.drew {W wr : World} {A B : Nat} {d : Dro} {b : Blo} (h : KX W wr A B d b) : KX W wr.drew A B d b := ⟨below_drew h.bel, h.bd, h.bb⟩
theorem KX.start (W : World) (d : Dro) (b : Blo) : KX W ((W.alloc (.cells ([.int .i64 d.kind, .int .u32 d.va, .int .i64 d.asid]).toArray 42)).alloc (.cells ([.int .i64 b.asid, .int .i64 b.t.size, .int .u32 b.t.va, .int .u64 b.t.pa, .int .i64 b.t.dom, .int .i64 b.t.ap, .int .u32 b.t.bits, .bool b.t.ng, .bool b.t.xn]).toArray 38)) W.heap.size (W.heap.size + 1) d b := by
  have h1 := below_new W (.cells ([.int .i64 d.kind, .int .u32 d.va, .int .i64 d.asid]).toArray 42)
  have h2 := below_new (W.alloc (.cells ([.int .i64 d.kind, .int .u32 d.va, .int .i64 d.asid]).toArray 42)) (.cells ([.int .i64 b.asid, .int .i64 b.t.size, .int .u32 b.t.va, .int .u64 b.t.pa, .int .i64 b.t.dom, .int .i64 b.t.ap, .int .u32 b.t.bits, .bool b.t.ng, .bool b.t.xn]).toArray 38)
  have h3 := Bl.new (W.alloc (.cells ([.int .i64 d.kind, .int .u32 d.va, .int .i64 d.asid]).toArray 42)) 38 ([.int .i64 b.asid, .int .i64 b.t.size, .int .u32 b.t.va, .int .u64 b.t.pa, .int .i64 b.t.dom, .int .i64 b.t.ap, .int .u32 b.t.bits, .bool b.t.ng, .bool b.t.xn])
  rw [show (W.alloc (.cells ([.int .i64 d.kind, .int .u32 d.va, .int .i64 d.asid]).toArray 42)).heap.size = W.heap.size + 1 by simp] at h3
  exact ⟨Below.step h1 h2, (Bl.new _ _ _).below h2, h3⟩
end Go.Proofs.YtbbnodhpafiplaaDoor
