import Derived.Test.YtmmocnejacflmaaDoorLa
import Derived.Test.YtmmocnejacflmaaDoorGl
namespace Go.Proofs.YtmmocnejacflmaaDoor
open Go.RowKit
set_option linter.unusedVariables false
set_option linter.unusedSimpArgs false
theorem hidM {p : Prop} (h : p) : Hid p := h
/-- The two leaves' boxes, and what is wanted, in a world behind. -/
structure MX (w wr : World) (b1 b2 b3 : Nat) (L M W : List Value) : Prop where
  bel : Below w.heap.size w wr
  l : Bl wr b1 24 L
  m : Bl wr b2 24 M
  v : Bl wr b3 42 W
theorem MX.step {w wr wn : World} {b1 b2 b3 : Nat} {L M W : List Value} (h : MX w wr b1 b2 b3 L M W) (hb : Below wr.heap.size wr wn) : MX w wn b1 b2 b3 L M W := ⟨Below.step h.bel hb, h.l.below hb, h.m.below hb, h.v.below hb⟩
set_option maxRecDepth 100000 in
theorem eqZL (w : World) : (Op.equalIn 10000 24 (.agg #[.int .i64 0, .int .u32 0, .bool false, .bool false]) (.agg #[.int .i64 0, .int .u32 0, .bool false, .bool false])).run Tryd.prog w = .ok true w := by
  go_simp
end Go.Proofs.YtmmocnejacflmaaDoor
