import Derived.Test.YtmmocnejacflmabDoorGt
namespace Go.Proofs.YtmmocnejacflmabDoor
open Go.RowKit
set_option maxRecDepth 100000 in
theorem eqF (a b : Fa) (w : World) : (Op.equalIn 10000 39 (.agg #[.int .i64 a.k, .int .i64 a.l, .int .i64 a.d]) (.agg #[.int .i64 b.k, .int .i64 b.l, .int .i64 b.d])).run Tryd.prog w = .ok (a.same b) w := by
  obtain ⟨a1, a2, a3⟩ := a
  obtain ⟨b1, b2, b3⟩ := b
  go_simp
  simp only [Fa.same]
  repeat' split
  all_goals simp_all
end Go.Proofs.YtmmocnejacflmabDoor
