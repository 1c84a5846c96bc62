import Derived.Test.YtplobjdghaokoabLx
namespace Go.Proofs.Ytplobjdghaokoab
open Go.RowKit
set_option linter.unusedVariables false

structure Op4 where
  kind : Int
  first : Int
  n : Int
  align : Int
  which : Int
def i64 (x : Int) : Prop := -9223372036854775808 ≤ x ∧ x ≤ 9223372036854775807
def Op4.ok (o : Op4) : Prop := i64 o.kind ∧ i64 o.first ∧ i64 o.n ∧ i64 o.align ∧ i64 o.which
def Op4.val (o : Op4) : Value := .agg #[.int .i64 o.kind, .int .i64 o.first, .int .i64 o.n, .int .i64 o.align, .int .i64 o.which]
end Go.Proofs.Ytplobjdghaokoab
