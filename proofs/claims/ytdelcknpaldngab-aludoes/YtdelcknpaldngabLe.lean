import Derived.Test.YtdelcknpaldngabLa
namespace Go.Proofs.Ytdelcknpaldngab
open Go.RowKit
set_option linter.unusedVariables false
set_option linter.unusedSimpArgs false
/-- Equal flags. -/
def Fl.same (a b : Fl) : Bool := a.n == b.n && (a.z == b.z && (a.c == b.c && a.v == b.v))
theorem Fl.same_self (a : Fl) : a.same a = true := by simp [Fl.same]
theorem eqFl (a b : Fl) (w : World) : (Op.equalIn 10000 28 (.agg #[.bool a.n, .bool a.z, .bool a.c, .bool a.v]) (.agg #[.bool b.n, .bool b.z, .bool b.c, .bool b.v])).run Try.prog w = .ok (a.same b) w := by
  go_simp
  simp only [Fl.same]
  repeat' split
  all_goals simp_all
end Go.Proofs.Ytdelcknpaldngab
