import Derived.Test.YtlfgnbjioofplabT0
import Derived.Test.YtlfgnbjioofplabT1
import Derived.Test.YtlfgnbjioofplabT2
import Derived.Test.YtlfgnbjioofplabT3
import Derived.Test.YtlfgnbjioofplabT4
import Derived.Test.YtlfgnbjioofplabT5
import Derived.Test.YtlfgnbjioofplabT6
import Derived.Test.YtlfgnbjioofplabT7
import Derived.Test.YtlfgnbjioofplabT8
import Derived.Test.YtlfgnbjioofplabT9
import Derived.Test.YtlfgnbjioofplabT10
import Derived.Test.YtlfgnbjioofplabT11
namespace Go.Proofs.Ytlfgnbjioofplab
open Go.RowKit
set_option linter.unusedVariables false

theorem step_any (W0 w : World) (B tb : Nat) (s : St) (o : Op3) {zs : List (Nat × TypeId × List Value)} (hK : KS W0 w B tb s zs) (hB : B ≤ w.heap.size) (hg : s.good) (ho : o.ok W0 B) :
    Calls Try.prog 5 #[.pointer (some ⟨tb, 0, none⟩), .agg #[.int .i64 o.kind, .int .i64 o.who, .int .i64 o.n, .int .u64 o.pa, .int .u32 o.v, .slice o.a o.bs.length o.cap]] w fun e w' => e = .returned (.bool true) ∧ ∃ s', KS W0 w' B tb s' zs ∧ s'.good ∧ w.heap.size ≤ w'.heap.size := by
  by_cases h1 : o.kind = 1
  · exact step1 W0 w B tb s o hK hB hg ho h1
  by_cases h2 : o.kind = 2
  · exact step2 W0 w B tb s o hK hB hg ho h2
  by_cases h3 : o.kind = 3
  · exact step3 W0 w B tb s o hK hB hg ho h3
  by_cases h4 : o.kind = 4
  · exact step4 W0 w B tb s o hK hB hg ho h4
  by_cases h5 : o.kind = 5
  · exact step5 W0 w B tb s o hK hB hg ho h5
  by_cases h6 : o.kind = 6
  · exact step6 W0 w B tb s o hK hB hg ho h6
  by_cases h7 : o.kind = 7
  · exact step7 W0 w B tb s o hK hB hg ho h7
  by_cases h8 : o.kind = 8
  · exact step8 W0 w B tb s o hK hB hg ho h8
  by_cases h9 : o.kind = 9
  · exact step9 W0 w B tb s o hK hB hg ho h9
  by_cases h10 : o.kind = 10
  · exact step10 W0 w B tb s o hK hB hg ho h10
  by_cases h11 : o.kind = 11
  · exact step11 W0 w B tb s o hK hB hg ho h11
  · exact step0 W0 w B tb s o hK hB hg ho (fun k k1 k2 e => by omega)
end Go.Proofs.Ytlfgnbjioofplab
