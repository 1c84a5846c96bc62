import Derived.Test.YtmmocnejacflmaaDoorM000
import Derived.Test.YtmmocnejacflmaaDoorM001
import Derived.Test.YtmmocnejacflmaaDoorM010
import Derived.Test.YtmmocnejacflmaaDoorM011
import Derived.Test.YtmmocnejacflmaaDoorM100
import Derived.Test.YtmmocnejacflmaaDoorM101
import Derived.Test.YtmmocnejacflmaaDoorM110
import Derived.Test.YtmmocnejacflmaaDoorM111
namespace Go.Proofs.YtmmocnejacflmaaDoor
open Go.RowKit
set_option linter.unusedVariables false
set_option linter.unusedSimpArgs false
theorem law_more (a b c d e f : Bool) (w : World) (hT : TA w) : Calls Tryd.prog 6 #[.agg #[.bool a, .bool b, .bool c], .agg #[.bool d, .bool e, .bool f]] w fun e w' => e = .returned (.bool true) ∧ Below w.heap.size w w' := by
  cases a <;> cases b <;> cases c <;> cases d <;> cases e <;> cases f
  · exact more_000_000 w hT
  · exact more_000_001 w hT
  · exact more_000_010 w hT
  · exact more_000_011 w hT
  · exact more_000_100 w hT
  · exact more_000_101 w hT
  · exact more_000_110 w hT
  · exact more_000_111 w hT
  · exact more_001_000 w hT
  · exact more_001_001 w hT
  · exact more_001_010 w hT
  · exact more_001_011 w hT
  · exact more_001_100 w hT
  · exact more_001_101 w hT
  · exact more_001_110 w hT
  · exact more_001_111 w hT
  · exact more_010_000 w hT
  · exact more_010_001 w hT
  · exact more_010_010 w hT
  · exact more_010_011 w hT
  · exact more_010_100 w hT
  · exact more_010_101 w hT
  · exact more_010_110 w hT
  · exact more_010_111 w hT
  · exact more_011_000 w hT
  · exact more_011_001 w hT
  · exact more_011_010 w hT
  · exact more_011_011 w hT
  · exact more_011_100 w hT
  · exact more_011_101 w hT
  · exact more_011_110 w hT
  · exact more_011_111 w hT
  · exact more_100_000 w hT
  · exact more_100_001 w hT
  · exact more_100_010 w hT
  · exact more_100_011 w hT
  · exact more_100_100 w hT
  · exact more_100_101 w hT
  · exact more_100_110 w hT
  · exact more_100_111 w hT
  · exact more_101_000 w hT
  · exact more_101_001 w hT
  · exact more_101_010 w hT
  · exact more_101_011 w hT
  · exact more_101_100 w hT
  · exact more_101_101 w hT
  · exact more_101_110 w hT
  · exact more_101_111 w hT
  · exact more_110_000 w hT
  · exact more_110_001 w hT
  · exact more_110_010 w hT
  · exact more_110_011 w hT
  · exact more_110_100 w hT
  · exact more_110_101 w hT
  · exact more_110_110 w hT
  · exact more_110_111 w hT
  · exact more_111_000 w hT
  · exact more_111_001 w hT
  · exact more_111_010 w hT
  · exact more_111_011 w hT
  · exact more_111_100 w hT
  · exact more_111_101 w hT
  · exact more_111_110 w hT
  · exact more_111_111 w hT
end Go.Proofs.YtmmocnejacflmaaDoor
