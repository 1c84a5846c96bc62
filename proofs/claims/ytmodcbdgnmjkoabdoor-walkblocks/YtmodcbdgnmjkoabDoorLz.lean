import Derived.Test.YtmodcbdgnmjkoabDoorRz
namespace Go.Proofs.YtmodcbdgnmjkoabDoor
open Go.RowKit
set_option linter.unusedVariables false
set_option linter.unusedSimpArgs false
end Go.Proofs.YtmodcbdgnmjkoabDoor
