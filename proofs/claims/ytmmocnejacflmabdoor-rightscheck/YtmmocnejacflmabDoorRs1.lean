import Derived.Test.YtmmocnejacflmabDoorRf
namespace Go.Proofs.YtmmocnejacflmabDoor
open Go.RowKit
set_option linter.unusedVariables false
set_option linter.unusedSimpArgs false

end Go.Proofs.YtmmocnejacflmabDoor
