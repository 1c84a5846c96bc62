import Derived.Test.YtmmocnejacflmabDoorRi
namespace Go.Proofs.YtmmocnejacflmabDoor
open Go.RowKit
end Go.Proofs.YtmmocnejacflmabDoor
