/- What is proved here: the innermost loop of the document's To, over the acts of a clause in form: it appends what tells each act. Condition: the clause is in form and lies in memory. -/
import Derived.Test.YtbknffhilfoakaaGreatG21
namespace Go.Proofs.YtbknffhilfoakaaGreat
open Go.RowKit
def jb:Code->Option Code
 | .loop c=>some c
 | .seq a b=>match jb a with
  | some c=>some c
  | none=>jb b
 | .block _ c=>jb c
 | .scope c=>jb c
 | .cond _ a b=>match jb a with
  | some c=>some c
  | none=>jb b
 | _=>none
noncomputable def rtBody3:Code:=(((Tryz.f6.body.bind jb).bind jb).bind jb).getD .skip
end Go.Proofs.YtbknffhilfoakaaGreat
