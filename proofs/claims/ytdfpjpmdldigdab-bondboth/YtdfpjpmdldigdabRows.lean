/-
  NARROWER THAN 'FOR EVERY INPUT', by the rows' own cells (each row's printed sentence says how): OrderLaws: loops · HeapShares: loops · HeapAgain: loops · MatchBinds: loops · ReckonCloses: loops · ProcTidy: loops · WayRows: loops.
  DERIVED. THE GIVEN ROWS OF THIS SEAT. 8 by the template 'for every input the law returns true; each argument reads behind the call as it read before'; 0 by the template 'total and deterministic' (their statements: YtdfpjpmdldigdabTotals.lean).
  GIVEN WITH THE SEED: the statements are not yours to turn. If you find one false, say at which input.
  Laid BY PROGRAM, IN A SANDBOX (cutbox-rows.mjs): the forced cells as the released guide's own fill.sh prints them over the translation 259d858ca9bf7322… (all of the seat's roots in one cut). By AI agents, Wed Nov 11 2026. No macro, syntax, notation, axiom, sorry.
-/
import Derived.Test.YtdfpjpmdldigdabChecked
import GoSem.Claim
import GoSem.ClaimJoined
import GoSem.ClaimMapViews
import Derived.JoinedTies
import Derived.KernelRfl
namespace Go.Proofs.Ytdfpjpmdldigdab
/- THE CELL 'sum', in the pinned program and in every row, IS THE sha256 OF THE DUMP (.gsa) THAT YtdfpjpmdldigdabProg.lean LOADS. Nothing in Lean hashes anything: it is a label: what it is worth is what the hold of that sum in a sandbox is worth. -/
noncomputable def Try.pinned : Pinned := { name := "ytdfpjpmdldigdab", sum := "259d858ca9bf73223471ce96e61c7d62a270b6eb7d2fd26c78cb36b514c42117", checked := Try.checked }
namespace Rows
def none {H : Type} : Left H := { results := [], args := [] }

/-- 'clerkkeep.OrderLaws': WHATEVER THE INPUT: true; the input reads as it did. -/
def orderLawsSpec : ChangeSpec := { name := "orderLaws", fn := fun _ => fun
  | [d1, d2, d3] => { results := [.lit (.bool true)], args := [d1, d2, d3] }
  | _ => none }
def orderLawsRow : OpenClaim := { program := "ytdfpjpmdldigdab", sum := "259d858ca9bf73223471ce96e61c7d62a270b6eb7d2fd26c78cb36b514c42117", func := "heapmail/clerkkeep.OrderLaws", spec := "orderLaws", unfollowed := true, recurses := true, loops := true, plainKeys := false, apart := false }
def OrderLawsSaid : Prop := orderLawsRow.holds Try.pinned (OpenSpec.ofChange orderLawsSpec)

/-- ITS FALSE NEIGHBOUR: 'it returns false'. Refute it at one input. -/
def orderLawsWrong : ChangeSpec := { name := "orderLaws", fn := fun _ => fun
  | [d1, d2, d3] => { results := [.lit (.bool false)], args := [d1, d2, d3] }
  | _ => none }
def OrderLawsWrongFalsely : Prop := orderLawsRow.holds Try.pinned (OpenSpec.ofChange orderLawsWrong)

/-- 'clerkkeep.HeapShares': WHATEVER THE INPUT: true; the input reads as it did. -/
def heapSharesSpec : ChangeSpec := { name := "heapShares", fn := fun _ => fun
  | [d1, d2] => { results := [.lit (.bool true)], args := [d1, d2] }
  | _ => none }
def heapSharesRow : OpenClaim := { program := "ytdfpjpmdldigdab", sum := "259d858ca9bf73223471ce96e61c7d62a270b6eb7d2fd26c78cb36b514c42117", func := "heapmail/clerkkeep.HeapShares", spec := "heapShares", unfollowed := true, recurses := true, loops := true, plainKeys := false, apart := false }
def HeapSharesSaid : Prop := heapSharesRow.holds Try.pinned (OpenSpec.ofChange heapSharesSpec)

/-- ITS FALSE NEIGHBOUR: 'it returns false'. Refute it at one input. -/
def heapSharesWrong : ChangeSpec := { name := "heapShares", fn := fun _ => fun
  | [d1, d2] => { results := [.lit (.bool false)], args := [d1, d2] }
  | _ => none }
def HeapSharesWrongFalsely : Prop := heapSharesRow.holds Try.pinned (OpenSpec.ofChange heapSharesWrong)

/-- 'clerkkeep.HeapAgain': WHATEVER THE INPUT: true; the input reads as it did. -/
def heapAgainSpec : ChangeSpec := { name := "heapAgain", fn := fun _ => fun
  | [d1, d2] => { results := [.lit (.bool true)], args := [d1, d2] }
  | _ => none }
def heapAgainRow : OpenClaim := { program := "ytdfpjpmdldigdab", sum := "259d858ca9bf73223471ce96e61c7d62a270b6eb7d2fd26c78cb36b514c42117", func := "heapmail/clerkkeep.HeapAgain", spec := "heapAgain", unfollowed := true, recurses := true, loops := true, plainKeys := false, apart := false }
def HeapAgainSaid : Prop := heapAgainRow.holds Try.pinned (OpenSpec.ofChange heapAgainSpec)

/-- ITS FALSE NEIGHBOUR: 'it returns false'. Refute it at one input. -/
def heapAgainWrong : ChangeSpec := { name := "heapAgain", fn := fun _ => fun
  | [d1, d2] => { results := [.lit (.bool false)], args := [d1, d2] }
  | _ => none }
def HeapAgainWrongFalsely : Prop := heapAgainRow.holds Try.pinned (OpenSpec.ofChange heapAgainWrong)

/-- 'clerkkeep.MatchBinds': WHATEVER THE INPUT: true; the input reads as it did. -/
def matchBindsSpec : ChangeSpec := { name := "matchBinds", fn := fun _ => fun
  | [d1, d2, d3] => { results := [.lit (.bool true)], args := [d1, d2, d3] }
  | _ => none }
def matchBindsRow : OpenClaim := { program := "ytdfpjpmdldigdab", sum := "259d858ca9bf73223471ce96e61c7d62a270b6eb7d2fd26c78cb36b514c42117", func := "heapmail/clerkkeep.MatchBinds", spec := "matchBinds", unfollowed := true, recurses := true, loops := true, plainKeys := false, apart := false }
def MatchBindsSaid : Prop := matchBindsRow.holds Try.pinned (OpenSpec.ofChange matchBindsSpec)

/-- ITS FALSE NEIGHBOUR: 'it returns false'. Refute it at one input. -/
def matchBindsWrong : ChangeSpec := { name := "matchBinds", fn := fun _ => fun
  | [d1, d2, d3] => { results := [.lit (.bool false)], args := [d1, d2, d3] }
  | _ => none }
def MatchBindsWrongFalsely : Prop := matchBindsRow.holds Try.pinned (OpenSpec.ofChange matchBindsWrong)

/-- 'clerkkeep.ReckonCloses': WHATEVER THE INPUT: true; the input reads as it did. -/
def reckonClosesSpec : ChangeSpec := { name := "reckonCloses", fn := fun _ => fun
  | [d1, d2, d3, d4] => { results := [.lit (.bool true)], args := [d1, d2, d3, d4] }
  | _ => none }
def reckonClosesRow : OpenClaim := { program := "ytdfpjpmdldigdab", sum := "259d858ca9bf73223471ce96e61c7d62a270b6eb7d2fd26c78cb36b514c42117", func := "heapmail/clerkkeep.ReckonCloses", spec := "reckonCloses", unfollowed := true, recurses := true, loops := true, plainKeys := false, apart := false }
def ReckonClosesSaid : Prop := reckonClosesRow.holds Try.pinned (OpenSpec.ofChange reckonClosesSpec)

/-- ITS FALSE NEIGHBOUR: 'it returns false'. Refute it at one input. -/
def reckonClosesWrong : ChangeSpec := { name := "reckonCloses", fn := fun _ => fun
  | [d1, d2, d3, d4] => { results := [.lit (.bool false)], args := [d1, d2, d3, d4] }
  | _ => none }
def ReckonClosesWrongFalsely : Prop := reckonClosesRow.holds Try.pinned (OpenSpec.ofChange reckonClosesWrong)

/-- 'clerkkeep.ProcTidy': WHATEVER THE INPUT: true; the input reads as it did. -/
def procTidySpec : ChangeSpec := { name := "procTidy", fn := fun _ => fun
  | [d1, d2, d3, d4, d5, d6] => { results := [.lit (.bool true)], args := [d1, d2, d3, d4, d5, d6] }
  | _ => none }
def procTidyRow : OpenClaim := { program := "ytdfpjpmdldigdab", sum := "259d858ca9bf73223471ce96e61c7d62a270b6eb7d2fd26c78cb36b514c42117", func := "heapmail/clerkkeep.ProcTidy", spec := "procTidy", unfollowed := true, recurses := true, loops := true, plainKeys := false, apart := false }
def ProcTidySaid : Prop := procTidyRow.holds Try.pinned (OpenSpec.ofChange procTidySpec)

/-- ITS FALSE NEIGHBOUR: 'it returns false'. Refute it at one input. -/
def procTidyWrong : ChangeSpec := { name := "procTidy", fn := fun _ => fun
  | [d1, d2, d3, d4, d5, d6] => { results := [.lit (.bool false)], args := [d1, d2, d3, d4, d5, d6] }
  | _ => none }
def ProcTidyWrongFalsely : Prop := procTidyRow.holds Try.pinned (OpenSpec.ofChange procTidyWrong)

/-- 'clerkkeep.WayRows': WHATEVER THE INPUT: true; the input reads as it did. -/
def wayRowsSpec : ChangeSpec := { name := "wayRows", fn := fun _ => fun
  | [d] => { results := [.lit (.bool true)], args := [d] }
  | _ => none }
def wayRowsRow : OpenClaim := { program := "ytdfpjpmdldigdab", sum := "259d858ca9bf73223471ce96e61c7d62a270b6eb7d2fd26c78cb36b514c42117", func := "heapmail/clerkkeep.WayRows", spec := "wayRows", unfollowed := true, recurses := true, loops := true, plainKeys := false, apart := false }
def WayRowsSaid : Prop := wayRowsRow.holds Try.pinned (OpenSpec.ofChange wayRowsSpec)

/-- ITS FALSE NEIGHBOUR: 'it returns false'. Refute it at one input. -/
def wayRowsWrong : ChangeSpec := { name := "wayRows", fn := fun _ => fun
  | [d] => { results := [.lit (.bool false)], args := [d] }
  | _ => none }
def WayRowsWrongFalsely : Prop := wayRowsRow.holds Try.pinned (OpenSpec.ofChange wayRowsWrong)

/-- 'clerkkeep.BondBoth': WHATEVER THE INPUT: true; the input reads as it did. -/
def bondBothSpec : ChangeSpec := { name := "bondBoth", fn := fun _ => fun
  | [d1, d2] => { results := [.lit (.bool true)], args := [d1, d2] }
  | _ => none }
def bondBothRow : OpenClaim := { program := "ytdfpjpmdldigdab", sum := "259d858ca9bf73223471ce96e61c7d62a270b6eb7d2fd26c78cb36b514c42117", func := "heapmail/clerkkeep.BondBoth", spec := "bondBoth", unfollowed := true, recurses := true, plainKeys := false, apart := false }
def BondBothSaid : Prop := bondBothRow.holds Try.pinned (OpenSpec.ofChange bondBothSpec)

/-- ITS FALSE NEIGHBOUR: 'it returns false'. Refute it at one input. -/
def bondBothWrong : ChangeSpec := { name := "bondBoth", fn := fun _ => fun
  | [d1, d2] => { results := [.lit (.bool false)], args := [d1, d2] }
  | _ => none }
def BondBothWrongFalsely : Prop := bondBothRow.holds Try.pinned (OpenSpec.ofChange bondBothWrong)

/- THE SECOND FORM. 'bulk': how many values and letters a reading holds, each counted each time it is reached (what is shared counts as often as it is met; a slice's spare places count too). A statement '..UptoSaid' is the law's where the arguments, and the package variables that the reading takes, are together of bulk at most 1048576: NARROWER than '..Said'. Prove '..Said' where nothing that the law and all that it calls make is longer than what came in: it says more and counts as full. Else prove '..UptoSaid'. A law counts once. -/
mutual
def uptoBulk {H : Type} : DataW H → Nat
  | .lit (.string bytes) => bytes.length + 1
  | .lit _ => 1
  | .nil => 1
  | .ptr d => uptoBulk d + 1
  | .slice elems spare => uptoBulkAll elems + uptoBulkAll spare + 1
  | .agg parts => uptoBulkAll parts + 1
  | .iface _ d => uptoBulk d + 1
  | .map entries => uptoBulkEntries entries + 1
  | .held _ => 1
def uptoBulkAll {H : Type} : List (DataW H) → Nat
  | [] => 0
  | d :: r => uptoBulk d + uptoBulkAll r
def uptoBulkEntries {H : Type} : List (Lit × DataW H) → Nat
  | [] => 0
  | x :: r => uptoBulkEntry x + uptoBulkEntries r
def uptoBulkEntry {H : Type} : Lit × DataW H → Nat
  | (.string bytes, d) => bytes.length + uptoBulk d + 1
  | (_, d) => uptoBulk d + 1
 end
def uptoSmall : (H : Type) → List (DataW H) → Bool := fun _ ds => decide (uptoBulkAll ds ≤ 1048576)
def OpenSpec.upto (s : _root_.Go.ChangeSpec) : _root_.Go.OpenSpec := { _root_.Go.OpenSpec.ofChange s with cond := some uptoSmall }

/-- 'clerkkeep.OrderLaws', WHERE WHAT IT READS IS OF BULK AT MOST 1048576: true; the input reads as it did. -/
def orderLawsUptoRow : OpenClaim := { program := "ytdfpjpmdldigdab", sum := "259d858ca9bf73223471ce96e61c7d62a270b6eb7d2fd26c78cb36b514c42117", func := "heapmail/clerkkeep.OrderLaws", spec := "orderLaws", unfollowed := true, recurses := true, loops := true, plainKeys := false, apart := false, narrowed := true }
def OrderLawsUptoSaid : Prop := orderLawsUptoRow.holds Try.pinned (OpenSpec.upto orderLawsSpec)

/-- 'clerkkeep.HeapShares', WHERE WHAT IT READS IS OF BULK AT MOST 1048576: true; the input reads as it did. -/
def heapSharesUptoRow : OpenClaim := { program := "ytdfpjpmdldigdab", sum := "259d858ca9bf73223471ce96e61c7d62a270b6eb7d2fd26c78cb36b514c42117", func := "heapmail/clerkkeep.HeapShares", spec := "heapShares", unfollowed := true, recurses := true, loops := true, plainKeys := false, apart := false, narrowed := true }
def HeapSharesUptoSaid : Prop := heapSharesUptoRow.holds Try.pinned (OpenSpec.upto heapSharesSpec)

/-- 'clerkkeep.HeapAgain', WHERE WHAT IT READS IS OF BULK AT MOST 1048576: true; the input reads as it did. -/
def heapAgainUptoRow : OpenClaim := { program := "ytdfpjpmdldigdab", sum := "259d858ca9bf73223471ce96e61c7d62a270b6eb7d2fd26c78cb36b514c42117", func := "heapmail/clerkkeep.HeapAgain", spec := "heapAgain", unfollowed := true, recurses := true, loops := true, plainKeys := false, apart := false, narrowed := true }
def HeapAgainUptoSaid : Prop := heapAgainUptoRow.holds Try.pinned (OpenSpec.upto heapAgainSpec)

/-- 'clerkkeep.MatchBinds', WHERE WHAT IT READS IS OF BULK AT MOST 1048576: true; the input reads as it did. -/
def matchBindsUptoRow : OpenClaim := { program := "ytdfpjpmdldigdab", sum := "259d858ca9bf73223471ce96e61c7d62a270b6eb7d2fd26c78cb36b514c42117", func := "heapmail/clerkkeep.MatchBinds", spec := "matchBinds", unfollowed := true, recurses := true, loops := true, plainKeys := false, apart := false, narrowed := true }
def MatchBindsUptoSaid : Prop := matchBindsUptoRow.holds Try.pinned (OpenSpec.upto matchBindsSpec)

/-- 'clerkkeep.ReckonCloses', WHERE WHAT IT READS IS OF BULK AT MOST 1048576: true; the input reads as it did. -/
def reckonClosesUptoRow : OpenClaim := { program := "ytdfpjpmdldigdab", sum := "259d858ca9bf73223471ce96e61c7d62a270b6eb7d2fd26c78cb36b514c42117", func := "heapmail/clerkkeep.ReckonCloses", spec := "reckonCloses", unfollowed := true, recurses := true, loops := true, plainKeys := false, apart := false, narrowed := true }
def ReckonClosesUptoSaid : Prop := reckonClosesUptoRow.holds Try.pinned (OpenSpec.upto reckonClosesSpec)

/-- 'clerkkeep.ProcTidy', WHERE WHAT IT READS IS OF BULK AT MOST 1048576: true; the input reads as it did. -/
def procTidyUptoRow : OpenClaim := { program := "ytdfpjpmdldigdab", sum := "259d858ca9bf73223471ce96e61c7d62a270b6eb7d2fd26c78cb36b514c42117", func := "heapmail/clerkkeep.ProcTidy", spec := "procTidy", unfollowed := true, recurses := true, loops := true, plainKeys := false, apart := false, narrowed := true }
def ProcTidyUptoSaid : Prop := procTidyUptoRow.holds Try.pinned (OpenSpec.upto procTidySpec)

/-- 'clerkkeep.WayRows', WHERE WHAT IT READS IS OF BULK AT MOST 1048576: true; the input reads as it did. -/
def wayRowsUptoRow : OpenClaim := { program := "ytdfpjpmdldigdab", sum := "259d858ca9bf73223471ce96e61c7d62a270b6eb7d2fd26c78cb36b514c42117", func := "heapmail/clerkkeep.WayRows", spec := "wayRows", unfollowed := true, recurses := true, loops := true, plainKeys := false, apart := false, narrowed := true }
def WayRowsUptoSaid : Prop := wayRowsUptoRow.holds Try.pinned (OpenSpec.upto wayRowsSpec)

/-- 'clerkkeep.BondBoth', WHERE WHAT IT READS IS OF BULK AT MOST 1048576: true; the input reads as it did. -/
def bondBothUptoRow : OpenClaim := { program := "ytdfpjpmdldigdab", sum := "259d858ca9bf73223471ce96e61c7d62a270b6eb7d2fd26c78cb36b514c42117", func := "heapmail/clerkkeep.BondBoth", spec := "bondBoth", unfollowed := true, recurses := true, plainKeys := false, apart := false, narrowed := true }
def BondBothUptoSaid : Prop := bondBothUptoRow.holds Try.pinned (OpenSpec.upto bondBothSpec)

end Rows
end Go.Proofs.Ytdfpjpmdldigdab
