/-
  NARROWER THAN 'FOR EVERY INPUT', by the rows' own cells (each row's printed sentence says how): TermOrders: loops · HeapPlays: loops · MatchSays: loops · ReckonSays: loops · CodeSays: loops · WayPlays: loops.
  DERIVED. THE GIVEN ROWS OF THIS SEAT. 8 by the template 'for every input the law returns true; each argument reads behind the call as it read before'; 0 by the template 'total and deterministic' (their statements: YtdfpjpmdldigdaaTotals.lean).
  GIVEN WITH THE SEED: the statements are not yours to turn. If you find one false, say at which input.
  Laid BY PROGRAM, IN A SANDBOX (cutbox-rows.mjs): the forced cells as the released guide's own fill.sh prints them over the translation 36e13b58f0f18b93… (all of the seat's roots in one cut). By AI agents, Wed Nov 11 2026. No macro, syntax, notation, axiom, sorry.
-/
import Derived.Test.YtdfpjpmdldigdaaChecked
import GoSem.Claim
import GoSem.ClaimJoined
import GoSem.ClaimMapViews
import Derived.JoinedTies
import Derived.KernelRfl
namespace Go.Proofs.Ytdfpjpmdldigdaa
/- THE CELL 'sum', in the pinned program and in every row, IS THE sha256 OF THE DUMP (.gsa) THAT YtdfpjpmdldigdaaProg.lean LOADS. Nothing in Lean hashes anything: it is a label: what it is worth is what the hold of that sum in a sandbox is worth. -/
noncomputable def Try.pinned : Pinned := { name := "ytdfpjpmdldigdaa", sum := "36e13b58f0f18b9310fd6e693d79bda8215267eeaa7a7c0a6b4ec6f8039fb3c4", checked := Try.checked }
namespace Rows
def none {H : Type} : Left H := { results := [], args := [] }

/-- 'clerklaw.TermOrders': WHATEVER THE INPUT: true; the input reads as it did. -/
def termOrdersSpec : ChangeSpec := { name := "termOrders", fn := fun _ => fun
  | [d1, d2] => { results := [.lit (.bool true)], args := [d1, d2] }
  | _ => none }
def termOrdersRow : OpenClaim := { program := "ytdfpjpmdldigdaa", sum := "36e13b58f0f18b9310fd6e693d79bda8215267eeaa7a7c0a6b4ec6f8039fb3c4", func := "heapmail/clerklaw.TermOrders", spec := "termOrders", unfollowed := true, recurses := true, loops := true, plainKeys := false, apart := false }
def TermOrdersSaid : Prop := termOrdersRow.holds Try.pinned (OpenSpec.ofChange termOrdersSpec)

/-- ITS FALSE NEIGHBOUR: 'it returns false'. Refute it at one input. -/
def termOrdersWrong : ChangeSpec := { name := "termOrders", fn := fun _ => fun
  | [d1, d2] => { results := [.lit (.bool false)], args := [d1, d2] }
  | _ => none }
def TermOrdersWrongFalsely : Prop := termOrdersRow.holds Try.pinned (OpenSpec.ofChange termOrdersWrong)

/-- 'clerklaw.TermReads': WHATEVER THE INPUT: true; the input reads as it did. -/
def termReadsSpec : ChangeSpec := { name := "termReads", fn := fun _ => fun
  | [d] => { results := [.lit (.bool true)], args := [d] }
  | _ => none }
def termReadsRow : OpenClaim := { program := "ytdfpjpmdldigdaa", sum := "36e13b58f0f18b9310fd6e693d79bda8215267eeaa7a7c0a6b4ec6f8039fb3c4", func := "heapmail/clerklaw.TermReads", spec := "termReads", unfollowed := true, recurses := true, plainKeys := false, apart := false }
def TermReadsSaid : Prop := termReadsRow.holds Try.pinned (OpenSpec.ofChange termReadsSpec)

/-- ITS FALSE NEIGHBOUR: 'it returns false'. Refute it at one input. -/
def termReadsWrong : ChangeSpec := { name := "termReads", fn := fun _ => fun
  | [d] => { results := [.lit (.bool false)], args := [d] }
  | _ => none }
def TermReadsWrongFalsely : Prop := termReadsRow.holds Try.pinned (OpenSpec.ofChange termReadsWrong)

/-- 'clerklaw.HeapPlays': WHATEVER THE INPUT: true; the input reads as it did. -/
def heapPlaysSpec : ChangeSpec := { name := "heapPlays", fn := fun _ => fun
  | [d1, d2] => { results := [.lit (.bool true)], args := [d1, d2] }
  | _ => none }
def heapPlaysRow : OpenClaim := { program := "ytdfpjpmdldigdaa", sum := "36e13b58f0f18b9310fd6e693d79bda8215267eeaa7a7c0a6b4ec6f8039fb3c4", func := "heapmail/clerklaw.HeapPlays", spec := "heapPlays", unfollowed := true, recurses := true, loops := true, plainKeys := false, apart := false }
def HeapPlaysSaid : Prop := heapPlaysRow.holds Try.pinned (OpenSpec.ofChange heapPlaysSpec)

/-- ITS FALSE NEIGHBOUR: 'it returns false'. Refute it at one input. -/
def heapPlaysWrong : ChangeSpec := { name := "heapPlays", fn := fun _ => fun
  | [d1, d2] => { results := [.lit (.bool false)], args := [d1, d2] }
  | _ => none }
def HeapPlaysWrongFalsely : Prop := heapPlaysRow.holds Try.pinned (OpenSpec.ofChange heapPlaysWrong)

/-- 'clerklaw.MatchSays': WHATEVER THE INPUT: true; the input reads as it did. -/
def matchSaysSpec : ChangeSpec := { name := "matchSays", fn := fun _ => fun
  | [d1, d2, d3] => { results := [.lit (.bool true)], args := [d1, d2, d3] }
  | _ => none }
def matchSaysRow : OpenClaim := { program := "ytdfpjpmdldigdaa", sum := "36e13b58f0f18b9310fd6e693d79bda8215267eeaa7a7c0a6b4ec6f8039fb3c4", func := "heapmail/clerklaw.MatchSays", spec := "matchSays", unfollowed := true, recurses := true, loops := true, plainKeys := false, apart := false }
def MatchSaysSaid : Prop := matchSaysRow.holds Try.pinned (OpenSpec.ofChange matchSaysSpec)

/-- ITS FALSE NEIGHBOUR: 'it returns false'. Refute it at one input. -/
def matchSaysWrong : ChangeSpec := { name := "matchSays", fn := fun _ => fun
  | [d1, d2, d3] => { results := [.lit (.bool false)], args := [d1, d2, d3] }
  | _ => none }
def MatchSaysWrongFalsely : Prop := matchSaysRow.holds Try.pinned (OpenSpec.ofChange matchSaysWrong)

/-- 'clerklaw.ReckonSays': WHATEVER THE INPUT: true; the input reads as it did. -/
def reckonSaysSpec : ChangeSpec := { name := "reckonSays", fn := fun _ => fun
  | [d1, d2, d3] => { results := [.lit (.bool true)], args := [d1, d2, d3] }
  | _ => none }
def reckonSaysRow : OpenClaim := { program := "ytdfpjpmdldigdaa", sum := "36e13b58f0f18b9310fd6e693d79bda8215267eeaa7a7c0a6b4ec6f8039fb3c4", func := "heapmail/clerklaw.ReckonSays", spec := "reckonSays", unfollowed := true, recurses := true, loops := true, plainKeys := false, apart := false }
def ReckonSaysSaid : Prop := reckonSaysRow.holds Try.pinned (OpenSpec.ofChange reckonSaysSpec)

/-- ITS FALSE NEIGHBOUR: 'it returns false'. Refute it at one input. -/
def reckonSaysWrong : ChangeSpec := { name := "reckonSays", fn := fun _ => fun
  | [d1, d2, d3] => { results := [.lit (.bool false)], args := [d1, d2, d3] }
  | _ => none }
def ReckonSaysWrongFalsely : Prop := reckonSaysRow.holds Try.pinned (OpenSpec.ofChange reckonSaysWrong)

/-- 'clerklaw.CodeSays': WHATEVER THE INPUT: true; the input reads as it did. -/
def codeSaysSpec : ChangeSpec := { name := "codeSays", fn := fun _ => fun
  | [d1, d2] => { results := [.lit (.bool true)], args := [d1, d2] }
  | _ => none }
def codeSaysRow : OpenClaim := { program := "ytdfpjpmdldigdaa", sum := "36e13b58f0f18b9310fd6e693d79bda8215267eeaa7a7c0a6b4ec6f8039fb3c4", func := "heapmail/clerklaw.CodeSays", spec := "codeSays", unfollowed := true, recurses := true, loops := true, plainKeys := false, apart := false }
def CodeSaysSaid : Prop := codeSaysRow.holds Try.pinned (OpenSpec.ofChange codeSaysSpec)

/-- ITS FALSE NEIGHBOUR: 'it returns false'. Refute it at one input. -/
def codeSaysWrong : ChangeSpec := { name := "codeSays", fn := fun _ => fun
  | [d1, d2] => { results := [.lit (.bool false)], args := [d1, d2] }
  | _ => none }
def CodeSaysWrongFalsely : Prop := codeSaysRow.holds Try.pinned (OpenSpec.ofChange codeSaysWrong)

/-- 'clerklaw.WayPlays': WHATEVER THE INPUT: true; the input reads as it did. -/
def wayPlaysSpec : ChangeSpec := { name := "wayPlays", fn := fun _ => fun
  | [d] => { results := [.lit (.bool true)], args := [d] }
  | _ => none }
def wayPlaysRow : OpenClaim := { program := "ytdfpjpmdldigdaa", sum := "36e13b58f0f18b9310fd6e693d79bda8215267eeaa7a7c0a6b4ec6f8039fb3c4", func := "heapmail/clerklaw.WayPlays", spec := "wayPlays", unfollowed := true, recurses := true, loops := true, plainKeys := false, apart := false }
def WayPlaysSaid : Prop := wayPlaysRow.holds Try.pinned (OpenSpec.ofChange wayPlaysSpec)

/-- ITS FALSE NEIGHBOUR: 'it returns false'. Refute it at one input. -/
def wayPlaysWrong : ChangeSpec := { name := "wayPlays", fn := fun _ => fun
  | [d] => { results := [.lit (.bool false)], args := [d] }
  | _ => none }
def WayPlaysWrongFalsely : Prop := wayPlaysRow.holds Try.pinned (OpenSpec.ofChange wayPlaysWrong)

/-- 'clerklaw.BondPlays': WHATEVER THE INPUT: true; the input reads as it did. -/
def bondPlaysSpec : ChangeSpec := { name := "bondPlays", fn := fun _ => fun
  | [d] => { results := [.lit (.bool true)], args := [d] }
  | _ => none }
def bondPlaysRow : OpenClaim := { program := "ytdfpjpmdldigdaa", sum := "36e13b58f0f18b9310fd6e693d79bda8215267eeaa7a7c0a6b4ec6f8039fb3c4", func := "heapmail/clerklaw.BondPlays", spec := "bondPlays", plainKeys := false, apart := false }
def BondPlaysSaid : Prop := bondPlaysRow.holds Try.pinned (OpenSpec.ofChange bondPlaysSpec)

/-- ITS FALSE NEIGHBOUR: 'it returns false'. Refute it at one input. -/
def bondPlaysWrong : ChangeSpec := { name := "bondPlays", fn := fun _ => fun
  | [d] => { results := [.lit (.bool false)], args := [d] }
  | _ => none }
def BondPlaysWrongFalsely : Prop := bondPlaysRow.holds Try.pinned (OpenSpec.ofChange bondPlaysWrong)

/- THE SECOND FORM. 'bulk': how many values and letters a reading holds, each counted each time it is reached (what is shared counts as often as it is met; a slice's spare places count too). A statement '..UptoSaid' is the law's where the arguments, and the package variables that the reading takes, are together of bulk at most 1048576: NARROWER than '..Said'. Prove '..Said' where nothing that the law and all that it calls make is longer than what came in: it says more and counts as full. Else prove '..UptoSaid'. A law counts once. -/
mutual
def uptoBulk {H : Type} : DataW H → Nat
  | .lit (.string bytes) => bytes.length + 1
  | .lit _ => 1
  | .nil => 1
  | .ptr d => uptoBulk d + 1
  | .slice elems spare => uptoBulkAll elems + uptoBulkAll spare + 1
  | .agg parts => uptoBulkAll parts + 1
  | .iface _ d => uptoBulk d + 1
  | .map entries => uptoBulkEntries entries + 1
  | .held _ => 1
def uptoBulkAll {H : Type} : List (DataW H) → Nat
  | [] => 0
  | d :: r => uptoBulk d + uptoBulkAll r
def uptoBulkEntries {H : Type} : List (Lit × DataW H) → Nat
  | [] => 0
  | x :: r => uptoBulkEntry x + uptoBulkEntries r
def uptoBulkEntry {H : Type} : Lit × DataW H → Nat
  | (.string bytes, d) => bytes.length + uptoBulk d + 1
  | (_, d) => uptoBulk d + 1
 end
def uptoSmall : (H : Type) → List (DataW H) → Bool := fun _ ds => decide (uptoBulkAll ds ≤ 1048576)
def OpenSpec.upto (s : _root_.Go.ChangeSpec) : _root_.Go.OpenSpec := { _root_.Go.OpenSpec.ofChange s with cond := some uptoSmall }

/-- 'clerklaw.TermOrders', WHERE WHAT IT READS IS OF BULK AT MOST 1048576: true; the input reads as it did. -/
def termOrdersUptoRow : OpenClaim := { program := "ytdfpjpmdldigdaa", sum := "36e13b58f0f18b9310fd6e693d79bda8215267eeaa7a7c0a6b4ec6f8039fb3c4", func := "heapmail/clerklaw.TermOrders", spec := "termOrders", unfollowed := true, recurses := true, loops := true, plainKeys := false, apart := false, narrowed := true }
def TermOrdersUptoSaid : Prop := termOrdersUptoRow.holds Try.pinned (OpenSpec.upto termOrdersSpec)

/-- 'clerklaw.TermReads', WHERE WHAT IT READS IS OF BULK AT MOST 1048576: true; the input reads as it did. -/
def termReadsUptoRow : OpenClaim := { program := "ytdfpjpmdldigdaa", sum := "36e13b58f0f18b9310fd6e693d79bda8215267eeaa7a7c0a6b4ec6f8039fb3c4", func := "heapmail/clerklaw.TermReads", spec := "termReads", unfollowed := true, recurses := true, plainKeys := false, apart := false, narrowed := true }
def TermReadsUptoSaid : Prop := termReadsUptoRow.holds Try.pinned (OpenSpec.upto termReadsSpec)

/-- 'clerklaw.HeapPlays', WHERE WHAT IT READS IS OF BULK AT MOST 1048576: true; the input reads as it did. -/
def heapPlaysUptoRow : OpenClaim := { program := "ytdfpjpmdldigdaa", sum := "36e13b58f0f18b9310fd6e693d79bda8215267eeaa7a7c0a6b4ec6f8039fb3c4", func := "heapmail/clerklaw.HeapPlays", spec := "heapPlays", unfollowed := true, recurses := true, loops := true, plainKeys := false, apart := false, narrowed := true }
def HeapPlaysUptoSaid : Prop := heapPlaysUptoRow.holds Try.pinned (OpenSpec.upto heapPlaysSpec)

/-- 'clerklaw.MatchSays', WHERE WHAT IT READS IS OF BULK AT MOST 1048576: true; the input reads as it did. -/
def matchSaysUptoRow : OpenClaim := { program := "ytdfpjpmdldigdaa", sum := "36e13b58f0f18b9310fd6e693d79bda8215267eeaa7a7c0a6b4ec6f8039fb3c4", func := "heapmail/clerklaw.MatchSays", spec := "matchSays", unfollowed := true, recurses := true, loops := true, plainKeys := false, apart := false, narrowed := true }
def MatchSaysUptoSaid : Prop := matchSaysUptoRow.holds Try.pinned (OpenSpec.upto matchSaysSpec)

/-- 'clerklaw.ReckonSays', WHERE WHAT IT READS IS OF BULK AT MOST 1048576: true; the input reads as it did. -/
def reckonSaysUptoRow : OpenClaim := { program := "ytdfpjpmdldigdaa", sum := "36e13b58f0f18b9310fd6e693d79bda8215267eeaa7a7c0a6b4ec6f8039fb3c4", func := "heapmail/clerklaw.ReckonSays", spec := "reckonSays", unfollowed := true, recurses := true, loops := true, plainKeys := false, apart := false, narrowed := true }
def ReckonSaysUptoSaid : Prop := reckonSaysUptoRow.holds Try.pinned (OpenSpec.upto reckonSaysSpec)

/-- 'clerklaw.CodeSays', WHERE WHAT IT READS IS OF BULK AT MOST 1048576: true; the input reads as it did. -/
def codeSaysUptoRow : OpenClaim := { program := "ytdfpjpmdldigdaa", sum := "36e13b58f0f18b9310fd6e693d79bda8215267eeaa7a7c0a6b4ec6f8039fb3c4", func := "heapmail/clerklaw.CodeSays", spec := "codeSays", unfollowed := true, recurses := true, loops := true, plainKeys := false, apart := false, narrowed := true }
def CodeSaysUptoSaid : Prop := codeSaysUptoRow.holds Try.pinned (OpenSpec.upto codeSaysSpec)

/-- 'clerklaw.WayPlays', WHERE WHAT IT READS IS OF BULK AT MOST 1048576: true; the input reads as it did. -/
def wayPlaysUptoRow : OpenClaim := { program := "ytdfpjpmdldigdaa", sum := "36e13b58f0f18b9310fd6e693d79bda8215267eeaa7a7c0a6b4ec6f8039fb3c4", func := "heapmail/clerklaw.WayPlays", spec := "wayPlays", unfollowed := true, recurses := true, loops := true, plainKeys := false, apart := false, narrowed := true }
def WayPlaysUptoSaid : Prop := wayPlaysUptoRow.holds Try.pinned (OpenSpec.upto wayPlaysSpec)

/-- 'clerklaw.BondPlays', WHERE WHAT IT READS IS OF BULK AT MOST 1048576: true; the input reads as it did. -/
def bondPlaysUptoRow : OpenClaim := { program := "ytdfpjpmdldigdaa", sum := "36e13b58f0f18b9310fd6e693d79bda8215267eeaa7a7c0a6b4ec6f8039fb3c4", func := "heapmail/clerklaw.BondPlays", spec := "bondPlays", plainKeys := false, apart := false, narrowed := true }
def BondPlaysUptoSaid : Prop := bondPlaysUptoRow.holds Try.pinned (OpenSpec.upto bondPlaysSpec)

end Rows
end Go.Proofs.Ytdfpjpmdldigdaa
