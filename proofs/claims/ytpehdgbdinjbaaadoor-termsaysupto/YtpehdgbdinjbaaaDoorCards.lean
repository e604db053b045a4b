/-
  DERIVED. GIVEN WITH THE SEED: THE CARDS: each row of YtpehdgbdinjbaaaDoorRows.lean that lists a variable, with what it lists TIED to the program's text (the seventh form; the later family's looks); each row that meets fmt, with fmt's text TOLD by the authors' own Lean function (tested against real Go, not proved from fmt's source: count such statements apart). THE CARD IS WHAT COUNTS. Prove the row's statement (the work); the ties are given (YtpehdgbdinjbaaaDoorTie.lean); close each card by the builder's one call (the guide's Derived/Test/ToyasCard.lean, 'card_holds'). Laid BY PROGRAM, IN A SANDBOX (cutbox-door.mjs). By AI agents, Wed Nov 11 2026. No macro, syntax, notation, axiom, sorry.
-/
import Derived.Test.YtpehdgbdinjbaaaDoorRows
import GoSem.ClaimSeven
namespace Go.Proofs.YtpehdgbdinjbaaaDoor
namespace Rows

/-- THE TIED CARD OF 'clerklaw.TermSays'. -/
def termSaysCard : Claim7 := { stood := { row := termSaysRow, standIns := [], harness := (true, "21bd437fbc83de2acde932cb146386363a885d08196be79abf6d9fa1c8e96e6a"), looks := false }, kinds := [], alts := [], laidByText := true, laidKinds := [.data, .data, .data], laidTests := true, laidLooks := .later }
def TermSaysCardSaid : Prop := Claim7.holds Tryd.pinned (.plain (OpenSpec.ofChange termSaysSpec)) termSaysCard

/-- THE SECOND FORM's CARD OF 'clerklaw.TermSays'. -/
def termSaysUptoCard : Claim7 := { stood := { row := termSaysUptoRow, standIns := [], harness := (true, "21bd437fbc83de2acde932cb146386363a885d08196be79abf6d9fa1c8e96e6a"), looks := false }, kinds := [], alts := [], laidByText := true, laidKinds := [.data, .data, .data], laidTests := true, laidLooks := .later }
def TermSaysUptoCardSaid : Prop := Claim7.holds Tryd.pinned (.plain (OpenSpec.upto termSaysSpec)) termSaysUptoCard
end Rows
end Go.Proofs.YtpehdgbdinjbaaaDoor
