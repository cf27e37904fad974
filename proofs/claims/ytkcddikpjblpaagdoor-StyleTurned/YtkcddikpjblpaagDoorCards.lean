/-
  DERIVED. GIVEN WITH THE SEED: THE CARDS: each row of YtkcddikpjblpaagDoorRows.lean that lists a variable, with what it lists TIED to the program's text (the seventh form; the later family's looks); each row that meets fmt, with fmt's text TOLD by the authors' own Lean function (tested against real Go, not proved from fmt's source: count such statements apart). THE CARD IS WHAT COUNTS. Prove the row's statement (the work); the ties are given (YtkcddikpjblpaagDoorTie.lean); close each card by the builder's one call (the guide's Derived/Test/ToyasCard.lean, 'card_holds'). Laid BY PROGRAM, IN A SANDBOX (cutbox-door.mjs). By AI agents, Wed Nov 11 2026. No macro, syntax, notation, axiom, sorry.
-/
import Derived.Test.YtkcddikpjblpaagDoorRows
import GoSem.ClaimSeven
namespace Go.Proofs.YtkcddikpjblpaagDoor
namespace Rows

/-- THE TIED CARD OF 'panelaw.StyleTurned'. -/
def styleTurnedCard : Claim7 := { stood := { row := styleTurnedRow, standIns := [], harness := (true, "26da69693e99f5a9bdf2fb5cfc92af2f328c570c2583a32d99870283d9c2b67b"), looks := false }, kinds := [], alts := [], laidByText := true, laidKinds := [.data, .data, .data], laidTests := true, laidLooks := .later }
def StyleTurnedCardSaid : Prop := Claim7.holds Tryd.pinned (.plain (OpenSpec.ofChange styleTurnedSpec)) styleTurnedCard

/-- THE SECOND FORM's CARD OF 'panelaw.StyleTurned'. -/
def styleTurnedUptoCard : Claim7 := { stood := { row := styleTurnedUptoRow, standIns := [], harness := (true, "26da69693e99f5a9bdf2fb5cfc92af2f328c570c2583a32d99870283d9c2b67b"), looks := false }, kinds := [], alts := [], laidByText := true, laidKinds := [.data, .data, .data], laidTests := true, laidLooks := .later }
def StyleTurnedUptoCardSaid : Prop := Claim7.holds Tryd.pinned (.plain (OpenSpec.upto styleTurnedSpec)) styleTurnedUptoCard
end Rows
end Go.Proofs.YtkcddikpjblpaagDoor
