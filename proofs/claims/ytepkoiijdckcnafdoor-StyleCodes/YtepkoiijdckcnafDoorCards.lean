/-
  DERIVED. GIVEN WITH THE SEED: THE CARDS: each row of YtepkoiijdckcnafDoorRows.lean that lists a variable, with what it lists TIED to the program's text (the seventh form; the later family's looks); each row that meets fmt, with fmt's text TOLD by the authors' own Lean function (tested against real Go, not proved from fmt's source: count such statements apart). THE CARD IS WHAT COUNTS. Prove the row's statement (the work); the ties are given (YtepkoiijdckcnafDoorTie.lean); close each card by the builder's one call (the guide's Derived/Test/ToyasCard.lean, 'card_holds'). Laid BY PROGRAM, IN A SANDBOX (cutbox-door.mjs). By AI agents, Wed Nov 11 2026. No macro, syntax, notation, axiom, sorry.
-/
import Derived.Test.YtepkoiijdckcnafDoorRows
import GoSem.ClaimSeven
namespace Go.Proofs.YtepkoiijdckcnafDoor
namespace Rows

/-- THE TIED CARD OF 'panelaw.StyleCodes'. -/
def styleCodesCard : Claim7 := { stood := { row := styleCodesRow, standIns := [], harness := (true, "f4eeea5dfccfc5b6dacd0bfd8282c40ef6387a3eda4b5f074cee61b2f9acc90b"), looks := false }, kinds := [], alts := [], laidByText := true, laidKinds := [.data, .data, .data], laidTests := true, laidLooks := .later }
def StyleCodesCardSaid : Prop := Claim7.holds Tryd.pinned (.plain (OpenSpec.ofChange styleCodesSpec)) styleCodesCard

/-- THE SECOND FORM's CARD OF 'panelaw.StyleCodes'. -/
def styleCodesUptoCard : Claim7 := { stood := { row := styleCodesUptoRow, standIns := [], harness := (true, "f4eeea5dfccfc5b6dacd0bfd8282c40ef6387a3eda4b5f074cee61b2f9acc90b"), looks := false }, kinds := [], alts := [], laidByText := true, laidKinds := [.data, .data, .data], laidTests := true, laidLooks := .later }
def StyleCodesUptoCardSaid : Prop := Claim7.holds Tryd.pinned (.plain (OpenSpec.upto styleCodesSpec)) styleCodesUptoCard
end Rows
end Go.Proofs.YtepkoiijdckcnafDoor
