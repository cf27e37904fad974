/-
  DERIVED. GIVEN WITH THE SEED: THE CARDS: each row of YtmbefonnkkhfgaaGreatDoorRows.lean that lists a variable, with what it lists TIED to the program's text (the seventh form; the later family's looks); each row that meets fmt, with fmt's text TOLD by the authors' own Lean function (tested against real Go, not proved from fmt's source: count such statements apart). THE CARD IS WHAT COUNTS. Prove the row's statement (the work); the ties are given (YtmbefonnkkhfgaaGreatDoorTie.lean); close each card by the builder's one call (the guide's Derived/Test/ToyasCard.lean, 'card_holds'). Laid BY PROGRAM, IN A SANDBOX (cutbox-door.mjs). By AI agents, Wed Nov 11 2026. No macro, syntax, notation, axiom, sorry.
-/
import Derived.Test.YtmbefonnkkhfgaaGreatDoorRows
import GoSem.ClaimSeven
namespace Go.Proofs.YtmbefonnkkhfgaaGreatDoor
namespace Rows

/-- THE TIED CARD OF 'panelaw.PaintPairs'. -/
def paintPairsCard : Claim7 := { stood := { row := paintPairsRow, standIns := [], harness := (true, "3bf82fd6e63c440b19c7f09ff7a6335dae08f7afdbd6cbedcb68a3b0d707f52e"), looks := true }, kinds := [], alts := [], laidByText := true, laidKinds := [.data, .data, .data, .data, .data, .handle, .sentinel, .sentinel, .data, .sentinel, .sentinel, .sentinel, .sentinel, .sentinel, .sentinel, .sentinel, .pinned], laidTests := true, laidLooks := .later }
def PaintPairsCardSaid : Prop := Claim7.holds Tryz.pinned (.plain (OpenSpec.ofChange paintPairsSpec)) paintPairsCard

/-- THE TIED CARD OF 'panelaw.PaintUnder'. -/
def paintUnderCard : Claim7 := { stood := { row := paintUnderRow, standIns := [], harness := (true, "3bf82fd6e63c440b19c7f09ff7a6335dae08f7afdbd6cbedcb68a3b0d707f52e"), looks := true }, kinds := [], alts := [], laidByText := true, laidKinds := [.data, .data, .data, .data, .data, .handle, .sentinel, .sentinel, .data, .sentinel, .sentinel, .sentinel, .sentinel, .sentinel, .sentinel, .sentinel, .pinned], laidTests := true, laidLooks := .later }
def PaintUnderCardSaid : Prop := Claim7.holds Tryz.pinned (.plain (OpenSpec.ofChange paintUnderSpec)) paintUnderCard

/-- THE SECOND FORM's CARD OF 'panelaw.PaintPairs'. -/
def paintPairsUptoCard : Claim7 := { stood := { row := paintPairsUptoRow, standIns := [], harness := (true, "3bf82fd6e63c440b19c7f09ff7a6335dae08f7afdbd6cbedcb68a3b0d707f52e"), looks := true }, kinds := [], alts := [], laidByText := true, laidKinds := [.data, .data, .data, .data, .data, .handle, .sentinel, .sentinel, .data, .sentinel, .sentinel, .sentinel, .sentinel, .sentinel, .sentinel, .sentinel, .pinned], laidTests := true, laidLooks := .later }
def PaintPairsUptoCardSaid : Prop := Claim7.holds Tryz.pinned (.plain (OpenSpec.upto paintPairsSpec)) paintPairsUptoCard

/-- THE SECOND FORM's CARD OF 'panelaw.PaintUnder'. -/
def paintUnderUptoCard : Claim7 := { stood := { row := paintUnderUptoRow, standIns := [], harness := (true, "3bf82fd6e63c440b19c7f09ff7a6335dae08f7afdbd6cbedcb68a3b0d707f52e"), looks := true }, kinds := [], alts := [], laidByText := true, laidKinds := [.data, .data, .data, .data, .data, .handle, .sentinel, .sentinel, .data, .sentinel, .sentinel, .sentinel, .sentinel, .sentinel, .sentinel, .sentinel, .pinned], laidTests := true, laidLooks := .later }
def PaintUnderUptoCardSaid : Prop := Claim7.holds Tryz.pinned (.plain (OpenSpec.upto paintUnderSpec)) paintUnderUptoCard
end Rows
end Go.Proofs.YtmbefonnkkhfgaaGreatDoor
