/-
  DERIVED. GIVEN WITH THE SEED: THE CARDS: each row of YtiaimhjebnobnaaGreatDoorRows.lean that lists a variable, with what it lists TIED to the program's text (the seventh form; the later family's looks); each row that meets fmt, with fmt's text TOLD by the authors' own Lean function (tested against real Go, not proved from fmt's source: count such statements apart). THE CARD IS WHAT COUNTS. Prove the row's statement (the work); the ties are given (YtiaimhjebnobnaaGreatDoorTie.lean); close each card by the builder's one call (the guide's Derived/Test/ToyasCard.lean, 'card_holds'). Laid BY PROGRAM, IN A SANDBOX (cutbox-door.mjs). By AI agents, Wed Nov 11 2026. No macro, syntax, notation, axiom, sorry.
-/
import Derived.Test.YtiaimhjebnobnaaGreatDoorRows
import GoSem.ClaimSeven
namespace Go.Proofs.YtiaimhjebnobnaaGreatDoor
namespace Rows

/-- THE TIED CARD OF 'panelaw.PaintLast'. -/
def paintLastCard : Claim7 := { stood := { row := paintLastRow, standIns := [], harness := (true, "2467c9ac4cb5ee87057dbfad3b3d25182cdc8c522f9de719bfed6b1fa817802f"), looks := true }, kinds := [], alts := [], laidByText := true, laidKinds := [.data, .data, .data, .data, .data, .handle, .sentinel, .sentinel, .data, .sentinel, .sentinel, .sentinel, .sentinel, .sentinel, .sentinel, .sentinel, .pinned], laidTests := true, laidLooks := .later }
def PaintLastCardSaid : Prop := Claim7.holds Tryz.pinned (.plain (OpenSpec.ofChange paintLastSpec)) paintLastCard

/-- THE SECOND FORM's CARD OF 'panelaw.PaintLast'. -/
def paintLastUptoCard : Claim7 := { stood := { row := paintLastUptoRow, standIns := [], harness := (true, "2467c9ac4cb5ee87057dbfad3b3d25182cdc8c522f9de719bfed6b1fa817802f"), looks := true }, kinds := [], alts := [], laidByText := true, laidKinds := [.data, .data, .data, .data, .data, .handle, .sentinel, .sentinel, .data, .sentinel, .sentinel, .sentinel, .sentinel, .sentinel, .sentinel, .sentinel, .pinned], laidTests := true, laidLooks := .later }
def PaintLastUptoCardSaid : Prop := Claim7.holds Tryz.pinned (.plain (OpenSpec.upto paintLastSpec)) paintLastUptoCard
end Rows
end Go.Proofs.YtiaimhjebnobnaaGreatDoor
