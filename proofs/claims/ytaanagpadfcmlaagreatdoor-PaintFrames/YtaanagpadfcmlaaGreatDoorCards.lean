/-
  DERIVED. GIVEN WITH THE SEED: THE CARDS: each row of YtaanagpadfcmlaaGreatDoorRows.lean that lists a variable, with what it lists TIED to the program's text (the seventh form; the later family's looks); each row that meets fmt, with fmt's text TOLD by the authors' own Lean function (tested against real Go, not proved from fmt's source: count such statements apart). THE CARD IS WHAT COUNTS. Prove the row's statement (the work); the ties are given (YtaanagpadfcmlaaGreatDoorTie.lean); close each card by the builder's one call (the guide's Derived/Test/ToyasCard.lean, 'card_holds'). Laid BY PROGRAM, IN A SANDBOX (cutbox-door.mjs). By AI agents, Wed Nov 11 2026. No macro, syntax, notation, axiom, sorry.
-/
import Derived.Test.YtaanagpadfcmlaaGreatDoorRows
import GoSem.ClaimSeven
namespace Go.Proofs.YtaanagpadfcmlaaGreatDoor
namespace Rows

/-- THE TIED CARD OF 'panelaw.PaintFrames'. -/
def paintFramesCard : Claim7 := { stood := { row := paintFramesRow, standIns := [], harness := (true, "21f707098c4f7217291d83c0ffd2c1fe12e94f79ecc90593b82f00a6e78802e5"), looks := true }, kinds := [], alts := [], laidByText := true, laidKinds := [.data, .data, .data, .data, .data, .handle, .sentinel, .sentinel, .data, .sentinel, .sentinel, .sentinel, .sentinel, .sentinel, .sentinel, .sentinel, .pinned], laidTests := true, laidLooks := .later }
def PaintFramesCardSaid : Prop := Claim7.holds Tryz.pinned (.plain (OpenSpec.ofChange paintFramesSpec)) paintFramesCard

/-- THE SECOND FORM's CARD OF 'panelaw.PaintFrames'. -/
def paintFramesUptoCard : Claim7 := { stood := { row := paintFramesUptoRow, standIns := [], harness := (true, "21f707098c4f7217291d83c0ffd2c1fe12e94f79ecc90593b82f00a6e78802e5"), looks := true }, kinds := [], alts := [], laidByText := true, laidKinds := [.data, .data, .data, .data, .data, .handle, .sentinel, .sentinel, .data, .sentinel, .sentinel, .sentinel, .sentinel, .sentinel, .sentinel, .sentinel, .pinned], laidTests := true, laidLooks := .later }
def PaintFramesUptoCardSaid : Prop := Claim7.holds Tryz.pinned (.plain (OpenSpec.upto paintFramesSpec)) paintFramesUptoCard
end Rows
end Go.Proofs.YtaanagpadfcmlaaGreatDoor
