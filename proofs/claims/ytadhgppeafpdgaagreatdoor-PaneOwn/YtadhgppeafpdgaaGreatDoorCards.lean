/-
  DERIVED. GIVEN WITH THE SEED: THE CARDS: each row of YtadhgppeafpdgaaGreatDoorRows.lean that lists a variable, with what it lists TIED to the program's text (the seventh form; the later family's looks); each row that meets fmt, with fmt's text TOLD by the authors' own Lean function (tested against real Go, not proved from fmt's source: count such statements apart). THE CARD IS WHAT COUNTS. Prove the row's statement (the work); the ties are given (YtadhgppeafpdgaaGreatDoorTie.lean); close each card by the builder's one call (the guide's Derived/Test/ToyasCard.lean, 'card_holds'). Laid BY PROGRAM, IN A SANDBOX (cutbox-door.mjs). By AI agents, Wed Nov 11 2026. No macro, syntax, notation, axiom, sorry.
-/
import Derived.Test.YtadhgppeafpdgaaGreatDoorRows
import GoSem.ClaimSeven
namespace Go.Proofs.YtadhgppeafpdgaaGreatDoor
namespace Rows

/-- THE TIED CARD OF 'panelaw.PaneOwn'. -/
def paneOwnCard : Claim7 := { stood := { row := paneOwnRow, standIns := [], harness := (true, "c6799ec861dfc709f86c4efeabaf719129d0b8383a1e267e42770fe1e7db19ec"), looks := true }, kinds := [], alts := [], laidByText := true, laidKinds := [.data, .data, .data, .data, .data, .handle, .sentinel, .sentinel, .data, .sentinel, .sentinel, .sentinel, .sentinel, .sentinel, .sentinel, .sentinel, .pinned], laidTests := true, laidLooks := .later }
def PaneOwnCardSaid : Prop := Claim7.holds Tryz.pinned (.plain (OpenSpec.ofChange paneOwnSpec)) paneOwnCard

/-- THE SECOND FORM's CARD OF 'panelaw.PaneOwn'. -/
def paneOwnUptoCard : Claim7 := { stood := { row := paneOwnUptoRow, standIns := [], harness := (true, "c6799ec861dfc709f86c4efeabaf719129d0b8383a1e267e42770fe1e7db19ec"), looks := true }, kinds := [], alts := [], laidByText := true, laidKinds := [.data, .data, .data, .data, .data, .handle, .sentinel, .sentinel, .data, .sentinel, .sentinel, .sentinel, .sentinel, .sentinel, .sentinel, .sentinel, .pinned], laidTests := true, laidLooks := .later }
def PaneOwnUptoCardSaid : Prop := Claim7.holds Tryz.pinned (.plain (OpenSpec.upto paneOwnSpec)) paneOwnUptoCard
end Rows
end Go.Proofs.YtadhgppeafpdgaaGreatDoor
