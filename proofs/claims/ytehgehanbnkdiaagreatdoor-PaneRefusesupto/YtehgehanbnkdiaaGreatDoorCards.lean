/-
  DERIVED. GIVEN WITH THE SEED: THE CARDS: each row of YtehgehanbnkdiaaGreatDoorRows.lean that lists a variable, with what it lists TIED to the program's text (the seventh form; the later family's looks); each row that meets fmt, with fmt's text TOLD by the authors' own Lean function (tested against real Go, not proved from fmt's source: count such statements apart). THE CARD IS WHAT COUNTS. Prove the row's statement (the work); the ties are given (YtehgehanbnkdiaaGreatDoorTie.lean); close each card by the builder's one call (the guide's Derived/Test/ToyasCard.lean, 'card_holds'). Laid BY PROGRAM, IN A SANDBOX (cutbox-door.mjs). By AI agents, Wed Nov 11 2026. No macro, syntax, notation, axiom, sorry.
-/
import Derived.Test.YtehgehanbnkdiaaGreatDoorRows
import GoSem.ClaimSeven
namespace Go.Proofs.YtehgehanbnkdiaaGreatDoor
namespace Rows

/-- THE TIED CARD OF 'panelaw.PaneForgets'. -/
def paneForgetsCard : Claim7 := { stood := { row := paneForgetsRow, standIns := [], harness := (true, "ca268d3e91e4195cf654f3652698544acd93f952ba0496d7ec214a21e62fd010"), looks := true }, kinds := [], alts := [], laidByText := true, laidKinds := [.data, .data, .data, .data, .data, .handle, .sentinel, .sentinel, .data, .sentinel, .sentinel, .sentinel, .sentinel, .sentinel, .sentinel, .sentinel, .pinned], laidTests := true, laidLooks := .later }
def PaneForgetsCardSaid : Prop := Claim7.holds Tryz.pinned (.plain (OpenSpec.ofChange paneForgetsSpec)) paneForgetsCard

/-- THE TIED CARD OF 'panelaw.PaneRefuses'. -/
def paneRefusesCard : Claim7 := { stood := { row := paneRefusesRow, standIns := [], harness := (true, "ca268d3e91e4195cf654f3652698544acd93f952ba0496d7ec214a21e62fd010"), looks := true }, kinds := [], alts := [], laidByText := true, laidKinds := [.data, .data, .data, .data, .data, .handle, .sentinel, .sentinel, .data, .sentinel, .sentinel, .sentinel, .sentinel, .sentinel, .sentinel, .sentinel, .pinned], laidTests := true, laidLooks := .later }
def PaneRefusesCardSaid : Prop := Claim7.holds Tryz.pinned (.plain (OpenSpec.ofChange paneRefusesSpec)) paneRefusesCard

/-- THE SECOND FORM's CARD OF 'panelaw.PaneForgets'. -/
def paneForgetsUptoCard : Claim7 := { stood := { row := paneForgetsUptoRow, standIns := [], harness := (true, "ca268d3e91e4195cf654f3652698544acd93f952ba0496d7ec214a21e62fd010"), looks := true }, kinds := [], alts := [], laidByText := true, laidKinds := [.data, .data, .data, .data, .data, .handle, .sentinel, .sentinel, .data, .sentinel, .sentinel, .sentinel, .sentinel, .sentinel, .sentinel, .sentinel, .pinned], laidTests := true, laidLooks := .later }
def PaneForgetsUptoCardSaid : Prop := Claim7.holds Tryz.pinned (.plain (OpenSpec.upto paneForgetsSpec)) paneForgetsUptoCard

/-- THE SECOND FORM's CARD OF 'panelaw.PaneRefuses'. -/
def paneRefusesUptoCard : Claim7 := { stood := { row := paneRefusesUptoRow, standIns := [], harness := (true, "ca268d3e91e4195cf654f3652698544acd93f952ba0496d7ec214a21e62fd010"), looks := true }, kinds := [], alts := [], laidByText := true, laidKinds := [.data, .data, .data, .data, .data, .handle, .sentinel, .sentinel, .data, .sentinel, .sentinel, .sentinel, .sentinel, .sentinel, .sentinel, .sentinel, .pinned], laidTests := true, laidLooks := .later }
def PaneRefusesUptoCardSaid : Prop := Claim7.holds Tryz.pinned (.plain (OpenSpec.upto paneRefusesSpec)) paneRefusesUptoCard
end Rows
end Go.Proofs.YtehgehanbnkdiaaGreatDoor
