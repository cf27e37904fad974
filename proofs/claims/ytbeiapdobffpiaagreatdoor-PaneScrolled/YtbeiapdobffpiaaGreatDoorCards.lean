/-
  DERIVED. GIVEN WITH THE SEED: THE CARDS: each row of YtbeiapdobffpiaaGreatDoorRows.lean that lists a variable, with what it lists TIED to the program's text (the seventh form; the later family's looks); each row that meets fmt, with fmt's text TOLD by the authors' own Lean function (tested against real Go, not proved from fmt's source: count such statements apart). THE CARD IS WHAT COUNTS. Prove the row's statement (the work); the ties are given (YtbeiapdobffpiaaGreatDoorTie.lean); close each card by the builder's one call (the guide's Derived/Test/ToyasCard.lean, 'card_holds'). Laid BY PROGRAM, IN A SANDBOX (cutbox-door.mjs). By AI agents, Wed Nov 11 2026. No macro, syntax, notation, axiom, sorry.
-/
import Derived.Test.YtbeiapdobffpiaaGreatDoorRows
import GoSem.ClaimSeven
namespace Go.Proofs.YtbeiapdobffpiaaGreatDoor
namespace Rows

/-- THE TIED CARD OF 'panelaw.PaneScrolled'. -/
def paneScrolledCard : Claim7 := { stood := { row := paneScrolledRow, standIns := [], harness := (true, "d99a40322bd9f9059b7dd5fcefa18741934d1066b60a4f417f0132aea46eec3d"), looks := true }, kinds := [], alts := [], laidByText := true, laidKinds := [.data, .data, .data, .data, .data, .handle, .sentinel, .sentinel, .data, .sentinel, .sentinel, .sentinel, .sentinel, .sentinel, .sentinel, .sentinel, .pinned], laidTests := true, laidLooks := .later }
def PaneScrolledCardSaid : Prop := Claim7.holds Tryz.pinned (.plain (OpenSpec.ofChange paneScrolledSpec)) paneScrolledCard

/-- THE SECOND FORM's CARD OF 'panelaw.PaneScrolled'. -/
def paneScrolledUptoCard : Claim7 := { stood := { row := paneScrolledUptoRow, standIns := [], harness := (true, "d99a40322bd9f9059b7dd5fcefa18741934d1066b60a4f417f0132aea46eec3d"), looks := true }, kinds := [], alts := [], laidByText := true, laidKinds := [.data, .data, .data, .data, .data, .handle, .sentinel, .sentinel, .data, .sentinel, .sentinel, .sentinel, .sentinel, .sentinel, .sentinel, .sentinel, .pinned], laidTests := true, laidLooks := .later }
def PaneScrolledUptoCardSaid : Prop := Claim7.holds Tryz.pinned (.plain (OpenSpec.upto paneScrolledSpec)) paneScrolledUptoCard
end Rows
end Go.Proofs.YtbeiapdobffpiaaGreatDoor
