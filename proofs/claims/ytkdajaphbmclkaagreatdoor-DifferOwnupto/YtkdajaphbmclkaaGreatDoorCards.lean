/-
  DERIVED. GIVEN WITH THE SEED: THE CARDS: each row of YtkdajaphbmclkaaGreatDoorRows.lean that lists a variable, with what it lists TIED to the program's text (the seventh form; the later family's looks); each row that meets fmt, with fmt's text TOLD by the authors' own Lean function (tested against real Go, not proved from fmt's source: count such statements apart). THE CARD IS WHAT COUNTS. Prove the row's statement (the work); the ties are given (YtkdajaphbmclkaaGreatDoorTie.lean); close each card by the builder's one call (the guide's Derived/Test/ToyasCard.lean, 'card_holds'). Laid BY PROGRAM, IN A SANDBOX (cutbox-door.mjs). By AI agents, Wed Nov 11 2026. No macro, syntax, notation, axiom, sorry.
-/
import Derived.Test.YtkdajaphbmclkaaGreatDoorRows
import GoSem.ClaimSeven
namespace Go.Proofs.YtkdajaphbmclkaaGreatDoor
namespace Rows

/-- THE TIED CARD OF 'panelaw.DifferOwn'. -/
def differOwnCard : Claim7 := { stood := { row := differOwnRow, standIns := [], harness := (true, "f06a064287d5f41379bbe5e4d8d7d4e9598d81d96c970cb78fa04ead266d393d"), looks := false }, kinds := [], alts := [], laidByText := true, laidKinds := [.data, .data, .data, .data, .data, .pinned], laidTests := true, laidLooks := .later }
def DifferOwnCardSaid : Prop := Claim7.holds Tryz.pinned (.plain (OpenSpec.ofChange differOwnSpec)) differOwnCard

/-- THE SECOND FORM's CARD OF 'panelaw.DifferOwn'. -/
def differOwnUptoCard : Claim7 := { stood := { row := differOwnUptoRow, standIns := [], harness := (true, "f06a064287d5f41379bbe5e4d8d7d4e9598d81d96c970cb78fa04ead266d393d"), looks := false }, kinds := [], alts := [], laidByText := true, laidKinds := [.data, .data, .data, .data, .data, .pinned], laidTests := true, laidLooks := .later }
def DifferOwnUptoCardSaid : Prop := Claim7.holds Tryz.pinned (.plain (OpenSpec.upto differOwnSpec)) differOwnUptoCard
end Rows
end Go.Proofs.YtkdajaphbmclkaaGreatDoor
