/-
  DERIVED. GIVEN WITH THE SEED: THE CARDS: each row of YtnponhbgicbkcaaGreatDoorRows.lean that lists a variable, with what it lists TIED to the program's text (the seventh form; the later family's looks); each row that meets fmt, with fmt's text TOLD by the authors' own Lean function (tested against real Go, not proved from fmt's source: count such statements apart). THE CARD IS WHAT COUNTS. Prove the row's statement (the work); the ties are given (YtnponhbgicbkcaaGreatDoorTie.lean); close each card by the builder's one call (the guide's Derived/Test/ToyasCard.lean, 'card_holds'). Laid BY PROGRAM, IN A SANDBOX (cutbox-door.mjs). By AI agents, Wed Nov 11 2026. No macro, syntax, notation, axiom, sorry.
-/
import Derived.Test.YtnponhbgicbkcaaGreatDoorRows
import GoSem.ClaimSeven
namespace Go.Proofs.YtnponhbgicbkcaaGreatDoor
namespace Rows

/-- THE TIED CARD OF 'panelaw.BoxNeeds'. -/
def boxNeedsCard : Claim7 := { stood := { row := boxNeedsRow, standIns := [], harness := (true, "89eab82116f6d47f675e4bc9bf98e5be68122fea6a6fa4a5b37304e0b7c708c4"), looks := true }, kinds := [], alts := [], laidByText := true, laidKinds := [.data, .data, .data, .data, .data, .handle, .sentinel, .sentinel, .data, .sentinel, .sentinel, .sentinel, .sentinel, .sentinel, .sentinel, .sentinel, .pinned], laidTests := true, laidLooks := .later }
def BoxNeedsCardSaid : Prop := Claim7.holds Tryz.pinned (.plain (OpenSpec.ofChange boxNeedsSpec)) boxNeedsCard

/-- THE TIED CARD OF 'panelaw.BoxLays'. -/
def boxLaysCard : Claim7 := { stood := { row := boxLaysRow, standIns := [], harness := (true, "89eab82116f6d47f675e4bc9bf98e5be68122fea6a6fa4a5b37304e0b7c708c4"), looks := true }, kinds := [], alts := [], laidByText := true, laidKinds := [.data, .data, .data, .data, .data, .handle, .sentinel, .sentinel, .data, .sentinel, .sentinel, .sentinel, .sentinel, .sentinel, .sentinel, .sentinel, .pinned], laidTests := true, laidLooks := .later }
def BoxLaysCardSaid : Prop := Claim7.holds Tryz.pinned (.plain (OpenSpec.ofChange boxLaysSpec)) boxLaysCard

/-- THE TIED CARD OF 'panelaw.BoxHits'. -/
def boxHitsCard : Claim7 := { stood := { row := boxHitsRow, standIns := [], harness := (true, "89eab82116f6d47f675e4bc9bf98e5be68122fea6a6fa4a5b37304e0b7c708c4"), looks := true }, kinds := [], alts := [], laidByText := true, laidKinds := [.data, .data, .data, .data, .data, .handle, .sentinel, .sentinel, .data, .sentinel, .sentinel, .sentinel, .sentinel, .sentinel, .sentinel, .sentinel, .pinned], laidTests := true, laidLooks := .later }
def BoxHitsCardSaid : Prop := Claim7.holds Tryz.pinned (.plain (OpenSpec.ofChange boxHitsSpec)) boxHitsCard

/-- THE TIED CARD OF 'panelaw.BoxTop'. -/
def boxTopCard : Claim7 := { stood := { row := boxTopRow, standIns := [], harness := (true, "89eab82116f6d47f675e4bc9bf98e5be68122fea6a6fa4a5b37304e0b7c708c4"), looks := true }, kinds := [], alts := [], laidByText := true, laidKinds := [.data, .data, .data, .data, .data, .handle, .sentinel, .sentinel, .data, .sentinel, .sentinel, .sentinel, .sentinel, .sentinel, .sentinel, .sentinel, .pinned], laidTests := true, laidLooks := .later }
def BoxTopCardSaid : Prop := Claim7.holds Tryz.pinned (.plain (OpenSpec.ofChange boxTopSpec)) boxTopCard

/-- THE SECOND FORM's CARD OF 'panelaw.BoxNeeds'. -/
def boxNeedsUptoCard : Claim7 := { stood := { row := boxNeedsUptoRow, standIns := [], harness := (true, "89eab82116f6d47f675e4bc9bf98e5be68122fea6a6fa4a5b37304e0b7c708c4"), looks := true }, kinds := [], alts := [], laidByText := true, laidKinds := [.data, .data, .data, .data, .data, .handle, .sentinel, .sentinel, .data, .sentinel, .sentinel, .sentinel, .sentinel, .sentinel, .sentinel, .sentinel, .pinned], laidTests := true, laidLooks := .later }
def BoxNeedsUptoCardSaid : Prop := Claim7.holds Tryz.pinned (.plain (OpenSpec.upto boxNeedsSpec)) boxNeedsUptoCard

/-- THE SECOND FORM's CARD OF 'panelaw.BoxLays'. -/
def boxLaysUptoCard : Claim7 := { stood := { row := boxLaysUptoRow, standIns := [], harness := (true, "89eab82116f6d47f675e4bc9bf98e5be68122fea6a6fa4a5b37304e0b7c708c4"), looks := true }, kinds := [], alts := [], laidByText := true, laidKinds := [.data, .data, .data, .data, .data, .handle, .sentinel, .sentinel, .data, .sentinel, .sentinel, .sentinel, .sentinel, .sentinel, .sentinel, .sentinel, .pinned], laidTests := true, laidLooks := .later }
def BoxLaysUptoCardSaid : Prop := Claim7.holds Tryz.pinned (.plain (OpenSpec.upto boxLaysSpec)) boxLaysUptoCard

/-- THE SECOND FORM's CARD OF 'panelaw.BoxHits'. -/
def boxHitsUptoCard : Claim7 := { stood := { row := boxHitsUptoRow, standIns := [], harness := (true, "89eab82116f6d47f675e4bc9bf98e5be68122fea6a6fa4a5b37304e0b7c708c4"), looks := true }, kinds := [], alts := [], laidByText := true, laidKinds := [.data, .data, .data, .data, .data, .handle, .sentinel, .sentinel, .data, .sentinel, .sentinel, .sentinel, .sentinel, .sentinel, .sentinel, .sentinel, .pinned], laidTests := true, laidLooks := .later }
def BoxHitsUptoCardSaid : Prop := Claim7.holds Tryz.pinned (.plain (OpenSpec.upto boxHitsSpec)) boxHitsUptoCard

/-- THE SECOND FORM's CARD OF 'panelaw.BoxTop'. -/
def boxTopUptoCard : Claim7 := { stood := { row := boxTopUptoRow, standIns := [], harness := (true, "89eab82116f6d47f675e4bc9bf98e5be68122fea6a6fa4a5b37304e0b7c708c4"), looks := true }, kinds := [], alts := [], laidByText := true, laidKinds := [.data, .data, .data, .data, .data, .handle, .sentinel, .sentinel, .data, .sentinel, .sentinel, .sentinel, .sentinel, .sentinel, .sentinel, .sentinel, .pinned], laidTests := true, laidLooks := .later }
def BoxTopUptoCardSaid : Prop := Claim7.holds Tryz.pinned (.plain (OpenSpec.upto boxTopSpec)) boxTopUptoCard
end Rows
end Go.Proofs.YtnponhbgicbkcaaGreatDoor
