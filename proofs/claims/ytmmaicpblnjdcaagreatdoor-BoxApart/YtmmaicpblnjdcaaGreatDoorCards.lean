/-
  DERIVED. GIVEN WITH THE SEED: THE CARDS: each row of YtmmaicpblnjdcaaGreatDoorRows.lean that lists a variable, with what it lists TIED to the program's text (the seventh form; the later family's looks); each row that meets fmt, with fmt's text TOLD by the authors' own Lean function (tested against real Go, not proved from fmt's source: count such statements apart). THE CARD IS WHAT COUNTS. Prove the row's statement (the work); the ties are given (YtmmaicpblnjdcaaGreatDoorTie.lean); close each card by the builder's one call (the guide's Derived/Test/ToyasCard.lean, 'card_holds'). Laid BY PROGRAM, IN A SANDBOX (cutbox-door.mjs). By AI agents, Wed Nov 11 2026. No macro, syntax, notation, axiom, sorry.
-/
import Derived.Test.YtmmaicpblnjdcaaGreatDoorRows
import GoSem.ClaimSeven
namespace Go.Proofs.YtmmaicpblnjdcaaGreatDoor
namespace Rows

/-- THE TIED CARD OF 'panelaw.BoxInside'. -/
def boxInsideCard : Claim7 := { stood := { row := boxInsideRow, standIns := [], harness := (true, "422034ca41f3e267856382c08ff3f65ecb858e3bb538f3378d2f16da259499aa"), looks := true }, kinds := [], alts := [], laidByText := true, laidKinds := [.data, .data, .data, .data, .data, .handle, .sentinel, .sentinel, .data, .sentinel, .sentinel, .sentinel, .sentinel, .sentinel, .sentinel, .sentinel, .pinned], laidTests := true, laidLooks := .later }
def BoxInsideCardSaid : Prop := Claim7.holds Tryz.pinned (.plain (OpenSpec.ofChange boxInsideSpec)) boxInsideCard

/-- THE TIED CARD OF 'panelaw.BoxApart'. -/
def boxApartCard : Claim7 := { stood := { row := boxApartRow, standIns := [], harness := (true, "422034ca41f3e267856382c08ff3f65ecb858e3bb538f3378d2f16da259499aa"), looks := true }, kinds := [], alts := [], laidByText := true, laidKinds := [.data, .data, .data, .data, .data, .handle, .sentinel, .sentinel, .data, .sentinel, .sentinel, .sentinel, .sentinel, .sentinel, .sentinel, .sentinel, .pinned], laidTests := true, laidLooks := .later }
def BoxApartCardSaid : Prop := Claim7.holds Tryz.pinned (.plain (OpenSpec.ofChange boxApartSpec)) boxApartCard

/-- THE TIED CARD OF 'panelaw.BoxTiles'. -/
def boxTilesCard : Claim7 := { stood := { row := boxTilesRow, standIns := [], harness := (true, "422034ca41f3e267856382c08ff3f65ecb858e3bb538f3378d2f16da259499aa"), looks := true }, kinds := [], alts := [], laidByText := true, laidKinds := [.data, .data, .data, .data, .data, .handle, .sentinel, .sentinel, .data, .sentinel, .sentinel, .sentinel, .sentinel, .sentinel, .sentinel, .sentinel, .pinned], laidTests := true, laidLooks := .later }
def BoxTilesCardSaid : Prop := Claim7.holds Tryz.pinned (.plain (OpenSpec.ofChange boxTilesSpec)) boxTilesCard

/-- THE TIED CARD OF 'panelaw.BoxScrolls'. -/
def boxScrollsCard : Claim7 := { stood := { row := boxScrollsRow, standIns := [], harness := (true, "422034ca41f3e267856382c08ff3f65ecb858e3bb538f3378d2f16da259499aa"), looks := true }, kinds := [], alts := [], laidByText := true, laidKinds := [.data, .data, .data, .data, .data, .handle, .sentinel, .sentinel, .data, .sentinel, .sentinel, .sentinel, .sentinel, .sentinel, .sentinel, .sentinel, .pinned], laidTests := true, laidLooks := .later }
def BoxScrollsCardSaid : Prop := Claim7.holds Tryz.pinned (.plain (OpenSpec.ofChange boxScrollsSpec)) boxScrollsCard

/-- THE SECOND FORM's CARD OF 'panelaw.BoxInside'. -/
def boxInsideUptoCard : Claim7 := { stood := { row := boxInsideUptoRow, standIns := [], harness := (true, "422034ca41f3e267856382c08ff3f65ecb858e3bb538f3378d2f16da259499aa"), looks := true }, kinds := [], alts := [], laidByText := true, laidKinds := [.data, .data, .data, .data, .data, .handle, .sentinel, .sentinel, .data, .sentinel, .sentinel, .sentinel, .sentinel, .sentinel, .sentinel, .sentinel, .pinned], laidTests := true, laidLooks := .later }
def BoxInsideUptoCardSaid : Prop := Claim7.holds Tryz.pinned (.plain (OpenSpec.upto boxInsideSpec)) boxInsideUptoCard

/-- THE SECOND FORM's CARD OF 'panelaw.BoxApart'. -/
def boxApartUptoCard : Claim7 := { stood := { row := boxApartUptoRow, standIns := [], harness := (true, "422034ca41f3e267856382c08ff3f65ecb858e3bb538f3378d2f16da259499aa"), looks := true }, kinds := [], alts := [], laidByText := true, laidKinds := [.data, .data, .data, .data, .data, .handle, .sentinel, .sentinel, .data, .sentinel, .sentinel, .sentinel, .sentinel, .sentinel, .sentinel, .sentinel, .pinned], laidTests := true, laidLooks := .later }
def BoxApartUptoCardSaid : Prop := Claim7.holds Tryz.pinned (.plain (OpenSpec.upto boxApartSpec)) boxApartUptoCard

/-- THE SECOND FORM's CARD OF 'panelaw.BoxTiles'. -/
def boxTilesUptoCard : Claim7 := { stood := { row := boxTilesUptoRow, standIns := [], harness := (true, "422034ca41f3e267856382c08ff3f65ecb858e3bb538f3378d2f16da259499aa"), looks := true }, kinds := [], alts := [], laidByText := true, laidKinds := [.data, .data, .data, .data, .data, .handle, .sentinel, .sentinel, .data, .sentinel, .sentinel, .sentinel, .sentinel, .sentinel, .sentinel, .sentinel, .pinned], laidTests := true, laidLooks := .later }
def BoxTilesUptoCardSaid : Prop := Claim7.holds Tryz.pinned (.plain (OpenSpec.upto boxTilesSpec)) boxTilesUptoCard

/-- THE SECOND FORM's CARD OF 'panelaw.BoxScrolls'. -/
def boxScrollsUptoCard : Claim7 := { stood := { row := boxScrollsUptoRow, standIns := [], harness := (true, "422034ca41f3e267856382c08ff3f65ecb858e3bb538f3378d2f16da259499aa"), looks := true }, kinds := [], alts := [], laidByText := true, laidKinds := [.data, .data, .data, .data, .data, .handle, .sentinel, .sentinel, .data, .sentinel, .sentinel, .sentinel, .sentinel, .sentinel, .sentinel, .sentinel, .pinned], laidTests := true, laidLooks := .later }
def BoxScrollsUptoCardSaid : Prop := Claim7.holds Tryz.pinned (.plain (OpenSpec.upto boxScrollsSpec)) boxScrollsUptoCard
end Rows
end Go.Proofs.YtmmaicpblnjdcaaGreatDoor
