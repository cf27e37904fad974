/-
  DERIVED. GIVEN WITH THE SEED: THE CARDS: each row of YtdpinmlbccolnaiDoorRows.lean that lists a variable, with what it lists TIED to the program's text (the seventh form; the later family's looks); each row that meets fmt, with fmt's text TOLD by the authors' own Lean function (tested against real Go, not proved from fmt's source: count such statements apart). THE CARD IS WHAT COUNTS. Prove the row's statement (the work); the ties are given (YtdpinmlbccolnaiDoorTie.lean); close each card by the builder's one call (the guide's Derived/Test/ToyasCard.lean, 'card_holds'). Laid BY PROGRAM, IN A SANDBOX (cutbox-door.mjs). By AI agents, Wed Nov 11 2026. No macro, syntax, notation, axiom, sorry.
-/
import Derived.Test.YtdpinmlbccolnaiDoorRows
import GoSem.ClaimSeven
namespace Go.Proofs.YtdpinmlbccolnaiDoor
namespace Rows

/-- THE TIED CARD OF 'panelaw.TermCut'. -/
def termCutCard : Claim7 := { stood := { row := termCutRow, standIns := [], harness := (true, "3ce6de3f39628cda52aa13c3568d92c0edc5f8b4e5d85da0004badd6f11eade7"), looks := false }, kinds := [], alts := [], laidByText := true, laidKinds := [.data, .data, .pinned], laidTests := true, laidLooks := .later }
def TermCutCardSaid : Prop := Claim7.holds Tryd.pinned (.plain (OpenSpec.ofChange termCutSpec)) termCutCard

/-- THE TIED CARD OF 'panelaw.TermKeeps'. -/
def termKeepsCard : Claim7 := { stood := { row := termKeepsRow, standIns := [], harness := (true, "3ce6de3f39628cda52aa13c3568d92c0edc5f8b4e5d85da0004badd6f11eade7"), looks := false }, kinds := [], alts := [], laidByText := true, laidKinds := [.data, .data, .pinned], laidTests := true, laidLooks := .later }
def TermKeepsCardSaid : Prop := Claim7.holds Tryd.pinned (.plain (OpenSpec.ofChange termKeepsSpec)) termKeepsCard

/-- THE TIED CARD OF 'panelaw.TermFresh'. -/
def termFreshCard : Claim7 := { stood := { row := termFreshRow, standIns := [], harness := (true, "3ce6de3f39628cda52aa13c3568d92c0edc5f8b4e5d85da0004badd6f11eade7"), looks := false }, kinds := [], alts := [], laidByText := true, laidKinds := [.data, .data, .pinned], laidTests := true, laidLooks := .later }
def TermFreshCardSaid : Prop := Claim7.holds Tryd.pinned (.plain (OpenSpec.ofChange termFreshSpec)) termFreshCard

/-- THE TIED CARD OF 'panelaw.TermPrints'. -/
def termPrintsCard : Claim7 := { stood := { row := termPrintsRow, standIns := [], harness := (true, "3ce6de3f39628cda52aa13c3568d92c0edc5f8b4e5d85da0004badd6f11eade7"), looks := false }, kinds := [], alts := [], laidByText := true, laidKinds := [.data, .data, .pinned], laidTests := true, laidLooks := .later }
def TermPrintsCardSaid : Prop := Claim7.holds Tryd.pinned (.plain (OpenSpec.ofChange termPrintsSpec)) termPrintsCard

/-- THE TIED CARD OF 'panelaw.DifferSounds'. -/
def differSoundsCard : Claim7 := { stood := { row := differSoundsRow, standIns := [], harness := (true, "3ce6de3f39628cda52aa13c3568d92c0edc5f8b4e5d85da0004badd6f11eade7"), looks := false }, kinds := [], alts := [], laidByText := true, laidKinds := [.data], laidTests := true, laidLooks := .later }
def DifferSoundsCardSaid : Prop := Claim7.holds Tryd.pinned (.plain (OpenSpec.ofChange differSoundsSpec)) differSoundsCard

/-- THE TIED CARD OF 'panelaw.DifferShows'. -/
def differShowsCard : Claim7 := { stood := { row := differShowsRow, standIns := [], harness := (true, "3ce6de3f39628cda52aa13c3568d92c0edc5f8b4e5d85da0004badd6f11eade7"), looks := false }, kinds := [], alts := [], laidByText := true, laidKinds := [.data, .data, .data, .data], laidTests := true, laidLooks := .later }
def DifferShowsCardSaid : Prop := Claim7.holds Tryd.pinned (.plain (OpenSpec.ofChange differShowsSpec)) differShowsCard

/-- THE SECOND FORM's CARD OF 'panelaw.TermCut'. -/
def termCutUptoCard : Claim7 := { stood := { row := termCutUptoRow, standIns := [], harness := (true, "3ce6de3f39628cda52aa13c3568d92c0edc5f8b4e5d85da0004badd6f11eade7"), looks := false }, kinds := [], alts := [], laidByText := true, laidKinds := [.data, .data, .pinned], laidTests := true, laidLooks := .later }
def TermCutUptoCardSaid : Prop := Claim7.holds Tryd.pinned (.plain (OpenSpec.upto termCutSpec)) termCutUptoCard

/-- THE SECOND FORM's CARD OF 'panelaw.TermKeeps'. -/
def termKeepsUptoCard : Claim7 := { stood := { row := termKeepsUptoRow, standIns := [], harness := (true, "3ce6de3f39628cda52aa13c3568d92c0edc5f8b4e5d85da0004badd6f11eade7"), looks := false }, kinds := [], alts := [], laidByText := true, laidKinds := [.data, .data, .pinned], laidTests := true, laidLooks := .later }
def TermKeepsUptoCardSaid : Prop := Claim7.holds Tryd.pinned (.plain (OpenSpec.upto termKeepsSpec)) termKeepsUptoCard

/-- THE SECOND FORM's CARD OF 'panelaw.TermFresh'. -/
def termFreshUptoCard : Claim7 := { stood := { row := termFreshUptoRow, standIns := [], harness := (true, "3ce6de3f39628cda52aa13c3568d92c0edc5f8b4e5d85da0004badd6f11eade7"), looks := false }, kinds := [], alts := [], laidByText := true, laidKinds := [.data, .data, .pinned], laidTests := true, laidLooks := .later }
def TermFreshUptoCardSaid : Prop := Claim7.holds Tryd.pinned (.plain (OpenSpec.upto termFreshSpec)) termFreshUptoCard

/-- THE SECOND FORM's CARD OF 'panelaw.TermPrints'. -/
def termPrintsUptoCard : Claim7 := { stood := { row := termPrintsUptoRow, standIns := [], harness := (true, "3ce6de3f39628cda52aa13c3568d92c0edc5f8b4e5d85da0004badd6f11eade7"), looks := false }, kinds := [], alts := [], laidByText := true, laidKinds := [.data, .data, .pinned], laidTests := true, laidLooks := .later }
def TermPrintsUptoCardSaid : Prop := Claim7.holds Tryd.pinned (.plain (OpenSpec.upto termPrintsSpec)) termPrintsUptoCard

/-- THE SECOND FORM's CARD OF 'panelaw.DifferSounds'. -/
def differSoundsUptoCard : Claim7 := { stood := { row := differSoundsUptoRow, standIns := [], harness := (true, "3ce6de3f39628cda52aa13c3568d92c0edc5f8b4e5d85da0004badd6f11eade7"), looks := false }, kinds := [], alts := [], laidByText := true, laidKinds := [.data], laidTests := true, laidLooks := .later }
def DifferSoundsUptoCardSaid : Prop := Claim7.holds Tryd.pinned (.plain (OpenSpec.upto differSoundsSpec)) differSoundsUptoCard

/-- THE SECOND FORM's CARD OF 'panelaw.DifferShows'. -/
def differShowsUptoCard : Claim7 := { stood := { row := differShowsUptoRow, standIns := [], harness := (true, "3ce6de3f39628cda52aa13c3568d92c0edc5f8b4e5d85da0004badd6f11eade7"), looks := false }, kinds := [], alts := [], laidByText := true, laidKinds := [.data, .data, .data, .data], laidTests := true, laidLooks := .later }
def DifferShowsUptoCardSaid : Prop := Claim7.holds Tryd.pinned (.plain (OpenSpec.upto differShowsSpec)) differShowsUptoCard
end Rows
end Go.Proofs.YtdpinmlbccolnaiDoor
