/-
  DERIVED. GIVEN WITH THE SEED: THE CARDS: each row of YtgaogkggbccfnaaDoorRows.lean that lists a variable, with what it lists TIED to the program's text (the seventh form; the later family's looks); each row that meets fmt, with fmt's text TOLD by the authors' own Lean function (tested against real Go, not proved from fmt's source: count such statements apart). THE CARD IS WHAT COUNTS. Prove the row's statement (the work); the ties are given (YtgaogkggbccfnaaDoorTie.lean); close each card by the builder's one call (the guide's Derived/Test/ToyasCard.lean, 'card_holds'). Laid BY PROGRAM, IN A SANDBOX (cutbox-door.mjs). By AI agents, Wed Nov 11 2026. No macro, syntax, notation, axiom, sorry.
-/
import Derived.Test.YtgaogkggbccfnaaDoorRows
import GoSem.ClaimSeven
namespace Go.Proofs.YtgaogkggbccfnaaDoor
namespace Rows

/-- THE TIED CARD OF 'panelaw.TermPlays'. -/
def termPlaysCard : Claim7 := { stood := { row := termPlaysRow, standIns := [], harness := (true, "d4eb04c7cacc99c6f97083c1208ace59653405032d423c9c4c0ff762302940cb"), looks := false }, kinds := [], alts := [], laidByText := true, laidKinds := [.data, .data, .pinned], laidTests := true, laidLooks := .later }
def TermPlaysCardSaid : Prop := Claim7.holds Tryd.pinned (.plain (OpenSpec.ofChange termPlaysSpec)) termPlaysCard

/-- THE TIED CARD OF 'panelaw.TermCut'. -/
def termCutCard : Claim7 := { stood := { row := termCutRow, standIns := [], harness := (true, "d4eb04c7cacc99c6f97083c1208ace59653405032d423c9c4c0ff762302940cb"), looks := false }, kinds := [], alts := [], laidByText := true, laidKinds := [.data, .data, .pinned], laidTests := true, laidLooks := .later }
def TermCutCardSaid : Prop := Claim7.holds Tryd.pinned (.plain (OpenSpec.ofChange termCutSpec)) termCutCard

/-- THE TIED CARD OF 'panelaw.TermKeeps'. -/
def termKeepsCard : Claim7 := { stood := { row := termKeepsRow, standIns := [], harness := (true, "d4eb04c7cacc99c6f97083c1208ace59653405032d423c9c4c0ff762302940cb"), looks := false }, kinds := [], alts := [], laidByText := true, laidKinds := [.data, .data, .pinned], laidTests := true, laidLooks := .later }
def TermKeepsCardSaid : Prop := Claim7.holds Tryd.pinned (.plain (OpenSpec.ofChange termKeepsSpec)) termKeepsCard

/-- THE TIED CARD OF 'panelaw.TermFresh'. -/
def termFreshCard : Claim7 := { stood := { row := termFreshRow, standIns := [], harness := (true, "d4eb04c7cacc99c6f97083c1208ace59653405032d423c9c4c0ff762302940cb"), looks := false }, kinds := [], alts := [], laidByText := true, laidKinds := [.data, .data, .pinned], laidTests := true, laidLooks := .later }
def TermFreshCardSaid : Prop := Claim7.holds Tryd.pinned (.plain (OpenSpec.ofChange termFreshSpec)) termFreshCard

/-- THE TIED CARD OF 'panelaw.TermPrints'. -/
def termPrintsCard : Claim7 := { stood := { row := termPrintsRow, standIns := [], harness := (true, "d4eb04c7cacc99c6f97083c1208ace59653405032d423c9c4c0ff762302940cb"), looks := false }, kinds := [], alts := [], laidByText := true, laidKinds := [.data, .data, .pinned], laidTests := true, laidLooks := .later }
def TermPrintsCardSaid : Prop := Claim7.holds Tryd.pinned (.plain (OpenSpec.ofChange termPrintsSpec)) termPrintsCard

/-- THE SECOND FORM's CARD OF 'panelaw.TermPlays'. -/
def termPlaysUptoCard : Claim7 := { stood := { row := termPlaysUptoRow, standIns := [], harness := (true, "d4eb04c7cacc99c6f97083c1208ace59653405032d423c9c4c0ff762302940cb"), looks := false }, kinds := [], alts := [], laidByText := true, laidKinds := [.data, .data, .pinned], laidTests := true, laidLooks := .later }
def TermPlaysUptoCardSaid : Prop := Claim7.holds Tryd.pinned (.plain (OpenSpec.upto termPlaysSpec)) termPlaysUptoCard

/-- THE SECOND FORM's CARD OF 'panelaw.TermCut'. -/
def termCutUptoCard : Claim7 := { stood := { row := termCutUptoRow, standIns := [], harness := (true, "d4eb04c7cacc99c6f97083c1208ace59653405032d423c9c4c0ff762302940cb"), looks := false }, kinds := [], alts := [], laidByText := true, laidKinds := [.data, .data, .pinned], laidTests := true, laidLooks := .later }
def TermCutUptoCardSaid : Prop := Claim7.holds Tryd.pinned (.plain (OpenSpec.upto termCutSpec)) termCutUptoCard

/-- THE SECOND FORM's CARD OF 'panelaw.TermKeeps'. -/
def termKeepsUptoCard : Claim7 := { stood := { row := termKeepsUptoRow, standIns := [], harness := (true, "d4eb04c7cacc99c6f97083c1208ace59653405032d423c9c4c0ff762302940cb"), looks := false }, kinds := [], alts := [], laidByText := true, laidKinds := [.data, .data, .pinned], laidTests := true, laidLooks := .later }
def TermKeepsUptoCardSaid : Prop := Claim7.holds Tryd.pinned (.plain (OpenSpec.upto termKeepsSpec)) termKeepsUptoCard

/-- THE SECOND FORM's CARD OF 'panelaw.TermFresh'. -/
def termFreshUptoCard : Claim7 := { stood := { row := termFreshUptoRow, standIns := [], harness := (true, "d4eb04c7cacc99c6f97083c1208ace59653405032d423c9c4c0ff762302940cb"), looks := false }, kinds := [], alts := [], laidByText := true, laidKinds := [.data, .data, .pinned], laidTests := true, laidLooks := .later }
def TermFreshUptoCardSaid : Prop := Claim7.holds Tryd.pinned (.plain (OpenSpec.upto termFreshSpec)) termFreshUptoCard

/-- THE SECOND FORM's CARD OF 'panelaw.TermPrints'. -/
def termPrintsUptoCard : Claim7 := { stood := { row := termPrintsUptoRow, standIns := [], harness := (true, "d4eb04c7cacc99c6f97083c1208ace59653405032d423c9c4c0ff762302940cb"), looks := false }, kinds := [], alts := [], laidByText := true, laidKinds := [.data, .data, .pinned], laidTests := true, laidLooks := .later }
def TermPrintsUptoCardSaid : Prop := Claim7.holds Tryd.pinned (.plain (OpenSpec.upto termPrintsSpec)) termPrintsUptoCard
end Rows
end Go.Proofs.YtgaogkggbccfnaaDoor
