/-
  DERIVED. GIVEN WITH THE SEED: THE CARDS: each row of YtlioofikfgdnmaaDoorRows.lean that lists a variable, with what it lists TIED to the program's text (the seventh form; the later family's looks); each row that meets fmt, with fmt's text TOLD by the authors' own Lean function (tested against real Go, not proved from fmt's source: count such statements apart). THE CARD IS WHAT COUNTS. Prove the row's statement (the work); the ties are given (YtlioofikfgdnmaaDoorTie.lean); close each card by the builder's one call (the guide's Derived/Test/ToyasCard.lean, 'card_holds'). Laid BY PROGRAM, IN A SANDBOX (cutbox-door.mjs). By AI agents, Wed Nov 11 2026. No macro, syntax, notation, axiom, sorry.
-/
import Derived.Test.YtlioofikfgdnmaaDoorRows
import GoSem.ClaimSeven
namespace Go.Proofs.YtlioofikfgdnmaaDoor
namespace Rows

/-- THE TIED CARD OF 'panelaw.GlyphWidths'. -/
def glyphWidthsCard : Claim7 := { stood := { row := glyphWidthsRow, standIns := [], harness := (true, "ecdc16e840b0630ea46f23e79845a7ec68fc62d982d84407933a37cfe5327063"), looks := false }, kinds := [], alts := [], laidByText := true, laidKinds := [.data], laidTests := true, laidLooks := .later }
def GlyphWidthsCardSaid : Prop := Claim7.holds Tryd.pinned (.plain (OpenSpec.ofChange glyphWidthsSpec)) glyphWidthsCard

/-- THE TIED CARD OF 'panelaw.GlyphClusters'. -/
def glyphClustersCard : Claim7 := { stood := { row := glyphClustersRow, standIns := [], harness := (true, "ecdc16e840b0630ea46f23e79845a7ec68fc62d982d84407933a37cfe5327063"), looks := false }, kinds := [], alts := [], laidByText := true, laidKinds := [.data], laidTests := true, laidLooks := .later }
def GlyphClustersCardSaid : Prop := Claim7.holds Tryd.pinned (.plain (OpenSpec.ofChange glyphClustersSpec)) glyphClustersCard

/-- THE TIED CARD OF 'panelaw.GlyphJoined'. -/
def glyphJoinedCard : Claim7 := { stood := { row := glyphJoinedRow, standIns := [], harness := (true, "ecdc16e840b0630ea46f23e79845a7ec68fc62d982d84407933a37cfe5327063"), looks := false }, kinds := [], alts := [], laidByText := true, laidKinds := [.data], laidTests := true, laidLooks := .later }
def GlyphJoinedCardSaid : Prop := Claim7.holds Tryd.pinned (.plain (OpenSpec.ofChange glyphJoinedSpec)) glyphJoinedCard

/-- THE SECOND FORM's CARD OF 'panelaw.GlyphWidths'. -/
def glyphWidthsUptoCard : Claim7 := { stood := { row := glyphWidthsUptoRow, standIns := [], harness := (true, "ecdc16e840b0630ea46f23e79845a7ec68fc62d982d84407933a37cfe5327063"), looks := false }, kinds := [], alts := [], laidByText := true, laidKinds := [.data], laidTests := true, laidLooks := .later }
def GlyphWidthsUptoCardSaid : Prop := Claim7.holds Tryd.pinned (.plain (OpenSpec.upto glyphWidthsSpec)) glyphWidthsUptoCard

/-- THE SECOND FORM's CARD OF 'panelaw.GlyphClusters'. -/
def glyphClustersUptoCard : Claim7 := { stood := { row := glyphClustersUptoRow, standIns := [], harness := (true, "ecdc16e840b0630ea46f23e79845a7ec68fc62d982d84407933a37cfe5327063"), looks := false }, kinds := [], alts := [], laidByText := true, laidKinds := [.data], laidTests := true, laidLooks := .later }
def GlyphClustersUptoCardSaid : Prop := Claim7.holds Tryd.pinned (.plain (OpenSpec.upto glyphClustersSpec)) glyphClustersUptoCard

/-- THE SECOND FORM's CARD OF 'panelaw.GlyphJoined'. -/
def glyphJoinedUptoCard : Claim7 := { stood := { row := glyphJoinedUptoRow, standIns := [], harness := (true, "ecdc16e840b0630ea46f23e79845a7ec68fc62d982d84407933a37cfe5327063"), looks := false }, kinds := [], alts := [], laidByText := true, laidKinds := [.data], laidTests := true, laidLooks := .later }
def GlyphJoinedUptoCardSaid : Prop := Claim7.holds Tryd.pinned (.plain (OpenSpec.upto glyphJoinedSpec)) glyphJoinedUptoCard
end Rows
end Go.Proofs.YtlioofikfgdnmaaDoor
