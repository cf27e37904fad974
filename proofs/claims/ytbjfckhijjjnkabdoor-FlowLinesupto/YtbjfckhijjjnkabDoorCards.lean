/-
  DERIVED. GIVEN WITH THE SEED: THE CARDS: each row of YtbjfckhijjjnkabDoorRows.lean that lists a variable, with what it lists TIED to the program's text (the seventh form; the later family's looks); each row that meets fmt, with fmt's text TOLD by the authors' own Lean function (tested against real Go, not proved from fmt's source: count such statements apart). THE CARD IS WHAT COUNTS. Prove the row's statement (the work); the ties are given (YtbjfckhijjjnkabDoorTie.lean); close each card by the builder's one call (the guide's Derived/Test/ToyasCard.lean, 'card_holds'). Laid BY PROGRAM, IN A SANDBOX (cutbox-door.mjs). By AI agents, Wed Nov 11 2026. No macro, syntax, notation, axiom, sorry.
-/
import Derived.Test.YtbjfckhijjjnkabDoorRows
import GoSem.ClaimSeven
namespace Go.Proofs.YtbjfckhijjjnkabDoor
namespace Rows

/-- THE TIED CARD OF 'panelaw.GlyphParted'. -/
def glyphPartedCard : Claim7 := { stood := { row := glyphPartedRow, standIns := [], harness := (true, "c9b3d0c5e7177f2faac488490e38b14f094fd5e72146a926c3ba38623199c393"), looks := false }, kinds := [], alts := [], laidByText := true, laidKinds := [.data], laidTests := true, laidLooks := .later }
def GlyphPartedCardSaid : Prop := Claim7.holds Tryd.pinned (.plain (OpenSpec.ofChange glyphPartedSpec)) glyphPartedCard

/-- THE TIED CARD OF 'panelaw.FlowLines'. -/
def flowLinesCard : Claim7 := { stood := { row := flowLinesRow, standIns := [], harness := (true, "c9b3d0c5e7177f2faac488490e38b14f094fd5e72146a926c3ba38623199c393"), looks := false }, kinds := [], alts := [], laidByText := true, laidKinds := [.data], laidTests := true, laidLooks := .later }
def FlowLinesCardSaid : Prop := Claim7.holds Tryd.pinned (.plain (OpenSpec.ofChange flowLinesSpec)) flowLinesCard

/-- THE TIED CARD OF 'panelaw.FlowAligns'. -/
def flowAlignsCard : Claim7 := { stood := { row := flowAlignsRow, standIns := [], harness := (true, "c9b3d0c5e7177f2faac488490e38b14f094fd5e72146a926c3ba38623199c393"), looks := false }, kinds := [], alts := [], laidByText := true, laidKinds := [.data], laidTests := true, laidLooks := .later }
def FlowAlignsCardSaid : Prop := Claim7.holds Tryd.pinned (.plain (OpenSpec.ofChange flowAlignsSpec)) flowAlignsCard

/-- THE TIED CARD OF 'panelaw.FlowCuts'. -/
def flowCutsCard : Claim7 := { stood := { row := flowCutsRow, standIns := [], harness := (true, "c9b3d0c5e7177f2faac488490e38b14f094fd5e72146a926c3ba38623199c393"), looks := false }, kinds := [], alts := [], laidByText := true, laidKinds := [.data], laidTests := true, laidLooks := .later }
def FlowCutsCardSaid : Prop := Claim7.holds Tryd.pinned (.plain (OpenSpec.ofChange flowCutsSpec)) flowCutsCard

/-- THE TIED CARD OF 'panelaw.FlowFits'. -/
def flowFitsCard : Claim7 := { stood := { row := flowFitsRow, standIns := [], harness := (true, "c9b3d0c5e7177f2faac488490e38b14f094fd5e72146a926c3ba38623199c393"), looks := false }, kinds := [], alts := [], laidByText := true, laidKinds := [.data], laidTests := true, laidLooks := .later }
def FlowFitsCardSaid : Prop := Claim7.holds Tryd.pinned (.plain (OpenSpec.ofChange flowFitsSpec)) flowFitsCard

/-- THE TIED CARD OF 'panelaw.FlowWhole'. -/
def flowWholeCard : Claim7 := { stood := { row := flowWholeRow, standIns := [], harness := (true, "c9b3d0c5e7177f2faac488490e38b14f094fd5e72146a926c3ba38623199c393"), looks := false }, kinds := [], alts := [], laidByText := true, laidKinds := [.data], laidTests := true, laidLooks := .later }
def FlowWholeCardSaid : Prop := Claim7.holds Tryd.pinned (.plain (OpenSpec.ofChange flowWholeSpec)) flowWholeCard

/-- THE SECOND FORM's CARD OF 'panelaw.GlyphParted'. -/
def glyphPartedUptoCard : Claim7 := { stood := { row := glyphPartedUptoRow, standIns := [], harness := (true, "c9b3d0c5e7177f2faac488490e38b14f094fd5e72146a926c3ba38623199c393"), looks := false }, kinds := [], alts := [], laidByText := true, laidKinds := [.data], laidTests := true, laidLooks := .later }
def GlyphPartedUptoCardSaid : Prop := Claim7.holds Tryd.pinned (.plain (OpenSpec.upto glyphPartedSpec)) glyphPartedUptoCard

/-- THE SECOND FORM's CARD OF 'panelaw.FlowLines'. -/
def flowLinesUptoCard : Claim7 := { stood := { row := flowLinesUptoRow, standIns := [], harness := (true, "c9b3d0c5e7177f2faac488490e38b14f094fd5e72146a926c3ba38623199c393"), looks := false }, kinds := [], alts := [], laidByText := true, laidKinds := [.data], laidTests := true, laidLooks := .later }
def FlowLinesUptoCardSaid : Prop := Claim7.holds Tryd.pinned (.plain (OpenSpec.upto flowLinesSpec)) flowLinesUptoCard

/-- THE SECOND FORM's CARD OF 'panelaw.FlowAligns'. -/
def flowAlignsUptoCard : Claim7 := { stood := { row := flowAlignsUptoRow, standIns := [], harness := (true, "c9b3d0c5e7177f2faac488490e38b14f094fd5e72146a926c3ba38623199c393"), looks := false }, kinds := [], alts := [], laidByText := true, laidKinds := [.data], laidTests := true, laidLooks := .later }
def FlowAlignsUptoCardSaid : Prop := Claim7.holds Tryd.pinned (.plain (OpenSpec.upto flowAlignsSpec)) flowAlignsUptoCard

/-- THE SECOND FORM's CARD OF 'panelaw.FlowCuts'. -/
def flowCutsUptoCard : Claim7 := { stood := { row := flowCutsUptoRow, standIns := [], harness := (true, "c9b3d0c5e7177f2faac488490e38b14f094fd5e72146a926c3ba38623199c393"), looks := false }, kinds := [], alts := [], laidByText := true, laidKinds := [.data], laidTests := true, laidLooks := .later }
def FlowCutsUptoCardSaid : Prop := Claim7.holds Tryd.pinned (.plain (OpenSpec.upto flowCutsSpec)) flowCutsUptoCard

/-- THE SECOND FORM's CARD OF 'panelaw.FlowFits'. -/
def flowFitsUptoCard : Claim7 := { stood := { row := flowFitsUptoRow, standIns := [], harness := (true, "c9b3d0c5e7177f2faac488490e38b14f094fd5e72146a926c3ba38623199c393"), looks := false }, kinds := [], alts := [], laidByText := true, laidKinds := [.data], laidTests := true, laidLooks := .later }
def FlowFitsUptoCardSaid : Prop := Claim7.holds Tryd.pinned (.plain (OpenSpec.upto flowFitsSpec)) flowFitsUptoCard

/-- THE SECOND FORM's CARD OF 'panelaw.FlowWhole'. -/
def flowWholeUptoCard : Claim7 := { stood := { row := flowWholeUptoRow, standIns := [], harness := (true, "c9b3d0c5e7177f2faac488490e38b14f094fd5e72146a926c3ba38623199c393"), looks := false }, kinds := [], alts := [], laidByText := true, laidKinds := [.data], laidTests := true, laidLooks := .later }
def FlowWholeUptoCardSaid : Prop := Claim7.holds Tryd.pinned (.plain (OpenSpec.upto flowWholeSpec)) flowWholeUptoCard
end Rows
end Go.Proofs.YtbjfckhijjjnkabDoor
