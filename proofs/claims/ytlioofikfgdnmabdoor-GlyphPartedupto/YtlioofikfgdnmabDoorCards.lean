/-
  DERIVED. GIVEN WITH THE SEED: THE CARDS: each row of YtlioofikfgdnmabDoorRows.lean that lists a variable, with what it lists TIED to the program's text (the seventh form; the later family's looks); each row that meets fmt, with fmt's text TOLD by the authors' own Lean function (tested against real Go, not proved from fmt's source: count such statements apart). THE CARD IS WHAT COUNTS. Prove the row's statement (the work); the ties are given (YtlioofikfgdnmabDoorTie.lean); close each card by the builder's one call (the guide's Derived/Test/ToyasCard.lean, 'card_holds'). Laid BY PROGRAM, IN A SANDBOX (cutbox-door.mjs). By AI agents, Wed Nov 11 2026. No macro, syntax, notation, axiom, sorry.
-/
import Derived.Test.YtlioofikfgdnmabDoorRows
import GoSem.ClaimSeven
namespace Go.Proofs.YtlioofikfgdnmabDoor
namespace Rows

/-- THE TIED CARD OF 'panelaw.GlyphParted'. -/
def glyphPartedCard : Claim7 := { stood := { row := glyphPartedRow, standIns := [], harness := (true, "334885d63f0011257736e57d710b25920937f491cf75b4442ec64f516bd684df"), looks := false }, kinds := [], alts := [], laidByText := true, laidKinds := [.data], laidTests := true, laidLooks := .later }
def GlyphPartedCardSaid : Prop := Claim7.holds Tryd.pinned (.plain (OpenSpec.ofChange glyphPartedSpec)) glyphPartedCard

/-- THE SECOND FORM's CARD OF 'panelaw.GlyphParted'. -/
def glyphPartedUptoCard : Claim7 := { stood := { row := glyphPartedUptoRow, standIns := [], harness := (true, "334885d63f0011257736e57d710b25920937f491cf75b4442ec64f516bd684df"), looks := false }, kinds := [], alts := [], laidByText := true, laidKinds := [.data], laidTests := true, laidLooks := .later }
def GlyphPartedUptoCardSaid : Prop := Claim7.holds Tryd.pinned (.plain (OpenSpec.upto glyphPartedSpec)) glyphPartedUptoCard
end Rows
end Go.Proofs.YtlioofikfgdnmabDoor
