/-
  DERIVED. GIVEN WITH THE SEED: THE CARDS: each row of YtbjfckhijjjnkacDoorRows.lean that lists a variable, with what it lists TIED to the program's text (the seventh form; the later family's looks); each row that meets fmt, with fmt's text TOLD by the authors' own Lean function (tested against real Go, not proved from fmt's source: count such statements apart). THE CARD IS WHAT COUNTS. Prove the row's statement (the work); the ties are given (YtbjfckhijjjnkacDoorTie.lean); close each card by the builder's one call (the guide's Derived/Test/ToyasCard.lean, 'card_holds'). Laid BY PROGRAM, IN A SANDBOX (cutbox-door.mjs). By AI agents, Wed Nov 11 2026. No macro, syntax, notation, axiom, sorry.
-/
import Derived.Test.YtbjfckhijjjnkacDoorRows
import GoSem.ClaimSeven
namespace Go.Proofs.YtbjfckhijjjnkacDoor
namespace Rows

/-- THE TIED CARD OF 'panelaw.FlowGreedy'. -/
def flowGreedyCard : Claim7 := { stood := { row := flowGreedyRow, standIns := [], harness := (true, "abe0f481b2719e99a600ee6bc7de27195b9e6429346f8aee50cce57ab53ed4d7"), looks := false }, kinds := [], alts := [], laidByText := true, laidKinds := [.data], laidTests := true, laidLooks := .later }
def FlowGreedyCardSaid : Prop := Claim7.holds Tryd.pinned (.plain (OpenSpec.ofChange flowGreedySpec)) flowGreedyCard

/-- THE TIED CARD OF 'panelaw.FlowFewer'. -/
def flowFewerCard : Claim7 := { stood := { row := flowFewerRow, standIns := [], harness := (true, "abe0f481b2719e99a600ee6bc7de27195b9e6429346f8aee50cce57ab53ed4d7"), looks := false }, kinds := [], alts := [], laidByText := true, laidKinds := [.data], laidTests := true, laidLooks := .later }
def FlowFewerCardSaid : Prop := Claim7.holds Tryd.pinned (.plain (OpenSpec.ofChange flowFewerSpec)) flowFewerCard

/-- THE TIED CARD OF 'panelaw.FlowShort'. -/
def flowShortCard : Claim7 := { stood := { row := flowShortRow, standIns := [], harness := (true, "abe0f481b2719e99a600ee6bc7de27195b9e6429346f8aee50cce57ab53ed4d7"), looks := false }, kinds := [], alts := [], laidByText := true, laidKinds := [.data], laidTests := true, laidLooks := .later }
def FlowShortCardSaid : Prop := Claim7.holds Tryd.pinned (.plain (OpenSpec.ofChange flowShortSpec)) flowShortCard

/-- THE SECOND FORM's CARD OF 'panelaw.FlowGreedy'. -/
def flowGreedyUptoCard : Claim7 := { stood := { row := flowGreedyUptoRow, standIns := [], harness := (true, "abe0f481b2719e99a600ee6bc7de27195b9e6429346f8aee50cce57ab53ed4d7"), looks := false }, kinds := [], alts := [], laidByText := true, laidKinds := [.data], laidTests := true, laidLooks := .later }
def FlowGreedyUptoCardSaid : Prop := Claim7.holds Tryd.pinned (.plain (OpenSpec.upto flowGreedySpec)) flowGreedyUptoCard

/-- THE SECOND FORM's CARD OF 'panelaw.FlowFewer'. -/
def flowFewerUptoCard : Claim7 := { stood := { row := flowFewerUptoRow, standIns := [], harness := (true, "abe0f481b2719e99a600ee6bc7de27195b9e6429346f8aee50cce57ab53ed4d7"), looks := false }, kinds := [], alts := [], laidByText := true, laidKinds := [.data], laidTests := true, laidLooks := .later }
def FlowFewerUptoCardSaid : Prop := Claim7.holds Tryd.pinned (.plain (OpenSpec.upto flowFewerSpec)) flowFewerUptoCard

/-- THE SECOND FORM's CARD OF 'panelaw.FlowShort'. -/
def flowShortUptoCard : Claim7 := { stood := { row := flowShortUptoRow, standIns := [], harness := (true, "abe0f481b2719e99a600ee6bc7de27195b9e6429346f8aee50cce57ab53ed4d7"), looks := false }, kinds := [], alts := [], laidByText := true, laidKinds := [.data], laidTests := true, laidLooks := .later }
def FlowShortUptoCardSaid : Prop := Claim7.holds Tryd.pinned (.plain (OpenSpec.upto flowShortSpec)) flowShortUptoCard
end Rows
end Go.Proofs.YtbjfckhijjjnkacDoor
