/-
  DERIVED. GIVEN WITH THE SEED: THE CARDS: each row of YtlfffpoeioecjaaDoorRows.lean that lists a variable, with what it lists TIED to the program's text (the seventh form; the later family's looks); each row that meets fmt, with fmt's text TOLD by the authors' own Lean function (tested against real Go, not proved from fmt's source: count such statements apart). THE CARD IS WHAT COUNTS. Prove the row's statement (the work); the ties are given (YtlfffpoeioecjaaDoorTie.lean); close each card by the builder's one call (the guide's Derived/Test/ToyasCard.lean, 'card_holds'). Laid BY PROGRAM, IN A SANDBOX (cutbox-door.mjs). By AI agents, Wed Nov 11 2026. No macro, syntax, notation, axiom, sorry.
-/
import Derived.Test.YtlfffpoeioecjaaDoorRows
import GoSem.ClaimSeven
namespace Go.Proofs.YtlfffpoeioecjaaDoor
namespace Rows

/-- THE TIED CARD OF 'panelaw.TermPrints'. -/
def termPrintsCard : Claim7 := { stood := { row := termPrintsRow, standIns := [], harness := (true, "5bcfcd634356f1c8cec5a59d84180f759c97261dd476f3ae7c4b487f140a4203"), looks := false }, kinds := [], alts := [], laidByText := true, laidKinds := [.data, .data, .pinned], laidTests := true, laidLooks := .later }
def TermPrintsCardSaid : Prop := Claim7.holds Tryd.pinned (.plain (OpenSpec.ofChange termPrintsSpec)) termPrintsCard

/-- THE TIED CARD OF 'panelaw.DifferShows'. -/
def differShowsCard : Claim7 := { stood := { row := differShowsRow, standIns := [], harness := (true, "5bcfcd634356f1c8cec5a59d84180f759c97261dd476f3ae7c4b487f140a4203"), looks := false }, kinds := [], alts := [], laidByText := true, laidKinds := [.data, .data, .data, .data], laidTests := true, laidLooks := .later }
def DifferShowsCardSaid : Prop := Claim7.holds Tryd.pinned (.plain (OpenSpec.ofChange differShowsSpec)) differShowsCard

/-- THE TIED CARD OF 'panelaw.DifferLeast'. -/
def differLeastCard : Claim7 := { stood := { row := differLeastRow, standIns := [], harness := (true, "5bcfcd634356f1c8cec5a59d84180f759c97261dd476f3ae7c4b487f140a4203"), looks := false }, kinds := [], alts := [], laidByText := true, laidKinds := [.data, .data, .data, .data], laidTests := true, laidLooks := .later }
def DifferLeastCardSaid : Prop := Claim7.holds Tryd.pinned (.plain (OpenSpec.ofChange differLeastSpec)) differLeastCard

/-- THE TIED CARD OF 'panelaw.DifferFull'. -/
def differFullCard : Claim7 := { stood := { row := differFullRow, standIns := [], harness := (true, "5bcfcd634356f1c8cec5a59d84180f759c97261dd476f3ae7c4b487f140a4203"), looks := false }, kinds := [], alts := [], laidByText := true, laidKinds := [.data, .data, .data, .data], laidTests := true, laidLooks := .later }
def DifferFullCardSaid : Prop := Claim7.holds Tryd.pinned (.plain (OpenSpec.ofChange differFullSpec)) differFullCard

/-- THE SECOND FORM's CARD OF 'panelaw.TermPrints'. -/
def termPrintsUptoCard : Claim7 := { stood := { row := termPrintsUptoRow, standIns := [], harness := (true, "5bcfcd634356f1c8cec5a59d84180f759c97261dd476f3ae7c4b487f140a4203"), looks := false }, kinds := [], alts := [], laidByText := true, laidKinds := [.data, .data, .pinned], laidTests := true, laidLooks := .later }
def TermPrintsUptoCardSaid : Prop := Claim7.holds Tryd.pinned (.plain (OpenSpec.upto termPrintsSpec)) termPrintsUptoCard

/-- THE SECOND FORM's CARD OF 'panelaw.DifferShows'. -/
def differShowsUptoCard : Claim7 := { stood := { row := differShowsUptoRow, standIns := [], harness := (true, "5bcfcd634356f1c8cec5a59d84180f759c97261dd476f3ae7c4b487f140a4203"), looks := false }, kinds := [], alts := [], laidByText := true, laidKinds := [.data, .data, .data, .data], laidTests := true, laidLooks := .later }
def DifferShowsUptoCardSaid : Prop := Claim7.holds Tryd.pinned (.plain (OpenSpec.upto differShowsSpec)) differShowsUptoCard

/-- THE SECOND FORM's CARD OF 'panelaw.DifferLeast'. -/
def differLeastUptoCard : Claim7 := { stood := { row := differLeastUptoRow, standIns := [], harness := (true, "5bcfcd634356f1c8cec5a59d84180f759c97261dd476f3ae7c4b487f140a4203"), looks := false }, kinds := [], alts := [], laidByText := true, laidKinds := [.data, .data, .data, .data], laidTests := true, laidLooks := .later }
def DifferLeastUptoCardSaid : Prop := Claim7.holds Tryd.pinned (.plain (OpenSpec.upto differLeastSpec)) differLeastUptoCard

/-- THE SECOND FORM's CARD OF 'panelaw.DifferFull'. -/
def differFullUptoCard : Claim7 := { stood := { row := differFullUptoRow, standIns := [], harness := (true, "5bcfcd634356f1c8cec5a59d84180f759c97261dd476f3ae7c4b487f140a4203"), looks := false }, kinds := [], alts := [], laidByText := true, laidKinds := [.data, .data, .data, .data], laidTests := true, laidLooks := .later }
def DifferFullUptoCardSaid : Prop := Claim7.holds Tryd.pinned (.plain (OpenSpec.upto differFullSpec)) differFullUptoCard
end Rows
end Go.Proofs.YtlfffpoeioecjaaDoor
