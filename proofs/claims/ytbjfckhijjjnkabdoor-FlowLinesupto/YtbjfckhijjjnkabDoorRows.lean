/-
  NARROWER THAN 'FOR EVERY INPUT', by the rows' own cells (each row's printed sentence says how): GlyphParted: laid · FlowLines: laid · FlowAligns: laid · FlowCuts: laid · FlowFits: laid · FlowWhole: laid.
  DERIVED. THE GIVEN ROWS OF THIS SEAT. 6 by the template 'for every input the law returns true; each argument reads behind the call as it read before'; 0 by the template 'total and deterministic' (their statements: YtbjfckhijjjnkabDoorTotals.lean).
  GIVEN WITH THE SEED: the statements are not yours to turn. If you find one false, say at which input.
  Laid BY PROGRAM, IN A SANDBOX (cutbox-rows.mjs): the forced cells as the released guide's own fill.sh prints them over the translation 6bbed6ecf0e35445… (all of the seat's roots in one cut). By AI agents, Wed Nov 11 2026. No macro, syntax, notation, axiom, sorry.
-/
import Derived.Test.YtbjfckhijjjnkabDoorChecked
import GoSem.Claim
import GoSem.ClaimJoined
import GoSem.ClaimMapViews
import Derived.JoinedTies
import Derived.KernelRfl
namespace Go.Proofs.YtbjfckhijjjnkabDoor
/- THE CELL 'sum', in the pinned program and in every row, IS THE sha256 OF THE DUMP (.gsa) THAT YtbjfckhijjjnkabDoorProg.lean LOADS. Nothing in Lean hashes anything: it is a label: what it is worth is what the hold of that sum in a sandbox is worth. -/
noncomputable def Tryd.pinned : Pinned := { name := "ytbjfckhijjjnkabdoor", sum := "6bbed6ecf0e354456698f6ac2578395737b8cf18a7fb0affd8891cfc5f2b99fc", checked := Tryd.checked }
namespace Rows
def none {H : Type} : Left H := { results := [], args := [] }

/- WHAT THE LISTED PACKAGE-LEVEL VARIABLES READ AS WHEN THE CALL BEGINS. Each datum BY PROGRAM (the guide's laid-datum.mjs) off the statement by which the dump's own 'gosem.cut.vars' lays the variable. In a bare row this is a premise. The card (YtbjfckhijjjnkabDoorCards.lean) ties it to the program's text. -/
def laid_pane_glyph_spans {H : Type} : DataW H := .agg [.agg [.lit (.int .i64 768), .lit (.int .i64 879), .lit (.int .i64 0)], .agg [.lit (.int .i64 1155), .lit (.int .i64 1161), .lit (.int .i64 0)], .agg [.lit (.int .i64 1425), .lit (.int .i64 1469), .lit (.int .i64 0)], .agg [.lit (.int .i64 1552), .lit (.int .i64 1562), .lit (.int .i64 0)], .agg [.lit (.int .i64 1611), .lit (.int .i64 1631), .lit (.int .i64 0)], .agg [.lit (.int .i64 4352), .lit (.int .i64 4447), .lit (.int .i64 2)], .agg [.lit (.int .i64 6832), .lit (.int .i64 6911), .lit (.int .i64 0)], .agg [.lit (.int .i64 7616), .lit (.int .i64 7679), .lit (.int .i64 0)], .agg [.lit (.int .i64 8203), .lit (.int .i64 8207), .lit (.int .i64 0)], .agg [.lit (.int .i64 8400), .lit (.int .i64 8447), .lit (.int .i64 0)], .agg [.lit (.int .i64 11904), .lit (.int .i64 12350), .lit (.int .i64 2)], .agg [.lit (.int .i64 12353), .lit (.int .i64 13311), .lit (.int .i64 2)], .agg [.lit (.int .i64 13312), .lit (.int .i64 19903), .lit (.int .i64 2)], .agg [.lit (.int .i64 19968), .lit (.int .i64 40959), .lit (.int .i64 2)], .agg [.lit (.int .i64 40960), .lit (.int .i64 42191), .lit (.int .i64 2)], .agg [.lit (.int .i64 44032), .lit (.int .i64 55203), .lit (.int .i64 2)], .agg [.lit (.int .i64 63744), .lit (.int .i64 64255), .lit (.int .i64 2)], .agg [.lit (.int .i64 65024), .lit (.int .i64 65039), .lit (.int .i64 0)], .agg [.lit (.int .i64 65056), .lit (.int .i64 65071), .lit (.int .i64 0)], .agg [.lit (.int .i64 65072), .lit (.int .i64 65135), .lit (.int .i64 2)], .agg [.lit (.int .i64 65280), .lit (.int .i64 65376), .lit (.int .i64 2)], .agg [.lit (.int .i64 65504), .lit (.int .i64 65510), .lit (.int .i64 2)], .agg [.lit (.int .i64 127744), .lit (.int .i64 128591), .lit (.int .i64 2)], .agg [.lit (.int .i64 129280), .lit (.int .i64 129535), .lit (.int .i64 2)], .agg [.lit (.int .i64 131072), .lit (.int .i64 262141), .lit (.int .i64 2)], .agg [.lit (.int .i64 917760), .lit (.int .i64 917999), .lit (.int .i64 0)]]

/-- 'panelaw.GlyphParted': WHATEVER THE INPUT: true; the input reads as it did. -/
def glyphPartedSpec : ChangeSpec := { name := "glyphParted", fn := fun _ => fun
  | [d1, d2] => { results := [.lit (.bool true)], args := [d1, d2] }
  | _ => none }
def glyphPartedRow : OpenClaim := { program := "ytbjfckhijjjnkabdoor", sum := "6bbed6ecf0e354456698f6ac2578395737b8cf18a7fb0affd8891cfc5f2b99fc", func := "pane/panelaw.GlyphParted", spec := "glyphParted", named := ["pane/glyph.spans"], apart := false, laid := [("pane/glyph.spans", laid_pane_glyph_spans)] }
def GlyphPartedSaid : Prop := glyphPartedRow.holds Tryd.pinned (OpenSpec.ofChange glyphPartedSpec)

/-- ITS FALSE NEIGHBOUR: 'it returns false'. Refute it at one input. -/
def glyphPartedWrong : ChangeSpec := { name := "glyphParted", fn := fun _ => fun
  | [d1, d2] => { results := [.lit (.bool false)], args := [d1, d2] }
  | _ => none }
def GlyphPartedWrongFalsely : Prop := glyphPartedRow.holds Tryd.pinned (OpenSpec.ofChange glyphPartedWrong)

/-- 'panelaw.FlowLines': WHATEVER THE INPUT: true; the input reads as it did. -/
def flowLinesSpec : ChangeSpec := { name := "flowLines", fn := fun _ => fun
  | [d1, d2] => { results := [.lit (.bool true)], args := [d1, d2] }
  | _ => none }
def flowLinesRow : OpenClaim := { program := "ytbjfckhijjjnkabdoor", sum := "6bbed6ecf0e354456698f6ac2578395737b8cf18a7fb0affd8891cfc5f2b99fc", func := "pane/panelaw.FlowLines", spec := "flowLines", inPlace := ["internal/abi.NoEscape", "internal/bytealg.MakeNoZero"], unfollowed := true, recurses := true, named := ["pane/glyph.spans"], apart := false, laid := [("pane/glyph.spans", laid_pane_glyph_spans)] }
def FlowLinesSaid : Prop := flowLinesRow.holds Tryd.pinned (OpenSpec.ofChange flowLinesSpec)

/-- ITS FALSE NEIGHBOUR: 'it returns false'. Refute it at one input. -/
def flowLinesWrong : ChangeSpec := { name := "flowLines", fn := fun _ => fun
  | [d1, d2] => { results := [.lit (.bool false)], args := [d1, d2] }
  | _ => none }
def FlowLinesWrongFalsely : Prop := flowLinesRow.holds Tryd.pinned (OpenSpec.ofChange flowLinesWrong)

/-- 'panelaw.FlowAligns': WHATEVER THE INPUT: true; the input reads as it did. -/
def flowAlignsSpec : ChangeSpec := { name := "flowAligns", fn := fun _ => fun
  | [d1, d2, d3] => { results := [.lit (.bool true)], args := [d1, d2, d3] }
  | _ => none }
def flowAlignsRow : OpenClaim := { program := "ytbjfckhijjjnkabdoor", sum := "6bbed6ecf0e354456698f6ac2578395737b8cf18a7fb0affd8891cfc5f2b99fc", func := "pane/panelaw.FlowAligns", spec := "flowAligns", inPlace := ["internal/abi.NoEscape", "internal/bytealg.MakeNoZero"], named := ["pane/glyph.spans"], apart := false, laid := [("pane/glyph.spans", laid_pane_glyph_spans)] }
def FlowAlignsSaid : Prop := flowAlignsRow.holds Tryd.pinned (OpenSpec.ofChange flowAlignsSpec)

/-- ITS FALSE NEIGHBOUR: 'it returns false'. Refute it at one input. -/
def flowAlignsWrong : ChangeSpec := { name := "flowAligns", fn := fun _ => fun
  | [d1, d2, d3] => { results := [.lit (.bool false)], args := [d1, d2, d3] }
  | _ => none }
def FlowAlignsWrongFalsely : Prop := flowAlignsRow.holds Tryd.pinned (OpenSpec.ofChange flowAlignsWrong)

/-- 'panelaw.FlowCuts': WHATEVER THE INPUT: true; the input reads as it did. -/
def flowCutsSpec : ChangeSpec := { name := "flowCuts", fn := fun _ => fun
  | [d1, d2] => { results := [.lit (.bool true)], args := [d1, d2] }
  | _ => none }
def flowCutsRow : OpenClaim := { program := "ytbjfckhijjjnkabdoor", sum := "6bbed6ecf0e354456698f6ac2578395737b8cf18a7fb0affd8891cfc5f2b99fc", func := "pane/panelaw.FlowCuts", spec := "flowCuts", inPlace := ["internal/abi.NoEscape"], named := ["pane/glyph.spans"], apart := false, laid := [("pane/glyph.spans", laid_pane_glyph_spans)] }
def FlowCutsSaid : Prop := flowCutsRow.holds Tryd.pinned (OpenSpec.ofChange flowCutsSpec)

/-- ITS FALSE NEIGHBOUR: 'it returns false'. Refute it at one input. -/
def flowCutsWrong : ChangeSpec := { name := "flowCuts", fn := fun _ => fun
  | [d1, d2] => { results := [.lit (.bool false)], args := [d1, d2] }
  | _ => none }
def FlowCutsWrongFalsely : Prop := flowCutsRow.holds Tryd.pinned (OpenSpec.ofChange flowCutsWrong)

/-- 'panelaw.FlowFits': WHATEVER THE INPUT: true; the input reads as it did. -/
def flowFitsSpec : ChangeSpec := { name := "flowFits", fn := fun _ => fun
  | [d1, d2] => { results := [.lit (.bool true)], args := [d1, d2] }
  | _ => none }
def flowFitsRow : OpenClaim := { program := "ytbjfckhijjjnkabdoor", sum := "6bbed6ecf0e354456698f6ac2578395737b8cf18a7fb0affd8891cfc5f2b99fc", func := "pane/panelaw.FlowFits", spec := "flowFits", inPlace := ["internal/abi.NoEscape", "internal/bytealg.MakeNoZero"], unfollowed := true, recurses := true, named := ["pane/glyph.spans"], apart := false, laid := [("pane/glyph.spans", laid_pane_glyph_spans)] }
def FlowFitsSaid : Prop := flowFitsRow.holds Tryd.pinned (OpenSpec.ofChange flowFitsSpec)

/-- ITS FALSE NEIGHBOUR: 'it returns false'. Refute it at one input. -/
def flowFitsWrong : ChangeSpec := { name := "flowFits", fn := fun _ => fun
  | [d1, d2] => { results := [.lit (.bool false)], args := [d1, d2] }
  | _ => none }
def FlowFitsWrongFalsely : Prop := flowFitsRow.holds Tryd.pinned (OpenSpec.ofChange flowFitsWrong)

/-- 'panelaw.FlowWhole': WHATEVER THE INPUT: true; the input reads as it did. -/
def flowWholeSpec : ChangeSpec := { name := "flowWhole", fn := fun _ => fun
  | [d1, d2] => { results := [.lit (.bool true)], args := [d1, d2] }
  | _ => none }
def flowWholeRow : OpenClaim := { program := "ytbjfckhijjjnkabdoor", sum := "6bbed6ecf0e354456698f6ac2578395737b8cf18a7fb0affd8891cfc5f2b99fc", func := "pane/panelaw.FlowWhole", spec := "flowWhole", inPlace := ["internal/abi.NoEscape", "internal/bytealg.MakeNoZero"], unfollowed := true, recurses := true, named := ["pane/glyph.spans"], apart := false, laid := [("pane/glyph.spans", laid_pane_glyph_spans)] }
def FlowWholeSaid : Prop := flowWholeRow.holds Tryd.pinned (OpenSpec.ofChange flowWholeSpec)

/-- ITS FALSE NEIGHBOUR: 'it returns false'. Refute it at one input. -/
def flowWholeWrong : ChangeSpec := { name := "flowWhole", fn := fun _ => fun
  | [d1, d2] => { results := [.lit (.bool false)], args := [d1, d2] }
  | _ => none }
def FlowWholeWrongFalsely : Prop := flowWholeRow.holds Tryd.pinned (OpenSpec.ofChange flowWholeWrong)

/- THE SECOND FORM. 'bulk': how many values and letters a reading holds, each counted each time it is reached (what is shared counts as often as it is met; a slice's spare places count too). A statement '..UptoSaid' is the law's where the arguments, and the package variables that the reading takes, are together of bulk at most 1048576: NARROWER than '..Said'. Prove '..Said' where nothing that the law and all that it calls make is longer than what came in: it says more and counts as full. Else prove '..UptoSaid'. A law counts once. -/
mutual
def uptoBulk {H : Type} : DataW H → Nat
  | .lit (.string bytes) => bytes.length + 1
  | .lit _ => 1
  | .nil => 1
  | .ptr d => uptoBulk d + 1
  | .slice elems spare => uptoBulkAll elems + uptoBulkAll spare + 1
  | .agg parts => uptoBulkAll parts + 1
  | .iface _ d => uptoBulk d + 1
  | .map entries => uptoBulkEntries entries + 1
  | .held _ => 1
def uptoBulkAll {H : Type} : List (DataW H) → Nat
  | [] => 0
  | d :: r => uptoBulk d + uptoBulkAll r
def uptoBulkEntries {H : Type} : List (Lit × DataW H) → Nat
  | [] => 0
  | x :: r => uptoBulkEntry x + uptoBulkEntries r
def uptoBulkEntry {H : Type} : Lit × DataW H → Nat
  | (.string bytes, d) => bytes.length + uptoBulk d + 1
  | (_, d) => uptoBulk d + 1
 end
def uptoSmall : (H : Type) → List (DataW H) → Bool := fun _ ds => decide (uptoBulkAll ds ≤ 1048576)
def OpenSpec.upto (s : _root_.Go.ChangeSpec) : _root_.Go.OpenSpec := { _root_.Go.OpenSpec.ofChange s with cond := some uptoSmall }

/-- 'panelaw.GlyphParted', WHERE WHAT IT READS IS OF BULK AT MOST 1048576: true; the input reads as it did. -/
def glyphPartedUptoRow : OpenClaim := { program := "ytbjfckhijjjnkabdoor", sum := "6bbed6ecf0e354456698f6ac2578395737b8cf18a7fb0affd8891cfc5f2b99fc", func := "pane/panelaw.GlyphParted", spec := "glyphParted", named := ["pane/glyph.spans"], apart := false, laid := [("pane/glyph.spans", laid_pane_glyph_spans)], narrowed := true }
def GlyphPartedUptoSaid : Prop := glyphPartedUptoRow.holds Tryd.pinned (OpenSpec.upto glyphPartedSpec)

/-- 'panelaw.FlowLines', WHERE WHAT IT READS IS OF BULK AT MOST 1048576: true; the input reads as it did. -/
def flowLinesUptoRow : OpenClaim := { program := "ytbjfckhijjjnkabdoor", sum := "6bbed6ecf0e354456698f6ac2578395737b8cf18a7fb0affd8891cfc5f2b99fc", func := "pane/panelaw.FlowLines", spec := "flowLines", inPlace := ["internal/abi.NoEscape", "internal/bytealg.MakeNoZero"], unfollowed := true, recurses := true, named := ["pane/glyph.spans"], apart := false, laid := [("pane/glyph.spans", laid_pane_glyph_spans)], narrowed := true }
def FlowLinesUptoSaid : Prop := flowLinesUptoRow.holds Tryd.pinned (OpenSpec.upto flowLinesSpec)

/-- 'panelaw.FlowAligns', WHERE WHAT IT READS IS OF BULK AT MOST 1048576: true; the input reads as it did. -/
def flowAlignsUptoRow : OpenClaim := { program := "ytbjfckhijjjnkabdoor", sum := "6bbed6ecf0e354456698f6ac2578395737b8cf18a7fb0affd8891cfc5f2b99fc", func := "pane/panelaw.FlowAligns", spec := "flowAligns", inPlace := ["internal/abi.NoEscape", "internal/bytealg.MakeNoZero"], named := ["pane/glyph.spans"], apart := false, laid := [("pane/glyph.spans", laid_pane_glyph_spans)], narrowed := true }
def FlowAlignsUptoSaid : Prop := flowAlignsUptoRow.holds Tryd.pinned (OpenSpec.upto flowAlignsSpec)

/-- 'panelaw.FlowCuts', WHERE WHAT IT READS IS OF BULK AT MOST 1048576: true; the input reads as it did. -/
def flowCutsUptoRow : OpenClaim := { program := "ytbjfckhijjjnkabdoor", sum := "6bbed6ecf0e354456698f6ac2578395737b8cf18a7fb0affd8891cfc5f2b99fc", func := "pane/panelaw.FlowCuts", spec := "flowCuts", inPlace := ["internal/abi.NoEscape"], named := ["pane/glyph.spans"], apart := false, laid := [("pane/glyph.spans", laid_pane_glyph_spans)], narrowed := true }
def FlowCutsUptoSaid : Prop := flowCutsUptoRow.holds Tryd.pinned (OpenSpec.upto flowCutsSpec)

/-- 'panelaw.FlowFits', WHERE WHAT IT READS IS OF BULK AT MOST 1048576: true; the input reads as it did. -/
def flowFitsUptoRow : OpenClaim := { program := "ytbjfckhijjjnkabdoor", sum := "6bbed6ecf0e354456698f6ac2578395737b8cf18a7fb0affd8891cfc5f2b99fc", func := "pane/panelaw.FlowFits", spec := "flowFits", inPlace := ["internal/abi.NoEscape", "internal/bytealg.MakeNoZero"], unfollowed := true, recurses := true, named := ["pane/glyph.spans"], apart := false, laid := [("pane/glyph.spans", laid_pane_glyph_spans)], narrowed := true }
def FlowFitsUptoSaid : Prop := flowFitsUptoRow.holds Tryd.pinned (OpenSpec.upto flowFitsSpec)

/-- 'panelaw.FlowWhole', WHERE WHAT IT READS IS OF BULK AT MOST 1048576: true; the input reads as it did. -/
def flowWholeUptoRow : OpenClaim := { program := "ytbjfckhijjjnkabdoor", sum := "6bbed6ecf0e354456698f6ac2578395737b8cf18a7fb0affd8891cfc5f2b99fc", func := "pane/panelaw.FlowWhole", spec := "flowWhole", inPlace := ["internal/abi.NoEscape", "internal/bytealg.MakeNoZero"], unfollowed := true, recurses := true, named := ["pane/glyph.spans"], apart := false, laid := [("pane/glyph.spans", laid_pane_glyph_spans)], narrowed := true }
def FlowWholeUptoSaid : Prop := flowWholeUptoRow.holds Tryd.pinned (OpenSpec.upto flowWholeSpec)

end Rows
end Go.Proofs.YtbjfckhijjjnkabDoor
