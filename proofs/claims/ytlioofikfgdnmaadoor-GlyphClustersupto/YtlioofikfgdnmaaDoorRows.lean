/-
  NARROWER THAN 'FOR EVERY INPUT', by the rows' own cells (each row's printed sentence says how): GlyphWidths: laid · GlyphClusters: laid · GlyphJoined: laid.
  DERIVED. THE GIVEN ROWS OF THIS SEAT. 3 by the template 'for every input the law returns true; each argument reads behind the call as it read before'; 0 by the template 'total and deterministic' (their statements: YtlioofikfgdnmaaDoorTotals.lean).
  GIVEN WITH THE SEED: the statements are not yours to turn. If you find one false, say at which input.
  Laid BY PROGRAM, IN A SANDBOX (cutbox-rows.mjs): the forced cells as the released guide's own fill.sh prints them over the translation a2237091dfdb68e0… (all of the seat's roots in one cut). By AI agents, Wed Nov 11 2026. No macro, syntax, notation, axiom, sorry.
-/
import Derived.Test.YtlioofikfgdnmaaDoorChecked
import GoSem.Claim
import GoSem.ClaimJoined
import GoSem.ClaimMapViews
import Derived.JoinedTies
import Derived.KernelRfl
namespace Go.Proofs.YtlioofikfgdnmaaDoor
/- THE CELL 'sum', in the pinned program and in every row, IS THE sha256 OF THE DUMP (.gsa) THAT YtlioofikfgdnmaaDoorProg.lean LOADS. Nothing in Lean hashes anything: it is a label: what it is worth is what the hold of that sum in a sandbox is worth. -/
noncomputable def Tryd.pinned : Pinned := { name := "ytlioofikfgdnmaadoor", sum := "a2237091dfdb68e0d6aa5ebccdaedfda6f83da4e65157601cfd79d564d3d7df2", checked := Tryd.checked }
namespace Rows
def none {H : Type} : Left H := { results := [], args := [] }

/- WHAT THE LISTED PACKAGE-LEVEL VARIABLES READ AS WHEN THE CALL BEGINS. Each datum BY PROGRAM (the guide's laid-datum.mjs) off the statement by which the dump's own 'gosem.cut.vars' lays the variable. In a bare row this is a premise. The card (YtlioofikfgdnmaaDoorCards.lean) ties it to the program's text. -/
def laid_pane_glyph_spans {H : Type} : DataW H := .agg [.agg [.lit (.int .i64 768), .lit (.int .i64 879), .lit (.int .i64 0)], .agg [.lit (.int .i64 1155), .lit (.int .i64 1161), .lit (.int .i64 0)], .agg [.lit (.int .i64 1425), .lit (.int .i64 1469), .lit (.int .i64 0)], .agg [.lit (.int .i64 1552), .lit (.int .i64 1562), .lit (.int .i64 0)], .agg [.lit (.int .i64 1611), .lit (.int .i64 1631), .lit (.int .i64 0)], .agg [.lit (.int .i64 4352), .lit (.int .i64 4447), .lit (.int .i64 2)], .agg [.lit (.int .i64 6832), .lit (.int .i64 6911), .lit (.int .i64 0)], .agg [.lit (.int .i64 7616), .lit (.int .i64 7679), .lit (.int .i64 0)], .agg [.lit (.int .i64 8203), .lit (.int .i64 8207), .lit (.int .i64 0)], .agg [.lit (.int .i64 8400), .lit (.int .i64 8447), .lit (.int .i64 0)], .agg [.lit (.int .i64 11904), .lit (.int .i64 12350), .lit (.int .i64 2)], .agg [.lit (.int .i64 12353), .lit (.int .i64 13311), .lit (.int .i64 2)], .agg [.lit (.int .i64 13312), .lit (.int .i64 19903), .lit (.int .i64 2)], .agg [.lit (.int .i64 19968), .lit (.int .i64 40959), .lit (.int .i64 2)], .agg [.lit (.int .i64 40960), .lit (.int .i64 42191), .lit (.int .i64 2)], .agg [.lit (.int .i64 44032), .lit (.int .i64 55203), .lit (.int .i64 2)], .agg [.lit (.int .i64 63744), .lit (.int .i64 64255), .lit (.int .i64 2)], .agg [.lit (.int .i64 65024), .lit (.int .i64 65039), .lit (.int .i64 0)], .agg [.lit (.int .i64 65056), .lit (.int .i64 65071), .lit (.int .i64 0)], .agg [.lit (.int .i64 65072), .lit (.int .i64 65135), .lit (.int .i64 2)], .agg [.lit (.int .i64 65280), .lit (.int .i64 65376), .lit (.int .i64 2)], .agg [.lit (.int .i64 65504), .lit (.int .i64 65510), .lit (.int .i64 2)], .agg [.lit (.int .i64 127744), .lit (.int .i64 128591), .lit (.int .i64 2)], .agg [.lit (.int .i64 129280), .lit (.int .i64 129535), .lit (.int .i64 2)], .agg [.lit (.int .i64 131072), .lit (.int .i64 262141), .lit (.int .i64 2)], .agg [.lit (.int .i64 917760), .lit (.int .i64 917999), .lit (.int .i64 0)]]

/-- 'panelaw.GlyphWidths': WHATEVER THE INPUT: true; the input reads as it did. -/
def glyphWidthsSpec : ChangeSpec := { name := "glyphWidths", fn := fun _ => fun
  | [d] => { results := [.lit (.bool true)], args := [d] }
  | _ => none }
def glyphWidthsRow : OpenClaim := { program := "ytlioofikfgdnmaadoor", sum := "a2237091dfdb68e0d6aa5ebccdaedfda6f83da4e65157601cfd79d564d3d7df2", func := "pane/panelaw.GlyphWidths", spec := "glyphWidths", named := ["pane/glyph.spans"], apart := false, laid := [("pane/glyph.spans", laid_pane_glyph_spans)] }
def GlyphWidthsSaid : Prop := glyphWidthsRow.holds Tryd.pinned (OpenSpec.ofChange glyphWidthsSpec)

/-- ITS FALSE NEIGHBOUR: 'it returns false'. Refute it at one input. -/
def glyphWidthsWrong : ChangeSpec := { name := "glyphWidths", fn := fun _ => fun
  | [d] => { results := [.lit (.bool false)], args := [d] }
  | _ => none }
def GlyphWidthsWrongFalsely : Prop := glyphWidthsRow.holds Tryd.pinned (OpenSpec.ofChange glyphWidthsWrong)

/-- 'panelaw.GlyphClusters': WHATEVER THE INPUT: true; the input reads as it did. -/
def glyphClustersSpec : ChangeSpec := { name := "glyphClusters", fn := fun _ => fun
  | [d] => { results := [.lit (.bool true)], args := [d] }
  | _ => none }
def glyphClustersRow : OpenClaim := { program := "ytlioofikfgdnmaadoor", sum := "a2237091dfdb68e0d6aa5ebccdaedfda6f83da4e65157601cfd79d564d3d7df2", func := "pane/panelaw.GlyphClusters", spec := "glyphClusters", named := ["pane/glyph.spans"], apart := false, laid := [("pane/glyph.spans", laid_pane_glyph_spans)] }
def GlyphClustersSaid : Prop := glyphClustersRow.holds Tryd.pinned (OpenSpec.ofChange glyphClustersSpec)

/-- ITS FALSE NEIGHBOUR: 'it returns false'. Refute it at one input. -/
def glyphClustersWrong : ChangeSpec := { name := "glyphClusters", fn := fun _ => fun
  | [d] => { results := [.lit (.bool false)], args := [d] }
  | _ => none }
def GlyphClustersWrongFalsely : Prop := glyphClustersRow.holds Tryd.pinned (OpenSpec.ofChange glyphClustersWrong)

/-- 'panelaw.GlyphJoined': WHATEVER THE INPUT: true; the input reads as it did. -/
def glyphJoinedSpec : ChangeSpec := { name := "glyphJoined", fn := fun _ => fun
  | [d] => { results := [.lit (.bool true)], args := [d] }
  | _ => none }
def glyphJoinedRow : OpenClaim := { program := "ytlioofikfgdnmaadoor", sum := "a2237091dfdb68e0d6aa5ebccdaedfda6f83da4e65157601cfd79d564d3d7df2", func := "pane/panelaw.GlyphJoined", spec := "glyphJoined", named := ["pane/glyph.spans"], apart := false, laid := [("pane/glyph.spans", laid_pane_glyph_spans)] }
def GlyphJoinedSaid : Prop := glyphJoinedRow.holds Tryd.pinned (OpenSpec.ofChange glyphJoinedSpec)

/-- ITS FALSE NEIGHBOUR: 'it returns false'. Refute it at one input. -/
def glyphJoinedWrong : ChangeSpec := { name := "glyphJoined", fn := fun _ => fun
  | [d] => { results := [.lit (.bool false)], args := [d] }
  | _ => none }
def GlyphJoinedWrongFalsely : Prop := glyphJoinedRow.holds Tryd.pinned (OpenSpec.ofChange glyphJoinedWrong)

/- THE SECOND FORM. 'bulk': how many values and letters a reading holds, each counted each time it is reached (what is shared counts as often as it is met; a slice's spare places count too). A statement '..UptoSaid' is the law's where the arguments, and the package variables that the reading takes, are together of bulk at most 1048576: NARROWER than '..Said'. Prove '..Said' where nothing that the law and all that it calls make is longer than what came in: it says more and counts as full. Else prove '..UptoSaid'. A law counts once. -/
mutual
def uptoBulk {H : Type} : DataW H → Nat
  | .lit (.string bytes) => bytes.length + 1
  | .lit _ => 1
  | .nil => 1
  | .ptr d => uptoBulk d + 1
  | .slice elems spare => uptoBulkAll elems + uptoBulkAll spare + 1
  | .agg parts => uptoBulkAll parts + 1
  | .iface _ d => uptoBulk d + 1
  | .map entries => uptoBulkEntries entries + 1
  | .held _ => 1
def uptoBulkAll {H : Type} : List (DataW H) → Nat
  | [] => 0
  | d :: r => uptoBulk d + uptoBulkAll r
def uptoBulkEntries {H : Type} : List (Lit × DataW H) → Nat
  | [] => 0
  | x :: r => uptoBulkEntry x + uptoBulkEntries r
def uptoBulkEntry {H : Type} : Lit × DataW H → Nat
  | (.string bytes, d) => bytes.length + uptoBulk d + 1
  | (_, d) => uptoBulk d + 1
 end
def uptoSmall : (H : Type) → List (DataW H) → Bool := fun _ ds => decide (uptoBulkAll ds ≤ 1048576)
def OpenSpec.upto (s : _root_.Go.ChangeSpec) : _root_.Go.OpenSpec := { _root_.Go.OpenSpec.ofChange s with cond := some uptoSmall }

/-- 'panelaw.GlyphWidths', WHERE WHAT IT READS IS OF BULK AT MOST 1048576: true; the input reads as it did. -/
def glyphWidthsUptoRow : OpenClaim := { program := "ytlioofikfgdnmaadoor", sum := "a2237091dfdb68e0d6aa5ebccdaedfda6f83da4e65157601cfd79d564d3d7df2", func := "pane/panelaw.GlyphWidths", spec := "glyphWidths", named := ["pane/glyph.spans"], apart := false, laid := [("pane/glyph.spans", laid_pane_glyph_spans)], narrowed := true }
def GlyphWidthsUptoSaid : Prop := glyphWidthsUptoRow.holds Tryd.pinned (OpenSpec.upto glyphWidthsSpec)

/-- 'panelaw.GlyphClusters', WHERE WHAT IT READS IS OF BULK AT MOST 1048576: true; the input reads as it did. -/
def glyphClustersUptoRow : OpenClaim := { program := "ytlioofikfgdnmaadoor", sum := "a2237091dfdb68e0d6aa5ebccdaedfda6f83da4e65157601cfd79d564d3d7df2", func := "pane/panelaw.GlyphClusters", spec := "glyphClusters", named := ["pane/glyph.spans"], apart := false, laid := [("pane/glyph.spans", laid_pane_glyph_spans)], narrowed := true }
def GlyphClustersUptoSaid : Prop := glyphClustersUptoRow.holds Tryd.pinned (OpenSpec.upto glyphClustersSpec)

/-- 'panelaw.GlyphJoined', WHERE WHAT IT READS IS OF BULK AT MOST 1048576: true; the input reads as it did. -/
def glyphJoinedUptoRow : OpenClaim := { program := "ytlioofikfgdnmaadoor", sum := "a2237091dfdb68e0d6aa5ebccdaedfda6f83da4e65157601cfd79d564d3d7df2", func := "pane/panelaw.GlyphJoined", spec := "glyphJoined", named := ["pane/glyph.spans"], apart := false, laid := [("pane/glyph.spans", laid_pane_glyph_spans)], narrowed := true }
def GlyphJoinedUptoSaid : Prop := glyphJoinedUptoRow.holds Tryd.pinned (OpenSpec.upto glyphJoinedSpec)

end Rows
end Go.Proofs.YtlioofikfgdnmaaDoor
