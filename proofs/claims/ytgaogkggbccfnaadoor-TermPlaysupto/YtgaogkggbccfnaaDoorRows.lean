/-
  NARROWER THAN 'FOR EVERY INPUT', by the rows' own cells (each row's printed sentence says how): TermPlays: laid · TermCut: laid · TermKeeps: laid · TermFresh: laid · TermPrints: laid.
  DERIVED. THE GIVEN ROWS OF THIS SEAT. 5 by the template 'for every input the law returns true; each argument reads behind the call as it read before'; 0 by the template 'total and deterministic' (their statements: YtgaogkggbccfnaaDoorTotals.lean).
  GIVEN WITH THE SEED: the statements are not yours to turn. If you find one false, say at which input.
  Laid BY PROGRAM, IN A SANDBOX (cutbox-rows.mjs): the forced cells as the released guide's own fill.sh prints them over the translation 9f72fa121582080e… (all of the seat's roots in one cut). By AI agents, Wed Nov 11 2026. No macro, syntax, notation, axiom, sorry.
-/
import Derived.Test.YtgaogkggbccfnaaDoorChecked
import GoSem.PinnedTables
import GoSem.Claim
import GoSem.ClaimJoined
import GoSem.ClaimMapViews
import Derived.JoinedTies
import Derived.KernelRfl
namespace Go.Proofs.YtgaogkggbccfnaaDoor
/- THE CELL 'sum', in the pinned program and in every row, IS THE sha256 OF THE DUMP (.gsa) THAT YtgaogkggbccfnaaDoorProg.lean LOADS. Nothing in Lean hashes anything: it is a label: what it is worth is what the hold of that sum in a sandbox is worth. -/
noncomputable def Tryd.pinned : Pinned := { name := "ytgaogkggbccfnaadoor", sum := "9f72fa121582080e79294407079341708023141114ca13ce5af2014320d1f446", checked := Tryd.checked }
namespace Rows
def none {H : Type} : Left H := { results := [], args := [] }

/- WHAT THE LISTED PACKAGE-LEVEL VARIABLES READ AS WHEN THE CALL BEGINS. Each datum BY PROGRAM (the guide's laid-datum.mjs) off the statement by which the dump's own 'gosem.cut.vars' lays the variable. In a bare row this is a premise. The card (YtgaogkggbccfnaaDoorCards.lean) ties it to the program's text. -/
def laid_unicode_utf8_acceptRanges {H : Type} : DataW H := .agg [.agg [.lit (.int .u8 128), .lit (.int .u8 191)], .agg [.lit (.int .u8 160), .lit (.int .u8 191)], .agg [.lit (.int .u8 128), .lit (.int .u8 159)], .agg [.lit (.int .u8 144), .lit (.int .u8 191)], .agg [.lit (.int .u8 128), .lit (.int .u8 143)], .agg [.lit (.int .u8 0), .lit (.int .u8 0)], .agg [.lit (.int .u8 0), .lit (.int .u8 0)], .agg [.lit (.int .u8 0), .lit (.int .u8 0)], .agg [.lit (.int .u8 0), .lit (.int .u8 0)], .agg [.lit (.int .u8 0), .lit (.int .u8 0)], .agg [.lit (.int .u8 0), .lit (.int .u8 0)], .agg [.lit (.int .u8 0), .lit (.int .u8 0)], .agg [.lit (.int .u8 0), .lit (.int .u8 0)], .agg [.lit (.int .u8 0), .lit (.int .u8 0)], .agg [.lit (.int .u8 0), .lit (.int .u8 0)], .agg [.lit (.int .u8 0), .lit (.int .u8 0)]]
def laid_pane_glyph_spans {H : Type} : DataW H := .agg [.agg [.lit (.int .i64 768), .lit (.int .i64 879), .lit (.int .i64 0)], .agg [.lit (.int .i64 1155), .lit (.int .i64 1161), .lit (.int .i64 0)], .agg [.lit (.int .i64 1425), .lit (.int .i64 1469), .lit (.int .i64 0)], .agg [.lit (.int .i64 1552), .lit (.int .i64 1562), .lit (.int .i64 0)], .agg [.lit (.int .i64 1611), .lit (.int .i64 1631), .lit (.int .i64 0)], .agg [.lit (.int .i64 4352), .lit (.int .i64 4447), .lit (.int .i64 2)], .agg [.lit (.int .i64 6832), .lit (.int .i64 6911), .lit (.int .i64 0)], .agg [.lit (.int .i64 7616), .lit (.int .i64 7679), .lit (.int .i64 0)], .agg [.lit (.int .i64 8203), .lit (.int .i64 8207), .lit (.int .i64 0)], .agg [.lit (.int .i64 8400), .lit (.int .i64 8447), .lit (.int .i64 0)], .agg [.lit (.int .i64 11904), .lit (.int .i64 12350), .lit (.int .i64 2)], .agg [.lit (.int .i64 12353), .lit (.int .i64 13311), .lit (.int .i64 2)], .agg [.lit (.int .i64 13312), .lit (.int .i64 19903), .lit (.int .i64 2)], .agg [.lit (.int .i64 19968), .lit (.int .i64 40959), .lit (.int .i64 2)], .agg [.lit (.int .i64 40960), .lit (.int .i64 42191), .lit (.int .i64 2)], .agg [.lit (.int .i64 44032), .lit (.int .i64 55203), .lit (.int .i64 2)], .agg [.lit (.int .i64 63744), .lit (.int .i64 64255), .lit (.int .i64 2)], .agg [.lit (.int .i64 65024), .lit (.int .i64 65039), .lit (.int .i64 0)], .agg [.lit (.int .i64 65056), .lit (.int .i64 65071), .lit (.int .i64 0)], .agg [.lit (.int .i64 65072), .lit (.int .i64 65135), .lit (.int .i64 2)], .agg [.lit (.int .i64 65280), .lit (.int .i64 65376), .lit (.int .i64 2)], .agg [.lit (.int .i64 65504), .lit (.int .i64 65510), .lit (.int .i64 2)], .agg [.lit (.int .i64 127744), .lit (.int .i64 128591), .lit (.int .i64 2)], .agg [.lit (.int .i64 129280), .lit (.int .i64 129535), .lit (.int .i64 2)], .agg [.lit (.int .i64 131072), .lit (.int .i64 262141), .lit (.int .i64 2)], .agg [.lit (.int .i64 917760), .lit (.int .i64 917999), .lit (.int .i64 0)]]
/-- One of Go's own tables, pinned by name: the form's constant. -/
def laid_unicode_utf8_first : DataW Unit := Go.Pinned.utf8First

/-- 'panelaw.TermPlays': WHATEVER THE INPUT: true; the input reads as it did. -/
def termPlaysSpec : ChangeSpec := { name := "termPlays", fn := fun _ => fun
  | [d1, d2, d3] => { results := [.lit (.bool true)], args := [d1, d2, d3] }
  | _ => none }
def termPlaysRow : OpenClaim := { program := "ytgaogkggbccfnaadoor", sum := "9f72fa121582080e79294407079341708023141114ca13ce5af2014320d1f446", func := "pane/panelaw.TermPlays", spec := "termPlays", unfollowed := true, recurses := true, named := ["unicode/utf8.first", "unicode/utf8.acceptRanges", "pane/glyph.spans"], apart := false, laid := [("unicode/utf8.acceptRanges", laid_unicode_utf8_acceptRanges), ("pane/glyph.spans", laid_pane_glyph_spans), ("unicode/utf8.first", laid_unicode_utf8_first)] }
def TermPlaysSaid : Prop := termPlaysRow.holds Tryd.pinned (OpenSpec.ofChange termPlaysSpec)

/-- ITS FALSE NEIGHBOUR: 'it returns false'. Refute it at one input. -/
def termPlaysWrong : ChangeSpec := { name := "termPlays", fn := fun _ => fun
  | [d1, d2, d3] => { results := [.lit (.bool false)], args := [d1, d2, d3] }
  | _ => none }
def TermPlaysWrongFalsely : Prop := termPlaysRow.holds Tryd.pinned (OpenSpec.ofChange termPlaysWrong)

/-- 'panelaw.TermCut': WHATEVER THE INPUT: true; the input reads as it did. -/
def termCutSpec : ChangeSpec := { name := "termCut", fn := fun _ => fun
  | [d1, d2, d3, d4] => { results := [.lit (.bool true)], args := [d1, d2, d3, d4] }
  | _ => none }
def termCutRow : OpenClaim := { program := "ytgaogkggbccfnaadoor", sum := "9f72fa121582080e79294407079341708023141114ca13ce5af2014320d1f446", func := "pane/panelaw.TermCut", spec := "termCut", unfollowed := true, recurses := true, named := ["unicode/utf8.first", "unicode/utf8.acceptRanges", "pane/glyph.spans"], apart := false, laid := [("unicode/utf8.acceptRanges", laid_unicode_utf8_acceptRanges), ("pane/glyph.spans", laid_pane_glyph_spans), ("unicode/utf8.first", laid_unicode_utf8_first)] }
def TermCutSaid : Prop := termCutRow.holds Tryd.pinned (OpenSpec.ofChange termCutSpec)

/-- ITS FALSE NEIGHBOUR: 'it returns false'. Refute it at one input. -/
def termCutWrong : ChangeSpec := { name := "termCut", fn := fun _ => fun
  | [d1, d2, d3, d4] => { results := [.lit (.bool false)], args := [d1, d2, d3, d4] }
  | _ => none }
def TermCutWrongFalsely : Prop := termCutRow.holds Tryd.pinned (OpenSpec.ofChange termCutWrong)

/-- 'panelaw.TermKeeps': WHATEVER THE INPUT: true; the input reads as it did. -/
def termKeepsSpec : ChangeSpec := { name := "termKeeps", fn := fun _ => fun
  | [d1, d2, d3] => { results := [.lit (.bool true)], args := [d1, d2, d3] }
  | _ => none }
def termKeepsRow : OpenClaim := { program := "ytgaogkggbccfnaadoor", sum := "9f72fa121582080e79294407079341708023141114ca13ce5af2014320d1f446", func := "pane/panelaw.TermKeeps", spec := "termKeeps", unfollowed := true, recurses := true, named := ["unicode/utf8.first", "unicode/utf8.acceptRanges", "pane/glyph.spans"], apart := false, laid := [("unicode/utf8.acceptRanges", laid_unicode_utf8_acceptRanges), ("pane/glyph.spans", laid_pane_glyph_spans), ("unicode/utf8.first", laid_unicode_utf8_first)] }
def TermKeepsSaid : Prop := termKeepsRow.holds Tryd.pinned (OpenSpec.ofChange termKeepsSpec)

/-- ITS FALSE NEIGHBOUR: 'it returns false'. Refute it at one input. -/
def termKeepsWrong : ChangeSpec := { name := "termKeeps", fn := fun _ => fun
  | [d1, d2, d3] => { results := [.lit (.bool false)], args := [d1, d2, d3] }
  | _ => none }
def TermKeepsWrongFalsely : Prop := termKeepsRow.holds Tryd.pinned (OpenSpec.ofChange termKeepsWrong)

/-- 'panelaw.TermFresh': WHATEVER THE INPUT: true; the input reads as it did. -/
def termFreshSpec : ChangeSpec := { name := "termFresh", fn := fun _ => fun
  | [d1, d2, d3, d4] => { results := [.lit (.bool true)], args := [d1, d2, d3, d4] }
  | _ => none }
def termFreshRow : OpenClaim := { program := "ytgaogkggbccfnaadoor", sum := "9f72fa121582080e79294407079341708023141114ca13ce5af2014320d1f446", func := "pane/panelaw.TermFresh", spec := "termFresh", unfollowed := true, recurses := true, named := ["unicode/utf8.first", "unicode/utf8.acceptRanges", "pane/glyph.spans"], apart := false, laid := [("unicode/utf8.acceptRanges", laid_unicode_utf8_acceptRanges), ("pane/glyph.spans", laid_pane_glyph_spans), ("unicode/utf8.first", laid_unicode_utf8_first)] }
def TermFreshSaid : Prop := termFreshRow.holds Tryd.pinned (OpenSpec.ofChange termFreshSpec)

/-- ITS FALSE NEIGHBOUR: 'it returns false'. Refute it at one input. -/
def termFreshWrong : ChangeSpec := { name := "termFresh", fn := fun _ => fun
  | [d1, d2, d3, d4] => { results := [.lit (.bool false)], args := [d1, d2, d3, d4] }
  | _ => none }
def TermFreshWrongFalsely : Prop := termFreshRow.holds Tryd.pinned (OpenSpec.ofChange termFreshWrong)

/-- 'panelaw.TermPrints': WHATEVER THE INPUT: true; the input reads as it did. -/
def termPrintsSpec : ChangeSpec := { name := "termPrints", fn := fun _ => fun
  | [d1, d2, d3] => { results := [.lit (.bool true)], args := [d1, d2, d3] }
  | _ => none }
def termPrintsRow : OpenClaim := { program := "ytgaogkggbccfnaadoor", sum := "9f72fa121582080e79294407079341708023141114ca13ce5af2014320d1f446", func := "pane/panelaw.TermPrints", spec := "termPrints", unfollowed := true, recurses := true, named := ["unicode/utf8.first", "unicode/utf8.acceptRanges", "pane/glyph.spans"], apart := false, laid := [("unicode/utf8.acceptRanges", laid_unicode_utf8_acceptRanges), ("pane/glyph.spans", laid_pane_glyph_spans), ("unicode/utf8.first", laid_unicode_utf8_first)] }
def TermPrintsSaid : Prop := termPrintsRow.holds Tryd.pinned (OpenSpec.ofChange termPrintsSpec)

/-- ITS FALSE NEIGHBOUR: 'it returns false'. Refute it at one input. -/
def termPrintsWrong : ChangeSpec := { name := "termPrints", fn := fun _ => fun
  | [d1, d2, d3] => { results := [.lit (.bool false)], args := [d1, d2, d3] }
  | _ => none }
def TermPrintsWrongFalsely : Prop := termPrintsRow.holds Tryd.pinned (OpenSpec.ofChange termPrintsWrong)

/- THE SECOND FORM. 'bulk': how many values and letters a reading holds, each counted each time it is reached (what is shared counts as often as it is met; a slice's spare places count too). A statement '..UptoSaid' is the law's where the arguments, and the package variables that the reading takes, are together of bulk at most 1048576: NARROWER than '..Said'. Prove '..Said' where nothing that the law and all that it calls make is longer than what came in: it says more and counts as full. Else prove '..UptoSaid'. A law counts once. -/
mutual
def uptoBulk {H : Type} : DataW H → Nat
  | .lit (.string bytes) => bytes.length + 1
  | .lit _ => 1
  | .nil => 1
  | .ptr d => uptoBulk d + 1
  | .slice elems spare => uptoBulkAll elems + uptoBulkAll spare + 1
  | .agg parts => uptoBulkAll parts + 1
  | .iface _ d => uptoBulk d + 1
  | .map entries => uptoBulkEntries entries + 1
  | .held _ => 1
def uptoBulkAll {H : Type} : List (DataW H) → Nat
  | [] => 0
  | d :: r => uptoBulk d + uptoBulkAll r
def uptoBulkEntries {H : Type} : List (Lit × DataW H) → Nat
  | [] => 0
  | x :: r => uptoBulkEntry x + uptoBulkEntries r
def uptoBulkEntry {H : Type} : Lit × DataW H → Nat
  | (.string bytes, d) => bytes.length + uptoBulk d + 1
  | (_, d) => uptoBulk d + 1
 end
def uptoSmall : (H : Type) → List (DataW H) → Bool := fun _ ds => decide (uptoBulkAll ds ≤ 1048576)
def OpenSpec.upto (s : _root_.Go.ChangeSpec) : _root_.Go.OpenSpec := { _root_.Go.OpenSpec.ofChange s with cond := some uptoSmall }

/-- 'panelaw.TermPlays', WHERE WHAT IT READS IS OF BULK AT MOST 1048576: true; the input reads as it did. -/
def termPlaysUptoRow : OpenClaim := { program := "ytgaogkggbccfnaadoor", sum := "9f72fa121582080e79294407079341708023141114ca13ce5af2014320d1f446", func := "pane/panelaw.TermPlays", spec := "termPlays", unfollowed := true, recurses := true, named := ["unicode/utf8.first", "unicode/utf8.acceptRanges", "pane/glyph.spans"], apart := false, laid := [("unicode/utf8.acceptRanges", laid_unicode_utf8_acceptRanges), ("pane/glyph.spans", laid_pane_glyph_spans), ("unicode/utf8.first", laid_unicode_utf8_first)], narrowed := true }
def TermPlaysUptoSaid : Prop := termPlaysUptoRow.holds Tryd.pinned (OpenSpec.upto termPlaysSpec)

/-- 'panelaw.TermCut', WHERE WHAT IT READS IS OF BULK AT MOST 1048576: true; the input reads as it did. -/
def termCutUptoRow : OpenClaim := { program := "ytgaogkggbccfnaadoor", sum := "9f72fa121582080e79294407079341708023141114ca13ce5af2014320d1f446", func := "pane/panelaw.TermCut", spec := "termCut", unfollowed := true, recurses := true, named := ["unicode/utf8.first", "unicode/utf8.acceptRanges", "pane/glyph.spans"], apart := false, laid := [("unicode/utf8.acceptRanges", laid_unicode_utf8_acceptRanges), ("pane/glyph.spans", laid_pane_glyph_spans), ("unicode/utf8.first", laid_unicode_utf8_first)], narrowed := true }
def TermCutUptoSaid : Prop := termCutUptoRow.holds Tryd.pinned (OpenSpec.upto termCutSpec)

/-- 'panelaw.TermKeeps', WHERE WHAT IT READS IS OF BULK AT MOST 1048576: true; the input reads as it did. -/
def termKeepsUptoRow : OpenClaim := { program := "ytgaogkggbccfnaadoor", sum := "9f72fa121582080e79294407079341708023141114ca13ce5af2014320d1f446", func := "pane/panelaw.TermKeeps", spec := "termKeeps", unfollowed := true, recurses := true, named := ["unicode/utf8.first", "unicode/utf8.acceptRanges", "pane/glyph.spans"], apart := false, laid := [("unicode/utf8.acceptRanges", laid_unicode_utf8_acceptRanges), ("pane/glyph.spans", laid_pane_glyph_spans), ("unicode/utf8.first", laid_unicode_utf8_first)], narrowed := true }
def TermKeepsUptoSaid : Prop := termKeepsUptoRow.holds Tryd.pinned (OpenSpec.upto termKeepsSpec)

/-- 'panelaw.TermFresh', WHERE WHAT IT READS IS OF BULK AT MOST 1048576: true; the input reads as it did. -/
def termFreshUptoRow : OpenClaim := { program := "ytgaogkggbccfnaadoor", sum := "9f72fa121582080e79294407079341708023141114ca13ce5af2014320d1f446", func := "pane/panelaw.TermFresh", spec := "termFresh", unfollowed := true, recurses := true, named := ["unicode/utf8.first", "unicode/utf8.acceptRanges", "pane/glyph.spans"], apart := false, laid := [("unicode/utf8.acceptRanges", laid_unicode_utf8_acceptRanges), ("pane/glyph.spans", laid_pane_glyph_spans), ("unicode/utf8.first", laid_unicode_utf8_first)], narrowed := true }
def TermFreshUptoSaid : Prop := termFreshUptoRow.holds Tryd.pinned (OpenSpec.upto termFreshSpec)

/-- 'panelaw.TermPrints', WHERE WHAT IT READS IS OF BULK AT MOST 1048576: true; the input reads as it did. -/
def termPrintsUptoRow : OpenClaim := { program := "ytgaogkggbccfnaadoor", sum := "9f72fa121582080e79294407079341708023141114ca13ce5af2014320d1f446", func := "pane/panelaw.TermPrints", spec := "termPrints", unfollowed := true, recurses := true, named := ["unicode/utf8.first", "unicode/utf8.acceptRanges", "pane/glyph.spans"], apart := false, laid := [("unicode/utf8.acceptRanges", laid_unicode_utf8_acceptRanges), ("pane/glyph.spans", laid_pane_glyph_spans), ("unicode/utf8.first", laid_unicode_utf8_first)], narrowed := true }
def TermPrintsUptoSaid : Prop := termPrintsUptoRow.holds Tryd.pinned (OpenSpec.upto termPrintsSpec)

end Rows
end Go.Proofs.YtgaogkggbccfnaaDoor
