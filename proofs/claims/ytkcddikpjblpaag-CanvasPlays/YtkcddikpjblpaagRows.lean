/-
  No cell of these rows narrows 'for every input' (looked for: loops, veiled, ifaces, maps, wideKeys, modest, calm, conditions, laid).
  DERIVED. THE GIVEN ROWS OF THIS SEAT. 5 by the template 'for every input the law returns true; each argument reads behind the call as it read before'; 0 by the template 'total and deterministic' (their statements: YtkcddikpjblpaagTotals.lean).
  GIVEN WITH THE SEED: the statements are not yours to turn. If you find one false, say at which input.
  Laid BY PROGRAM, IN A SANDBOX (cutbox-rows.mjs): the forced cells as the released guide's own fill.sh prints them over the translation a99d8de0dff49a50… (all of the seat's roots in one cut). By AI agents, Wed Nov 11 2026. No macro, syntax, notation, axiom, sorry.
-/
import Derived.Test.YtkcddikpjblpaagChecked
import GoSem.Claim
import GoSem.ClaimJoined
import GoSem.ClaimMapViews
import Derived.JoinedTies
import Derived.KernelRfl
namespace Go.Proofs.Ytkcddikpjblpaag
/- THE CELL 'sum', in the pinned program and in every row, IS THE sha256 OF THE DUMP (.gsa) THAT YtkcddikpjblpaagProg.lean LOADS. Nothing in Lean hashes anything: it is a label: what it is worth is what the hold of that sum in a sandbox is worth. -/
noncomputable def Try.pinned : Pinned := { name := "ytkcddikpjblpaag", sum := "a99d8de0dff49a506c6524e8b09b3eec364e3b1407de8e08aced0fdfc0b66e96", checked := Try.checked }
namespace Rows
def none {H : Type} : Left H := { results := [], args := [] }

/-- 'panelaw.StyleApplies': WHATEVER THE INPUT: true; the input reads as it did. -/
def styleAppliesSpec : ChangeSpec := { name := "styleApplies", fn := fun _ => fun
  | [d1, d2] => { results := [.lit (.bool true)], args := [d1, d2] }
  | _ => none }
def styleAppliesRow : OpenClaim := { program := "ytkcddikpjblpaag", sum := "a99d8de0dff49a506c6524e8b09b3eec364e3b1407de8e08aced0fdfc0b66e96", func := "pane/panelaw.StyleApplies", spec := "styleApplies", apart := false }
def StyleAppliesSaid : Prop := styleAppliesRow.holds Try.pinned (OpenSpec.ofChange styleAppliesSpec)

/-- ITS FALSE NEIGHBOUR: 'it returns false'. Refute it at one input. -/
def styleAppliesWrong : ChangeSpec := { name := "styleApplies", fn := fun _ => fun
  | [d1, d2] => { results := [.lit (.bool false)], args := [d1, d2] }
  | _ => none }
def StyleAppliesWrongFalsely : Prop := styleAppliesRow.holds Try.pinned (OpenSpec.ofChange styleAppliesWrong)

/-- 'panelaw.StyleStacked': WHATEVER THE INPUT: true; the input reads as it did. -/
def styleStackedSpec : ChangeSpec := { name := "styleStacked", fn := fun _ => fun
  | [d1, d2, d3] => { results := [.lit (.bool true)], args := [d1, d2, d3] }
  | _ => none }
def styleStackedRow : OpenClaim := { program := "ytkcddikpjblpaag", sum := "a99d8de0dff49a506c6524e8b09b3eec364e3b1407de8e08aced0fdfc0b66e96", func := "pane/panelaw.StyleStacked", spec := "styleStacked", apart := false }
def StyleStackedSaid : Prop := styleStackedRow.holds Try.pinned (OpenSpec.ofChange styleStackedSpec)

/-- ITS FALSE NEIGHBOUR: 'it returns false'. Refute it at one input. -/
def styleStackedWrong : ChangeSpec := { name := "styleStacked", fn := fun _ => fun
  | [d1, d2, d3] => { results := [.lit (.bool false)], args := [d1, d2, d3] }
  | _ => none }
def StyleStackedWrongFalsely : Prop := styleStackedRow.holds Try.pinned (OpenSpec.ofChange styleStackedWrong)

/-- 'panelaw.CanvasPlays': WHATEVER THE INPUT: true; the input reads as it did. -/
def canvasPlaysSpec : ChangeSpec := { name := "canvasPlays", fn := fun _ => fun
  | [d1, d2, d3] => { results := [.lit (.bool true)], args := [d1, d2, d3] }
  | _ => none }
def canvasPlaysRow : OpenClaim := { program := "ytkcddikpjblpaag", sum := "a99d8de0dff49a506c6524e8b09b3eec364e3b1407de8e08aced0fdfc0b66e96", func := "pane/panelaw.CanvasPlays", spec := "canvasPlays", apart := false }
def CanvasPlaysSaid : Prop := canvasPlaysRow.holds Try.pinned (OpenSpec.ofChange canvasPlaysSpec)

/-- ITS FALSE NEIGHBOUR: 'it returns false'. Refute it at one input. -/
def canvasPlaysWrong : ChangeSpec := { name := "canvasPlays", fn := fun _ => fun
  | [d1, d2, d3] => { results := [.lit (.bool false)], args := [d1, d2, d3] }
  | _ => none }
def CanvasPlaysWrongFalsely : Prop := canvasPlaysRow.holds Try.pinned (OpenSpec.ofChange canvasPlaysWrong)

/-- 'panelaw.CanvasPairs': WHATEVER THE INPUT: true; the input reads as it did. -/
def canvasPairsSpec : ChangeSpec := { name := "canvasPairs", fn := fun _ => fun
  | [d1, d2, d3] => { results := [.lit (.bool true)], args := [d1, d2, d3] }
  | _ => none }
def canvasPairsRow : OpenClaim := { program := "ytkcddikpjblpaag", sum := "a99d8de0dff49a506c6524e8b09b3eec364e3b1407de8e08aced0fdfc0b66e96", func := "pane/panelaw.CanvasPairs", spec := "canvasPairs", apart := false }
def CanvasPairsSaid : Prop := canvasPairsRow.holds Try.pinned (OpenSpec.ofChange canvasPairsSpec)

/-- ITS FALSE NEIGHBOUR: 'it returns false'. Refute it at one input. -/
def canvasPairsWrong : ChangeSpec := { name := "canvasPairs", fn := fun _ => fun
  | [d1, d2, d3] => { results := [.lit (.bool false)], args := [d1, d2, d3] }
  | _ => none }
def CanvasPairsWrongFalsely : Prop := canvasPairsRow.holds Try.pinned (OpenSpec.ofChange canvasPairsWrong)

/-- 'panelaw.CanvasClip': WHATEVER THE INPUT: true; the input reads as it did. -/
def canvasClipSpec : ChangeSpec := { name := "canvasClip", fn := fun _ => fun
  | [d1, d2, d3, d4] => { results := [.lit (.bool true)], args := [d1, d2, d3, d4] }
  | _ => none }
def canvasClipRow : OpenClaim := { program := "ytkcddikpjblpaag", sum := "a99d8de0dff49a506c6524e8b09b3eec364e3b1407de8e08aced0fdfc0b66e96", func := "pane/panelaw.CanvasClip", spec := "canvasClip", apart := false }
def CanvasClipSaid : Prop := canvasClipRow.holds Try.pinned (OpenSpec.ofChange canvasClipSpec)

/-- ITS FALSE NEIGHBOUR: 'it returns false'. Refute it at one input. -/
def canvasClipWrong : ChangeSpec := { name := "canvasClip", fn := fun _ => fun
  | [d1, d2, d3, d4] => { results := [.lit (.bool false)], args := [d1, d2, d3, d4] }
  | _ => none }
def CanvasClipWrongFalsely : Prop := canvasClipRow.holds Try.pinned (OpenSpec.ofChange canvasClipWrong)

/- THE SECOND FORM. 'bulk': how many values and letters a reading holds, each counted each time it is reached (what is shared counts as often as it is met; a slice's spare places count too). A statement '..UptoSaid' is the law's where the arguments, and the package variables that the reading takes, are together of bulk at most 1048576: NARROWER than '..Said'. Prove '..Said' where nothing that the law and all that it calls make is longer than what came in: it says more and counts as full. Else prove '..UptoSaid'. A law counts once. -/
mutual
def uptoBulk {H : Type} : DataW H → Nat
  | .lit (.string bytes) => bytes.length + 1
  | .lit _ => 1
  | .nil => 1
  | .ptr d => uptoBulk d + 1
  | .slice elems spare => uptoBulkAll elems + uptoBulkAll spare + 1
  | .agg parts => uptoBulkAll parts + 1
  | .iface _ d => uptoBulk d + 1
  | .map entries => uptoBulkEntries entries + 1
  | .held _ => 1
def uptoBulkAll {H : Type} : List (DataW H) → Nat
  | [] => 0
  | d :: r => uptoBulk d + uptoBulkAll r
def uptoBulkEntries {H : Type} : List (Lit × DataW H) → Nat
  | [] => 0
  | x :: r => uptoBulkEntry x + uptoBulkEntries r
def uptoBulkEntry {H : Type} : Lit × DataW H → Nat
  | (.string bytes, d) => bytes.length + uptoBulk d + 1
  | (_, d) => uptoBulk d + 1
 end
def uptoSmall : (H : Type) → List (DataW H) → Bool := fun _ ds => decide (uptoBulkAll ds ≤ 1048576)
def OpenSpec.upto (s : _root_.Go.ChangeSpec) : _root_.Go.OpenSpec := { _root_.Go.OpenSpec.ofChange s with cond := some uptoSmall }

/-- 'panelaw.StyleApplies', WHERE WHAT IT READS IS OF BULK AT MOST 1048576: true; the input reads as it did. -/
def styleAppliesUptoRow : OpenClaim := { program := "ytkcddikpjblpaag", sum := "a99d8de0dff49a506c6524e8b09b3eec364e3b1407de8e08aced0fdfc0b66e96", func := "pane/panelaw.StyleApplies", spec := "styleApplies", apart := false, narrowed := true }
def StyleAppliesUptoSaid : Prop := styleAppliesUptoRow.holds Try.pinned (OpenSpec.upto styleAppliesSpec)

/-- 'panelaw.StyleStacked', WHERE WHAT IT READS IS OF BULK AT MOST 1048576: true; the input reads as it did. -/
def styleStackedUptoRow : OpenClaim := { program := "ytkcddikpjblpaag", sum := "a99d8de0dff49a506c6524e8b09b3eec364e3b1407de8e08aced0fdfc0b66e96", func := "pane/panelaw.StyleStacked", spec := "styleStacked", apart := false, narrowed := true }
def StyleStackedUptoSaid : Prop := styleStackedUptoRow.holds Try.pinned (OpenSpec.upto styleStackedSpec)

/-- 'panelaw.CanvasPlays', WHERE WHAT IT READS IS OF BULK AT MOST 1048576: true; the input reads as it did. -/
def canvasPlaysUptoRow : OpenClaim := { program := "ytkcddikpjblpaag", sum := "a99d8de0dff49a506c6524e8b09b3eec364e3b1407de8e08aced0fdfc0b66e96", func := "pane/panelaw.CanvasPlays", spec := "canvasPlays", apart := false, narrowed := true }
def CanvasPlaysUptoSaid : Prop := canvasPlaysUptoRow.holds Try.pinned (OpenSpec.upto canvasPlaysSpec)

/-- 'panelaw.CanvasPairs', WHERE WHAT IT READS IS OF BULK AT MOST 1048576: true; the input reads as it did. -/
def canvasPairsUptoRow : OpenClaim := { program := "ytkcddikpjblpaag", sum := "a99d8de0dff49a506c6524e8b09b3eec364e3b1407de8e08aced0fdfc0b66e96", func := "pane/panelaw.CanvasPairs", spec := "canvasPairs", apart := false, narrowed := true }
def CanvasPairsUptoSaid : Prop := canvasPairsUptoRow.holds Try.pinned (OpenSpec.upto canvasPairsSpec)

/-- 'panelaw.CanvasClip', WHERE WHAT IT READS IS OF BULK AT MOST 1048576: true; the input reads as it did. -/
def canvasClipUptoRow : OpenClaim := { program := "ytkcddikpjblpaag", sum := "a99d8de0dff49a506c6524e8b09b3eec364e3b1407de8e08aced0fdfc0b66e96", func := "pane/panelaw.CanvasClip", spec := "canvasClip", apart := false, narrowed := true }
def CanvasClipUptoSaid : Prop := canvasClipUptoRow.holds Try.pinned (OpenSpec.upto canvasClipSpec)

end Rows
end Go.Proofs.Ytkcddikpjblpaag
