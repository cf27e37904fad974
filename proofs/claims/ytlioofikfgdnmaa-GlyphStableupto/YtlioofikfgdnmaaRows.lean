/-
  No cell of these rows narrows 'for every input' (looked for: loops, veiled, ifaces, maps, wideKeys, modest, calm, conditions, laid).
  DERIVED. THE GIVEN ROWS OF THIS SEAT. 3 by the template 'for every input the law returns true; each argument reads behind the call as it read before'; 0 by the template 'total and deterministic' (their statements: YtlioofikfgdnmaaTotals.lean).
  GIVEN WITH THE SEED: the statements are not yours to turn. If you find one false, say at which input.
  Laid BY PROGRAM, IN A SANDBOX (cutbox-rows.mjs): the forced cells as the released guide's own fill.sh prints them over the translation e82085ad2f450b8c… (all of the seat's roots in one cut). By AI agents, Wed Nov 11 2026. No macro, syntax, notation, axiom, sorry.
-/
import Derived.Test.YtlioofikfgdnmaaChecked
import GoSem.Claim
import GoSem.ClaimJoined
import GoSem.ClaimMapViews
import Derived.JoinedTies
import Derived.KernelRfl
namespace Go.Proofs.Ytlioofikfgdnmaa
/- THE CELL 'sum', in the pinned program and in every row, IS THE sha256 OF THE DUMP (.gsa) THAT YtlioofikfgdnmaaProg.lean LOADS. Nothing in Lean hashes anything: it is a label: what it is worth is what the hold of that sum in a sandbox is worth. -/
noncomputable def Try.pinned : Pinned := { name := "ytlioofikfgdnmaa", sum := "e82085ad2f450b8cd42394a02dac099ddbbd5fd4fb37fed8deade007cddf4fb7", checked := Try.checked }
namespace Rows
def none {H : Type} : Left H := { results := [], args := [] }

/-- 'panelaw.GlyphDecodes': WHATEVER THE INPUT: true; the input reads as it did. -/
def glyphDecodesSpec : ChangeSpec := { name := "glyphDecodes", fn := fun _ => fun
  | [d] => { results := [.lit (.bool true)], args := [d] }
  | _ => none }
def glyphDecodesRow : OpenClaim := { program := "ytlioofikfgdnmaa", sum := "e82085ad2f450b8cd42394a02dac099ddbbd5fd4fb37fed8deade007cddf4fb7", func := "pane/panelaw.GlyphDecodes", spec := "glyphDecodes", apart := false }
def GlyphDecodesSaid : Prop := glyphDecodesRow.holds Try.pinned (OpenSpec.ofChange glyphDecodesSpec)

/-- ITS FALSE NEIGHBOUR: 'it returns false'. Refute it at one input. -/
def glyphDecodesWrong : ChangeSpec := { name := "glyphDecodes", fn := fun _ => fun
  | [d] => { results := [.lit (.bool false)], args := [d] }
  | _ => none }
def GlyphDecodesWrongFalsely : Prop := glyphDecodesRow.holds Try.pinned (OpenSpec.ofChange glyphDecodesWrong)

/-- 'panelaw.GlyphEncodes': WHATEVER THE INPUT: true; the input reads as it did. -/
def glyphEncodesSpec : ChangeSpec := { name := "glyphEncodes", fn := fun _ => fun
  | [d] => { results := [.lit (.bool true)], args := [d] }
  | _ => none }
def glyphEncodesRow : OpenClaim := { program := "ytlioofikfgdnmaa", sum := "e82085ad2f450b8cd42394a02dac099ddbbd5fd4fb37fed8deade007cddf4fb7", func := "pane/panelaw.GlyphEncodes", spec := "glyphEncodes", apart := false }
def GlyphEncodesSaid : Prop := glyphEncodesRow.holds Try.pinned (OpenSpec.ofChange glyphEncodesSpec)

/-- ITS FALSE NEIGHBOUR: 'it returns false'. Refute it at one input. -/
def glyphEncodesWrong : ChangeSpec := { name := "glyphEncodes", fn := fun _ => fun
  | [d] => { results := [.lit (.bool false)], args := [d] }
  | _ => none }
def GlyphEncodesWrongFalsely : Prop := glyphEncodesRow.holds Try.pinned (OpenSpec.ofChange glyphEncodesWrong)

/-- 'panelaw.GlyphStable': WHATEVER THE INPUT: true; the input reads as it did. -/
def glyphStableSpec : ChangeSpec := { name := "glyphStable", fn := fun _ => fun
  | [d] => { results := [.lit (.bool true)], args := [d] }
  | _ => none }
def glyphStableRow : OpenClaim := { program := "ytlioofikfgdnmaa", sum := "e82085ad2f450b8cd42394a02dac099ddbbd5fd4fb37fed8deade007cddf4fb7", func := "pane/panelaw.GlyphStable", spec := "glyphStable", apart := false }
def GlyphStableSaid : Prop := glyphStableRow.holds Try.pinned (OpenSpec.ofChange glyphStableSpec)

/-- ITS FALSE NEIGHBOUR: 'it returns false'. Refute it at one input. -/
def glyphStableWrong : ChangeSpec := { name := "glyphStable", fn := fun _ => fun
  | [d] => { results := [.lit (.bool false)], args := [d] }
  | _ => none }
def GlyphStableWrongFalsely : Prop := glyphStableRow.holds Try.pinned (OpenSpec.ofChange glyphStableWrong)

/- THE SECOND FORM. 'bulk': how many values and letters a reading holds, each counted each time it is reached (what is shared counts as often as it is met; a slice's spare places count too). A statement '..UptoSaid' is the law's where the arguments, and the package variables that the reading takes, are together of bulk at most 1048576: NARROWER than '..Said'. Prove '..Said' where nothing that the law and all that it calls make is longer than what came in: it says more and counts as full. Else prove '..UptoSaid'. A law counts once. -/
mutual
def uptoBulk {H : Type} : DataW H → Nat
  | .lit (.string bytes) => bytes.length + 1
  | .lit _ => 1
  | .nil => 1
  | .ptr d => uptoBulk d + 1
  | .slice elems spare => uptoBulkAll elems + uptoBulkAll spare + 1
  | .agg parts => uptoBulkAll parts + 1
  | .iface _ d => uptoBulk d + 1
  | .map entries => uptoBulkEntries entries + 1
  | .held _ => 1
def uptoBulkAll {H : Type} : List (DataW H) → Nat
  | [] => 0
  | d :: r => uptoBulk d + uptoBulkAll r
def uptoBulkEntries {H : Type} : List (Lit × DataW H) → Nat
  | [] => 0
  | x :: r => uptoBulkEntry x + uptoBulkEntries r
def uptoBulkEntry {H : Type} : Lit × DataW H → Nat
  | (.string bytes, d) => bytes.length + uptoBulk d + 1
  | (_, d) => uptoBulk d + 1
 end
def uptoSmall : (H : Type) → List (DataW H) → Bool := fun _ ds => decide (uptoBulkAll ds ≤ 1048576)
def OpenSpec.upto (s : _root_.Go.ChangeSpec) : _root_.Go.OpenSpec := { _root_.Go.OpenSpec.ofChange s with cond := some uptoSmall }

/-- 'panelaw.GlyphDecodes', WHERE WHAT IT READS IS OF BULK AT MOST 1048576: true; the input reads as it did. -/
def glyphDecodesUptoRow : OpenClaim := { program := "ytlioofikfgdnmaa", sum := "e82085ad2f450b8cd42394a02dac099ddbbd5fd4fb37fed8deade007cddf4fb7", func := "pane/panelaw.GlyphDecodes", spec := "glyphDecodes", apart := false, narrowed := true }
def GlyphDecodesUptoSaid : Prop := glyphDecodesUptoRow.holds Try.pinned (OpenSpec.upto glyphDecodesSpec)

/-- 'panelaw.GlyphEncodes', WHERE WHAT IT READS IS OF BULK AT MOST 1048576: true; the input reads as it did. -/
def glyphEncodesUptoRow : OpenClaim := { program := "ytlioofikfgdnmaa", sum := "e82085ad2f450b8cd42394a02dac099ddbbd5fd4fb37fed8deade007cddf4fb7", func := "pane/panelaw.GlyphEncodes", spec := "glyphEncodes", apart := false, narrowed := true }
def GlyphEncodesUptoSaid : Prop := glyphEncodesUptoRow.holds Try.pinned (OpenSpec.upto glyphEncodesSpec)

/-- 'panelaw.GlyphStable', WHERE WHAT IT READS IS OF BULK AT MOST 1048576: true; the input reads as it did. -/
def glyphStableUptoRow : OpenClaim := { program := "ytlioofikfgdnmaa", sum := "e82085ad2f450b8cd42394a02dac099ddbbd5fd4fb37fed8deade007cddf4fb7", func := "pane/panelaw.GlyphStable", spec := "glyphStable", apart := false, narrowed := true }
def GlyphStableUptoSaid : Prop := glyphStableUptoRow.holds Try.pinned (OpenSpec.upto glyphStableSpec)

end Rows
end Go.Proofs.Ytlioofikfgdnmaa
