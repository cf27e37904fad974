/-
  No cell of these rows narrows 'for every input' (looked for: loops, veiled, ifaces, maps, wideKeys, modest, calm, conditions, laid).
  DERIVED. THE GIVEN ROWS OF THIS SEAT. 3 by the template 'for every input the law returns true; each argument reads behind the call as it read before'; 0 by the template 'total and deterministic' (their statements: YtmlicipdkbeihacTotals.lean).
  GIVEN WITH THE SEED: the statements are not yours to turn. If you find one false, say at which input.
  Laid BY PROGRAM, IN A SANDBOX (cutbox-rows.mjs): the forced cells as the released guide's own fill.sh prints them over the translation 3f38e41d72df33df… (all of the seat's roots in one cut). By AI agents, Wed Nov 11 2026. No macro, syntax, notation, axiom, sorry.
-/
import Derived.Test.YtmlicipdkbeihacChecked
import GoSem.Claim
import GoSem.ClaimJoined
import GoSem.ClaimMapViews
import Derived.JoinedTies
import Derived.KernelRfl
namespace Go.Proofs.Ytmlicipdkbeihac
/- THE CELL 'sum', in the pinned program and in every row, IS THE sha256 OF THE DUMP (.gsa) THAT YtmlicipdkbeihacProg.lean LOADS. Nothing in Lean hashes anything: it is a label: what it is worth is what the hold of that sum in a sandbox is worth. -/
noncomputable def Try.pinned : Pinned := { name := "ytmlicipdkbeihac", sum := "3f38e41d72df33df7396e7ab5a74bdb93315e5d96721fbdf5a739610e3faa506", checked := Try.checked }
namespace Rows
def none {H : Type} : Left H := { results := [], args := [] }

/-- 'panelaw.ShareSplits': WHATEVER THE INPUT: true; the input reads as it did. -/
def shareSplitsSpec : ChangeSpec := { name := "shareSplits", fn := fun _ => fun
  | [d1, d2, d3] => { results := [.lit (.bool true)], args := [d1, d2, d3] }
  | _ => none }
def shareSplitsRow : OpenClaim := { program := "ytmlicipdkbeihac", sum := "3f38e41d72df33df7396e7ab5a74bdb93315e5d96721fbdf5a739610e3faa506", func := "pane/panelaw.ShareSplits", spec := "shareSplits", unfollowed := true, recurses := true, apart := false }
def ShareSplitsSaid : Prop := shareSplitsRow.holds Try.pinned (OpenSpec.ofChange shareSplitsSpec)

/-- ITS FALSE NEIGHBOUR: 'it returns false'. Refute it at one input. -/
def shareSplitsWrong : ChangeSpec := { name := "shareSplits", fn := fun _ => fun
  | [d1, d2, d3] => { results := [.lit (.bool false)], args := [d1, d2, d3] }
  | _ => none }
def ShareSplitsWrongFalsely : Prop := shareSplitsRow.holds Try.pinned (OpenSpec.ofChange shareSplitsWrong)

/-- 'panelaw.ShareOffsets': WHATEVER THE INPUT: true; the input reads as it did. -/
def shareOffsetsSpec : ChangeSpec := { name := "shareOffsets", fn := fun _ => fun
  | [d1, d2, d3] => { results := [.lit (.bool true)], args := [d1, d2, d3] }
  | _ => none }
def shareOffsetsRow : OpenClaim := { program := "ytmlicipdkbeihac", sum := "3f38e41d72df33df7396e7ab5a74bdb93315e5d96721fbdf5a739610e3faa506", func := "pane/panelaw.ShareOffsets", spec := "shareOffsets", unfollowed := true, recurses := true, apart := false }
def ShareOffsetsSaid : Prop := shareOffsetsRow.holds Try.pinned (OpenSpec.ofChange shareOffsetsSpec)

/-- ITS FALSE NEIGHBOUR: 'it returns false'. Refute it at one input. -/
def shareOffsetsWrong : ChangeSpec := { name := "shareOffsets", fn := fun _ => fun
  | [d1, d2, d3] => { results := [.lit (.bool false)], args := [d1, d2, d3] }
  | _ => none }
def ShareOffsetsWrongFalsely : Prop := shareOffsetsRow.holds Try.pinned (OpenSpec.ofChange shareOffsetsWrong)

/-- 'panelaw.ShareTiles': WHATEVER THE INPUT: true; the input reads as it did. -/
def shareTilesSpec : ChangeSpec := { name := "shareTiles", fn := fun _ => fun
  | [d1, d2, d3] => { results := [.lit (.bool true)], args := [d1, d2, d3] }
  | _ => none }
def shareTilesRow : OpenClaim := { program := "ytmlicipdkbeihac", sum := "3f38e41d72df33df7396e7ab5a74bdb93315e5d96721fbdf5a739610e3faa506", func := "pane/panelaw.ShareTiles", spec := "shareTiles", unfollowed := true, recurses := true, apart := false }
def ShareTilesSaid : Prop := shareTilesRow.holds Try.pinned (OpenSpec.ofChange shareTilesSpec)

/-- ITS FALSE NEIGHBOUR: 'it returns false'. Refute it at one input. -/
def shareTilesWrong : ChangeSpec := { name := "shareTiles", fn := fun _ => fun
  | [d1, d2, d3] => { results := [.lit (.bool false)], args := [d1, d2, d3] }
  | _ => none }
def ShareTilesWrongFalsely : Prop := shareTilesRow.holds Try.pinned (OpenSpec.ofChange shareTilesWrong)

/- THE SECOND FORM. 'bulk': how many values and letters a reading holds, each counted each time it is reached (what is shared counts as often as it is met; a slice's spare places count too). A statement '..UptoSaid' is the law's where the arguments, and the package variables that the reading takes, are together of bulk at most 1048576: NARROWER than '..Said'. Prove '..Said' where nothing that the law and all that it calls make is longer than what came in: it says more and counts as full. Else prove '..UptoSaid'. A law counts once. -/
mutual
def uptoBulk {H : Type} : DataW H → Nat
  | .lit (.string bytes) => bytes.length + 1
  | .lit _ => 1
  | .nil => 1
  | .ptr d => uptoBulk d + 1
  | .slice elems spare => uptoBulkAll elems + uptoBulkAll spare + 1
  | .agg parts => uptoBulkAll parts + 1
  | .iface _ d => uptoBulk d + 1
  | .map entries => uptoBulkEntries entries + 1
  | .held _ => 1
def uptoBulkAll {H : Type} : List (DataW H) → Nat
  | [] => 0
  | d :: r => uptoBulk d + uptoBulkAll r
def uptoBulkEntries {H : Type} : List (Lit × DataW H) → Nat
  | [] => 0
  | x :: r => uptoBulkEntry x + uptoBulkEntries r
def uptoBulkEntry {H : Type} : Lit × DataW H → Nat
  | (.string bytes, d) => bytes.length + uptoBulk d + 1
  | (_, d) => uptoBulk d + 1
 end
def uptoSmall : (H : Type) → List (DataW H) → Bool := fun _ ds => decide (uptoBulkAll ds ≤ 1048576)
def OpenSpec.upto (s : _root_.Go.ChangeSpec) : _root_.Go.OpenSpec := { _root_.Go.OpenSpec.ofChange s with cond := some uptoSmall }

/-- 'panelaw.ShareSplits', WHERE WHAT IT READS IS OF BULK AT MOST 1048576: true; the input reads as it did. -/
def shareSplitsUptoRow : OpenClaim := { program := "ytmlicipdkbeihac", sum := "3f38e41d72df33df7396e7ab5a74bdb93315e5d96721fbdf5a739610e3faa506", func := "pane/panelaw.ShareSplits", spec := "shareSplits", unfollowed := true, recurses := true, apart := false, narrowed := true }
def ShareSplitsUptoSaid : Prop := shareSplitsUptoRow.holds Try.pinned (OpenSpec.upto shareSplitsSpec)

/-- 'panelaw.ShareOffsets', WHERE WHAT IT READS IS OF BULK AT MOST 1048576: true; the input reads as it did. -/
def shareOffsetsUptoRow : OpenClaim := { program := "ytmlicipdkbeihac", sum := "3f38e41d72df33df7396e7ab5a74bdb93315e5d96721fbdf5a739610e3faa506", func := "pane/panelaw.ShareOffsets", spec := "shareOffsets", unfollowed := true, recurses := true, apart := false, narrowed := true }
def ShareOffsetsUptoSaid : Prop := shareOffsetsUptoRow.holds Try.pinned (OpenSpec.upto shareOffsetsSpec)

/-- 'panelaw.ShareTiles', WHERE WHAT IT READS IS OF BULK AT MOST 1048576: true; the input reads as it did. -/
def shareTilesUptoRow : OpenClaim := { program := "ytmlicipdkbeihac", sum := "3f38e41d72df33df7396e7ab5a74bdb93315e5d96721fbdf5a739610e3faa506", func := "pane/panelaw.ShareTiles", spec := "shareTiles", unfollowed := true, recurses := true, apart := false, narrowed := true }
def ShareTilesUptoSaid : Prop := shareTilesUptoRow.holds Try.pinned (OpenSpec.upto shareTilesSpec)

end Rows
end Go.Proofs.Ytmlicipdkbeihac
