/-
  A list of numbers in memory.
-/
import Derived.Test.YtkdajaphbmclkaaGreatDoorProg
import Derived.WalkKit
namespace Go.Proofs.YtkdajaphbmclkaaGreatDoor
open Go.RowKit
set_option linter.unusedVariables false

/-- A list of numbers that may be read. -/
def Ints (w : World) (v : Value) (zs : List Int) : Prop :=
  ∃ a cap, v = .slice a zs.length cap ∧ (zs = [] ∨ ∃ b off, a = some ⟨b, off, none⟩ ∧ b < w.heap.size ∧ ∀ j, j < zs.length → w.cell? ⟨b, off + j, none⟩ = some (.int .i64 (zs[j]?.getD 0)))

end Go.Proofs.YtkdajaphbmclkaaGreatDoor
