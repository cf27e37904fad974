/-
  The program's table of attributes.
-/
import Derived.Test.YtepeepipgkejiadGreatDoorTIn
namespace Go.Proofs.YtepeepipgkejiadGreatDoor
open Go.RowKit
set_option linter.unusedVariables false

/-- The table's cells: six a row. -/
def attCells : Array Value := #[
    .string ⟨#[105, 100]⟩, .int .u64 127, .int .i64 999999, .int .i64 0, .bool true, .func (.func 40) #[] #[],
    .string ⟨#[109, 105, 110]⟩, .int .u64 127, .int .i64 100000, .int .i64 0, .bool false, .func (.func 41) #[] #[],
    .string ⟨#[109, 97, 120]⟩, .int .u64 127, .int .i64 100000, .int .i64 (-1), .bool false, .func (.func 42) #[] #[],
    .string ⟨#[119, 101, 105, 103, 104, 116]⟩, .int .u64 127, .int .i64 100000, .int .i64 1, .bool false, .func (.func 43) #[] #[],
    .string ⟨#[103, 97, 112]⟩, .int .u64 3, .int .i64 100, .int .i64 0, .bool false, .func (.func 44) #[] #[],
    .string ⟨#[112, 97, 100]⟩, .int .u64 8, .int .i64 20, .int .i64 0, .bool false, .func (.func 45) #[] #[],
    .string ⟨#[98, 111, 114, 100, 101, 114]⟩, .int .u64 8, .int .i64 1, .int .i64 1, .bool false, .func (.func 46) #[] #[],
    .string ⟨#[97, 108, 105, 103, 110]⟩, .int .u64 32, .int .i64 2, .int .i64 0, .bool false, .func (.func 47) #[] #[],
    .string ⟨#[119, 114, 97, 112]⟩, .int .u64 32, .int .i64 1, .int .i64 1, .bool false, .func (.func 48) #[] #[],
    .string ⟨#[102, 103]⟩, .int .u64 127, .int .i64 8, .int .i64 0, .bool false, .func (.func 49) #[] #[],
    .string ⟨#[98, 103]⟩, .int .u64 127, .int .i64 8, .int .i64 0, .bool false, .func (.func 50) #[] #[],
    .string ⟨#[98, 111, 108, 100]⟩, .int .u64 127, .int .i64 1, .int .i64 0, .bool false, .func (.func 51) #[] #[]]

set_option maxRecDepth 100000 in
set_option maxHeartbeats 4000000 in
theorem attributes_any (w : World) : Calls Tryz.prog 23 #[] w fun e w' => e = .returned (.slice (some ⟨w.heap.size, 0, none⟩) 12 12) ∧ w' = w.alloc (.cells attCells 83) := by
  go_enter Tryz.func23, Tryz.ntmps23
  go_wp2
  go_ret
  exact ⟨rfl, rfl⟩

end Go.Proofs.YtepeepipgkejiadGreatDoor
