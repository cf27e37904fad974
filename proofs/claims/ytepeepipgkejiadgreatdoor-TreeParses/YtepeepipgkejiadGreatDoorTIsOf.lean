/-
  The program's attributes: isOf.
-/
import Derived.Test.YtepeepipgkejiadGreatDoorTPrg
namespace Go.Proofs.YtepeepipgkejiadGreatDoor
open Go.RowKit
set_option linter.unusedVariables false

/-- Whether an attribute whose kinds are m is of the kind k. -/
def ofK (m k : Nat) : Bool := (m / 2 ^ k) % 2 == 1

set_option maxRecDepth 100000 in
set_option maxHeartbeats 4000000 in
theorem isOf_any (n : ByteArray) (m k : Nat) (mo wi : Int) (sg : Bool) (fv : Value) (w : World) (hm : m = 127 ∨ m = 3 ∨ m = 8 ∨ m = 32) (hk : k < 7) :
    Calls Tryz.prog 107 #[.agg #[.string n, .int .u64 (m : Int), .int .i64 mo, .int .i64 wi, .bool sg, fv], .int .i64 (k : Int)] w fun e w' => e = .returned (.bool (ofK m k)) ∧ Below w.heap.size w w' := by
  have hc : k = 0 ∨ k = 1 ∨ k = 2 ∨ k = 3 ∨ k = 4 ∨ k = 5 ∨ k = 6 := by omega
  have hb : ∀ o, Below w.heap.size w (w.alloc o) := fun o => (Below.refl _ w).alloc (Nat.le_refl _) o
  have HB : Hid (∀ o, Below w.heap.size w (w.alloc o)) := hb
  clear hk hb
  rcases hm with rfl | rfl | rfl | rfl <;> rcases hc with rfl | rfl | rfl | rfl | rfl | rfl | rfl
  all_goals
    go_enter Tryz.func107, Tryz.ntmps107
    go_wp2
    go_ret
    exact ⟨by rfl, HB.out _⟩

end Go.Proofs.YtepeepipgkejiadGreatDoor
