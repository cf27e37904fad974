/-
  The program's attributes: where each stands in a node.
-/
import Derived.Test.YtepeepipgkejiadGreatDoorTPrg
namespace Go.Proofs.YtepeepipgkejiadGreatDoor
open Go.RowKit
set_option linter.unusedVariables false

set_option maxRecDepth 100000 in
theorem in1 (nb o : Nat) (w : World) : Calls Tryz.prog 40 #[.pointer (some ⟨nb, o, none⟩)] w fun e w' => e = .returned (.pointer (some ⟨nb, o + 1, none⟩)) ∧ w' = w := by
  go_enter Tryz.func40, Tryz.ntmps40
  go_wp2
  go_ret
  exact ⟨rfl, rfl⟩
set_option maxRecDepth 100000 in
theorem in2 (nb o : Nat) (w : World) : Calls Tryz.prog 41 #[.pointer (some ⟨nb, o, none⟩)] w fun e w' => e = .returned (.pointer (some ⟨nb, o + 2, none⟩)) ∧ w' = w := by
  go_enter Tryz.func41, Tryz.ntmps41
  go_wp2
  go_ret
  exact ⟨rfl, rfl⟩
set_option maxRecDepth 100000 in
theorem in3 (nb o : Nat) (w : World) : Calls Tryz.prog 42 #[.pointer (some ⟨nb, o, none⟩)] w fun e w' => e = .returned (.pointer (some ⟨nb, o + 3, none⟩)) ∧ w' = w := by
  go_enter Tryz.func42, Tryz.ntmps42
  go_wp2
  go_ret
  exact ⟨rfl, rfl⟩
set_option maxRecDepth 100000 in
theorem in4 (nb o : Nat) (w : World) : Calls Tryz.prog 43 #[.pointer (some ⟨nb, o, none⟩)] w fun e w' => e = .returned (.pointer (some ⟨nb, o + 4, none⟩)) ∧ w' = w := by
  go_enter Tryz.func43, Tryz.ntmps43
  go_wp2
  go_ret
  exact ⟨rfl, rfl⟩
set_option maxRecDepth 100000 in
theorem in5 (nb o : Nat) (w : World) : Calls Tryz.prog 44 #[.pointer (some ⟨nb, o, none⟩)] w fun e w' => e = .returned (.pointer (some ⟨nb, o + 5, none⟩)) ∧ w' = w := by
  go_enter Tryz.func44, Tryz.ntmps44
  go_wp2
  go_ret
  exact ⟨rfl, rfl⟩
set_option maxRecDepth 100000 in
theorem in6 (nb o : Nat) (w : World) : Calls Tryz.prog 45 #[.pointer (some ⟨nb, o, none⟩)] w fun e w' => e = .returned (.pointer (some ⟨nb, o + 6, none⟩)) ∧ w' = w := by
  go_enter Tryz.func45, Tryz.ntmps45
  go_wp2
  go_ret
  exact ⟨rfl, rfl⟩
set_option maxRecDepth 100000 in
theorem in7 (nb o : Nat) (w : World) : Calls Tryz.prog 46 #[.pointer (some ⟨nb, o, none⟩)] w fun e w' => e = .returned (.pointer (some ⟨nb, o + 7, none⟩)) ∧ w' = w := by
  go_enter Tryz.func46, Tryz.ntmps46
  go_wp2
  go_ret
  exact ⟨rfl, rfl⟩
set_option maxRecDepth 100000 in
theorem in8 (nb o : Nat) (w : World) : Calls Tryz.prog 47 #[.pointer (some ⟨nb, o, none⟩)] w fun e w' => e = .returned (.pointer (some ⟨nb, o + 8, none⟩)) ∧ w' = w := by
  go_enter Tryz.func47, Tryz.ntmps47
  go_wp2
  go_ret
  exact ⟨rfl, rfl⟩
set_option maxRecDepth 100000 in
theorem in9 (nb o : Nat) (w : World) : Calls Tryz.prog 48 #[.pointer (some ⟨nb, o, none⟩)] w fun e w' => e = .returned (.pointer (some ⟨nb, o + 9, none⟩)) ∧ w' = w := by
  go_enter Tryz.func48, Tryz.ntmps48
  go_wp2
  go_ret
  exact ⟨rfl, rfl⟩
set_option maxRecDepth 100000 in
theorem in10 (nb o : Nat) (w : World) : Calls Tryz.prog 49 #[.pointer (some ⟨nb, o, none⟩)] w fun e w' => e = .returned (.pointer (some ⟨nb, o + 10, none⟩)) ∧ w' = w := by
  go_enter Tryz.func49, Tryz.ntmps49
  go_wp2
  go_ret
  exact ⟨rfl, rfl⟩
set_option maxRecDepth 100000 in
theorem in11 (nb o : Nat) (w : World) : Calls Tryz.prog 50 #[.pointer (some ⟨nb, o, none⟩)] w fun e w' => e = .returned (.pointer (some ⟨nb, o + 11, none⟩)) ∧ w' = w := by
  go_enter Tryz.func50, Tryz.ntmps50
  go_wp2
  go_ret
  exact ⟨rfl, rfl⟩
set_option maxRecDepth 100000 in
theorem in12 (nb o : Nat) (w : World) : Calls Tryz.prog 51 #[.pointer (some ⟨nb, o, none⟩)] w fun e w' => e = .returned (.pointer (some ⟨nb, o + 12, none⟩)) ∧ w' = w := by
  go_enter Tryz.func51, Tryz.ntmps51
  go_wp2
  go_ret
  exact ⟨rfl, rfl⟩

end Go.Proofs.YtepeepipgkejiadGreatDoor
