/-
  box's rectangles: position, length, clamped, Cap, Inset, Holds.
-/
import Derived.Test.YtkdajaphbmclkaaGreatDoorProg
import Derived.WalkKit
import Derived.WalkSpells
import Derived.WalkLawsBesides
import Derived.RegionTactic
import Derived.BigRegion
import Derived.BigQuiet
import Derived.Deep.QuietTactic
import Derived.Deep.RegionWith
import Derived.Deep.RegionHeld
import Derived.Deep.Cut
import Derived.Deep.CutRange
import Derived.Shelf.SlSortCmp.QuietGrown
namespace Go.Proofs.YtkdajaphbmclkaaGreatDoor
open Go.RowKit
set_option linter.unusedVariables false

def posI (n : Int) : Int := min (max n (-100000)) 100000
def lenI (n : Int) : Int := min (max n 0) 100000
def rv (x y w h : Int) : Value := .agg #[.int .i64 x, .int .i64 y, .int .i64 w, .int .i64 h]
theorem posI_bd (n : Int) : -100000 ≤ posI n ∧ posI n ≤ 100000 := by unfold posI; omega
theorem lenI_bd (n : Int) : 0 ≤ lenI n ∧ lenI n ≤ 100000 := by unfold lenI; omega

set_option maxRecDepth 100000 in
theorem length_any (n : Int) (w : World) : Calls Tryz.prog 113 #[.int .i64 n] w fun e w' => e = .returned (.int .i64 (lenI n)) ∧ w' = w := by
  go_enter Tryz.func113, Tryz.ntmps113
  go_wp2
  all_goals
    go_ret
    refine ⟨?_, rfl⟩
    refine congrArg (fun n : Int => Ending.returned (.int .i64 n)) (?_ : _ = lenI n)
    unfold lenI
    omega
set_option maxRecDepth 100000 in
theorem position_any (n : Int) (w : World) : Calls Tryz.prog 112 #[.int .i64 n] w fun e w' => e = .returned (.int .i64 (posI n)) ∧ w' = w := by
  go_enter Tryz.func112, Tryz.ntmps112
  go_wp2
  all_goals
    go_ret
    refine ⟨?_, rfl⟩
    refine congrArg (fun n : Int => Ending.returned (.int .i64 n)) (?_ : _ = posI n)
    unfold posI
    omega

set_option maxRecDepth 100000 in
set_option maxHeartbeats 2000000 in
theorem clamped_any (x y a b : Int) (w : World) : Calls Tryz.prog 108 #[rv x y a b] w fun e w' => e = .returned (rv (posI x) (posI y) (lenI a) (lenI b)) ∧ w' = ((w.alloc (.cells #[.int .i64 x, .int .i64 y, .int .i64 a, .int .i64 b] 132)).alloc (.cells #[.int .i64 (posI x), .int .i64 (posI y), .int .i64 (lenI a), .int .i64 (lenI b)] 132)).drew := by
  have P : Hid (∀ n w, Calls Tryz.prog 112 #[.int .i64 n] w fun e w' => e = .returned (.int .i64 (posI n)) ∧ w' = w) := position_any
  have G : Hid (∀ n w, Calls Tryz.prog 113 #[.int .i64 n] w fun e w' => e = .returned (.int .i64 (lenI n)) ∧ w' = w) := length_any
  unfold rv
  go_enter Tryz.func108, Tryz.ntmps108
  go_wp2_with fail
  obtain ⟨px, hpx⟩ : ∃ z, posI x = z := ⟨_, rfl⟩
  obtain ⟨py, hpy⟩ : ∃ z, posI y = z := ⟨_, rfl⟩
  obtain ⟨la, hla⟩ : ∃ z, lenI a = z := ⟨_, rfl⟩
  obtain ⟨lb, hlb⟩ : ∃ z, lenI b = z := ⟨_, rfl⟩
  have P1 := P.out x
  have P2 := P.out y
  have G1 := G.out a
  have G2 := G.out b
  rw [hpx] at P1
  rw [hpy] at P2
  rw [hla] at G1
  rw [hlb] at G2
  go_region_held (fun W => W.cell? ⟨w.heap.size, 0, none⟩ = some (.int .i64 x) ∧ W.cell? ⟨w.heap.size, 1, none⟩ = some (.int .i64 y) ∧ W.cell? ⟨w.heap.size, 2, none⟩ = some (.int .i64 a) ∧ W.cell? ⟨w.heap.size, 3, none⟩ = some (.int .i64 b)) (go_keep) (first | (go_at_call 112; first | (refine (P1 _).mono ?_; rintro e w2 ⟨rfl, rfl⟩) | (refine (P2 _).mono ?_; rintro e w2 ⟨rfl, rfl⟩)) | (go_at_call 113; first | (refine (G1 _).mono ?_; rintro e w2 ⟨rfl, rfl⟩) | (refine (G2 _).mono ?_; rintro e w2 ⟨rfl, rfl⟩)))
  go_wp2
  refine bodyPost_ret (v := rv px py la lb) (by simp [results, Tryz.results108, go_sem, rv]) rfl ?_
  subst hpx hpy hla hlb
  exact ⟨rfl, rfl⟩

end Go.Proofs.YtkdajaphbmclkaaGreatDoor
