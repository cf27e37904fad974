/-
  The reference's lists: kinds, names, most, without; owns.
-/
import Derived.Test.YtepeepipgkejiadGreatDoorTQuo
namespace Go.Proofs.YtepeepipgkejiadGreatDoor
open Go.RowKit
set_option linter.unusedVariables false

/-- kinds, as texts. -/
def kindsL : List ByteArray := [⟨#[114, 111, 119]⟩, ⟨#[99, 111, 108]⟩, ⟨#[115, 116, 97, 99, 107]⟩, ⟨#[98, 111, 120]⟩, ⟨#[115, 99, 114, 111, 108, 108]⟩, ⟨#[116, 101, 120, 116]⟩, ⟨#[103, 97, 112]⟩]
set_option maxRecDepth 100000 in
set_option maxHeartbeats 1000000 in
theorem kinds_any (w : World) : Calls Tryz.prog 34 #[] w fun e w' => e = .returned (.slice (some ⟨w.heap.size, 0, none⟩) 7 7) ∧ (∀ j, j < 7 → w'.cell? ⟨w.heap.size, 0 + j, none⟩ = some (.string (kindsL[j]?.getD ByteArray.empty))) ∧ w.heap.size < w'.heap.size ∧ Below w.heap.size w w' := by
  have HC : Hid (∀ j, j < 7 → (w.alloc (.cells #[.string ⟨#[114, 111, 119]⟩, .string ⟨#[99, 111, 108]⟩, .string ⟨#[115, 116, 97, 99, 107]⟩, .string ⟨#[98, 111, 120]⟩, .string ⟨#[115, 99, 114, 111, 108, 108]⟩, .string ⟨#[116, 101, 120, 116]⟩, .string ⟨#[103, 97, 112]⟩] 9)).cell? ⟨w.heap.size, 0 + j, none⟩ = some (.string (kindsL[j]?.getD ByteArray.empty))) := fun j hj => by
    rw [Nat.zero_add, World.cell?_alloc_at _ _ _ _ rfl]
    match j, hj with
    | 0, _ => rfl
    | 1, _ => rfl
    | 2, _ => rfl
    | 3, _ => rfl
    | 4, _ => rfl
    | 5, _ => rfl
    | 6, _ => rfl
  go_enter Tryz.func34, Tryz.ntmps34
  go_wp2
  go_ret
  exact ⟨rfl, HC.out, by simp, (Below.refl _ _).alloc (Nat.le_refl _) _⟩

/-- names, as texts. -/
def namesL : List ByteArray := [⟨#[105, 100]⟩, ⟨#[109, 105, 110]⟩, ⟨#[109, 97, 120]⟩, ⟨#[119, 101, 105, 103, 104, 116]⟩, ⟨#[103, 97, 112]⟩, ⟨#[112, 97, 100]⟩, ⟨#[98, 111, 114, 100, 101, 114]⟩, ⟨#[97, 108, 105, 103, 110]⟩, ⟨#[119, 114, 97, 112]⟩, ⟨#[102, 103]⟩, ⟨#[98, 103]⟩, ⟨#[98, 111, 108, 100]⟩]
set_option maxRecDepth 100000 in
set_option maxHeartbeats 1000000 in
theorem names_any (w : World) : Calls Tryz.prog 77 #[] w fun e w' => e = .returned (.slice (some ⟨w.heap.size, 0, none⟩) 12 12) ∧ (∀ j, j < 12 → w'.cell? ⟨w.heap.size, 0 + j, none⟩ = some (.string (namesL[j]?.getD ByteArray.empty))) ∧ w.heap.size < w'.heap.size ∧ Below w.heap.size w w' := by
  have HC : Hid (∀ j, j < 12 → (w.alloc (.cells #[.string ⟨#[105, 100]⟩, .string ⟨#[109, 105, 110]⟩, .string ⟨#[109, 97, 120]⟩, .string ⟨#[119, 101, 105, 103, 104, 116]⟩, .string ⟨#[103, 97, 112]⟩, .string ⟨#[112, 97, 100]⟩, .string ⟨#[98, 111, 114, 100, 101, 114]⟩, .string ⟨#[97, 108, 105, 103, 110]⟩, .string ⟨#[119, 114, 97, 112]⟩, .string ⟨#[102, 103]⟩, .string ⟨#[98, 103]⟩, .string ⟨#[98, 111, 108, 100]⟩] 9)).cell? ⟨w.heap.size, 0 + j, none⟩ = some (.string (namesL[j]?.getD ByteArray.empty))) := fun j hj => by
    rw [Nat.zero_add, World.cell?_alloc_at _ _ _ _ rfl]
    match j, hj with
    | 0, _ => rfl
    | 1, _ => rfl
    | 2, _ => rfl
    | 3, _ => rfl
    | 4, _ => rfl
    | 5, _ => rfl
    | 6, _ => rfl
    | 7, _ => rfl
    | 8, _ => rfl
    | 9, _ => rfl
    | 10, _ => rfl
    | 11, _ => rfl
  go_enter Tryz.func77, Tryz.ntmps77
  go_wp2
  go_ret
  exact ⟨rfl, HC.out, by simp, (Below.refl _ _).alloc (Nat.le_refl _) _⟩

/-- most, as numbers. -/
def mostL : List Int := [999999, 100000, 100000, 100000, 100, 20, 1, 2, 1, 8, 8, 1]
set_option maxRecDepth 100000 in
set_option maxHeartbeats 1000000 in
theorem most_any (w : World) : Calls Tryz.prog 79 #[] w fun e w' => e = .returned (.slice (some ⟨w.heap.size, 0, none⟩) 12 12) ∧ (∀ j, j < 12 → w'.cell? ⟨w.heap.size, 0 + j, none⟩ = some (.int .i64 (mostL[j]?.getD 0)) ∧ w'.frozen? ⟨w.heap.size, 0 + j, none⟩ = false) ∧ w.heap.size < w'.heap.size ∧ Below w.heap.size w w' := by
  have HC : Hid (∀ j, j < 12 → (w.alloc (.cells #[.int .i64 (999999), .int .i64 (100000), .int .i64 (100000), .int .i64 (100000), .int .i64 (100), .int .i64 (20), .int .i64 (1), .int .i64 (2), .int .i64 (1), .int .i64 (8), .int .i64 (8), .int .i64 (1)] 3)).cell? ⟨w.heap.size, 0 + j, none⟩ = some (.int .i64 (mostL[j]?.getD 0)) ∧ (w.alloc (.cells #[.int .i64 (999999), .int .i64 (100000), .int .i64 (100000), .int .i64 (100000), .int .i64 (100), .int .i64 (20), .int .i64 (1), .int .i64 (2), .int .i64 (1), .int .i64 (8), .int .i64 (8), .int .i64 (1)] 3)).frozen? ⟨w.heap.size, 0 + j, none⟩ = false) := fun j hj => by
    rw [Nat.zero_add, World.cell?_alloc_at _ _ _ _ rfl, World.frozen?_alloc_at _ _ _ _ rfl]
    match j, hj with
    | 0, _ => exact ⟨rfl, rfl⟩
    | 1, _ => exact ⟨rfl, rfl⟩
    | 2, _ => exact ⟨rfl, rfl⟩
    | 3, _ => exact ⟨rfl, rfl⟩
    | 4, _ => exact ⟨rfl, rfl⟩
    | 5, _ => exact ⟨rfl, rfl⟩
    | 6, _ => exact ⟨rfl, rfl⟩
    | 7, _ => exact ⟨rfl, rfl⟩
    | 8, _ => exact ⟨rfl, rfl⟩
    | 9, _ => exact ⟨rfl, rfl⟩
    | 10, _ => exact ⟨rfl, rfl⟩
    | 11, _ => exact ⟨rfl, rfl⟩
  go_enter Tryz.func79, Tryz.ntmps79
  go_wp2
  go_ret
  exact ⟨rfl, HC.out, by simp, (Below.refl _ _).alloc (Nat.le_refl _) _⟩

/-- without, as numbers. -/
def withoutL : List Int := [0, 0, -1, 1, 0, 0, 1, 0, 1, 0, 0, 0]
set_option maxRecDepth 100000 in
set_option maxHeartbeats 1000000 in
theorem without_any (w : World) : Calls Tryz.prog 74 #[] w fun e w' => e = .returned (.slice (some ⟨w.heap.size, 0, none⟩) 12 12) ∧ (∀ j, j < 12 → w'.cell? ⟨w.heap.size, 0 + j, none⟩ = some (.int .i64 (withoutL[j]?.getD 0)) ∧ w'.frozen? ⟨w.heap.size, 0 + j, none⟩ = false) ∧ w.heap.size < w'.heap.size ∧ Below w.heap.size w w' := by
  have HC : Hid (∀ j, j < 12 → (w.alloc (.cells #[.int .i64 (0), .int .i64 (0), .int .i64 (-1), .int .i64 (1), .int .i64 (0), .int .i64 (0), .int .i64 (1), .int .i64 (0), .int .i64 (1), .int .i64 (0), .int .i64 (0), .int .i64 (0)] 3)).cell? ⟨w.heap.size, 0 + j, none⟩ = some (.int .i64 (withoutL[j]?.getD 0)) ∧ (w.alloc (.cells #[.int .i64 (0), .int .i64 (0), .int .i64 (-1), .int .i64 (1), .int .i64 (0), .int .i64 (0), .int .i64 (1), .int .i64 (0), .int .i64 (1), .int .i64 (0), .int .i64 (0), .int .i64 (0)] 3)).frozen? ⟨w.heap.size, 0 + j, none⟩ = false) := fun j hj => by
    rw [Nat.zero_add, World.cell?_alloc_at _ _ _ _ rfl, World.frozen?_alloc_at _ _ _ _ rfl]
    match j, hj with
    | 0, _ => exact ⟨rfl, rfl⟩
    | 1, _ => exact ⟨rfl, rfl⟩
    | 2, _ => exact ⟨rfl, rfl⟩
    | 3, _ => exact ⟨rfl, rfl⟩
    | 4, _ => exact ⟨rfl, rfl⟩
    | 5, _ => exact ⟨rfl, rfl⟩
    | 6, _ => exact ⟨rfl, rfl⟩
    | 7, _ => exact ⟨rfl, rfl⟩
    | 8, _ => exact ⟨rfl, rfl⟩
    | 9, _ => exact ⟨rfl, rfl⟩
    | 10, _ => exact ⟨rfl, rfl⟩
    | 11, _ => exact ⟨rfl, rfl⟩
  go_enter Tryz.func74, Tryz.ntmps74
  go_wp2
  go_ret
  exact ⟨rfl, HC.out, by simp, (Below.refl _ _).alloc (Nat.le_refl _) _⟩

/-- Does the kind have the attribute? -/
def ownsB (kind attr : Nat) : Bool := if attr = 4 then (kind == 0 || kind == 1) else if attr = 5 ∨ attr = 6 then kind == 3 else if attr = 7 ∨ attr = 8 then kind == 5 else true

set_option maxRecDepth 100000 in
set_option maxHeartbeats 4000000 in
theorem owns_any (kind attr : Nat) (hk : kind < 7) (ha : attr < 12) (w : World) : Calls Tryz.prog 78 #[.int .i64 (kind : Int), .int .i64 (attr : Int)] w fun e w' => e = .returned (.bool (ownsB kind attr)) ∧ w' = w := by
  obtain ⟨r, hr⟩ : ∃ r, ownsB kind attr = r := ⟨_, rfl⟩
  rw [hr]
  have HK : kind = 0 ∨ kind = 1 ∨ kind = 2 ∨ kind = 3 ∨ kind = 4 ∨ kind = 5 ∨ kind = 6 := by omega
  have HA : attr = 0 ∨ attr = 1 ∨ attr = 2 ∨ attr = 3 ∨ attr = 4 ∨ attr = 5 ∨ attr = 6 ∨ attr = 7 ∨ attr = 8 ∨ attr = 9 ∨ attr = 10 ∨ attr = 11 := by omega
  rcases HA with rfl | rfl | rfl | rfl | rfl | rfl | rfl | rfl | rfl | rfl | rfl | rfl <;> rcases HK with rfl | rfl | rfl | rfl | rfl | rfl | rfl <;>
    (simp [ownsB] at hr; subst hr; go_enter Tryz.func78, Tryz.ntmps78; go_wp2; go_ret; exact ⟨rfl, rfl⟩)

end Go.Proofs.YtepeepipgkejiadGreatDoor
