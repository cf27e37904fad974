/-
  The program's table of attributes, row by row; the function values in it.
-/
import Derived.Test.YtepeepipgkejiadGreatDoorTAt
import Derived.Test.YtepeepipgkejiadGreatDoorTNm
import Derived.Test.YtepeepipgkejiadGreatDoorTRead
namespace Go.Proofs.YtepeepipgkejiadGreatDoor
open Go.RowKit
set_option linter.unusedVariables false

def kdL : List Nat := [127, 127, 127, 127, 3, 8, 8, 32, 32, 127, 127, 127]
def fnL : List Nat := [40, 41, 42, 43, 44, 45, 46, 47, 48, 49, 50, 51]
def nmAt (k : Nat) : ByteArray := namesL[k]?.getD ByteArray.empty
def kdAt (k : Nat) : Nat := kdL[k]?.getD 0
def moAt (k : Nat) : Int := mostL[k]?.getD 0
def woAt (k : Nat) : Int := withoutL[k]?.getD 0
def sgAt (k : Nat) : Bool := k == 0
def fnAt (k : Nat) : Nat := fnL[k]?.getD 0

/-- A row of the table, as cells. -/
def rowV (k : Nat) : List Value := [.string (nmAt k), .int .u64 (kdAt k : Int), .int .i64 (moAt k), .int .i64 (woAt k), .bool (sgAt k), .func (.func (fnAt k)) #[] #[]]
structure Tab (W : World) (ab : Nat) : Prop where
  lt : ab < W.heap.size
  row : ∀ k, k < 12 → ∀ t, t < 6 → W.cell? ⟨ab, k * 6 + t, none⟩ = (rowV k)[t]?
theorem Tab.fr {W W' : World} {ab B r : Nat} (h : Tab W ab) (f : Fr B r W W') (h1 : ab < B) (h2 : ab ≠ r) : Tab W' ab :=
  ⟨Nat.lt_of_lt_of_le h.lt f.size, fun k hk t ht => by rw [World.cell?_of_block (f.block ab h1 h2)]; exact h.row k hk t ht⟩
theorem Tab.at {W : World} {ab k : Nat} (h : Tab W ab) (hk : k < 12) : W.cell? ⟨ab, k * 6, none⟩ = some (.string (nmAt k)) ∧ W.cell? ⟨ab, k * 6 + 1, none⟩ = some (.int .u64 (kdAt k : Int)) ∧ W.cell? ⟨ab, k * 6 + 2, none⟩ = some (.int .i64 (moAt k)) ∧ W.cell? ⟨ab, k * 6 + 3, none⟩ = some (.int .i64 (woAt k)) ∧ W.cell? ⟨ab, k * 6 + 4, none⟩ = some (.bool (sgAt k)) ∧ W.cell? ⟨ab, k * 6 + 5, none⟩ = some (.func (.func (fnAt k)) #[] #[]) :=
  ⟨h.row k hk 0 (by omega), h.row k hk 1 (by omega), h.row k hk 2 (by omega), h.row k hk 3 (by omega), h.row k hk 4 (by omega), h.row k hk 5 (by omega)⟩
theorem tab_new (w : World) : Tab (w.alloc (.cells attCells 83)) w.heap.size := by
  refine ⟨by simp, fun k hk t ht => ?_⟩
  rw [World.cell?_alloc_at _ _ _ _ rfl]
  have : k = 0 ∨ k = 1 ∨ k = 2 ∨ k = 3 ∨ k = 4 ∨ k = 5 ∨ k = 6 ∨ k = 7 ∨ k = 8 ∨ k = 9 ∨ k = 10 ∨ k = 11 := by omega
  have ht2 : t = 0 ∨ t = 1 ∨ t = 2 ∨ t = 3 ∨ t = 4 ∨ t = 5 := by omega
  rcases this with rfl | rfl | rfl | rfl | rfl | rfl | rfl | rfl | rfl | rfl | rfl | rfl <;> rcases ht2 with rfl | rfl | rfl | rfl | rfl | rfl <;> rfl

/-- Where attribute k stands in a node, asked by its function. -/
def InAt (g k : Nat) : Prop := (∀ args w, (callFunc g args).run Tryz.prog w = .ok (.enter g args) w) ∧ ∀ (nb o : Nat) (w : World), Calls Tryz.prog g #[.pointer (some ⟨nb, o, none⟩)] w fun e w' => e = .returned (.pointer (some ⟨nb, o + (k + 1), none⟩)) ∧ w' = w
theorem in_at (k : Nat) (hk : k < 12) : InAt (fnAt k) k := by
  have : k = 0 ∨ k = 1 ∨ k = 2 ∨ k = 3 ∨ k = 4 ∨ k = 5 ∨ k = 6 ∨ k = 7 ∨ k = 8 ∨ k = 9 ∨ k = 10 ∨ k = 11 := by omega
  rcases this with rfl | rfl | rfl | rfl | rfl | rfl | rfl | rfl | rfl | rfl | rfl | rfl
  · exact ⟨enters_of Tryz.func40 (by kernel_rfl) rfl, in1⟩
  · exact ⟨enters_of Tryz.func41 (by kernel_rfl) rfl, in2⟩
  · exact ⟨enters_of Tryz.func42 (by kernel_rfl) rfl, in3⟩
  · exact ⟨enters_of Tryz.func43 (by kernel_rfl) rfl, in4⟩
  · exact ⟨enters_of Tryz.func44 (by kernel_rfl) rfl, in5⟩
  · exact ⟨enters_of Tryz.func45 (by kernel_rfl) rfl, in6⟩
  · exact ⟨enters_of Tryz.func46 (by kernel_rfl) rfl, in7⟩
  · exact ⟨enters_of Tryz.func47 (by kernel_rfl) rfl, in8⟩
  · exact ⟨enters_of Tryz.func48 (by kernel_rfl) rfl, in9⟩
  · exact ⟨enters_of Tryz.func49 (by kernel_rfl) rfl, in10⟩
  · exact ⟨enters_of Tryz.func50 (by kernel_rfl) rfl, in11⟩
  · exact ⟨enters_of Tryz.func51 (by kernel_rfl) rfl, in12⟩

end Go.Proofs.YtepeepipgkejiadGreatDoor
