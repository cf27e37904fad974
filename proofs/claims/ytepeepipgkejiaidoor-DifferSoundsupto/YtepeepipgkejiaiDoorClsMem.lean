/-
  Clusters in memory.
-/
import Derived.Test.YtepeepipgkejiaiDoorGClus
import Derived.BigQuiet
import Derived.Deep.QuietTactic
namespace Go.Proofs.YtepeepipgkejiaiDoor
open Go.RowKit
set_option linter.unusedVariables false

/-- A list of clusters in memory. -/
def Cls (w : World) (v : Value) (l : List (List UInt8 × Int)) : Prop :=
  ∃ a cap, v = .slice a l.length cap ∧ (l = [] ∨ ∃ b off, a = some ⟨b, off, none⟩ ∧ b < w.heap.size ∧ ∀ j (hj : j < l.length), w.cell? ⟨b, off + j * 2, none⟩ = some (.string ⟨(l[j]).1.toArray⟩) ∧ w.cell? ⟨b, off + j * 2 + 1, none⟩ = some (.int .i64 (l[j]).2))

theorem Cls.below {w w' : World} {v : Value} {l : List (List UInt8 × Int)} (h : Cls w v l) (hb : Below w.heap.size w w') : Cls w' v l := by
  obtain ⟨a, cap, rfl, hh⟩ := h
  refine ⟨a, cap, rfl, ?_⟩
  rcases hh with rfl | ⟨b, off, rfl, hl, hc⟩
  · exact .inl rfl
  · exact .inr ⟨b, off, rfl, Nat.lt_of_lt_of_le hl hb.size, fun j hj => ⟨(hb.cell (p := ⟨b, off + j * 2, none⟩) hl).trans (hc j hj).1, (hb.cell (p := ⟨b, off + j * 2 + 1, none⟩) hl).trans (hc j hj).2⟩⟩

theorem cCells_length (l : List (List UInt8 × Int)) : (cCells l).length = l.length * 2 := by
  induction l with
  | nil => rfl
  | cons c l ih => simp only [cCells, List.flatMap_cons, List.length_append, List.length_cons, List.length_nil] at *; omega
theorem cCells_at (l : List (List UInt8 × Int)) (j : Nat) (hj : j < l.length) : (cCells l)[j * 2]? = some (.string ⟨(l[j]).1.toArray⟩) ∧ (cCells l)[j * 2 + 1]? = some (.int .i64 (l[j]).2) := by
  induction l generalizing j with
  | nil => simp at hj
  | cons c l ih =>
    have e : cCells (c :: l) = .string ⟨c.1.toArray⟩ :: .int .i64 c.2 :: cCells l := rfl
    cases j with
    | zero => rw [e]; simp
    | succ j =>
      have := ih j (by simpa using hj)
      rw [e, show (j + 1) * 2 = j * 2 + 1 + 1 by omega]
      simpa using this

theorem cls_own {w : World} {B n : Nat} {e : TypeId} {v : Value} {l : List (List UInt8 × Int)} (h : w.ownsRow B e 2 v n (cCells l)) : Cls w v l := by
  have hl : l.length = n := by have := h.1; rw [cCells_length] at this; omega
  rcases h.2 with ⟨rfl, rfl⟩ | ⟨g, cap, cur, rfl, _, hg, _⟩
  · have hz : l = [] := List.length_eq_zero_iff.1 hl
    subst hz
    exact ⟨none, 0, rfl, .inl rfl⟩
  · refine ⟨some ⟨g, 0, none⟩, cap, by rw [hl], .inr ⟨g, 0, rfl, (Array.getElem?_eq_some_iff.1 hg).1, fun j hj => ?_⟩⟩
    have c := cCells_at l j hj
    have a0 := h.cells (g := g) rfl (j * 2) _ c.1
    have a1 := h.cells (g := g) rfl (j * 2 + 1) _ c.2
    have e0 : (⟨g, 0, none⟩ : Addr).add (j * 2) = ⟨g, 0 + j * 2, none⟩ := by unfold Addr.add; split <;> simp_all
    have e1 : (⟨g, 0, none⟩ : Addr).add (j * 2 + 1) = ⟨g, 0 + j * 2 + 1, none⟩ := by unfold Addr.add; split <;> simp_all
    rw [e0] at a0
    rw [e1] at a1
    exact ⟨a0, a1⟩

end Go.Proofs.YtepeepipgkejiaiDoor
