/-
  The orders of the two comparisons.
-/
import Derived.Test.YtmlicipdkbeihacSStf
namespace Go.Proofs.Ytmlicipdkbeihac
set_option linter.unusedVariables false

theorem cmpI_lt (x y : Int) : cmpI x y < 0 ↔ x < y := by
  unfold cmpI
  by_cases h1 : x < y
  · simp [h1]
  · by_cases h2 : y < x <;> simp [h1, h2]
theorem cmpI_bd (x y : Int) : -1 ≤ cmpI x y ∧ cmpI x y ≤ 1 := by
  unfold cmpI
  by_cases h1 : x < y
  · simp [h1]
  · by_cases h2 : y < x <;> simp [h1, h2]

/-- The greater fraction first; among equals the earlier. -/
def RFrac (F : Int → Int) (i k : Int) : Prop := F k < F i ∨ (F i = F k ∧ i < k)
theorem ord_frac (F : Int → Int) (D : List Int) : Ord (fun i k => cmpI (F k) (F i)) D (RFrac F) where
  lt := fun x _ y _ h => Or.inl ((cmpI_lt _ _).1 h)
  ge := fun x _ y _ hxy h => by
    have h1 : ¬ F x < F y := fun h2 => h ((cmpI_lt _ _).2 h2)
    by_cases e : F x = F y
    · exact Or.inr ⟨e, hxy⟩
    · exact Or.inl (by omega)
  trans := fun x _ y _ z _ h1 h2 => by
    unfold RFrac at *
    omega
  bd := fun x _ y _ => cmpI_bd _ _

/-- Who is full at a smaller t first; among equals the earlier. -/
def RFill (M V : Int → Int) (i k : Int) : Prop := M i * V k < M k * V i ∨ (M i * V k = M k * V i ∧ i < k)

theorem cross_le {a b c u v w : Int} (hu : 0 < u) (hv : 0 < v) (hw : 0 < w) (h1 : a * v ≤ b * u) (h2 : b * w ≤ c * v) : a * w ≤ c * u := by
  have e1 : a * v * w ≤ b * u * w := Int.mul_le_mul_of_nonneg_right h1 (by omega)
  have e2 : b * w * u ≤ c * v * u := Int.mul_le_mul_of_nonneg_right h2 (by omega)
  have e3 : a * w * v ≤ c * u * v := by
    rw [Int.mul_right_comm a w v, Int.mul_right_comm c u v]
    refine Int.le_trans e1 ?_
    rw [Int.mul_right_comm b u w]; exact e2
  exact Int.le_of_mul_le_mul_right e3 hv
theorem cross_lt {a b c u v w : Int} (hu : 0 < u) (hv : 0 < v) (hw : 0 < w) (h1 : a * v ≤ b * u) (h2 : b * w ≤ c * v) (hs : a * v < b * u ∨ b * w < c * v) : a * w < c * u := by
  have e1 : a * v * w ≤ b * u * w := Int.mul_le_mul_of_nonneg_right h1 (by omega)
  have e2 : b * w * u ≤ c * v * u := Int.mul_le_mul_of_nonneg_right h2 (by omega)
  have e3 : a * w * v < c * u * v := by
    rw [Int.mul_right_comm a w v, Int.mul_right_comm c u v]
    rcases hs with hs | hs
    · refine Int.lt_of_lt_of_le (Int.mul_lt_mul_of_pos_right hs hw) ?_
      rw [Int.mul_right_comm b u w]; exact e2
    · refine Int.lt_of_le_of_lt e1 ?_
      rw [Int.mul_right_comm b u w]; exact Int.mul_lt_mul_of_pos_right hs hu
  exact Int.lt_of_mul_lt_mul_right e3 (by omega)

theorem ord_fill (M V : Int → Int) (D : List Int) (hV : ∀ i ∈ D, 0 < V i) : Ord (fun i k => cmpI (M i * V k) (M k * V i)) D (RFill M V) where
  lt := fun x _ y _ h => Or.inl ((cmpI_lt _ _).1 h)
  ge := fun x _ y _ hxy h => by
    have h1 : ¬ M y * V x < M x * V y := fun h2 => h ((cmpI_lt _ _).2 h2)
    by_cases e : M x * V y = M y * V x
    · exact Or.inr ⟨e, hxy⟩
    · exact Or.inl (by omega)
  trans := fun x hx y hy z hz h1 h2 => by
    have l1 : M x * V y ≤ M y * V x := by rcases h1 with h | ⟨h, _⟩ <;> omega
    have l2 : M y * V z ≤ M z * V y := by rcases h2 with h | ⟨h, _⟩ <;> omega
    by_cases hs : M x * V y < M y * V x ∨ M y * V z < M z * V y
    · exact Or.inl (cross_lt (hV x hx) (hV y hy) (hV z hz) l1 l2 hs)
    · have a1 : ¬ M x * V y < M y * V x := fun h => hs (Or.inl h)
      have a2 : ¬ M y * V z < M z * V y := fun h => hs (Or.inr h)
      have b1 : x < y := by rcases h1 with h | ⟨_, h⟩; exact (a1 h).elim; exact h
      have b2 : y < z := by rcases h2 with h | ⟨_, h⟩; exact (a2 h).elim; exact h
      have c1 := cross_le (hV x hx) (hV y hy) (hV z hz) l1 l2
      by_cases e : M x * V z = M z * V x
      · exact Or.inr ⟨e, by omega⟩
      · exact Or.inl (by omega)
  bd := fun x _ y _ => cmpI_bd _ _

end Go.Proofs.Ytmlicipdkbeihac
