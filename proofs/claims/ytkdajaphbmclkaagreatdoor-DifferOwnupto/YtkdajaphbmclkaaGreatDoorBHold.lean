/-
  What Holds answers.
-/
import Derived.Test.YtkdajaphbmclkaaGreatDoorBCap
namespace Go.Proofs.YtkdajaphbmclkaaGreatDoor
set_option linter.unusedVariables false

/-- What Holds answers. -/
def holdB (x y a b px py : Int) : Bool := decide (posI x ≤ px ∧ px < posI x + lenI a ∧ posI y ≤ py ∧ py < posI y + lenI b)
theorem holdB_yes {x y a b px py : Int} (h : posI x ≤ px ∧ px < posI x + lenI a ∧ posI y ≤ py ∧ py < posI y + lenI b) : holdB x y a b px py = true := decide_eq_true h
theorem holdB_no {x y a b px py : Int} (h : ¬ (posI x ≤ px ∧ px < posI x + lenI a ∧ posI y ≤ py ∧ py < posI y + lenI b)) : holdB x y a b px py = false := decide_eq_false h

end Go.Proofs.YtkdajaphbmclkaaGreatDoor
