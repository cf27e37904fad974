/-
  panelaw.theirs; what Holds answers.
-/
import Derived.Test.YtkcddikpjblpaagBCap
namespace Go.Proofs.Ytkcddikpjblpaag
open Go.RowKit Go.Sort
set_option linter.unusedVariables false

set_option maxRecDepth 100000 in
theorem theirs_any (x y a b : Int) (w : World) : Calls Try.prog 31 #[rv x y a b] w fun e w' => e = .returned (rv x y a b) ∧ Gr w w' := by
  unfold rv
  go_enter Try.func31, Try.ntmps31
  go_wp2
  refine bodyPost_ret (v := rv x y a b) (by simp [results, Try.results31, go_sem, rv]) rfl ?_
  exact ⟨rfl, ((Gr.refl w).alloc _).alloc _⟩

/-- What Holds answers. -/
def holdB (x y a b px py : Int) : Bool := decide (posI x ≤ px ∧ px < posI x + lenI a ∧ posI y ≤ py ∧ py < posI y + lenI b)
theorem holdB_yes {x y a b px py : Int} (h : posI x ≤ px ∧ px < posI x + lenI a ∧ posI y ≤ py ∧ py < posI y + lenI b) : holdB x y a b px py = true := decide_eq_true h
theorem holdB_no {x y a b px py : Int} (h : ¬ (posI x ≤ px ∧ px < posI x + lenI a ∧ posI y ≤ py ∧ py < posI y + lenI b)) : holdB x y a b px py = false := decide_eq_false h

end Go.Proofs.Ytkcddikpjblpaag
