/-
  The reference's Put, of a place beyond the screen.
-/
import Derived.Test.YtgaogkggbccfnaaDoorCRpm
import Derived.Test.YtgaogkggbccfnaaDoorCClr
namespace Go.Proofs.YtgaogkggbccfnaaDoor
open Go.RowKit Go.Sort
set_option linter.unusedVariables false

section
variable {K M cap W H : Nat} {c : Nat → Nat → Ce}
set_option maxRecDepth 100000 in
set_option maxHeartbeats 4000000 in
theorem rput_out (w : World) (h : CS 72 85 w K M cap W H c) (hW : 1 ≤ W ∧ W ≤ 400) (hH : 1 ≤ H ∧ H ≤ 400) (x y : Int) (txt : ByteArray) (wd f g b cx cy ca cb : Int) (ho : ¬ (wd = 1 ∨ wd = 2) ∨ y < 0 ∨ (H : Int) ≤ y ∨ x < -1 ∨ (W : Int) ≤ x) :
    Calls Tryd.prog 49 #[.pointer (some ⟨K, 0, none⟩), .int .i64 x, .int .i64 y, .agg #[.string txt, .int .i64 wd], sv f g b, rv cx cy ca cb] w fun e w' => e = .returned (.tuple #[]) ∧ Gr w w' := by
  have h3 := h.gr ((((Gr.refl w).alloc (.cells #[.string txt, .int .i64 wd] 98)).alloc (.cells #[.int .i64 f, .int .i64 g, .int .i64 b] 64)).alloc (.cells #[.int .i64 cx, .int .i64 cy, .int .i64 ca, .int .i64 cb] 100))
  have k0 := h3.k0
  have k1 := h3.k1
  clear h h3
  unfold sv rv
  rcases (by omega : (¬ (wd = 1) ∧ ¬ (wd = 2)) ∨ ((wd = 1 ∨ wd = 2) ∧ y < 0) ∨ ((wd = 1 ∨ wd = 2) ∧ 0 ≤ y ∧ (H : Int) ≤ y) ∨ ((wd = 1 ∨ wd = 2) ∧ 0 ≤ y ∧ y < H ∧ x < -1) ∨ ((wd = 1 ∨ wd = 2) ∧ 0 ≤ y ∧ y < H ∧ -1 ≤ x ∧ (W : Int) ≤ x)) with ⟨a1, a2⟩ | ⟨a1 | a1, a2⟩ | ⟨a1 | a1, a2, a3⟩ | ⟨a1 | a1, a2, a3, a4⟩ | ⟨a1 | a1, a2, a3, a4, a5⟩
  all_goals
    clear ho
    try subst a1
    go_enter Tryd.func49, Tryd.ntmps49
    go_wp2
    refine bodyPost_ret (results_none rfl _ _ _) rfl ?_
    exact ⟨rfl, (((Gr.refl w).alloc _).alloc _).alloc _⟩
end
end Go.Proofs.YtgaogkggbccfnaaDoor
