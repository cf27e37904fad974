/-
  The reference's Put, as a function of the cells.
-/
import Derived.Test.YtgaogkggbccfnaaDoorCRpi
namespace Go.Proofs.YtgaogkggbccfnaaDoor
open Go.RowKit Go.Sort
set_option linter.unusedVariables false

section
variable {K M cap W H : Nat} {c : Nat → Nat → Ce}
theorem rput_any (w : World) (h : CS 72 85 w K M cap W H c) (hW : 1 ≤ W ∧ W ≤ 400) (hH : 1 ≤ H ∧ H ≤ 400) (hp : PAll W H c) (x y : Int) (txt : ByteArray) (wd f g b cx cy ca cb : Int) :
    Calls Tryd.prog 49 #[.pointer (some ⟨K, 0, none⟩), .int .i64 x, .int .i64 y, .agg #[.string txt, .int .i64 wd], sv f g b, rv cx cy ca cb] w fun e w' => e = .returned (.tuple #[]) ∧ Cv 85 w' M W H (putC W H c x y txt wd f g b cx cy ca cb) ∧ Ch M w w' := by
  by_cases ho : ¬ (wd = 1 ∨ wd = 2) ∨ y < 0 ∨ (H : Int) ≤ y ∨ x < -1 ∨ (W : Int) ≤ x
  · rw [putC_out hW hH c x y txt wd f g b cx cy ca cb ho]
    exact Calls.mono (rput_out w h hW hH x y txt wd f g b cx cy ca cb ho) (fun e w' hh => ⟨hh.1, h.cv.gr hh.2, Ch.gr hh.2⟩)
  · have hw : wd = 1 ∨ wd = 2 := by omega
    have hy : 0 ≤ y ∧ y < H := by omega
    have hx : -1 ≤ x ∧ x < W := by omega
    obtain ⟨y, rfl⟩ : ∃ n : Nat, y = n := ⟨y.toNat, by omega⟩
    have SF := seen_facts (W := W) (H := H) (by omega) (by omega) x y wd 1 cx cy ca cb
    have := rput_in w h hW hH hp x y txt wd f g b cx cy ca cb hw (by omega) hx _ _ _ _ SF
    unfold putC putQ
    rw [if_pos hw]
    exact this
end

end Go.Proofs.YtgaogkggbccfnaaDoor
