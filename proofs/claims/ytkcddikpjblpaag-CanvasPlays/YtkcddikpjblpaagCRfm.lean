/-
  A rectangle filled place by place.
-/
import Derived.Test.YtkcddikpjblpaagCRpm
namespace Go.Proofs.Ytkcddikpjblpaag
open Go.RowKit Go.Sort
set_option linter.unusedVariables false

/-- A blank put on a place that can be seen. -/
theorem putC_blank {W H : Nat} (hW : 1 ≤ W ∧ W ≤ 400) (hH : 1 ≤ H ∧ H ≤ 400) (c : Nat → Nat → Ce) (X Y : Nat) (hX : X < W) (hY : Y < H) (f g b cx cy ca cb : Int) (h : posI cx ≤ (X : Int) ∧ (X : Int) < posI cx + lenI ca ∧ posI cy ≤ (Y : Int) ∧ (Y : Int) < posI cy + lenI cb) : putC W H c X Y spc 1 f g b cx cy ca cb = fill c X (X + 1) Y (Y + 1) (fun _ => bk (kn f) (kn g) (bo b)) := by
  have SF := seen_facts (W := W) (H := H) (by omega) (by omega) X Y 1 1 cx cy ca cb
  unfold putC putQ
  generalize seenQ W H X Y 1 1 cx cy ca cb = q at SF ⊢
  obtain ⟨l, t, u, v⟩ := q
  simp only at SF ⊢
  have m := (SF.vis (.inl rfl) (by omega) (by omega) X (by omega) (by omega)).1 ⟨by omega, h⟩
  have hu : 0 < u := by omega
  have hr := SF.row (by omega) hu
  have hwi := SF.within (.inl rfl) (by omega) hu
  obtain rfl : l = X := by omega
  obtain rfl : u = 1 := by omega
  obtain ⟨rfl, rfl⟩ := hr
  rw [if_pos (by simp)]
  have e : putX (X : Int) 1 1 spc f g b = fun _ => bk (kn f) (kn g) (bo b) := by
    unfold putX
    rw [if_neg (by omega)]
    funext j
    unfold gly
    rw [if_neg (by omega)]
    rfl
  rw [e, show ((X : Int) + 1).toNat = X + 1 by omega, show ((Y : Int) + 1).toNat = Y + 1 by omega]
  rfl
/-- One more place of a row. -/
theorem fill_col {W l m y : Nat} {c : Nat → Nat → Ce} {x : Nat → Ce} (h : PRow W (c y)) (hl : l ≤ m) (hm : m < W) (hx : ∀ j, (x j).p = 0) : fill (fill c l m y (y + 1) x) m (m + 1) y (y + 1) x = fill c l (m + 1) y (y + 1) x := by
  funext y'
  unfold fill
  by_cases hy : y ≤ y' ∧ y' < y + 1
  · obtain rfl : y' = y := by omega
    rw [if_pos hy, if_pos hy, if_pos hy]
    exact h.next hl hm hx
  · rw [if_neg hy, if_neg hy, if_neg hy]
end Go.Proofs.Ytkcddikpjblpaag
