/-
  What the reference's Put sees, and what can be seen: the same places.
-/
import Derived.Test.YtgaogkggbccfnaaDoorCPut
namespace Go.Proofs.YtgaogkggbccfnaaDoor
open Go.RowKit Go.Sort
set_option linter.unusedVariables false

theorem lenI_one : lenI 1 = 1 := rfl
/-- What is seen lies in the row of the cluster. -/
theorem Seen.row {W H x y wd cx cy ca cb l t u v : Int} (h : Seen W H x y wd 1 cx cy ca cb l t u v) (hy : 0 ≤ y ∧ y < 400) (hu : 0 < u) : t = y ∧ v = 1 := by
  have uv := h.uv.1 hu
  have m1 := (h.mem l t).1 (by omega)
  have m2 := (h.mem l (t + v - 1)).1 (by omega)
  have e : posI y = y := by unfold posI; omega
  rw [lenI_one, e] at m1 m2
  omega
/-- A place of the cluster that lies on the screen and in the clip is one that is seen. -/
theorem Seen.vis {W H x y wd cx cy ca cb l t u v : Int} (h : Seen W H x y wd 1 cx cy ca cb l t u v) (hw : wd = 1 ∨ wd = 2) (hy : 0 ≤ y ∧ y < 400) (hx : -1 ≤ x ∧ x < 400) (p : Int) (h1 : x ≤ p) (h2 : p < x + wd) :
    ((0 ≤ p ∧ p < W ∧ 0 ≤ y ∧ y < H) ∧ (posI cx ≤ p ∧ p < posI cx + lenI ca ∧ posI cy ≤ y ∧ y < posI cy + lenI cb)) ↔ (l ≤ p ∧ p < l + u) := by
  have m := h.mem p y
  have ex : posI x = x := by unfold posI; omega
  have ey : posI y = y := by unfold posI; omega
  have ew : lenI wd = wd := lenI_id (by omega)
  rw [ex, ey, ew, lenI_one] at m
  constructor
  · intro q; have := m.2 ⟨q.1, by omega, q.2⟩; exact ⟨this.1, this.2.1⟩
  · intro q
    have r := h.row hy (by omega)
    have := m.1 ⟨q.1, q.2, by omega, by omega⟩
    exact ⟨this.1, this.2.2⟩
/-- And what is seen lies within the cluster. -/
theorem Seen.within {W H x y wd cx cy ca cb l t u v : Int} (h : Seen W H x y wd 1 cx cy ca cb l t u v) (hw : wd = 1 ∨ wd = 2) (hx : -1 ≤ x ∧ x < 400) (hu : 0 < u) : x ≤ l ∧ l + u ≤ x + wd := by
  have uv := h.uv.1 hu
  have m1 := (h.mem l t).1 (by omega)
  have m2 := (h.mem (l + u - 1) t).1 (by omega)
  have ex : posI x = x := by unfold posI; omega
  have ew : lenI wd = wd := lenI_id (by omega)
  rw [ex, ew] at m1 m2
  omega
/-- Beyond the screen, or of another width: nothing changes. -/
theorem putC_out {W H : Nat} (hW : 1 ≤ W ∧ W ≤ 400) (hH : 1 ≤ H ∧ H ≤ 400) (c : Nat → Nat → Ce) (x y : Int) (txt : ByteArray) (wd f g b cx cy ca cb : Int) (h : ¬ (wd = 1 ∨ wd = 2) ∨ y < 0 ∨ (H : Int) ≤ y ∨ x < -1 ∨ (W : Int) ≤ x) : putC W H c x y txt wd f g b cx cy ca cb = c := by
  have SF := seen_facts (W := W) (H := H) (by omega) (by omega) x y wd 1 cx cy ca cb
  unfold putC putQ
  generalize seenQ W H x y wd 1 cx cy ca cb = q at SF ⊢
  obtain ⟨l, t, u, v⟩ := q
  simp only at SF ⊢
  split
  · rename_i hw
    refine fill_none (fun hh => ?_)
    have l0 := SF.l0
    have t0 := SF.t0
    have u0 := SF.u0
    have v0 := SF.v0
    have m := (SF.mem l t).1 (by omega)
    have ew : lenI wd = wd := lenI_id (by omega)
    rw [ew, lenI_one] at m
    unfold posI at m
    omega
  · rfl
end Go.Proofs.YtgaogkggbccfnaaDoor
