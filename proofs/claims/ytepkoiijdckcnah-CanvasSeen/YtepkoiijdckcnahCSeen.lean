/-
  CanvasSeen.
-/
import Derived.Test.YtepkoiijdckcnahCScr
namespace Go.Proofs.Ytepkoiijdckcnah
open Go.RowKit Go.Sort
set_option linter.unusedVariables false

section
variable {W H : Nat} {c : Nat → Nat → Ce}
/-- Put where it fits, with the whole screen to be seen. -/
theorem put_whole (hW : 1 ≤ W ∧ W ≤ 400) (hH : 1 ≤ H ∧ H ≤ 400) (x y wd : Int) (hw : wd = 1 ∨ wd = 2) (hx : 0 ≤ x ∧ x + wd ≤ W) (hy : 0 ≤ y ∧ y < H) (s : ByteArray) (f g b : Int) :
    putC W H c x y s wd f g b 0 0 W H = fill c x.toNat (x + wd).toNat y.toNat (y + 1).toNat (gly x.toNat wd s (kn f) (kn g) (bo b)) := by
  have SF := seen_facts (W := W) (H := H) (by omega) (by omega) x y wd 1 0 0 W H
  have e0 : posI x = x := posI_id (by omega)
  have e1 : posI y = y := posI_id (by omega)
  have e2 : lenI wd = wd := lenI_id (by omega)
  have e3 : lenI (W : Int) = W := lenI_id (by omega)
  have e4 : lenI (H : Int) = H := lenI_id (by omega)
  have e5 : posI 0 = 0 := rfl
  have e6 : lenI 1 = 1 := rfl
  unfold putC putQ
  generalize seenQ W H x y wd 1 0 0 W H = q at SF ⊢
  obtain ⟨l, t, u, v⟩ := q
  simp only at SF ⊢
  have m1 := (SF.mem x y).2 (by rw [e0, e1, e2, e3, e4, e5, e6]; omega)
  have m2 := (SF.mem (x + wd - 1) y).2 (by rw [e0, e1, e2, e3, e4, e5, e6]; omega)
  obtain ⟨rfl, rfl, rfl, rfl⟩ := SF.whole hw (by omega) (by omega) (by omega)
  rw [if_pos hw]
  unfold putX
  rw [if_neg (by omega)]
theorem put_again (x y wd : Int) (hw : wd = 1 ∨ wd = 2) (hx : 0 ≤ x) (s : ByteArray) (f g b : Int) : fill (fill c x.toNat (x + wd).toNat y.toNat (y + 1).toNat (gly x.toNat wd s f g b)) x.toNat (x + wd).toNat y.toNat (y + 1).toNat (gly x.toNat wd s f g b) = fill c x.toNat (x + wd).toNat y.toNat (y + 1).toNat (gly x.toNat wd s f g b) := by
  rcases hw with rfl | rfl
  · refine fill_again ?_ ?_ <;> (unfold gly; simp)
  · refine fill_again ?_ ?_
    · unfold gly; simp
    · rw [show (x + 2).toNat - 1 = x.toNat + 1 by omega]; unfold gly; simp
theorem put_aside (hW : 1 ≤ W ∧ W ≤ 400) (hH : 1 ≤ H ∧ H ≤ 400) (x y : Int) (hx : 0 ≤ x ∧ x < W) (s : ByteArray) (f g b : Int) : putC W H c x y s 1 f g b (x + 3) y 9 9 = c := by
  have SF := seen_facts (W := W) (H := H) (by omega) (by omega) x y 1 1 (x + 3) y 9 9
  have e0 : posI x = x := posI_id (by omega)
  have e1 : posI (x + 3) = x + 3 := posI_id (by omega)
  have e6 : lenI 1 = 1 := rfl
  unfold putC putQ
  generalize seenQ W H x y 1 1 (x + 3) y 9 9 = q at SF ⊢
  obtain ⟨l, t, u, v⟩ := q
  simp only at SF ⊢
  rw [if_pos (by simp)]
  refine fill_none (fun k => ?_)
  have hu : 0 < u := by have := SF.l0; have := SF.u0; omega
  have hv := SF.uv.1 hu
  have m := (SF.mem l t).1 (by omega)
  rw [e0, e1, e6] at m
  omega
theorem put_three (x y : Int) (s : ByteArray) (f g b cx cy ca cb : Int) : putC W H c x y s 3 f g b cx cy ca cb = c := by
  unfold putC putQ; rw [if_neg (by omega)]
theorem seen_at (x y wd : Int) (hw : wd = 1 ∨ wd = 2) (hx : 0 ≤ x) (hy : 0 ≤ y) (s : ByteArray) (f g b : Int) :
    fill c x.toNat (x + wd).toNat y.toNat (y + 1).toNat (gly x.toNat wd s f g b) y.toNat x.toNat = ⟨s, f, g, b, if wd = 2 then 1 else 0⟩ ∧ (wd = 2 → fill c x.toNat (x + wd).toNat y.toNat (y + 1).toNat (gly x.toNat wd s f g b) y.toNat (x.toNat + 1) = ⟨ept, f, g, b, 2⟩) := by
  unfold fill
  rw [if_pos (by omega), span_in (by omega)]
  refine ⟨?_, fun h2 => ?_⟩
  · unfold gly
    rcases hw with rfl | rfl <;> simp
  · rw [span_in (by omega)]
    unfold gly
    rw [if_pos h2, if_neg (by omega)]
end

set_option maxRecDepth 100000 in
set_option maxHeartbeats 4000000 in
theorem seen_bad (W H : Int) (v u : Value) (x y : Int) (s : ByteArray) (wide : Bool) (f g b : Int) (w : World) (h : ¬ ((1 ≤ W ∧ W ≤ 400) ∧ (1 ≤ H ∧ H ≤ 400))) : Calls Try.prog 3 #[.int .i64 W, .int .i64 H, v, .int .i64 x, .int .i64 y, .string s, .bool wide, sv f g b] w fun e w' => e = .returned (.bool true) ∧ Below w.heap.size w w' := by
  have EB : Hid (∀ w, Calls Try.prog 4 #[.int .i64 W, .int .i64 H] w fun e w' => e = .returned (.tuple #[.pointer none, .bool true]) ∧ w' = w) := fun w => easel_bad W H w h
  clear h
  unfold sv
  go_enter Try.func3, Try.ntmps3
  go_wp2_with (go_at_call 4; refine Calls.mono (EB.out _) ?_; rintro e w1 ⟨rfl, hw1⟩; obtain rfl := hw1.symm)
  go_ret
  exact ⟨rfl, ((Gr.refl w).alloc _).below⟩
end Go.Proofs.Ytepkoiijdckcnah
