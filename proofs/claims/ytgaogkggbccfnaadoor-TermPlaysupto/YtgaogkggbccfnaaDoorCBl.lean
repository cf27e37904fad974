/-
  Small functions of a canvas.
-/
import Derived.Test.YtgaogkggbccfnaaDoorCMem
import Derived.Test.YtgaogkggbccfnaaDoorYOver
namespace Go.Proofs.YtgaogkggbccfnaaDoor
open Go.RowKit Go.Sort
set_option linter.unusedVariables false

def cev (e : Ce) : Value := .agg #[.string e.t, .int .i64 e.f, .int .i64 e.g, .int .i64 e.b, .int .i64 e.p]

set_option maxRecDepth 100000 in
theorem blank_any (f g b : Int) (w : World) : Calls Tryd.prog 40 #[sv f g b] w fun e w' => e = .returned (cev (bk f g b)) ∧ Gr w w' := by
  unfold sv
  go_enter Tryd.func40, Tryd.ntmps40
  go_wp2
  refine bodyPost_ret (v := cev (bk f g b)) (by simp [results, Tryd.results40, go_sem, cev, bk, spc]) rfl ?_
  exact ⟨rfl, ((Gr.refl w).alloc _).alloc _⟩

set_option maxRecDepth 100000 in
theorem counts_any (f g b : Int) (w : World) : Calls Tryd.prog 92 #[sv f g b] w fun e w' => e = .returned (sv (kn f) (kn g) (bo b)) ∧ Gr w w' := by
  have OV : Hid (∀ f g b f2 g2 b2 w, Calls Tryd.prog 99 #[sv f g b, sv f2 g2 b2] w fun e w' => e = .returned (sv (ov f f2) (ov g g2) (obo b b2)) ∧ Gr w w') := over_any
  have O1 := OV.out 0 0 0 f g b
  rw [ov_zero, ov_zero, obo_zero] at O1
  unfold sv at O1 ⊢
  go_enter Tryd.func92, Tryd.ntmps92
  go_wp2_with (go_at_call 99; refine Calls.mono (O1 _) ?_; rintro e w1 ⟨rfl, g1⟩; have RC : Hid (R3 42 w1 (w.heap.size + 1) 0 0 0) := ((by have := R3.new (w.alloc (.cells #[.int .i64 f, .int .i64 g, .int .i64 b] 42)) 0 0 0 42; simp only [World.size_alloc] at this; exact this) : R3 42 _ (w.heap.size + 1) 0 0 0).gr g1; have c0 := RC.out.c0; have c1 := RC.out.c1; have c2 := RC.out.c2; have f0 := RC.out.fz 0; have f1 := RC.out.fz 1; have f2 := RC.out.fz 2; have GG : Hid (Gr w w1) := (((Gr.refl w).alloc _).alloc _).trans g1; clear g1)
  refine bodyPost_ret (results_cell_row rfl _ _ (w.heap.size + 1) _ _ _ _ rfl (RC.out.set _ _ _) Tryd.underlying42 rfl (by kernel_rfl)) rfl ?_
  exact ⟨rfl, GG.out.set3 (by omega) _ _ _⟩

set_option maxRecDepth 100000 in
theorem side_any (n : Int) (w : World) : Calls Tryd.prog 38 #[.int .i64 n] w fun e w' => e = .returned (.bool (decide (1 ≤ n ∧ n ≤ 400))) ∧ w' = w := by
  by_cases h1 : 1 ≤ n
  · by_cases h2 : n ≤ 400
    · rw [show decide (1 ≤ n ∧ n ≤ 400) = true from decide_eq_true ⟨h1, h2⟩]
      go_enter Tryd.func38, Tryd.ntmps38
      go_wp2
      go_ret
      exact ⟨rfl, rfl⟩
    · rw [show decide (1 ≤ n ∧ n ≤ 400) = false from decide_eq_false (by omega)]
      go_enter Tryd.func38, Tryd.ntmps38
      go_wp2
      go_ret
      exact ⟨by first | rfl | simp; omega, rfl⟩
  · rw [show decide (1 ≤ n ∧ n ≤ 400) = false from decide_eq_false (by omega)]
    go_enter Tryd.func38, Tryd.ntmps38
    go_wp2
    go_ret
    exact ⟨rfl, rfl⟩

section
variable {K M cap W H : Nat} {c : Nat → Nat → Ce}
set_option maxRecDepth 100000 in
set_option maxHeartbeats 2000000 in
theorem row_any (w : World) (h : CS 88 45 w K M cap W H c) (h0 : 0 < W) (hW : W ≤ 400) (hH : H ≤ 400) (y : Nat) (hy : y < H) : Calls Tryd.prog 100 #[.pointer (some ⟨K, 0, none⟩), .int .i64 y] w fun e w' => e = .returned (.slice (some ⟨M, y * W * 5, none⟩) W W) ∧ Gr w w' := by
  have k0 := h.k0
  have k2 := h.k2
  have hc := h.hc
  obtain ⟨p, hp⟩ : ∃ p, y * W = p := ⟨_, rfl⟩
  obtain ⟨n, hn⟩ : ∃ n, W * H = n := ⟨_, rfl⟩
  have e1 : (y : Int) * (W : Int) = (p : Int) := by rw [← hp]; simp
  have e2 : ((y : Int) + 1) * (W : Int) = (p : Int) + (W : Int) := by rw [Int.add_mul, e1]; omega
  have pn : p + W ≤ n := by
    rw [← hp, ← hn, Nat.mul_comm W H, ← Nat.succ_mul]; exact Nat.mul_le_mul_right _ (by omega)
  have nb : n ≤ 160000 := by rw [← hn]; exact Nat.mul_le_mul hW hH
  rw [hn] at k2 hc
  rw [hp]
  have w0 : ¬ W = 0 := by omega
  have w1 : ¬ p + W = p := by omega
  clear h hn hp
  go_enter Tryd.func100, Tryd.ntmps100
  go_wp2_with fail
  go_quiet (fail)
  go_wp2
  go_ret
  refine ⟨?_, (Gr.refl w).drewN _⟩
  first
    | rfl
    | (show Ending.returned (.slice (some ⟨M, p * 5, none⟩) (p + W - p) (p + W - p)) = _; rw [Nat.add_sub_cancel_left])
end

section
variable {K M cap W H : Nat} {c : Nat → Nat → Ce}
set_option maxRecDepth 100000 in
theorem size_any (w : World) (h : CS 88 45 w K M cap W H c) : Calls Tryd.prog 36 #[.pointer (some ⟨K, 0, none⟩)] w fun e w' => e = .returned (.tuple #[.int .i64 W, .int .i64 H]) ∧ Gr w w' := by
  have k0 := h.k0
  have k1 := h.k1
  clear h
  go_enter Tryd.func36, Tryd.ntmps36
  go_wp2_with fail
  go_quiet (fail)
  go_wp2
  go_ret2
  exact ⟨rfl, (Gr.refl w).drewN _⟩
end
end Go.Proofs.YtgaogkggbccfnaaDoor
