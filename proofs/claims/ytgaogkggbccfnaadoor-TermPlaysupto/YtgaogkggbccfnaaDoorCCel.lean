/-
  The law's own: cell, smear.
-/
import Derived.Test.YtgaogkggbccfnaaDoorCRef
namespace Go.Proofs.YtgaogkggbccfnaaDoor
open Go.RowKit Go.Sort
set_option linter.unusedVariables false

theorem R5.fz {T : TypeId} {Q : World} {b : Nat} {e : Ce} (h : R5 T Q b e) (j : Nat) : Q.frozen? ⟨b, j, none⟩ = false := frozen_of_row _ _ _ _ _ h
theorem R5.set {T : TypeId} {Q : World} {b : Nat} {e : Ce} (h : R5 T Q b e) (e' : Ce) : R5 T (((((Q.setCell ⟨b, 0, none⟩ (.string e'.t)).setCell ⟨b, 1, none⟩ (.int .i64 e'.f)).setCell ⟨b, 2, none⟩ (.int .i64 e'.g)).setCell ⟨b, 3, none⟩ (.int .i64 e'.b)).setCell ⟨b, 4, none⟩ (.int .i64 e'.p)) b e' := by
  have h0 : R5 T (Q.setCell ⟨b, 0, none⟩ (.string e'.t)) b ⟨e'.t, e.f, e.g, e.b, e.p⟩ := heap_setCell_same _ b 0 _ T _ h
  have h1 : R5 T _ b ⟨e'.t, e'.f, e.g, e.b, e.p⟩ := heap_setCell_same _ b 1 _ T (.int .i64 e'.f) h0
  have h2 : R5 T _ b ⟨e'.t, e'.f, e'.g, e.b, e.p⟩ := heap_setCell_same _ b 2 _ T (.int .i64 e'.g) h1
  have h3 : R5 T _ b ⟨e'.t, e'.f, e'.g, e'.b, e.p⟩ := heap_setCell_same _ b 3 _ T (.int .i64 e'.b) h2
  exact heap_setCell_same _ b 4 _ T (.int .i64 e'.p) h3

theorem Gr.set5 {Q Q' : World} {k o0 o1 o2 o3 o4 : Nat} (h : Gr Q Q') (hk : Q.heap.size ≤ k) (v0 v1 v2 v3 v4 : Value) : Gr Q (((((Q'.setCell ⟨k, o0, none⟩ v0).setCell ⟨k, o1, none⟩ v1).setCell ⟨k, o2, none⟩ v2).setCell ⟨k, o3, none⟩ v3).setCell ⟨k, o4, none⟩ v4) := ((((h.set hk v0).set hk v1).set hk v2).set hk v3).set hk v4

set_option maxRecDepth 100000 in
set_option maxHeartbeats 2000000 in
theorem cell_any (e : Ce) (w : World) : Calls Tryd.prog 35 #[cev e] w fun r w' => r = .returned (cev e) ∧ Gr w w' := by
  have LA : Hid (∀ f g b w, Calls Tryd.prog 25 #[sv f g b] w fun e w' => e = .returned (sv f g b) ∧ Gr w w') := look_any
  obtain ⟨t, f, g, b, p⟩ := e
  unfold cev
  unfold sv at LA
  go_enter Tryd.func35, Tryd.ntmps35
  go_wp2_with fail
  obtain ⟨S, hS⟩ : ∃ z, w.heap.size = z := ⟨_, rfl⟩
  obtain ⟨W0, hW0⟩ : ∃ z, (w.alloc (.cells #[.string t, .int .i64 f, .int .i64 g, .int .i64 b, .int .i64 p] 85)).alloc (.cells #[.string ⟨#[]⟩, .int .i64 0, .int .i64 0, .int .i64 0, .int .i64 0] 45) = z := ⟨_, rfl⟩
  have G0 : Hid (Gr w W0) := by rw [← hW0]; exact ((Gr.refl w).alloc _).alloc _
  have R0 : Hid (R5 85 W0 S ⟨t, f, g, b, p⟩) := by rw [← hW0, ← hS]; exact (R5.new w ⟨t, f, g, b, p⟩ _).gr ((Gr.refl _).alloc _)
  have R1 : Hid (R5 45 W0 (S + 1) ⟨⟨#[]⟩, 0, 0, 0, 0⟩) := by
    have := R5.new (w.alloc (.cells #[.string t, .int .i64 f, .int .i64 g, .int .i64 b, .int .i64 p] 85)) ⟨⟨#[]⟩, 0, 0, 0, 0⟩ 45
    rw [World.size_alloc, hS] at this
    rw [← hW0]; exact this
  rw [hW0, hS]
  have HS : Hid (w.heap.size = S) := hS
  clear hW0 hS
  have q0 := R0.out.c0
  have q1 := R0.out.c1
  have q2 := R0.out.c2
  have q3 := R0.out.c3
  have q4 := R0.out.c4
  go_region_with (go_at_call 25; refine Calls.mono (LA.out _ _ _ _) ?_; rintro e1 w1 ⟨rfl, g1⟩; have G1 : Hid (Gr W0 w1) := (by first | exact ((Gr.refl W0).drew).trans g1 | exact g1); clear g1; have o0 := (R0.out.gr G1.out).c0; have o4 := (R0.out.gr G1.out).c4; have u0 := (R1.out.gr G1.out).c0; have u1 := (R1.out.gr G1.out).c1; have u2 := (R1.out.gr G1.out).c2; have u3 := (R1.out.gr G1.out).c3; have u4 := (R1.out.gr G1.out).c4; have uf := (R1.out.gr G1.out).fz)
  all_goals
    go_wp2
    refine bodyPost_ret (results_cell_row rfl _ _ (S + 1) _ _ _ _ rfl ((R1.out.gr G1.out).set ⟨t, f, g, b, p⟩) Tryd.underlying45 rfl (by kernel_rfl)) rfl ?_
    exact ⟨rfl, (G0.out.trans G1.out).set5 (by rw [HS.out]; omega) _ _ _ _ _⟩

/-- A place in the list is a row and a column. -/
theorem lin_split {W H i : Nat} (hi : i < W * H) : ∃ y x, y < H ∧ x < W ∧ i = y * W + x := by
  have h0 : 0 < W := by
    rcases Nat.eq_zero_or_pos W with h | h
    · subst h; simp at hi
    · exact h
  refine ⟨i / W, i % W, ?_, Nat.mod_lt _ h0, ?_⟩
  · exact Nat.div_lt_of_lt_mul hi
  · rw [Nat.mul_comm]; exact (Nat.div_add_mod i W).symm

end Go.Proofs.YtgaogkggbccfnaaDoor
