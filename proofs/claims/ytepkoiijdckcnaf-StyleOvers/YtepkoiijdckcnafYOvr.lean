/-
  paneref.Over.
-/
import Derived.Test.YtepkoiijdckcnafYOver
namespace Go.Proofs.Ytepkoiijdckcnaf
open Go.RowKit Go.Sort
set_option linter.unusedVariables false

set_option maxRecDepth 100000 in
set_option maxHeartbeats 4000000 in
theorem rOver_any (f g b f2 g2 b2 : Int) (w : World) : Calls Try.prog 6 #[sv f g b, sv f2 g2 b2] w fun e w' => e = .returned (sv (ov f f2) (ov g g2) (obo b b2)) ∧ Gr w w' := by
  have CC : Hid (∀ f g b w, Calls Try.prog 8 #[sv f g b] w fun e w' => e = .returned (sv (kn f) (kn g) (bo b)) ∧ Gr w w') := sound_any
  obtain ⟨x, hx⟩ : ∃ z, kn f = z := ⟨_, rfl⟩
  obtain ⟨y, hy⟩ : ∃ z, kn g = z := ⟨_, rfl⟩
  obtain ⟨z, hz⟩ : ∃ z, bo b = z := ⟨_, rfl⟩
  obtain ⟨x2, hx2⟩ : ∃ z, kn f2 = z := ⟨_, rfl⟩
  obtain ⟨y2, hy2⟩ : ∃ z, kn g2 = z := ⟨_, rfl⟩
  obtain ⟨z2, hz2⟩ : ∃ z, bo b2 = z := ⟨_, rfl⟩
  have HV : Hid (sv (ov f f2) (ov g g2) (obo b b2) = sv (if x2 = 0 then x else x2) (if y2 = 0 then y else y2) (max z2 z)) := by show _ = _; unfold ov obo; rw [hx, hy, hz, hx2, hy2, hz2]
  have bz := bo_bd b
  have bz2 := bo_bd b2
  rw [hz] at bz
  rw [hz2] at bz2
  have C1 : Hid (∀ w, _) := CC.out f g b
  have C2 : Hid (∀ w, _) := CC.out f2 g2 b2
  rw [hx, hy, hz] at C1
  rw [hx2, hy2, hz2] at C2
  unfold sv at C1 C2 ⊢
  clear CC
  go_enter Try.func6, Try.ntmps6
  go_wp2_with fail
  obtain ⟨S, hS⟩ : ∃ x, w.heap.size = x := ⟨_, rfl⟩
  obtain ⟨W0, hW0⟩ : ∃ x, ((w.alloc (.cells #[.int .i64 f, .int .i64 g, .int .i64 b] 23)).alloc (.cells #[.int .i64 f2, .int .i64 g2, .int .i64 b2] 23)).alloc (.cells #[.int .i64 0, .int .i64 0, .int .i64 0] 23) = x := ⟨_, rfl⟩
  have G0 : Hid (Gr w W0) := by rw [← hW0]; exact (((Gr.refl w).alloc _).alloc _).alloc _
  have RB : Hid (R3 23 W0 (S + 1) f2 g2 b2) := by
    have := R3.new (w.alloc (.cells #[.int .i64 f, .int .i64 g, .int .i64 b] 23)) f2 g2 b2 23
    simp only [World.size_alloc, hS] at this
    rw [← hW0]; exact this.gr ((Gr.refl _).alloc _)
  have RC : Hid (R3 23 W0 (S + 1 + 1) 0 0 0) := by
    have := R3.new ((w.alloc (.cells #[.int .i64 f, .int .i64 g, .int .i64 b] 23)).alloc (.cells #[.int .i64 f2, .int .i64 g2, .int .i64 b2] 23)) 0 0 0 23
    simp only [World.size_alloc, hS] at this
    rw [← hW0]; exact this
  rw [hW0, hS]
  clear hW0
  have HS : Hid (w.heap.size = S) := hS
  clear hS
  refine Calls.mono (C1.out _) ?_
  rintro e w1 ⟨rfl, hg1⟩
  have G1 : Hid (Gr w w1) := G0.out.trans hg1
  have RB1 : Hid (R3 23 w1 (S + 1) f2 g2 b2) := RB.out.gr hg1
  have RC1 : Hid (R3 23 w1 (S + 1 + 1) 0 0 0) := RC.out.gr hg1
  have L1 : Hid (S + 1 + 1 < w1.heap.size) := RC1.out.lt
  clear hg1 G0 RB RC
  have RQ := RB1.out.gr ((Gr.refl _).alloc (.cells #[.int .i64 x, .int .i64 y, .int .i64 z] 23))
  have q0 := RQ.c0
  have q1 := RQ.c1
  have q2 := RQ.c2
  go_wp2_with fail
  refine Calls.mono (C2.out _) ?_
  rintro e w2 ⟨rfl, hg2⟩
  clear q0 q1 q2 RQ
  obtain ⟨A, hA⟩ : ∃ z, w1.heap.size = z := ⟨_, rfl⟩
  have RA2 : Hid (R3 23 w2 A x y z) := by rw [← hA]; exact R3.gr (by first | exact R3.new w1 x y z _ | (exact heap_alloc_new _ _)) hg2
  have G2 : Hid (Gr w w2) := (G1.out.alloc _).trans hg2
  have RC2 : Hid (R3 23 w2 (S + 1 + 1) 0 0 0) := (RC1.out.gr ((Gr.refl _).alloc _)).gr hg2
  have LA : Hid (S + 1 + 1 < A) := by have := L1.out; rw [hA] at this; exact this
  have LB : Hid (A < w2.heap.size) := RA2.out.lt
  rw [hA]
  clear hg2 G1 RB1 RC1 L1 hA
  have a0 := RA2.out.c0
  have a1 := RA2.out.c1
  have a2 := RA2.out.c2
  obtain ⟨W3, hW3⟩ : ∃ q, w2.alloc (.cells #[.int .i64 x2, .int .i64 y2, .int .i64 z2] 23) = q := ⟨_, rfl⟩

  obtain ⟨B, hB⟩ : ∃ q, w2.heap.size = q := ⟨_, rfl⟩
  have RB3 : Hid (R3 23 W3 B x2 y2 z2) := by rw [← hW3, ← hB]; exact R3.new w2 _ _ _ _
  have GG : Hid (Gr w2 W3) := by rw [← hW3]; exact (Gr.refl _).alloc _
  have RA3 : Hid (R3 23 W3 A x y z) := RA2.out.gr GG.out
  have RC3 : Hid (R3 23 W3 (S + 1 + 1) 0 0 0) := RC2.out.gr GG.out
  have G3 : Hid (Gr w W3) := G2.out.trans GG.out
  have LB3 : Hid (A < B) := by have := LB.out; rw [hB] at this; exact this
  have DD : S + 1 + 1 < A ∧ A < B := ⟨LA.out, LB3.out⟩
  have HSB : Hid (w.heap.size ≤ B) := by show _ ≤ _; rw [HS.out]; omega
  clear a0 a1 a2
  have a0 := RA3.out.c0
  have a1 := RA3.out.c1
  have a2 := RA3.out.c2
  have b0 := RB3.out.c0
  have b1 := RB3.out.c1
  have b2' := RB3.out.c2
  have g0 := RB3.out.fz 0
  have g1 := RB3.out.fz 1
  have g2' := RB3.out.fz 2
  have e0 : (w2.alloc (.cells #[.int .i64 x2, .int .i64 y2, .int .i64 z2] 23)).cell? ⟨w2.heap.size, 0, none⟩ = some (.int .i64 x2) := (R3.new w2 x2 y2 z2 _).c0
  go_upto_if 13 with (fail)
  clear e0
  by_cases h1 : x2 = 0
  · by_cases h2 : y2 = 0
    · by_cases h3 : z = 1
      · have RN := (((RB3.out.set0 x).set1 y).set2 1)
        have RO := (((RC3.out.other (k := B) (o := 0) (show S + 1 + 1 ≠ B by omega) (.int .i64 x)).other (k := B) (o := 1) (show S + 1 + 1 ≠ B by omega) (.int .i64 y)).other (k := B) (o := 2) (show S + 1 + 1 ≠ B by omega) (.int .i64 1))
        have GN := (((G3.out.set (o := 0) HSB.out (.int .i64 x)).set (o := 1) HSB.out (.int .i64 y)).set (o := 2) HSB.out (.int .i64 1))
        have n0 := RN.c0
        have n1 := RN.c1
        have n2 := RN.c2
        have o0 := RO.c0
        have o1 := RO.c1
        have o2 := RO.c2
        have k0 := RO.fz 0
        have k1 := RO.fz 1
        have k2 := RO.fz 2
        go_wp2
        refine bodyPost_ret (results_cell_row rfl _ _ (S + 1 + 1) _ _ _ _ rfl (RO.set _ _ _) Try.underlying23 rfl (by kernel_rfl)) rfl ?_
        exact ⟨by show _ = Ending.returned (sv (ov f f2) (ov g g2) (obo b b2)); rw [HV.out, if_pos h1, if_pos h2, show max z2 z = 1 by omega]; rfl, GN.set3 (show w.heap.size ≤ S + 1 + 1 by rw [HS.out]; omega) _ _ _⟩
      · have RN := ((RB3.out.set0 x).set1 y)
        have RO := ((RC3.out.other (k := B) (o := 0) (show S + 1 + 1 ≠ B by omega) (.int .i64 x)).other (k := B) (o := 1) (show S + 1 + 1 ≠ B by omega) (.int .i64 y))
        have GN := ((G3.out.set (o := 0) HSB.out (.int .i64 x)).set (o := 1) HSB.out (.int .i64 y))
        have n0 := RN.c0
        have n1 := RN.c1
        have n2 := RN.c2
        have o0 := RO.c0
        have o1 := RO.c1
        have o2 := RO.c2
        have k0 := RO.fz 0
        have k1 := RO.fz 1
        have k2 := RO.fz 2
        go_wp2
        refine bodyPost_ret (results_cell_row rfl _ _ (S + 1 + 1) _ _ _ _ rfl (RO.set _ _ _) Try.underlying23 rfl (by kernel_rfl)) rfl ?_
        exact ⟨by show _ = Ending.returned (sv (ov f f2) (ov g g2) (obo b b2)); rw [HV.out, if_pos h1, if_pos h2, show max z2 z = z2 by omega]; rfl, GN.set3 (show w.heap.size ≤ S + 1 + 1 by rw [HS.out]; omega) _ _ _⟩
    · by_cases h3 : z = 1
      · have RN := ((RB3.out.set0 x).set2 1)
        have RO := ((RC3.out.other (k := B) (o := 0) (show S + 1 + 1 ≠ B by omega) (.int .i64 x)).other (k := B) (o := 2) (show S + 1 + 1 ≠ B by omega) (.int .i64 1))
        have GN := ((G3.out.set (o := 0) HSB.out (.int .i64 x)).set (o := 2) HSB.out (.int .i64 1))
        have n0 := RN.c0
        have n1 := RN.c1
        have n2 := RN.c2
        have o0 := RO.c0
        have o1 := RO.c1
        have o2 := RO.c2
        have k0 := RO.fz 0
        have k1 := RO.fz 1
        have k2 := RO.fz 2
        go_wp2
        refine bodyPost_ret (results_cell_row rfl _ _ (S + 1 + 1) _ _ _ _ rfl (RO.set _ _ _) Try.underlying23 rfl (by kernel_rfl)) rfl ?_
        exact ⟨by show _ = Ending.returned (sv (ov f f2) (ov g g2) (obo b b2)); rw [HV.out, if_pos h1, if_neg h2, show max z2 z = 1 by omega]; rfl, GN.set3 (show w.heap.size ≤ S + 1 + 1 by rw [HS.out]; omega) _ _ _⟩
      · have RN := (RB3.out.set0 x)
        have RO := (RC3.out.other (k := B) (o := 0) (show S + 1 + 1 ≠ B by omega) (.int .i64 x))
        have GN := (G3.out.set (o := 0) HSB.out (.int .i64 x))
        have n0 := RN.c0
        have n1 := RN.c1
        have n2 := RN.c2
        have o0 := RO.c0
        have o1 := RO.c1
        have o2 := RO.c2
        have k0 := RO.fz 0
        have k1 := RO.fz 1
        have k2 := RO.fz 2
        go_wp2
        refine bodyPost_ret (results_cell_row rfl _ _ (S + 1 + 1) _ _ _ _ rfl (RO.set _ _ _) Try.underlying23 rfl (by kernel_rfl)) rfl ?_
        exact ⟨by show _ = Ending.returned (sv (ov f f2) (ov g g2) (obo b b2)); rw [HV.out, if_pos h1, if_neg h2, show max z2 z = z2 by omega]; rfl, GN.set3 (show w.heap.size ≤ S + 1 + 1 by rw [HS.out]; omega) _ _ _⟩
  · by_cases h2 : y2 = 0
    · by_cases h3 : z = 1
      · have RN := ((RB3.out.set1 y).set2 1)
        have RO := ((RC3.out.other (k := B) (o := 1) (show S + 1 + 1 ≠ B by omega) (.int .i64 y)).other (k := B) (o := 2) (show S + 1 + 1 ≠ B by omega) (.int .i64 1))
        have GN := ((G3.out.set (o := 1) HSB.out (.int .i64 y)).set (o := 2) HSB.out (.int .i64 1))
        have n0 := RN.c0
        have n1 := RN.c1
        have n2 := RN.c2
        have o0 := RO.c0
        have o1 := RO.c1
        have o2 := RO.c2
        have k0 := RO.fz 0
        have k1 := RO.fz 1
        have k2 := RO.fz 2
        go_wp2
        refine bodyPost_ret (results_cell_row rfl _ _ (S + 1 + 1) _ _ _ _ rfl (RO.set _ _ _) Try.underlying23 rfl (by kernel_rfl)) rfl ?_
        exact ⟨by show _ = Ending.returned (sv (ov f f2) (ov g g2) (obo b b2)); rw [HV.out, if_neg h1, if_pos h2, show max z2 z = 1 by omega]; rfl, GN.set3 (show w.heap.size ≤ S + 1 + 1 by rw [HS.out]; omega) _ _ _⟩
      · have RN := (RB3.out.set1 y)
        have RO := (RC3.out.other (k := B) (o := 1) (show S + 1 + 1 ≠ B by omega) (.int .i64 y))
        have GN := (G3.out.set (o := 1) HSB.out (.int .i64 y))
        have n0 := RN.c0
        have n1 := RN.c1
        have n2 := RN.c2
        have o0 := RO.c0
        have o1 := RO.c1
        have o2 := RO.c2
        have k0 := RO.fz 0
        have k1 := RO.fz 1
        have k2 := RO.fz 2
        go_wp2
        refine bodyPost_ret (results_cell_row rfl _ _ (S + 1 + 1) _ _ _ _ rfl (RO.set _ _ _) Try.underlying23 rfl (by kernel_rfl)) rfl ?_
        exact ⟨by show _ = Ending.returned (sv (ov f f2) (ov g g2) (obo b b2)); rw [HV.out, if_neg h1, if_pos h2, show max z2 z = z2 by omega]; rfl, GN.set3 (show w.heap.size ≤ S + 1 + 1 by rw [HS.out]; omega) _ _ _⟩
    · by_cases h3 : z = 1
      · have RN := (RB3.out.set2 1)
        have RO := (RC3.out.other (k := B) (o := 2) (show S + 1 + 1 ≠ B by omega) (.int .i64 1))
        have GN := (G3.out.set (o := 2) HSB.out (.int .i64 1))
        have n0 := RN.c0
        have n1 := RN.c1
        have n2 := RN.c2
        have o0 := RO.c0
        have o1 := RO.c1
        have o2 := RO.c2
        have k0 := RO.fz 0
        have k1 := RO.fz 1
        have k2 := RO.fz 2
        go_wp2
        refine bodyPost_ret (results_cell_row rfl _ _ (S + 1 + 1) _ _ _ _ rfl (RO.set _ _ _) Try.underlying23 rfl (by kernel_rfl)) rfl ?_
        exact ⟨by show _ = Ending.returned (sv (ov f f2) (ov g g2) (obo b b2)); rw [HV.out, if_neg h1, if_neg h2, show max z2 z = 1 by omega]; rfl, GN.set3 (show w.heap.size ≤ S + 1 + 1 by rw [HS.out]; omega) _ _ _⟩
      · have RN := RB3.out
        have RO := RC3.out
        have GN := G3.out
        have n0 := RN.c0
        have n1 := RN.c1
        have n2 := RN.c2
        have o0 := RO.c0
        have o1 := RO.c1
        have o2 := RO.c2
        have k0 := RO.fz 0
        have k1 := RO.fz 1
        have k2 := RO.fz 2
        go_wp2
        refine bodyPost_ret (results_cell_row rfl _ _ (S + 1 + 1) _ _ _ _ rfl (RO.set _ _ _) Try.underlying23 rfl (by kernel_rfl)) rfl ?_
        exact ⟨by show _ = Ending.returned (sv (ov f f2) (ov g g2) (obo b b2)); rw [HV.out, if_neg h1, if_neg h2, show max z2 z = z2 by omega]; rfl, GN.set3 (show w.heap.size ≤ S + 1 + 1 by rw [HS.out]; omega) _ _ _⟩

end Go.Proofs.Ytepkoiijdckcnaf
