/-
  paneref.Cap.
-/
import Derived.Test.YtkcddikpjblpaagBRfa
namespace Go.Proofs.Ytkcddikpjblpaag
open Go.RowKit Go.Sort
set_option linter.unusedVariables false

set_option maxRecDepth 100000 in
set_option maxHeartbeats 4000000 in
theorem rCap_any (ax ay aw ah bx by_ bw bh : Int) (w : World) : Calls Try.prog 50 #[rv ax ay aw ah, rv bx by_ bw bh] w fun e w' => e = .returned (capV ax ay aw ah bx by_ bw bh) ∧ Gr w w' := by
  have CC : Hid (∀ x y a b w, Calls Try.prog 39 #[rv x y a b] w fun e w' => e = .returned (rv (posI x) (posI y) (lenI a) (lenI b)) ∧ Gr w w') := firm_any
  have LS : Hid (∀ a b w, Calls Try.prog 52 #[.int .i64 a, .int .i64 b] w fun e w' => e = .returned (.int .i64 (min a b)) ∧ w' = w) := least_any
  have GS : Hid (∀ a b w, Calls Try.prog 51 #[.int .i64 a, .int .i64 b] w fun e w' => e = .returned (.int .i64 (max a b)) ∧ w' = w) := greatest_any
  unfold rv at CC ⊢
  go_enter Try.func50, Try.ntmps50
  go_wp2_with fail
  obtain ⟨A, hA⟩ : ∃ x, w.heap.size = x := ⟨_, rfl⟩
  obtain ⟨W0, hW0⟩ : ∃ x, ((w.alloc (.cells #[.int .i64 ax, .int .i64 ay, .int .i64 aw, .int .i64 ah] 54)).alloc (.cells #[.int .i64 bx, .int .i64 by_, .int .i64 bw, .int .i64 bh] 54)).alloc (.cells #[.int .i64 0, .int .i64 0, .int .i64 0, .int .i64 0] 54) = x := ⟨_, rfl⟩
  have G0 : Hid (Gr w W0) := by rw [← hW0]; exact (((Gr.refl w).alloc _).alloc _).alloc _
  have RA : Hid (R4 54 W0 A ax ay aw ah) := by rw [← hW0, ← hA]; exact (R4.new w _ _ _ _ _).gr (((Gr.refl _).alloc _).alloc _)
  have RB : Hid (R4 54 W0 (A + 1) bx by_ bw bh) := by
    have := R4.new (w.alloc (.cells #[.int .i64 ax, .int .i64 ay, .int .i64 aw, .int .i64 ah] 54)) bx by_ bw bh 54
    simp only [World.size_alloc, hA] at this
    rw [← hW0]; exact this.gr ((Gr.refl _).alloc _)
  have RC : Hid (R4 54 W0 (A + 1 + 1) 0 0 0 0) := by
    have := R4.new ((w.alloc (.cells #[.int .i64 ax, .int .i64 ay, .int .i64 aw, .int .i64 ah] 54)).alloc (.cells #[.int .i64 bx, .int .i64 by_, .int .i64 bw, .int .i64 bh] 54)) 0 0 0 0 54
    simp only [World.size_alloc, hA] at this
    rw [← hW0]; exact this
  rw [hW0, hA]
  clear hW0
  have HA : Hid (w.heap.size = A) := hA
  clear hA
  have a0 := RA.out.c0
  have a1 := RA.out.c1
  have a2 := RA.out.c2
  have a3 := RA.out.c3
  have b0 := RB.out.c0
  have b1 := RB.out.c1
  have b2 := RB.out.c2
  have b3 := RB.out.c3
  obtain ⟨px, hpx⟩ : ∃ z, posI ax = z := ⟨_, rfl⟩
  obtain ⟨py, hpy⟩ : ∃ z, posI ay = z := ⟨_, rfl⟩
  obtain ⟨pa, hpa⟩ : ∃ z, lenI aw = z := ⟨_, rfl⟩
  obtain ⟨pb, hpb⟩ : ∃ z, lenI ah = z := ⟨_, rfl⟩
  obtain ⟨qx, hqx⟩ : ∃ z, posI bx = z := ⟨_, rfl⟩
  obtain ⟨qy, hqy⟩ : ∃ z, posI by_ = z := ⟨_, rfl⟩
  obtain ⟨qa, hqa⟩ : ∃ z, lenI bw = z := ⟨_, rfl⟩
  obtain ⟨qb, hqb⟩ : ∃ z, lenI bh = z := ⟨_, rfl⟩
  clear a0 a1 a2 a3 b0 b1 b2 b3
  refine (CC.out _ _ _ _ _).mono ?_
  rintro e w2 ⟨rfl, hg2⟩
  have HG : Hid (Gr w w2) := G0.out.trans hg2
  have RA2 : Hid (R4 54 w2 A ax ay aw ah) := RA.out.gr hg2
  have RB2 : Hid (R4 54 w2 (A + 1) bx by_ bw bh) := RB.out.gr hg2
  have RC2 : Hid (R4 54 w2 (A + 1 + 1) 0 0 0 0) := RC.out.gr hg2
  clear hg2 RA RB RC G0
  have a0 := RA2.out.c0
  have a1 := RA2.out.c1
  have a2 := RA2.out.c2
  have a3 := RA2.out.c3
  have f0 := RA2.out.fz 0
  have f1 := RA2.out.fz 1
  have f2 := RA2.out.fz 2
  have f3 := RA2.out.fz 3
  have b0 := RB2.out.c0
  have b1 := RB2.out.c1
  have b2 := RB2.out.c2
  have b3 := RB2.out.c3
  rw [hpx, hpy, hpa, hpb]
  go_wp2_with fail
  obtain ⟨w3, hw3⟩ : ∃ z, ((((w2.setCell ⟨A, 0, none⟩ (.int .i64 px)).setCell ⟨A, 1, none⟩ (.int .i64 py)).setCell ⟨A, 2, none⟩ (.int .i64 pa)).setCell ⟨A, 3, none⟩ (.int .i64 pb)) = z := ⟨_, rfl⟩
  have HG3 : Hid (Gr w w3) := by rw [← hw3]; exact HG.out.set4 (by rw [HA.out]; exact Nat.le_refl _) _ _ _ _
  have RA3 : Hid (R4 54 w3 A px py pa pb) := by rw [← hw3]; exact RA2.out.set px py pa pb
  have RB3 : Hid (R4 54 w3 (A + 1) bx by_ bw bh) := by rw [← hw3]; exact RB2.out.others (by omega) _ _ _ _
  have RC3 : Hid (R4 54 w3 (A + 1 + 1) 0 0 0 0) := by rw [← hw3]; exact RC2.out.others (by omega) _ _ _ _
  rw [hw3]
  clear hw3 a0 a1 a2 a3 b0 b1 b2 b3 f0 f1 f2 f3 HG RA2 RB2 RC2
  refine (CC.out _ _ _ _ _).mono ?_
  rintro e w4 ⟨rfl, hg4⟩
  have HG4 : Hid (Gr w w4) := HG3.out.trans hg4
  have RA4 : Hid (R4 54 w4 A px py pa pb) := RA3.out.gr hg4
  have RB4 : Hid (R4 54 w4 (A + 1) bx by_ bw bh) := RB3.out.gr hg4
  have RC4 : Hid (R4 54 w4 (A + 1 + 1) 0 0 0 0) := RC3.out.gr hg4
  clear hg4 RA3 RB3 RC3 HG3
  have b0 := RB4.out.c0
  have b1 := RB4.out.c1
  have b2 := RB4.out.c2
  have b3 := RB4.out.c3
  have f0 := RB4.out.fz 0
  have f1 := RB4.out.fz 1
  have f2 := RB4.out.fz 2
  have f3 := RB4.out.fz 3
  have a0 := RA4.out.c0
  have a1 := RA4.out.c1
  have a2 := RA4.out.c2
  have a3 := RA4.out.c3
  rw [hqx, hqy, hqa, hqb]
  go_wp2_with fail
  obtain ⟨w5, hw5⟩ : ∃ z, ((((w4.setCell ⟨A + 1, 0, none⟩ (.int .i64 qx)).setCell ⟨A + 1, 1, none⟩ (.int .i64 qy)).setCell ⟨A + 1, 2, none⟩ (.int .i64 qa)).setCell ⟨A + 1, 3, none⟩ (.int .i64 qb)) = z := ⟨_, rfl⟩
  have HG5 : Hid (Gr w w5) := by rw [← hw5]; exact HG4.out.set4 (by rw [HA.out]; omega) _ _ _ _
  have RA5 : Hid (R4 54 w5 A px py pa pb) := by rw [← hw5]; exact RA4.out.others (by omega) _ _ _ _
  have RB5 : Hid (R4 54 w5 (A + 1) qx qy qa qb) := by rw [← hw5]; exact RB4.out.set qx qy qa qb
  have RC5 : Hid (R4 54 w5 (A + 1 + 1) 0 0 0 0) := by rw [← hw5]; exact RC4.out.others (by omega) _ _ _ _
  rw [hw5]
  clear hw5 a0 a1 a2 a3 b0 b1 b2 b3 f0 f1 f2 f3 HG4 RA4 RB4 RC4
  have a0 := RA5.out.c0
  have a1 := RA5.out.c1
  have a2 := RA5.out.c2
  have a3 := RA5.out.c3
  have b0 := RB5.out.c0
  have b1 := RB5.out.c1
  have b2 := RB5.out.c2
  have b3 := RB5.out.c3
  have c0 := RC5.out.c0
  have c1 := RC5.out.c1
  have c2 := RC5.out.c2
  have c3 := RC5.out.c3
  have f0 := RC5.out.fz 0
  have f1 := RC5.out.fz 1
  have f2 := RC5.out.fz 2
  have f3 := RC5.out.fz 3
  have bpx := posI_bd ax
  have bpy := posI_bd ay
  have bpa := lenI_bd aw
  have bpb := lenI_bd ah
  have bqx := posI_bd bx
  have bqy := posI_bd by_
  have bqa := lenI_bd bw
  have bqb := lenI_bd bh
  rw [hpx] at bpx
  rw [hpy] at bpy
  rw [hpa] at bpa
  rw [hpb] at bpb
  rw [hqx] at bqx
  rw [hqy] at bqy
  rw [hqa] at bqa
  rw [hqb] at bqb
  obtain ⟨l, hl⟩ : ∃ z, max px qx = z := ⟨_, rfl⟩
  obtain ⟨r, hr⟩ : ∃ z, min (px + pa) (qx + qa) = z := ⟨_, rfl⟩
  obtain ⟨t, ht⟩ : ∃ z, max py qy = z := ⟨_, rfl⟩
  obtain ⟨d, hd⟩ : ∃ z, min (py + pb) (qy + qb) = z := ⟨_, rfl⟩
  have HV : Hid (capV ax ay aw ah bx by_ bw bh = if l ≥ r ∨ t ≥ d then rv 0 0 0 0 else rv l t (r - l) (d - t)) := by
    show _ = _
    unfold capV capL capR
    rw [hpx, hpy, hpa, hpb, hqx, hqy, hqa, hqb, hl, hr, ht, hd]
  have L1 : Hid (∀ w, Calls Try.prog 52 #[.int .i64 (px + pa), .int .i64 (qx + qa)] w fun e w' => e = .returned (.int .i64 r) ∧ w' = w) := fun w => by have := LS.out (px + pa) (qx + qa) w; rw [hr] at this; exact this
  have L2 : Hid (∀ w, Calls Try.prog 52 #[.int .i64 (py + pb), .int .i64 (qy + qb)] w fun e w' => e = .returned (.int .i64 d) ∧ w' = w) := fun w => by have := LS.out (py + pb) (qy + qb) w; rw [hd] at this; exact this
  have G1 : Hid (∀ w, Calls Try.prog 51 #[.int .i64 px, .int .i64 qx] w fun e w' => e = .returned (.int .i64 l) ∧ w' = w) := fun w => by have := GS.out px qx w; rw [hl] at this; exact this
  have G2 : Hid (∀ w, Calls Try.prog 51 #[.int .i64 py, .int .i64 qy] w fun e w' => e = .returned (.int .i64 t) ∧ w' = w) := fun w => by have := GS.out py qy w; rw [ht] at this; exact this
  have bl : -100000 ≤ l ∧ l ≤ 100000 := by omega
  have br : -100000 ≤ r ∧ r ≤ 200000 := by omega
  have bt : -100000 ≤ t ∧ t ≤ 100000 := by omega
  have bd : -100000 ≤ d ∧ d ≤ 200000 := by omega
  clear hpx hpy hpa hpb hqx hqy hqa hqb hl hr ht hd
  go_wp2_with fail
  refine (G1.out _).mono ?_
  rintro e w6 ⟨rfl, hw6⟩
  obtain rfl := hw6.symm
  go_wp2_with fail
  refine (G2.out _).mono ?_
  rintro e w7 ⟨rfl, hw7⟩
  obtain rfl := hw7.symm
  go_wp2_with fail
  refine (L1.out _).mono ?_
  rintro e w8 ⟨rfl, hw8⟩
  obtain rfl := hw8.symm
  go_wp2_with fail
  refine (L2.out _).mono ?_
  rintro e w9 ⟨rfl, hw9⟩
  obtain rfl := hw9.symm
  by_cases h1 : r - l ≤ 0
  · have e1 : decide (r - l ≤ 0) = true := decide_eq_true h1
    go_wp2
    refine bodyPost_ret (results_cell_row rfl _ _ (A + 1 + 1) _ _ _ _ rfl (RC5.out.set _ _ _ _) Try.underlying54 rfl (by kernel_rfl)) rfl ?_
    exact ⟨by rw [HV.out, if_pos (by omega)]; rfl, HG5.out.set4 (by rw [HA.out]; omega) _ _ _ _⟩
  · have e1 : decide (r - l ≤ 0) = false := decide_eq_false h1
    by_cases h2 : d - t ≤ 0
    · have e2 : decide (d - t ≤ 0) = true := decide_eq_true h2
      go_wp2
      refine bodyPost_ret (results_cell_row rfl _ _ (A + 1 + 1) _ _ _ _ rfl (RC5.out.set _ _ _ _) Try.underlying54 rfl (by kernel_rfl)) rfl ?_
      exact ⟨by rw [HV.out, if_pos (by omega)]; rfl, HG5.out.set4 (by rw [HA.out]; omega) _ _ _ _⟩
    · have e2 : decide (d - t ≤ 0) = false := decide_eq_false h2
      go_wp2
      refine bodyPost_ret (results_cell_row rfl _ _ (A + 1 + 1) _ _ _ _ rfl (RC5.out.set _ _ _ _) Try.underlying54 rfl (by kernel_rfl)) rfl ?_
      exact ⟨by rw [HV.out, if_neg (by omega)]; rfl, HG5.out.set4 (by rw [HA.out]; omega) _ _ _ _⟩

end Go.Proofs.Ytkcddikpjblpaag
