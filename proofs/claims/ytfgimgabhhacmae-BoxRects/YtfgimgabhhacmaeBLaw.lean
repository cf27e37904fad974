/-
  BoxRects, walked.
-/
import Derived.Test.YtfgimgabhhacmaeBRcap
import Derived.Test.YtfgimgabhhacmaeBRins
namespace Go.Proofs.Ytfgimgabhhacmae
open Go.RowKit Go.Sort
set_option linter.unusedVariables false

theorem toHid {p : Prop} (h : p) : Hid p := h
theorem capV_agg (ax ay aw ah bx by_ bw bh : Int) : ∃ c0 c1 c2 c3, capV ax ay aw ah bx by_ bw bh = rv c0 c1 c2 c3 := by
  unfold capV; split
  · exact ⟨_, _, _, _, rfl⟩
  · exact ⟨_, _, _, _, rfl⟩

set_option maxRecDepth 100000 in
set_option maxHeartbeats 4000000 in
theorem rects_walk (ax ay aw ah bx by_ bw bh n x y : Int) (w : World) : Calls Try.prog 3 #[rv ax ay aw ah, rv bx by_ bw bh, .int .i64 n, .int .i64 x, .int .i64 y] w fun e w' => e = .returned (.bool true) ∧ Gr w w' := by
  have TH : Hid (∀ x y a b w, Calls Try.prog 6 #[rv x y a b] w fun e w' => e = .returned (rv x y a b) ∧ Gr w w') := theirs_any
  obtain ⟨c0, c1, c2, c3, hc⟩ := capV_agg ax ay aw ah bx by_ bw bh
  obtain ⟨i0, i1, i2, i3, hi⟩ : ∃ i0 i1 i2 i3, insV ax ay aw ah n = rv i0 i1 i2 i3 := ⟨_, _, _, _, rfl⟩
  obtain ⟨hh, hhb⟩ : ∃ z, holdB ax ay aw ah x y = z := ⟨_, rfl⟩
  have CP : Hid (∀ w, Calls Try.prog 5 #[rv ax ay aw ah, rv bx by_ bw bh] w fun e w' => e = .returned (rv c0 c1 c2 c3) ∧ Gr w w') := fun w => by have := cap_any ax ay aw ah bx by_ bw bh w; rw [hc] at this; exact this
  have RP : Hid (∀ w, Calls Try.prog 9 #[rv ax ay aw ah, rv bx by_ bw bh] w fun e w' => e = .returned (rv c0 c1 c2 c3) ∧ Gr w w') := fun w => by have := rCap_any ax ay aw ah bx by_ bw bh w; rw [hc] at this; exact this
  have CI : Hid (∀ w, Calls Try.prog 7 #[rv ax ay aw ah, .int .i64 n] w fun e w' => e = .returned (rv i0 i1 i2 i3) ∧ Gr w w') := fun w => by have := inset_any ax ay aw ah n w; rw [hi] at this; exact this
  have RI : Hid (∀ w, Calls Try.prog 10 #[rv ax ay aw ah, .int .i64 n] w fun e w' => e = .returned (rv i0 i1 i2 i3) ∧ Gr w w') := fun w => by have := rInset_any ax ay aw ah n w; rw [hi] at this; exact this
  have CH : Hid (∀ w, Calls Try.prog 8 #[rv ax ay aw ah, .int .i64 x, .int .i64 y] w fun e w' => e = .returned (.bool hh) ∧ Gr w w') := fun w => by have := holds_any ax ay aw ah x y w; rw [hhb] at this; exact this
  have RH : Hid (∀ w, Calls Try.prog 11 #[rv ax ay aw ah, .int .i64 x, .int .i64 y] w fun e w' => e = .returned (.bool hh) ∧ Gr w w') := fun w => by have := rHolds_any ax ay aw ah x y w; rw [hhb] at this; exact this
  clear hc hi hhb
  have TH1 : Hid (∀ w, Calls Try.prog 6 #[rv ax ay aw ah] w fun e w' => e = .returned (rv ax ay aw ah) ∧ Gr w w') := TH.out _ _ _ _
  have TH2 : Hid (∀ w, Calls Try.prog 6 #[rv bx by_ bw bh] w fun e w' => e = .returned (rv bx by_ bw bh) ∧ Gr w w') := TH.out _ _ _ _
  unfold rv at TH TH1 TH2 CP RP CI RI CH RH ⊢
  go_enter Try.func3, Try.ntmps3
  go_wp2_with fail
  obtain ⟨A, hA⟩ : ∃ z, w.heap.size = z := ⟨_, rfl⟩
  obtain ⟨W0, hW0⟩ : ∃ z, (w.alloc (.cells #[.int .i64 ax, .int .i64 ay, .int .i64 aw, .int .i64 ah] 23)).alloc (.cells #[.int .i64 bx, .int .i64 by_, .int .i64 bw, .int .i64 bh] 23) = z := ⟨_, rfl⟩
  have G0 : Hid (Gr w W0) := by rw [← hW0]; exact ((Gr.refl w).alloc _).alloc _
  have RA : Hid (R4 23 W0 A ax ay aw ah) := by rw [← hW0, ← hA]; exact (R4.new w _ _ _ _ _).gr ((Gr.refl _).alloc _)
  have RB : Hid (R4 23 W0 (A + 1) bx by_ bw bh) := by
    have := R4.new (w.alloc (.cells #[.int .i64 ax, .int .i64 ay, .int .i64 aw, .int .i64 ah] 23)) bx by_ bw bh 23
    simp only [World.size_alloc, hA] at this
    rw [← hW0]; exact this
  rw [hW0, hA]
  clear hW0
  have HA : Hid (w.heap.size = A) := hA
  clear hA
  have a0 := RA.out.c0
  have a1 := RA.out.c1
  have a2 := RA.out.c2
  have a3 := RA.out.c3
  have b0 := RB.out.c0
  have b1 := RB.out.c1
  have b2 := RB.out.c2
  have b3 := RB.out.c3
  have la0 := RA.out.lt
  have lb0 := RB.out.lt
  go_cut [5, 6, 11] from 14 to 18 (fun u v p wx => u = .pointer (some ⟨A, 0, none⟩) ∧ v = .pointer (some ⟨A + 1, 0, none⟩) ∧ ∃ P, p = .pointer (some ⟨P, 0, none⟩) ∧ Hid (R4 24 wx P c0 c1 c2 c3) ∧ Hid (Gr W0 wx))
  case first =>
    go_region_with (first | (go_at_call 6; (with_reducible refine Calls.mono (TH1.out _) ?_); rintro e w1 ⟨rfl, g1⟩; have HG1 : Hid (Gr W0 w1) := (by first | exact ((Gr.refl W0).drew).trans g1 | exact (((Gr.refl W0).alloc _).drew).trans g1); have HA1 : Hid (R4 23 w1 A ax ay aw ah) := RA.out.gr HG1.out; have HB1 : Hid (R4 23 w1 (A + 1) bx by_ bw bh) := RB.out.gr HG1.out; have m10 := HA1.out.c0; have m11 := HA1.out.c1; have m12 := HA1.out.c2; have m13 := HA1.out.c3; have n10 := HB1.out.c0; have n11 := HB1.out.c1; have n12 := HB1.out.c2; have n13 := HB1.out.c3; have la1 := HA1.out.lt; have lb1 := HB1.out.lt; (try (have ZA : Hid (R4 24 w1 W0.heap.size 0 0 0 0) := ((R4.new W0 0 0 0 0 24).gr ((Gr.refl _).drew)).gr g1; have za_0 := ZA.out.c0; have za_1 := ZA.out.c1; have za_2 := ZA.out.c2; have za_3 := ZA.out.c3; have za_f0 := ZA.out.fz 0; have za_f1 := ZA.out.fz 1; have za_f2 := ZA.out.fz 2; have za_f3 := ZA.out.fz 3; have za_l := ZA.out.lt)); clear g1) | (go_at_call 6; (with_reducible refine Calls.mono (TH2.out _) ?_); rintro e w2 ⟨rfl, g2⟩; have HG2 : Hid (Gr W0 w2) := (by first | exact HG1.out.trans g2 | exact (HG1.out.alloc _).trans g2); have HA2 : Hid (R4 23 w2 A ax ay aw ah) := RA.out.gr HG2.out; have HB2 : Hid (R4 23 w2 (A + 1) bx by_ bw bh) := RB.out.gr HG2.out; have m20 := HA2.out.c0; have m21 := HA2.out.c1; have m22 := HA2.out.c2; have m23 := HA2.out.c3; have n20 := HB2.out.c0; have n21 := HB2.out.c1; have n22 := HB2.out.c2; have n23 := HB2.out.c3; have la2 := HA2.out.lt; have lb2 := HB2.out.lt; (try (have ZB : Hid (R4 24 w2 W0.heap.size 0 0 0 0) := ZA.out.gr g2; have zb_0 := ZB.out.c0; have zb_1 := ZB.out.c1; have zb_2 := ZB.out.c2; have zb_3 := ZB.out.c3; have zb_f0 := ZB.out.fz 0; have zb_f1 := ZB.out.fz 1; have zb_f2 := ZB.out.fz 2; have zb_f3 := ZB.out.fz 3; have zb_l := ZB.out.lt)); (try (have ZC : Hid (R4 24 w2 w1.heap.size 0 0 0 0) := (R4.new w1 0 0 0 0 24).gr g2; have zc_0 := ZC.out.c0; have zc_1 := ZC.out.c1; have zc_2 := ZC.out.c2; have zc_3 := ZC.out.c3; have zc_f0 := ZC.out.fz 0; have zc_f1 := ZC.out.fz 1; have zc_f2 := ZC.out.fz 2; have zc_f3 := ZC.out.fz 3; have zc_l := ZC.out.lt)); clear g2) | (go_at_call 5; (with_reducible refine Calls.mono (CP.out _) ?_); rintro e w3 ⟨rfl, g3⟩; have HG3 : Hid (Gr W0 w3) := (by first | exact HG2.out.trans g3 | exact (HG2.out.alloc _).trans g3); have HA3 : Hid (R4 23 w3 A ax ay aw ah) := RA.out.gr HG3.out; have HB3 : Hid (R4 23 w3 (A + 1) bx by_ bw bh) := RB.out.gr HG3.out; have m30 := HA3.out.c0; have m31 := HA3.out.c1; have m32 := HA3.out.c2; have m33 := HA3.out.c3; have n30 := HB3.out.c0; have n31 := HB3.out.c1; have n32 := HB3.out.c2; have n33 := HB3.out.c3; have la3 := HA3.out.lt; have lb3 := HB3.out.lt; (try (have ZD : Hid (R4 24 w3 W0.heap.size 0 0 0 0) := ZB.out.gr g3; have zd_0 := ZD.out.c0; have zd_1 := ZD.out.c1; have zd_2 := ZD.out.c2; have zd_3 := ZD.out.c3; have zd_f0 := ZD.out.fz 0; have zd_f1 := ZD.out.fz 1; have zd_f2 := ZD.out.fz 2; have zd_f3 := ZD.out.fz 3; have zd_l := ZD.out.lt)); (try (have ZE : Hid (R4 24 w3 w1.heap.size 0 0 0 0) := ZC.out.gr g3; have ze_0 := ZE.out.c0; have ze_1 := ZE.out.c1; have ze_2 := ZE.out.c2; have ze_3 := ZE.out.c3; have ze_f0 := ZE.out.fz 0; have ze_f1 := ZE.out.fz 1; have ze_f2 := ZE.out.fz 2; have ze_f3 := ZE.out.fz 3; have ze_l := ZE.out.lt)); (try (have ZF : Hid (R4 24 w3 w2.heap.size 0 0 0 0) := (R4.new w2 0 0 0 0 24).gr g3; have zf_0 := ZF.out.c0; have zf_1 := ZF.out.c1; have zf_2 := ZF.out.c2; have zf_3 := ZF.out.c3; have zf_f0 := ZF.out.fz 0; have zf_f1 := ZF.out.fz 1; have zf_f2 := ZF.out.fz 2; have zf_f3 := ZF.out.fz 3; have zf_l := ZF.out.lt)); clear g3))
    all_goals
      go_wp2_with fail
      go_meet
      first
        | exact ⟨rfl, rfl, _, rfl, ZD.out.set _ _ _ _, HG3.out.set4 (Nat.le_refl _) _ _ _ _⟩
        | exact ⟨rfl, rfl, _, rfl, ZE.out.set _ _ _ _, HG3.out.set4 HG1.out.size _ _ _ _⟩
        | exact ⟨rfl, rfl, _, rfl, ZF.out.set _ _ _ _, HG3.out.set4 HG2.out.size _ _ _ _⟩
        | exact ⟨rfl, rfl, _, rfl, R4.new _ _ _ _ _ _, HG3.out.alloc _⟩
  case rest =>
    obtain ⟨rfl, rfl, P, rfl, HP, HG⟩ := hcut
    clear a0 a1 a2 a3 b0 b1 b2 b3
    have RA1 : Hid (R4 23 wc A ax ay aw ah) := RA.out.gr HG.out
    have a0 := RA1.out.c0
    have a1 := RA1.out.c1
    have a2 := RA1.out.c2
    have a3 := RA1.out.c3
    go_wp2_with fail
    refine (TH.out _ _ _ _ _).mono ?_
    rintro e w2 ⟨rfl, g2⟩
    have HG2 : Hid (Gr W0 w2) := HG.out.trans g2
    have HP2 : Hid (R4 24 w2 P c0 c1 c2 c3) := HP.out.gr g2
    clear g2
    go_wp2_with fail
    refine (CI.out _).mono ?_
    rintro e w3 ⟨rfl, g3⟩
    have HG3 : Hid (Gr W0 (w3.alloc (.cells #[.int .i64 i0, .int .i64 i1, .int .i64 i2, .int .i64 i3] 24))) := (HG2.out.trans g3).alloc _
    have HP3 : Hid (R4 24 (w3.alloc (.cells #[.int .i64 i0, .int .i64 i1, .int .i64 i2, .int .i64 i3] 24)) P c0 c1 c2 c3) := (HP2.out.gr g3).gr ((Gr.refl _).alloc _)
    have HI3 : Hid (R4 24 (w3.alloc (.cells #[.int .i64 i0, .int .i64 i1, .int .i64 i2, .int .i64 i3] 24)) w3.heap.size i0 i1 i2 i3) := R4.new _ _ _ _ _ _
    obtain ⟨q, hq⟩ : ∃ z, w3.heap.size = z := ⟨_, rfl⟩
    obtain ⟨w4, hw4⟩ : ∃ z, w3.alloc (.cells #[.int .i64 i0, .int .i64 i1, .int .i64 i2, .int .i64 i3] 24) = z := ⟨_, rfl⟩
    rw [hw4] at HG3 HP3 HI3
    rw [hq] at HI3
    clear g3 a0 a1 a2 a3
    have RA3 : Hid (R4 23 w4 A ax ay aw ah) := RA.out.gr HG3.out
    have a0 := RA3.out.c0
    have a1 := RA3.out.c1
    have a2 := RA3.out.c2
    have a3 := RA3.out.c3
    go_wp2_with fail
    try rw [hw4]
    clear hw4 hq
    refine (TH1.out _).mono ?_
    rintro e w5 ⟨rfl, g5⟩
    have HG5 : Hid (Gr W0 w5) := HG3.out.trans g5
    have HP5 : Hid (R4 24 w5 P c0 c1 c2 c3) := HP3.out.gr g5
    have HI5 : Hid (R4 24 w5 q i0 i1 i2 i3) := HI3.out.gr g5
    clear g5 a0 a1 a2 a3
    go_wp2_with fail
    refine (CH.out _).mono ?_
    rintro e w6 ⟨rfl, g6⟩
    have HG6 : Hid (Gr W0 w6) := HG5.out.trans g6
    have HP6 : Hid (R4 24 w6 P c0 c1 c2 c3) := HP5.out.gr g6
    have HI6 : Hid (R4 24 w6 q i0 i1 i2 i3) := HI5.out.gr g6
    have RA6 : Hid (R4 23 w6 A ax ay aw ah) := RA.out.gr HG6.out
    have RB6 : Hid (R4 23 w6 (A + 1) bx by_ bw bh) := RB.out.gr HG6.out
    clear g6
    have a0 : ∀ n' os', (grow (w6.drewN n') os').cell? ⟨A, 0, none⟩ = some (.int .i64 ax) := cell_grown RA6.out.lt RA6.out.c0
    have a1 : ∀ n' os', (grow (w6.drewN n') os').cell? ⟨A, 1, none⟩ = some (.int .i64 ay) := cell_grown RA6.out.lt RA6.out.c1
    have a2 : ∀ n' os', (grow (w6.drewN n') os').cell? ⟨A, 2, none⟩ = some (.int .i64 aw) := cell_grown RA6.out.lt RA6.out.c2
    have a3 : ∀ n' os', (grow (w6.drewN n') os').cell? ⟨A, 3, none⟩ = some (.int .i64 ah) := cell_grown RA6.out.lt RA6.out.c3
    have b0 : ∀ n' os', (grow (w6.drewN n') os').cell? ⟨A + 1, 0, none⟩ = some (.int .i64 bx) := cell_grown RB6.out.lt RB6.out.c0
    have b1 : ∀ n' os', (grow (w6.drewN n') os').cell? ⟨A + 1, 1, none⟩ = some (.int .i64 by_) := cell_grown RB6.out.lt RB6.out.c1
    have b2 : ∀ n' os', (grow (w6.drewN n') os').cell? ⟨A + 1, 2, none⟩ = some (.int .i64 bw) := cell_grown RB6.out.lt RB6.out.c2
    have b3 : ∀ n' os', (grow (w6.drewN n') os').cell? ⟨A + 1, 3, none⟩ = some (.int .i64 bh) := cell_grown RB6.out.lt RB6.out.c3
    have p0 : ∀ n' os', (grow (w6.drewN n') os').cell? ⟨P, 0, none⟩ = some (.int .i64 c0) := cell_grown HP6.out.lt HP6.out.c0
    have p1 : ∀ n' os', (grow (w6.drewN n') os').cell? ⟨P, 1, none⟩ = some (.int .i64 c1) := cell_grown HP6.out.lt HP6.out.c1
    have p2 : ∀ n' os', (grow (w6.drewN n') os').cell? ⟨P, 2, none⟩ = some (.int .i64 c2) := cell_grown HP6.out.lt HP6.out.c2
    have p3 : ∀ n' os', (grow (w6.drewN n') os').cell? ⟨P, 3, none⟩ = some (.int .i64 c3) := cell_grown HP6.out.lt HP6.out.c3
    have j0 : ∀ n' os', (grow (w6.drewN n') os').cell? ⟨q, 0, none⟩ = some (.int .i64 i0) := cell_grown HI6.out.lt HI6.out.c0
    have j1 : ∀ n' os', (grow (w6.drewN n') os').cell? ⟨q, 1, none⟩ = some (.int .i64 i1) := cell_grown HI6.out.lt HI6.out.c1
    have j2 : ∀ n' os', (grow (w6.drewN n') os').cell? ⟨q, 2, none⟩ = some (.int .i64 i2) := cell_grown HI6.out.lt HI6.out.c2
    have j3 : ∀ n' os', (grow (w6.drewN n') os').cell? ⟨q, 3, none⟩ = some (.int .i64 i3) := cell_grown HI6.out.lt HI6.out.c3
    go_wp2_with fail
    have hmix : Try.prog.follows .mixedOrders = true := by kernel_rfl
    go_quiet_grown (first | (go_at_call 9; exact Calls.grown_of (RP.out _)) | (go_at_call 6; exact Calls.grown_of (TH.out _ _ _ _ _)) | (go_at_call 10; exact Calls.grown_of (RI.out _)) | (go_at_call 11; exact Calls.grown_of (RH.out _)))
    have HF : Hid (Gr w (grow (w6.drewN nq) osq)) := (G0.out.trans HG6.out).trans ⟨nq, osq, rfl⟩
    go_wp2
    go_ret
    exact ⟨rfl, HF.out⟩

end Go.Proofs.Ytfgimgabhhacmae
