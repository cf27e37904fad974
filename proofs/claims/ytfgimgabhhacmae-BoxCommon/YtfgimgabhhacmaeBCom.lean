/-
  BoxCommon, walked.
-/
import Derived.Test.YtfgimgabhhacmaeBRcap
import Derived.Test.YtfgimgabhhacmaeBMath
namespace Go.Proofs.Ytfgimgabhhacmae
open Go.RowKit Go.Sort
set_option linter.unusedVariables false

theorem keepS {T T' : TypeId} {W : World} {A B P : Nat} {a b c d e f g h : Int} {v0 v1 v2 v3 : Value} (ha : R4 T W A a b c d) (hb : R4 T' W B e f g h) (na : A ≠ P) (nb : B ≠ P) :
    ((((W.setCell ⟨P, 0, none⟩ v0).setCell ⟨P, 1, none⟩ v1).setCell ⟨P, 2, none⟩ v2).setCell ⟨P, 3, none⟩ v3).cell? ⟨A, 0, none⟩ = some (.int .i64 a) ∧ ((((W.setCell ⟨P, 0, none⟩ v0).setCell ⟨P, 1, none⟩ v1).setCell ⟨P, 2, none⟩ v2).setCell ⟨P, 3, none⟩ v3).cell? ⟨A, 1, none⟩ = some (.int .i64 b) ∧ ((((W.setCell ⟨P, 0, none⟩ v0).setCell ⟨P, 1, none⟩ v1).setCell ⟨P, 2, none⟩ v2).setCell ⟨P, 3, none⟩ v3).cell? ⟨A, 2, none⟩ = some (.int .i64 c) ∧ ((((W.setCell ⟨P, 0, none⟩ v0).setCell ⟨P, 1, none⟩ v1).setCell ⟨P, 2, none⟩ v2).setCell ⟨P, 3, none⟩ v3).cell? ⟨A, 3, none⟩ = some (.int .i64 d) ∧
    ((((W.setCell ⟨P, 0, none⟩ v0).setCell ⟨P, 1, none⟩ v1).setCell ⟨P, 2, none⟩ v2).setCell ⟨P, 3, none⟩ v3).cell? ⟨B, 0, none⟩ = some (.int .i64 e) ∧ ((((W.setCell ⟨P, 0, none⟩ v0).setCell ⟨P, 1, none⟩ v1).setCell ⟨P, 2, none⟩ v2).setCell ⟨P, 3, none⟩ v3).cell? ⟨B, 1, none⟩ = some (.int .i64 f) ∧ ((((W.setCell ⟨P, 0, none⟩ v0).setCell ⟨P, 1, none⟩ v1).setCell ⟨P, 2, none⟩ v2).setCell ⟨P, 3, none⟩ v3).cell? ⟨B, 2, none⟩ = some (.int .i64 g) ∧ ((((W.setCell ⟨P, 0, none⟩ v0).setCell ⟨P, 1, none⟩ v1).setCell ⟨P, 2, none⟩ v2).setCell ⟨P, 3, none⟩ v3).cell? ⟨B, 3, none⟩ = some (.int .i64 h) :=
  have x := ha.others na v0 v1 v2 v3
  have y := hb.others nb v0 v1 v2 v3
  ⟨x.c0, x.c1, x.c2, x.c3, y.c0, y.c1, y.c2, y.c3⟩
theorem capV_rv (ax ay aw ah bx by_ bw bh : Int) : ∃ c0 c1 c2 c3, capV ax ay aw ah bx by_ bw bh = rv c0 c1 c2 c3 := by
  unfold capV; split
  · exact ⟨_, _, _, _, rfl⟩
  · exact ⟨_, _, _, _, rfl⟩

set_option maxRecDepth 100000 in
set_option maxHeartbeats 8000000 in
theorem common_walk (ax ay aw ah bx by_ bw bh x y : Int) (w : World) : Calls Try.prog 4 #[rv ax ay aw ah, rv bx by_ bw bh, .int .i64 x, .int .i64 y] w fun e w' => e = .returned (.bool true) ∧ Gr w w' := by
  obtain ⟨c0, c1, c2, c3, hc⟩ := capV_rv ax ay aw ah bx by_ bw bh
  have hc2 : capV bx by_ bw bh ax ay aw ah = rv c0 c1 c2 c3 := by rw [capV_comm]; exact hc
  have hc3 := cap_again hc
  have hc4 := cap_holds x y hc
  obtain ⟨p, hp⟩ : ∃ z, holdB ax ay aw ah x y = z := ⟨_, rfl⟩
  obtain ⟨q, hq⟩ : ∃ z, holdB bx by_ bw bh x y = z := ⟨_, rfl⟩
  obtain ⟨hm, hhm⟩ : ∃ z, holdB ax ay aw ah ax ay = z := ⟨_, rfl⟩
  rw [hp, hq] at hc4
  have TH1 : Hid (∀ w, Calls Try.prog 6 #[rv ax ay aw ah] w fun e w' => e = .returned (rv ax ay aw ah) ∧ Gr w w') := theirs_any _ _ _ _
  have TH2 : Hid (∀ w, Calls Try.prog 6 #[rv bx by_ bw bh] w fun e w' => e = .returned (rv bx by_ bw bh) ∧ Gr w w') := theirs_any _ _ _ _
  have CP1 : Hid (∀ w, Calls Try.prog 5 #[rv ax ay aw ah, rv bx by_ bw bh] w fun e w' => e = .returned (rv c0 c1 c2 c3) ∧ Gr w w') := fun w => by have := cap_any ax ay aw ah bx by_ bw bh w; rw [hc] at this; exact this
  have CP2 : Hid (∀ w, Calls Try.prog 5 #[rv bx by_ bw bh, rv ax ay aw ah] w fun e w' => e = .returned (rv c0 c1 c2 c3) ∧ Gr w w') := fun w => by have := cap_any bx by_ bw bh ax ay aw ah w; rw [hc2] at this; exact this
  have CP3 : Hid (∀ w, Calls Try.prog 5 #[rv c0 c1 c2 c3, rv bx by_ bw bh] w fun e w' => e = .returned (rv c0 c1 c2 c3) ∧ Gr w w') := fun w => by have := cap_any c0 c1 c2 c3 bx by_ bw bh w; rw [hc3] at this; exact this
  have CH1 : Hid (∀ w, Calls Try.prog 8 #[rv ax ay aw ah, .int .i64 x, .int .i64 y] w fun e w' => e = .returned (.bool p) ∧ Gr w w') := fun w => by have := holds_any ax ay aw ah x y w; rw [hp] at this; exact this
  have CH2 : Hid (∀ w, Calls Try.prog 8 #[rv bx by_ bw bh, .int .i64 x, .int .i64 y] w fun e w' => e = .returned (.bool q) ∧ Gr w w') := fun w => by have := holds_any bx by_ bw bh x y w; rw [hq] at this; exact this
  have CH3 : Hid (∀ w, Calls Try.prog 8 #[rv c0 c1 c2 c3, .int .i64 x, .int .i64 y] w fun e w' => e = .returned (.bool (p && q)) ∧ Gr w w') := fun w => by have := holds_any c0 c1 c2 c3 x y w; rw [hc4] at this; exact this
  have CH4 : Hid (∀ w, Calls Try.prog 8 #[rv ax ay aw ah, .int .i64 ax, .int .i64 ay] w fun e w' => e = .returned (.bool hm) ∧ Gr w w') := fun w => by have := holds_any ax ay aw ah ax ay w; rw [hhm] at this; exact this
  have RH : Hid (∀ w, Calls Try.prog 11 #[rv ax ay aw ah, .int .i64 ax, .int .i64 ay] w fun e w' => e = .returned (.bool hm) ∧ Gr w w') := fun w => by have := rHolds_any ax ay aw ah ax ay w; rw [hhm] at this; exact this
  clear hc hc2 hc3 hc4 hp hq hhm
  unfold rv at TH1 TH2 CP1 CP2 CP3 CH1 CH2 CH3 CH4 RH ⊢
  go_enter Try.func4, Try.ntmps4
  go_wp2_with fail
  obtain ⟨A, hA⟩ : ∃ z, w.heap.size = z := ⟨_, rfl⟩
  obtain ⟨W0, hW0⟩ : ∃ z, (w.alloc (.cells #[.int .i64 ax, .int .i64 ay, .int .i64 aw, .int .i64 ah] 23)).alloc (.cells #[.int .i64 bx, .int .i64 by_, .int .i64 bw, .int .i64 bh] 23) = z := ⟨_, rfl⟩
  have G0 : Hid (Gr w W0) := by rw [← hW0]; exact ((Gr.refl w).alloc _).alloc _
  have RA : Hid (R4 23 W0 A ax ay aw ah) := by rw [← hW0, ← hA]; exact (R4.new w _ _ _ _ _).gr ((Gr.refl _).alloc _)
  have RB : Hid (R4 23 W0 (A + 1) bx by_ bw bh) := by
    have := R4.new (w.alloc (.cells #[.int .i64 ax, .int .i64 ay, .int .i64 aw, .int .i64 ah] 23)) bx by_ bw bh 23
    simp only [World.size_alloc, hA] at this
    rw [← hW0]; exact this
  rw [hW0, hA]
  clear hW0 hA
  have RAz0 := RA.out.c0
  have RAz1 := RA.out.c1
  have RAz2 := RA.out.c2
  have RAz3 := RA.out.c3
  have RAzl := RA.out.lt
  have RAzn := Nat.ne_of_lt RA.out.lt
  have RBz0 := RB.out.c0
  have RBz1 := RB.out.c1
  have RBz2 := RB.out.c2
  have RBz3 := RB.out.c3
  have RBzl := RB.out.lt
  have RBzn := Nat.ne_of_lt RB.out.lt
  go_cut [4, 5, 9] from 17 to 21 (fun u0_ u1_ pp wx => u0_ = .pointer (some ⟨A, 0, none⟩) ∧ u1_ = .pointer (some ⟨A + 1, 0, none⟩) ∧ ∃ P, pp = .pointer (some ⟨P, 0, none⟩) ∧ Hid (R4 24 wx P c0 c1 c2 c3) ∧ Hid (Gr W0 wx))
  case first =>
    go_region_with (first | (go_at_call 6; (with_reducible refine Calls.mono (TH1.out _) ?_); rintro e vx1 ⟨rfl, g1⟩; have HGx1 : Hid (Gr W0 vx1) := (by first | exact ((Gr.refl W0).drew).trans g1 | exact (((Gr.refl W0).alloc _).drew).trans g1); have HRAx1 : Hid (R4 23 vx1 (A) ax ay aw ah) := RA.out.gr HGx1.out; have rax1c0 := HRAx1.out.c0; have rax1c1 := HRAx1.out.c1; have rax1c2 := HRAx1.out.c2; have rax1c3 := HRAx1.out.c3; have rax1l := HRAx1.out.lt; have rax1n := Nat.ne_of_lt HRAx1.out.lt; have HRBx1 : Hid (R4 23 vx1 (A + 1) bx by_ bw bh) := RB.out.gr HGx1.out; have rbx1c0 := HRBx1.out.c0; have rbx1c1 := HRBx1.out.c1; have rbx1c2 := HRBx1.out.c2; have rbx1c3 := HRBx1.out.c3; have rbx1l := HRBx1.out.lt; have rbx1n := Nat.ne_of_lt HRBx1.out.lt; (try (have Zx10 : Hid (R4 24 vx1 W0.heap.size 0 0 0 0) := ((R4.new W0 0 0 0 0 24).gr ((Gr.refl _).drew)).gr g1; have zx10_0 := Zx10.out.c0; have zx10_1 := Zx10.out.c1; have zx10_2 := Zx10.out.c2; have zx10_3 := Zx10.out.c3; have zx10_f0 := Zx10.out.fz 0; have zx10_f1 := Zx10.out.fz 1; have zx10_f2 := Zx10.out.fz 2; have zx10_f3 := Zx10.out.fz 3; have zx10_l := Zx10.out.lt)); clear g1) | (go_at_call 6; (with_reducible refine Calls.mono (TH2.out _) ?_); rintro e vx2 ⟨rfl, g2⟩; have HGx2 : Hid (Gr W0 vx2) := (by first | exact HGx1.out.trans g2 | exact (HGx1.out.alloc _).trans g2); have HRAx2 : Hid (R4 23 vx2 (A) ax ay aw ah) := RA.out.gr HGx2.out; have rax2c0 := HRAx2.out.c0; have rax2c1 := HRAx2.out.c1; have rax2c2 := HRAx2.out.c2; have rax2c3 := HRAx2.out.c3; have rax2l := HRAx2.out.lt; have rax2n := Nat.ne_of_lt HRAx2.out.lt; have HRBx2 : Hid (R4 23 vx2 (A + 1) bx by_ bw bh) := RB.out.gr HGx2.out; have rbx2c0 := HRBx2.out.c0; have rbx2c1 := HRBx2.out.c1; have rbx2c2 := HRBx2.out.c2; have rbx2c3 := HRBx2.out.c3; have rbx2l := HRBx2.out.lt; have rbx2n := Nat.ne_of_lt HRBx2.out.lt; (try (have Zx20 : Hid (R4 24 vx2 W0.heap.size 0 0 0 0) := Zx10.out.gr g2; have zx20_0 := Zx20.out.c0; have zx20_1 := Zx20.out.c1; have zx20_2 := Zx20.out.c2; have zx20_3 := Zx20.out.c3; have zx20_f0 := Zx20.out.fz 0; have zx20_f1 := Zx20.out.fz 1; have zx20_f2 := Zx20.out.fz 2; have zx20_f3 := Zx20.out.fz 3; have zx20_l := Zx20.out.lt)); (try (have Zx21 : Hid (R4 24 vx2 vx1.heap.size 0 0 0 0) := (R4.new vx1 0 0 0 0 24).gr g2; have zx21_0 := Zx21.out.c0; have zx21_1 := Zx21.out.c1; have zx21_2 := Zx21.out.c2; have zx21_3 := Zx21.out.c3; have zx21_f0 := Zx21.out.fz 0; have zx21_f1 := Zx21.out.fz 1; have zx21_f2 := Zx21.out.fz 2; have zx21_f3 := Zx21.out.fz 3; have zx21_l := Zx21.out.lt)); clear g2) | (go_at_call 5; (with_reducible refine Calls.mono (CP1.out _) ?_); rintro e vx3 ⟨rfl, g3⟩; have HGx3 : Hid (Gr W0 vx3) := (by first | exact HGx2.out.trans g3 | exact (HGx2.out.alloc _).trans g3); have HRAx3 : Hid (R4 23 vx3 (A) ax ay aw ah) := RA.out.gr HGx3.out; have rax3c0 := HRAx3.out.c0; have rax3c1 := HRAx3.out.c1; have rax3c2 := HRAx3.out.c2; have rax3c3 := HRAx3.out.c3; have rax3l := HRAx3.out.lt; have rax3n := Nat.ne_of_lt HRAx3.out.lt; have HRBx3 : Hid (R4 23 vx3 (A + 1) bx by_ bw bh) := RB.out.gr HGx3.out; have rbx3c0 := HRBx3.out.c0; have rbx3c1 := HRBx3.out.c1; have rbx3c2 := HRBx3.out.c2; have rbx3c3 := HRBx3.out.c3; have rbx3l := HRBx3.out.lt; have rbx3n := Nat.ne_of_lt HRBx3.out.lt; (try (have Zx30 : Hid (R4 24 vx3 W0.heap.size 0 0 0 0) := Zx20.out.gr g3; have zx30_0 := Zx30.out.c0; have zx30_1 := Zx30.out.c1; have zx30_2 := Zx30.out.c2; have zx30_3 := Zx30.out.c3; have zx30_f0 := Zx30.out.fz 0; have zx30_f1 := Zx30.out.fz 1; have zx30_f2 := Zx30.out.fz 2; have zx30_f3 := Zx30.out.fz 3; have zx30_l := Zx30.out.lt)); (try (have Zx31 : Hid (R4 24 vx3 vx1.heap.size 0 0 0 0) := Zx21.out.gr g3; have zx31_0 := Zx31.out.c0; have zx31_1 := Zx31.out.c1; have zx31_2 := Zx31.out.c2; have zx31_3 := Zx31.out.c3; have zx31_f0 := Zx31.out.fz 0; have zx31_f1 := Zx31.out.fz 1; have zx31_f2 := Zx31.out.fz 2; have zx31_f3 := Zx31.out.fz 3; have zx31_l := Zx31.out.lt)); (try (have Zx32 : Hid (R4 24 vx3 vx2.heap.size 0 0 0 0) := (R4.new vx2 0 0 0 0 24).gr g3; have zx32_0 := Zx32.out.c0; have zx32_1 := Zx32.out.c1; have zx32_2 := Zx32.out.c2; have zx32_3 := Zx32.out.c3; have zx32_f0 := Zx32.out.fz 0; have zx32_f1 := Zx32.out.fz 1; have zx32_f2 := Zx32.out.fz 2; have zx32_f3 := Zx32.out.fz 3; have zx32_l := Zx32.out.lt)); clear g3))
    all_goals
      go_wp2_with fail
      go_meet
      first
        | exact ⟨rfl, rfl, _, rfl, Zx30.out.set _ _ _ _, HGx3.out.set4 (Nat.le_refl _) _ _ _ _⟩
        | exact ⟨rfl, rfl, _, rfl, Zx31.out.set _ _ _ _, HGx3.out.set4 (HGx1.out.size) _ _ _ _⟩
        | exact ⟨rfl, rfl, _, rfl, Zx32.out.set _ _ _ _, HGx3.out.set4 (HGx2.out.size) _ _ _ _⟩
        | exact ⟨rfl, rfl, _, rfl, R4.new _ _ _ _ _ _, HGx3.out.alloc _⟩
  case rest =>
    obtain ⟨rfl, rfl, P1, rfl, HP1, HGa⟩ := hcut
    clear RAz0 RAz1 RAz2 RAz3 RBz0 RBz1 RBz2 RBz3 RAzl RAzn RBzl RBzn
    have SA : Hid (R4 23 wc A ax ay aw ah) := RA.out.gr HGa.out
    have SB : Hid (R4 23 wc (A + 1) bx by_ bw bh) := RB.out.gr HGa.out
    have GW : Hid (Gr w wc) := G0.out.trans HGa.out
    obtain ⟨W1, hW1⟩ : ∃ z, wc = z := ⟨_, rfl⟩
    rw [hW1] at SA SB GW HP1
    rw [hW1]
    clear hW1 HGa RA RB G0
    go_wp2_with fail
    have SAz0 := SA.out.c0
    have SAz1 := SA.out.c1
    have SAz2 := SA.out.c2
    have SAz3 := SA.out.c3
    have SAzl := SA.out.lt
    have SAzn := Nat.ne_of_lt SA.out.lt
    have SBz0 := SB.out.c0
    have SBz1 := SB.out.c1
    have SBz2 := SB.out.c2
    have SBz3 := SB.out.c3
    have SBzl := SB.out.lt
    have SBzn := Nat.ne_of_lt SB.out.lt
    go_cut [4, 5, 9, 10] from 22 to 26 (fun u0_ u1_ u2_ pp wx => u0_ = .pointer (some ⟨A, 0, none⟩) ∧ u1_ = .pointer (some ⟨A + 1, 0, none⟩) ∧ u2_ = .pointer (some ⟨P1, 0, none⟩) ∧ ∃ P, pp = .pointer (some ⟨P, 0, none⟩) ∧ Hid (R4 24 wx P c0 c1 c2 c3) ∧ Hid (Gr W1 wx))
    case first =>
      go_region_with (first | (go_at_call 6; (with_reducible refine Calls.mono (TH2.out _) ?_); rintro e vy1 ⟨rfl, g1⟩; have HGy1 : Hid (Gr W1 vy1) := (by first | exact ((Gr.refl W1).drew).trans g1 | exact (((Gr.refl W1).alloc _).drew).trans g1); have HSAy1 : Hid (R4 23 vy1 (A) ax ay aw ah) := SA.out.gr HGy1.out; have say1c0 := HSAy1.out.c0; have say1c1 := HSAy1.out.c1; have say1c2 := HSAy1.out.c2; have say1c3 := HSAy1.out.c3; have say1l := HSAy1.out.lt; have say1n := Nat.ne_of_lt HSAy1.out.lt; have HSBy1 : Hid (R4 23 vy1 (A + 1) bx by_ bw bh) := SB.out.gr HGy1.out; have sby1c0 := HSBy1.out.c0; have sby1c1 := HSBy1.out.c1; have sby1c2 := HSBy1.out.c2; have sby1c3 := HSBy1.out.c3; have sby1l := HSBy1.out.lt; have sby1n := Nat.ne_of_lt HSBy1.out.lt; (try (have Zy10 : Hid (R4 24 vy1 W1.heap.size 0 0 0 0) := ((R4.new W1 0 0 0 0 24).gr ((Gr.refl _).drew)).gr g1; have zy10_0 := Zy10.out.c0; have zy10_1 := Zy10.out.c1; have zy10_2 := Zy10.out.c2; have zy10_3 := Zy10.out.c3; have zy10_f0 := Zy10.out.fz 0; have zy10_f1 := Zy10.out.fz 1; have zy10_f2 := Zy10.out.fz 2; have zy10_f3 := Zy10.out.fz 3; have zy10_l := Zy10.out.lt)); clear g1) | (go_at_call 6; (with_reducible refine Calls.mono (TH1.out _) ?_); rintro e vy2 ⟨rfl, g2⟩; have HGy2 : Hid (Gr W1 vy2) := (by first | exact HGy1.out.trans g2 | exact (HGy1.out.alloc _).trans g2); have HSAy2 : Hid (R4 23 vy2 (A) ax ay aw ah) := SA.out.gr HGy2.out; have say2c0 := HSAy2.out.c0; have say2c1 := HSAy2.out.c1; have say2c2 := HSAy2.out.c2; have say2c3 := HSAy2.out.c3; have say2l := HSAy2.out.lt; have say2n := Nat.ne_of_lt HSAy2.out.lt; have HSBy2 : Hid (R4 23 vy2 (A + 1) bx by_ bw bh) := SB.out.gr HGy2.out; have sby2c0 := HSBy2.out.c0; have sby2c1 := HSBy2.out.c1; have sby2c2 := HSBy2.out.c2; have sby2c3 := HSBy2.out.c3; have sby2l := HSBy2.out.lt; have sby2n := Nat.ne_of_lt HSBy2.out.lt; (try (have Zy20 : Hid (R4 24 vy2 W1.heap.size 0 0 0 0) := Zy10.out.gr g2; have zy20_0 := Zy20.out.c0; have zy20_1 := Zy20.out.c1; have zy20_2 := Zy20.out.c2; have zy20_3 := Zy20.out.c3; have zy20_f0 := Zy20.out.fz 0; have zy20_f1 := Zy20.out.fz 1; have zy20_f2 := Zy20.out.fz 2; have zy20_f3 := Zy20.out.fz 3; have zy20_l := Zy20.out.lt)); (try (have Zy21 : Hid (R4 24 vy2 vy1.heap.size 0 0 0 0) := (R4.new vy1 0 0 0 0 24).gr g2; have zy21_0 := Zy21.out.c0; have zy21_1 := Zy21.out.c1; have zy21_2 := Zy21.out.c2; have zy21_3 := Zy21.out.c3; have zy21_f0 := Zy21.out.fz 0; have zy21_f1 := Zy21.out.fz 1; have zy21_f2 := Zy21.out.fz 2; have zy21_f3 := Zy21.out.fz 3; have zy21_l := Zy21.out.lt)); clear g2) | (go_at_call 5; (with_reducible refine Calls.mono (CP2.out _) ?_); rintro e vy3 ⟨rfl, g3⟩; have HGy3 : Hid (Gr W1 vy3) := (by first | exact HGy2.out.trans g3 | exact (HGy2.out.alloc _).trans g3); have HSAy3 : Hid (R4 23 vy3 (A) ax ay aw ah) := SA.out.gr HGy3.out; have say3c0 := HSAy3.out.c0; have say3c1 := HSAy3.out.c1; have say3c2 := HSAy3.out.c2; have say3c3 := HSAy3.out.c3; have say3l := HSAy3.out.lt; have say3n := Nat.ne_of_lt HSAy3.out.lt; have HSBy3 : Hid (R4 23 vy3 (A + 1) bx by_ bw bh) := SB.out.gr HGy3.out; have sby3c0 := HSBy3.out.c0; have sby3c1 := HSBy3.out.c1; have sby3c2 := HSBy3.out.c2; have sby3c3 := HSBy3.out.c3; have sby3l := HSBy3.out.lt; have sby3n := Nat.ne_of_lt HSBy3.out.lt; (try (have Zy30 : Hid (R4 24 vy3 W1.heap.size 0 0 0 0) := Zy20.out.gr g3; have zy30_0 := Zy30.out.c0; have zy30_1 := Zy30.out.c1; have zy30_2 := Zy30.out.c2; have zy30_3 := Zy30.out.c3; have zy30_f0 := Zy30.out.fz 0; have zy30_f1 := Zy30.out.fz 1; have zy30_f2 := Zy30.out.fz 2; have zy30_f3 := Zy30.out.fz 3; have zy30_l := Zy30.out.lt)); (try (have Zy31 : Hid (R4 24 vy3 vy1.heap.size 0 0 0 0) := Zy21.out.gr g3; have zy31_0 := Zy31.out.c0; have zy31_1 := Zy31.out.c1; have zy31_2 := Zy31.out.c2; have zy31_3 := Zy31.out.c3; have zy31_f0 := Zy31.out.fz 0; have zy31_f1 := Zy31.out.fz 1; have zy31_f2 := Zy31.out.fz 2; have zy31_f3 := Zy31.out.fz 3; have zy31_l := Zy31.out.lt)); (try (have Zy32 : Hid (R4 24 vy3 vy2.heap.size 0 0 0 0) := (R4.new vy2 0 0 0 0 24).gr g3; have zy32_0 := Zy32.out.c0; have zy32_1 := Zy32.out.c1; have zy32_2 := Zy32.out.c2; have zy32_3 := Zy32.out.c3; have zy32_f0 := Zy32.out.fz 0; have zy32_f1 := Zy32.out.fz 1; have zy32_f2 := Zy32.out.fz 2; have zy32_f3 := Zy32.out.fz 3; have zy32_l := Zy32.out.lt)); clear g3))
      all_goals
        go_wp2_with fail
        go_meet
        first
          | exact ⟨rfl, rfl, rfl, _, rfl, Zy30.out.set _ _ _ _, HGy3.out.set4 (Nat.le_refl _) _ _ _ _⟩
          | exact ⟨rfl, rfl, rfl, _, rfl, Zy31.out.set _ _ _ _, HGy3.out.set4 (HGy1.out.size) _ _ _ _⟩
          | exact ⟨rfl, rfl, rfl, _, rfl, Zy32.out.set _ _ _ _, HGy3.out.set4 (HGy2.out.size) _ _ _ _⟩
          | exact ⟨rfl, rfl, rfl, _, rfl, R4.new _ _ _ _ _ _, HGy3.out.alloc _⟩
    case rest =>
      obtain ⟨rfl, rfl, rfl, P2, rfl, HP2, HGb⟩ := hcut
      clear SAz0 SAz1 SAz2 SAz3 SBz0 SBz1 SBz2 SBz3 SAzl SAzn SBzl SBzn
      have UA : Hid (R4 23 wc A ax ay aw ah) := SA.out.gr HGb.out
      have UB : Hid (R4 23 wc (A + 1) bx by_ bw bh) := SB.out.gr HGb.out
      have UC : Hid (R4 24 wc P1 c0 c1 c2 c3) := HP1.out.gr HGb.out
      have GX : Hid (Gr w wc) := GW.out.trans HGb.out
      obtain ⟨W2, hW2⟩ : ∃ z, wc = z := ⟨_, rfl⟩
      rw [hW2] at UA UB UC GX HP2
      rw [hW2]
      clear hW2 HGb SA SB GW HP1
      go_wp2_with fail
      have UBz0 := UB.out.c0
      have UBz1 := UB.out.c1
      have UBz2 := UB.out.c2
      have UBz3 := UB.out.c3
      have UBzl := UB.out.lt
      have UBzn := Nat.ne_of_lt UB.out.lt
      have UCz0 := UC.out.c0
      have UCz1 := UC.out.c1
      have UCz2 := UC.out.c2
      have UCz3 := UC.out.c3
      have UCzl := UC.out.lt
      have UCzn := Nat.ne_of_lt UC.out.lt
      go_cut [4, 5, 9, 10, 11] from 27 to 30 (fun u0_ u1_ u2_ u3_ pp wx => u0_ = .pointer (some ⟨A, 0, none⟩) ∧ u1_ = .pointer (some ⟨A + 1, 0, none⟩) ∧ u2_ = .pointer (some ⟨P1, 0, none⟩) ∧ u3_ = .pointer (some ⟨P2, 0, none⟩) ∧ ∃ P, pp = .pointer (some ⟨P, 0, none⟩) ∧ Hid (R4 24 wx P c0 c1 c2 c3) ∧ Hid (Gr W2 wx))
      case first =>
        go_region_with (first | (go_at_call 6; (with_reducible refine Calls.mono (TH2.out _) ?_); rintro e vz1 ⟨rfl, g1⟩; have HGz1 : Hid (Gr W2 vz1) := (by first | exact ((Gr.refl W2).drew).trans g1 | exact (((Gr.refl W2).alloc _).drew).trans g1); have HUBz1 : Hid (R4 23 vz1 (A + 1) bx by_ bw bh) := UB.out.gr HGz1.out; have ubz1c0 := HUBz1.out.c0; have ubz1c1 := HUBz1.out.c1; have ubz1c2 := HUBz1.out.c2; have ubz1c3 := HUBz1.out.c3; have ubz1l := HUBz1.out.lt; have ubz1n := Nat.ne_of_lt HUBz1.out.lt; have HUCz1 : Hid (R4 24 vz1 (P1) c0 c1 c2 c3) := UC.out.gr HGz1.out; have ucz1c0 := HUCz1.out.c0; have ucz1c1 := HUCz1.out.c1; have ucz1c2 := HUCz1.out.c2; have ucz1c3 := HUCz1.out.c3; have ucz1l := HUCz1.out.lt; have ucz1n := Nat.ne_of_lt HUCz1.out.lt; (try (have Zz10 : Hid (R4 24 vz1 W2.heap.size 0 0 0 0) := ((R4.new W2 0 0 0 0 24).gr ((Gr.refl _).drew)).gr g1; have zz10_0 := Zz10.out.c0; have zz10_1 := Zz10.out.c1; have zz10_2 := Zz10.out.c2; have zz10_3 := Zz10.out.c3; have zz10_f0 := Zz10.out.fz 0; have zz10_f1 := Zz10.out.fz 1; have zz10_f2 := Zz10.out.fz 2; have zz10_f3 := Zz10.out.fz 3; have zz10_l := Zz10.out.lt)); clear g1) | (go_at_call 5; (with_reducible refine Calls.mono (CP3.out _) ?_); rintro e vz2 ⟨rfl, g2⟩; have HGz2 : Hid (Gr W2 vz2) := (by first | exact HGz1.out.trans g2 | exact (HGz1.out.alloc _).trans g2); have HUBz2 : Hid (R4 23 vz2 (A + 1) bx by_ bw bh) := UB.out.gr HGz2.out; have ubz2c0 := HUBz2.out.c0; have ubz2c1 := HUBz2.out.c1; have ubz2c2 := HUBz2.out.c2; have ubz2c3 := HUBz2.out.c3; have ubz2l := HUBz2.out.lt; have ubz2n := Nat.ne_of_lt HUBz2.out.lt; have HUCz2 : Hid (R4 24 vz2 (P1) c0 c1 c2 c3) := UC.out.gr HGz2.out; have ucz2c0 := HUCz2.out.c0; have ucz2c1 := HUCz2.out.c1; have ucz2c2 := HUCz2.out.c2; have ucz2c3 := HUCz2.out.c3; have ucz2l := HUCz2.out.lt; have ucz2n := Nat.ne_of_lt HUCz2.out.lt; (try (have Zz20 : Hid (R4 24 vz2 W2.heap.size 0 0 0 0) := Zz10.out.gr g2; have zz20_0 := Zz20.out.c0; have zz20_1 := Zz20.out.c1; have zz20_2 := Zz20.out.c2; have zz20_3 := Zz20.out.c3; have zz20_f0 := Zz20.out.fz 0; have zz20_f1 := Zz20.out.fz 1; have zz20_f2 := Zz20.out.fz 2; have zz20_f3 := Zz20.out.fz 3; have zz20_l := Zz20.out.lt)); (try (have Zz21 : Hid (R4 24 vz2 vz1.heap.size 0 0 0 0) := (R4.new vz1 0 0 0 0 24).gr g2; have zz21_0 := Zz21.out.c0; have zz21_1 := Zz21.out.c1; have zz21_2 := Zz21.out.c2; have zz21_3 := Zz21.out.c3; have zz21_f0 := Zz21.out.fz 0; have zz21_f1 := Zz21.out.fz 1; have zz21_f2 := Zz21.out.fz 2; have zz21_f3 := Zz21.out.fz 3; have zz21_l := Zz21.out.lt)); clear g2))
        all_goals
          go_wp2_with fail
          go_meet
          first
            | exact ⟨rfl, rfl, rfl, rfl, _, rfl, Zz20.out.set _ _ _ _, HGz2.out.set4 (Nat.le_refl _) _ _ _ _⟩
            | exact ⟨rfl, rfl, rfl, rfl, _, rfl, Zz21.out.set _ _ _ _, HGz2.out.set4 (HGz1.out.size) _ _ _ _⟩
            | exact ⟨rfl, rfl, rfl, rfl, _, rfl, R4.new _ _ _ _ _ _, HGz2.out.alloc _⟩
      case rest =>
        obtain ⟨rfl, rfl, rfl, rfl, P3, rfl, HP3, HGc⟩ := hcut
        clear UBz0 UBz1 UBz2 UBz3 UCz0 UCz1 UCz2 UCz3 UBzl UBzn UCzl UCzn
        have VA : Hid (R4 23 wc A ax ay aw ah) := UA.out.gr HGc.out
        have VB : Hid (R4 23 wc (A + 1) bx by_ bw bh) := UB.out.gr HGc.out
        have V1 : Hid (R4 24 wc P1 c0 c1 c2 c3) := UC.out.gr HGc.out
        have V2 : Hid (R4 24 wc P2 c0 c1 c2 c3) := HP2.out.gr HGc.out
        have GY : Hid (Gr w wc) := GX.out.trans HGc.out
        clear HGc UA UB UC GX HP2
        have l00 := VA.out.c0
        have l01 := VA.out.c1
        have l02 := VA.out.c2
        have l03 := VA.out.c3
        go_wp2_with fail
        refine (TH1.out _).mono ?_
        rintro e s1 ⟨rfl, t1⟩
        have VA_1 : Hid (R4 23 s1 (A) ax ay aw ah) := VA.out.gr t1
        have VB_1 : Hid (R4 23 s1 (A + 1) bx by_ bw bh) := VB.out.gr t1
        have V1_1 : Hid (R4 24 s1 (P1) c0 c1 c2 c3) := V1.out.gr t1
        have V2_1 : Hid (R4 24 s1 (P2) c0 c1 c2 c3) := V2.out.gr t1
        have HP3_1 : Hid (R4 24 s1 (P3) c0 c1 c2 c3) := HP3.out.gr t1
        have GZ_1 : Hid (Gr w s1) := GY.out.trans t1
        clear t1 VA VB V1 V2 HP3 GY l00 l01 l02 l03
        go_wp2_with fail
        refine (CH1.out _).mono ?_
        rintro e s2 ⟨rfl, t2⟩
        have VA_2 : Hid (R4 23 s2 (A) ax ay aw ah) := VA_1.out.gr t2
        have VB_2 : Hid (R4 23 s2 (A + 1) bx by_ bw bh) := VB_1.out.gr t2
        have V1_2 : Hid (R4 24 s2 (P1) c0 c1 c2 c3) := V1_1.out.gr t2
        have V2_2 : Hid (R4 24 s2 (P2) c0 c1 c2 c3) := V2_1.out.gr t2
        have HP3_2 : Hid (R4 24 s2 (P3) c0 c1 c2 c3) := HP3_1.out.gr t2
        have GZ_2 : Hid (Gr w s2) := GZ_1.out.trans t2
        clear t2 VA_1 VB_1 V1_1 V2_1 HP3_1 GZ_1 
        have l00 := VB_2.out.c0
        have l01 := VB_2.out.c1
        have l02 := VB_2.out.c2
        have l03 := VB_2.out.c3
        go_wp2_with fail
        refine (TH2.out _).mono ?_
        rintro e s3 ⟨rfl, t3⟩
        have VA_3 : Hid (R4 23 s3 (A) ax ay aw ah) := VA_2.out.gr t3
        have VB_3 : Hid (R4 23 s3 (A + 1) bx by_ bw bh) := VB_2.out.gr t3
        have V1_3 : Hid (R4 24 s3 (P1) c0 c1 c2 c3) := V1_2.out.gr t3
        have V2_3 : Hid (R4 24 s3 (P2) c0 c1 c2 c3) := V2_2.out.gr t3
        have HP3_3 : Hid (R4 24 s3 (P3) c0 c1 c2 c3) := HP3_2.out.gr t3
        have GZ_3 : Hid (Gr w s3) := GZ_2.out.trans t3
        clear t3 VA_2 VB_2 V1_2 V2_2 HP3_2 GZ_2 l00 l01 l02 l03
        go_wp2_with fail
        refine (CH2.out _).mono ?_
        rintro e s4 ⟨rfl, t4⟩
        have VA_4 : Hid (R4 23 s4 (A) ax ay aw ah) := VA_3.out.gr t4
        have VB_4 : Hid (R4 23 s4 (A + 1) bx by_ bw bh) := VB_3.out.gr t4
        have V1_4 : Hid (R4 24 s4 (P1) c0 c1 c2 c3) := V1_3.out.gr t4
        have V2_4 : Hid (R4 24 s4 (P2) c0 c1 c2 c3) := V2_3.out.gr t4
        have HP3_4 : Hid (R4 24 s4 (P3) c0 c1 c2 c3) := HP3_3.out.gr t4
        have GZ_4 : Hid (Gr w s4) := GZ_3.out.trans t4
        clear t4 VA_3 VB_3 V1_3 V2_3 HP3_3 GZ_3 
        have l00 := V1_4.out.c0
        have l01 := V1_4.out.c1
        have l02 := V1_4.out.c2
        have l03 := V1_4.out.c3
        go_wp2_with fail
        refine (CH3.out _).mono ?_
        rintro e s5 ⟨rfl, t5⟩
        have VA_5 : Hid (R4 23 s5 (A) ax ay aw ah) := VA_4.out.gr t5
        have VB_5 : Hid (R4 23 s5 (A + 1) bx by_ bw bh) := VB_4.out.gr t5
        have V1_5 : Hid (R4 24 s5 (P1) c0 c1 c2 c3) := V1_4.out.gr t5
        have V2_5 : Hid (R4 24 s5 (P2) c0 c1 c2 c3) := V2_4.out.gr t5
        have HP3_5 : Hid (R4 24 s5 (P3) c0 c1 c2 c3) := HP3_4.out.gr t5
        have GZ_5 : Hid (Gr w s5) := GZ_4.out.trans t5
        clear t5 VA_4 VB_4 V1_4 V2_4 HP3_4 GZ_4 l00 l01 l02 l03
        have l00 := VA_5.out.c0
        have l01 := VA_5.out.c1
        have l02 := VA_5.out.c2
        have l03 := VA_5.out.c3
        go_wp2_with fail
        refine (RH.out _).mono ?_
        rintro e s6 ⟨rfl, t6⟩
        have VA_6 : Hid (R4 23 s6 (A) ax ay aw ah) := VA_5.out.gr t6
        have VB_6 : Hid (R4 23 s6 (A + 1) bx by_ bw bh) := VB_5.out.gr t6
        have V1_6 : Hid (R4 24 s6 (P1) c0 c1 c2 c3) := V1_5.out.gr t6
        have V2_6 : Hid (R4 24 s6 (P2) c0 c1 c2 c3) := V2_5.out.gr t6
        have HP3_6 : Hid (R4 24 s6 (P3) c0 c1 c2 c3) := HP3_5.out.gr t6
        have GZ_6 : Hid (Gr w s6) := GZ_5.out.trans t6
        clear t6 VA_5 VB_5 V1_5 V2_5 HP3_5 GZ_5 l00 l01 l02 l03
        have a0 : ∀ n' os', (grow (s6.drewN n') os').cell? ⟨A, 0, none⟩ = some (.int .i64 ax) := cell_grown VA_6.out.lt VA_6.out.c0
        have a1 : ∀ n' os', (grow (s6.drewN n') os').cell? ⟨A, 1, none⟩ = some (.int .i64 ay) := cell_grown VA_6.out.lt VA_6.out.c1
        have a2 : ∀ n' os', (grow (s6.drewN n') os').cell? ⟨A, 2, none⟩ = some (.int .i64 aw) := cell_grown VA_6.out.lt VA_6.out.c2
        have a3 : ∀ n' os', (grow (s6.drewN n') os').cell? ⟨A, 3, none⟩ = some (.int .i64 ah) := cell_grown VA_6.out.lt VA_6.out.c3
        go_wp2_with fail
        have hmix : Try.prog.follows .mixedOrders = true := by kernel_rfl
        go_quiet_grown (first | (go_at_call 6; exact Calls.grown_of (TH1.out _)) | (go_at_call 8; exact Calls.grown_of (CH4.out _)))
        clear a0 a1 a2 a3
        have HF : Hid (Gr w (grow (s6.drewN nq) osq)) := GZ_6.out.trans ⟨nq, osq, rfl⟩
        have K1 : Hid (R4 24 (grow (s6.drewN nq) osq) P1 c0 c1 c2 c3) := V1_6.out.gr ⟨nq, osq, rfl⟩
        have K2 : Hid (R4 24 (grow (s6.drewN nq) osq) P2 c0 c1 c2 c3) := V2_6.out.gr ⟨nq, osq, rfl⟩
        have K3 : Hid (R4 24 (grow (s6.drewN nq) osq) P3 c0 c1 c2 c3) := HP3_6.out.gr ⟨nq, osq, rfl⟩
        generalize grow (s6.drewN nq) osq = wf at HF K1 K2 K3 ⊢
        have k10 := K1.out.c0
        have k11 := K1.out.c1
        have k12 := K1.out.c2
        have k13 := K1.out.c3
        have k20 := K2.out.c0
        have k21 := K2.out.c1
        have k22 := K2.out.c2
        have k23 := K2.out.c3
        have k30 := K3.out.c0
        have k31 := K3.out.c1
        have k32 := K3.out.c2
        have k33 := K3.out.c3
        cases p <;> cases q
        all_goals
          go_wp2
          go_ret
          exact ⟨rfl, HF.out⟩

end Go.Proofs.Ytfgimgabhhacmae
