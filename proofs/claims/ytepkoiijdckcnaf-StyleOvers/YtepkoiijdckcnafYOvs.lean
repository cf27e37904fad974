/-
  StyleOvers, walked.
-/
import Derived.Test.YtepkoiijdckcnafYOvr
namespace Go.Proofs.Ytepkoiijdckcnaf
open Go.RowKit Go.Sort
set_option linter.unusedVariables false

set_option maxRecDepth 100000 in
set_option maxHeartbeats 4000000 in
theorem overs_walk (f g b f2 g2 b2 : Int) (w : World) : Calls Try.prog 3 #[sv f g b, sv f2 g2 b2] w fun e w' => e = .returned (.bool true) ∧ Gr w w' := by
  obtain ⟨c0, hc0⟩ : ∃ z, ov f f2 = z := ⟨_, rfl⟩
  obtain ⟨c1, hc1⟩ : ∃ z, ov g g2 = z := ⟨_, rfl⟩
  obtain ⟨c2, hc2⟩ : ∃ z, obo b b2 = z := ⟨_, rfl⟩
  have LA : Hid (∀ w, Calls Try.prog 5 #[sv f g b] w fun e w' => e = .returned (sv f g b) ∧ Gr w w') := fun w => look_any _ _ _ w
  have LB : Hid (∀ w, Calls Try.prog 5 #[sv f2 g2 b2] w fun e w' => e = .returned (sv f2 g2 b2) ∧ Gr w w') := fun w => look_any _ _ _ w
  have LC : Hid (∀ w, Calls Try.prog 5 #[sv c0 c1 c2] w fun e w' => e = .returned (sv c0 c1 c2) ∧ Gr w w') := fun w => look_any _ _ _ w
  have OV : Hid (∀ w, Calls Try.prog 4 #[sv f g b, sv f2 g2 b2] w fun e w' => e = .returned (sv c0 c1 c2) ∧ Gr w w') := fun w => by have := over_any f g b f2 g2 b2 w; rw [hc0, hc1, hc2] at this; exact this
  have RO : Hid (∀ w, Calls Try.prog 6 #[sv f g b, sv f2 g2 b2] w fun e w' => e = .returned (sv c0 c1 c2) ∧ Gr w w') := fun w => by have := rOver_any f g b f2 g2 b2 w; rw [hc0, hc1, hc2] at this; exact this
  clear hc0 hc1 hc2
  unfold sv at LA LB LC OV RO ⊢
  go_enter Try.func3, Try.ntmps3
  go_wp2_with fail
  obtain ⟨S, hS⟩ : ∃ z, w.heap.size = z := ⟨_, rfl⟩
  obtain ⟨W0, hW0⟩ : ∃ z, ((w.alloc (.cells #[.int .i64 f, .int .i64 g, .int .i64 b] 23)).alloc (.cells #[.int .i64 f2, .int .i64 g2, .int .i64 b2] 23)) = z := ⟨_, rfl⟩
  have G0 : Hid (Gr w W0) := by rw [← hW0]; exact ((Gr.refl w).alloc _).alloc _
  have RB0 : Hid (R3 23 W0 (S) f g b) := by
    have := R3.new w f g b 23
    (try simp only [World.size_alloc] at this)
    rw [hS] at this
    rw [← hW0]; exact this.gr ((Gr.refl _).alloc _)
  have RB1 : Hid (R3 23 W0 (S + 1) f2 g2 b2) := by
    have := R3.new (w.alloc (.cells #[.int .i64 f, .int .i64 g, .int .i64 b] 23)) f2 g2 b2 23
    (try simp only [World.size_alloc] at this)
    rw [hS] at this
    rw [← hW0]; exact this
  rw [hW0, hS]
  clear hW0
  have HS : Hid (w.heap.size = S) := hS
  clear hS
  have b0_0 := RB0.out.c0
  have b0_1 := RB0.out.c1
  have b0_2 := RB0.out.c2
  have bl0 := RB0.out.lt
  have b1_0 := RB1.out.c0
  have b1_1 := RB1.out.c1
  have b1_2 := RB1.out.c2
  have bl1 := RB1.out.lt
  go_cut [2, 3, 5] from 6 to 10 (fun u v p wx => u = .pointer (some ⟨S, 0, none⟩) ∧ v = .pointer (some ⟨S + 1, 0, none⟩) ∧ ∃ P, p = .pointer (some ⟨P, 0, none⟩) ∧ Hid (R3 24 wx P c0 c1 c2) ∧ Hid (Gr W0 wx))
  case first =>
    go_region_held (fun W => W.cell? ⟨S, 0, none⟩ = some (.int .i64 f) ∧ W.cell? ⟨S, 1, none⟩ = some (.int .i64 g) ∧ W.cell? ⟨S, 2, none⟩ = some (.int .i64 b) ∧ W.cell? ⟨S + 1, 0, none⟩ = some (.int .i64 f2) ∧ W.cell? ⟨S + 1, 1, none⟩ = some (.int .i64 g2) ∧ W.cell? ⟨S + 1, 2, none⟩ = some (.int .i64 b2)) (first | go_keep | exact ⟨(HB0_3.out.others (Nat.ne_of_lt (by first | assumption | exact Nat.lt_of_lt_of_le bl0 (Nat.le_refl _))) _ _ _).c0, (HB0_3.out.others (Nat.ne_of_lt (by first | assumption | exact Nat.lt_of_lt_of_le bl0 (Nat.le_refl _))) _ _ _).c1, (HB0_3.out.others (Nat.ne_of_lt (by first | assumption | exact Nat.lt_of_lt_of_le bl0 (Nat.le_refl _))) _ _ _).c2, (HB1_3.out.others (Nat.ne_of_lt (by first | assumption | exact Nat.lt_of_lt_of_le bl1 (Nat.le_refl _))) _ _ _).c0, (HB1_3.out.others (Nat.ne_of_lt (by first | assumption | exact Nat.lt_of_lt_of_le bl1 (Nat.le_refl _))) _ _ _).c1, (HB1_3.out.others (Nat.ne_of_lt (by first | assumption | exact Nat.lt_of_lt_of_le bl1 (Nat.le_refl _))) _ _ _).c2⟩) (first | (go_at_call 5; (with_reducible refine Calls.mono (LA.out _) ?_); rintro e w1 ⟨rfl, gq1⟩; have HG1 : Hid (Gr W0 w1) := (by first | exact ((Gr.refl W0).drew).trans gq1 | exact (((Gr.refl W0).alloc _).drew).trans gq1 | exact (((Gr.refl W0).drew).alloc _).trans gq1); have HB0_1 : Hid (R3 23 w1 S f g b) := RB0.out.gr HG1.out; have m0_1_0 := HB0_1.out.c0; have m0_1_1 := HB0_1.out.c1; have m0_1_2 := HB0_1.out.c2; have l0_1 := HB0_1.out.lt; have HB1_1 : Hid (R3 23 w1 (S + 1) f2 g2 b2) := RB1.out.gr HG1.out; have m1_1_0 := HB1_1.out.c0; have m1_1_1 := HB1_1.out.c1; have m1_1_2 := HB1_1.out.c2; have l1_1 := HB1_1.out.lt; (first | (have Z1 : Hid (R3 24 w1 _ 0 0 0) := (R3.new _ 0 0 0 24).gr gq1; have z1_0 := Z1.out.c0; have y1_0 := Z1.out.fz 0; have z1_1 := Z1.out.c1; have y1_1 := Z1.out.fz 1; have z1_2 := Z1.out.c2; have y1_2 := Z1.out.fz 2; have x1 := Z1.out.lt) | (have Z1 : Hid (R3 24 w1 _ 0 0 0) := ((R3.new _ 0 0 0 24).gr ((Gr.refl _).drew)).gr gq1; have z1_0 := Z1.out.c0; have y1_0 := Z1.out.fz 0; have z1_1 := Z1.out.c1; have y1_1 := Z1.out.fz 1; have z1_2 := Z1.out.c2; have y1_2 := Z1.out.fz 2; have x1 := Z1.out.lt) | skip); clear gq1) | (go_at_call 5; (with_reducible refine Calls.mono (LB.out _) ?_); rintro e w2 ⟨rfl, gq2⟩; have HG2 : Hid (Gr W0 w2) := (by first | exact HG1.out.trans gq2 | exact (HG1.out.alloc _).trans gq2); have HB0_2 : Hid (R3 23 w2 S f g b) := RB0.out.gr HG2.out; have m0_2_0 := HB0_2.out.c0; have m0_2_1 := HB0_2.out.c1; have m0_2_2 := HB0_2.out.c2; have l0_2 := HB0_2.out.lt; have HB1_2 : Hid (R3 23 w2 (S + 1) f2 g2 b2) := RB1.out.gr HG2.out; have m1_2_0 := HB1_2.out.c0; have m1_2_1 := HB1_2.out.c1; have m1_2_2 := HB1_2.out.c2; have l1_2 := HB1_2.out.lt; (first | (have Z2 : Hid (R3 24 w2 _ 0 0 0) := Z1.out.gr gq2; have z2_0 := Z2.out.c0; have y2_0 := Z2.out.fz 0; have z2_1 := Z2.out.c1; have y2_1 := Z2.out.fz 1; have z2_2 := Z2.out.c2; have y2_2 := Z2.out.fz 2; have x2 := Z2.out.lt) | (have Z2 : Hid (R3 24 w2 _ 0 0 0) := (R3.new _ 0 0 0 24).gr gq2; have z2_0 := Z2.out.c0; have y2_0 := Z2.out.fz 0; have z2_1 := Z2.out.c1; have y2_1 := Z2.out.fz 1; have z2_2 := Z2.out.c2; have y2_2 := Z2.out.fz 2; have x2 := Z2.out.lt) | skip); clear gq2) | (go_at_call 4; (with_reducible refine Calls.mono (OV.out _) ?_); rintro e w3 ⟨rfl, gq3⟩; have HG3 : Hid (Gr W0 w3) := (by first | exact HG2.out.trans gq3 | exact (HG2.out.alloc _).trans gq3); have HB0_3 : Hid (R3 23 w3 S f g b) := RB0.out.gr HG3.out; have m0_3_0 := HB0_3.out.c0; have m0_3_1 := HB0_3.out.c1; have m0_3_2 := HB0_3.out.c2; have l0_3 := HB0_3.out.lt; have HB1_3 : Hid (R3 23 w3 (S + 1) f2 g2 b2) := RB1.out.gr HG3.out; have m1_3_0 := HB1_3.out.c0; have m1_3_1 := HB1_3.out.c1; have m1_3_2 := HB1_3.out.c2; have l1_3 := HB1_3.out.lt; (first | (have Z3 : Hid (R3 24 w3 _ 0 0 0) := Z2.out.gr gq3; have z3_0 := Z3.out.c0; have y3_0 := Z3.out.fz 0; have z3_1 := Z3.out.c1; have y3_1 := Z3.out.fz 1; have z3_2 := Z3.out.c2; have y3_2 := Z3.out.fz 2; have x3 := Z3.out.lt) | (have Z3 : Hid (R3 24 w3 _ 0 0 0) := Z1.out.gr gq3; have z3_0 := Z3.out.c0; have y3_0 := Z3.out.fz 0; have z3_1 := Z3.out.c1; have y3_1 := Z3.out.fz 1; have z3_2 := Z3.out.c2; have y3_2 := Z3.out.fz 2; have x3 := Z3.out.lt) | (have Z3 : Hid (R3 24 w3 _ 0 0 0) := (R3.new _ 0 0 0 24).gr gq3; have z3_0 := Z3.out.c0; have y3_0 := Z3.out.fz 0; have z3_1 := Z3.out.c1; have y3_1 := Z3.out.fz 1; have z3_2 := Z3.out.c2; have y3_2 := Z3.out.fz 2; have x3 := Z3.out.lt) | skip); clear gq3))
    all_goals
      go_wp2_with fail
      go_meet
      first
        | exact ⟨rfl, rfl, _, rfl, Z3.out.set _ _ _, HG3.out.set3 (Nat.le_refl _) _ _ _⟩
        | exact ⟨rfl, rfl, _, rfl, Z3.out.set _ _ _, HG3.out.set3 HG1.out.size _ _ _⟩
        | exact ⟨rfl, rfl, _, rfl, Z3.out.set _ _ _, HG3.out.set3 HG2.out.size _ _ _⟩
        | exact ⟨rfl, rfl, _, rfl, Z3.out.set _ _ _, HG3.out.set3 HG3.out.size _ _ _⟩
        | exact ⟨rfl, rfl, _, rfl, R3.new _ _ _ _ _, HG3.out.alloc _⟩
  case rest =>
    obtain ⟨rfl, rfl, P, rfl, HP, HG⟩ := hcut
    have RA1 := RB0.out.gr HG.out
    have RB1 := RB1.out.gr HG.out
    have a0 : ∀ n' os', (grow (wc.drewN n') os').cell? ⟨S, 0, none⟩ = some (.int .i64 f) := cell_grown RA1.lt RA1.c0
    have a1 : ∀ n' os', (grow (wc.drewN n') os').cell? ⟨S, 1, none⟩ = some (.int .i64 g) := cell_grown RA1.lt RA1.c1
    have a2 : ∀ n' os', (grow (wc.drewN n') os').cell? ⟨S, 2, none⟩ = some (.int .i64 b) := cell_grown RA1.lt RA1.c2
    have d0 : ∀ n' os', (grow (wc.drewN n') os').cell? ⟨S + 1, 0, none⟩ = some (.int .i64 f2) := cell_grown RB1.lt RB1.c0
    have d1 : ∀ n' os', (grow (wc.drewN n') os').cell? ⟨S + 1, 1, none⟩ = some (.int .i64 g2) := cell_grown RB1.lt RB1.c1
    have d2 : ∀ n' os', (grow (wc.drewN n') os').cell? ⟨S + 1, 2, none⟩ = some (.int .i64 b2) := cell_grown RB1.lt RB1.c2
    have p0 : ∀ n' os', (grow (wc.drewN n') os').cell? ⟨P, 0, none⟩ = some (.int .i64 c0) := cell_grown HP.out.lt HP.out.c0
    have p1 : ∀ n' os', (grow (wc.drewN n') os').cell? ⟨P, 1, none⟩ = some (.int .i64 c1) := cell_grown HP.out.lt HP.out.c1
    have p2 : ∀ n' os', (grow (wc.drewN n') os').cell? ⟨P, 2, none⟩ = some (.int .i64 c2) := cell_grown HP.out.lt HP.out.c2
    go_wp2_with fail
    have hmix : Try.prog.follows .mixedOrders = true := by kernel_rfl
    go_quiet_grown (first | (go_at_call 6; exact Calls.grown_of (RO.out _)) | (go_at_call 5; exact Calls.grown_of (LC.out _)))
    have HF : Hid (Gr w (grow (wc.drewN nq) osq)) := (G0.out.trans HG.out).trans ⟨nq, osq, rfl⟩
    go_wp2
    go_ret
    exact ⟨rfl, HF.out⟩

end Go.Proofs.Ytepkoiijdckcnaf
