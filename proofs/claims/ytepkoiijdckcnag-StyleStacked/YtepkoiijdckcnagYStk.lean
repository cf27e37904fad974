/-
  StyleStacked, walked.
-/
import Derived.Test.YtepkoiijdckcnagYOver
namespace Go.Proofs.Ytepkoiijdckcnag
open Go.RowKit Go.Sort
set_option linter.unusedVariables false

set_option maxRecDepth 100000 in
set_option maxHeartbeats 8000000 in
theorem stacked_walk (f g b f2 g2 b2 f3 g3 b3 : Int) (w : World) : Calls Try.prog 4 #[sv f g b, sv f2 g2 b2, sv f3 g3 b3] w fun e w' => e = .returned (.bool true) ∧ Gr w w' := by
  obtain ⟨p0, hp0⟩ : ∃ z, ov f f2 = z := ⟨_, rfl⟩
  obtain ⟨p1, hp1⟩ : ∃ z, ov g g2 = z := ⟨_, rfl⟩
  obtain ⟨p2, hp2⟩ : ∃ z, obo b b2 = z := ⟨_, rfl⟩
  obtain ⟨q0, hq0⟩ : ∃ z, ov f2 f3 = z := ⟨_, rfl⟩
  obtain ⟨q1, hq1⟩ : ∃ z, ov g2 g3 = z := ⟨_, rfl⟩
  obtain ⟨q2, hq2⟩ : ∃ z, obo b2 b3 = z := ⟨_, rfl⟩
  obtain ⟨r0, hr0⟩ : ∃ z, ov (ov f f2) f3 = z := ⟨_, rfl⟩
  obtain ⟨r1, hr1⟩ : ∃ z, ov (ov g g2) g3 = z := ⟨_, rfl⟩
  obtain ⟨r2, hr2⟩ : ∃ z, obo (obo b b2) b3 = z := ⟨_, rfl⟩
  have LA : Hid (∀ w, Calls Try.prog 9 #[sv f g b] w fun e w' => e = .returned (sv f g b) ∧ Gr w w') := fun w => look_any _ _ _ w
  have LB : Hid (∀ w, Calls Try.prog 9 #[sv f2 g2 b2] w fun e w' => e = .returned (sv f2 g2 b2) ∧ Gr w w') := fun w => look_any _ _ _ w
  have LC : Hid (∀ w, Calls Try.prog 9 #[sv f3 g3 b3] w fun e w' => e = .returned (sv f3 g3 b3) ∧ Gr w w') := fun w => look_any _ _ _ w
  have OAB : Hid (∀ w, Calls Try.prog 12 #[sv f g b, sv f2 g2 b2] w fun e w' => e = .returned (sv p0 p1 p2) ∧ Gr w w') := fun w => by have := over_any f g b f2 g2 b2 w; rw [hp0, hp1, hp2] at this; exact this
  have OBC : Hid (∀ w, Calls Try.prog 12 #[sv f2 g2 b2, sv f3 g3 b3] w fun e w' => e = .returned (sv q0 q1 q2) ∧ Gr w w') := fun w => by have := over_any f2 g2 b2 f3 g3 b3 w; rw [hq0, hq1, hq2] at this; exact this
  have OPC : Hid (∀ w, Calls Try.prog 12 #[sv p0 p1 p2, sv f3 g3 b3] w fun e w' => e = .returned (sv r0 r1 r2) ∧ Gr w w') := fun w => by have := over_any p0 p1 p2 f3 g3 b3 w; rw [← hp0, ← hp1, ← hp2, hr0, hr1, hr2] at this; rw [hp0, hp1, hp2] at this; exact this
  have OAQ : Hid (∀ w, Calls Try.prog 12 #[sv f g b, sv q0 q1 q2] w fun e w' => e = .returned (sv r0 r1 r2) ∧ Gr w w') := fun w => by have := over_any f g b q0 q1 q2 w; rw [← hq0, ← hq1, ← hq2, ← ov_ov, ← ov_ov, ← obo_obo, hr0, hr1, hr2] at this; rw [hq0, hq1, hq2] at this; exact this
  have OAK : Hid (∀ w, Calls Try.prog 12 #[sv f g b, sv 3 4 1] w fun e w' => e = .returned (sv 3 4 1) ∧ Gr w w') := fun w => by have := over_any f g b 3 4 1 w; rw [ov_one f (by decide), ov_one g (by decide), obo_one b] at this; exact this
  clear hp0 hp1 hp2 hq0 hq1 hq2 hr0 hr1 hr2
  unfold sv at LA LB LC OAB OBC OPC OAQ OAK ⊢
  go_enter Try.func4, Try.ntmps4
  go_wp2_with fail
  obtain ⟨S, hS⟩ : ∃ z, w.heap.size = z := ⟨_, rfl⟩
  obtain ⟨W0, hW0⟩ : ∃ z, (((w.alloc (.cells #[.int .i64 f, .int .i64 g, .int .i64 b] 23)).alloc (.cells #[.int .i64 f2, .int .i64 g2, .int .i64 b2] 23)).alloc (.cells #[.int .i64 f3, .int .i64 g3, .int .i64 b3] 23)) = z := ⟨_, rfl⟩
  have G0 : Hid (Gr w W0) := by rw [← hW0]; exact (((Gr.refl w).alloc _).alloc _).alloc _
  have RB0 : Hid (R3 23 W0 (S) f g b) := by
    have := R3.new w f g b 23
    (try simp only [World.size_alloc] at this)
    rw [hS] at this
    rw [← hW0]; exact this.gr (((Gr.refl _).alloc _).alloc _)
  have RB1 : Hid (R3 23 W0 (S + 1) f2 g2 b2) := by
    have := R3.new (w.alloc (.cells #[.int .i64 f, .int .i64 g, .int .i64 b] 23)) f2 g2 b2 23
    (try simp only [World.size_alloc] at this)
    rw [hS] at this
    rw [← hW0]; exact this.gr ((Gr.refl _).alloc _)
  have RB2 : Hid (R3 23 W0 (S + 1 + 1) f3 g3 b3) := by
    have := R3.new ((w.alloc (.cells #[.int .i64 f, .int .i64 g, .int .i64 b] 23)).alloc (.cells #[.int .i64 f2, .int .i64 g2, .int .i64 b2] 23)) f3 g3 b3 23
    (try simp only [World.size_alloc] at this)
    rw [hS] at this
    rw [← hW0]; exact this
  rw [hW0, hS]
  clear hW0
  have HS : Hid (w.heap.size = S) := hS
  clear hS
  have b0_0 := RB0.out.c0
  have b0_1 := RB0.out.c1
  have b0_2 := RB0.out.c2
  have bl0 := RB0.out.lt
  have b1_0 := RB1.out.c0
  have b1_1 := RB1.out.c1
  have b1_2 := RB1.out.c2
  have bl1 := RB1.out.lt
  have b2_0 := RB2.out.c0
  have b2_1 := RB2.out.c1
  have b2_2 := RB2.out.c2
  have bl2 := RB2.out.lt
  go_cut [3, 4, 5, 7] from 10 to 17 (fun u v t p wx => u = .pointer (some ⟨S, 0, none⟩) ∧ v = .pointer (some ⟨S + 1, 0, none⟩) ∧ t = .pointer (some ⟨S + 1 + 1, 0, none⟩) ∧ ∃ P, p = .pointer (some ⟨P, 0, none⟩) ∧ Hid (R3 25 wx P r0 r1 r2) ∧ Hid (Gr W0 wx))
  case first =>
    go_region_held (fun W => W.cell? ⟨S, 0, none⟩ = some (.int .i64 f) ∧ W.cell? ⟨S, 1, none⟩ = some (.int .i64 g) ∧ W.cell? ⟨S, 2, none⟩ = some (.int .i64 b) ∧ W.cell? ⟨S + 1, 0, none⟩ = some (.int .i64 f2) ∧ W.cell? ⟨S + 1, 1, none⟩ = some (.int .i64 g2) ∧ W.cell? ⟨S + 1, 2, none⟩ = some (.int .i64 b2) ∧ W.cell? ⟨S + 1 + 1, 0, none⟩ = some (.int .i64 f3) ∧ W.cell? ⟨S + 1 + 1, 1, none⟩ = some (.int .i64 g3) ∧ W.cell? ⟨S + 1 + 1, 2, none⟩ = some (.int .i64 b3)) (first | go_keep | exact ⟨(HB0_5.out.others (Nat.ne_of_lt (by first | assumption | exact Nat.lt_of_lt_of_le bl0 (Nat.le_refl _))) _ _ _).c0, (HB0_5.out.others (Nat.ne_of_lt (by first | assumption | exact Nat.lt_of_lt_of_le bl0 (Nat.le_refl _))) _ _ _).c1, (HB0_5.out.others (Nat.ne_of_lt (by first | assumption | exact Nat.lt_of_lt_of_le bl0 (Nat.le_refl _))) _ _ _).c2, (HB1_5.out.others (Nat.ne_of_lt (by first | assumption | exact Nat.lt_of_lt_of_le bl1 (Nat.le_refl _))) _ _ _).c0, (HB1_5.out.others (Nat.ne_of_lt (by first | assumption | exact Nat.lt_of_lt_of_le bl1 (Nat.le_refl _))) _ _ _).c1, (HB1_5.out.others (Nat.ne_of_lt (by first | assumption | exact Nat.lt_of_lt_of_le bl1 (Nat.le_refl _))) _ _ _).c2, (HB2_5.out.others (Nat.ne_of_lt (by first | assumption | exact Nat.lt_of_lt_of_le bl2 (Nat.le_refl _))) _ _ _).c0, (HB2_5.out.others (Nat.ne_of_lt (by first | assumption | exact Nat.lt_of_lt_of_le bl2 (Nat.le_refl _))) _ _ _).c1, (HB2_5.out.others (Nat.ne_of_lt (by first | assumption | exact Nat.lt_of_lt_of_le bl2 (Nat.le_refl _))) _ _ _).c2⟩) (first | (go_at_call 9; (with_reducible refine Calls.mono (LA.out _) ?_); rintro e w1 ⟨rfl, gq1⟩; have HG1 : Hid (Gr W0 w1) := (by first | exact ((Gr.refl W0).drew).trans gq1 | exact (((Gr.refl W0).alloc _).drew).trans gq1 | exact (((Gr.refl W0).drew).alloc _).trans gq1); have HB0_1 : Hid (R3 23 w1 S f g b) := RB0.out.gr HG1.out; have m0_1_0 := HB0_1.out.c0; have m0_1_1 := HB0_1.out.c1; have m0_1_2 := HB0_1.out.c2; have l0_1 := HB0_1.out.lt; have HB1_1 : Hid (R3 23 w1 (S + 1) f2 g2 b2) := RB1.out.gr HG1.out; have m1_1_0 := HB1_1.out.c0; have m1_1_1 := HB1_1.out.c1; have m1_1_2 := HB1_1.out.c2; have l1_1 := HB1_1.out.lt; have HB2_1 : Hid (R3 23 w1 (S + 1 + 1) f3 g3 b3) := RB2.out.gr HG1.out; have m2_1_0 := HB2_1.out.c0; have m2_1_1 := HB2_1.out.c1; have m2_1_2 := HB2_1.out.c2; have l2_1 := HB2_1.out.lt; (first | (have Z1 : Hid (R3 25 w1 _ 0 0 0) := (R3.new _ 0 0 0 25).gr gq1; have z1_0 := Z1.out.c0; have y1_0 := Z1.out.fz 0; have z1_1 := Z1.out.c1; have y1_1 := Z1.out.fz 1; have z1_2 := Z1.out.c2; have y1_2 := Z1.out.fz 2; have x1 := Z1.out.lt) | (have Z1 : Hid (R3 25 w1 _ 0 0 0) := ((R3.new _ 0 0 0 25).gr ((Gr.refl _).drew)).gr gq1; have z1_0 := Z1.out.c0; have y1_0 := Z1.out.fz 0; have z1_1 := Z1.out.c1; have y1_1 := Z1.out.fz 1; have z1_2 := Z1.out.c2; have y1_2 := Z1.out.fz 2; have x1 := Z1.out.lt) | skip); clear gq1) | (go_at_call 9; (with_reducible refine Calls.mono (LB.out _) ?_); rintro e w2 ⟨rfl, gq2⟩; have HG2 : Hid (Gr W0 w2) := (by first | exact HG1.out.trans gq2 | exact (HG1.out.alloc _).trans gq2); have HB0_2 : Hid (R3 23 w2 S f g b) := RB0.out.gr HG2.out; have m0_2_0 := HB0_2.out.c0; have m0_2_1 := HB0_2.out.c1; have m0_2_2 := HB0_2.out.c2; have l0_2 := HB0_2.out.lt; have HB1_2 : Hid (R3 23 w2 (S + 1) f2 g2 b2) := RB1.out.gr HG2.out; have m1_2_0 := HB1_2.out.c0; have m1_2_1 := HB1_2.out.c1; have m1_2_2 := HB1_2.out.c2; have l1_2 := HB1_2.out.lt; have HB2_2 : Hid (R3 23 w2 (S + 1 + 1) f3 g3 b3) := RB2.out.gr HG2.out; have m2_2_0 := HB2_2.out.c0; have m2_2_1 := HB2_2.out.c1; have m2_2_2 := HB2_2.out.c2; have l2_2 := HB2_2.out.lt; (first | (have Z2 : Hid (R3 25 w2 _ 0 0 0) := Z1.out.gr gq2; have z2_0 := Z2.out.c0; have y2_0 := Z2.out.fz 0; have z2_1 := Z2.out.c1; have y2_1 := Z2.out.fz 1; have z2_2 := Z2.out.c2; have y2_2 := Z2.out.fz 2; have x2 := Z2.out.lt) | (have Z2 : Hid (R3 25 w2 _ 0 0 0) := (R3.new _ 0 0 0 25).gr gq2; have z2_0 := Z2.out.c0; have y2_0 := Z2.out.fz 0; have z2_1 := Z2.out.c1; have y2_1 := Z2.out.fz 1; have z2_2 := Z2.out.c2; have y2_2 := Z2.out.fz 2; have x2 := Z2.out.lt) | skip); clear gq2) | (go_at_call 12; (with_reducible refine Calls.mono (OAB.out _) ?_); rintro e w3 ⟨rfl, gq3⟩; have HG3 : Hid (Gr W0 w3) := (by first | exact HG2.out.trans gq3 | exact (HG2.out.alloc _).trans gq3); have HB0_3 : Hid (R3 23 w3 S f g b) := RB0.out.gr HG3.out; have m0_3_0 := HB0_3.out.c0; have m0_3_1 := HB0_3.out.c1; have m0_3_2 := HB0_3.out.c2; have l0_3 := HB0_3.out.lt; have HB1_3 : Hid (R3 23 w3 (S + 1) f2 g2 b2) := RB1.out.gr HG3.out; have m1_3_0 := HB1_3.out.c0; have m1_3_1 := HB1_3.out.c1; have m1_3_2 := HB1_3.out.c2; have l1_3 := HB1_3.out.lt; have HB2_3 : Hid (R3 23 w3 (S + 1 + 1) f3 g3 b3) := RB2.out.gr HG3.out; have m2_3_0 := HB2_3.out.c0; have m2_3_1 := HB2_3.out.c1; have m2_3_2 := HB2_3.out.c2; have l2_3 := HB2_3.out.lt; (first | (have Z3 : Hid (R3 25 w3 _ 0 0 0) := Z2.out.gr gq3; have z3_0 := Z3.out.c0; have y3_0 := Z3.out.fz 0; have z3_1 := Z3.out.c1; have y3_1 := Z3.out.fz 1; have z3_2 := Z3.out.c2; have y3_2 := Z3.out.fz 2; have x3 := Z3.out.lt) | (have Z3 : Hid (R3 25 w3 _ 0 0 0) := Z1.out.gr gq3; have z3_0 := Z3.out.c0; have y3_0 := Z3.out.fz 0; have z3_1 := Z3.out.c1; have y3_1 := Z3.out.fz 1; have z3_2 := Z3.out.c2; have y3_2 := Z3.out.fz 2; have x3 := Z3.out.lt) | (have Z3 : Hid (R3 25 w3 _ 0 0 0) := (R3.new _ 0 0 0 25).gr gq3; have z3_0 := Z3.out.c0; have y3_0 := Z3.out.fz 0; have z3_1 := Z3.out.c1; have y3_1 := Z3.out.fz 1; have z3_2 := Z3.out.c2; have y3_2 := Z3.out.fz 2; have x3 := Z3.out.lt) | skip); clear gq3) | (go_at_call 9; (with_reducible refine Calls.mono (LC.out _) ?_); rintro e w4 ⟨rfl, gq4⟩; have HG4 : Hid (Gr W0 w4) := (by first | exact HG3.out.trans gq4 | exact (HG3.out.alloc _).trans gq4); have HB0_4 : Hid (R3 23 w4 S f g b) := RB0.out.gr HG4.out; have m0_4_0 := HB0_4.out.c0; have m0_4_1 := HB0_4.out.c1; have m0_4_2 := HB0_4.out.c2; have l0_4 := HB0_4.out.lt; have HB1_4 : Hid (R3 23 w4 (S + 1) f2 g2 b2) := RB1.out.gr HG4.out; have m1_4_0 := HB1_4.out.c0; have m1_4_1 := HB1_4.out.c1; have m1_4_2 := HB1_4.out.c2; have l1_4 := HB1_4.out.lt; have HB2_4 : Hid (R3 23 w4 (S + 1 + 1) f3 g3 b3) := RB2.out.gr HG4.out; have m2_4_0 := HB2_4.out.c0; have m2_4_1 := HB2_4.out.c1; have m2_4_2 := HB2_4.out.c2; have l2_4 := HB2_4.out.lt; (first | (have Z4 : Hid (R3 25 w4 _ 0 0 0) := Z3.out.gr gq4; have z4_0 := Z4.out.c0; have y4_0 := Z4.out.fz 0; have z4_1 := Z4.out.c1; have y4_1 := Z4.out.fz 1; have z4_2 := Z4.out.c2; have y4_2 := Z4.out.fz 2; have x4 := Z4.out.lt) | (have Z4 : Hid (R3 25 w4 _ 0 0 0) := Z2.out.gr gq4; have z4_0 := Z4.out.c0; have y4_0 := Z4.out.fz 0; have z4_1 := Z4.out.c1; have y4_1 := Z4.out.fz 1; have z4_2 := Z4.out.c2; have y4_2 := Z4.out.fz 2; have x4 := Z4.out.lt) | (have Z4 : Hid (R3 25 w4 _ 0 0 0) := Z1.out.gr gq4; have z4_0 := Z4.out.c0; have y4_0 := Z4.out.fz 0; have z4_1 := Z4.out.c1; have y4_1 := Z4.out.fz 1; have z4_2 := Z4.out.c2; have y4_2 := Z4.out.fz 2; have x4 := Z4.out.lt) | (have Z4 : Hid (R3 25 w4 _ 0 0 0) := (R3.new _ 0 0 0 25).gr gq4; have z4_0 := Z4.out.c0; have y4_0 := Z4.out.fz 0; have z4_1 := Z4.out.c1; have y4_1 := Z4.out.fz 1; have z4_2 := Z4.out.c2; have y4_2 := Z4.out.fz 2; have x4 := Z4.out.lt) | skip); clear gq4) | (go_at_call 12; (with_reducible refine Calls.mono (OPC.out _) ?_); rintro e w5 ⟨rfl, gq5⟩; have HG5 : Hid (Gr W0 w5) := (by first | exact HG4.out.trans gq5 | exact (HG4.out.alloc _).trans gq5); have HB0_5 : Hid (R3 23 w5 S f g b) := RB0.out.gr HG5.out; have m0_5_0 := HB0_5.out.c0; have m0_5_1 := HB0_5.out.c1; have m0_5_2 := HB0_5.out.c2; have l0_5 := HB0_5.out.lt; have HB1_5 : Hid (R3 23 w5 (S + 1) f2 g2 b2) := RB1.out.gr HG5.out; have m1_5_0 := HB1_5.out.c0; have m1_5_1 := HB1_5.out.c1; have m1_5_2 := HB1_5.out.c2; have l1_5 := HB1_5.out.lt; have HB2_5 : Hid (R3 23 w5 (S + 1 + 1) f3 g3 b3) := RB2.out.gr HG5.out; have m2_5_0 := HB2_5.out.c0; have m2_5_1 := HB2_5.out.c1; have m2_5_2 := HB2_5.out.c2; have l2_5 := HB2_5.out.lt; (first | (have Z5 : Hid (R3 25 w5 _ 0 0 0) := Z4.out.gr gq5; have z5_0 := Z5.out.c0; have y5_0 := Z5.out.fz 0; have z5_1 := Z5.out.c1; have y5_1 := Z5.out.fz 1; have z5_2 := Z5.out.c2; have y5_2 := Z5.out.fz 2; have x5 := Z5.out.lt) | (have Z5 : Hid (R3 25 w5 _ 0 0 0) := Z3.out.gr gq5; have z5_0 := Z5.out.c0; have y5_0 := Z5.out.fz 0; have z5_1 := Z5.out.c1; have y5_1 := Z5.out.fz 1; have z5_2 := Z5.out.c2; have y5_2 := Z5.out.fz 2; have x5 := Z5.out.lt) | (have Z5 : Hid (R3 25 w5 _ 0 0 0) := Z2.out.gr gq5; have z5_0 := Z5.out.c0; have y5_0 := Z5.out.fz 0; have z5_1 := Z5.out.c1; have y5_1 := Z5.out.fz 1; have z5_2 := Z5.out.c2; have y5_2 := Z5.out.fz 2; have x5 := Z5.out.lt) | (have Z5 : Hid (R3 25 w5 _ 0 0 0) := Z1.out.gr gq5; have z5_0 := Z5.out.c0; have y5_0 := Z5.out.fz 0; have z5_1 := Z5.out.c1; have y5_1 := Z5.out.fz 1; have z5_2 := Z5.out.c2; have y5_2 := Z5.out.fz 2; have x5 := Z5.out.lt) | (have Z5 : Hid (R3 25 w5 _ 0 0 0) := (R3.new _ 0 0 0 25).gr gq5; have z5_0 := Z5.out.c0; have y5_0 := Z5.out.fz 0; have z5_1 := Z5.out.c1; have y5_1 := Z5.out.fz 1; have z5_2 := Z5.out.c2; have y5_2 := Z5.out.fz 2; have x5 := Z5.out.lt) | skip); clear gq5))
    all_goals
      go_wp2_with fail
      go_meet
      first
        | exact ⟨rfl, rfl, rfl, _, rfl, Z5.out.set _ _ _, HG5.out.set3 (Nat.le_refl _) _ _ _⟩
        | exact ⟨rfl, rfl, rfl, _, rfl, Z5.out.set _ _ _, HG5.out.set3 HG1.out.size _ _ _⟩
        | exact ⟨rfl, rfl, rfl, _, rfl, Z5.out.set _ _ _, HG5.out.set3 HG2.out.size _ _ _⟩
        | exact ⟨rfl, rfl, rfl, _, rfl, Z5.out.set _ _ _, HG5.out.set3 HG3.out.size _ _ _⟩
        | exact ⟨rfl, rfl, rfl, _, rfl, Z5.out.set _ _ _, HG5.out.set3 HG4.out.size _ _ _⟩
        | exact ⟨rfl, rfl, rfl, _, rfl, Z5.out.set _ _ _, HG5.out.set3 HG5.out.size _ _ _⟩
        | exact ⟨rfl, rfl, rfl, _, rfl, R3.new _ _ _ _ _, HG5.out.alloc _⟩
  case rest =>
    obtain ⟨rfl, rfl, rfl, P, rfl, HP, HG⟩ := hcut
    have HGw : Hid (Gr w wc) := G0.out.trans HG.out
    replace RB0 : Hid (R3 23 wc S f g b) := RB0.out.gr HG.out
    replace RB1 : Hid (R3 23 wc (S + 1) f2 g2 b2) := RB1.out.gr HG.out
    replace RB2 : Hid (R3 23 wc (S + 1 + 1) f3 g3 b3) := RB2.out.gr HG.out
    clear b0_0 b0_1 b0_2 b1_0 b1_1 b1_2 b2_0 b2_1 b2_2 bl0 bl1 bl2
    have b0_0 := RB0.out.c0
    have b0_1 := RB0.out.c1
    have b0_2 := RB0.out.c2
    have bl0 := RB0.out.lt
    have b1_0 := RB1.out.c0
    have b1_1 := RB1.out.c1
    have b1_2 := RB1.out.c2
    have bl1 := RB1.out.lt
    have b2_0 := RB2.out.c0
    have b2_1 := RB2.out.c1
    have b2_2 := RB2.out.c2
    have bl2 := RB2.out.lt
    go_wp2_with fail
    obtain ⟨W1, hW1⟩ : ∃ z, z = wc := ⟨_, rfl⟩
    subst hW1
    go_cut [3, 4, 5, 7, 8] from 18 to 25 (fun u v t p pp wx => u = .pointer (some ⟨S, 0, none⟩) ∧ v = .pointer (some ⟨S + 1, 0, none⟩) ∧ t = .pointer (some ⟨S + 1 + 1, 0, none⟩) ∧ p = .pointer (some ⟨P, 0, none⟩) ∧ ∃ Q, pp = .pointer (some ⟨Q, 0, none⟩) ∧ Hid (R3 25 wx Q r0 r1 r2) ∧ Hid (Gr W1 wx))
    case first =>
      go_region_held (fun W => W.cell? ⟨S, 0, none⟩ = some (.int .i64 f) ∧ W.cell? ⟨S, 1, none⟩ = some (.int .i64 g) ∧ W.cell? ⟨S, 2, none⟩ = some (.int .i64 b) ∧ W.cell? ⟨S + 1, 0, none⟩ = some (.int .i64 f2) ∧ W.cell? ⟨S + 1, 1, none⟩ = some (.int .i64 g2) ∧ W.cell? ⟨S + 1, 2, none⟩ = some (.int .i64 b2) ∧ W.cell? ⟨S + 1 + 1, 0, none⟩ = some (.int .i64 f3) ∧ W.cell? ⟨S + 1 + 1, 1, none⟩ = some (.int .i64 g3) ∧ W.cell? ⟨S + 1 + 1, 2, none⟩ = some (.int .i64 b3)) (first | go_keep | exact ⟨(HB0_5.out.others (Nat.ne_of_lt (by first | assumption | exact Nat.lt_of_lt_of_le bl0 (Nat.le_refl _))) _ _ _).c0, (HB0_5.out.others (Nat.ne_of_lt (by first | assumption | exact Nat.lt_of_lt_of_le bl0 (Nat.le_refl _))) _ _ _).c1, (HB0_5.out.others (Nat.ne_of_lt (by first | assumption | exact Nat.lt_of_lt_of_le bl0 (Nat.le_refl _))) _ _ _).c2, (HB1_5.out.others (Nat.ne_of_lt (by first | assumption | exact Nat.lt_of_lt_of_le bl1 (Nat.le_refl _))) _ _ _).c0, (HB1_5.out.others (Nat.ne_of_lt (by first | assumption | exact Nat.lt_of_lt_of_le bl1 (Nat.le_refl _))) _ _ _).c1, (HB1_5.out.others (Nat.ne_of_lt (by first | assumption | exact Nat.lt_of_lt_of_le bl1 (Nat.le_refl _))) _ _ _).c2, (HB2_5.out.others (Nat.ne_of_lt (by first | assumption | exact Nat.lt_of_lt_of_le bl2 (Nat.le_refl _))) _ _ _).c0, (HB2_5.out.others (Nat.ne_of_lt (by first | assumption | exact Nat.lt_of_lt_of_le bl2 (Nat.le_refl _))) _ _ _).c1, (HB2_5.out.others (Nat.ne_of_lt (by first | assumption | exact Nat.lt_of_lt_of_le bl2 (Nat.le_refl _))) _ _ _).c2⟩) (first | (go_at_call 9; (with_reducible refine Calls.mono (LA.out _) ?_); rintro e w1 ⟨rfl, gq1⟩; have HG1 : Hid (Gr W1 w1) := (by first | exact ((Gr.refl W1).drew).trans gq1 | exact (((Gr.refl W1).alloc _).drew).trans gq1 | exact (((Gr.refl W1).drew).alloc _).trans gq1); have HB0_1 : Hid (R3 23 w1 S f g b) := RB0.out.gr HG1.out; have m0_1_0 := HB0_1.out.c0; have m0_1_1 := HB0_1.out.c1; have m0_1_2 := HB0_1.out.c2; have l0_1 := HB0_1.out.lt; have HB1_1 : Hid (R3 23 w1 (S + 1) f2 g2 b2) := RB1.out.gr HG1.out; have m1_1_0 := HB1_1.out.c0; have m1_1_1 := HB1_1.out.c1; have m1_1_2 := HB1_1.out.c2; have l1_1 := HB1_1.out.lt; have HB2_1 : Hid (R3 23 w1 (S + 1 + 1) f3 g3 b3) := RB2.out.gr HG1.out; have m2_1_0 := HB2_1.out.c0; have m2_1_1 := HB2_1.out.c1; have m2_1_2 := HB2_1.out.c2; have l2_1 := HB2_1.out.lt; (first | (have Z1 : Hid (R3 25 w1 _ 0 0 0) := (R3.new _ 0 0 0 25).gr gq1; have z1_0 := Z1.out.c0; have y1_0 := Z1.out.fz 0; have z1_1 := Z1.out.c1; have y1_1 := Z1.out.fz 1; have z1_2 := Z1.out.c2; have y1_2 := Z1.out.fz 2; have x1 := Z1.out.lt) | (have Z1 : Hid (R3 25 w1 _ 0 0 0) := ((R3.new _ 0 0 0 25).gr ((Gr.refl _).drew)).gr gq1; have z1_0 := Z1.out.c0; have y1_0 := Z1.out.fz 0; have z1_1 := Z1.out.c1; have y1_1 := Z1.out.fz 1; have z1_2 := Z1.out.c2; have y1_2 := Z1.out.fz 2; have x1 := Z1.out.lt) | skip); clear gq1) | (go_at_call 9; (with_reducible refine Calls.mono (LB.out _) ?_); rintro e w2 ⟨rfl, gq2⟩; have HG2 : Hid (Gr W1 w2) := (by first | exact HG1.out.trans gq2 | exact (HG1.out.alloc _).trans gq2); have HB0_2 : Hid (R3 23 w2 S f g b) := RB0.out.gr HG2.out; have m0_2_0 := HB0_2.out.c0; have m0_2_1 := HB0_2.out.c1; have m0_2_2 := HB0_2.out.c2; have l0_2 := HB0_2.out.lt; have HB1_2 : Hid (R3 23 w2 (S + 1) f2 g2 b2) := RB1.out.gr HG2.out; have m1_2_0 := HB1_2.out.c0; have m1_2_1 := HB1_2.out.c1; have m1_2_2 := HB1_2.out.c2; have l1_2 := HB1_2.out.lt; have HB2_2 : Hid (R3 23 w2 (S + 1 + 1) f3 g3 b3) := RB2.out.gr HG2.out; have m2_2_0 := HB2_2.out.c0; have m2_2_1 := HB2_2.out.c1; have m2_2_2 := HB2_2.out.c2; have l2_2 := HB2_2.out.lt; (first | (have Z2 : Hid (R3 25 w2 _ 0 0 0) := Z1.out.gr gq2; have z2_0 := Z2.out.c0; have y2_0 := Z2.out.fz 0; have z2_1 := Z2.out.c1; have y2_1 := Z2.out.fz 1; have z2_2 := Z2.out.c2; have y2_2 := Z2.out.fz 2; have x2 := Z2.out.lt) | (have Z2 : Hid (R3 25 w2 _ 0 0 0) := (R3.new _ 0 0 0 25).gr gq2; have z2_0 := Z2.out.c0; have y2_0 := Z2.out.fz 0; have z2_1 := Z2.out.c1; have y2_1 := Z2.out.fz 1; have z2_2 := Z2.out.c2; have y2_2 := Z2.out.fz 2; have x2 := Z2.out.lt) | skip); clear gq2) | (go_at_call 9; (with_reducible refine Calls.mono (LC.out _) ?_); rintro e w3 ⟨rfl, gq3⟩; have HG3 : Hid (Gr W1 w3) := (by first | exact HG2.out.trans gq3 | exact (HG2.out.alloc _).trans gq3); have HB0_3 : Hid (R3 23 w3 S f g b) := RB0.out.gr HG3.out; have m0_3_0 := HB0_3.out.c0; have m0_3_1 := HB0_3.out.c1; have m0_3_2 := HB0_3.out.c2; have l0_3 := HB0_3.out.lt; have HB1_3 : Hid (R3 23 w3 (S + 1) f2 g2 b2) := RB1.out.gr HG3.out; have m1_3_0 := HB1_3.out.c0; have m1_3_1 := HB1_3.out.c1; have m1_3_2 := HB1_3.out.c2; have l1_3 := HB1_3.out.lt; have HB2_3 : Hid (R3 23 w3 (S + 1 + 1) f3 g3 b3) := RB2.out.gr HG3.out; have m2_3_0 := HB2_3.out.c0; have m2_3_1 := HB2_3.out.c1; have m2_3_2 := HB2_3.out.c2; have l2_3 := HB2_3.out.lt; (first | (have Z3 : Hid (R3 25 w3 _ 0 0 0) := Z2.out.gr gq3; have z3_0 := Z3.out.c0; have y3_0 := Z3.out.fz 0; have z3_1 := Z3.out.c1; have y3_1 := Z3.out.fz 1; have z3_2 := Z3.out.c2; have y3_2 := Z3.out.fz 2; have x3 := Z3.out.lt) | (have Z3 : Hid (R3 25 w3 _ 0 0 0) := Z1.out.gr gq3; have z3_0 := Z3.out.c0; have y3_0 := Z3.out.fz 0; have z3_1 := Z3.out.c1; have y3_1 := Z3.out.fz 1; have z3_2 := Z3.out.c2; have y3_2 := Z3.out.fz 2; have x3 := Z3.out.lt) | (have Z3 : Hid (R3 25 w3 _ 0 0 0) := (R3.new _ 0 0 0 25).gr gq3; have z3_0 := Z3.out.c0; have y3_0 := Z3.out.fz 0; have z3_1 := Z3.out.c1; have y3_1 := Z3.out.fz 1; have z3_2 := Z3.out.c2; have y3_2 := Z3.out.fz 2; have x3 := Z3.out.lt) | skip); clear gq3) | (go_at_call 12; (with_reducible refine Calls.mono (OBC.out _) ?_); rintro e w4 ⟨rfl, gq4⟩; have HG4 : Hid (Gr W1 w4) := (by first | exact HG3.out.trans gq4 | exact (HG3.out.alloc _).trans gq4); have HB0_4 : Hid (R3 23 w4 S f g b) := RB0.out.gr HG4.out; have m0_4_0 := HB0_4.out.c0; have m0_4_1 := HB0_4.out.c1; have m0_4_2 := HB0_4.out.c2; have l0_4 := HB0_4.out.lt; have HB1_4 : Hid (R3 23 w4 (S + 1) f2 g2 b2) := RB1.out.gr HG4.out; have m1_4_0 := HB1_4.out.c0; have m1_4_1 := HB1_4.out.c1; have m1_4_2 := HB1_4.out.c2; have l1_4 := HB1_4.out.lt; have HB2_4 : Hid (R3 23 w4 (S + 1 + 1) f3 g3 b3) := RB2.out.gr HG4.out; have m2_4_0 := HB2_4.out.c0; have m2_4_1 := HB2_4.out.c1; have m2_4_2 := HB2_4.out.c2; have l2_4 := HB2_4.out.lt; (first | (have Z4 : Hid (R3 25 w4 _ 0 0 0) := Z3.out.gr gq4; have z4_0 := Z4.out.c0; have y4_0 := Z4.out.fz 0; have z4_1 := Z4.out.c1; have y4_1 := Z4.out.fz 1; have z4_2 := Z4.out.c2; have y4_2 := Z4.out.fz 2; have x4 := Z4.out.lt) | (have Z4 : Hid (R3 25 w4 _ 0 0 0) := Z2.out.gr gq4; have z4_0 := Z4.out.c0; have y4_0 := Z4.out.fz 0; have z4_1 := Z4.out.c1; have y4_1 := Z4.out.fz 1; have z4_2 := Z4.out.c2; have y4_2 := Z4.out.fz 2; have x4 := Z4.out.lt) | (have Z4 : Hid (R3 25 w4 _ 0 0 0) := Z1.out.gr gq4; have z4_0 := Z4.out.c0; have y4_0 := Z4.out.fz 0; have z4_1 := Z4.out.c1; have y4_1 := Z4.out.fz 1; have z4_2 := Z4.out.c2; have y4_2 := Z4.out.fz 2; have x4 := Z4.out.lt) | (have Z4 : Hid (R3 25 w4 _ 0 0 0) := (R3.new _ 0 0 0 25).gr gq4; have z4_0 := Z4.out.c0; have y4_0 := Z4.out.fz 0; have z4_1 := Z4.out.c1; have y4_1 := Z4.out.fz 1; have z4_2 := Z4.out.c2; have y4_2 := Z4.out.fz 2; have x4 := Z4.out.lt) | skip); clear gq4) | (go_at_call 12; (with_reducible refine Calls.mono (OAQ.out _) ?_); rintro e w5 ⟨rfl, gq5⟩; have HG5 : Hid (Gr W1 w5) := (by first | exact HG4.out.trans gq5 | exact (HG4.out.alloc _).trans gq5); have HB0_5 : Hid (R3 23 w5 S f g b) := RB0.out.gr HG5.out; have m0_5_0 := HB0_5.out.c0; have m0_5_1 := HB0_5.out.c1; have m0_5_2 := HB0_5.out.c2; have l0_5 := HB0_5.out.lt; have HB1_5 : Hid (R3 23 w5 (S + 1) f2 g2 b2) := RB1.out.gr HG5.out; have m1_5_0 := HB1_5.out.c0; have m1_5_1 := HB1_5.out.c1; have m1_5_2 := HB1_5.out.c2; have l1_5 := HB1_5.out.lt; have HB2_5 : Hid (R3 23 w5 (S + 1 + 1) f3 g3 b3) := RB2.out.gr HG5.out; have m2_5_0 := HB2_5.out.c0; have m2_5_1 := HB2_5.out.c1; have m2_5_2 := HB2_5.out.c2; have l2_5 := HB2_5.out.lt; (first | (have Z5 : Hid (R3 25 w5 _ 0 0 0) := Z4.out.gr gq5; have z5_0 := Z5.out.c0; have y5_0 := Z5.out.fz 0; have z5_1 := Z5.out.c1; have y5_1 := Z5.out.fz 1; have z5_2 := Z5.out.c2; have y5_2 := Z5.out.fz 2; have x5 := Z5.out.lt) | (have Z5 : Hid (R3 25 w5 _ 0 0 0) := Z3.out.gr gq5; have z5_0 := Z5.out.c0; have y5_0 := Z5.out.fz 0; have z5_1 := Z5.out.c1; have y5_1 := Z5.out.fz 1; have z5_2 := Z5.out.c2; have y5_2 := Z5.out.fz 2; have x5 := Z5.out.lt) | (have Z5 : Hid (R3 25 w5 _ 0 0 0) := Z2.out.gr gq5; have z5_0 := Z5.out.c0; have y5_0 := Z5.out.fz 0; have z5_1 := Z5.out.c1; have y5_1 := Z5.out.fz 1; have z5_2 := Z5.out.c2; have y5_2 := Z5.out.fz 2; have x5 := Z5.out.lt) | (have Z5 : Hid (R3 25 w5 _ 0 0 0) := Z1.out.gr gq5; have z5_0 := Z5.out.c0; have y5_0 := Z5.out.fz 0; have z5_1 := Z5.out.c1; have y5_1 := Z5.out.fz 1; have z5_2 := Z5.out.c2; have y5_2 := Z5.out.fz 2; have x5 := Z5.out.lt) | (have Z5 : Hid (R3 25 w5 _ 0 0 0) := (R3.new _ 0 0 0 25).gr gq5; have z5_0 := Z5.out.c0; have y5_0 := Z5.out.fz 0; have z5_1 := Z5.out.c1; have y5_1 := Z5.out.fz 1; have z5_2 := Z5.out.c2; have y5_2 := Z5.out.fz 2; have x5 := Z5.out.lt) | skip); clear gq5))
      all_goals
        go_wp2_with fail
        go_meet
        first
          | exact ⟨rfl, rfl, rfl, rfl, _, rfl, Z5.out.set _ _ _, HG5.out.set3 (Nat.le_refl _) _ _ _⟩
          | exact ⟨rfl, rfl, rfl, rfl, _, rfl, Z5.out.set _ _ _, HG5.out.set3 HG1.out.size _ _ _⟩
          | exact ⟨rfl, rfl, rfl, rfl, _, rfl, Z5.out.set _ _ _, HG5.out.set3 HG2.out.size _ _ _⟩
          | exact ⟨rfl, rfl, rfl, rfl, _, rfl, Z5.out.set _ _ _, HG5.out.set3 HG3.out.size _ _ _⟩
          | exact ⟨rfl, rfl, rfl, rfl, _, rfl, Z5.out.set _ _ _, HG5.out.set3 HG4.out.size _ _ _⟩
          | exact ⟨rfl, rfl, rfl, rfl, _, rfl, Z5.out.set _ _ _, HG5.out.set3 HG5.out.size _ _ _⟩
          | exact ⟨rfl, rfl, rfl, rfl, _, rfl, R3.new _ _ _ _ _, HG5.out.alloc _⟩
    case rest =>
      obtain ⟨rfl, rfl, rfl, rfl, Q, rfl, HQ, HG1⟩ := hcut
      have HP1 := HP.out.gr HG1.out
      have RA1 := RB0.out.gr HG1.out
      clear b0_0 b0_1 b0_2 b1_0 b1_1 b1_2 b2_0 b2_1 b2_2 bl0 bl1 bl2
      have a0 := RA1.c0
      have a1 := RA1.c1
      have a2 := RA1.c2
      go_wp2_with fail
      refine Calls.mono (LA.out _) ?_
      rintro e w2 ⟨rfl, gq2⟩
      go_wp2_with fail
      refine Calls.mono (OAK.out _) ?_
      rintro e w3 ⟨rfl, gq3⟩
      have gq4 : Gr w3 (w3.alloc (.cells #[.int .i64 3, .int .i64 4, .int .i64 1] 25)) := (Gr.refl _).alloc _
      have HN : Hid (R3 25 (w3.alloc (.cells #[.int .i64 3, .int .i64 4, .int .i64 1] 25)) w3.heap.size 3 4 1) := R3.new _ _ _ _ _
      have P4 := ((HP1.gr gq2).gr gq3).gr gq4
      have Q4 := ((HQ.out.gr gq2).gr gq3).gr gq4
      have HF : Hid (Gr w (w3.alloc (.cells #[.int .i64 3, .int .i64 4, .int .i64 1] 25))) := (((HGw.out.trans HG1.out).trans gq2).trans gq3).trans gq4
      clear a0 a1 a2
      have p0' := P4.c0
      have p1' := P4.c1
      have p2' := P4.c2
      have q0' := Q4.c0
      have q1' := Q4.c1
      have q2' := Q4.c2
      have n0' := HN.out.c0
      have n1' := HN.out.c1
      have n2' := HN.out.c2
      go_wp2
      go_ret
      exact ⟨rfl, HF.out⟩

end Go.Proofs.Ytepkoiijdckcnag
