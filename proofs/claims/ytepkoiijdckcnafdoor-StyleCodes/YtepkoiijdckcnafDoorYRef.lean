/-
  paneref.decimal, paneref.Numbers, paneref.Codes.
-/
import Derived.Test.YtepkoiijdckcnafDoorYCode
namespace Go.Proofs.YtepkoiijdckcnafDoor
open Go.RowKit Go.Sort
set_option linter.unusedVariables false

theorem conv1 (a : Int) (ha : 0 ≤ a ∧ a < 256) (w : World) :
    (convert 40 9 (.slice (some ⟨w.heap.size, 0, none⟩) 1 1)).run Tryd.prog (w.alloc (.cells #[.int .u8 a] 5)) = .ok (.string ⟨#[a.toNat.toUInt8]⟩) (w.alloc (.cells #[.int .u8 a] 5)) := by
  have h := run_convert_bytes_back (P := Tryd.prog) (w.alloc (.cells #[.int .u8 a] 5)) 40 9 5 ⟨w.heap.size, 0, none⟩ 1 [a.toNat.toUInt8] Tryd.underlying40 Tryd.underlying5 Tryd.underlying9 (by
    intro j hj
    obtain rfl : j = 0 := by simp at hj; omega
    have e : (⟨w.heap.size, 0, none⟩ : Addr).add 0 = ⟨w.heap.size, 0, none⟩ := by unfold Addr.add; split <;> simp_all
    rw [e, World.cell?_alloc_mark]
    simp
    omega)
  simpa using h
theorem dc_small {n : Int} (h : 0 ≤ n ∧ n < 10) : dc n = [(48 + n).toNat.toUInt8] := by
  unfold dc
  rw [Lib.decDigits, dif_pos (by omega)]
  have : 48 + n.toNat = (48 + n).toNat := by omega
  rw [this]
theorem dc_great {n : Int} (h : 10 ≤ n ∧ n < 100) : dc n = [(48 + n / 10).toNat.toUInt8] ++ [(48 + n % 10).toNat.toUInt8] := by
  unfold dc
  rw [Lib.decDigits, dif_neg (by omega), Lib.decDigits, dif_pos (by omega)]
  have e1 : 48 + n.toNat / 10 = (48 + n / 10).toNat := by omega
  have e2 : 48 + n.toNat % 10 = (48 + n % 10).toNat := by omega
  rw [e1, e2]
set_option maxRecDepth 100000 in
theorem decimal_one (n : Int) (h : 0 ≤ n ∧ n < 10) (w : World) : Calls Tryd.prog 11 #[.int .i64 n] w fun e w' => e = .returned (.string ⟨(dc n).toArray⟩) ∧ Gr w w' := by
  have cv := conv1 (48 + n) (by omega)
  rw [dc_small h]
  go_enter Tryd.func11, Tryd.ntmps11
  go_wp2
  go_ret
  exact ⟨rfl, (Gr.refl w).alloc _⟩
set_option maxRecDepth 100000 in
theorem decimal_any (n : Int) (h : 0 ≤ n ∧ n < 100) (w : World) : Calls Tryd.prog 11 #[.int .i64 n] w fun e w' => e = .returned (.string ⟨(dc n).toArray⟩) ∧ Gr w w' := by
  by_cases h1 : n < 10
  · exact decimal_one n ⟨h.1, h1⟩ w
  · have D1 : Hid (∀ w, Calls Tryd.prog 11 #[.int .i64 (n / 10)] w fun e w' => e = .returned (.string ⟨(dc (n / 10)).toArray⟩) ∧ Gr w w') := decimal_one (n / 10) (by omega)
    rw [dc_small (n := n / 10) (by omega)] at D1
    have HD : Hid (dc n = [(48 + n / 10).toNat.toUInt8] ++ [(48 + n % 10).toNat.toUInt8]) := dc_great (by omega)
    have cv := conv1 (48 + n % 10) (by omega)
    have b1 : 10 ≤ n ∧ n < 100 := by omega
    clear h h1
    go_enter Tryd.func11, Tryd.ntmps11
    go_wp2_with (go_at_call 11; refine Calls.mono (D1.out _) ?_; rintro e w1 ⟨rfl, g1⟩; have G1 : Hid (Gr w w1) := g1; clear g1)
    go_ret
    exact ⟨by rw [HD.out]; rfl, G1.out.alloc _⟩

set_option maxRecDepth 100000 in
set_option maxHeartbeats 8000000 in
theorem rNumbers_any (f g b f2 g2 b2 : Int) (w : World) : Calls Tryd.prog 10 #[sv f g b, sv f2 g2 b2] w fun e w' => ∃ v, e = .returned v ∧ w'.ownsRow w.heap.size 3 1 v (nms (kn f) (kn g) (bo b) (kn f2) (kn g2) (bo b2)).length ((nms (kn f) (kn g) (bo b) (kn f2) (kn g2) (bo b2)).map (Value.int .i64)) ∧ Below w.heap.size w w' := by
  have SD : Hid (∀ f g b w, Calls Tryd.prog 16 #[sv f g b] w fun e w' => e = .returned (sv (kn f) (kn g) (bo b)) ∧ Gr w w') := sound_any
  unfold sv at SD ⊢
  have S1 := SD.out f g b
  have S2 := SD.out f2 g2 b2
  have bx := kn_bd f
  have by_ := kn_bd g
  have bz := bo_bd b
  have bx2 := kn_bd f2
  have by2 := kn_bd g2
  have bz2 := bo_bd b2
  generalize kn f = x at *
  generalize kn g = y at *
  generalize bo b = z at *
  generalize kn f2 = x2 at *
  generalize kn g2 = y2 at *
  generalize bo b2 = z2 at *
  obtain ⟨i0, hi, hz0, hz1, hz2⟩ := info_parts info3
  obtain ⟨S, hS⟩ : ∃ q, w.heap.size = q := ⟨_, rfl⟩
  have HS : Hid (w.heap.size = S) := hS
  obtain ⟨W0, hW0⟩ : ∃ q, (w.alloc (.cells #[.int .i64 f, .int .i64 g, .int .i64 b] 23)).alloc (.cells #[.int .i64 f2, .int .i64 g2, .int .i64 b2] 23) = q := ⟨_, rfl⟩
  have G0 : Hid (Gr w W0) := by rw [← hW0]; exact ((Gr.refl w).alloc _).alloc _
  have RB : Hid (R3 23 W0 (S + 1) f2 g2 b2) := by
    have := R3.new (w.alloc (.cells #[.int .i64 f, .int .i64 g, .int .i64 b] 23)) f2 g2 b2 23
    simp only [World.size_alloc, hS] at this
    rw [← hW0]; exact this
  have RA0 : Hid (R3 23 W0 S f g b) := by rw [← hW0, ← hS]; exact (R3.new w _ _ _ _).gr ((Gr.refl _).alloc _)
  have a0 := RA0.out.c0
  have a1 := RA0.out.c1
  have a2 := RA0.out.c2
  go_enter Tryd.func10, Tryd.ntmps10
  go_wp2_with fail
  clear hW0 hS a0 a1 a2 RA0
  refine Calls.mono (S1 _) ?_
  rintro e w1 ⟨rfl, g1⟩
  have G1 : Hid (Gr w w1) := G0.out.trans g1
  have RB1 : Hid (R3 23 w1 (S + 1) f2 g2 b2) := RB.out.gr g1
  clear g1 G0 RB S1
  obtain ⟨W2, hW2⟩ : ∃ q, w1.alloc (.cells #[.int .i64 x, .int .i64 y, .int .i64 z] 23) = q := ⟨_, rfl⟩
  obtain ⟨A, hA⟩ : ∃ q, w1.heap.size = q := ⟨_, rfl⟩
  have G2 : Hid (Gr w W2) := by rw [← hW2]; exact G1.out.alloc _
  have RA2 : Hid (R3 23 W2 A x y z ∧ R3 23 W2 (S + 1) f2 g2 b2 ∧ S ≤ A) := by rw [← hW2, ← hA, ← HS.out]; exact ⟨R3.new _ _ _ _ _, by rw [HS.out]; exact RB1.out.gr ((Gr.refl _).alloc _), G1.out.size⟩
  have c0 := RA2.out.2.1.c0
  have c1 := RA2.out.2.1.c1
  have c2 := RA2.out.2.1.c2
  go_wp2_with fail
  clear hW2 hA c0 c1 c2
  refine Calls.mono (S2 _) ?_
  rintro e w3 ⟨rfl, g3⟩
  have G3 : Hid (Gr w w3) := G2.out.trans g3
  have RA3 : Hid (R3 23 w3 A x y z ∧ S ≤ A ∧ A < w3.heap.size) := ⟨RA2.out.1.gr g3, RA2.out.2.2, (RA2.out.1.gr g3).lt⟩
  clear g3 G2 RA2 S2 RB1 G1
  obtain ⟨W4, hW4⟩ : ∃ q, w3.alloc (.cells #[.int .i64 x2, .int .i64 y2, .int .i64 z2] 23) = q := ⟨_, rfl⟩
  obtain ⟨C, hC⟩ : ∃ q, w3.heap.size = q := ⟨_, rfl⟩
  have HL : Hid (ST 23 w A C (C + 1) W4 (.slice none 0 0) [] x y z x2 y2 z2) := by
    rw [← hW4, ← hC]
    refine ⟨World.ownsRow_nil _ _ _ _, RA3.out.1.gr ((Gr.refl _).alloc _), R3.new _ _ _ _ _, (G3.out.alloc _).below, ?_⟩
    have := RA3.out
    have := HS.out
    simp only [World.size_alloc]
    omega
  have AC : Hid (A ≠ C) := (by rw [← hC]; have := RA3.out; omega : A ≠ C)
  have r0 := HL.out.ra.c0
  have r1 := HL.out.ra.c1
  have r2 := HL.out.ra.c2
  have s0 := HL.out.rc.c0
  have s1 := HL.out.rc.c1
  have s2 := HL.out.rc.c2
  have rl := HL.out.ra.lt
  have sl := HL.out.rc.lt
  have E : Hid (∀ l, nms x y z x2 y2 z2 = l → ∀ w' v a0 a1 a2 b0 b1 b2, ST 23 w A C (C + 1) w' v l a0 a1 a2 b0 b1 b2 → w'.ownsRow w.heap.size 3 1 v (nms x y z x2 y2 z2).length ((nms x y z x2 y2 z2).map (Value.int .i64)) ∧ Below w.heap.size w w') := fun l hl w' v a0 a1 a2 b0 b1 b2 h => by rw [hl]; exact ⟨ownsRow_low h.own (by have := h.hA; omega), h.bel⟩
  go_upto_region 3 with fail
  by_cases heq : x = x2 ∧ y = y2 ∧ z = z2
  · obtain ⟨rfl, rfl, rfl⟩ := heq
    go_wp2
    go_ret
    exact ⟨_, rfl, E.out [] (if_pos ⟨rfl, rfl, rfl⟩) _ _ _ _ _ _ _ _ HL.out⟩
  have HEQ : Hid (¬ (x = x2 ∧ y = y2 ∧ z = z2)) := heq
  clear heq
  go_cut [16] from 14 to 15 (fun s wx => s = .bool false ∧ wx = W4)
  case first =>
    have c1 : ((x == x2) = false) ∨ ((x == x2) = true ∧ (y == y2) = false) ∨ ((x == x2) = true ∧ (y == y2) = true ∧ (z == z2) = false) := by
      by_cases e1 : x = x2
      · by_cases e2 : y = y2
        · refine .inr (.inr ⟨by simpa using e1, by simpa using e2, by simpa using fun e3 => HEQ.out ⟨e1, e2, e3⟩⟩)
        · exact .inr (.inl ⟨by simpa using e1, by simpa using e2⟩)
      · exact .inl (by simpa using e1)
    rcases c1 with ta0 | ⟨ta0, ta1⟩ | ⟨ta0, ta1, ta2⟩
    all_goals
      go_wp2_with fail
      go_meet
      exact ⟨rfl, rfl⟩
  case rest =>
    obtain ⟨rfl, hwc⟩ := hcut
    obtain rfl := hwc.symm
    go_upto_region 5 with fail
    by_cases hzero : x2 = 0 ∧ y2 = 0 ∧ z2 = 0
    · obtain ⟨rfl, rfl, rfl⟩ := hzero
      go_wp2
      go_ret
      have hN : nms x y z 0 0 0 = [0] := by unfold nms; rw [if_neg HEQ.out, if_pos ⟨rfl, rfl, rfl⟩]
      refine ⟨_, rfl, ?_, HL.out.bel.alloc (by have := HL.out.bel.size; omega) _⟩
      rw [hN]
      exact one_row (heap_alloc_new _ _) HL.out.bel.size
    have HZE : Hid (¬ (x2 = 0 ∧ y2 = 0 ∧ z2 = 0)) := hzero
    clear hzero
    go_cut [19] from 17 to 18 (fun s wx => s = .bool false ∧ wx = W4)
    case first =>
      have c1 : ((x2 == 0) = false) ∨ ((x2 == 0) = true ∧ (y2 == 0) = false) ∨ ((x2 == 0) = true ∧ (y2 == 0) = true ∧ (z2 == 0) = false) := by
        by_cases e1 : x2 = 0
        · by_cases e2 : y2 = 0
          · refine .inr (.inr ⟨by simpa using e1, by simpa using e2, by simpa using fun e3 => HZE.out ⟨e1, e2, e3⟩⟩)
          · exact .inr (.inl ⟨by simpa using e1, by simpa using e2⟩)
        · exact .inl (by simpa using e1)
      rcases c1 with ta0 | ⟨ta0, ta1⟩ | ⟨ta0, ta1, ta2⟩
      all_goals
        go_wp2_with fail
        go_meet
        exact ⟨rfl, rfl⟩
    case rest =>
      obtain ⟨rfl, hwc⟩ := hcut
      obtain rfl := hwc.symm
      have fz := HL.out.ra.fz
      by_cases h3 : z2 < z
      · obtain rfl : z = 1 := by omega
        obtain rfl : z2 = 0 := by omega
        have HN : Hid (nms x y 1 x2 y2 0 = 0 :: (cFg 0 x2 ++ cBg 0 y2)) := by show _ = _; unfold nms; rw [if_neg HEQ.out, if_neg HZE.out, if_pos (by omega)]; rfl
        have ac : ¬ A = C := AC.out
        have ac' : ¬ C = A := fun q => AC.out q.symm
        go_upto_if 37 with (at_builtin; refine wpList_append_own _ rfl _ _ 30 rfl (C + 1) 3 i0 (.int .i64 0) 1 8 Tryd.underlying30 hi hz0 hz1 hz2 rfl (by decide) _ _ _ rfl (HL.out.own.alloc _) _ 1 1 [.int .i64 _] rfl rfl (one_new _ _ _) (one_cell _) (by simp [maxLen]) (by simp) (HL.out.bd _) ?_; intro v1 w1 o1 g1 _; have HL : Hid (ST 23 w A C (C + 1) w1 v1 _ _ _ _ _ _ _) := HL.out.next o1 g1; clear o1 g1; have r0 := HL.out.ra.c0; have r1 := HL.out.ra.c1; have r2 := HL.out.ra.c2; have s0 := HL.out.rc.c0; have s1 := HL.out.rc.c1; have s2 := HL.out.rc.c2; have rl := HL.out.ra.lt; have sl := HL.out.rc.lt; have fz := HL.out.ra.fz)
        obtain ⟨W5, hW5⟩ : ∃ q, ((w1.setCell ⟨A, 0, none⟩ (.int .i64 0)).setCell ⟨A, 1, none⟩ (.int .i64 0)).setCell ⟨A, 2, none⟩ (.int .i64 0) = q := ⟨_, rfl⟩
        have HL5 : Hid (ST 23 w A C (C + 1) W5 v1 [0] 0 0 0 x2 y2 0) := by rw [← hW5]; exact HL.out.zero
        rw [hW5]
        clear hW5 HL r0 r1 r2 s0 s1 s2 rl sl fz
        have HL := HL5
        clear HL5
        have r0 := HL.out.ra.c0
        have r1 := HL.out.ra.c1
        have r2 := HL.out.ra.c2
        have s0 := HL.out.rc.c0
        have s1 := HL.out.rc.c1
        have s2 := HL.out.rc.c2
        have rl := HL.out.ra.lt
        have sl := HL.out.rc.lt
        by_cases q2 : x2 = 0
        · have tq2 : (0 != x2) = false := by simp [q2]
          have Hq2 : Hid (x2 = 0) := q2
          clear q2
          by_cases q3 : y2 = 0
          · have tq3 : (0 != y2) = false := by simp [q3]
            have Hq3 : Hid (y2 = 0) := q3
            clear q3
            go_wp2_with (at_builtin; refine wpList_append_own _ rfl _ _ 30 rfl (C + 1) 3 i0 (.int .i64 0) 1 8 Tryd.underlying30 hi hz0 hz1 hz2 rfl (by decide) _ _ _ rfl (HL.out.own.alloc _) _ 1 1 [.int .i64 _] rfl rfl (one_new _ _ _) (one_cell _) (by simp [maxLen]) (by simp) (HL.out.bd _) ?_; intro v1 w1 o1 g1 _; have HL : Hid (ST 23 w A C (C + 1) w1 v1 _ _ _ _ _ _ _) := HL.out.next o1 g1; clear o1 g1; have r0 := HL.out.ra.c0; have r1 := HL.out.ra.c1; have r2 := HL.out.ra.c2; have s0 := HL.out.rc.c0; have s1 := HL.out.rc.c1; have s2 := HL.out.rc.c2; have rl := HL.out.ra.lt; have sl := HL.out.rc.lt; have fz := HL.out.ra.fz)
            go_ret
            exact ⟨_, rfl, E.out [0] (by have := Hq2.out; have := Hq3.out; rw [HN.out]; unfold cFg cBg hue; (repeat (first | rw [if_pos (by omega)] | rw [if_neg (by omega)])); rfl) _ _ _ _ _ _ _ _ HL.out⟩
          · have tq3 : (0 != y2) = true := by simp; omega
            have Hq3 : Hid (¬ y2 = 0) := q3
            clear q3
            by_cases q3z : y2 = 0
            · have uq3 : (y2 == 0) = true := by simpa using q3z
              have Hq3z : Hid (y2 = 0) := q3z
              clear q3z
              exact absurd Hq3z.out Hq3.out
            · have uq3 : (y2 == 0) = false := by simpa using q3z
              have Hq3z : Hid (¬ y2 = 0) := q3z
              clear q3z
              go_wp2_with (at_builtin; refine wpList_append_own _ rfl _ _ 30 rfl (C + 1) 3 i0 (.int .i64 0) 1 8 Tryd.underlying30 hi hz0 hz1 hz2 rfl (by decide) _ _ _ rfl (HL.out.own.alloc _) _ 1 1 [.int .i64 _] rfl rfl (one_new _ _ _) (one_cell _) (by simp [maxLen]) (by simp) (HL.out.bd _) ?_; intro v1 w1 o1 g1 _; have HL : Hid (ST 23 w A C (C + 1) w1 v1 _ _ _ _ _ _ _) := HL.out.next o1 g1; clear o1 g1; have r0 := HL.out.ra.c0; have r1 := HL.out.ra.c1; have r2 := HL.out.ra.c2; have s0 := HL.out.rc.c0; have s1 := HL.out.rc.c1; have s2 := HL.out.rc.c2; have rl := HL.out.ra.lt; have sl := HL.out.rc.lt; have fz := HL.out.ra.fz)
              go_ret
              exact ⟨_, rfl, E.out [0, 39 + y2] (by have := Hq2.out; have := Hq3.out; have := Hq3z.out; rw [HN.out]; unfold cFg cBg hue; (repeat (first | rw [if_pos (by omega)] | rw [if_neg (by omega)])); rfl) _ _ _ _ _ _ _ _ HL.out⟩
        · have tq2 : (0 != x2) = true := by simp; omega
          have Hq2 : Hid (¬ x2 = 0) := q2
          clear q2
          by_cases q2z : x2 = 0
          · have uq2 : (x2 == 0) = true := by simpa using q2z
            have Hq2z : Hid (x2 = 0) := q2z
            clear q2z
            exact absurd Hq2z.out Hq2.out
          · have uq2 : (x2 == 0) = false := by simpa using q2z
            have Hq2z : Hid (¬ x2 = 0) := q2z
            clear q2z
            by_cases q3 : y2 = 0
            · have tq3 : (0 != y2) = false := by simp [q3]
              have Hq3 : Hid (y2 = 0) := q3
              clear q3
              go_wp2_with (at_builtin; refine wpList_append_own _ rfl _ _ 30 rfl (C + 1) 3 i0 (.int .i64 0) 1 8 Tryd.underlying30 hi hz0 hz1 hz2 rfl (by decide) _ _ _ rfl (HL.out.own.alloc _) _ 1 1 [.int .i64 _] rfl rfl (one_new _ _ _) (one_cell _) (by simp [maxLen]) (by simp) (HL.out.bd _) ?_; intro v1 w1 o1 g1 _; have HL : Hid (ST 23 w A C (C + 1) w1 v1 _ _ _ _ _ _ _) := HL.out.next o1 g1; clear o1 g1; have r0 := HL.out.ra.c0; have r1 := HL.out.ra.c1; have r2 := HL.out.ra.c2; have s0 := HL.out.rc.c0; have s1 := HL.out.rc.c1; have s2 := HL.out.rc.c2; have rl := HL.out.ra.lt; have sl := HL.out.rc.lt; have fz := HL.out.ra.fz)
              go_ret
              exact ⟨_, rfl, E.out [0, 29 + x2] (by have := Hq2.out; have := Hq2z.out; have := Hq3.out; rw [HN.out]; unfold cFg cBg hue; (repeat (first | rw [if_pos (by omega)] | rw [if_neg (by omega)])); rfl) _ _ _ _ _ _ _ _ HL.out⟩
            · have tq3 : (0 != y2) = true := by simp; omega
              have Hq3 : Hid (¬ y2 = 0) := q3
              clear q3
              by_cases q3z : y2 = 0
              · have uq3 : (y2 == 0) = true := by simpa using q3z
                have Hq3z : Hid (y2 = 0) := q3z
                clear q3z
                exact absurd Hq3z.out Hq3.out
              · have uq3 : (y2 == 0) = false := by simpa using q3z
                have Hq3z : Hid (¬ y2 = 0) := q3z
                clear q3z
                go_wp2_with (at_builtin; refine wpList_append_own _ rfl _ _ 30 rfl (C + 1) 3 i0 (.int .i64 0) 1 8 Tryd.underlying30 hi hz0 hz1 hz2 rfl (by decide) _ _ _ rfl (HL.out.own.alloc _) _ 1 1 [.int .i64 _] rfl rfl (one_new _ _ _) (one_cell _) (by simp [maxLen]) (by simp) (HL.out.bd _) ?_; intro v1 w1 o1 g1 _; have HL : Hid (ST 23 w A C (C + 1) w1 v1 _ _ _ _ _ _ _) := HL.out.next o1 g1; clear o1 g1; have r0 := HL.out.ra.c0; have r1 := HL.out.ra.c1; have r2 := HL.out.ra.c2; have s0 := HL.out.rc.c0; have s1 := HL.out.rc.c1; have s2 := HL.out.rc.c2; have rl := HL.out.ra.lt; have sl := HL.out.rc.lt; have fz := HL.out.ra.fz)
                go_ret
                exact ⟨_, rfl, E.out [0, 29 + x2, 39 + y2] (by have := Hq2.out; have := Hq2z.out; have := Hq3.out; have := Hq3z.out; rw [HN.out]; unfold cFg cBg hue; (repeat (first | rw [if_pos (by omega)] | rw [if_neg (by omega)])); rfl) _ _ _ _ _ _ _ _ HL.out⟩
      · rcases (by omega : (z = 0 ∧ z2 = 0) ∨ (z = 0 ∧ z2 = 1) ∨ (z = 1 ∧ z2 = 1)) with ⟨rfl, rfl⟩ | ⟨rfl, rfl⟩ | ⟨rfl, rfl⟩
        · have HN : Hid (nms x y 0 x2 y2 0 = cFg x x2 ++ cBg y y2) := by show _ = _; unfold nms; rw [if_neg HEQ.out, if_neg HZE.out, if_neg (by omega)]; rfl
          by_cases q2 : x2 = x
          · have tq2 : (x != x2) = false := by simp [q2]
            have Hq2 : Hid (x2 = x) := q2
            clear q2
            by_cases q3 : y2 = y
            · have tq3 : (y != y2) = false := by simp [q3]
              have Hq3 : Hid (y2 = y) := q3
              clear q3
              go_wp2_with (at_builtin; refine wpList_append_own _ rfl _ _ 30 rfl (C + 1) 3 i0 (.int .i64 0) 1 8 Tryd.underlying30 hi hz0 hz1 hz2 rfl (by decide) _ _ _ rfl (HL.out.own.alloc _) _ 1 1 [.int .i64 _] rfl rfl (one_new _ _ _) (one_cell _) (by simp [maxLen]) (by simp) (HL.out.bd _) ?_; intro v1 w1 o1 g1 _; have HL : Hid (ST 23 w A C (C + 1) w1 v1 _ _ _ _ _ _ _) := HL.out.next o1 g1; clear o1 g1; have r0 := HL.out.ra.c0; have r1 := HL.out.ra.c1; have r2 := HL.out.ra.c2; have s0 := HL.out.rc.c0; have s1 := HL.out.rc.c1; have s2 := HL.out.rc.c2; have rl := HL.out.ra.lt; have sl := HL.out.rc.lt; have fz := HL.out.ra.fz)
              go_ret
              exact ⟨_, rfl, E.out [] (by have := Hq2.out; have := Hq3.out; rw [HN.out]; unfold cFg cBg hue; (repeat (first | rw [if_pos (by omega)] | rw [if_neg (by omega)])); rfl) _ _ _ _ _ _ _ _ HL.out⟩
            · have tq3 : (y != y2) = true := by simp; omega
              have Hq3 : Hid (¬ y2 = y) := q3
              clear q3
              by_cases q3z : y2 = 0
              · have uq3 : (y2 == 0) = true := by simpa using q3z
                have Hq3z : Hid (y2 = 0) := q3z
                clear q3z
                go_wp2_with (at_builtin; refine wpList_append_own _ rfl _ _ 30 rfl (C + 1) 3 i0 (.int .i64 0) 1 8 Tryd.underlying30 hi hz0 hz1 hz2 rfl (by decide) _ _ _ rfl (HL.out.own.alloc _) _ 1 1 [.int .i64 _] rfl rfl (one_new _ _ _) (one_cell _) (by simp [maxLen]) (by simp) (HL.out.bd _) ?_; intro v1 w1 o1 g1 _; have HL : Hid (ST 23 w A C (C + 1) w1 v1 _ _ _ _ _ _ _) := HL.out.next o1 g1; clear o1 g1; have r0 := HL.out.ra.c0; have r1 := HL.out.ra.c1; have r2 := HL.out.ra.c2; have s0 := HL.out.rc.c0; have s1 := HL.out.rc.c1; have s2 := HL.out.rc.c2; have rl := HL.out.ra.lt; have sl := HL.out.rc.lt; have fz := HL.out.ra.fz)
                go_ret
                exact ⟨_, rfl, E.out [49] (by have := Hq2.out; have := Hq3.out; have := Hq3z.out; rw [HN.out]; unfold cFg cBg hue; (repeat (first | rw [if_pos (by omega)] | rw [if_neg (by omega)])); rfl) _ _ _ _ _ _ _ _ HL.out⟩
              · have uq3 : (y2 == 0) = false := by simpa using q3z
                have Hq3z : Hid (¬ y2 = 0) := q3z
                clear q3z
                go_wp2_with (at_builtin; refine wpList_append_own _ rfl _ _ 30 rfl (C + 1) 3 i0 (.int .i64 0) 1 8 Tryd.underlying30 hi hz0 hz1 hz2 rfl (by decide) _ _ _ rfl (HL.out.own.alloc _) _ 1 1 [.int .i64 _] rfl rfl (one_new _ _ _) (one_cell _) (by simp [maxLen]) (by simp) (HL.out.bd _) ?_; intro v1 w1 o1 g1 _; have HL : Hid (ST 23 w A C (C + 1) w1 v1 _ _ _ _ _ _ _) := HL.out.next o1 g1; clear o1 g1; have r0 := HL.out.ra.c0; have r1 := HL.out.ra.c1; have r2 := HL.out.ra.c2; have s0 := HL.out.rc.c0; have s1 := HL.out.rc.c1; have s2 := HL.out.rc.c2; have rl := HL.out.ra.lt; have sl := HL.out.rc.lt; have fz := HL.out.ra.fz)
                go_ret
                exact ⟨_, rfl, E.out [39 + y2] (by have := Hq2.out; have := Hq3.out; have := Hq3z.out; rw [HN.out]; unfold cFg cBg hue; (repeat (first | rw [if_pos (by omega)] | rw [if_neg (by omega)])); rfl) _ _ _ _ _ _ _ _ HL.out⟩
          · have tq2 : (x != x2) = true := by simp; omega
            have Hq2 : Hid (¬ x2 = x) := q2
            clear q2
            by_cases q2z : x2 = 0
            · have uq2 : (x2 == 0) = true := by simpa using q2z
              have Hq2z : Hid (x2 = 0) := q2z
              clear q2z
              by_cases q3 : y2 = y
              · have tq3 : (y != y2) = false := by simp [q3]
                have Hq3 : Hid (y2 = y) := q3
                clear q3
                go_wp2_with (at_builtin; refine wpList_append_own _ rfl _ _ 30 rfl (C + 1) 3 i0 (.int .i64 0) 1 8 Tryd.underlying30 hi hz0 hz1 hz2 rfl (by decide) _ _ _ rfl (HL.out.own.alloc _) _ 1 1 [.int .i64 _] rfl rfl (one_new _ _ _) (one_cell _) (by simp [maxLen]) (by simp) (HL.out.bd _) ?_; intro v1 w1 o1 g1 _; have HL : Hid (ST 23 w A C (C + 1) w1 v1 _ _ _ _ _ _ _) := HL.out.next o1 g1; clear o1 g1; have r0 := HL.out.ra.c0; have r1 := HL.out.ra.c1; have r2 := HL.out.ra.c2; have s0 := HL.out.rc.c0; have s1 := HL.out.rc.c1; have s2 := HL.out.rc.c2; have rl := HL.out.ra.lt; have sl := HL.out.rc.lt; have fz := HL.out.ra.fz)
                go_ret
                exact ⟨_, rfl, E.out [39] (by have := Hq2.out; have := Hq2z.out; have := Hq3.out; rw [HN.out]; unfold cFg cBg hue; (repeat (first | rw [if_pos (by omega)] | rw [if_neg (by omega)])); rfl) _ _ _ _ _ _ _ _ HL.out⟩
              · have tq3 : (y != y2) = true := by simp; omega
                have Hq3 : Hid (¬ y2 = y) := q3
                clear q3
                by_cases q3z : y2 = 0
                · have uq3 : (y2 == 0) = true := by simpa using q3z
                  have Hq3z : Hid (y2 = 0) := q3z
                  clear q3z
                  go_wp2_with (at_builtin; refine wpList_append_own _ rfl _ _ 30 rfl (C + 1) 3 i0 (.int .i64 0) 1 8 Tryd.underlying30 hi hz0 hz1 hz2 rfl (by decide) _ _ _ rfl (HL.out.own.alloc _) _ 1 1 [.int .i64 _] rfl rfl (one_new _ _ _) (one_cell _) (by simp [maxLen]) (by simp) (HL.out.bd _) ?_; intro v1 w1 o1 g1 _; have HL : Hid (ST 23 w A C (C + 1) w1 v1 _ _ _ _ _ _ _) := HL.out.next o1 g1; clear o1 g1; have r0 := HL.out.ra.c0; have r1 := HL.out.ra.c1; have r2 := HL.out.ra.c2; have s0 := HL.out.rc.c0; have s1 := HL.out.rc.c1; have s2 := HL.out.rc.c2; have rl := HL.out.ra.lt; have sl := HL.out.rc.lt; have fz := HL.out.ra.fz)
                  go_ret
                  exact ⟨_, rfl, E.out [39, 49] (by have := Hq2.out; have := Hq2z.out; have := Hq3.out; have := Hq3z.out; rw [HN.out]; unfold cFg cBg hue; (repeat (first | rw [if_pos (by omega)] | rw [if_neg (by omega)])); rfl) _ _ _ _ _ _ _ _ HL.out⟩
                · have uq3 : (y2 == 0) = false := by simpa using q3z
                  have Hq3z : Hid (¬ y2 = 0) := q3z
                  clear q3z
                  go_wp2_with (at_builtin; refine wpList_append_own _ rfl _ _ 30 rfl (C + 1) 3 i0 (.int .i64 0) 1 8 Tryd.underlying30 hi hz0 hz1 hz2 rfl (by decide) _ _ _ rfl (HL.out.own.alloc _) _ 1 1 [.int .i64 _] rfl rfl (one_new _ _ _) (one_cell _) (by simp [maxLen]) (by simp) (HL.out.bd _) ?_; intro v1 w1 o1 g1 _; have HL : Hid (ST 23 w A C (C + 1) w1 v1 _ _ _ _ _ _ _) := HL.out.next o1 g1; clear o1 g1; have r0 := HL.out.ra.c0; have r1 := HL.out.ra.c1; have r2 := HL.out.ra.c2; have s0 := HL.out.rc.c0; have s1 := HL.out.rc.c1; have s2 := HL.out.rc.c2; have rl := HL.out.ra.lt; have sl := HL.out.rc.lt; have fz := HL.out.ra.fz)
                  go_ret
                  exact ⟨_, rfl, E.out [39, 39 + y2] (by have := Hq2.out; have := Hq2z.out; have := Hq3.out; have := Hq3z.out; rw [HN.out]; unfold cFg cBg hue; (repeat (first | rw [if_pos (by omega)] | rw [if_neg (by omega)])); rfl) _ _ _ _ _ _ _ _ HL.out⟩
            · have uq2 : (x2 == 0) = false := by simpa using q2z
              have Hq2z : Hid (¬ x2 = 0) := q2z
              clear q2z
              by_cases q3 : y2 = y
              · have tq3 : (y != y2) = false := by simp [q3]
                have Hq3 : Hid (y2 = y) := q3
                clear q3
                go_wp2_with (at_builtin; refine wpList_append_own _ rfl _ _ 30 rfl (C + 1) 3 i0 (.int .i64 0) 1 8 Tryd.underlying30 hi hz0 hz1 hz2 rfl (by decide) _ _ _ rfl (HL.out.own.alloc _) _ 1 1 [.int .i64 _] rfl rfl (one_new _ _ _) (one_cell _) (by simp [maxLen]) (by simp) (HL.out.bd _) ?_; intro v1 w1 o1 g1 _; have HL : Hid (ST 23 w A C (C + 1) w1 v1 _ _ _ _ _ _ _) := HL.out.next o1 g1; clear o1 g1; have r0 := HL.out.ra.c0; have r1 := HL.out.ra.c1; have r2 := HL.out.ra.c2; have s0 := HL.out.rc.c0; have s1 := HL.out.rc.c1; have s2 := HL.out.rc.c2; have rl := HL.out.ra.lt; have sl := HL.out.rc.lt; have fz := HL.out.ra.fz)
                go_ret
                exact ⟨_, rfl, E.out [29 + x2] (by have := Hq2.out; have := Hq2z.out; have := Hq3.out; rw [HN.out]; unfold cFg cBg hue; (repeat (first | rw [if_pos (by omega)] | rw [if_neg (by omega)])); rfl) _ _ _ _ _ _ _ _ HL.out⟩
              · have tq3 : (y != y2) = true := by simp; omega
                have Hq3 : Hid (¬ y2 = y) := q3
                clear q3
                by_cases q3z : y2 = 0
                · have uq3 : (y2 == 0) = true := by simpa using q3z
                  have Hq3z : Hid (y2 = 0) := q3z
                  clear q3z
                  go_wp2_with (at_builtin; refine wpList_append_own _ rfl _ _ 30 rfl (C + 1) 3 i0 (.int .i64 0) 1 8 Tryd.underlying30 hi hz0 hz1 hz2 rfl (by decide) _ _ _ rfl (HL.out.own.alloc _) _ 1 1 [.int .i64 _] rfl rfl (one_new _ _ _) (one_cell _) (by simp [maxLen]) (by simp) (HL.out.bd _) ?_; intro v1 w1 o1 g1 _; have HL : Hid (ST 23 w A C (C + 1) w1 v1 _ _ _ _ _ _ _) := HL.out.next o1 g1; clear o1 g1; have r0 := HL.out.ra.c0; have r1 := HL.out.ra.c1; have r2 := HL.out.ra.c2; have s0 := HL.out.rc.c0; have s1 := HL.out.rc.c1; have s2 := HL.out.rc.c2; have rl := HL.out.ra.lt; have sl := HL.out.rc.lt; have fz := HL.out.ra.fz)
                  go_ret
                  exact ⟨_, rfl, E.out [29 + x2, 49] (by have := Hq2.out; have := Hq2z.out; have := Hq3.out; have := Hq3z.out; rw [HN.out]; unfold cFg cBg hue; (repeat (first | rw [if_pos (by omega)] | rw [if_neg (by omega)])); rfl) _ _ _ _ _ _ _ _ HL.out⟩
                · have uq3 : (y2 == 0) = false := by simpa using q3z
                  have Hq3z : Hid (¬ y2 = 0) := q3z
                  clear q3z
                  go_wp2_with (at_builtin; refine wpList_append_own _ rfl _ _ 30 rfl (C + 1) 3 i0 (.int .i64 0) 1 8 Tryd.underlying30 hi hz0 hz1 hz2 rfl (by decide) _ _ _ rfl (HL.out.own.alloc _) _ 1 1 [.int .i64 _] rfl rfl (one_new _ _ _) (one_cell _) (by simp [maxLen]) (by simp) (HL.out.bd _) ?_; intro v1 w1 o1 g1 _; have HL : Hid (ST 23 w A C (C + 1) w1 v1 _ _ _ _ _ _ _) := HL.out.next o1 g1; clear o1 g1; have r0 := HL.out.ra.c0; have r1 := HL.out.ra.c1; have r2 := HL.out.ra.c2; have s0 := HL.out.rc.c0; have s1 := HL.out.rc.c1; have s2 := HL.out.rc.c2; have rl := HL.out.ra.lt; have sl := HL.out.rc.lt; have fz := HL.out.ra.fz)
                  go_ret
                  exact ⟨_, rfl, E.out [29 + x2, 39 + y2] (by have := Hq2.out; have := Hq2z.out; have := Hq3.out; have := Hq3z.out; rw [HN.out]; unfold cFg cBg hue; (repeat (first | rw [if_pos (by omega)] | rw [if_neg (by omega)])); rfl) _ _ _ _ _ _ _ _ HL.out⟩
        · have HN : Hid (nms x y 0 x2 y2 1 = 1 :: (cFg x x2 ++ cBg y y2)) := by show _ = _; unfold nms; rw [if_neg HEQ.out, if_neg HZE.out, if_neg (by omega)]; rfl
          by_cases q2 : x2 = x
          · have tq2 : (x != x2) = false := by simp [q2]
            have Hq2 : Hid (x2 = x) := q2
            clear q2
            by_cases q3 : y2 = y
            · have tq3 : (y != y2) = false := by simp [q3]
              have Hq3 : Hid (y2 = y) := q3
              clear q3
              go_wp2_with (at_builtin; refine wpList_append_own _ rfl _ _ 30 rfl (C + 1) 3 i0 (.int .i64 0) 1 8 Tryd.underlying30 hi hz0 hz1 hz2 rfl (by decide) _ _ _ rfl (HL.out.own.alloc _) _ 1 1 [.int .i64 _] rfl rfl (one_new _ _ _) (one_cell _) (by simp [maxLen]) (by simp) (HL.out.bd _) ?_; intro v1 w1 o1 g1 _; have HL : Hid (ST 23 w A C (C + 1) w1 v1 _ _ _ _ _ _ _) := HL.out.next o1 g1; clear o1 g1; have r0 := HL.out.ra.c0; have r1 := HL.out.ra.c1; have r2 := HL.out.ra.c2; have s0 := HL.out.rc.c0; have s1 := HL.out.rc.c1; have s2 := HL.out.rc.c2; have rl := HL.out.ra.lt; have sl := HL.out.rc.lt; have fz := HL.out.ra.fz)
              go_ret
              exact ⟨_, rfl, E.out [1] (by have := Hq2.out; have := Hq3.out; rw [HN.out]; unfold cFg cBg hue; (repeat (first | rw [if_pos (by omega)] | rw [if_neg (by omega)])); rfl) _ _ _ _ _ _ _ _ HL.out⟩
            · have tq3 : (y != y2) = true := by simp; omega
              have Hq3 : Hid (¬ y2 = y) := q3
              clear q3
              by_cases q3z : y2 = 0
              · have uq3 : (y2 == 0) = true := by simpa using q3z
                have Hq3z : Hid (y2 = 0) := q3z
                clear q3z
                go_wp2_with (at_builtin; refine wpList_append_own _ rfl _ _ 30 rfl (C + 1) 3 i0 (.int .i64 0) 1 8 Tryd.underlying30 hi hz0 hz1 hz2 rfl (by decide) _ _ _ rfl (HL.out.own.alloc _) _ 1 1 [.int .i64 _] rfl rfl (one_new _ _ _) (one_cell _) (by simp [maxLen]) (by simp) (HL.out.bd _) ?_; intro v1 w1 o1 g1 _; have HL : Hid (ST 23 w A C (C + 1) w1 v1 _ _ _ _ _ _ _) := HL.out.next o1 g1; clear o1 g1; have r0 := HL.out.ra.c0; have r1 := HL.out.ra.c1; have r2 := HL.out.ra.c2; have s0 := HL.out.rc.c0; have s1 := HL.out.rc.c1; have s2 := HL.out.rc.c2; have rl := HL.out.ra.lt; have sl := HL.out.rc.lt; have fz := HL.out.ra.fz)
                go_ret
                exact ⟨_, rfl, E.out [1, 49] (by have := Hq2.out; have := Hq3.out; have := Hq3z.out; rw [HN.out]; unfold cFg cBg hue; (repeat (first | rw [if_pos (by omega)] | rw [if_neg (by omega)])); rfl) _ _ _ _ _ _ _ _ HL.out⟩
              · have uq3 : (y2 == 0) = false := by simpa using q3z
                have Hq3z : Hid (¬ y2 = 0) := q3z
                clear q3z
                go_wp2_with (at_builtin; refine wpList_append_own _ rfl _ _ 30 rfl (C + 1) 3 i0 (.int .i64 0) 1 8 Tryd.underlying30 hi hz0 hz1 hz2 rfl (by decide) _ _ _ rfl (HL.out.own.alloc _) _ 1 1 [.int .i64 _] rfl rfl (one_new _ _ _) (one_cell _) (by simp [maxLen]) (by simp) (HL.out.bd _) ?_; intro v1 w1 o1 g1 _; have HL : Hid (ST 23 w A C (C + 1) w1 v1 _ _ _ _ _ _ _) := HL.out.next o1 g1; clear o1 g1; have r0 := HL.out.ra.c0; have r1 := HL.out.ra.c1; have r2 := HL.out.ra.c2; have s0 := HL.out.rc.c0; have s1 := HL.out.rc.c1; have s2 := HL.out.rc.c2; have rl := HL.out.ra.lt; have sl := HL.out.rc.lt; have fz := HL.out.ra.fz)
                go_ret
                exact ⟨_, rfl, E.out [1, 39 + y2] (by have := Hq2.out; have := Hq3.out; have := Hq3z.out; rw [HN.out]; unfold cFg cBg hue; (repeat (first | rw [if_pos (by omega)] | rw [if_neg (by omega)])); rfl) _ _ _ _ _ _ _ _ HL.out⟩
          · have tq2 : (x != x2) = true := by simp; omega
            have Hq2 : Hid (¬ x2 = x) := q2
            clear q2
            by_cases q2z : x2 = 0
            · have uq2 : (x2 == 0) = true := by simpa using q2z
              have Hq2z : Hid (x2 = 0) := q2z
              clear q2z
              by_cases q3 : y2 = y
              · have tq3 : (y != y2) = false := by simp [q3]
                have Hq3 : Hid (y2 = y) := q3
                clear q3
                go_wp2_with (at_builtin; refine wpList_append_own _ rfl _ _ 30 rfl (C + 1) 3 i0 (.int .i64 0) 1 8 Tryd.underlying30 hi hz0 hz1 hz2 rfl (by decide) _ _ _ rfl (HL.out.own.alloc _) _ 1 1 [.int .i64 _] rfl rfl (one_new _ _ _) (one_cell _) (by simp [maxLen]) (by simp) (HL.out.bd _) ?_; intro v1 w1 o1 g1 _; have HL : Hid (ST 23 w A C (C + 1) w1 v1 _ _ _ _ _ _ _) := HL.out.next o1 g1; clear o1 g1; have r0 := HL.out.ra.c0; have r1 := HL.out.ra.c1; have r2 := HL.out.ra.c2; have s0 := HL.out.rc.c0; have s1 := HL.out.rc.c1; have s2 := HL.out.rc.c2; have rl := HL.out.ra.lt; have sl := HL.out.rc.lt; have fz := HL.out.ra.fz)
                go_ret
                exact ⟨_, rfl, E.out [1, 39] (by have := Hq2.out; have := Hq2z.out; have := Hq3.out; rw [HN.out]; unfold cFg cBg hue; (repeat (first | rw [if_pos (by omega)] | rw [if_neg (by omega)])); rfl) _ _ _ _ _ _ _ _ HL.out⟩
              · have tq3 : (y != y2) = true := by simp; omega
                have Hq3 : Hid (¬ y2 = y) := q3
                clear q3
                by_cases q3z : y2 = 0
                · have uq3 : (y2 == 0) = true := by simpa using q3z
                  have Hq3z : Hid (y2 = 0) := q3z
                  clear q3z
                  go_wp2_with (at_builtin; refine wpList_append_own _ rfl _ _ 30 rfl (C + 1) 3 i0 (.int .i64 0) 1 8 Tryd.underlying30 hi hz0 hz1 hz2 rfl (by decide) _ _ _ rfl (HL.out.own.alloc _) _ 1 1 [.int .i64 _] rfl rfl (one_new _ _ _) (one_cell _) (by simp [maxLen]) (by simp) (HL.out.bd _) ?_; intro v1 w1 o1 g1 _; have HL : Hid (ST 23 w A C (C + 1) w1 v1 _ _ _ _ _ _ _) := HL.out.next o1 g1; clear o1 g1; have r0 := HL.out.ra.c0; have r1 := HL.out.ra.c1; have r2 := HL.out.ra.c2; have s0 := HL.out.rc.c0; have s1 := HL.out.rc.c1; have s2 := HL.out.rc.c2; have rl := HL.out.ra.lt; have sl := HL.out.rc.lt; have fz := HL.out.ra.fz)
                  go_ret
                  exact ⟨_, rfl, E.out [1, 39, 49] (by have := Hq2.out; have := Hq2z.out; have := Hq3.out; have := Hq3z.out; rw [HN.out]; unfold cFg cBg hue; (repeat (first | rw [if_pos (by omega)] | rw [if_neg (by omega)])); rfl) _ _ _ _ _ _ _ _ HL.out⟩
                · have uq3 : (y2 == 0) = false := by simpa using q3z
                  have Hq3z : Hid (¬ y2 = 0) := q3z
                  clear q3z
                  go_wp2_with (at_builtin; refine wpList_append_own _ rfl _ _ 30 rfl (C + 1) 3 i0 (.int .i64 0) 1 8 Tryd.underlying30 hi hz0 hz1 hz2 rfl (by decide) _ _ _ rfl (HL.out.own.alloc _) _ 1 1 [.int .i64 _] rfl rfl (one_new _ _ _) (one_cell _) (by simp [maxLen]) (by simp) (HL.out.bd _) ?_; intro v1 w1 o1 g1 _; have HL : Hid (ST 23 w A C (C + 1) w1 v1 _ _ _ _ _ _ _) := HL.out.next o1 g1; clear o1 g1; have r0 := HL.out.ra.c0; have r1 := HL.out.ra.c1; have r2 := HL.out.ra.c2; have s0 := HL.out.rc.c0; have s1 := HL.out.rc.c1; have s2 := HL.out.rc.c2; have rl := HL.out.ra.lt; have sl := HL.out.rc.lt; have fz := HL.out.ra.fz)
                  go_ret
                  exact ⟨_, rfl, E.out [1, 39, 39 + y2] (by have := Hq2.out; have := Hq2z.out; have := Hq3.out; have := Hq3z.out; rw [HN.out]; unfold cFg cBg hue; (repeat (first | rw [if_pos (by omega)] | rw [if_neg (by omega)])); rfl) _ _ _ _ _ _ _ _ HL.out⟩
            · have uq2 : (x2 == 0) = false := by simpa using q2z
              have Hq2z : Hid (¬ x2 = 0) := q2z
              clear q2z
              by_cases q3 : y2 = y
              · have tq3 : (y != y2) = false := by simp [q3]
                have Hq3 : Hid (y2 = y) := q3
                clear q3
                go_wp2_with (at_builtin; refine wpList_append_own _ rfl _ _ 30 rfl (C + 1) 3 i0 (.int .i64 0) 1 8 Tryd.underlying30 hi hz0 hz1 hz2 rfl (by decide) _ _ _ rfl (HL.out.own.alloc _) _ 1 1 [.int .i64 _] rfl rfl (one_new _ _ _) (one_cell _) (by simp [maxLen]) (by simp) (HL.out.bd _) ?_; intro v1 w1 o1 g1 _; have HL : Hid (ST 23 w A C (C + 1) w1 v1 _ _ _ _ _ _ _) := HL.out.next o1 g1; clear o1 g1; have r0 := HL.out.ra.c0; have r1 := HL.out.ra.c1; have r2 := HL.out.ra.c2; have s0 := HL.out.rc.c0; have s1 := HL.out.rc.c1; have s2 := HL.out.rc.c2; have rl := HL.out.ra.lt; have sl := HL.out.rc.lt; have fz := HL.out.ra.fz)
                go_ret
                exact ⟨_, rfl, E.out [1, 29 + x2] (by have := Hq2.out; have := Hq2z.out; have := Hq3.out; rw [HN.out]; unfold cFg cBg hue; (repeat (first | rw [if_pos (by omega)] | rw [if_neg (by omega)])); rfl) _ _ _ _ _ _ _ _ HL.out⟩
              · have tq3 : (y != y2) = true := by simp; omega
                have Hq3 : Hid (¬ y2 = y) := q3
                clear q3
                by_cases q3z : y2 = 0
                · have uq3 : (y2 == 0) = true := by simpa using q3z
                  have Hq3z : Hid (y2 = 0) := q3z
                  clear q3z
                  go_wp2_with (at_builtin; refine wpList_append_own _ rfl _ _ 30 rfl (C + 1) 3 i0 (.int .i64 0) 1 8 Tryd.underlying30 hi hz0 hz1 hz2 rfl (by decide) _ _ _ rfl (HL.out.own.alloc _) _ 1 1 [.int .i64 _] rfl rfl (one_new _ _ _) (one_cell _) (by simp [maxLen]) (by simp) (HL.out.bd _) ?_; intro v1 w1 o1 g1 _; have HL : Hid (ST 23 w A C (C + 1) w1 v1 _ _ _ _ _ _ _) := HL.out.next o1 g1; clear o1 g1; have r0 := HL.out.ra.c0; have r1 := HL.out.ra.c1; have r2 := HL.out.ra.c2; have s0 := HL.out.rc.c0; have s1 := HL.out.rc.c1; have s2 := HL.out.rc.c2; have rl := HL.out.ra.lt; have sl := HL.out.rc.lt; have fz := HL.out.ra.fz)
                  go_ret
                  exact ⟨_, rfl, E.out [1, 29 + x2, 49] (by have := Hq2.out; have := Hq2z.out; have := Hq3.out; have := Hq3z.out; rw [HN.out]; unfold cFg cBg hue; (repeat (first | rw [if_pos (by omega)] | rw [if_neg (by omega)])); rfl) _ _ _ _ _ _ _ _ HL.out⟩
                · have uq3 : (y2 == 0) = false := by simpa using q3z
                  have Hq3z : Hid (¬ y2 = 0) := q3z
                  clear q3z
                  go_wp2_with (at_builtin; refine wpList_append_own _ rfl _ _ 30 rfl (C + 1) 3 i0 (.int .i64 0) 1 8 Tryd.underlying30 hi hz0 hz1 hz2 rfl (by decide) _ _ _ rfl (HL.out.own.alloc _) _ 1 1 [.int .i64 _] rfl rfl (one_new _ _ _) (one_cell _) (by simp [maxLen]) (by simp) (HL.out.bd _) ?_; intro v1 w1 o1 g1 _; have HL : Hid (ST 23 w A C (C + 1) w1 v1 _ _ _ _ _ _ _) := HL.out.next o1 g1; clear o1 g1; have r0 := HL.out.ra.c0; have r1 := HL.out.ra.c1; have r2 := HL.out.ra.c2; have s0 := HL.out.rc.c0; have s1 := HL.out.rc.c1; have s2 := HL.out.rc.c2; have rl := HL.out.ra.lt; have sl := HL.out.rc.lt; have fz := HL.out.ra.fz)
                  go_ret
                  exact ⟨_, rfl, E.out [1, 29 + x2, 39 + y2] (by have := Hq2.out; have := Hq2z.out; have := Hq3.out; have := Hq3z.out; rw [HN.out]; unfold cFg cBg hue; (repeat (first | rw [if_pos (by omega)] | rw [if_neg (by omega)])); rfl) _ _ _ _ _ _ _ _ HL.out⟩
        · have HN : Hid (nms x y 1 x2 y2 1 = cFg x x2 ++ cBg y y2) := by show _ = _; unfold nms; rw [if_neg HEQ.out, if_neg HZE.out, if_neg (by omega)]; rfl
          by_cases q2 : x2 = x
          · have tq2 : (x != x2) = false := by simp [q2]
            have Hq2 : Hid (x2 = x) := q2
            clear q2
            by_cases q3 : y2 = y
            · have tq3 : (y != y2) = false := by simp [q3]
              have Hq3 : Hid (y2 = y) := q3
              clear q3
              go_wp2_with (at_builtin; refine wpList_append_own _ rfl _ _ 30 rfl (C + 1) 3 i0 (.int .i64 0) 1 8 Tryd.underlying30 hi hz0 hz1 hz2 rfl (by decide) _ _ _ rfl (HL.out.own.alloc _) _ 1 1 [.int .i64 _] rfl rfl (one_new _ _ _) (one_cell _) (by simp [maxLen]) (by simp) (HL.out.bd _) ?_; intro v1 w1 o1 g1 _; have HL : Hid (ST 23 w A C (C + 1) w1 v1 _ _ _ _ _ _ _) := HL.out.next o1 g1; clear o1 g1; have r0 := HL.out.ra.c0; have r1 := HL.out.ra.c1; have r2 := HL.out.ra.c2; have s0 := HL.out.rc.c0; have s1 := HL.out.rc.c1; have s2 := HL.out.rc.c2; have rl := HL.out.ra.lt; have sl := HL.out.rc.lt; have fz := HL.out.ra.fz)
              go_ret
              exact ⟨_, rfl, E.out [] (by have := Hq2.out; have := Hq3.out; rw [HN.out]; unfold cFg cBg hue; (repeat (first | rw [if_pos (by omega)] | rw [if_neg (by omega)])); rfl) _ _ _ _ _ _ _ _ HL.out⟩
            · have tq3 : (y != y2) = true := by simp; omega
              have Hq3 : Hid (¬ y2 = y) := q3
              clear q3
              by_cases q3z : y2 = 0
              · have uq3 : (y2 == 0) = true := by simpa using q3z
                have Hq3z : Hid (y2 = 0) := q3z
                clear q3z
                go_wp2_with (at_builtin; refine wpList_append_own _ rfl _ _ 30 rfl (C + 1) 3 i0 (.int .i64 0) 1 8 Tryd.underlying30 hi hz0 hz1 hz2 rfl (by decide) _ _ _ rfl (HL.out.own.alloc _) _ 1 1 [.int .i64 _] rfl rfl (one_new _ _ _) (one_cell _) (by simp [maxLen]) (by simp) (HL.out.bd _) ?_; intro v1 w1 o1 g1 _; have HL : Hid (ST 23 w A C (C + 1) w1 v1 _ _ _ _ _ _ _) := HL.out.next o1 g1; clear o1 g1; have r0 := HL.out.ra.c0; have r1 := HL.out.ra.c1; have r2 := HL.out.ra.c2; have s0 := HL.out.rc.c0; have s1 := HL.out.rc.c1; have s2 := HL.out.rc.c2; have rl := HL.out.ra.lt; have sl := HL.out.rc.lt; have fz := HL.out.ra.fz)
                go_ret
                exact ⟨_, rfl, E.out [49] (by have := Hq2.out; have := Hq3.out; have := Hq3z.out; rw [HN.out]; unfold cFg cBg hue; (repeat (first | rw [if_pos (by omega)] | rw [if_neg (by omega)])); rfl) _ _ _ _ _ _ _ _ HL.out⟩
              · have uq3 : (y2 == 0) = false := by simpa using q3z
                have Hq3z : Hid (¬ y2 = 0) := q3z
                clear q3z
                go_wp2_with (at_builtin; refine wpList_append_own _ rfl _ _ 30 rfl (C + 1) 3 i0 (.int .i64 0) 1 8 Tryd.underlying30 hi hz0 hz1 hz2 rfl (by decide) _ _ _ rfl (HL.out.own.alloc _) _ 1 1 [.int .i64 _] rfl rfl (one_new _ _ _) (one_cell _) (by simp [maxLen]) (by simp) (HL.out.bd _) ?_; intro v1 w1 o1 g1 _; have HL : Hid (ST 23 w A C (C + 1) w1 v1 _ _ _ _ _ _ _) := HL.out.next o1 g1; clear o1 g1; have r0 := HL.out.ra.c0; have r1 := HL.out.ra.c1; have r2 := HL.out.ra.c2; have s0 := HL.out.rc.c0; have s1 := HL.out.rc.c1; have s2 := HL.out.rc.c2; have rl := HL.out.ra.lt; have sl := HL.out.rc.lt; have fz := HL.out.ra.fz)
                go_ret
                exact ⟨_, rfl, E.out [39 + y2] (by have := Hq2.out; have := Hq3.out; have := Hq3z.out; rw [HN.out]; unfold cFg cBg hue; (repeat (first | rw [if_pos (by omega)] | rw [if_neg (by omega)])); rfl) _ _ _ _ _ _ _ _ HL.out⟩
          · have tq2 : (x != x2) = true := by simp; omega
            have Hq2 : Hid (¬ x2 = x) := q2
            clear q2
            by_cases q2z : x2 = 0
            · have uq2 : (x2 == 0) = true := by simpa using q2z
              have Hq2z : Hid (x2 = 0) := q2z
              clear q2z
              by_cases q3 : y2 = y
              · have tq3 : (y != y2) = false := by simp [q3]
                have Hq3 : Hid (y2 = y) := q3
                clear q3
                go_wp2_with (at_builtin; refine wpList_append_own _ rfl _ _ 30 rfl (C + 1) 3 i0 (.int .i64 0) 1 8 Tryd.underlying30 hi hz0 hz1 hz2 rfl (by decide) _ _ _ rfl (HL.out.own.alloc _) _ 1 1 [.int .i64 _] rfl rfl (one_new _ _ _) (one_cell _) (by simp [maxLen]) (by simp) (HL.out.bd _) ?_; intro v1 w1 o1 g1 _; have HL : Hid (ST 23 w A C (C + 1) w1 v1 _ _ _ _ _ _ _) := HL.out.next o1 g1; clear o1 g1; have r0 := HL.out.ra.c0; have r1 := HL.out.ra.c1; have r2 := HL.out.ra.c2; have s0 := HL.out.rc.c0; have s1 := HL.out.rc.c1; have s2 := HL.out.rc.c2; have rl := HL.out.ra.lt; have sl := HL.out.rc.lt; have fz := HL.out.ra.fz)
                go_ret
                exact ⟨_, rfl, E.out [39] (by have := Hq2.out; have := Hq2z.out; have := Hq3.out; rw [HN.out]; unfold cFg cBg hue; (repeat (first | rw [if_pos (by omega)] | rw [if_neg (by omega)])); rfl) _ _ _ _ _ _ _ _ HL.out⟩
              · have tq3 : (y != y2) = true := by simp; omega
                have Hq3 : Hid (¬ y2 = y) := q3
                clear q3
                by_cases q3z : y2 = 0
                · have uq3 : (y2 == 0) = true := by simpa using q3z
                  have Hq3z : Hid (y2 = 0) := q3z
                  clear q3z
                  go_wp2_with (at_builtin; refine wpList_append_own _ rfl _ _ 30 rfl (C + 1) 3 i0 (.int .i64 0) 1 8 Tryd.underlying30 hi hz0 hz1 hz2 rfl (by decide) _ _ _ rfl (HL.out.own.alloc _) _ 1 1 [.int .i64 _] rfl rfl (one_new _ _ _) (one_cell _) (by simp [maxLen]) (by simp) (HL.out.bd _) ?_; intro v1 w1 o1 g1 _; have HL : Hid (ST 23 w A C (C + 1) w1 v1 _ _ _ _ _ _ _) := HL.out.next o1 g1; clear o1 g1; have r0 := HL.out.ra.c0; have r1 := HL.out.ra.c1; have r2 := HL.out.ra.c2; have s0 := HL.out.rc.c0; have s1 := HL.out.rc.c1; have s2 := HL.out.rc.c2; have rl := HL.out.ra.lt; have sl := HL.out.rc.lt; have fz := HL.out.ra.fz)
                  go_ret
                  exact ⟨_, rfl, E.out [39, 49] (by have := Hq2.out; have := Hq2z.out; have := Hq3.out; have := Hq3z.out; rw [HN.out]; unfold cFg cBg hue; (repeat (first | rw [if_pos (by omega)] | rw [if_neg (by omega)])); rfl) _ _ _ _ _ _ _ _ HL.out⟩
                · have uq3 : (y2 == 0) = false := by simpa using q3z
                  have Hq3z : Hid (¬ y2 = 0) := q3z
                  clear q3z
                  go_wp2_with (at_builtin; refine wpList_append_own _ rfl _ _ 30 rfl (C + 1) 3 i0 (.int .i64 0) 1 8 Tryd.underlying30 hi hz0 hz1 hz2 rfl (by decide) _ _ _ rfl (HL.out.own.alloc _) _ 1 1 [.int .i64 _] rfl rfl (one_new _ _ _) (one_cell _) (by simp [maxLen]) (by simp) (HL.out.bd _) ?_; intro v1 w1 o1 g1 _; have HL : Hid (ST 23 w A C (C + 1) w1 v1 _ _ _ _ _ _ _) := HL.out.next o1 g1; clear o1 g1; have r0 := HL.out.ra.c0; have r1 := HL.out.ra.c1; have r2 := HL.out.ra.c2; have s0 := HL.out.rc.c0; have s1 := HL.out.rc.c1; have s2 := HL.out.rc.c2; have rl := HL.out.ra.lt; have sl := HL.out.rc.lt; have fz := HL.out.ra.fz)
                  go_ret
                  exact ⟨_, rfl, E.out [39, 39 + y2] (by have := Hq2.out; have := Hq2z.out; have := Hq3.out; have := Hq3z.out; rw [HN.out]; unfold cFg cBg hue; (repeat (first | rw [if_pos (by omega)] | rw [if_neg (by omega)])); rfl) _ _ _ _ _ _ _ _ HL.out⟩
            · have uq2 : (x2 == 0) = false := by simpa using q2z
              have Hq2z : Hid (¬ x2 = 0) := q2z
              clear q2z
              by_cases q3 : y2 = y
              · have tq3 : (y != y2) = false := by simp [q3]
                have Hq3 : Hid (y2 = y) := q3
                clear q3
                go_wp2_with (at_builtin; refine wpList_append_own _ rfl _ _ 30 rfl (C + 1) 3 i0 (.int .i64 0) 1 8 Tryd.underlying30 hi hz0 hz1 hz2 rfl (by decide) _ _ _ rfl (HL.out.own.alloc _) _ 1 1 [.int .i64 _] rfl rfl (one_new _ _ _) (one_cell _) (by simp [maxLen]) (by simp) (HL.out.bd _) ?_; intro v1 w1 o1 g1 _; have HL : Hid (ST 23 w A C (C + 1) w1 v1 _ _ _ _ _ _ _) := HL.out.next o1 g1; clear o1 g1; have r0 := HL.out.ra.c0; have r1 := HL.out.ra.c1; have r2 := HL.out.ra.c2; have s0 := HL.out.rc.c0; have s1 := HL.out.rc.c1; have s2 := HL.out.rc.c2; have rl := HL.out.ra.lt; have sl := HL.out.rc.lt; have fz := HL.out.ra.fz)
                go_ret
                exact ⟨_, rfl, E.out [29 + x2] (by have := Hq2.out; have := Hq2z.out; have := Hq3.out; rw [HN.out]; unfold cFg cBg hue; (repeat (first | rw [if_pos (by omega)] | rw [if_neg (by omega)])); rfl) _ _ _ _ _ _ _ _ HL.out⟩
              · have tq3 : (y != y2) = true := by simp; omega
                have Hq3 : Hid (¬ y2 = y) := q3
                clear q3
                by_cases q3z : y2 = 0
                · have uq3 : (y2 == 0) = true := by simpa using q3z
                  have Hq3z : Hid (y2 = 0) := q3z
                  clear q3z
                  go_wp2_with (at_builtin; refine wpList_append_own _ rfl _ _ 30 rfl (C + 1) 3 i0 (.int .i64 0) 1 8 Tryd.underlying30 hi hz0 hz1 hz2 rfl (by decide) _ _ _ rfl (HL.out.own.alloc _) _ 1 1 [.int .i64 _] rfl rfl (one_new _ _ _) (one_cell _) (by simp [maxLen]) (by simp) (HL.out.bd _) ?_; intro v1 w1 o1 g1 _; have HL : Hid (ST 23 w A C (C + 1) w1 v1 _ _ _ _ _ _ _) := HL.out.next o1 g1; clear o1 g1; have r0 := HL.out.ra.c0; have r1 := HL.out.ra.c1; have r2 := HL.out.ra.c2; have s0 := HL.out.rc.c0; have s1 := HL.out.rc.c1; have s2 := HL.out.rc.c2; have rl := HL.out.ra.lt; have sl := HL.out.rc.lt; have fz := HL.out.ra.fz)
                  go_ret
                  exact ⟨_, rfl, E.out [29 + x2, 49] (by have := Hq2.out; have := Hq2z.out; have := Hq3.out; have := Hq3z.out; rw [HN.out]; unfold cFg cBg hue; (repeat (first | rw [if_pos (by omega)] | rw [if_neg (by omega)])); rfl) _ _ _ _ _ _ _ _ HL.out⟩
                · have uq3 : (y2 == 0) = false := by simpa using q3z
                  have Hq3z : Hid (¬ y2 = 0) := q3z
                  clear q3z
                  go_wp2_with (at_builtin; refine wpList_append_own _ rfl _ _ 30 rfl (C + 1) 3 i0 (.int .i64 0) 1 8 Tryd.underlying30 hi hz0 hz1 hz2 rfl (by decide) _ _ _ rfl (HL.out.own.alloc _) _ 1 1 [.int .i64 _] rfl rfl (one_new _ _ _) (one_cell _) (by simp [maxLen]) (by simp) (HL.out.bd _) ?_; intro v1 w1 o1 g1 _; have HL : Hid (ST 23 w A C (C + 1) w1 v1 _ _ _ _ _ _ _) := HL.out.next o1 g1; clear o1 g1; have r0 := HL.out.ra.c0; have r1 := HL.out.ra.c1; have r2 := HL.out.ra.c2; have s0 := HL.out.rc.c0; have s1 := HL.out.rc.c1; have s2 := HL.out.rc.c2; have rl := HL.out.ra.lt; have sl := HL.out.rc.lt; have fz := HL.out.ra.fz)
                  go_ret
                  exact ⟨_, rfl, E.out [29 + x2, 39 + y2] (by have := Hq2.out; have := Hq2z.out; have := Hq3.out; have := Hq3z.out; rw [HN.out]; unfold cFg cBg hue; (repeat (first | rw [if_pos (by omega)] | rw [if_neg (by omega)])); rfl) _ _ _ _ _ _ _ _ HL.out⟩
end Go.Proofs.YtepkoiijdckcnafDoor
