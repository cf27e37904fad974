/-
  style.Over.
-/
import Derived.Test.YtkdajaphbmclkaaGreatDoorYSnd
import Derived.Test.YtkdajaphbmclkaaGreatDoorCMath
import Derived.Laws.AppendOwn
import Derived.Test.YtkdajaphbmclkaaGreatDoorYNum
namespace Go.Proofs.YtkdajaphbmclkaaGreatDoor
open Go.RowKit Go.Sort
set_option linter.unusedVariables false

/-- One number over another one. -/
def ov (a b : Int) : Int := if kn b = 0 then kn a else kn b
def obo (a b : Int) : Int := max (bo b) (bo a)
theorem ov_bd (a b : Int) : 0 ≤ ov a b ∧ ov a b ≤ 8 := by have := kn_bd a; have := kn_bd b; unfold ov; split <;> omega
theorem obo_bd (a b : Int) : 0 ≤ obo a b ∧ obo a b ≤ 1 := by have := bo_bd a; have := bo_bd b; unfold obo; omega
theorem kn_of {n : Int} (h : 0 ≤ n ∧ n ≤ 8) : kn n = n := if_neg (by omega)
theorem bo_of {n : Int} (h : 0 ≤ n ∧ n ≤ 1) : bo n = n := by unfold bo; split <;> omega
theorem kn_ov (a b : Int) : kn (ov a b) = ov a b := kn_of (ov_bd a b)
theorem bo_obo (a b : Int) : bo (obo a b) = obo a b := bo_of (obo_bd a b)
theorem ov_ov (a b c : Int) : ov (ov a b) c = ov a (ov b c) := by
  have e1 : ov (ov a b) c = if kn c = 0 then ov a b else kn c := by show (if kn c = 0 then kn (ov a b) else kn c) = _; rw [kn_ov]
  have e2 : ov a (ov b c) = if ov b c = 0 then kn a else ov b c := by show (if kn (ov b c) = 0 then kn a else kn (ov b c)) = _; rw [kn_ov]
  rw [e1, e2]
  unfold ov
  (repeat' split) <;> omega
theorem obo_obo (a b c : Int) : obo (obo a b) c = obo a (obo b c) := by
  have e1 : obo (obo a b) c = max (bo c) (obo a b) := by show max (bo c) (bo (obo a b)) = _; rw [bo_obo]
  have e2 : obo a (obo b c) = max (obo b c) (bo a) := by show max (bo (obo b c)) (bo a) = _; rw [bo_obo]
  rw [e1, e2]; unfold obo; omega
theorem ov_one (a : Int) {c : Int} (h : 1 ≤ c ∧ c ≤ 8) : ov a c = c := by
  have : kn c = c := kn_of (by omega)
  unfold ov; rw [this, if_neg (by omega)]
theorem obo_one (a : Int) : obo a 1 = 1 := by have := bo_bd a; have : bo 1 = 1 := rfl; unfold obo; omega
theorem ov_zero (a : Int) : ov 0 a = kn a := by have : kn 0 = 0 := rfl; unfold ov; split <;> omega
theorem obo_zero (a : Int) : obo 0 a = bo a := by have : bo 0 = 0 := rfl; have := bo_bd a; unfold obo; omega
theorem ov_self (a : Int) : ov (kn a) (kn a) = kn a := by unfold ov; rw [kn_kn]; split <;> omega
theorem obo_self (a : Int) : obo (bo a) (bo a) = bo a := by unfold obo; rw [bo_bo]; omega

theorem rv3 {a b c a' b' c' : Int} (h0 : a = a') (h1 : b = b') (h2 : c = c') : Ending.returned (.agg #[.int .i64 a, .int .i64 b, .int .i64 c]) = Ending.returned (sv a' b' c') := by subst h0 h1 h2; rfl
set_option maxRecDepth 100000 in
set_option maxHeartbeats 4000000 in
theorem over_any (f g b f2 g2 b2 : Int) (w : World) : Calls Tryz.prog 68 #[sv f g b, sv f2 g2 b2] w fun e w' => e = .returned (sv (ov f f2) (ov g g2) (obo b b2)) ∧ Gr w w' := by
  have CC : Hid (∀ f g b w, Calls Tryz.prog 71 #[sv f g b] w fun e w' => e = .returned (sv (kn f) (kn g) (bo b)) ∧ Gr w w') := counted_any
  unfold sv at CC ⊢
  go_enter Tryz.func68, Tryz.ntmps68
  go_wp2_with fail
  obtain ⟨S, hS⟩ : ∃ x, w.heap.size = x := ⟨_, rfl⟩
  obtain ⟨W0, hW0⟩ : ∃ x, ((w.alloc (.cells #[.int .i64 f, .int .i64 g, .int .i64 b] 50)).alloc (.cells #[.int .i64 f2, .int .i64 g2, .int .i64 b2] 50)).alloc (.cells #[.int .i64 0, .int .i64 0, .int .i64 0] 50) = x := ⟨_, rfl⟩
  have G0 : Hid (Gr w W0) := by rw [← hW0]; exact (((Gr.refl w).alloc _).alloc _).alloc _
  have RA : Hid (R3 50 W0 S f g b) := by rw [← hW0, ← hS]; exact (R3.new w _ _ _ _).gr (((Gr.refl _).alloc _).alloc _)
  have RB : Hid (R3 50 W0 (S + 1) f2 g2 b2) := by
    have := R3.new (w.alloc (.cells #[.int .i64 f, .int .i64 g, .int .i64 b] 50)) f2 g2 b2 50
    simp only [World.size_alloc, hS] at this
    rw [← hW0]; exact this.gr ((Gr.refl _).alloc _)
  have RC : Hid (R3 50 W0 (S + 1 + 1) 0 0 0) := by
    have := R3.new ((w.alloc (.cells #[.int .i64 f, .int .i64 g, .int .i64 b] 50)).alloc (.cells #[.int .i64 f2, .int .i64 g2, .int .i64 b2] 50)) 0 0 0 50
    simp only [World.size_alloc, hS] at this
    rw [← hW0]; exact this
  rw [hW0, hS]
  clear hW0
  have HS : Hid (w.heap.size = S) := hS
  clear hS
  have a0 := RA.out.c0
  have a1 := RA.out.c1
  have a2 := RA.out.c2
  have b0 := RB.out.c0
  have b1 := RB.out.c1
  have b2' := RB.out.c2
  obtain ⟨x, hx⟩ : ∃ z, kn f = z := ⟨_, rfl⟩
  obtain ⟨y, hy⟩ : ∃ z, kn g = z := ⟨_, rfl⟩
  obtain ⟨z, hz⟩ : ∃ z, bo b = z := ⟨_, rfl⟩
  obtain ⟨x2, hx2⟩ : ∃ z, kn f2 = z := ⟨_, rfl⟩
  obtain ⟨y2, hy2⟩ : ∃ z, kn g2 = z := ⟨_, rfl⟩
  obtain ⟨z2, hz2⟩ : ∃ z, bo b2 = z := ⟨_, rfl⟩
  have HV : Hid (sv (ov f f2) (ov g g2) (obo b b2) = sv (if x2 = 0 then x else x2) (if y2 = 0 then y else y2) (max z2 z)) := by show _ = _; unfold ov obo; rw [hx, hy, hz, hx2, hy2, hz2]
  have bz := bo_bd b
  have bz2 := bo_bd b2
  rw [hz] at bz
  rw [hz2] at bz2
  have C1 := CC.out f g b
  have C2 := CC.out f2 g2 b2
  rw [hx, hy, hz] at C1
  rw [hx2, hy2, hz2] at C2
  go_cut [2, 3, 4] from 5 to 9 (fun u v t wx => u = .pointer (some ⟨S, 0, none⟩) ∧ v = .pointer (some ⟨S + 1, 0, none⟩) ∧ t = .pointer (some ⟨S + 1 + 1, 0, none⟩) ∧ Hid (R3 50 wx S x y z ∧ R3 50 wx (S + 1) x2 y2 z2 ∧ R3 50 wx (S + 1 + 1) 0 0 0 ∧ Gr w wx))
  case first =>
    go_region_with (go_at_call 71; (first | (with_reducible refine Calls.mono (C1 _) ?_) | (with_reducible refine Calls.mono (C2 _) ?_)); rintro e wn ⟨rfl, hgn⟩; have HGn : Hid (Gr W0 wn) := (by first | exact ((Gr.refl W0).drew).trans hgn | exact Gr.trans (Hid.out (by assumption)) hgn); have HAn : Hid (R3 50 wn S f g b) := RA.out.gr HGn.out; have HBn : Hid (R3 50 wn (S + 1) f2 g2 b2) := RB.out.gr HGn.out; clear hgn; have m0 := HAn.out.c0; have m1 := HAn.out.c1; have m2 := HAn.out.c2; have n0 := HBn.out.c0; have n1 := HBn.out.c1; have n2 := HBn.out.c2; have f0 := HAn.out.fz 0; have f1 := HAn.out.fz 1; have f2' := HAn.out.fz 2; have g0 := HBn.out.fz 0; have g1 := HBn.out.fz 1; have g2' := HBn.out.fz 2)
    all_goals
      have HO : Hid (R3 50 ((((((wn.setCell ⟨S, 0, none⟩ (.int .i64 x)).setCell ⟨S, 1, none⟩ (.int .i64 y)).setCell ⟨S, 2, none⟩ (.int .i64 z)).setCell ⟨S + 1, 0, none⟩ (.int .i64 x2)).setCell ⟨S + 1, 1, none⟩ (.int .i64 y2)).setCell ⟨S + 1, 2, none⟩ (.int .i64 z2)) S x y z ∧ R3 50 ((((((wn.setCell ⟨S, 0, none⟩ (.int .i64 x)).setCell ⟨S, 1, none⟩ (.int .i64 y)).setCell ⟨S, 2, none⟩ (.int .i64 z)).setCell ⟨S + 1, 0, none⟩ (.int .i64 x2)).setCell ⟨S + 1, 1, none⟩ (.int .i64 y2)).setCell ⟨S + 1, 2, none⟩ (.int .i64 z2)) (S + 1) x2 y2 z2 ∧ R3 50 ((((((wn.setCell ⟨S, 0, none⟩ (.int .i64 x)).setCell ⟨S, 1, none⟩ (.int .i64 y)).setCell ⟨S, 2, none⟩ (.int .i64 z)).setCell ⟨S + 1, 0, none⟩ (.int .i64 x2)).setCell ⟨S + 1, 1, none⟩ (.int .i64 y2)).setCell ⟨S + 1, 2, none⟩ (.int .i64 z2)) (S + 1 + 1) 0 0 0 ∧ Gr w ((((((wn.setCell ⟨S, 0, none⟩ (.int .i64 x)).setCell ⟨S, 1, none⟩ (.int .i64 y)).setCell ⟨S, 2, none⟩ (.int .i64 z)).setCell ⟨S + 1, 0, none⟩ (.int .i64 x2)).setCell ⟨S + 1, 1, none⟩ (.int .i64 y2)).setCell ⟨S + 1, 2, none⟩ (.int .i64 z2))) :=
        ⟨(HAn.out.set x y z).others (by omega) _ _ _, (HBn.out.others (by omega) _ _ _).set x2 y2 z2, ((RC.out.gr HGn.out).others (by omega) _ _ _).others (by omega) _ _ _, ((G0.out.trans HGn.out).set3 (by rw [HS.out]; omega) _ _ _).set3 (by rw [HS.out]; omega) _ _ _⟩
      clear m0 m1 m2 n0 n1 n2 f0 f1 f2' g0 g1 g2' a0 a1 a2 b0 b1 b2' HAn HBn
      go_wp2_with fail
      go_meet
      exact ⟨rfl, rfl, rfl, HO.out⟩
  case rest =>
    obtain ⟨rfl, rfl, rfl, HO⟩ := hcut
    clear a0 a1 a2 b0 b1 b2' RA RB RC
    have a0 := HO.out.1.c0
    have a1 := HO.out.1.c1
    have a2 := HO.out.1.c2
    have b0 := HO.out.2.1.c0
    have b1 := HO.out.2.1.c1
    have b2' := HO.out.2.1.c2
    have g0 := HO.out.2.1.fz 0
    have g1 := HO.out.2.1.fz 1
    have g2' := HO.out.2.1.fz 2
    have gg := HO.out.2.2.2
    by_cases h1 : x2 = 0
    · by_cases h2 : y2 = 0
      · by_cases h3 : z2 < z
        · have h3' : z2 ≤ z := by omega
          have RN := (((HO.out.2.1.set0 x).set1 y).set2 z)
          have RO := (((HO.out.2.2.1.other (k := S + 1) (o := 0) (show S + 1 + 1 ≠ S + 1 by omega) (.int .i64 x)).other (k := S + 1) (o := 1) (show S + 1 + 1 ≠ S + 1 by omega) (.int .i64 y)).other (k := S + 1) (o := 2) (show S + 1 + 1 ≠ S + 1 by omega) (.int .i64 z))
          have GN := (((gg.set (o := 0) (show w.heap.size ≤ S + 1 by rw [HS.out]; omega) (.int .i64 x)).set (o := 1) (show w.heap.size ≤ S + 1 by rw [HS.out]; omega) (.int .i64 y)).set (o := 2) (show w.heap.size ≤ S + 1 by rw [HS.out]; omega) (.int .i64 z))
          have n0 := RN.c0
          have n1 := RN.c1
          have n2 := RN.c2
          have o0 := RO.c0
          have o1 := RO.c1
          have o2 := RO.c2
          have k0 := RO.fz 0
          have k1 := RO.fz 1
          have k2 := RO.fz 2
          go_wp2
          refine bodyPost_ret (results_cell_row rfl _ _ (S + 1 + 1) _ _ _ _ rfl (RO.set _ _ _) Tryz.underlying50 rfl (by kernel_rfl)) rfl ?_
          exact ⟨by show _ = Ending.returned (sv (ov f f2) (ov g g2) (obo b b2)); rw [HV.out, if_pos h1, if_pos h2, show max z2 z = z by omega]; rfl, GN.set3 (show w.heap.size ≤ S + 1 + 1 by rw [HS.out]; omega) _ _ _⟩
        · have h3' : z ≤ z2 := by omega
          have RN := (((HO.out.2.1.set0 x).set1 y).set2 z2)
          have RO := (((HO.out.2.2.1.other (k := S + 1) (o := 0) (show S + 1 + 1 ≠ S + 1 by omega) (.int .i64 x)).other (k := S + 1) (o := 1) (show S + 1 + 1 ≠ S + 1 by omega) (.int .i64 y)).other (k := S + 1) (o := 2) (show S + 1 + 1 ≠ S + 1 by omega) (.int .i64 z2))
          have GN := (((gg.set (o := 0) (show w.heap.size ≤ S + 1 by rw [HS.out]; omega) (.int .i64 x)).set (o := 1) (show w.heap.size ≤ S + 1 by rw [HS.out]; omega) (.int .i64 y)).set (o := 2) (show w.heap.size ≤ S + 1 by rw [HS.out]; omega) (.int .i64 z2))
          have n0 := RN.c0
          have n1 := RN.c1
          have n2 := RN.c2
          have o0 := RO.c0
          have o1 := RO.c1
          have o2 := RO.c2
          have k0 := RO.fz 0
          have k1 := RO.fz 1
          have k2 := RO.fz 2
          go_wp2
          refine bodyPost_ret (results_cell_row rfl _ _ (S + 1 + 1) _ _ _ _ rfl (RO.set _ _ _) Tryz.underlying50 rfl (by kernel_rfl)) rfl ?_
          exact ⟨by show _ = Ending.returned (sv (ov f f2) (ov g g2) (obo b b2)); rw [HV.out, if_pos h1, if_pos h2, show max z2 z = z2 by omega]; rfl, GN.set3 (show w.heap.size ≤ S + 1 + 1 by rw [HS.out]; omega) _ _ _⟩
      · by_cases h3 : z2 < z
        · have h3' : z2 ≤ z := by omega
          have RN := ((HO.out.2.1.set0 x).set2 z)
          have RO := ((HO.out.2.2.1.other (k := S + 1) (o := 0) (show S + 1 + 1 ≠ S + 1 by omega) (.int .i64 x)).other (k := S + 1) (o := 2) (show S + 1 + 1 ≠ S + 1 by omega) (.int .i64 z))
          have GN := ((gg.set (o := 0) (show w.heap.size ≤ S + 1 by rw [HS.out]; omega) (.int .i64 x)).set (o := 2) (show w.heap.size ≤ S + 1 by rw [HS.out]; omega) (.int .i64 z))
          have n0 := RN.c0
          have n1 := RN.c1
          have n2 := RN.c2
          have o0 := RO.c0
          have o1 := RO.c1
          have o2 := RO.c2
          have k0 := RO.fz 0
          have k1 := RO.fz 1
          have k2 := RO.fz 2
          go_wp2
          refine bodyPost_ret (results_cell_row rfl _ _ (S + 1 + 1) _ _ _ _ rfl (RO.set _ _ _) Tryz.underlying50 rfl (by kernel_rfl)) rfl ?_
          exact ⟨by show _ = Ending.returned (sv (ov f f2) (ov g g2) (obo b b2)); rw [HV.out, if_pos h1, if_neg h2, show max z2 z = z by omega]; rfl, GN.set3 (show w.heap.size ≤ S + 1 + 1 by rw [HS.out]; omega) _ _ _⟩
        · have h3' : z ≤ z2 := by omega
          have RN := ((HO.out.2.1.set0 x).set2 z2)
          have RO := ((HO.out.2.2.1.other (k := S + 1) (o := 0) (show S + 1 + 1 ≠ S + 1 by omega) (.int .i64 x)).other (k := S + 1) (o := 2) (show S + 1 + 1 ≠ S + 1 by omega) (.int .i64 z2))
          have GN := ((gg.set (o := 0) (show w.heap.size ≤ S + 1 by rw [HS.out]; omega) (.int .i64 x)).set (o := 2) (show w.heap.size ≤ S + 1 by rw [HS.out]; omega) (.int .i64 z2))
          have n0 := RN.c0
          have n1 := RN.c1
          have n2 := RN.c2
          have o0 := RO.c0
          have o1 := RO.c1
          have o2 := RO.c2
          have k0 := RO.fz 0
          have k1 := RO.fz 1
          have k2 := RO.fz 2
          go_wp2
          refine bodyPost_ret (results_cell_row rfl _ _ (S + 1 + 1) _ _ _ _ rfl (RO.set _ _ _) Tryz.underlying50 rfl (by kernel_rfl)) rfl ?_
          exact ⟨by show _ = Ending.returned (sv (ov f f2) (ov g g2) (obo b b2)); rw [HV.out, if_pos h1, if_neg h2, show max z2 z = z2 by omega]; rfl, GN.set3 (show w.heap.size ≤ S + 1 + 1 by rw [HS.out]; omega) _ _ _⟩
    · by_cases h2 : y2 = 0
      · by_cases h3 : z2 < z
        · have h3' : z2 ≤ z := by omega
          have RN := ((HO.out.2.1.set1 y).set2 z)
          have RO := ((HO.out.2.2.1.other (k := S + 1) (o := 1) (show S + 1 + 1 ≠ S + 1 by omega) (.int .i64 y)).other (k := S + 1) (o := 2) (show S + 1 + 1 ≠ S + 1 by omega) (.int .i64 z))
          have GN := ((gg.set (o := 1) (show w.heap.size ≤ S + 1 by rw [HS.out]; omega) (.int .i64 y)).set (o := 2) (show w.heap.size ≤ S + 1 by rw [HS.out]; omega) (.int .i64 z))
          have n0 := RN.c0
          have n1 := RN.c1
          have n2 := RN.c2
          have o0 := RO.c0
          have o1 := RO.c1
          have o2 := RO.c2
          have k0 := RO.fz 0
          have k1 := RO.fz 1
          have k2 := RO.fz 2
          go_wp2
          refine bodyPost_ret (results_cell_row rfl _ _ (S + 1 + 1) _ _ _ _ rfl (RO.set _ _ _) Tryz.underlying50 rfl (by kernel_rfl)) rfl ?_
          exact ⟨by show _ = Ending.returned (sv (ov f f2) (ov g g2) (obo b b2)); rw [HV.out, if_neg h1, if_pos h2, show max z2 z = z by omega]; rfl, GN.set3 (show w.heap.size ≤ S + 1 + 1 by rw [HS.out]; omega) _ _ _⟩
        · have h3' : z ≤ z2 := by omega
          have RN := ((HO.out.2.1.set1 y).set2 z2)
          have RO := ((HO.out.2.2.1.other (k := S + 1) (o := 1) (show S + 1 + 1 ≠ S + 1 by omega) (.int .i64 y)).other (k := S + 1) (o := 2) (show S + 1 + 1 ≠ S + 1 by omega) (.int .i64 z2))
          have GN := ((gg.set (o := 1) (show w.heap.size ≤ S + 1 by rw [HS.out]; omega) (.int .i64 y)).set (o := 2) (show w.heap.size ≤ S + 1 by rw [HS.out]; omega) (.int .i64 z2))
          have n0 := RN.c0
          have n1 := RN.c1
          have n2 := RN.c2
          have o0 := RO.c0
          have o1 := RO.c1
          have o2 := RO.c2
          have k0 := RO.fz 0
          have k1 := RO.fz 1
          have k2 := RO.fz 2
          go_wp2
          refine bodyPost_ret (results_cell_row rfl _ _ (S + 1 + 1) _ _ _ _ rfl (RO.set _ _ _) Tryz.underlying50 rfl (by kernel_rfl)) rfl ?_
          exact ⟨by show _ = Ending.returned (sv (ov f f2) (ov g g2) (obo b b2)); rw [HV.out, if_neg h1, if_pos h2, show max z2 z = z2 by omega]; rfl, GN.set3 (show w.heap.size ≤ S + 1 + 1 by rw [HS.out]; omega) _ _ _⟩
      · by_cases h3 : z2 < z
        · have h3' : z2 ≤ z := by omega
          have RN := (HO.out.2.1.set2 z)
          have RO := (HO.out.2.2.1.other (k := S + 1) (o := 2) (show S + 1 + 1 ≠ S + 1 by omega) (.int .i64 z))
          have GN := (gg.set (o := 2) (show w.heap.size ≤ S + 1 by rw [HS.out]; omega) (.int .i64 z))
          have n0 := RN.c0
          have n1 := RN.c1
          have n2 := RN.c2
          have o0 := RO.c0
          have o1 := RO.c1
          have o2 := RO.c2
          have k0 := RO.fz 0
          have k1 := RO.fz 1
          have k2 := RO.fz 2
          go_wp2
          refine bodyPost_ret (results_cell_row rfl _ _ (S + 1 + 1) _ _ _ _ rfl (RO.set _ _ _) Tryz.underlying50 rfl (by kernel_rfl)) rfl ?_
          exact ⟨by show _ = Ending.returned (sv (ov f f2) (ov g g2) (obo b b2)); rw [HV.out, if_neg h1, if_neg h2, show max z2 z = z by omega]; rfl, GN.set3 (show w.heap.size ≤ S + 1 + 1 by rw [HS.out]; omega) _ _ _⟩
        · have h3' : z ≤ z2 := by omega
          have RN := (HO.out.2.1.set2 z2)
          have RO := (HO.out.2.2.1.other (k := S + 1) (o := 2) (show S + 1 + 1 ≠ S + 1 by omega) (.int .i64 z2))
          have GN := (gg.set (o := 2) (show w.heap.size ≤ S + 1 by rw [HS.out]; omega) (.int .i64 z2))
          have n0 := RN.c0
          have n1 := RN.c1
          have n2 := RN.c2
          have o0 := RO.c0
          have o1 := RO.c1
          have o2 := RO.c2
          have k0 := RO.fz 0
          have k1 := RO.fz 1
          have k2 := RO.fz 2
          go_wp2
          refine bodyPost_ret (results_cell_row rfl _ _ (S + 1 + 1) _ _ _ _ rfl (RO.set _ _ _) Tryz.underlying50 rfl (by kernel_rfl)) rfl ?_
          exact ⟨by show _ = Ending.returned (sv (ov f f2) (ov g g2) (obo b b2)); rw [HV.out, if_neg h1, if_neg h2, show max z2 z = z2 by omega]; rfl, GN.set3 (show w.heap.size ≤ S + 1 + 1 by rw [HS.out]; omega) _ _ _⟩

end Go.Proofs.YtkdajaphbmclkaaGreatDoor

namespace Go.Proofs.YtkdajaphbmclkaaGreatDoor
open Go.RowKit
set_option linter.unusedVariables false

/-- Blocks but M are as they were. -/
structure Ch (M : Nat) (W W' : World) : Prop where
  os : W'.os = W.os
  tape : W'.tape = W.tape
  output : W'.output = W.output
  size : W.heap.size ≤ W'.heap.size
  block : ∀ b, b < W.heap.size → b ≠ M → W'.heap[b]? = W.heap[b]?
section
variable {M : Nat} {W W' W2 : World}
theorem Ch.refl (M : Nat) (W : World) : Ch M W W := ⟨rfl, rfl, rfl, Nat.le_refl _, fun _ _ _ => rfl⟩
theorem Ch.trans (h : Ch M W W') (k : Ch M W' W2) : Ch M W W2 :=
  ⟨k.os.trans h.os, k.tape.trans h.tape, k.output.trans h.output, Nat.le_trans h.size k.size, fun b h1 h2 => (k.block b (Nat.lt_of_lt_of_le h1 h.size) h2).trans (h.block b h1 h2)⟩
theorem Ch.below (h : Below W.heap.size W W') : Ch M W W' := ⟨h.os, h.tape, h.output, h.size, fun b h1 _ => h.block b h1⟩
theorem Ch.gr (h : Gr W W') : Ch M W W' := Ch.below h.below
theorem Ch.thenGr (h : Ch M W W') (k : Gr W' W2) : Ch M W W2 := h.trans (Ch.gr k)
theorem Ch.set (h : Ch M W W') {k : Nat} (hk : k = M ∨ W.heap.size ≤ k) (o : Nat) (v : Value) : Ch M W (W'.setCell ⟨k, o, none⟩ v) :=
  ⟨h.os, h.tape, h.output, by simpa [World.setCell] using h.size, fun b h1 h2 => (Below.heap_setCell W' ⟨k, o, none⟩ v b (by show b ≠ k; omega)).trans (h.block b h1 h2)⟩
theorem Ch.low (h : Ch M W W') {B : Nat} (hM : B ≤ M) (hB : B ≤ W.heap.size) {W0 : World} (k : Below B W0 W) : Below B W0 W' :=
  ⟨h.os.trans k.os, h.tape.trans k.tape, h.output.trans k.output, Nat.le_trans k.size h.size, fun b hb => (h.block b (by omega) (by omega)).trans (k.block b hb)⟩
end

def c5 (e : Ce) : List Value := [.string e.t, .int .i64 e.f, .int .i64 e.g, .int .i64 e.b, .int .i64 e.p]
theorem c5_len (e : Ce) : (c5 e).length = 5 := rfl

/-- Cells in a block, row by row. -/
structure Cv (T : TypeId) (Q : World) (M W H : Nat) (c : Nat → Nat → Ce) : Prop where
  arr : ∃ a, Q.heap[M]? = some (.cells a T (0, 0))
  cell : ∀ y x, y < H → x < W → ∀ (k : Nat) u, (c5 (c y x))[k]? = some u → Q.cell? ⟨M, y * W * 5 + x * 5 + k, none⟩ = some u
def upd (c : Nat → Nat → Ce) (y x : Nat) (e : Ce) : Nat → Nat → Ce := fun y' x' => if y' = y ∧ x' = x then e else c y' x'

theorem idx_inj {W y x y' x' : Nat} (hx : x < W) (hx' : x' < W) (h : y * W + x = y' * W + x') : y = y' ∧ x = x' := by
  have h1 : (y * W + x) / W = y := by rw [Nat.mul_comm, Nat.mul_add_div (by omega), Nat.div_eq_of_lt hx, Nat.add_zero]
  have h2 : (y' * W + x') / W = y' := by rw [Nat.mul_comm, Nat.mul_add_div (by omega), Nat.div_eq_of_lt hx', Nat.add_zero]
  have : y = y' := by rw [← h1, ← h2, h]
  subst this
  exact ⟨rfl, by omega⟩
theorem off_inj {W y x k y' x' k' : Nat} (hx : x < W) (hx' : x' < W) (hk : k < 5) (hk' : k' < 5) (h : y * W * 5 + x * 5 + k = y' * W * 5 + x' * 5 + k') : y = y' ∧ x = x' ∧ k = k' := by
  generalize hp : y * W = p at *
  generalize hq : y' * W = q at *
  have h1 : p + x = q + x' ∧ k = k' := by omega
  have := idx_inj (y := y) (y' := y') hx hx' (by rw [hp, hq]; exact h1.1)
  exact ⟨this.1, this.2, h1.2⟩

section
variable {T : TypeId} {Q Q' : World} {M W H : Nat} {c c' : Nat → Nat → Ce}
theorem Cv.lt (h : Cv T Q M W H c) : M < Q.heap.size := by obtain ⟨a, ha⟩ := h.arr; exact (Array.getElem?_eq_some_iff.1 ha).1
theorem Cv.fz (h : Cv T Q M W H c) (j : Nat) : Q.frozen? ⟨M, j, none⟩ = false := by obtain ⟨a, ha⟩ := h.arr; exact frozen_of_row _ _ _ _ _ ha
theorem Cv.keep (h : Cv T Q M W H c) (hb : Q'.heap[M]? = Q.heap[M]?) : Cv T Q' M W H c := by
  obtain ⟨a, ha⟩ := h.arr
  exact ⟨⟨a, hb.trans ha⟩, fun y x hy hx k u hu => (World.cell?_of_block (a := ⟨M, _, none⟩) hb).trans (h.cell y x hy hx k u hu)⟩
theorem Cv.gr (h : Cv T Q M W H c) (g : Gr Q Q') : Cv T Q' M W H c := h.keep (g.block h.lt)
theorem Cv.ch {N : Nat} (h : Cv T Q M W H c) (g : Ch N Q Q') (hN : M ≠ N) : Cv T Q' M W H c := h.keep (g.block M h.lt hN)
theorem Cv.other {k : Nat} (h : Cv T Q M W H c) (hk : M ≠ k) (o : Nat) (v : Value) : Cv T (Q.setCell ⟨k, o, none⟩ v) M W H c := h.keep (Below.heap_setCell Q ⟨k, o, none⟩ v M hk)
theorem Cv.same (h : Cv T Q M W H c) (hc : ∀ y x, y < H → x < W → c y x = c' y x) : Cv T Q M W H c' :=
  ⟨h.arr, fun y x hy hx k u hu => h.cell y x hy hx k u (by rw [hc y x hy hx]; exact hu)⟩
/-- One part of one cell written. -/
theorem Cv.set1 (h : Cv T Q M W H c) {y x k : Nat} (hy : y < H) (hx : x < W) (hk : k < 5) (v : Value) (hc : ∀ y' x', c' y' x' = if y' = y ∧ x' = x then c' y x else c y' x') (he : c5 (c' y x) = (c5 (c y x)).set k v) :
    Cv T (Q.setCell ⟨M, y * W * 5 + x * 5 + k, none⟩ v) M W H c' := by
  obtain ⟨a, ha⟩ := h.arr
  refine ⟨⟨_, heap_setCell_same _ M _ _ _ _ ha⟩, fun y' x' hy' hx' k' u hu => ?_⟩
  have hk' : k' < 5 := (List.getElem?_eq_some_iff.1 hu).1
  have old := h.cell y x hy hx k _ (List.getElem?_eq_getElem (show k < (c5 (c y x)).length from hk))
  by_cases e : y' = y ∧ x' = x
  · obtain ⟨rfl, rfl⟩ := e
    rw [he] at hu
    by_cases e2 : k' = k
    · subst e2
      rw [List.getElem?_set_self (show k' < (c5 (c y' x')).length from hk)] at hu
      injection hu with hu
      subst hu
      exact World.cell?_setCell_same _ _ _ old
    · rw [List.getElem?_set_ne (by omega)] at hu
      rw [World.cell?_setCell_other _ _ _ _ (fun q => by injection q with _ q _; omega)]
      exact h.cell y' x' hy' hx' k' u hu
  · rw [hc y' x', if_neg e] at hu
    rw [World.cell?_setCell_other _ _ _ _]
    · exact h.cell y' x' hy' hx' k' u hu
    · intro q
      injection q with _ q _
      have := off_inj hx hx' hk hk' q
      exact e ⟨this.1.symm, this.2.1.symm⟩
/-- One cell written. -/
theorem Cv.set (h : Cv T Q M W H c) {y x : Nat} (hy : y < H) (hx : x < W) (e : Ce) :
    Cv T (((((Q.setCell ⟨M, y * W * 5 + x * 5, none⟩ (.string e.t)).setCell ⟨M, y * W * 5 + x * 5 + 1, none⟩ (.int .i64 e.f)).setCell ⟨M, y * W * 5 + x * 5 + 2, none⟩ (.int .i64 e.g)).setCell ⟨M, y * W * 5 + x * 5 + 3, none⟩ (.int .i64 e.b)).setCell ⟨M, y * W * 5 + x * 5 + 4, none⟩ (.int .i64 e.p)) M W H (upd c y x e) := by
  have u0 : ∀ e, upd c y x e y x = e := fun e => by unfold upd; rw [if_pos ⟨rfl, rfl⟩]
  have nx : ∀ e e', ∀ y' x', upd c y x e' y' x' = if y' = y ∧ x' = x then upd c y x e' y x else upd c y x e y' x' := fun e e' y' x' => by
    rw [u0]; unfold upd; split <;> rfl
  have h0 := h.set1 (c' := upd c y x { c y x with t := e.t }) (k := 0) hy hx (by omega) (.string e.t) (fun y' x' => by rw [u0]; rfl) (by rw [u0]; rfl)
  have h1 := h0.set1 (c' := upd c y x { c y x with t := e.t, f := e.f }) (k := 1) hy hx (by omega) (.int .i64 e.f) (nx _ _) (by rw [u0, u0]; rfl)
  have h2 := h1.set1 (c' := upd c y x { c y x with t := e.t, f := e.f, g := e.g }) (k := 2) hy hx (by omega) (.int .i64 e.g) (nx _ _) (by rw [u0, u0]; rfl)
  have h3 := h2.set1 (c' := upd c y x { c y x with t := e.t, f := e.f, g := e.g, b := e.b }) (k := 3) hy hx (by omega) (.int .i64 e.b) (nx _ _) (by rw [u0, u0]; rfl)
  exact h3.set1 (c' := upd c y x e) (k := 4) hy hx (by omega) (.int .i64 e.p) (nx _ _) (by rw [u0, u0]; rfl)
theorem Cv.setPart (h : Cv T Q M W H c) {y x : Nat} (hy : y < H) (hx : x < W) (p : Int) :
    Cv T (Q.setCell ⟨M, y * W * 5 + x * 5 + 4, none⟩ (.int .i64 p)) M W H (upd c y x { c y x with p := p }) :=
  h.set1 (k := 4) hy hx (by omega) _ (fun y' x' => by unfold upd; simp) (by unfold upd; rw [if_pos ⟨rfl, rfl⟩]; rfl)
theorem Cv.setText (h : Cv T Q M W H c) {y x : Nat} (hy : y < H) (hx : x < W) (s : ByteArray) :
    Cv T (Q.setCell ⟨M, y * W * 5 + x * 5 + 0, none⟩ (.string s)) M W H (upd c y x { c y x with t := s }) :=
  h.set1 (k := 0) hy hx (by omega) _ (fun y' x' => by unfold upd; simp) (by unfold upd; rw [if_pos ⟨rfl, rfl⟩]; rfl)
theorem Cv.c0 (h : Cv T Q M W H c) {y x : Nat} (hy : y < H) (hx : x < W) : Q.cell? ⟨M, y * W * 5 + x * 5, none⟩ = some (.string (c y x).t) := h.cell y x hy hx 0 _ rfl
theorem Cv.c1 (h : Cv T Q M W H c) {y x : Nat} (hy : y < H) (hx : x < W) : Q.cell? ⟨M, y * W * 5 + x * 5 + 1, none⟩ = some (.int .i64 (c y x).f) := h.cell y x hy hx 1 _ rfl
theorem Cv.c2 (h : Cv T Q M W H c) {y x : Nat} (hy : y < H) (hx : x < W) : Q.cell? ⟨M, y * W * 5 + x * 5 + 2, none⟩ = some (.int .i64 (c y x).g) := h.cell y x hy hx 2 _ rfl
theorem Cv.c3 (h : Cv T Q M W H c) {y x : Nat} (hy : y < H) (hx : x < W) : Q.cell? ⟨M, y * W * 5 + x * 5 + 3, none⟩ = some (.int .i64 (c y x).b) := h.cell y x hy hx 3 _ rfl
theorem Cv.c4 (h : Cv T Q M W H c) {y x : Nat} (hy : y < H) (hx : x < W) : Q.cell? ⟨M, y * W * 5 + x * 5 + 4, none⟩ = some (.int .i64 (c y x).p) := h.cell y x hy hx 4 _ rfl
end

/-- A canvas at K, its cells at M. -/
structure CS (TK T : TypeId) (Q : World) (K M cap W H : Nat) (c : Nat → Nat → Ce) : Prop where
  kb : Q.heap[K]? = some (.cells #[.int .i64 W, .int .i64 H, .slice (some ⟨M, 0, none⟩) (W * H) cap] TK (0, 0))
  cv : Cv T Q M W H c
  ne : K ≠ M
  hc : W * H ≤ cap
section
variable {TK T : TypeId} {Q Q' : World} {K M cap W H : Nat} {c c' : Nat → Nat → Ce}
theorem CS.klt (h : CS TK T Q K M cap W H c) : K < Q.heap.size := (Array.getElem?_eq_some_iff.1 h.kb).1
theorem CS.k0 (h : CS TK T Q K M cap W H c) : Q.cell? ⟨K, 0, none⟩ = some (.int .i64 W) := by have := h.kb; simp [World.cell?, this]
theorem CS.k1 (h : CS TK T Q K M cap W H c) : Q.cell? ⟨K, 1, none⟩ = some (.int .i64 H) := by have := h.kb; simp [World.cell?, this]
theorem CS.k2 (h : CS TK T Q K M cap W H c) : Q.cell? ⟨K, 2, none⟩ = some (.slice (some ⟨M, 0, none⟩) (W * H) cap) := by have := h.kb; simp [World.cell?, this]
theorem CS.ch {N : Nat} (h : CS TK T Q K M cap W H c) (g : Ch N Q Q') (h1 : K ≠ N) (h2 : M ≠ N) : CS TK T Q' K M cap W H c := ⟨(g.block K h.klt h1).trans h.kb, h.cv.ch g h2, h.ne, h.hc⟩
theorem CS.gr (h : CS TK T Q K M cap W H c) (g : Gr Q Q') : CS TK T Q' K M cap W H c := ⟨(g.block h.klt).trans h.kb, h.cv.gr g, h.ne, h.hc⟩
/-- The cells are others now. -/
theorem CS.put (h : CS TK T Q K M cap W H c) (g : Ch M Q Q') (hc : Cv T Q' M W H c') : CS TK T Q' K M cap W H c' := ⟨(g.block K h.klt h.ne).trans h.kb, hc, h.ne, h.hc⟩
end
end Go.Proofs.YtkdajaphbmclkaaGreatDoor

namespace Go.Proofs.YtkdajaphbmclkaaGreatDoor
open Go.RowKit Go.Sort
set_option linter.unusedVariables false

def cev (e : Ce) : Value := .agg #[.string e.t, .int .i64 e.f, .int .i64 e.g, .int .i64 e.b, .int .i64 e.p]

set_option maxRecDepth 100000 in
theorem blank_any (f g b : Int) (w : World) : Calls Tryz.prog 28 #[sv f g b] w fun e w' => e = .returned (cev (bk f g b)) ∧ Gr w w' := by
  unfold sv
  go_enter Tryz.func28, Tryz.ntmps28
  go_wp2
  refine bodyPost_ret (v := cev (bk f g b)) (by simp [results, Tryz.results28, go_sem, cev, bk, spc]) rfl ?_
  exact ⟨rfl, ((Gr.refl w).alloc _).alloc _⟩

set_option maxRecDepth 100000 in
theorem counts_any (f g b : Int) (w : World) : Calls Tryz.prog 89 #[sv f g b] w fun e w' => e = .returned (sv (kn f) (kn g) (bo b)) ∧ Gr w w' := by
  have OV : Hid (∀ f g b f2 g2 b2 w, Calls Tryz.prog 68 #[sv f g b, sv f2 g2 b2] w fun e w' => e = .returned (sv (ov f f2) (ov g g2) (obo b b2)) ∧ Gr w w') := over_any
  have O1 := OV.out 0 0 0 f g b
  rw [ov_zero, ov_zero, obo_zero] at O1
  unfold sv at O1 ⊢
  go_enter Tryz.func89, Tryz.ntmps89
  go_wp2_with (go_at_call 68; refine Calls.mono (O1 _) ?_; rintro e w1 ⟨rfl, g1⟩; have RC : Hid (R3 50 w1 (w.heap.size + 1) 0 0 0) := ((by have := R3.new (w.alloc (.cells #[.int .i64 f, .int .i64 g, .int .i64 b] 50)) 0 0 0 50; simp only [World.size_alloc] at this; exact this) : R3 50 _ (w.heap.size + 1) 0 0 0).gr g1; have c0 := RC.out.c0; have c1 := RC.out.c1; have c2 := RC.out.c2; have f0 := RC.out.fz 0; have f1 := RC.out.fz 1; have f2 := RC.out.fz 2; have GG : Hid (Gr w w1) := (((Gr.refl w).alloc _).alloc _).trans g1; clear g1)
  refine bodyPost_ret (results_cell_row rfl _ _ (w.heap.size + 1) _ _ _ _ rfl (RC.out.set _ _ _) Tryz.underlying50 rfl (by kernel_rfl)) rfl ?_
  exact ⟨rfl, GG.out.set3 (by omega) _ _ _⟩

set_option maxRecDepth 100000 in
theorem side_any (n : Int) (w : World) : Calls Tryz.prog 27 #[.int .i64 n] w fun e w' => e = .returned (.bool (decide (1 ≤ n ∧ n ≤ 400))) ∧ w' = w := by
  by_cases h1 : 1 ≤ n
  · by_cases h2 : n ≤ 400
    · rw [show decide (1 ≤ n ∧ n ≤ 400) = true from decide_eq_true ⟨h1, h2⟩]
      go_enter Tryz.func27, Tryz.ntmps27
      go_wp2
      go_ret
      exact ⟨rfl, rfl⟩
    · rw [show decide (1 ≤ n ∧ n ≤ 400) = false from decide_eq_false (by omega)]
      go_enter Tryz.func27, Tryz.ntmps27
      go_wp2
      go_ret
      exact ⟨by first | rfl | simp; omega, rfl⟩
  · rw [show decide (1 ≤ n ∧ n ≤ 400) = false from decide_eq_false (by omega)]
    go_enter Tryz.func27, Tryz.ntmps27
    go_wp2
    go_ret
    exact ⟨rfl, rfl⟩

section
variable {K M cap W H : Nat} {c : Nat → Nat → Ce}
set_option maxRecDepth 100000 in
set_option maxHeartbeats 2000000 in
theorem row_any (w : World) (h : CS 82 71 w K M cap W H c) (h0 : 0 < W) (hW : W ≤ 400) (hH : H ≤ 400) (y : Nat) (hy : y < H) : Calls Tryz.prog 101 #[.pointer (some ⟨K, 0, none⟩), .int .i64 y] w fun e w' => e = .returned (.slice (some ⟨M, y * W * 5, none⟩) W W) ∧ Gr w w' := by
  have k0 := h.k0
  have k2 := h.k2
  have hc := h.hc
  obtain ⟨p, hp⟩ : ∃ p, y * W = p := ⟨_, rfl⟩
  obtain ⟨n, hn⟩ : ∃ n, W * H = n := ⟨_, rfl⟩
  have e1 : (y : Int) * (W : Int) = (p : Int) := by rw [← hp]; simp
  have e2 : ((y : Int) + 1) * (W : Int) = (p : Int) + (W : Int) := by rw [Int.add_mul, e1]; omega
  have pn : p + W ≤ n := by
    rw [← hp, ← hn, Nat.mul_comm W H, ← Nat.succ_mul]; exact Nat.mul_le_mul_right _ (by omega)
  have nb : n ≤ 160000 := by rw [← hn]; exact Nat.mul_le_mul hW hH
  rw [hn] at k2 hc
  rw [hp]
  have w0 : ¬ W = 0 := by omega
  have w1 : ¬ p + W = p := by omega
  clear h hn hp
  go_enter Tryz.func101, Tryz.ntmps101
  go_wp2_with fail
  go_quiet (fail)
  go_wp2
  go_ret
  refine ⟨?_, (Gr.refl w).drewN _⟩
  first
    | rfl
    | (show Ending.returned (.slice (some ⟨M, p * 5, none⟩) (p + W - p) (p + W - p)) = _; rw [Nat.add_sub_cancel_left])
end

section
variable {K M cap W H : Nat} {c : Nat → Nat → Ce}
set_option maxRecDepth 100000 in
theorem size_any (w : World) (h : CS 82 71 w K M cap W H c) : Calls Tryz.prog 81 #[.pointer (some ⟨K, 0, none⟩)] w fun e w' => e = .returned (.tuple #[.int .i64 W, .int .i64 H]) ∧ Gr w w' := by
  have k0 := h.k0
  have k1 := h.k1
  clear h
  go_enter Tryz.func81, Tryz.ntmps81
  go_wp2_with fail
  go_quiet (fail)
  go_wp2
  go_ret2
  exact ⟨rfl, (Gr.refl w).drewN _⟩
end
end Go.Proofs.YtkdajaphbmclkaaGreatDoor

namespace Go.Proofs.YtkdajaphbmclkaaGreatDoor
open Go.RowKit Go.Sort
set_option linter.unusedVariables false

/-- The half on the left, and the one on the right, of the places from a up to z become blanks. -/
def cutL (c : Nat → Nat → Ce) (y a : Nat) : Nat → Nat → Ce := fun y' x' => if y' = y ∧ x' + 1 = a ∧ (c y a).p = 2 then bl (c y' x') else c y' x'
def cutR (c : Nat → Nat → Ce) (y q : Nat) : Nat → Nat → Ce := fun y' x' => if y' = y ∧ x' = q + 1 ∧ (c y q).p = 1 then bl (c y' x') else c y' x'
def cut (c : Nat → Nat → Ce) (y a q : Nat) : Nat → Nat → Ce := cutR (cutL c y a) y q
theorem cutL_none {c : Nat → Nat → Ce} {y a : Nat} (h : ¬ (c y a).p = 2) : cutL c y a = c := by
  funext y' x'; unfold cutL; rw [if_neg (fun q => h q.2.2)]
theorem cutR_none {c : Nat → Nat → Ce} {y a : Nat} (h : ¬ (c y a).p = 1) : cutR c y a = c := by
  funext y' x'; unfold cutR; rw [if_neg (fun q => h q.2.2)]
theorem cutL_some {c : Nat → Nat → Ce} {y k : Nat} (h : (c y (k + 1)).p = 2) : cutL c y (k + 1) = upd c y k (bl (c y k)) := by
  funext y' x'; unfold cutL upd
  by_cases e : y' = y ∧ x' = k
  · obtain ⟨rfl, rfl⟩ := e
    rw [if_pos ⟨rfl, rfl, h⟩, if_pos ⟨rfl, rfl⟩]
  · rw [if_neg e, if_neg (fun q => e ⟨q.1, by omega⟩)]
theorem cutR_some {c : Nat → Nat → Ce} {y q : Nat} (h : (c y q).p = 1) : cutR c y q = upd c y (q + 1) (bl (c y (q + 1))) := by
  funext y' x'; unfold cutR upd
  by_cases e : y' = y ∧ x' = q + 1
  · obtain ⟨rfl, rfl⟩ := e
    rw [if_pos ⟨rfl, rfl, h⟩, if_pos ⟨rfl, rfl⟩]
  · rw [if_neg e, if_neg (fun k => e ⟨k.1, k.2.1⟩)]
theorem cutL_at {c : Nat → Nat → Ce} {y a x : Nat} (h : a ≤ x) (y' : Nat) : cutL c y a y' x = c y' x := by
  unfold cutL; rw [if_neg (by omega)]
theorem cutL_q {c : Nat → Nat → Ce} {y a x : Nat} (h : a ≤ x) : cutL c y a y (x + 1) = c y (x + 1) := cutL_at (by omega) y

section
variable {K M cap W H : Nat} {c : Nat → Nat → Ce}
set_option maxRecDepth 100000 in
set_option maxHeartbeats 2000000 in
theorem stretch_any (w : World) (h : CS 82 71 w K M cap W H c) (h0 : 0 < W) (hW : W ≤ 400) (hH : H ≤ 400) (y a q : Nat) (hy : y < H) (haq : a ≤ q) (hq : q < W) (hp : PRow W (c y)) : Calls Tryz.prog 90 #[.pointer (some ⟨K, 0, none⟩), .int .i64 y, .int .i64 a, .int .i64 ((q : Int) + 1)] w fun e w' => e = .returned (.slice (some ⟨M, y * W * 5 + a * 5, none⟩) (q + 1 - a) (q + 1 - a)) ∧ Cv 71 w' M W H (cut c y a q) ∧ Ch M w w' := by
  have RC : Hid (Calls Tryz.prog 101 #[.pointer (some ⟨K, 0, none⟩), .int .i64 y] w fun e w' => e = .returned (.slice (some ⟨M, y * W * 5, none⟩) W W) ∧ Gr w w') := row_any w h h0 hW hH y hy
  have BC : Hid (∀ f g b w, Calls Tryz.prog 28 #[sv f g b] w fun e w' => e = .returned (cev (bk f g b)) ∧ Gr w w') := blank_any
  have HV : Hid (Cv 71 w M W H c) := h.cv
  have HP : Hid (PRow W (c y)) := hp
  obtain ⟨o, ho⟩ : ∃ o, y * W * 5 = o := ⟨_, rfl⟩
  have HO : Hid (y * W * 5 = o) := ho
  unfold sv cev bk at BC
  rw [ho] at RC
  clear h hp
  rw [ho]
  clear ho
  go_enter Tryz.func90, Tryz.ntmps90
  go_wp2_with fail
  refine Calls.mono RC.out ?_
  rintro e w1 ⟨rfl, g1⟩
  have V1 : Hid (Cv 71 w1 M W H c) := HV.out.gr g1
  have C1 : Hid (Ch M w w1) := Ch.gr g1
  clear g1 HV RC
  have ca := V1.out.c4 hy (show a < W by omega)
  rw [HO.out] at ca
  obtain ⟨pa, hpa⟩ : ∃ z, (c y a).p = z := ⟨_, rfl⟩
  rw [hpa] at ca
  have HA : Hid ((c y a).p = pa) := hpa
  clear hpa
  go_upto_if 18 with fail
  go_cut [9] from 13 to 29 (fun u wx => u = .slice (some ⟨M, o, none⟩) W W ∧ Hid (Cv 71 wx M W H (cutL c y a) ∧ Ch M w wx))
  case first =>
    by_cases ht : pa = 2
    · obtain ⟨k, hka, hk1, _⟩ := HP.out.tail a (by omega) (HA.out.trans ht)
      subst hka
      have HC : Hid (cutL c y (k + 1) = upd c y k (bl (c y k))) := cutL_some (HA.out.trans ht)
      subst ht
      clear hk1
      have b1 := V1.out.c1 hy (show k < W by omega)
      have b2 := V1.out.c2 hy (show k < W by omega)
      have b3 := V1.out.c3 hy (show k < W by omega)
      rw [HO.out] at b1 b2 b3
      go_wp2_with (go_at_call 28; refine Calls.mono (BC.out _ _ _ _) ?_; rintro e w2 ⟨rfl, g2⟩; have V2 : Hid (Cv 71 w2 M W H c) := V1.out.gr g2; have C2 : Hid (Ch M w w2) := C1.out.thenGr g2; clear g2; have d0 := V2.out.c0 hy (show k < W by omega); have d1 := V2.out.c1 hy (show k < W by omega); have d2 := V2.out.c2 hy (show k < W by omega); have d3 := V2.out.c3 hy (show k < W by omega); have d4 := V2.out.c4 hy (show k < W by omega); rw [HO.out] at d0 d1 d2 d3 d4; have f0 := V2.out.fz; have fl := V2.out.lt)
      go_meet
      refine ⟨rfl, ?_, ?_⟩
      · rw [HC.out, ← HO.out]; exact V2.out.set hy (show k < W by omega) (bl (c y k))
      · exact ((((C2.out.set (.inl rfl) _ _).set (.inl rfl) _ _).set (.inl rfl) _ _).set (.inl rfl) _ _).set (.inl rfl) _ _
    · have ht' : (pa == 2) = false := by simpa using ht
      go_wp2_with fail
      go_meet
      exact ⟨rfl, by rw [cutL_none (by rw [HA.out]; exact ht)]; exact V1.out, C1.out⟩
  case rest =>
    obtain ⟨rfl, HR⟩ := hcut
    clear V1 C1 ca
    have cq := HR.out.1.c4 hy hq
    rw [HO.out] at cq
    obtain ⟨pq, hpq⟩ : ∃ z, (cutL c y a y q).p = z := ⟨_, rfl⟩
    rw [hpq] at cq
    have HQ : Hid ((cutL c y a y q).p = pq) := hpq
    clear hpq
    have hcc : Hid ((c y q).p = pq) := by have := HQ.out; rw [cutL_at haq] at this; exact this
    go_upto_if 36 with fail
    go_cut [9] from 13 to 45 (fun u wx => u = .slice (some ⟨M, o, none⟩) W W ∧ Hid (Cv 71 wx M W H (cut c y a q) ∧ Ch M w wx))
    case first =>
      by_cases ht : pq = 1
      · obtain ⟨hl, _⟩ := HP.out.head q hq (hcc.out.trans ht)
        have HC : Hid (cut c y a q = upd (cutL c y a) y (q + 1) (bl (cutL c y a y (q + 1)))) := cutR_some (HQ.out.trans ht)
        subst ht
        have b1 := HR.out.1.c1 hy hl
        have b2 := HR.out.1.c2 hy hl
        have b3 := HR.out.1.c3 hy hl
        rw [HO.out] at b1 b2 b3
        go_wp2_with (go_at_call 28; refine Calls.mono (BC.out _ _ _ _) ?_; rintro e w2 ⟨rfl, g2⟩; have V2 : Hid (Cv 71 w2 M W H (cutL c y a)) := HR.out.1.gr g2; have C2 : Hid (Ch M w w2) := HR.out.2.thenGr g2; clear g2; have d0 := V2.out.c0 hy hl; have d1 := V2.out.c1 hy hl; have d2 := V2.out.c2 hy hl; have d3 := V2.out.c3 hy hl; have d4 := V2.out.c4 hy hl; rw [HO.out] at d0 d1 d2 d3 d4; have f0 := V2.out.fz; have fl := V2.out.lt)
        go_meet
        refine ⟨rfl, ?_, ?_⟩
        · rw [HC.out, ← HO.out]; exact V2.out.set hy hl (bl (cutL c y a y (q + 1)))
        · exact ((((C2.out.set (.inl rfl) _ _).set (.inl rfl) _ _).set (.inl rfl) _ _).set (.inl rfl) _ _).set (.inl rfl) _ _
      · have ht' : (pq == 1) = false := by simpa using ht
        go_wp2_with fail
        go_meet
        exact ⟨rfl, by unfold cut; rw [cutR_none (by rw [HQ.out]; exact ht)]; exact HR.out.1, HR.out.2⟩
    case rest =>
      obtain ⟨rfl, HZ⟩ := hcut
      have hl1 : a ≤ W := by omega
      have nz : ¬ q + 1 = a := by omega
      go_wp2
      go_ret
      exact ⟨rfl, HZ.out.1, HZ.out.2⟩
end
end Go.Proofs.YtkdajaphbmclkaaGreatDoor

namespace Go.Proofs.YtkdajaphbmclkaaGreatDoor
open Go.RowKit Go.Sort
set_option linter.unusedVariables false

/-- Cap, as four numbers. -/
def capQ (ax ay aw ah bx by_ bw bh : Int) : Int × Int × Int × Int := if capL ax aw bx bw ≥ capR ax aw bx bw ∨ capL ay ah by_ bh ≥ capR ay ah by_ bh then (0, 0, 0, 0) else (capL ax aw bx bw, capL ay ah by_ bh, capR ax aw bx bw - capL ax aw bx bw, capR ay ah by_ bh - capL ay ah by_ bh)
theorem capV_q (ax ay aw ah bx by_ bw bh : Int) : capV ax ay aw ah bx by_ bw bh = rv (capQ ax ay aw ah bx by_ bw bh).1 (capQ ax ay aw ah bx by_ bw bh).2.1 (capQ ax ay aw ah bx by_ bw bh).2.2.1 (capQ ax ay aw ah bx by_ bw bh).2.2.2 := by
  unfold capV capQ; split <;> rfl
/-- What can be seen of a rectangle x y a b under a clip on a screen W, H. -/
def seenQ (W H : Int) (x y a b cx cy ca cb : Int) : Int × Int × Int × Int := capQ 0 0 W H (capQ x y a b cx cy ca cb).1 (capQ x y a b cx cy ca cb).2.1 (capQ x y a b cx cy ca cb).2.2.1 (capQ x y a b cx cy ca cb).2.2.2
/-- Its facts: it lies on the screen, and has just the places that all three have. -/
structure Seen (W H : Int) (x y a b cx cy ca cb : Int) (l t u v : Int) : Prop where
  l0 : 0 ≤ l
  t0 : 0 ≤ t
  u0 : 0 ≤ u
  v0 : 0 ≤ v
  lu : l + u ≤ W
  tv : t + v ≤ H
  uv : 0 < u ↔ 0 < v
  mem : ∀ p q, (l ≤ p ∧ p < l + u ∧ t ≤ q ∧ q < t + v) ↔ ((0 ≤ p ∧ p < W ∧ 0 ≤ q ∧ q < H) ∧ (posI x ≤ p ∧ p < posI x + lenI a ∧ posI y ≤ q ∧ q < posI y + lenI b) ∧ (posI cx ≤ p ∧ p < posI cx + lenI ca ∧ posI cy ≤ q ∧ q < posI cy + lenI cb))
/-- Cap of what is within bounds already. -/
def cq (px py pa pb qx qy qa qb : Int) : Int × Int × Int × Int := if max px qx ≥ min (px + pa) (qx + qa) ∨ max py qy ≥ min (py + pb) (qy + qb) then (0, 0, 0, 0) else (max px qx, max py qy, min (px + pa) (qx + qa) - max px qx, min (py + pb) (qy + qb) - max py qy)
theorem cq_mem (px py pa pb qx qy qa qb p q : Int) : ((cq px py pa pb qx qy qa qb).1 ≤ p ∧ p < (cq px py pa pb qx qy qa qb).1 + (cq px py pa pb qx qy qa qb).2.2.1 ∧ (cq px py pa pb qx qy qa qb).2.1 ≤ q ∧ q < (cq px py pa pb qx qy qa qb).2.1 + (cq px py pa pb qx qy qa qb).2.2.2) ↔ ((px ≤ p ∧ p < px + pa ∧ py ≤ q ∧ q < py + pb) ∧ (qx ≤ p ∧ p < qx + qa ∧ qy ≤ q ∧ q < qy + qb)) := by
  unfold cq
  split
  · simp only; omega
  · simp only; omega
theorem cq_bd (px py pa pb qx qy qa qb : Int) (h1 : -100000 ≤ px ∧ px ≤ 100000) (h2 : -100000 ≤ py ∧ py ≤ 100000) (h3 : 0 ≤ pa ∧ pa ≤ 100000) (h4 : 0 ≤ pb ∧ pb ≤ 100000) (h5 : -100000 ≤ qx ∧ qx ≤ 100000) (h6 : -100000 ≤ qy ∧ qy ≤ 100000) :
    (-100000 ≤ (cq px py pa pb qx qy qa qb).1 ∧ (cq px py pa pb qx qy qa qb).1 ≤ 100000) ∧ (-100000 ≤ (cq px py pa pb qx qy qa qb).2.1 ∧ (cq px py pa pb qx qy qa qb).2.1 ≤ 100000) ∧ (0 ≤ (cq px py pa pb qx qy qa qb).2.2.1 ∧ (cq px py pa pb qx qy qa qb).2.2.1 ≤ 100000) ∧ (0 ≤ (cq px py pa pb qx qy qa qb).2.2.2 ∧ (cq px py pa pb qx qy qa qb).2.2.2 ≤ 100000) ∧ (0 < (cq px py pa pb qx qy qa qb).2.2.1 ↔ 0 < (cq px py pa pb qx qy qa qb).2.2.2) := by
  by_cases h : max px qx ≥ min (px + pa) (qx + qa) ∨ max py qy ≥ min (py + pb) (qy + qb)
  · have e : cq px py pa pb qx qy qa qb = (0, 0, 0, 0) := if_pos h
    rw [e]; simp
  · have e : cq px py pa pb qx qy qa qb = (max px qx, max py qy, min (px + pa) (qx + qa) - max px qx, min (py + pb) (qy + qb) - max py qy) := if_neg h
    rw [e]
    have k1 : max px qx < min (px + pa) (qx + qa) := by omega
    have k2 : max py qy < min (py + pb) (qy + qb) := by omega
    have k3 : min (px + pa) (qx + qa) ≤ px + pa := by omega
    have k4 : min (py + pb) (qy + qb) ≤ py + pb := by omega
    have k5 : px ≤ max px qx ∧ max px qx ≤ 100000 := by omega
    have k6 : py ≤ max py qy ∧ max py qy ≤ 100000 := by omega
    simp only
    generalize max px qx = A at *
    generalize min (px + pa) (qx + qa) = B at *
    generalize max py qy = C at *
    generalize min (py + pb) (qy + qb) = D at *
    refine ⟨⟨?_, ?_⟩, ⟨?_, ?_⟩, ⟨?_, ?_⟩, ⟨?_, ?_⟩, ?_⟩ <;> omega
theorem cq_in {W H qx qy qa qb : Int} (hW : 1 ≤ W) (hH : 1 ≤ H) : 0 ≤ (cq 0 0 W H qx qy qa qb).1 ∧ 0 ≤ (cq 0 0 W H qx qy qa qb).2.1 ∧ (cq 0 0 W H qx qy qa qb).1 + (cq 0 0 W H qx qy qa qb).2.2.1 ≤ W ∧ (cq 0 0 W H qx qy qa qb).2.1 + (cq 0 0 W H qx qy qa qb).2.2.2 ≤ H := by
  unfold cq
  split
  · simp only; omega
  · simp only; omega
theorem capQ_cq (ax ay aw ah bx by_ bw bh : Int) : capQ ax ay aw ah bx by_ bw bh = cq (posI ax) (posI ay) (lenI aw) (lenI ah) (posI bx) (posI by_) (lenI bw) (lenI bh) := rfl
theorem seen_facts {W H : Int} (hW : 1 ≤ W ∧ W ≤ 400) (hH : 1 ≤ H ∧ H ≤ 400) (x y a b cx cy ca cb : Int) :
    Seen W H x y a b cx cy ca cb (seenQ W H x y a b cx cy ca cb).1 (seenQ W H x y a b cx cy ca cb).2.1 (seenQ W H x y a b cx cy ca cb).2.2.1 (seenQ W H x y a b cx cy ca cb).2.2.2 := by
  have k := cq_bd (posI x) (posI y) (lenI a) (lenI b) (posI cx) (posI cy) (lenI ca) (lenI cb) (posI_bd x) (posI_bd y) (lenI_bd a) (lenI_bd b) (posI_bd cx) (posI_bd cy)
  have m1 := cq_mem (posI x) (posI y) (lenI a) (lenI b) (posI cx) (posI cy) (lenI ca) (lenI cb)
  unfold seenQ
  rw [capQ_cq x y a b cx cy ca cb]
  generalize cq (posI x) (posI y) (lenI a) (lenI b) (posI cx) (posI cy) (lenI ca) (lenI cb) = z at k m1 ⊢
  obtain ⟨i0, i1, i2, i3⟩ := z
  simp only at k m1 ⊢
  rw [capQ_cq, posI_id (n := i0) k.1, posI_id (n := i1) k.2.1, lenI_id (n := i2) k.2.2.1, lenI_id (n := i3) k.2.2.2.1, lenI_id (n := W) (by omega), lenI_id (n := H) (by omega), show posI 0 = 0 from rfl]
  have k2 := cq_bd 0 0 W H i0 i1 i2 i3 (by omega) (by omega) (by omega) (by omega) k.1 k.2.1
  have m2 := cq_mem 0 0 W H i0 i1 i2 i3
  have k3 := cq_in (qx := i0) (qy := i1) (qa := i2) (qb := i3) hW.1 hH.1
  generalize cq 0 0 W H i0 i1 i2 i3 = z at k2 m2 k3 ⊢
  obtain ⟨j0, j1, j2, j3⟩ := z
  simp only at k2 m2 k3 ⊢
  refine ⟨k3.1, k3.2.1, k2.2.2.1.1, k2.2.2.2.1.1, k3.2.2.1, k3.2.2.2, k2.2.2.2.2, fun p q => ?_⟩
  rw [m2 p q, m1 p q]
  constructor
  · rintro ⟨h1, h2, h3⟩; exact ⟨by omega, h2, h3⟩
  · rintro ⟨h1, h2, h3⟩; exact ⟨by omega, h2, h3⟩

section
variable {K M cap W H : Nat} {c : Nat → Nat → Ce}
set_option maxRecDepth 100000 in
set_option maxHeartbeats 4000000 in
theorem seen_any (w : World) (h : CS 82 71 w K M cap W H c) (x y a b cx cy ca cb : Int) : Calls Tryz.prog 88 #[.pointer (some ⟨K, 0, none⟩), rv x y a b, rv cx cy ca cb] w fun e w' => e = .returned (rv (seenQ W H x y a b cx cy ca cb).1 (seenQ W H x y a b cx cy ca cb).2.1 (seenQ W H x y a b cx cy ca cb).2.2.1 (seenQ W H x y a b cx cy ca cb).2.2.2) ∧ Gr w w' := by
  have k0 := h.k0
  have k1 := h.k1
  have kl := h.klt
  clear h
  have CP : Hid (∀ ax ay aw ah bx by_ bw bh w, Calls Tryz.prog 100 #[rv ax ay aw ah, rv bx by_ bw bh] w fun e w' => e = .returned (rv (capQ ax ay aw ah bx by_ bw bh).1 (capQ ax ay aw ah bx by_ bw bh).2.1 (capQ ax ay aw ah bx by_ bw bh).2.2.1 (capQ ax ay aw ah bx by_ bw bh).2.2.2) ∧ Gr w w') := fun ax ay aw ah bx by_ bw bh w => by rw [← capV_q]; exact cap_any ax ay aw ah bx by_ bw bh w
  obtain ⟨q1, hq1⟩ : ∃ z, capQ x y a b cx cy ca cb = z := ⟨_, rfl⟩
  have C1 := CP.out x y a b cx cy ca cb
  rw [hq1] at C1
  obtain ⟨i0, i1, i2, i3⟩ := q1
  obtain ⟨q2, hq2⟩ : ∃ z, capQ 0 0 (W : Int) (H : Int) i0 i1 i2 i3 = z := ⟨_, rfl⟩
  have C2 := CP.out 0 0 W H i0 i1 i2 i3
  rw [hq2] at C2
  obtain ⟨j0, j1, j2, j3⟩ := q2
  have HQ : Hid (seenQ W H x y a b cx cy ca cb = (j0, j1, j2, j3)) := by show _ = _; unfold seenQ; rw [hq1]; exact hq2
  rw [HQ.out]
  clear hq1 hq2 CP
  unfold rv at C1 C2 ⊢
  simp only at C1 C2 ⊢
  go_enter Tryz.func88, Tryz.ntmps88
  go_wp2_with fail
  obtain ⟨S, hS⟩ : ∃ z, w.heap.size = z := ⟨_, rfl⟩
  have HS : Hid (w.heap.size = S) := hS
  obtain ⟨W0, hW0⟩ : ∃ z, ((w.alloc (.cells #[.int .i64 x, .int .i64 y, .int .i64 a, .int .i64 b] 132)).alloc (.cells #[.int .i64 cx, .int .i64 cy, .int .i64 ca, .int .i64 cb] 132)).alloc (.cells #[.int .i64 0, .int .i64 0, .int .i64 0, .int .i64 0] 132) = z := ⟨_, rfl⟩
  have G0 : Hid (Gr w W0) := by rw [← hW0]; exact (((Gr.refl w).alloc _).alloc _).alloc _
  have RA : Hid (R4 132 W0 S x y a b) := by rw [← hW0, ← hS]; exact (R4.new w _ _ _ _ _).gr (((Gr.refl _).alloc _).alloc _)
  have RB : Hid (R4 132 W0 (S + 1) cx cy ca cb) := by
    have := R4.new (w.alloc (.cells #[.int .i64 x, .int .i64 y, .int .i64 a, .int .i64 b] 132)) cx cy ca cb 132
    simp only [World.size_alloc, hS] at this
    rw [← hW0]; exact this.gr ((Gr.refl _).alloc _)
  have RC : Hid (R4 132 W0 (S + 1 + 1) 0 0 0 0) := by
    have := R4.new ((w.alloc (.cells #[.int .i64 x, .int .i64 y, .int .i64 a, .int .i64 b] 132)).alloc (.cells #[.int .i64 cx, .int .i64 cy, .int .i64 ca, .int .i64 cb] 132)) 0 0 0 0 132
    simp only [World.size_alloc, hS] at this
    rw [← hW0]; exact this
  have k0' : W0.cell? ⟨K, 0, none⟩ = some (.int .i64 W) := (World.cell?_of_block (a := ⟨K, 0, none⟩) (G0.out.block kl)).trans k0
  have k1' : W0.cell? ⟨K, 1, none⟩ = some (.int .i64 H) := (World.cell?_of_block (a := ⟨K, 1, none⟩) (G0.out.block kl)).trans k1
  have sz : Hid (W0.heap.size = S + 3) := by show W0.heap.size = S + 3; rw [← hW0]; simp only [World.size_alloc, hS]
  have kl0 : K < W0.heap.size := by rw [sz.out, ← HS.out]; omega
  rw [hW0, hS]
  clear hW0 hS k0 k1
  go_cut [4, 5, 6, 7] from 8 to 16 (fun u v t s wx => u = .pointer (some ⟨S, 0, none⟩) ∧ v = .pointer (some ⟨S + 1, 0, none⟩) ∧ t = .pointer (some ⟨S + 1 + 1, 0, none⟩) ∧ s = .pointer (some ⟨W0.heap.size, 0, none⟩) ∧ Hid (R4 132 wx S x y a b ∧ R4 132 wx (S + 1) cx cy ca cb ∧ R4 132 wx (S + 1 + 1) 0 0 0 0 ∧ R4 132 wx W0.heap.size 0 0 W H ∧ Gr w wx))
  case first =>
    go_region
    all_goals
      go_wp2_with fail
      go_meet
      have gz : Gr W0 (W0.alloc (.cells #[.int .i64 0, .int .i64 0, .int .i64 W, .int .i64 H] 132)).drew := ((Gr.refl W0).alloc _).drew
      exact ⟨rfl, rfl, rfl, rfl, RA.out.gr gz, RB.out.gr gz, RC.out.gr gz, (R4.new W0 0 0 W H _).gr ((Gr.refl _).drew), G0.out.trans gz⟩
  case rest =>
    obtain ⟨rfl, rfl, rfl, rfl, HR⟩ := hcut
    obtain ⟨Z, hZ⟩ : ∃ z, W0.heap.size = z := ⟨_, rfl⟩
    have HZ : Hid (Z = S + 3) := hZ.symm.trans sz.out
    rw [hZ] at HR
    rw [hZ]
    clear hZ RA RB RC kl0 k0' k1' G0 sz
    have a0 := HR.out.1.c0
    have a1 := HR.out.1.c1
    have a2 := HR.out.1.c2
    have a3 := HR.out.1.c3
    have b0 := HR.out.2.1.c0
    have b1 := HR.out.2.1.c1
    have b2 := HR.out.2.1.c2
    have b3 := HR.out.2.1.c3
    have z0 := HR.out.2.2.2.1.c0
    have z1 := HR.out.2.2.2.1.c1
    have z2 := HR.out.2.2.2.1.c2
    have z3 := HR.out.2.2.2.1.c3
    go_wp2_with fail
    go_region_with (go_at_call 100; (first | (with_reducible refine Calls.mono (C1 _) ?_) | (with_reducible refine Calls.mono (C2 _) ?_)); rintro e wn ⟨rfl, hgn⟩; have HGn : Hid (Gr wc wn) := (by first | exact ((Gr.refl wc).drew).trans hgn | exact Gr.trans (Hid.out (by assumption)) hgn); clear hgn; have m0 := (HR.out.1.gr HGn.out).c0; have m1 := (HR.out.1.gr HGn.out).c1; have m2 := (HR.out.1.gr HGn.out).c2; have m3 := (HR.out.1.gr HGn.out).c3; have n0 := (HR.out.2.1.gr HGn.out).c0; have n1 := (HR.out.2.1.gr HGn.out).c1; have n2 := (HR.out.2.1.gr HGn.out).c2; have n3 := (HR.out.2.1.gr HGn.out).c3; have o0 := (HR.out.2.2.2.1.gr HGn.out).c0; have o1 := (HR.out.2.2.2.1.gr HGn.out).c1; have o2 := (HR.out.2.2.2.1.gr HGn.out).c2; have o3 := (HR.out.2.2.2.1.gr HGn.out).c3; have p0 := (HR.out.2.2.1.gr HGn.out).c0; have p1 := (HR.out.2.2.1.gr HGn.out).c1; have p2 := (HR.out.2.2.1.gr HGn.out).c2; have p3 := (HR.out.2.2.1.gr HGn.out).c3; have f0 := (HR.out.2.2.1.gr HGn.out).fz 0; have f1 := (HR.out.2.2.1.gr HGn.out).fz 1; have f2 := (HR.out.2.2.1.gr HGn.out).fz 2; have f3 := (HR.out.2.2.1.gr HGn.out).fz 3)
    all_goals
      go_wp2_with fail
      refine bodyPost_ret (results_cell_row rfl _ _ (S + 1 + 1) _ _ _ _ rfl ((HR.out.2.2.1.gr HGn.out).set _ _ _ _) Tryz.underlying132 rfl (by kernel_rfl)) rfl ?_
      exact ⟨rfl, (HR.out.2.2.2.2.trans HGn.out).set4 (by rw [HS.out]; omega) _ _ _ _⟩
end
end Go.Proofs.YtkdajaphbmclkaaGreatDoor

namespace Go.Proofs.YtkdajaphbmclkaaGreatDoor
open Go.RowKit Go.Sort
set_option linter.unusedVariables false

/-- What one number does. -/
def apf (n f : Int) : Int := if n = 0 then 0 else if n = 39 then 0 else if 30 ≤ n ∧ n ≤ 37 then n - 29 else f
def apg (n g : Int) : Int := if n = 0 then 0 else if n = 49 then 0 else if 40 ≤ n ∧ n ≤ 47 then n - 39 else g
def apb (n b : Int) : Int := if n = 0 then 0 else if n = 1 then 1 else if n = 22 then 0 else b
theorem apf_no {n : Int} (f : Int) (h0 : n ≠ 0) (h1 : n ≠ 39) (h2 : ¬ (30 ≤ n ∧ n ≤ 37)) : apf n f = f := by unfold apf; rw [if_neg h0, if_neg h1, if_neg h2]
theorem apg_no {n : Int} (f : Int) (h0 : n ≠ 0) (h1 : n ≠ 49) (h2 : ¬ (40 ≤ n ∧ n ≤ 47)) : apg n f = f := by unfold apg; rw [if_neg h0, if_neg h1, if_neg h2]
theorem apb_no {n : Int} (f : Int) (h0 : n ≠ 0) (h1 : n ≠ 1) (h2 : n ≠ 22) : apb n f = f := by unfold apb; rw [if_neg h0, if_neg h1, if_neg h2]
theorem apf_in {n : Int} (f : Int) (h : 30 ≤ n ∧ n ≤ 37) : apf n f = n - 29 := by unfold apf; rw [if_neg (by omega), if_neg (by omega), if_pos h]
theorem apg_in {n : Int} (f : Int) (h : 40 ≤ n ∧ n ≤ 47) : apg n f = n - 39 := by unfold apg; rw [if_neg (by omega), if_neg (by omega), if_pos h]

set_option maxRecDepth 100000 in
set_option maxHeartbeats 4000000 in
theorem applied_any (f g b n : Int) (w : World) : Calls Tryz.prog 91 #[sv f g b, .int .i64 n] w fun e w' => e = .returned (sv (apf n f) (apg n g) (apb n b)) ∧ Gr w w' := by
  by_cases h0 : n = 0
  · subst h0
    unfold sv
    go_enter Tryz.func91, Tryz.ntmps91
    go_wp2
    refine bodyPost_ret (v := sv 0 0 0) (by simp [results, Tryz.results91, go_sem, sv]) rfl ?_
    exact ⟨by rfl, ((Gr.refl w).alloc _).alloc _⟩
  by_cases h1 : n = 1
  · subst h1
    unfold sv
    go_enter Tryz.func91, Tryz.ntmps91
    go_wp2
    refine bodyPost_ret (v := sv f g 1) (by simp [results, Tryz.results91, go_sem, sv]) rfl ?_
    exact ⟨by rfl, ((Gr.refl w).alloc _).alloc _⟩
  by_cases h2 : n = 22
  · subst h2
    unfold sv
    go_enter Tryz.func91, Tryz.ntmps91
    go_wp2
    refine bodyPost_ret (v := sv f g 0) (by simp [results, Tryz.results91, go_sem, sv]) rfl ?_
    exact ⟨by rfl, ((Gr.refl w).alloc _).alloc _⟩
  by_cases h3 : n = 39
  · subst h3
    unfold sv
    go_enter Tryz.func91, Tryz.ntmps91
    go_wp2
    refine bodyPost_ret (v := sv 0 g b) (by simp [results, Tryz.results91, go_sem, sv]) rfl ?_
    exact ⟨by rfl, ((Gr.refl w).alloc _).alloc _⟩
  by_cases h4 : n = 49
  · subst h4
    unfold sv
    go_enter Tryz.func91, Tryz.ntmps91
    go_wp2
    refine bodyPost_ret (v := sv f 0 b) (by simp [results, Tryz.results91, go_sem, sv]) rfl ?_
    exact ⟨by rfl, ((Gr.refl w).alloc _).alloc _⟩
  by_cases h5 : 30 ≤ n ∧ n ≤ 37
  · rw [apf_in f h5, apg_no g h0 h4 (by omega), apb_no b h0 h1 h2]
    have q1 : 29 < n := by omega
    have q2 : n ≤ 37 := by omega
    unfold sv
    go_enter Tryz.func91, Tryz.ntmps91
    go_wp2
    refine bodyPost_ret (v := sv (n - 29) g b) (by simp [results, Tryz.results91, go_sem, sv]) rfl ?_
    exact ⟨by rfl, ((Gr.refl w).alloc _).alloc _⟩
  by_cases h6 : 40 ≤ n ∧ n ≤ 47
  · rw [apf_no f h0 h3 h5, apg_in g h6, apb_no b h0 h1 h2]
    have q0 : ¬ (29 < n ∧ n ≤ 37) := by omega
    have q1 : 39 < n := by omega
    have q2 : n ≤ 47 := by omega
    have q3 : ¬ n ≤ 37 := by omega
    have q4 : 29 < n := by omega
    unfold sv
    go_enter Tryz.func91, Tryz.ntmps91
    go_wp2
    refine bodyPost_ret (v := sv f (n - 39) b) (by simp [results, Tryz.results91, go_sem, sv]) rfl ?_
    exact ⟨by rfl, ((Gr.refl w).alloc _).alloc _⟩
  rw [apf_no f h0 h3 h5, apg_no g h0 h4 h6, apb_no b h0 h1 h2]
  unfold sv
  go_enter Tryz.func91, Tryz.ntmps91
  go_wp2
  all_goals
    refine bodyPost_ret (v := sv f g b) (by simp [results, Tryz.results91, go_sem, sv]) rfl ?_
    exact ⟨by rfl, ((Gr.refl w).alloc _).alloc _⟩

end Go.Proofs.YtkdajaphbmclkaaGreatDoor
