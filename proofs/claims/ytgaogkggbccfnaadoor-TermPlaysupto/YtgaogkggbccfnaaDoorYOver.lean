/-
  style.Over.
-/
import Derived.Test.YtgaogkggbccfnaaDoorYSnd
namespace Go.Proofs.YtgaogkggbccfnaaDoor
open Go.RowKit Go.Sort
set_option linter.unusedVariables false

/-- One number over another one. -/
def ov (a b : Int) : Int := if kn b = 0 then kn a else kn b
def obo (a b : Int) : Int := max (bo b) (bo a)
theorem ov_bd (a b : Int) : 0 ≤ ov a b ∧ ov a b ≤ 8 := by have := kn_bd a; have := kn_bd b; unfold ov; split <;> omega
theorem obo_bd (a b : Int) : 0 ≤ obo a b ∧ obo a b ≤ 1 := by have := bo_bd a; have := bo_bd b; unfold obo; omega
theorem kn_of {n : Int} (h : 0 ≤ n ∧ n ≤ 8) : kn n = n := if_neg (by omega)
theorem bo_of {n : Int} (h : 0 ≤ n ∧ n ≤ 1) : bo n = n := by unfold bo; split <;> omega
theorem kn_ov (a b : Int) : kn (ov a b) = ov a b := kn_of (ov_bd a b)
theorem bo_obo (a b : Int) : bo (obo a b) = obo a b := bo_of (obo_bd a b)
theorem ov_ov (a b c : Int) : ov (ov a b) c = ov a (ov b c) := by
  have e1 : ov (ov a b) c = if kn c = 0 then ov a b else kn c := by show (if kn c = 0 then kn (ov a b) else kn c) = _; rw [kn_ov]
  have e2 : ov a (ov b c) = if ov b c = 0 then kn a else ov b c := by show (if kn (ov b c) = 0 then kn a else kn (ov b c)) = _; rw [kn_ov]
  rw [e1, e2]
  unfold ov
  (repeat' split) <;> omega
theorem obo_obo (a b c : Int) : obo (obo a b) c = obo a (obo b c) := by
  have e1 : obo (obo a b) c = max (bo c) (obo a b) := by show max (bo c) (bo (obo a b)) = _; rw [bo_obo]
  have e2 : obo a (obo b c) = max (obo b c) (bo a) := by show max (bo (obo b c)) (bo a) = _; rw [bo_obo]
  rw [e1, e2]; unfold obo; omega
theorem ov_one (a : Int) {c : Int} (h : 1 ≤ c ∧ c ≤ 8) : ov a c = c := by
  have : kn c = c := kn_of (by omega)
  unfold ov; rw [this, if_neg (by omega)]
theorem obo_one (a : Int) : obo a 1 = 1 := by have := bo_bd a; have : bo 1 = 1 := rfl; unfold obo; omega
theorem ov_zero (a : Int) : ov 0 a = kn a := by have : kn 0 = 0 := rfl; unfold ov; split <;> omega
theorem obo_zero (a : Int) : obo 0 a = bo a := by have : bo 0 = 0 := rfl; have := bo_bd a; unfold obo; omega
theorem ov_self (a : Int) : ov (kn a) (kn a) = kn a := by unfold ov; rw [kn_kn]; split <;> omega
theorem obo_self (a : Int) : obo (bo a) (bo a) = bo a := by unfold obo; rw [bo_bo]; omega

theorem rv3 {a b c a' b' c' : Int} (h0 : a = a') (h1 : b = b') (h2 : c = c') : Ending.returned (.agg #[.int .i64 a, .int .i64 b, .int .i64 c]) = Ending.returned (sv a' b' c') := by subst h0 h1 h2; rfl
set_option maxRecDepth 100000 in
set_option maxHeartbeats 4000000 in
theorem over_any (f g b f2 g2 b2 : Int) (w : World) : Calls Tryd.prog 99 #[sv f g b, sv f2 g2 b2] w fun e w' => e = .returned (sv (ov f f2) (ov g g2) (obo b b2)) ∧ Gr w w' := by
  have CC : Hid (∀ f g b w, Calls Tryd.prog 94 #[sv f g b] w fun e w' => e = .returned (sv (kn f) (kn g) (bo b)) ∧ Gr w w') := counted_any
  unfold sv at CC ⊢
  go_enter Tryd.func99, Tryd.ntmps99
  go_wp2_with fail
  obtain ⟨S, hS⟩ : ∃ x, w.heap.size = x := ⟨_, rfl⟩
  obtain ⟨W0, hW0⟩ : ∃ x, ((w.alloc (.cells #[.int .i64 f, .int .i64 g, .int .i64 b] 42)).alloc (.cells #[.int .i64 f2, .int .i64 g2, .int .i64 b2] 42)).alloc (.cells #[.int .i64 0, .int .i64 0, .int .i64 0] 42) = x := ⟨_, rfl⟩
  have G0 : Hid (Gr w W0) := by rw [← hW0]; exact (((Gr.refl w).alloc _).alloc _).alloc _
  have RA : Hid (R3 42 W0 S f g b) := by rw [← hW0, ← hS]; exact (R3.new w _ _ _ _).gr (((Gr.refl _).alloc _).alloc _)
  have RB : Hid (R3 42 W0 (S + 1) f2 g2 b2) := by
    have := R3.new (w.alloc (.cells #[.int .i64 f, .int .i64 g, .int .i64 b] 42)) f2 g2 b2 42
    simp only [World.size_alloc, hS] at this
    rw [← hW0]; exact this.gr ((Gr.refl _).alloc _)
  have RC : Hid (R3 42 W0 (S + 1 + 1) 0 0 0) := by
    have := R3.new ((w.alloc (.cells #[.int .i64 f, .int .i64 g, .int .i64 b] 42)).alloc (.cells #[.int .i64 f2, .int .i64 g2, .int .i64 b2] 42)) 0 0 0 42
    simp only [World.size_alloc, hS] at this
    rw [← hW0]; exact this
  rw [hW0, hS]
  clear hW0
  have HS : Hid (w.heap.size = S) := hS
  clear hS
  have a0 := RA.out.c0
  have a1 := RA.out.c1
  have a2 := RA.out.c2
  have b0 := RB.out.c0
  have b1 := RB.out.c1
  have b2' := RB.out.c2
  obtain ⟨x, hx⟩ : ∃ z, kn f = z := ⟨_, rfl⟩
  obtain ⟨y, hy⟩ : ∃ z, kn g = z := ⟨_, rfl⟩
  obtain ⟨z, hz⟩ : ∃ z, bo b = z := ⟨_, rfl⟩
  obtain ⟨x2, hx2⟩ : ∃ z, kn f2 = z := ⟨_, rfl⟩
  obtain ⟨y2, hy2⟩ : ∃ z, kn g2 = z := ⟨_, rfl⟩
  obtain ⟨z2, hz2⟩ : ∃ z, bo b2 = z := ⟨_, rfl⟩
  have HV : Hid (sv (ov f f2) (ov g g2) (obo b b2) = sv (if x2 = 0 then x else x2) (if y2 = 0 then y else y2) (max z2 z)) := by show _ = _; unfold ov obo; rw [hx, hy, hz, hx2, hy2, hz2]
  have bz := bo_bd b
  have bz2 := bo_bd b2
  rw [hz] at bz
  rw [hz2] at bz2
  have C1 := CC.out f g b
  have C2 := CC.out f2 g2 b2
  rw [hx, hy, hz] at C1
  rw [hx2, hy2, hz2] at C2
  go_cut [2, 3, 4] from 5 to 9 (fun u v t wx => u = .pointer (some ⟨S, 0, none⟩) ∧ v = .pointer (some ⟨S + 1, 0, none⟩) ∧ t = .pointer (some ⟨S + 1 + 1, 0, none⟩) ∧ Hid (R3 42 wx S x y z ∧ R3 42 wx (S + 1) x2 y2 z2 ∧ R3 42 wx (S + 1 + 1) 0 0 0 ∧ Gr w wx))
  case first =>
    go_region_with (go_at_call 94; (first | (with_reducible refine Calls.mono (C1 _) ?_) | (with_reducible refine Calls.mono (C2 _) ?_)); rintro e wn ⟨rfl, hgn⟩; have HGn : Hid (Gr W0 wn) := (by first | exact ((Gr.refl W0).drew).trans hgn | exact Gr.trans (Hid.out (by assumption)) hgn); have HAn : Hid (R3 42 wn S f g b) := RA.out.gr HGn.out; have HBn : Hid (R3 42 wn (S + 1) f2 g2 b2) := RB.out.gr HGn.out; clear hgn; have m0 := HAn.out.c0; have m1 := HAn.out.c1; have m2 := HAn.out.c2; have n0 := HBn.out.c0; have n1 := HBn.out.c1; have n2 := HBn.out.c2; have f0 := HAn.out.fz 0; have f1 := HAn.out.fz 1; have f2' := HAn.out.fz 2; have g0 := HBn.out.fz 0; have g1 := HBn.out.fz 1; have g2' := HBn.out.fz 2)
    all_goals
      have HO : Hid (R3 42 ((((((wn.setCell ⟨S, 0, none⟩ (.int .i64 x)).setCell ⟨S, 1, none⟩ (.int .i64 y)).setCell ⟨S, 2, none⟩ (.int .i64 z)).setCell ⟨S + 1, 0, none⟩ (.int .i64 x2)).setCell ⟨S + 1, 1, none⟩ (.int .i64 y2)).setCell ⟨S + 1, 2, none⟩ (.int .i64 z2)) S x y z ∧ R3 42 ((((((wn.setCell ⟨S, 0, none⟩ (.int .i64 x)).setCell ⟨S, 1, none⟩ (.int .i64 y)).setCell ⟨S, 2, none⟩ (.int .i64 z)).setCell ⟨S + 1, 0, none⟩ (.int .i64 x2)).setCell ⟨S + 1, 1, none⟩ (.int .i64 y2)).setCell ⟨S + 1, 2, none⟩ (.int .i64 z2)) (S + 1) x2 y2 z2 ∧ R3 42 ((((((wn.setCell ⟨S, 0, none⟩ (.int .i64 x)).setCell ⟨S, 1, none⟩ (.int .i64 y)).setCell ⟨S, 2, none⟩ (.int .i64 z)).setCell ⟨S + 1, 0, none⟩ (.int .i64 x2)).setCell ⟨S + 1, 1, none⟩ (.int .i64 y2)).setCell ⟨S + 1, 2, none⟩ (.int .i64 z2)) (S + 1 + 1) 0 0 0 ∧ Gr w ((((((wn.setCell ⟨S, 0, none⟩ (.int .i64 x)).setCell ⟨S, 1, none⟩ (.int .i64 y)).setCell ⟨S, 2, none⟩ (.int .i64 z)).setCell ⟨S + 1, 0, none⟩ (.int .i64 x2)).setCell ⟨S + 1, 1, none⟩ (.int .i64 y2)).setCell ⟨S + 1, 2, none⟩ (.int .i64 z2))) :=
        ⟨(HAn.out.set x y z).others (by omega) _ _ _, (HBn.out.others (by omega) _ _ _).set x2 y2 z2, ((RC.out.gr HGn.out).others (by omega) _ _ _).others (by omega) _ _ _, ((G0.out.trans HGn.out).set3 (by rw [HS.out]; omega) _ _ _).set3 (by rw [HS.out]; omega) _ _ _⟩
      clear m0 m1 m2 n0 n1 n2 f0 f1 f2' g0 g1 g2' a0 a1 a2 b0 b1 b2' HAn HBn
      go_wp2_with fail
      go_meet
      exact ⟨rfl, rfl, rfl, HO.out⟩
  case rest =>
    obtain ⟨rfl, rfl, rfl, HO⟩ := hcut
    clear a0 a1 a2 b0 b1 b2' RA RB RC
    have a0 := HO.out.1.c0
    have a1 := HO.out.1.c1
    have a2 := HO.out.1.c2
    have b0 := HO.out.2.1.c0
    have b1 := HO.out.2.1.c1
    have b2' := HO.out.2.1.c2
    have g0 := HO.out.2.1.fz 0
    have g1 := HO.out.2.1.fz 1
    have g2' := HO.out.2.1.fz 2
    have gg := HO.out.2.2.2
    by_cases h1 : x2 = 0
    · by_cases h2 : y2 = 0
      · by_cases h3 : z2 < z
        · have h3' : z2 ≤ z := by omega
          have RN := (((HO.out.2.1.set0 x).set1 y).set2 z)
          have RO := (((HO.out.2.2.1.other (k := S + 1) (o := 0) (show S + 1 + 1 ≠ S + 1 by omega) (.int .i64 x)).other (k := S + 1) (o := 1) (show S + 1 + 1 ≠ S + 1 by omega) (.int .i64 y)).other (k := S + 1) (o := 2) (show S + 1 + 1 ≠ S + 1 by omega) (.int .i64 z))
          have GN := (((gg.set (o := 0) (show w.heap.size ≤ S + 1 by rw [HS.out]; omega) (.int .i64 x)).set (o := 1) (show w.heap.size ≤ S + 1 by rw [HS.out]; omega) (.int .i64 y)).set (o := 2) (show w.heap.size ≤ S + 1 by rw [HS.out]; omega) (.int .i64 z))
          have n0 := RN.c0
          have n1 := RN.c1
          have n2 := RN.c2
          have o0 := RO.c0
          have o1 := RO.c1
          have o2 := RO.c2
          have k0 := RO.fz 0
          have k1 := RO.fz 1
          have k2 := RO.fz 2
          go_wp2
          refine bodyPost_ret (results_cell_row rfl _ _ (S + 1 + 1) _ _ _ _ rfl (RO.set _ _ _) Tryd.underlying42 rfl (by kernel_rfl)) rfl ?_
          exact ⟨by show _ = Ending.returned (sv (ov f f2) (ov g g2) (obo b b2)); rw [HV.out, if_pos h1, if_pos h2, show max z2 z = z by omega]; rfl, GN.set3 (show w.heap.size ≤ S + 1 + 1 by rw [HS.out]; omega) _ _ _⟩
        · have h3' : z ≤ z2 := by omega
          have RN := (((HO.out.2.1.set0 x).set1 y).set2 z2)
          have RO := (((HO.out.2.2.1.other (k := S + 1) (o := 0) (show S + 1 + 1 ≠ S + 1 by omega) (.int .i64 x)).other (k := S + 1) (o := 1) (show S + 1 + 1 ≠ S + 1 by omega) (.int .i64 y)).other (k := S + 1) (o := 2) (show S + 1 + 1 ≠ S + 1 by omega) (.int .i64 z2))
          have GN := (((gg.set (o := 0) (show w.heap.size ≤ S + 1 by rw [HS.out]; omega) (.int .i64 x)).set (o := 1) (show w.heap.size ≤ S + 1 by rw [HS.out]; omega) (.int .i64 y)).set (o := 2) (show w.heap.size ≤ S + 1 by rw [HS.out]; omega) (.int .i64 z2))
          have n0 := RN.c0
          have n1 := RN.c1
          have n2 := RN.c2
          have o0 := RO.c0
          have o1 := RO.c1
          have o2 := RO.c2
          have k0 := RO.fz 0
          have k1 := RO.fz 1
          have k2 := RO.fz 2
          go_wp2
          refine bodyPost_ret (results_cell_row rfl _ _ (S + 1 + 1) _ _ _ _ rfl (RO.set _ _ _) Tryd.underlying42 rfl (by kernel_rfl)) rfl ?_
          exact ⟨by show _ = Ending.returned (sv (ov f f2) (ov g g2) (obo b b2)); rw [HV.out, if_pos h1, if_pos h2, show max z2 z = z2 by omega]; rfl, GN.set3 (show w.heap.size ≤ S + 1 + 1 by rw [HS.out]; omega) _ _ _⟩
      · by_cases h3 : z2 < z
        · have h3' : z2 ≤ z := by omega
          have RN := ((HO.out.2.1.set0 x).set2 z)
          have RO := ((HO.out.2.2.1.other (k := S + 1) (o := 0) (show S + 1 + 1 ≠ S + 1 by omega) (.int .i64 x)).other (k := S + 1) (o := 2) (show S + 1 + 1 ≠ S + 1 by omega) (.int .i64 z))
          have GN := ((gg.set (o := 0) (show w.heap.size ≤ S + 1 by rw [HS.out]; omega) (.int .i64 x)).set (o := 2) (show w.heap.size ≤ S + 1 by rw [HS.out]; omega) (.int .i64 z))
          have n0 := RN.c0
          have n1 := RN.c1
          have n2 := RN.c2
          have o0 := RO.c0
          have o1 := RO.c1
          have o2 := RO.c2
          have k0 := RO.fz 0
          have k1 := RO.fz 1
          have k2 := RO.fz 2
          go_wp2
          refine bodyPost_ret (results_cell_row rfl _ _ (S + 1 + 1) _ _ _ _ rfl (RO.set _ _ _) Tryd.underlying42 rfl (by kernel_rfl)) rfl ?_
          exact ⟨by show _ = Ending.returned (sv (ov f f2) (ov g g2) (obo b b2)); rw [HV.out, if_pos h1, if_neg h2, show max z2 z = z by omega]; rfl, GN.set3 (show w.heap.size ≤ S + 1 + 1 by rw [HS.out]; omega) _ _ _⟩
        · have h3' : z ≤ z2 := by omega
          have RN := ((HO.out.2.1.set0 x).set2 z2)
          have RO := ((HO.out.2.2.1.other (k := S + 1) (o := 0) (show S + 1 + 1 ≠ S + 1 by omega) (.int .i64 x)).other (k := S + 1) (o := 2) (show S + 1 + 1 ≠ S + 1 by omega) (.int .i64 z2))
          have GN := ((gg.set (o := 0) (show w.heap.size ≤ S + 1 by rw [HS.out]; omega) (.int .i64 x)).set (o := 2) (show w.heap.size ≤ S + 1 by rw [HS.out]; omega) (.int .i64 z2))
          have n0 := RN.c0
          have n1 := RN.c1
          have n2 := RN.c2
          have o0 := RO.c0
          have o1 := RO.c1
          have o2 := RO.c2
          have k0 := RO.fz 0
          have k1 := RO.fz 1
          have k2 := RO.fz 2
          go_wp2
          refine bodyPost_ret (results_cell_row rfl _ _ (S + 1 + 1) _ _ _ _ rfl (RO.set _ _ _) Tryd.underlying42 rfl (by kernel_rfl)) rfl ?_
          exact ⟨by show _ = Ending.returned (sv (ov f f2) (ov g g2) (obo b b2)); rw [HV.out, if_pos h1, if_neg h2, show max z2 z = z2 by omega]; rfl, GN.set3 (show w.heap.size ≤ S + 1 + 1 by rw [HS.out]; omega) _ _ _⟩
    · by_cases h2 : y2 = 0
      · by_cases h3 : z2 < z
        · have h3' : z2 ≤ z := by omega
          have RN := ((HO.out.2.1.set1 y).set2 z)
          have RO := ((HO.out.2.2.1.other (k := S + 1) (o := 1) (show S + 1 + 1 ≠ S + 1 by omega) (.int .i64 y)).other (k := S + 1) (o := 2) (show S + 1 + 1 ≠ S + 1 by omega) (.int .i64 z))
          have GN := ((gg.set (o := 1) (show w.heap.size ≤ S + 1 by rw [HS.out]; omega) (.int .i64 y)).set (o := 2) (show w.heap.size ≤ S + 1 by rw [HS.out]; omega) (.int .i64 z))
          have n0 := RN.c0
          have n1 := RN.c1
          have n2 := RN.c2
          have o0 := RO.c0
          have o1 := RO.c1
          have o2 := RO.c2
          have k0 := RO.fz 0
          have k1 := RO.fz 1
          have k2 := RO.fz 2
          go_wp2
          refine bodyPost_ret (results_cell_row rfl _ _ (S + 1 + 1) _ _ _ _ rfl (RO.set _ _ _) Tryd.underlying42 rfl (by kernel_rfl)) rfl ?_
          exact ⟨by show _ = Ending.returned (sv (ov f f2) (ov g g2) (obo b b2)); rw [HV.out, if_neg h1, if_pos h2, show max z2 z = z by omega]; rfl, GN.set3 (show w.heap.size ≤ S + 1 + 1 by rw [HS.out]; omega) _ _ _⟩
        · have h3' : z ≤ z2 := by omega
          have RN := ((HO.out.2.1.set1 y).set2 z2)
          have RO := ((HO.out.2.2.1.other (k := S + 1) (o := 1) (show S + 1 + 1 ≠ S + 1 by omega) (.int .i64 y)).other (k := S + 1) (o := 2) (show S + 1 + 1 ≠ S + 1 by omega) (.int .i64 z2))
          have GN := ((gg.set (o := 1) (show w.heap.size ≤ S + 1 by rw [HS.out]; omega) (.int .i64 y)).set (o := 2) (show w.heap.size ≤ S + 1 by rw [HS.out]; omega) (.int .i64 z2))
          have n0 := RN.c0
          have n1 := RN.c1
          have n2 := RN.c2
          have o0 := RO.c0
          have o1 := RO.c1
          have o2 := RO.c2
          have k0 := RO.fz 0
          have k1 := RO.fz 1
          have k2 := RO.fz 2
          go_wp2
          refine bodyPost_ret (results_cell_row rfl _ _ (S + 1 + 1) _ _ _ _ rfl (RO.set _ _ _) Tryd.underlying42 rfl (by kernel_rfl)) rfl ?_
          exact ⟨by show _ = Ending.returned (sv (ov f f2) (ov g g2) (obo b b2)); rw [HV.out, if_neg h1, if_pos h2, show max z2 z = z2 by omega]; rfl, GN.set3 (show w.heap.size ≤ S + 1 + 1 by rw [HS.out]; omega) _ _ _⟩
      · by_cases h3 : z2 < z
        · have h3' : z2 ≤ z := by omega
          have RN := (HO.out.2.1.set2 z)
          have RO := (HO.out.2.2.1.other (k := S + 1) (o := 2) (show S + 1 + 1 ≠ S + 1 by omega) (.int .i64 z))
          have GN := (gg.set (o := 2) (show w.heap.size ≤ S + 1 by rw [HS.out]; omega) (.int .i64 z))
          have n0 := RN.c0
          have n1 := RN.c1
          have n2 := RN.c2
          have o0 := RO.c0
          have o1 := RO.c1
          have o2 := RO.c2
          have k0 := RO.fz 0
          have k1 := RO.fz 1
          have k2 := RO.fz 2
          go_wp2
          refine bodyPost_ret (results_cell_row rfl _ _ (S + 1 + 1) _ _ _ _ rfl (RO.set _ _ _) Tryd.underlying42 rfl (by kernel_rfl)) rfl ?_
          exact ⟨by show _ = Ending.returned (sv (ov f f2) (ov g g2) (obo b b2)); rw [HV.out, if_neg h1, if_neg h2, show max z2 z = z by omega]; rfl, GN.set3 (show w.heap.size ≤ S + 1 + 1 by rw [HS.out]; omega) _ _ _⟩
        · have h3' : z ≤ z2 := by omega
          have RN := (HO.out.2.1.set2 z2)
          have RO := (HO.out.2.2.1.other (k := S + 1) (o := 2) (show S + 1 + 1 ≠ S + 1 by omega) (.int .i64 z2))
          have GN := (gg.set (o := 2) (show w.heap.size ≤ S + 1 by rw [HS.out]; omega) (.int .i64 z2))
          have n0 := RN.c0
          have n1 := RN.c1
          have n2 := RN.c2
          have o0 := RO.c0
          have o1 := RO.c1
          have o2 := RO.c2
          have k0 := RO.fz 0
          have k1 := RO.fz 1
          have k2 := RO.fz 2
          go_wp2
          refine bodyPost_ret (results_cell_row rfl _ _ (S + 1 + 1) _ _ _ _ rfl (RO.set _ _ _) Tryd.underlying42 rfl (by kernel_rfl)) rfl ?_
          exact ⟨by show _ = Ending.returned (sv (ov f f2) (ov g g2) (obo b b2)); rw [HV.out, if_neg h1, if_neg h2, show max z2 z = z2 by omega]; rfl, GN.set3 (show w.heap.size ≤ S + 1 + 1 by rw [HS.out]; omega) _ _ _⟩

end Go.Proofs.YtgaogkggbccfnaaDoor
