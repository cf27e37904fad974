/-
  style.Over.
-/
import Derived.Test.YtlfffpoeioecjaaDoorX08
namespace Go.Proofs.YtlfffpoeioecjaaDoor
open Go.RowKit Go.Sort
set_option linter.unusedVariables false

/-- One number over another one. -/
def ov (a b : Int) : Int := if kn b = 0 then kn a else kn b
def obo (a b : Int) : Int := max (bo b) (bo a)
theorem ov_bd (a b : Int) : 0 ≤ ov a b ∧ ov a b ≤ 8 := by have := kn_bd a; have := kn_bd b; unfold ov; split <;> omega
theorem obo_bd (a b : Int) : 0 ≤ obo a b ∧ obo a b ≤ 1 := by have := bo_bd a; have := bo_bd b; unfold obo; omega
theorem kn_of {n : Int} (h : 0 ≤ n ∧ n ≤ 8) : kn n = n := if_neg (by omega)
theorem bo_of {n : Int} (h : 0 ≤ n ∧ n ≤ 1) : bo n = n := by unfold bo; split <;> omega
theorem kn_ov (a b : Int) : kn (ov a b) = ov a b := kn_of (ov_bd a b)
theorem bo_obo (a b : Int) : bo (obo a b) = obo a b := bo_of (obo_bd a b)
theorem ov_ov (a b c : Int) : ov (ov a b) c = ov a (ov b c) := by
  have e1 : ov (ov a b) c = if kn c = 0 then ov a b else kn c := by show (if kn c = 0 then kn (ov a b) else kn c) = _; rw [kn_ov]
  have e2 : ov a (ov b c) = if ov b c = 0 then kn a else ov b c := by show (if kn (ov b c) = 0 then kn a else kn (ov b c)) = _; rw [kn_ov]
  rw [e1, e2]
  unfold ov
  (repeat' split) <;> omega
theorem obo_obo (a b c : Int) : obo (obo a b) c = obo a (obo b c) := by
  have e1 : obo (obo a b) c = max (bo c) (obo a b) := by show max (bo c) (bo (obo a b)) = _; rw [bo_obo]
  have e2 : obo a (obo b c) = max (obo b c) (bo a) := by show max (bo (obo b c)) (bo a) = _; rw [bo_obo]
  rw [e1, e2]; unfold obo; omega
theorem ov_one (a : Int) {c : Int} (h : 1 ≤ c ∧ c ≤ 8) : ov a c = c := by
  have : kn c = c := kn_of (by omega)
  unfold ov; rw [this, if_neg (by omega)]
theorem obo_one (a : Int) : obo a 1 = 1 := by have := bo_bd a; have : bo 1 = 1 := rfl; unfold obo; omega
theorem ov_zero (a : Int) : ov 0 a = kn a := by have : kn 0 = 0 := rfl; unfold ov; split <;> omega
theorem obo_zero (a : Int) : obo 0 a = bo a := by have : bo 0 = 0 := rfl; have := bo_bd a; unfold obo; omega
theorem ov_self (a : Int) : ov (kn a) (kn a) = kn a := by unfold ov; rw [kn_kn]; split <;> omega
theorem obo_self (a : Int) : obo (bo a) (bo a) = bo a := by unfold obo; rw [bo_bo]; omega

theorem rv3 {a b c a' b' c' : Int} (h0 : a = a') (h1 : b = b') (h2 : c = c') : Ending.returned (.agg #[.int .i64 a, .int .i64 b, .int .i64 c]) = Ending.returned (sv a' b' c') := by subst h0 h1 h2; rfl
set_option maxRecDepth 100000 in
set_option maxHeartbeats 4000000 in
theorem over_any (f g b f2 g2 b2 : Int) (w : World) : Calls Tryd.prog 80 #[sv f g b, sv f2 g2 b2] w fun e w' => e = .returned (sv (ov f f2) (ov g g2) (obo b b2)) ∧ Gr w w' := by
  have CC : Hid (∀ f g b w, Calls Tryd.prog 83 #[sv f g b] w fun e w' => e = .returned (sv (kn f) (kn g) (bo b)) ∧ Gr w w') := counted_any
  unfold sv at CC ⊢
  go_enter Tryd.func80, Tryd.ntmps80
  go_wp2_with fail
  obtain ⟨S, hS⟩ : ∃ x, w.heap.size = x := ⟨_, rfl⟩
  obtain ⟨W0, hW0⟩ : ∃ x, ((w.alloc (.cells #[.int .i64 f, .int .i64 g, .int .i64 b] 32)).alloc (.cells #[.int .i64 f2, .int .i64 g2, .int .i64 b2] 32)).alloc (.cells #[.int .i64 0, .int .i64 0, .int .i64 0] 32) = x := ⟨_, rfl⟩
  have G0 : Hid (Gr w W0) := by rw [← hW0]; exact (((Gr.refl w).alloc _).alloc _).alloc _
  have RA : Hid (R3 32 W0 S f g b) := by rw [← hW0, ← hS]; exact (R3.new w _ _ _ _).gr (((Gr.refl _).alloc _).alloc _)
  have RB : Hid (R3 32 W0 (S + 1) f2 g2 b2) := by
    have := R3.new (w.alloc (.cells #[.int .i64 f, .int .i64 g, .int .i64 b] 32)) f2 g2 b2 32
    simp only [World.size_alloc, hS] at this
    rw [← hW0]; exact this.gr ((Gr.refl _).alloc _)
  have RC : Hid (R3 32 W0 (S + 1 + 1) 0 0 0) := by
    have := R3.new ((w.alloc (.cells #[.int .i64 f, .int .i64 g, .int .i64 b] 32)).alloc (.cells #[.int .i64 f2, .int .i64 g2, .int .i64 b2] 32)) 0 0 0 32
    simp only [World.size_alloc, hS] at this
    rw [← hW0]; exact this
  rw [hW0, hS]
  clear hW0
  have HS : Hid (w.heap.size = S) := hS
  clear hS
  have a0 := RA.out.c0
  have a1 := RA.out.c1
  have a2 := RA.out.c2
  have b0 := RB.out.c0
  have b1 := RB.out.c1
  have b2' := RB.out.c2
  obtain ⟨x, hx⟩ : ∃ z, kn f = z := ⟨_, rfl⟩
  obtain ⟨y, hy⟩ : ∃ z, kn g = z := ⟨_, rfl⟩
  obtain ⟨z, hz⟩ : ∃ z, bo b = z := ⟨_, rfl⟩
  obtain ⟨x2, hx2⟩ : ∃ z, kn f2 = z := ⟨_, rfl⟩
  obtain ⟨y2, hy2⟩ : ∃ z, kn g2 = z := ⟨_, rfl⟩
  obtain ⟨z2, hz2⟩ : ∃ z, bo b2 = z := ⟨_, rfl⟩
  have HV : Hid (sv (ov f f2) (ov g g2) (obo b b2) = sv (if x2 = 0 then x else x2) (if y2 = 0 then y else y2) (max z2 z)) := by show _ = _; unfold ov obo; rw [hx, hy, hz, hx2, hy2, hz2]
  have bz := bo_bd b
  have bz2 := bo_bd b2
  rw [hz] at bz
  rw [hz2] at bz2
  have C1 := CC.out f g b
  have C2 := CC.out f2 g2 b2
  rw [hx, hy, hz] at C1
  rw [hx2, hy2, hz2] at C2
  go_cut [2, 3, 4] from 5 to 9 (fun u v t wx => u = .pointer (some ⟨S, 0, none⟩) ∧ v = .pointer (some ⟨S + 1, 0, none⟩) ∧ t = .pointer (some ⟨S + 1 + 1, 0, none⟩) ∧ Hid (R3 32 wx S x y z ∧ R3 32 wx (S + 1) x2 y2 z2 ∧ R3 32 wx (S + 1 + 1) 0 0 0 ∧ Gr w wx))
  case first =>
    go_region_with (go_at_call 83; (first | (with_reducible refine Calls.mono (C1 _) ?_) | (with_reducible refine Calls.mono (C2 _) ?_)); rintro e wn ⟨rfl, hgn⟩; have HGn : Hid (Gr W0 wn) := (by first | exact ((Gr.refl W0).drew).trans hgn | exact Gr.trans (Hid.out (by assumption)) hgn); have HAn : Hid (R3 32 wn S f g b) := RA.out.gr HGn.out; have HBn : Hid (R3 32 wn (S + 1) f2 g2 b2) := RB.out.gr HGn.out; clear hgn; have m0 := HAn.out.c0; have m1 := HAn.out.c1; have m2 := HAn.out.c2; have n0 := HBn.out.c0; have n1 := HBn.out.c1; have n2 := HBn.out.c2; have f0 := HAn.out.fz 0; have f1 := HAn.out.fz 1; have f2' := HAn.out.fz 2; have g0 := HBn.out.fz 0; have g1 := HBn.out.fz 1; have g2' := HBn.out.fz 2)
    all_goals
      have HO : Hid (R3 32 ((((((wn.setCell ⟨S, 0, none⟩ (.int .i64 x)).setCell ⟨S, 1, none⟩ (.int .i64 y)).setCell ⟨S, 2, none⟩ (.int .i64 z)).setCell ⟨S + 1, 0, none⟩ (.int .i64 x2)).setCell ⟨S + 1, 1, none⟩ (.int .i64 y2)).setCell ⟨S + 1, 2, none⟩ (.int .i64 z2)) S x y z ∧ R3 32 ((((((wn.setCell ⟨S, 0, none⟩ (.int .i64 x)).setCell ⟨S, 1, none⟩ (.int .i64 y)).setCell ⟨S, 2, none⟩ (.int .i64 z)).setCell ⟨S + 1, 0, none⟩ (.int .i64 x2)).setCell ⟨S + 1, 1, none⟩ (.int .i64 y2)).setCell ⟨S + 1, 2, none⟩ (.int .i64 z2)) (S + 1) x2 y2 z2 ∧ R3 32 ((((((wn.setCell ⟨S, 0, none⟩ (.int .i64 x)).setCell ⟨S, 1, none⟩ (.int .i64 y)).setCell ⟨S, 2, none⟩ (.int .i64 z)).setCell ⟨S + 1, 0, none⟩ (.int .i64 x2)).setCell ⟨S + 1, 1, none⟩ (.int .i64 y2)).setCell ⟨S + 1, 2, none⟩ (.int .i64 z2)) (S + 1 + 1) 0 0 0 ∧ Gr w ((((((wn.setCell ⟨S, 0, none⟩ (.int .i64 x)).setCell ⟨S, 1, none⟩ (.int .i64 y)).setCell ⟨S, 2, none⟩ (.int .i64 z)).setCell ⟨S + 1, 0, none⟩ (.int .i64 x2)).setCell ⟨S + 1, 1, none⟩ (.int .i64 y2)).setCell ⟨S + 1, 2, none⟩ (.int .i64 z2))) :=
        ⟨(HAn.out.set x y z).others (by omega) _ _ _, (HBn.out.others (by omega) _ _ _).set x2 y2 z2, ((RC.out.gr HGn.out).others (by omega) _ _ _).others (by omega) _ _ _, ((G0.out.trans HGn.out).set3 (by rw [HS.out]; omega) _ _ _).set3 (by rw [HS.out]; omega) _ _ _⟩
      clear m0 m1 m2 n0 n1 n2 f0 f1 f2' g0 g1 g2' a0 a1 a2 b0 b1 b2' HAn HBn
      go_wp2_with fail
      go_meet
      exact ⟨rfl, rfl, rfl, HO.out⟩
  case rest =>
    obtain ⟨rfl, rfl, rfl, HO⟩ := hcut
    clear a0 a1 a2 b0 b1 b2' RA RB RC
    have a0 := HO.out.1.c0
    have a1 := HO.out.1.c1
    have a2 := HO.out.1.c2
    have b0 := HO.out.2.1.c0
    have b1 := HO.out.2.1.c1
    have b2' := HO.out.2.1.c2
    have g0 := HO.out.2.1.fz 0
    have g1 := HO.out.2.1.fz 1
    have g2' := HO.out.2.1.fz 2
    have gg := HO.out.2.2.2
    by_cases h1 : x2 = 0
    · by_cases h2 : y2 = 0
      · by_cases h3 : z2 < z
        · have h3' : z2 ≤ z := by omega
          have RN := (((HO.out.2.1.set0 x).set1 y).set2 z)
          have RO := (((HO.out.2.2.1.other (k := S + 1) (o := 0) (show S + 1 + 1 ≠ S + 1 by omega) (.int .i64 x)).other (k := S + 1) (o := 1) (show S + 1 + 1 ≠ S + 1 by omega) (.int .i64 y)).other (k := S + 1) (o := 2) (show S + 1 + 1 ≠ S + 1 by omega) (.int .i64 z))
          have GN := (((gg.set (o := 0) (show w.heap.size ≤ S + 1 by rw [HS.out]; omega) (.int .i64 x)).set (o := 1) (show w.heap.size ≤ S + 1 by rw [HS.out]; omega) (.int .i64 y)).set (o := 2) (show w.heap.size ≤ S + 1 by rw [HS.out]; omega) (.int .i64 z))
          have n0 := RN.c0
          have n1 := RN.c1
          have n2 := RN.c2
          have o0 := RO.c0
          have o1 := RO.c1
          have o2 := RO.c2
          have k0 := RO.fz 0
          have k1 := RO.fz 1
          have k2 := RO.fz 2
          go_wp2
          refine bodyPost_ret (results_cell_row rfl _ _ (S + 1 + 1) _ _ _ _ rfl (RO.set _ _ _) Tryd.underlying32 rfl (by kernel_rfl)) rfl ?_
          exact ⟨by show _ = Ending.returned (sv (ov f f2) (ov g g2) (obo b b2)); rw [HV.out, if_pos h1, if_pos h2, show max z2 z = z by omega]; rfl, GN.set3 (show w.heap.size ≤ S + 1 + 1 by rw [HS.out]; omega) _ _ _⟩
        · have h3' : z ≤ z2 := by omega
          have RN := (((HO.out.2.1.set0 x).set1 y).set2 z2)
          have RO := (((HO.out.2.2.1.other (k := S + 1) (o := 0) (show S + 1 + 1 ≠ S + 1 by omega) (.int .i64 x)).other (k := S + 1) (o := 1) (show S + 1 + 1 ≠ S + 1 by omega) (.int .i64 y)).other (k := S + 1) (o := 2) (show S + 1 + 1 ≠ S + 1 by omega) (.int .i64 z2))
          have GN := (((gg.set (o := 0) (show w.heap.size ≤ S + 1 by rw [HS.out]; omega) (.int .i64 x)).set (o := 1) (show w.heap.size ≤ S + 1 by rw [HS.out]; omega) (.int .i64 y)).set (o := 2) (show w.heap.size ≤ S + 1 by rw [HS.out]; omega) (.int .i64 z2))
          have n0 := RN.c0
          have n1 := RN.c1
          have n2 := RN.c2
          have o0 := RO.c0
          have o1 := RO.c1
          have o2 := RO.c2
          have k0 := RO.fz 0
          have k1 := RO.fz 1
          have k2 := RO.fz 2
          go_wp2
          refine bodyPost_ret (results_cell_row rfl _ _ (S + 1 + 1) _ _ _ _ rfl (RO.set _ _ _) Tryd.underlying32 rfl (by kernel_rfl)) rfl ?_
          exact ⟨by show _ = Ending.returned (sv (ov f f2) (ov g g2) (obo b b2)); rw [HV.out, if_pos h1, if_pos h2, show max z2 z = z2 by omega]; rfl, GN.set3 (show w.heap.size ≤ S + 1 + 1 by rw [HS.out]; omega) _ _ _⟩
      · by_cases h3 : z2 < z
        · have h3' : z2 ≤ z := by omega
          have RN := ((HO.out.2.1.set0 x).set2 z)
          have RO := ((HO.out.2.2.1.other (k := S + 1) (o := 0) (show S + 1 + 1 ≠ S + 1 by omega) (.int .i64 x)).other (k := S + 1) (o := 2) (show S + 1 + 1 ≠ S + 1 by omega) (.int .i64 z))
          have GN := ((gg.set (o := 0) (show w.heap.size ≤ S + 1 by rw [HS.out]; omega) (.int .i64 x)).set (o := 2) (show w.heap.size ≤ S + 1 by rw [HS.out]; omega) (.int .i64 z))
          have n0 := RN.c0
          have n1 := RN.c1
          have n2 := RN.c2
          have o0 := RO.c0
          have o1 := RO.c1
          have o2 := RO.c2
          have k0 := RO.fz 0
          have k1 := RO.fz 1
          have k2 := RO.fz 2
          go_wp2
          refine bodyPost_ret (results_cell_row rfl _ _ (S + 1 + 1) _ _ _ _ rfl (RO.set _ _ _) Tryd.underlying32 rfl (by kernel_rfl)) rfl ?_
          exact ⟨by show _ = Ending.returned (sv (ov f f2) (ov g g2) (obo b b2)); rw [HV.out, if_pos h1, if_neg h2, show max z2 z = z by omega]; rfl, GN.set3 (show w.heap.size ≤ S + 1 + 1 by rw [HS.out]; omega) _ _ _⟩
        · have h3' : z ≤ z2 := by omega
          have RN := ((HO.out.2.1.set0 x).set2 z2)
          have RO := ((HO.out.2.2.1.other (k := S + 1) (o := 0) (show S + 1 + 1 ≠ S + 1 by omega) (.int .i64 x)).other (k := S + 1) (o := 2) (show S + 1 + 1 ≠ S + 1 by omega) (.int .i64 z2))
          have GN := ((gg.set (o := 0) (show w.heap.size ≤ S + 1 by rw [HS.out]; omega) (.int .i64 x)).set (o := 2) (show w.heap.size ≤ S + 1 by rw [HS.out]; omega) (.int .i64 z2))
          have n0 := RN.c0
          have n1 := RN.c1
          have n2 := RN.c2
          have o0 := RO.c0
          have o1 := RO.c1
          have o2 := RO.c2
          have k0 := RO.fz 0
          have k1 := RO.fz 1
          have k2 := RO.fz 2
          go_wp2
          refine bodyPost_ret (results_cell_row rfl _ _ (S + 1 + 1) _ _ _ _ rfl (RO.set _ _ _) Tryd.underlying32 rfl (by kernel_rfl)) rfl ?_
          exact ⟨by show _ = Ending.returned (sv (ov f f2) (ov g g2) (obo b b2)); rw [HV.out, if_pos h1, if_neg h2, show max z2 z = z2 by omega]; rfl, GN.set3 (show w.heap.size ≤ S + 1 + 1 by rw [HS.out]; omega) _ _ _⟩
    · by_cases h2 : y2 = 0
      · by_cases h3 : z2 < z
        · have h3' : z2 ≤ z := by omega
          have RN := ((HO.out.2.1.set1 y).set2 z)
          have RO := ((HO.out.2.2.1.other (k := S + 1) (o := 1) (show S + 1 + 1 ≠ S + 1 by omega) (.int .i64 y)).other (k := S + 1) (o := 2) (show S + 1 + 1 ≠ S + 1 by omega) (.int .i64 z))
          have GN := ((gg.set (o := 1) (show w.heap.size ≤ S + 1 by rw [HS.out]; omega) (.int .i64 y)).set (o := 2) (show w.heap.size ≤ S + 1 by rw [HS.out]; omega) (.int .i64 z))
          have n0 := RN.c0
          have n1 := RN.c1
          have n2 := RN.c2
          have o0 := RO.c0
          have o1 := RO.c1
          have o2 := RO.c2
          have k0 := RO.fz 0
          have k1 := RO.fz 1
          have k2 := RO.fz 2
          go_wp2
          refine bodyPost_ret (results_cell_row rfl _ _ (S + 1 + 1) _ _ _ _ rfl (RO.set _ _ _) Tryd.underlying32 rfl (by kernel_rfl)) rfl ?_
          exact ⟨by show _ = Ending.returned (sv (ov f f2) (ov g g2) (obo b b2)); rw [HV.out, if_neg h1, if_pos h2, show max z2 z = z by omega]; rfl, GN.set3 (show w.heap.size ≤ S + 1 + 1 by rw [HS.out]; omega) _ _ _⟩
        · have h3' : z ≤ z2 := by omega
          have RN := ((HO.out.2.1.set1 y).set2 z2)
          have RO := ((HO.out.2.2.1.other (k := S + 1) (o := 1) (show S + 1 + 1 ≠ S + 1 by omega) (.int .i64 y)).other (k := S + 1) (o := 2) (show S + 1 + 1 ≠ S + 1 by omega) (.int .i64 z2))
          have GN := ((gg.set (o := 1) (show w.heap.size ≤ S + 1 by rw [HS.out]; omega) (.int .i64 y)).set (o := 2) (show w.heap.size ≤ S + 1 by rw [HS.out]; omega) (.int .i64 z2))
          have n0 := RN.c0
          have n1 := RN.c1
          have n2 := RN.c2
          have o0 := RO.c0
          have o1 := RO.c1
          have o2 := RO.c2
          have k0 := RO.fz 0
          have k1 := RO.fz 1
          have k2 := RO.fz 2
          go_wp2
          refine bodyPost_ret (results_cell_row rfl _ _ (S + 1 + 1) _ _ _ _ rfl (RO.set _ _ _) Tryd.underlying32 rfl (by kernel_rfl)) rfl ?_
          exact ⟨by show _ = Ending.returned (sv (ov f f2) (ov g g2) (obo b b2)); rw [HV.out, if_neg h1, if_pos h2, show max z2 z = z2 by omega]; rfl, GN.set3 (show w.heap.size ≤ S + 1 + 1 by rw [HS.out]; omega) _ _ _⟩
      · by_cases h3 : z2 < z
        · have h3' : z2 ≤ z := by omega
          have RN := (HO.out.2.1.set2 z)
          have RO := (HO.out.2.2.1.other (k := S + 1) (o := 2) (show S + 1 + 1 ≠ S + 1 by omega) (.int .i64 z))
          have GN := (gg.set (o := 2) (show w.heap.size ≤ S + 1 by rw [HS.out]; omega) (.int .i64 z))
          have n0 := RN.c0
          have n1 := RN.c1
          have n2 := RN.c2
          have o0 := RO.c0
          have o1 := RO.c1
          have o2 := RO.c2
          have k0 := RO.fz 0
          have k1 := RO.fz 1
          have k2 := RO.fz 2
          go_wp2
          refine bodyPost_ret (results_cell_row rfl _ _ (S + 1 + 1) _ _ _ _ rfl (RO.set _ _ _) Tryd.underlying32 rfl (by kernel_rfl)) rfl ?_
          exact ⟨by show _ = Ending.returned (sv (ov f f2) (ov g g2) (obo b b2)); rw [HV.out, if_neg h1, if_neg h2, show max z2 z = z by omega]; rfl, GN.set3 (show w.heap.size ≤ S + 1 + 1 by rw [HS.out]; omega) _ _ _⟩
        · have h3' : z ≤ z2 := by omega
          have RN := (HO.out.2.1.set2 z2)
          have RO := (HO.out.2.2.1.other (k := S + 1) (o := 2) (show S + 1 + 1 ≠ S + 1 by omega) (.int .i64 z2))
          have GN := (gg.set (o := 2) (show w.heap.size ≤ S + 1 by rw [HS.out]; omega) (.int .i64 z2))
          have n0 := RN.c0
          have n1 := RN.c1
          have n2 := RN.c2
          have o0 := RO.c0
          have o1 := RO.c1
          have o2 := RO.c2
          have k0 := RO.fz 0
          have k1 := RO.fz 1
          have k2 := RO.fz 2
          go_wp2
          refine bodyPost_ret (results_cell_row rfl _ _ (S + 1 + 1) _ _ _ _ rfl (RO.set _ _ _) Tryd.underlying32 rfl (by kernel_rfl)) rfl ?_
          exact ⟨by show _ = Ending.returned (sv (ov f f2) (ov g g2) (obo b b2)); rw [HV.out, if_neg h1, if_neg h2, show max z2 z = z2 by omega]; rfl, GN.set3 (show w.heap.size ≤ S + 1 + 1 by rw [HS.out]; omega) _ _ _⟩

end Go.Proofs.YtlfffpoeioecjaaDoor

namespace Go.Proofs.YtlfffpoeioecjaaDoor
open Go.RowKit Go.Sort
set_option linter.unusedVariables false

def cev (e : Ce) : Value := .agg #[.string e.t, .int .i64 e.f, .int .i64 e.g, .int .i64 e.b, .int .i64 e.p]

set_option maxRecDepth 100000 in
theorem blank_any (f g b : Int) (w : World) : Calls Tryd.prog 56 #[sv f g b] w fun e w' => e = .returned (cev (bk f g b)) ∧ Gr w w' := by
  unfold sv
  go_enter Tryd.func56, Tryd.ntmps56
  go_wp2
  refine bodyPost_ret (v := cev (bk f g b)) (by simp [results, Tryd.results56, go_sem, cev, bk, spc]) rfl ?_
  exact ⟨rfl, ((Gr.refl w).alloc _).alloc _⟩

set_option maxRecDepth 100000 in
theorem counts_any (f g b : Int) (w : World) : Calls Tryd.prog 127 #[sv f g b] w fun e w' => e = .returned (sv (kn f) (kn g) (bo b)) ∧ Gr w w' := by
  have OV : Hid (∀ f g b f2 g2 b2 w, Calls Tryd.prog 80 #[sv f g b, sv f2 g2 b2] w fun e w' => e = .returned (sv (ov f f2) (ov g g2) (obo b b2)) ∧ Gr w w') := over_any
  have O1 := OV.out 0 0 0 f g b
  rw [ov_zero, ov_zero, obo_zero] at O1
  unfold sv at O1 ⊢
  go_enter Tryd.func127, Tryd.ntmps127
  go_wp2_with (go_at_call 80; refine Calls.mono (O1 _) ?_; rintro e w1 ⟨rfl, g1⟩; have RC : Hid (R3 32 w1 (w.heap.size + 1) 0 0 0) := ((by have := R3.new (w.alloc (.cells #[.int .i64 f, .int .i64 g, .int .i64 b] 32)) 0 0 0 32; simp only [World.size_alloc] at this; exact this) : R3 32 _ (w.heap.size + 1) 0 0 0).gr g1; have c0 := RC.out.c0; have c1 := RC.out.c1; have c2 := RC.out.c2; have f0 := RC.out.fz 0; have f1 := RC.out.fz 1; have f2 := RC.out.fz 2; have GG : Hid (Gr w w1) := (((Gr.refl w).alloc _).alloc _).trans g1; clear g1)
  refine bodyPost_ret (results_cell_row rfl _ _ (w.heap.size + 1) _ _ _ _ rfl (RC.out.set _ _ _) Tryd.underlying32 rfl (by kernel_rfl)) rfl ?_
  exact ⟨rfl, GG.out.set3 (by omega) _ _ _⟩

set_option maxRecDepth 100000 in
theorem side_any (n : Int) (w : World) : Calls Tryd.prog 55 #[.int .i64 n] w fun e w' => e = .returned (.bool (decide (1 ≤ n ∧ n ≤ 400))) ∧ w' = w := by
  by_cases h1 : 1 ≤ n
  · by_cases h2 : n ≤ 400
    · rw [show decide (1 ≤ n ∧ n ≤ 400) = true from decide_eq_true ⟨h1, h2⟩]
      go_enter Tryd.func55, Tryd.ntmps55
      go_wp2
      go_ret
      exact ⟨rfl, rfl⟩
    · rw [show decide (1 ≤ n ∧ n ≤ 400) = false from decide_eq_false (by omega)]
      go_enter Tryd.func55, Tryd.ntmps55
      go_wp2
      go_ret
      exact ⟨by first | rfl | simp; omega, rfl⟩
  · rw [show decide (1 ≤ n ∧ n ≤ 400) = false from decide_eq_false (by omega)]
    go_enter Tryd.func55, Tryd.ntmps55
    go_wp2
    go_ret
    exact ⟨rfl, rfl⟩

section
variable {K M cap W H : Nat} {c : Nat → Nat → Ce}
set_option maxRecDepth 100000 in
set_option maxHeartbeats 2000000 in
theorem row_any (w : World) (h : CS 101 34 w K M cap W H c) (h0 : 0 < W) (hW : W ≤ 400) (hH : H ≤ 400) (y : Nat) (hy : y < H) : Calls Tryd.prog 139 #[.pointer (some ⟨K, 0, none⟩), .int .i64 y] w fun e w' => e = .returned (.slice (some ⟨M, y * W * 5, none⟩) W W) ∧ Gr w w' := by
  have k0 := h.k0
  have k2 := h.k2
  have hc := h.hc
  obtain ⟨p, hp⟩ : ∃ p, y * W = p := ⟨_, rfl⟩
  obtain ⟨n, hn⟩ : ∃ n, W * H = n := ⟨_, rfl⟩
  have e1 : (y : Int) * (W : Int) = (p : Int) := by rw [← hp]; simp
  have e2 : ((y : Int) + 1) * (W : Int) = (p : Int) + (W : Int) := by rw [Int.add_mul, e1]; omega
  have pn : p + W ≤ n := by
    rw [← hp, ← hn, Nat.mul_comm W H, ← Nat.succ_mul]; exact Nat.mul_le_mul_right _ (by omega)
  have nb : n ≤ 160000 := by rw [← hn]; exact Nat.mul_le_mul hW hH
  rw [hn] at k2 hc
  rw [hp]
  have w0 : ¬ W = 0 := by omega
  have w1 : ¬ p + W = p := by omega
  clear h hn hp
  go_enter Tryd.func139, Tryd.ntmps139
  go_wp2_with fail
  go_quiet (fail)
  go_wp2
  go_ret
  refine ⟨?_, (Gr.refl w).drewN _⟩
  first
    | rfl
    | (show Ending.returned (.slice (some ⟨M, p * 5, none⟩) (p + W - p) (p + W - p)) = _; rw [Nat.add_sub_cancel_left])
end

section
variable {K M cap W H : Nat} {c : Nat → Nat → Ce}
set_option maxRecDepth 100000 in
theorem size_any (w : World) (h : CS 101 34 w K M cap W H c) : Calls Tryd.prog 117 #[.pointer (some ⟨K, 0, none⟩)] w fun e w' => e = .returned (.tuple #[.int .i64 W, .int .i64 H]) ∧ Gr w w' := by
  have k0 := h.k0
  have k1 := h.k1
  clear h
  go_enter Tryd.func117, Tryd.ntmps117
  go_wp2_with fail
  go_quiet (fail)
  go_wp2
  go_ret2
  exact ⟨rfl, (Gr.refl w).drewN _⟩
end
end Go.Proofs.YtlfffpoeioecjaaDoor

namespace Go.Proofs.YtlfffpoeioecjaaDoor
open Go.RowKit Go.Sort
set_option linter.unusedVariables false

/-- The half on the left, and the one on the right, of the places from a up to z become blanks. -/
def cutL (c : Nat → Nat → Ce) (y a : Nat) : Nat → Nat → Ce := fun y' x' => if y' = y ∧ x' + 1 = a ∧ (c y a).p = 2 then bl (c y' x') else c y' x'
def cutR (c : Nat → Nat → Ce) (y q : Nat) : Nat → Nat → Ce := fun y' x' => if y' = y ∧ x' = q + 1 ∧ (c y q).p = 1 then bl (c y' x') else c y' x'
def cut (c : Nat → Nat → Ce) (y a q : Nat) : Nat → Nat → Ce := cutR (cutL c y a) y q
theorem cutL_none {c : Nat → Nat → Ce} {y a : Nat} (h : ¬ (c y a).p = 2) : cutL c y a = c := by
  funext y' x'; unfold cutL; rw [if_neg (fun q => h q.2.2)]
theorem cutR_none {c : Nat → Nat → Ce} {y a : Nat} (h : ¬ (c y a).p = 1) : cutR c y a = c := by
  funext y' x'; unfold cutR; rw [if_neg (fun q => h q.2.2)]
theorem cutL_some {c : Nat → Nat → Ce} {y k : Nat} (h : (c y (k + 1)).p = 2) : cutL c y (k + 1) = upd c y k (bl (c y k)) := by
  funext y' x'; unfold cutL upd
  by_cases e : y' = y ∧ x' = k
  · obtain ⟨rfl, rfl⟩ := e
    rw [if_pos ⟨rfl, rfl, h⟩, if_pos ⟨rfl, rfl⟩]
  · rw [if_neg e, if_neg (fun q => e ⟨q.1, by omega⟩)]
theorem cutR_some {c : Nat → Nat → Ce} {y q : Nat} (h : (c y q).p = 1) : cutR c y q = upd c y (q + 1) (bl (c y (q + 1))) := by
  funext y' x'; unfold cutR upd
  by_cases e : y' = y ∧ x' = q + 1
  · obtain ⟨rfl, rfl⟩ := e
    rw [if_pos ⟨rfl, rfl, h⟩, if_pos ⟨rfl, rfl⟩]
  · rw [if_neg e, if_neg (fun k => e ⟨k.1, k.2.1⟩)]
theorem cutL_at {c : Nat → Nat → Ce} {y a x : Nat} (h : a ≤ x) (y' : Nat) : cutL c y a y' x = c y' x := by
  unfold cutL; rw [if_neg (by omega)]
theorem cutL_q {c : Nat → Nat → Ce} {y a x : Nat} (h : a ≤ x) : cutL c y a y (x + 1) = c y (x + 1) := cutL_at (by omega) y

section
variable {K M cap W H : Nat} {c : Nat → Nat → Ce}
set_option maxRecDepth 100000 in
set_option maxHeartbeats 2000000 in
theorem stretch_any (w : World) (h : CS 101 34 w K M cap W H c) (h0 : 0 < W) (hW : W ≤ 400) (hH : H ≤ 400) (y a q : Nat) (hy : y < H) (haq : a ≤ q) (hq : q < W) (hp : PRow W (c y)) : Calls Tryd.prog 128 #[.pointer (some ⟨K, 0, none⟩), .int .i64 y, .int .i64 a, .int .i64 ((q : Int) + 1)] w fun e w' => e = .returned (.slice (some ⟨M, y * W * 5 + a * 5, none⟩) (q + 1 - a) (q + 1 - a)) ∧ Cv 34 w' M W H (cut c y a q) ∧ Ch M w w' := by
  have RC : Hid (Calls Tryd.prog 139 #[.pointer (some ⟨K, 0, none⟩), .int .i64 y] w fun e w' => e = .returned (.slice (some ⟨M, y * W * 5, none⟩) W W) ∧ Gr w w') := row_any w h h0 hW hH y hy
  have BC : Hid (∀ f g b w, Calls Tryd.prog 56 #[sv f g b] w fun e w' => e = .returned (cev (bk f g b)) ∧ Gr w w') := blank_any
  have HV : Hid (Cv 34 w M W H c) := h.cv
  have HP : Hid (PRow W (c y)) := hp
  obtain ⟨o, ho⟩ : ∃ o, y * W * 5 = o := ⟨_, rfl⟩
  have HO : Hid (y * W * 5 = o) := ho
  unfold sv cev bk at BC
  rw [ho] at RC
  clear h hp
  rw [ho]
  clear ho
  go_enter Tryd.func128, Tryd.ntmps128
  go_wp2_with fail
  refine Calls.mono RC.out ?_
  rintro e w1 ⟨rfl, g1⟩
  have V1 : Hid (Cv 34 w1 M W H c) := HV.out.gr g1
  have C1 : Hid (Ch M w w1) := Ch.gr g1
  clear g1 HV RC
  have ca := V1.out.c4 hy (show a < W by omega)
  rw [HO.out] at ca
  obtain ⟨pa, hpa⟩ : ∃ z, (c y a).p = z := ⟨_, rfl⟩
  rw [hpa] at ca
  have HA : Hid ((c y a).p = pa) := hpa
  clear hpa
  go_upto_if 18 with fail
  go_cut [9] from 13 to 29 (fun u wx => u = .slice (some ⟨M, o, none⟩) W W ∧ Hid (Cv 34 wx M W H (cutL c y a) ∧ Ch M w wx))
  case first =>
    by_cases ht : pa = 2
    · obtain ⟨k, hka, hk1, _⟩ := HP.out.tail a (by omega) (HA.out.trans ht)
      subst hka
      have HC : Hid (cutL c y (k + 1) = upd c y k (bl (c y k))) := cutL_some (HA.out.trans ht)
      subst ht
      clear hk1
      have b1 := V1.out.c1 hy (show k < W by omega)
      have b2 := V1.out.c2 hy (show k < W by omega)
      have b3 := V1.out.c3 hy (show k < W by omega)
      rw [HO.out] at b1 b2 b3
      go_wp2_with (go_at_call 56; refine Calls.mono (BC.out _ _ _ _) ?_; rintro e w2 ⟨rfl, g2⟩; have V2 : Hid (Cv 34 w2 M W H c) := V1.out.gr g2; have C2 : Hid (Ch M w w2) := C1.out.thenGr g2; clear g2; have d0 := V2.out.c0 hy (show k < W by omega); have d1 := V2.out.c1 hy (show k < W by omega); have d2 := V2.out.c2 hy (show k < W by omega); have d3 := V2.out.c3 hy (show k < W by omega); have d4 := V2.out.c4 hy (show k < W by omega); rw [HO.out] at d0 d1 d2 d3 d4; have f0 := V2.out.fz; have fl := V2.out.lt)
      go_meet
      refine ⟨rfl, ?_, ?_⟩
      · rw [HC.out, ← HO.out]; exact V2.out.set hy (show k < W by omega) (bl (c y k))
      · exact ((((C2.out.set (.inl rfl) _ _).set (.inl rfl) _ _).set (.inl rfl) _ _).set (.inl rfl) _ _).set (.inl rfl) _ _
    · have ht' : (pa == 2) = false := by simpa using ht
      go_wp2_with fail
      go_meet
      exact ⟨rfl, by rw [cutL_none (by rw [HA.out]; exact ht)]; exact V1.out, C1.out⟩
  case rest =>
    obtain ⟨rfl, HR⟩ := hcut
    clear V1 C1 ca
    have cq := HR.out.1.c4 hy hq
    rw [HO.out] at cq
    obtain ⟨pq, hpq⟩ : ∃ z, (cutL c y a y q).p = z := ⟨_, rfl⟩
    rw [hpq] at cq
    have HQ : Hid ((cutL c y a y q).p = pq) := hpq
    clear hpq
    have hcc : Hid ((c y q).p = pq) := by have := HQ.out; rw [cutL_at haq] at this; exact this
    go_upto_if 36 with fail
    go_cut [9] from 13 to 45 (fun u wx => u = .slice (some ⟨M, o, none⟩) W W ∧ Hid (Cv 34 wx M W H (cut c y a q) ∧ Ch M w wx))
    case first =>
      by_cases ht : pq = 1
      · obtain ⟨hl, _⟩ := HP.out.head q hq (hcc.out.trans ht)
        have HC : Hid (cut c y a q = upd (cutL c y a) y (q + 1) (bl (cutL c y a y (q + 1)))) := cutR_some (HQ.out.trans ht)
        subst ht
        have b1 := HR.out.1.c1 hy hl
        have b2 := HR.out.1.c2 hy hl
        have b3 := HR.out.1.c3 hy hl
        rw [HO.out] at b1 b2 b3
        go_wp2_with (go_at_call 56; refine Calls.mono (BC.out _ _ _ _) ?_; rintro e w2 ⟨rfl, g2⟩; have V2 : Hid (Cv 34 w2 M W H (cutL c y a)) := HR.out.1.gr g2; have C2 : Hid (Ch M w w2) := HR.out.2.thenGr g2; clear g2; have d0 := V2.out.c0 hy hl; have d1 := V2.out.c1 hy hl; have d2 := V2.out.c2 hy hl; have d3 := V2.out.c3 hy hl; have d4 := V2.out.c4 hy hl; rw [HO.out] at d0 d1 d2 d3 d4; have f0 := V2.out.fz; have fl := V2.out.lt)
        go_meet
        refine ⟨rfl, ?_, ?_⟩
        · rw [HC.out, ← HO.out]; exact V2.out.set hy hl (bl (cutL c y a y (q + 1)))
        · exact ((((C2.out.set (.inl rfl) _ _).set (.inl rfl) _ _).set (.inl rfl) _ _).set (.inl rfl) _ _).set (.inl rfl) _ _
      · have ht' : (pq == 1) = false := by simpa using ht
        go_wp2_with fail
        go_meet
        exact ⟨rfl, by unfold cut; rw [cutR_none (by rw [HQ.out]; exact ht)]; exact HR.out.1, HR.out.2⟩
    case rest =>
      obtain ⟨rfl, HZ⟩ := hcut
      have hl1 : a ≤ W := by omega
      have nz : ¬ q + 1 = a := by omega
      go_wp2
      go_ret
      exact ⟨rfl, HZ.out.1, HZ.out.2⟩
end
end Go.Proofs.YtlfffpoeioecjaaDoor

namespace Go.Proofs.YtlfffpoeioecjaaDoor
open Go.RowKit Go.Sort
set_option linter.unusedVariables false

/-- Cap, as four numbers. -/
def capQ (ax ay aw ah bx by_ bw bh : Int) : Int × Int × Int × Int := if capL ax aw bx bw ≥ capR ax aw bx bw ∨ capL ay ah by_ bh ≥ capR ay ah by_ bh then (0, 0, 0, 0) else (capL ax aw bx bw, capL ay ah by_ bh, capR ax aw bx bw - capL ax aw bx bw, capR ay ah by_ bh - capL ay ah by_ bh)
theorem capV_q (ax ay aw ah bx by_ bw bh : Int) : capV ax ay aw ah bx by_ bw bh = rv (capQ ax ay aw ah bx by_ bw bh).1 (capQ ax ay aw ah bx by_ bw bh).2.1 (capQ ax ay aw ah bx by_ bw bh).2.2.1 (capQ ax ay aw ah bx by_ bw bh).2.2.2 := by
  unfold capV capQ; split <;> rfl
/-- What can be seen of a rectangle x y a b under a clip on a screen W, H. -/
def seenQ (W H : Int) (x y a b cx cy ca cb : Int) : Int × Int × Int × Int := capQ 0 0 W H (capQ x y a b cx cy ca cb).1 (capQ x y a b cx cy ca cb).2.1 (capQ x y a b cx cy ca cb).2.2.1 (capQ x y a b cx cy ca cb).2.2.2
/-- Its facts: it lies on the screen, and has just the places that all three have. -/
structure Seen (W H : Int) (x y a b cx cy ca cb : Int) (l t u v : Int) : Prop where
  l0 : 0 ≤ l
  t0 : 0 ≤ t
  u0 : 0 ≤ u
  v0 : 0 ≤ v
  lu : l + u ≤ W
  tv : t + v ≤ H
  uv : 0 < u ↔ 0 < v
  mem : ∀ p q, (l ≤ p ∧ p < l + u ∧ t ≤ q ∧ q < t + v) ↔ ((0 ≤ p ∧ p < W ∧ 0 ≤ q ∧ q < H) ∧ (posI x ≤ p ∧ p < posI x + lenI a ∧ posI y ≤ q ∧ q < posI y + lenI b) ∧ (posI cx ≤ p ∧ p < posI cx + lenI ca ∧ posI cy ≤ q ∧ q < posI cy + lenI cb))
/-- Cap of what is within bounds already. -/
def cq (px py pa pb qx qy qa qb : Int) : Int × Int × Int × Int := if max px qx ≥ min (px + pa) (qx + qa) ∨ max py qy ≥ min (py + pb) (qy + qb) then (0, 0, 0, 0) else (max px qx, max py qy, min (px + pa) (qx + qa) - max px qx, min (py + pb) (qy + qb) - max py qy)
theorem cq_mem (px py pa pb qx qy qa qb p q : Int) : ((cq px py pa pb qx qy qa qb).1 ≤ p ∧ p < (cq px py pa pb qx qy qa qb).1 + (cq px py pa pb qx qy qa qb).2.2.1 ∧ (cq px py pa pb qx qy qa qb).2.1 ≤ q ∧ q < (cq px py pa pb qx qy qa qb).2.1 + (cq px py pa pb qx qy qa qb).2.2.2) ↔ ((px ≤ p ∧ p < px + pa ∧ py ≤ q ∧ q < py + pb) ∧ (qx ≤ p ∧ p < qx + qa ∧ qy ≤ q ∧ q < qy + qb)) := by
  unfold cq
  split
  · simp only; omega
  · simp only; omega
theorem cq_bd (px py pa pb qx qy qa qb : Int) (h1 : -100000 ≤ px ∧ px ≤ 100000) (h2 : -100000 ≤ py ∧ py ≤ 100000) (h3 : 0 ≤ pa ∧ pa ≤ 100000) (h4 : 0 ≤ pb ∧ pb ≤ 100000) (h5 : -100000 ≤ qx ∧ qx ≤ 100000) (h6 : -100000 ≤ qy ∧ qy ≤ 100000) :
    (-100000 ≤ (cq px py pa pb qx qy qa qb).1 ∧ (cq px py pa pb qx qy qa qb).1 ≤ 100000) ∧ (-100000 ≤ (cq px py pa pb qx qy qa qb).2.1 ∧ (cq px py pa pb qx qy qa qb).2.1 ≤ 100000) ∧ (0 ≤ (cq px py pa pb qx qy qa qb).2.2.1 ∧ (cq px py pa pb qx qy qa qb).2.2.1 ≤ 100000) ∧ (0 ≤ (cq px py pa pb qx qy qa qb).2.2.2 ∧ (cq px py pa pb qx qy qa qb).2.2.2 ≤ 100000) ∧ (0 < (cq px py pa pb qx qy qa qb).2.2.1 ↔ 0 < (cq px py pa pb qx qy qa qb).2.2.2) := by
  by_cases h : max px qx ≥ min (px + pa) (qx + qa) ∨ max py qy ≥ min (py + pb) (qy + qb)
  · have e : cq px py pa pb qx qy qa qb = (0, 0, 0, 0) := if_pos h
    rw [e]; simp
  · have e : cq px py pa pb qx qy qa qb = (max px qx, max py qy, min (px + pa) (qx + qa) - max px qx, min (py + pb) (qy + qb) - max py qy) := if_neg h
    rw [e]
    have k1 : max px qx < min (px + pa) (qx + qa) := by omega
    have k2 : max py qy < min (py + pb) (qy + qb) := by omega
    have k3 : min (px + pa) (qx + qa) ≤ px + pa := by omega
    have k4 : min (py + pb) (qy + qb) ≤ py + pb := by omega
    have k5 : px ≤ max px qx ∧ max px qx ≤ 100000 := by omega
    have k6 : py ≤ max py qy ∧ max py qy ≤ 100000 := by omega
    simp only
    generalize max px qx = A at *
    generalize min (px + pa) (qx + qa) = B at *
    generalize max py qy = C at *
    generalize min (py + pb) (qy + qb) = D at *
    refine ⟨⟨?_, ?_⟩, ⟨?_, ?_⟩, ⟨?_, ?_⟩, ⟨?_, ?_⟩, ?_⟩ <;> omega
theorem cq_in {W H qx qy qa qb : Int} (hW : 1 ≤ W) (hH : 1 ≤ H) : 0 ≤ (cq 0 0 W H qx qy qa qb).1 ∧ 0 ≤ (cq 0 0 W H qx qy qa qb).2.1 ∧ (cq 0 0 W H qx qy qa qb).1 + (cq 0 0 W H qx qy qa qb).2.2.1 ≤ W ∧ (cq 0 0 W H qx qy qa qb).2.1 + (cq 0 0 W H qx qy qa qb).2.2.2 ≤ H := by
  unfold cq
  split
  · simp only; omega
  · simp only; omega
theorem capQ_cq (ax ay aw ah bx by_ bw bh : Int) : capQ ax ay aw ah bx by_ bw bh = cq (posI ax) (posI ay) (lenI aw) (lenI ah) (posI bx) (posI by_) (lenI bw) (lenI bh) := rfl
theorem seen_facts {W H : Int} (hW : 1 ≤ W ∧ W ≤ 400) (hH : 1 ≤ H ∧ H ≤ 400) (x y a b cx cy ca cb : Int) :
    Seen W H x y a b cx cy ca cb (seenQ W H x y a b cx cy ca cb).1 (seenQ W H x y a b cx cy ca cb).2.1 (seenQ W H x y a b cx cy ca cb).2.2.1 (seenQ W H x y a b cx cy ca cb).2.2.2 := by
  have k := cq_bd (posI x) (posI y) (lenI a) (lenI b) (posI cx) (posI cy) (lenI ca) (lenI cb) (posI_bd x) (posI_bd y) (lenI_bd a) (lenI_bd b) (posI_bd cx) (posI_bd cy)
  have m1 := cq_mem (posI x) (posI y) (lenI a) (lenI b) (posI cx) (posI cy) (lenI ca) (lenI cb)
  unfold seenQ
  rw [capQ_cq x y a b cx cy ca cb]
  generalize cq (posI x) (posI y) (lenI a) (lenI b) (posI cx) (posI cy) (lenI ca) (lenI cb) = z at k m1 ⊢
  obtain ⟨i0, i1, i2, i3⟩ := z
  simp only at k m1 ⊢
  rw [capQ_cq, posI_id (n := i0) k.1, posI_id (n := i1) k.2.1, lenI_id (n := i2) k.2.2.1, lenI_id (n := i3) k.2.2.2.1, lenI_id (n := W) (by omega), lenI_id (n := H) (by omega), show posI 0 = 0 from rfl]
  have k2 := cq_bd 0 0 W H i0 i1 i2 i3 (by omega) (by omega) (by omega) (by omega) k.1 k.2.1
  have m2 := cq_mem 0 0 W H i0 i1 i2 i3
  have k3 := cq_in (qx := i0) (qy := i1) (qa := i2) (qb := i3) hW.1 hH.1
  generalize cq 0 0 W H i0 i1 i2 i3 = z at k2 m2 k3 ⊢
  obtain ⟨j0, j1, j2, j3⟩ := z
  simp only at k2 m2 k3 ⊢
  refine ⟨k3.1, k3.2.1, k2.2.2.1.1, k2.2.2.2.1.1, k3.2.2.1, k3.2.2.2, k2.2.2.2.2, fun p q => ?_⟩
  rw [m2 p q, m1 p q]
  constructor
  · rintro ⟨h1, h2, h3⟩; exact ⟨by omega, h2, h3⟩
  · rintro ⟨h1, h2, h3⟩; exact ⟨by omega, h2, h3⟩

section
variable {K M cap W H : Nat} {c : Nat → Nat → Ce}
set_option maxRecDepth 100000 in
set_option maxHeartbeats 4000000 in
theorem seen_any (w : World) (h : CS 101 34 w K M cap W H c) (x y a b cx cy ca cb : Int) : Calls Tryd.prog 126 #[.pointer (some ⟨K, 0, none⟩), rv x y a b, rv cx cy ca cb] w fun e w' => e = .returned (rv (seenQ W H x y a b cx cy ca cb).1 (seenQ W H x y a b cx cy ca cb).2.1 (seenQ W H x y a b cx cy ca cb).2.2.1 (seenQ W H x y a b cx cy ca cb).2.2.2) ∧ Gr w w' := by
  have k0 := h.k0
  have k1 := h.k1
  have kl := h.klt
  clear h
  have CP : Hid (∀ ax ay aw ah bx by_ bw bh w, Calls Tryd.prog 138 #[rv ax ay aw ah, rv bx by_ bw bh] w fun e w' => e = .returned (rv (capQ ax ay aw ah bx by_ bw bh).1 (capQ ax ay aw ah bx by_ bw bh).2.1 (capQ ax ay aw ah bx by_ bw bh).2.2.1 (capQ ax ay aw ah bx by_ bw bh).2.2.2) ∧ Gr w w') := fun ax ay aw ah bx by_ bw bh w => by rw [← capV_q]; exact cap_any ax ay aw ah bx by_ bw bh w
  obtain ⟨q1, hq1⟩ : ∃ z, capQ x y a b cx cy ca cb = z := ⟨_, rfl⟩
  have C1 := CP.out x y a b cx cy ca cb
  rw [hq1] at C1
  obtain ⟨i0, i1, i2, i3⟩ := q1
  obtain ⟨q2, hq2⟩ : ∃ z, capQ 0 0 (W : Int) (H : Int) i0 i1 i2 i3 = z := ⟨_, rfl⟩
  have C2 := CP.out 0 0 W H i0 i1 i2 i3
  rw [hq2] at C2
  obtain ⟨j0, j1, j2, j3⟩ := q2
  have HQ : Hid (seenQ W H x y a b cx cy ca cb = (j0, j1, j2, j3)) := by show _ = _; unfold seenQ; rw [hq1]; exact hq2
  rw [HQ.out]
  clear hq1 hq2 CP
  unfold rv at C1 C2 ⊢
  simp only at C1 C2 ⊢
  go_enter Tryd.func126, Tryd.ntmps126
  go_wp2_with fail
  obtain ⟨S, hS⟩ : ∃ z, w.heap.size = z := ⟨_, rfl⟩
  have HS : Hid (w.heap.size = S) := hS
  obtain ⟨W0, hW0⟩ : ∃ z, ((w.alloc (.cells #[.int .i64 x, .int .i64 y, .int .i64 a, .int .i64 b] 169)).alloc (.cells #[.int .i64 cx, .int .i64 cy, .int .i64 ca, .int .i64 cb] 169)).alloc (.cells #[.int .i64 0, .int .i64 0, .int .i64 0, .int .i64 0] 169) = z := ⟨_, rfl⟩
  have G0 : Hid (Gr w W0) := by rw [← hW0]; exact (((Gr.refl w).alloc _).alloc _).alloc _
  have RA : Hid (R4 169 W0 S x y a b) := by rw [← hW0, ← hS]; exact (R4.new w _ _ _ _ _).gr (((Gr.refl _).alloc _).alloc _)
  have RB : Hid (R4 169 W0 (S + 1) cx cy ca cb) := by
    have := R4.new (w.alloc (.cells #[.int .i64 x, .int .i64 y, .int .i64 a, .int .i64 b] 169)) cx cy ca cb 169
    simp only [World.size_alloc, hS] at this
    rw [← hW0]; exact this.gr ((Gr.refl _).alloc _)
  have RC : Hid (R4 169 W0 (S + 1 + 1) 0 0 0 0) := by
    have := R4.new ((w.alloc (.cells #[.int .i64 x, .int .i64 y, .int .i64 a, .int .i64 b] 169)).alloc (.cells #[.int .i64 cx, .int .i64 cy, .int .i64 ca, .int .i64 cb] 169)) 0 0 0 0 169
    simp only [World.size_alloc, hS] at this
    rw [← hW0]; exact this
  have k0' : W0.cell? ⟨K, 0, none⟩ = some (.int .i64 W) := (World.cell?_of_block (a := ⟨K, 0, none⟩) (G0.out.block kl)).trans k0
  have k1' : W0.cell? ⟨K, 1, none⟩ = some (.int .i64 H) := (World.cell?_of_block (a := ⟨K, 1, none⟩) (G0.out.block kl)).trans k1
  have sz : Hid (W0.heap.size = S + 3) := by show W0.heap.size = S + 3; rw [← hW0]; simp only [World.size_alloc, hS]
  have kl0 : K < W0.heap.size := by rw [sz.out, ← HS.out]; omega
  rw [hW0, hS]
  clear hW0 hS k0 k1
  go_cut [4, 5, 6, 7] from 8 to 16 (fun u v t s wx => u = .pointer (some ⟨S, 0, none⟩) ∧ v = .pointer (some ⟨S + 1, 0, none⟩) ∧ t = .pointer (some ⟨S + 1 + 1, 0, none⟩) ∧ s = .pointer (some ⟨W0.heap.size, 0, none⟩) ∧ Hid (R4 169 wx S x y a b ∧ R4 169 wx (S + 1) cx cy ca cb ∧ R4 169 wx (S + 1 + 1) 0 0 0 0 ∧ R4 169 wx W0.heap.size 0 0 W H ∧ Gr w wx))
  case first =>
    go_region
    all_goals
      go_wp2_with fail
      go_meet
      have gz : Gr W0 (W0.alloc (.cells #[.int .i64 0, .int .i64 0, .int .i64 W, .int .i64 H] 169)).drew := ((Gr.refl W0).alloc _).drew
      exact ⟨rfl, rfl, rfl, rfl, RA.out.gr gz, RB.out.gr gz, RC.out.gr gz, (R4.new W0 0 0 W H _).gr ((Gr.refl _).drew), G0.out.trans gz⟩
  case rest =>
    obtain ⟨rfl, rfl, rfl, rfl, HR⟩ := hcut
    obtain ⟨Z, hZ⟩ : ∃ z, W0.heap.size = z := ⟨_, rfl⟩
    have HZ : Hid (Z = S + 3) := hZ.symm.trans sz.out
    rw [hZ] at HR
    rw [hZ]
    clear hZ RA RB RC kl0 k0' k1' G0 sz
    have a0 := HR.out.1.c0
    have a1 := HR.out.1.c1
    have a2 := HR.out.1.c2
    have a3 := HR.out.1.c3
    have b0 := HR.out.2.1.c0
    have b1 := HR.out.2.1.c1
    have b2 := HR.out.2.1.c2
    have b3 := HR.out.2.1.c3
    have z0 := HR.out.2.2.2.1.c0
    have z1 := HR.out.2.2.2.1.c1
    have z2 := HR.out.2.2.2.1.c2
    have z3 := HR.out.2.2.2.1.c3
    go_wp2_with fail
    go_region_with (go_at_call 138; (first | (with_reducible refine Calls.mono (C1 _) ?_) | (with_reducible refine Calls.mono (C2 _) ?_)); rintro e wn ⟨rfl, hgn⟩; have HGn : Hid (Gr wc wn) := (by first | exact ((Gr.refl wc).drew).trans hgn | exact Gr.trans (Hid.out (by assumption)) hgn); clear hgn; have m0 := (HR.out.1.gr HGn.out).c0; have m1 := (HR.out.1.gr HGn.out).c1; have m2 := (HR.out.1.gr HGn.out).c2; have m3 := (HR.out.1.gr HGn.out).c3; have n0 := (HR.out.2.1.gr HGn.out).c0; have n1 := (HR.out.2.1.gr HGn.out).c1; have n2 := (HR.out.2.1.gr HGn.out).c2; have n3 := (HR.out.2.1.gr HGn.out).c3; have o0 := (HR.out.2.2.2.1.gr HGn.out).c0; have o1 := (HR.out.2.2.2.1.gr HGn.out).c1; have o2 := (HR.out.2.2.2.1.gr HGn.out).c2; have o3 := (HR.out.2.2.2.1.gr HGn.out).c3; have p0 := (HR.out.2.2.1.gr HGn.out).c0; have p1 := (HR.out.2.2.1.gr HGn.out).c1; have p2 := (HR.out.2.2.1.gr HGn.out).c2; have p3 := (HR.out.2.2.1.gr HGn.out).c3; have f0 := (HR.out.2.2.1.gr HGn.out).fz 0; have f1 := (HR.out.2.2.1.gr HGn.out).fz 1; have f2 := (HR.out.2.2.1.gr HGn.out).fz 2; have f3 := (HR.out.2.2.1.gr HGn.out).fz 3)
    all_goals
      go_wp2_with fail
      refine bodyPost_ret (results_cell_row rfl _ _ (S + 1 + 1) _ _ _ _ rfl ((HR.out.2.2.1.gr HGn.out).set _ _ _ _) Tryd.underlying169 rfl (by kernel_rfl)) rfl ?_
      exact ⟨rfl, (HR.out.2.2.2.2.trans HGn.out).set4 (by rw [HS.out]; omega) _ _ _ _⟩
end
end Go.Proofs.YtlfffpoeioecjaaDoor

namespace Go.Proofs.YtlfffpoeioecjaaDoor
open Go.RowKit Go.Sort
set_option linter.unusedVariables false

/-- A row half written: i places from a on. -/
def part (c : Nat → Nat → Ce) (y a q i : Nat) (x : Nat → Ce) : Nat → Nat → Ce := fun y' x' => if y' = y ∧ a ≤ x' ∧ x' < a + i then x x' else cut c y a q y' x'
theorem part_zero (c : Nat → Nat → Ce) (y a q : Nat) (x : Nat → Ce) : part c y a q 0 x = cut c y a q := by
  funext y' x'; unfold part; rw [if_neg (by omega)]
theorem part_next (c : Nat → Nat → Ce) (y a q i : Nat) (x : Nat → Ce) : upd (part c y a q i x) y (a + i) (x (a + i)) = part c y a q (i + 1) x := by
  funext y' x'; unfold part upd
  by_cases h : y' = y ∧ x' = a + i
  · obtain ⟨rfl, rfl⟩ := h
    rw [if_pos ⟨rfl, rfl⟩, if_pos (by omega)]
  · rw [if_neg h]
    show (if y' = y ∧ a ≤ x' ∧ x' < a + i then x x' else cut c y a q y' x') = _
    by_cases h2 : y' = y ∧ a ≤ x' ∧ x' < a + i
    · rw [if_pos h2, if_pos (by omega)]
    · rw [if_neg h2, if_neg (by omega)]
theorem part_done (c : Nat → Nat → Ce) (y a q : Nat) (x : Nat → Ce) (h : a ≤ q) : part c y a q (q + 1 - a) x = fill c a (q + 1) y (y + 1) x := by
  funext y' x'; unfold part fill
  by_cases hy : y' = y
  · subst hy
    rw [if_pos (c := y' ≤ y' ∧ y' < y' + 1) (by omega)]
    unfold span
    by_cases h1 : a ≤ x' ∧ x' < q + 1
    · rw [if_pos (by omega), if_pos h1]
    · rw [if_neg (by omega), if_neg h1]
      unfold cut cutR
      have e : cutL c y' a y' q = c y' q := cutL_at h y'
      rw [e, show q + 1 - 1 = q by omega]
      by_cases h2 : x' + 1 = a ∧ (c y' a).p = 2
      · rw [if_neg (by omega), if_pos ⟨by omega, h2⟩]
        unfold cutL; rw [if_pos ⟨rfl, h2⟩]
      · rw [if_neg (c := a < q + 1 ∧ x' + 1 = a ∧ (c y' a).p = 2) (fun k => h2 k.2)]
        have e2 : cutL c y' a y' x' = c y' x' := by unfold cutL; rw [if_neg (fun k => h2 k.2)]
        rw [e2]
        by_cases h3 : x' = q + 1 ∧ (c y' q).p = 1
        · rw [if_pos ⟨rfl, h3⟩, if_pos ⟨by omega, h3⟩]
        · rw [if_neg (fun k => h3 k.2), if_neg (fun k => h3 k.2)]
  · rw [if_neg (fun k => hy k.1), if_neg (by omega)]
    unfold cut cutR cutL
    rw [if_neg (fun k => hy k.1), if_neg (fun k => hy k.1)]

/-- A block of one cell. -/
def R5 (T : TypeId) (Q : World) (b : Nat) (e : Ce) : Prop := Q.heap[b]? = some (.cells #[.string e.t, .int .i64 e.f, .int .i64 e.g, .int .i64 e.b, .int .i64 e.p] T (0, 0))
section
variable {T : TypeId} {Q Q' : World} {b k : Nat} {e : Ce}
theorem R5.lt (h : R5 T Q b e) : b < Q.heap.size := (Array.getElem?_eq_some_iff.1 h).1
theorem R5.c0 (h : R5 T Q b e) : Q.cell? ⟨b, 0, none⟩ = some (.string e.t) := by unfold R5 at h; simp [World.cell?, h]
theorem R5.c1 (h : R5 T Q b e) : Q.cell? ⟨b, 1, none⟩ = some (.int .i64 e.f) := by unfold R5 at h; simp [World.cell?, h]
theorem R5.c2 (h : R5 T Q b e) : Q.cell? ⟨b, 2, none⟩ = some (.int .i64 e.g) := by unfold R5 at h; simp [World.cell?, h]
theorem R5.c3 (h : R5 T Q b e) : Q.cell? ⟨b, 3, none⟩ = some (.int .i64 e.b) := by unfold R5 at h; simp [World.cell?, h]
theorem R5.c4 (h : R5 T Q b e) : Q.cell? ⟨b, 4, none⟩ = some (.int .i64 e.p) := by unfold R5 at h; simp [World.cell?, h]
theorem R5.gr (h : R5 T Q b e) (g : Gr Q Q') : R5 T Q' b e := (g.block h.lt).trans h
theorem R5.ch (h : R5 T Q b e) (g : Ch k Q Q') (hk : b ≠ k) : R5 T Q' b e := (g.block b h.lt hk).trans h
theorem R5.new (Q : World) (e : Ce) (T : TypeId) : R5 T (Q.alloc (.cells #[.string e.t, .int .i64 e.f, .int .i64 e.g, .int .i64 e.b, .int .i64 e.p] T)) Q.heap.size e := heap_alloc_new _ _
end
theorem Ch.set5 {M o0 o1 o2 o3 o4 : Nat} {W W' : World} (h : Ch M W W') (v0 v1 v2 v3 v4 : Value) : Ch M W (((((W'.setCell ⟨M, o0, none⟩ v0).setCell ⟨M, o1, none⟩ v1).setCell ⟨M, o2, none⟩ v2).setCell ⟨M, o3, none⟩ v3).setCell ⟨M, o4, none⟩ v4) :=
  ((((h.set (.inl rfl) _ _).set (.inl rfl) _ _).set (.inl rfl) _ _).set (.inl rfl) _ _).set (.inl rfl) _ _
theorem R4.ch {T : TypeId} {Q Q' : World} {b k : Nat} {x y a c : Int} (h : R4 T Q b x y a c) (g : Ch k Q Q') (hk : b ≠ k) : R4 T Q' b x y a c := (g.block b h.lt hk).trans h

section
variable {K M cap W H : Nat} {c : Nat → Nat → Ce}
theorem stretch_int (w : World) (h : CS 101 34 w K M cap W H c) (hW : 1 ≤ W ∧ W ≤ 400) (hH : H ≤ 400) (hp : PAll W H c) (y a z : Int) (hy : 0 ≤ y ∧ y < H) (ha : 0 ≤ a ∧ a < z) (hz : z ≤ W) : Calls Tryd.prog 128 #[.pointer (some ⟨K, 0, none⟩), .int .i64 y, .int .i64 a, .int .i64 z] w fun e w' => e = .returned (.slice (some ⟨M, y.toNat * W * 5 + a.toNat * 5, none⟩) (z - a).toNat (z - a).toNat) ∧ Cv 34 w' M W H (cut c y.toNat a.toNat (z.toNat - 1)) ∧ Ch M w w' := by
  obtain ⟨Y, rfl⟩ := Int.eq_ofNat_of_zero_le hy.1
  obtain ⟨A, rfl⟩ := Int.eq_ofNat_of_zero_le ha.1
  obtain ⟨Q, rfl⟩ : ∃ Q : Nat, z = (Q : Int) + 1 := ⟨(z - 1).toNat, by omega⟩
  have := stretch_any w h (by omega) hW.2 hH Y A Q (by omega) (by omega) (by omega) (hp Y (by omega))
  rw [show ((Q : Int) + 1 - (A : Int)).toNat = Q + 1 - A by omega, show ((Y : Int)).toNat = Y from rfl, show ((A : Int)).toNat = A from rfl, show ((Q : Int) + 1).toNat - 1 = Q by omega]
  exact this

set_option maxRecDepth 100000 in
set_option maxHeartbeats 4000000 in
theorem fill_any (w : World) (h : CS 101 34 w K M cap W H c) (hW : 1 ≤ W ∧ W ≤ 400) (hH : 1 ≤ H ∧ H ≤ 400) (hp : PAll W H c) (x y a b f g bd cx cy ca cb : Int) (l t u v : Int) (hq : seenQ W H x y a b cx cy ca cb = (l, t, u, v)) :
    Calls Tryd.prog 111 #[.pointer (some ⟨K, 0, none⟩), rv x y a b, sv f g bd, rv cx cy ca cb] w fun e w' => e = .returned (.tuple #[]) ∧ Cv 34 w' M W H (fill c l.toNat (l + u).toNat t.toNat (t + v).toNat (fun _ => bk (kn f) (kn g) (bo bd))) ∧ Ch M w w' := by
  have SF := seen_facts (W := W) (H := H) (by omega) (by omega) x y a b cx cy ca cb
  have SN : Hid (∀ w0, CS 101 34 w0 K M cap W H c → Calls Tryd.prog 126 #[.pointer (some ⟨K, 0, none⟩), rv x y a b, rv cx cy ca cb] w0 fun e w' => e = .returned (rv l t u v) ∧ Gr w0 w') := fun w0 h0 => by
    have := seen_any w0 h0 x y a b cx cy ca cb
    rw [hq] at this; exact this
  rw [hq] at SF
  have CN : Hid (∀ f g b w, Calls Tryd.prog 127 #[sv f g b] w fun e w' => e = .returned (sv (kn f) (kn g) (bo b)) ∧ Gr w w') := counts_any
  have BL : Hid (∀ f g b w, Calls Tryd.prog 56 #[sv f g b] w fun e w' => e = .returned (cev (bk f g b)) ∧ Gr w w') := blank_any
  have HC : Hid (CS 101 34 w K M cap W H c) := h
  have HP : Hid (PAll W H c) := hp
  clear h hp hq
  obtain ⟨e, he⟩ : ∃ e, bk (kn f) (kn g) (bo bd) = e := ⟨_, rfl⟩
  have B1 := BL.out (kn f) (kn g) (bo bd)
  rw [he] at B1 ⊢
  have HE : Hid (e.p = 0) := by rw [← he]; rfl
  clear he BL
  have C1 := CN.out f g bd
  obtain ⟨kf, hkf⟩ : ∃ z, kn f = z := ⟨_, rfl⟩
  obtain ⟨kg, hkg⟩ : ∃ z, kn g = z := ⟨_, rfl⟩
  obtain ⟨kb, hkb⟩ : ∃ z, bo bd = z := ⟨_, rfl⟩
  rw [hkf, hkg, hkb] at B1 C1
  clear hkf hkg hkb CN
  unfold rv at SN
  unfold rv sv
  unfold sv cev at B1
  unfold sv at C1
  have l0 := SF.l0
  have t0 := SF.t0
  have u0 := SF.u0
  have v0 := SF.v0
  have lu := SF.lu
  have tv := SF.tv
  have HS : Hid (0 < u ↔ 0 < v) := SF.uv
  clear SF
  go_enter Tryd.func111, Tryd.ntmps111
  go_wp2_with fail
  refine Calls.mono (SN.out _ (HC.out.gr ((((Gr.refl w).alloc _).alloc _).alloc _))) ?_
  rintro e1 w1 ⟨rfl, g1⟩
  have G1 : Hid (Gr w w1) := ((((Gr.refl w).alloc _).alloc _).alloc _).trans g1
  have RS : Hid (R3 32 w1 (w.heap.size + 1) f g bd) := by
    have := R3.new (w.alloc (.cells #[.int .i64 x, .int .i64 y, .int .i64 a, .int .i64 b] 169)) f g bd 32
    simp only [World.size_alloc] at this
    exact (this.gr ((Gr.refl _).alloc _)).gr g1
  clear g1 SN
  have s0 := RS.out.c0
  have s1 := RS.out.c1
  have s2 := RS.out.c2
  have sl := RS.out.lt
  go_wp2_with fail
  refine Calls.mono (C1 _) ?_
  rintro e2 w2 ⟨rfl, g2⟩
  have RR : Hid (R4 169 w2 w1.heap.size l t u v) := (R4.new w1 _ _ _ _ _).gr g2
  have G2 : Hid (Gr w w2) := (G1.out.alloc _).trans g2
  have Z1 : Hid (w.heap.size ≤ w1.heap.size) := G1.out.size
  obtain ⟨Z, hZ⟩ : ∃ z, w1.heap.size = z := ⟨_, rfl⟩
  rw [hZ] at RR Z1
  rw [hZ]
  clear hZ g2 s0 s1 s2 sl RS C1 G1
  go_wp2_with fail
  refine Calls.mono (B1 _) ?_
  rintro e3 w3 ⟨rfl, g3⟩
  have R2 : Hid (R4 169 w3 Z l t u v) := RR.out.gr g3
  have G3 : Hid (Gr w w3) := G2.out.trans g3
  clear g3 B1 RR G2
  obtain ⟨W4, hW4⟩ : ∃ z, w3.alloc (.cells #[.string e.t, .int .i64 e.f, .int .i64 e.g, .int .i64 e.b, .int .i64 e.p] 34) = z := ⟨_, rfl⟩
  have R4' : Hid (R4 169 W4 Z l t u v) := by rw [← hW4]; exact R2.out.gr ((Gr.refl _).alloc _)
  have G4 : Hid (Gr w W4) := by rw [← hW4]; exact G3.out.alloc _
  have P4 : Hid (R5 34 W4 w3.heap.size e) := by rw [← hW4]; exact R5.new w3 e _
  have Z2 : Hid (w.heap.size ≤ w3.heap.size) := G3.out.size
  obtain ⟨P, hP⟩ : ∃ z, w3.heap.size = z := ⟨_, rfl⟩
  rw [hP] at P4 Z2
  have HM : Hid (M < w.heap.size) := HC.out.cv.lt
  have ZM : Hid (Z ≠ M) := (fun q => by have := HM.out; have := Z1.out; omega : Z ≠ M)
  have PM : Hid (P ≠ M) := (fun q => by have := HM.out; have := Z2.out; omega : P ≠ M)
  have KM : Hid (K ≠ M) := HC.out.ne
  have x0 := R4'.out.c0
  have x1 := R4'.out.c1
  have x2 := R4'.out.c2
  have x3 := R4'.out.c3
  go_wp2_with fail
  clear hP hW4 R2 G3
  go_loopw [10] (fun yv wr => ∃ k : Int, t ≤ k ∧ k ≤ t + v ∧ yv = .int .i64 k ∧ Hid (Cv 34 wr M W H (fill c l.toNat (l + u).toNat t.toNat k.toNat (fun _ => e)) ∧ Ch M w wr ∧ R4 169 wr Z l t u v ∧ R5 34 wr P e)) (fun yv _ => (t + v - intOf yv).toNat)
  case atStart =>
    exact ⟨t, by omega, by omega, rfl, by rw [fill_none (by omega)]; exact HC.out.cv.gr G4.out, Ch.gr G4.out, R4'.out, P4.out⟩
  case round =>
    obtain ⟨k, hk1, hk2, rfl, HR⟩ := hrel
    clear x0 x1 x2 x3 R4' P4 G4
    have x0 := HR.out.2.2.1.c0
    have x1 := HR.out.2.2.1.c1
    have x2 := HR.out.2.2.1.c2
    have x3 := HR.out.2.2.1.c3
    by_cases hlt : k < t + v
    · have hv : 0 < v := by omega
      have hu : 0 < u := HS.out.2 hv
      obtain ⟨U, hU⟩ : ∃ U : Nat, (U : Int) = u := ⟨u.toNat, by omega⟩
      have ST : Hid (Calls Tryd.prog 128 #[.pointer (some ⟨K, 0, none⟩), .int .i64 k, .int .i64 l, .int .i64 (l + u)] wr fun e' w' => e' = .returned (.slice (some ⟨M, k.toNat * W * 5 + l.toNat * 5, none⟩) U U) ∧ Cv 34 w' M W H (cut (fill c l.toNat (l + u).toNat t.toNat k.toNat (fun _ => e)) k.toNat l.toNat ((l + u).toNat - 1)) ∧ Ch M wr w') := by
        have := stretch_int wr (HC.out.put HR.out.2.1 HR.out.1) hW hH.2 (HP.out.fill0 (by omega) (fun _ => HE.out)) k l (l + u) (by omega) (by omega) lu
        rw [show (l + u - l).toNat = U by omega] at this
        exact this
      obtain ⟨o, ho⟩ : ∃ z, k.toNat * W * 5 + l.toNat * 5 = z := ⟨_, rfl⟩
      have HO : Hid (k.toNat * W * 5 + l.toNat * 5 = o) := ho
      rw [ho] at ST
      clear ho
      have hUb : U ≤ 400 := by omega
      have HU : Hid ((U : Int) = u) := hU
      clear hU
      have HQ : Hid ((l + u).toNat - 1 + 1 - l.toNat = U ∧ (l + u).toNat - 1 + 1 = (l + u).toNat ∧ l.toNat ≤ (l + u).toNat - 1) := ⟨by have := HU.out; omega, by omega, by omega⟩
      go_wp2_with (go_at_call 128; refine Calls.mono ST.out ?_; rintro e4 w4 ⟨rfl, V4, C4⟩; have HV4 : Hid (Cv 34 w4 M W H (part (fill c l.toNat (l + u).toNat t.toNat k.toNat (fun _ => e)) k.toNat l.toNat ((l + u).toNat - 1) 0 (fun _ => e)) ∧ Ch M w w4 ∧ R4 169 w4 Z l t u v ∧ R5 34 w4 P e) := (⟨(by rw [part_zero]; exact V4), HR.out.2.1.trans C4, HR.out.2.2.1.ch C4 ZM.out, HR.out.2.2.2.ch C4 PM.out⟩ : Cv 34 w4 M W H (part (fill c l.toNat (l + u).toNat t.toNat k.toNat (fun _ => e)) k.toNat l.toNat ((l + u).toNat - 1) 0 (fun _ => e)) ∧ Ch M w w4 ∧ R4 169 w4 Z l t u v ∧ R5 34 w4 P e); clear V4 C4)
      go_loopw [43] (fun iv wi => ∃ i : Nat, i ≤ U ∧ iv = .int .i64 i ∧ Hid (Cv 34 wi M W H (part (fill c l.toNat (l + u).toNat t.toNat k.toNat (fun _ => e)) k.toNat l.toNat ((l + u).toNat - 1) i (fun _ => e)) ∧ Ch M w wi ∧ R4 169 wi Z l t u v ∧ R5 34 wi P e)) (fun iv _ => U - (intOf iv).toNat)
      case atStart => exact ⟨0, by omega, rfl, HV4.out⟩
      case round =>
        obtain ⟨i, hi, rfl, HI⟩ := hrel
        by_cases hil : i < U
        · have hx : l.toNat + i < W := by have := HU.out; omega
          have hy : k.toNat < H := by omega
          have d0 := HI.out.1.c0 hy hx
          have d1 := HI.out.1.c1 hy hx
          have d2 := HI.out.1.c2 hy hx
          have d3 := HI.out.1.c3 hy hx
          have d4 := HI.out.1.c4 hy hx
          have eo : k.toNat * W * 5 + (l.toNat + i) * 5 = o + i * 5 := by rw [← HO.out]; omega
          rw [eo] at d0 d1 d2 d3 d4
          have EO : Hid (k.toNat * W * 5 + (l.toNat + i) * 5 = o + i * 5) := eo
          clear eo
          have fz := HI.out.1.fz
          have p0 := HI.out.2.2.2.c0
          have p1 := HI.out.2.2.2.c1
          have p2 := HI.out.2.2.2.c2
          have p3 := HI.out.2.2.2.c3
          have p4 := HI.out.2.2.2.c4
          have hil' : (i : Int) < (U : Int) := by omega
          go_wp2
          go_roundw
          case rel =>
            have VS := HI.out.1.set hy hx e
            rw [EO.out, part_next _ _ _ _ _ (fun _ => e)] at VS
            exact ⟨i + 1, by omega, by go_num, VS, HI.out.2.1.set5 _ _ _ _ _, HI.out.2.2.1.ch ((Ch.refl M _).set5 _ _ _ _ _) ZM.out, HI.out.2.2.2.ch ((Ch.refl M _).set5 _ _ _ _ _) PM.out⟩
          case measure => simp [intOf]; omega
        · have hil' : ¬ (i : Int) < (U : Int) := by omega
          have hiU : i = U := by omega
          have VD : Hid (Cv 34 wr M W H (fill c l.toNat (l + u).toNat t.toNat (k + 1).toNat (fun _ => e))) := by
            have := HI.out.1
            rw [hiU, ← HQ.out.1, part_done _ _ _ _ _ HQ.out.2.2, HQ.out.2.1, fill_next (by omega), show k.toNat + 1 = (k + 1).toNat by omega] at this
            exact this
          go_wp2
          go_roundw
          case rel => exact ⟨k + 1, by omega, by omega, by go_num, VD.out, HI.out.2⟩
          case measure => simp [intOf]; omega
    · have hkk : k = t + v := by omega
      go_wp2
      go_end0
      exact ⟨rfl, by have := HR.out.1; rw [hkk] at this; exact this, HR.out.2.1⟩
end
end Go.Proofs.YtlfffpoeioecjaaDoor
