/-
  style.Over.
-/
import Derived.Test.YtlfffpoeioecjaaDoorS04
import Derived.Test.YtlfffpoeioecjaaDoorS05
import Derived.Laws.AppendOwn
namespace Go.Proofs.YtlfffpoeioecjaaDoor
open Go.RowKit Go.Sort
set_option linter.unusedVariables false

/-- One number over another one. -/
def ov (a b : Int) : Int := if kn b = 0 then kn a else kn b
def obo (a b : Int) : Int := max (bo b) (bo a)
theorem ov_bd (a b : Int) : 0 ≤ ov a b ∧ ov a b ≤ 8 := by have := kn_bd a; have := kn_bd b; unfold ov; split <;> omega
theorem obo_bd (a b : Int) : 0 ≤ obo a b ∧ obo a b ≤ 1 := by have := bo_bd a; have := bo_bd b; unfold obo; omega
theorem kn_of {n : Int} (h : 0 ≤ n ∧ n ≤ 8) : kn n = n := if_neg (by omega)
theorem bo_of {n : Int} (h : 0 ≤ n ∧ n ≤ 1) : bo n = n := by unfold bo; split <;> omega
theorem kn_ov (a b : Int) : kn (ov a b) = ov a b := kn_of (ov_bd a b)
theorem bo_obo (a b : Int) : bo (obo a b) = obo a b := bo_of (obo_bd a b)
theorem ov_ov (a b c : Int) : ov (ov a b) c = ov a (ov b c) := by
  have e1 : ov (ov a b) c = if kn c = 0 then ov a b else kn c := by show (if kn c = 0 then kn (ov a b) else kn c) = _; rw [kn_ov]
  have e2 : ov a (ov b c) = if ov b c = 0 then kn a else ov b c := by show (if kn (ov b c) = 0 then kn a else kn (ov b c)) = _; rw [kn_ov]
  rw [e1, e2]
  unfold ov
  (repeat' split) <;> omega
theorem obo_obo (a b c : Int) : obo (obo a b) c = obo a (obo b c) := by
  have e1 : obo (obo a b) c = max (bo c) (obo a b) := by show max (bo c) (bo (obo a b)) = _; rw [bo_obo]
  have e2 : obo a (obo b c) = max (obo b c) (bo a) := by show max (bo (obo b c)) (bo a) = _; rw [bo_obo]
  rw [e1, e2]; unfold obo; omega
theorem ov_one (a : Int) {c : Int} (h : 1 ≤ c ∧ c ≤ 8) : ov a c = c := by
  have : kn c = c := kn_of (by omega)
  unfold ov; rw [this, if_neg (by omega)]
theorem obo_one (a : Int) : obo a 1 = 1 := by have := bo_bd a; have : bo 1 = 1 := rfl; unfold obo; omega
theorem ov_zero (a : Int) : ov 0 a = kn a := by have : kn 0 = 0 := rfl; unfold ov; split <;> omega
theorem obo_zero (a : Int) : obo 0 a = bo a := by have : bo 0 = 0 := rfl; have := bo_bd a; unfold obo; omega
theorem ov_self (a : Int) : ov (kn a) (kn a) = kn a := by unfold ov; rw [kn_kn]; split <;> omega
theorem obo_self (a : Int) : obo (bo a) (bo a) = bo a := by unfold obo; rw [bo_bo]; omega

theorem rv3 {a b c a' b' c' : Int} (h0 : a = a') (h1 : b = b') (h2 : c = c') : Ending.returned (.agg #[.int .i64 a, .int .i64 b, .int .i64 c]) = Ending.returned (sv a' b' c') := by subst h0 h1 h2; rfl
set_option maxRecDepth 100000 in
set_option maxHeartbeats 4000000 in
theorem over_any (f g b f2 g2 b2 : Int) (w : World) : Calls Tryd.prog 80 #[sv f g b, sv f2 g2 b2] w fun e w' => e = .returned (sv (ov f f2) (ov g g2) (obo b b2)) ∧ Gr w w' := by
  have CC : Hid (∀ f g b w, Calls Tryd.prog 83 #[sv f g b] w fun e w' => e = .returned (sv (kn f) (kn g) (bo b)) ∧ Gr w w') := counted_any
  unfold sv at CC ⊢
  go_enter Tryd.func80, Tryd.ntmps80
  go_wp2_with fail
  obtain ⟨S, hS⟩ : ∃ x, w.heap.size = x := ⟨_, rfl⟩
  obtain ⟨W0, hW0⟩ : ∃ x, ((w.alloc (.cells #[.int .i64 f, .int .i64 g, .int .i64 b] 32)).alloc (.cells #[.int .i64 f2, .int .i64 g2, .int .i64 b2] 32)).alloc (.cells #[.int .i64 0, .int .i64 0, .int .i64 0] 32) = x := ⟨_, rfl⟩
  have G0 : Hid (Gr w W0) := by rw [← hW0]; exact (((Gr.refl w).alloc _).alloc _).alloc _
  have RA : Hid (R3 32 W0 S f g b) := by rw [← hW0, ← hS]; exact (R3.new w _ _ _ _).gr (((Gr.refl _).alloc _).alloc _)
  have RB : Hid (R3 32 W0 (S + 1) f2 g2 b2) := by
    have := R3.new (w.alloc (.cells #[.int .i64 f, .int .i64 g, .int .i64 b] 32)) f2 g2 b2 32
    simp only [World.size_alloc, hS] at this
    rw [← hW0]; exact this.gr ((Gr.refl _).alloc _)
  have RC : Hid (R3 32 W0 (S + 1 + 1) 0 0 0) := by
    have := R3.new ((w.alloc (.cells #[.int .i64 f, .int .i64 g, .int .i64 b] 32)).alloc (.cells #[.int .i64 f2, .int .i64 g2, .int .i64 b2] 32)) 0 0 0 32
    simp only [World.size_alloc, hS] at this
    rw [← hW0]; exact this
  rw [hW0, hS]
  clear hW0
  have HS : Hid (w.heap.size = S) := hS
  clear hS
  have a0 := RA.out.c0
  have a1 := RA.out.c1
  have a2 := RA.out.c2
  have b0 := RB.out.c0
  have b1 := RB.out.c1
  have b2' := RB.out.c2
  obtain ⟨x, hx⟩ : ∃ z, kn f = z := ⟨_, rfl⟩
  obtain ⟨y, hy⟩ : ∃ z, kn g = z := ⟨_, rfl⟩
  obtain ⟨z, hz⟩ : ∃ z, bo b = z := ⟨_, rfl⟩
  obtain ⟨x2, hx2⟩ : ∃ z, kn f2 = z := ⟨_, rfl⟩
  obtain ⟨y2, hy2⟩ : ∃ z, kn g2 = z := ⟨_, rfl⟩
  obtain ⟨z2, hz2⟩ : ∃ z, bo b2 = z := ⟨_, rfl⟩
  have HV : Hid (sv (ov f f2) (ov g g2) (obo b b2) = sv (if x2 = 0 then x else x2) (if y2 = 0 then y else y2) (max z2 z)) := by show _ = _; unfold ov obo; rw [hx, hy, hz, hx2, hy2, hz2]
  have bz := bo_bd b
  have bz2 := bo_bd b2
  rw [hz] at bz
  rw [hz2] at bz2
  have C1 := CC.out f g b
  have C2 := CC.out f2 g2 b2
  rw [hx, hy, hz] at C1
  rw [hx2, hy2, hz2] at C2
  go_cut [2, 3, 4] from 5 to 9 (fun u v t wx => u = .pointer (some ⟨S, 0, none⟩) ∧ v = .pointer (some ⟨S + 1, 0, none⟩) ∧ t = .pointer (some ⟨S + 1 + 1, 0, none⟩) ∧ Hid (R3 32 wx S x y z ∧ R3 32 wx (S + 1) x2 y2 z2 ∧ R3 32 wx (S + 1 + 1) 0 0 0 ∧ Gr w wx))
  case first =>
    go_region_with (go_at_call 83; (first | (with_reducible refine Calls.mono (C1 _) ?_) | (with_reducible refine Calls.mono (C2 _) ?_)); rintro e wn ⟨rfl, hgn⟩; have HGn : Hid (Gr W0 wn) := (by first | exact ((Gr.refl W0).drew).trans hgn | exact Gr.trans (Hid.out (by assumption)) hgn); have HAn : Hid (R3 32 wn S f g b) := RA.out.gr HGn.out; have HBn : Hid (R3 32 wn (S + 1) f2 g2 b2) := RB.out.gr HGn.out; clear hgn; have m0 := HAn.out.c0; have m1 := HAn.out.c1; have m2 := HAn.out.c2; have n0 := HBn.out.c0; have n1 := HBn.out.c1; have n2 := HBn.out.c2; have f0 := HAn.out.fz 0; have f1 := HAn.out.fz 1; have f2' := HAn.out.fz 2; have g0 := HBn.out.fz 0; have g1 := HBn.out.fz 1; have g2' := HBn.out.fz 2)
    all_goals
      have HO : Hid (R3 32 ((((((wn.setCell ⟨S, 0, none⟩ (.int .i64 x)).setCell ⟨S, 1, none⟩ (.int .i64 y)).setCell ⟨S, 2, none⟩ (.int .i64 z)).setCell ⟨S + 1, 0, none⟩ (.int .i64 x2)).setCell ⟨S + 1, 1, none⟩ (.int .i64 y2)).setCell ⟨S + 1, 2, none⟩ (.int .i64 z2)) S x y z ∧ R3 32 ((((((wn.setCell ⟨S, 0, none⟩ (.int .i64 x)).setCell ⟨S, 1, none⟩ (.int .i64 y)).setCell ⟨S, 2, none⟩ (.int .i64 z)).setCell ⟨S + 1, 0, none⟩ (.int .i64 x2)).setCell ⟨S + 1, 1, none⟩ (.int .i64 y2)).setCell ⟨S + 1, 2, none⟩ (.int .i64 z2)) (S + 1) x2 y2 z2 ∧ R3 32 ((((((wn.setCell ⟨S, 0, none⟩ (.int .i64 x)).setCell ⟨S, 1, none⟩ (.int .i64 y)).setCell ⟨S, 2, none⟩ (.int .i64 z)).setCell ⟨S + 1, 0, none⟩ (.int .i64 x2)).setCell ⟨S + 1, 1, none⟩ (.int .i64 y2)).setCell ⟨S + 1, 2, none⟩ (.int .i64 z2)) (S + 1 + 1) 0 0 0 ∧ Gr w ((((((wn.setCell ⟨S, 0, none⟩ (.int .i64 x)).setCell ⟨S, 1, none⟩ (.int .i64 y)).setCell ⟨S, 2, none⟩ (.int .i64 z)).setCell ⟨S + 1, 0, none⟩ (.int .i64 x2)).setCell ⟨S + 1, 1, none⟩ (.int .i64 y2)).setCell ⟨S + 1, 2, none⟩ (.int .i64 z2))) :=
        ⟨(HAn.out.set x y z).others (by omega) _ _ _, (HBn.out.others (by omega) _ _ _).set x2 y2 z2, ((RC.out.gr HGn.out).others (by omega) _ _ _).others (by omega) _ _ _, ((G0.out.trans HGn.out).set3 (by rw [HS.out]; omega) _ _ _).set3 (by rw [HS.out]; omega) _ _ _⟩
      clear m0 m1 m2 n0 n1 n2 f0 f1 f2' g0 g1 g2' a0 a1 a2 b0 b1 b2' HAn HBn
      go_wp2_with fail
      go_meet
      exact ⟨rfl, rfl, rfl, HO.out⟩
  case rest =>
    obtain ⟨rfl, rfl, rfl, HO⟩ := hcut
    clear a0 a1 a2 b0 b1 b2' RA RB RC
    have a0 := HO.out.1.c0
    have a1 := HO.out.1.c1
    have a2 := HO.out.1.c2
    have b0 := HO.out.2.1.c0
    have b1 := HO.out.2.1.c1
    have b2' := HO.out.2.1.c2
    have g0 := HO.out.2.1.fz 0
    have g1 := HO.out.2.1.fz 1
    have g2' := HO.out.2.1.fz 2
    have gg := HO.out.2.2.2
    by_cases h1 : x2 = 0
    · by_cases h2 : y2 = 0
      · by_cases h3 : z2 < z
        · have h3' : z2 ≤ z := by omega
          have RN := (((HO.out.2.1.set0 x).set1 y).set2 z)
          have RO := (((HO.out.2.2.1.other (k := S + 1) (o := 0) (show S + 1 + 1 ≠ S + 1 by omega) (.int .i64 x)).other (k := S + 1) (o := 1) (show S + 1 + 1 ≠ S + 1 by omega) (.int .i64 y)).other (k := S + 1) (o := 2) (show S + 1 + 1 ≠ S + 1 by omega) (.int .i64 z))
          have GN := (((gg.set (o := 0) (show w.heap.size ≤ S + 1 by rw [HS.out]; omega) (.int .i64 x)).set (o := 1) (show w.heap.size ≤ S + 1 by rw [HS.out]; omega) (.int .i64 y)).set (o := 2) (show w.heap.size ≤ S + 1 by rw [HS.out]; omega) (.int .i64 z))
          have n0 := RN.c0
          have n1 := RN.c1
          have n2 := RN.c2
          have o0 := RO.c0
          have o1 := RO.c1
          have o2 := RO.c2
          have k0 := RO.fz 0
          have k1 := RO.fz 1
          have k2 := RO.fz 2
          go_wp2
          refine bodyPost_ret (results_cell_row rfl _ _ (S + 1 + 1) _ _ _ _ rfl (RO.set _ _ _) Tryd.underlying32 rfl (by kernel_rfl)) rfl ?_
          exact ⟨by show _ = Ending.returned (sv (ov f f2) (ov g g2) (obo b b2)); rw [HV.out, if_pos h1, if_pos h2, show max z2 z = z by omega]; rfl, GN.set3 (show w.heap.size ≤ S + 1 + 1 by rw [HS.out]; omega) _ _ _⟩
        · have h3' : z ≤ z2 := by omega
          have RN := (((HO.out.2.1.set0 x).set1 y).set2 z2)
          have RO := (((HO.out.2.2.1.other (k := S + 1) (o := 0) (show S + 1 + 1 ≠ S + 1 by omega) (.int .i64 x)).other (k := S + 1) (o := 1) (show S + 1 + 1 ≠ S + 1 by omega) (.int .i64 y)).other (k := S + 1) (o := 2) (show S + 1 + 1 ≠ S + 1 by omega) (.int .i64 z2))
          have GN := (((gg.set (o := 0) (show w.heap.size ≤ S + 1 by rw [HS.out]; omega) (.int .i64 x)).set (o := 1) (show w.heap.size ≤ S + 1 by rw [HS.out]; omega) (.int .i64 y)).set (o := 2) (show w.heap.size ≤ S + 1 by rw [HS.out]; omega) (.int .i64 z2))
          have n0 := RN.c0
          have n1 := RN.c1
          have n2 := RN.c2
          have o0 := RO.c0
          have o1 := RO.c1
          have o2 := RO.c2
          have k0 := RO.fz 0
          have k1 := RO.fz 1
          have k2 := RO.fz 2
          go_wp2
          refine bodyPost_ret (results_cell_row rfl _ _ (S + 1 + 1) _ _ _ _ rfl (RO.set _ _ _) Tryd.underlying32 rfl (by kernel_rfl)) rfl ?_
          exact ⟨by show _ = Ending.returned (sv (ov f f2) (ov g g2) (obo b b2)); rw [HV.out, if_pos h1, if_pos h2, show max z2 z = z2 by omega]; rfl, GN.set3 (show w.heap.size ≤ S + 1 + 1 by rw [HS.out]; omega) _ _ _⟩
      · by_cases h3 : z2 < z
        · have h3' : z2 ≤ z := by omega
          have RN := ((HO.out.2.1.set0 x).set2 z)
          have RO := ((HO.out.2.2.1.other (k := S + 1) (o := 0) (show S + 1 + 1 ≠ S + 1 by omega) (.int .i64 x)).other (k := S + 1) (o := 2) (show S + 1 + 1 ≠ S + 1 by omega) (.int .i64 z))
          have GN := ((gg.set (o := 0) (show w.heap.size ≤ S + 1 by rw [HS.out]; omega) (.int .i64 x)).set (o := 2) (show w.heap.size ≤ S + 1 by rw [HS.out]; omega) (.int .i64 z))
          have n0 := RN.c0
          have n1 := RN.c1
          have n2 := RN.c2
          have o0 := RO.c0
          have o1 := RO.c1
          have o2 := RO.c2
          have k0 := RO.fz 0
          have k1 := RO.fz 1
          have k2 := RO.fz 2
          go_wp2
          refine bodyPost_ret (results_cell_row rfl _ _ (S + 1 + 1) _ _ _ _ rfl (RO.set _ _ _) Tryd.underlying32 rfl (by kernel_rfl)) rfl ?_
          exact ⟨by show _ = Ending.returned (sv (ov f f2) (ov g g2) (obo b b2)); rw [HV.out, if_pos h1, if_neg h2, show max z2 z = z by omega]; rfl, GN.set3 (show w.heap.size ≤ S + 1 + 1 by rw [HS.out]; omega) _ _ _⟩
        · have h3' : z ≤ z2 := by omega
          have RN := ((HO.out.2.1.set0 x).set2 z2)
          have RO := ((HO.out.2.2.1.other (k := S + 1) (o := 0) (show S + 1 + 1 ≠ S + 1 by omega) (.int .i64 x)).other (k := S + 1) (o := 2) (show S + 1 + 1 ≠ S + 1 by omega) (.int .i64 z2))
          have GN := ((gg.set (o := 0) (show w.heap.size ≤ S + 1 by rw [HS.out]; omega) (.int .i64 x)).set (o := 2) (show w.heap.size ≤ S + 1 by rw [HS.out]; omega) (.int .i64 z2))
          have n0 := RN.c0
          have n1 := RN.c1
          have n2 := RN.c2
          have o0 := RO.c0
          have o1 := RO.c1
          have o2 := RO.c2
          have k0 := RO.fz 0
          have k1 := RO.fz 1
          have k2 := RO.fz 2
          go_wp2
          refine bodyPost_ret (results_cell_row rfl _ _ (S + 1 + 1) _ _ _ _ rfl (RO.set _ _ _) Tryd.underlying32 rfl (by kernel_rfl)) rfl ?_
          exact ⟨by show _ = Ending.returned (sv (ov f f2) (ov g g2) (obo b b2)); rw [HV.out, if_pos h1, if_neg h2, show max z2 z = z2 by omega]; rfl, GN.set3 (show w.heap.size ≤ S + 1 + 1 by rw [HS.out]; omega) _ _ _⟩
    · by_cases h2 : y2 = 0
      · by_cases h3 : z2 < z
        · have h3' : z2 ≤ z := by omega
          have RN := ((HO.out.2.1.set1 y).set2 z)
          have RO := ((HO.out.2.2.1.other (k := S + 1) (o := 1) (show S + 1 + 1 ≠ S + 1 by omega) (.int .i64 y)).other (k := S + 1) (o := 2) (show S + 1 + 1 ≠ S + 1 by omega) (.int .i64 z))
          have GN := ((gg.set (o := 1) (show w.heap.size ≤ S + 1 by rw [HS.out]; omega) (.int .i64 y)).set (o := 2) (show w.heap.size ≤ S + 1 by rw [HS.out]; omega) (.int .i64 z))
          have n0 := RN.c0
          have n1 := RN.c1
          have n2 := RN.c2
          have o0 := RO.c0
          have o1 := RO.c1
          have o2 := RO.c2
          have k0 := RO.fz 0
          have k1 := RO.fz 1
          have k2 := RO.fz 2
          go_wp2
          refine bodyPost_ret (results_cell_row rfl _ _ (S + 1 + 1) _ _ _ _ rfl (RO.set _ _ _) Tryd.underlying32 rfl (by kernel_rfl)) rfl ?_
          exact ⟨by show _ = Ending.returned (sv (ov f f2) (ov g g2) (obo b b2)); rw [HV.out, if_neg h1, if_pos h2, show max z2 z = z by omega]; rfl, GN.set3 (show w.heap.size ≤ S + 1 + 1 by rw [HS.out]; omega) _ _ _⟩
        · have h3' : z ≤ z2 := by omega
          have RN := ((HO.out.2.1.set1 y).set2 z2)
          have RO := ((HO.out.2.2.1.other (k := S + 1) (o := 1) (show S + 1 + 1 ≠ S + 1 by omega) (.int .i64 y)).other (k := S + 1) (o := 2) (show S + 1 + 1 ≠ S + 1 by omega) (.int .i64 z2))
          have GN := ((gg.set (o := 1) (show w.heap.size ≤ S + 1 by rw [HS.out]; omega) (.int .i64 y)).set (o := 2) (show w.heap.size ≤ S + 1 by rw [HS.out]; omega) (.int .i64 z2))
          have n0 := RN.c0
          have n1 := RN.c1
          have n2 := RN.c2
          have o0 := RO.c0
          have o1 := RO.c1
          have o2 := RO.c2
          have k0 := RO.fz 0
          have k1 := RO.fz 1
          have k2 := RO.fz 2
          go_wp2
          refine bodyPost_ret (results_cell_row rfl _ _ (S + 1 + 1) _ _ _ _ rfl (RO.set _ _ _) Tryd.underlying32 rfl (by kernel_rfl)) rfl ?_
          exact ⟨by show _ = Ending.returned (sv (ov f f2) (ov g g2) (obo b b2)); rw [HV.out, if_neg h1, if_pos h2, show max z2 z = z2 by omega]; rfl, GN.set3 (show w.heap.size ≤ S + 1 + 1 by rw [HS.out]; omega) _ _ _⟩
      · by_cases h3 : z2 < z
        · have h3' : z2 ≤ z := by omega
          have RN := (HO.out.2.1.set2 z)
          have RO := (HO.out.2.2.1.other (k := S + 1) (o := 2) (show S + 1 + 1 ≠ S + 1 by omega) (.int .i64 z))
          have GN := (gg.set (o := 2) (show w.heap.size ≤ S + 1 by rw [HS.out]; omega) (.int .i64 z))
          have n0 := RN.c0
          have n1 := RN.c1
          have n2 := RN.c2
          have o0 := RO.c0
          have o1 := RO.c1
          have o2 := RO.c2
          have k0 := RO.fz 0
          have k1 := RO.fz 1
          have k2 := RO.fz 2
          go_wp2
          refine bodyPost_ret (results_cell_row rfl _ _ (S + 1 + 1) _ _ _ _ rfl (RO.set _ _ _) Tryd.underlying32 rfl (by kernel_rfl)) rfl ?_
          exact ⟨by show _ = Ending.returned (sv (ov f f2) (ov g g2) (obo b b2)); rw [HV.out, if_neg h1, if_neg h2, show max z2 z = z by omega]; rfl, GN.set3 (show w.heap.size ≤ S + 1 + 1 by rw [HS.out]; omega) _ _ _⟩
        · have h3' : z ≤ z2 := by omega
          have RN := (HO.out.2.1.set2 z2)
          have RO := (HO.out.2.2.1.other (k := S + 1) (o := 2) (show S + 1 + 1 ≠ S + 1 by omega) (.int .i64 z2))
          have GN := (gg.set (o := 2) (show w.heap.size ≤ S + 1 by rw [HS.out]; omega) (.int .i64 z2))
          have n0 := RN.c0
          have n1 := RN.c1
          have n2 := RN.c2
          have o0 := RO.c0
          have o1 := RO.c1
          have o2 := RO.c2
          have k0 := RO.fz 0
          have k1 := RO.fz 1
          have k2 := RO.fz 2
          go_wp2
          refine bodyPost_ret (results_cell_row rfl _ _ (S + 1 + 1) _ _ _ _ rfl (RO.set _ _ _) Tryd.underlying32 rfl (by kernel_rfl)) rfl ?_
          exact ⟨by show _ = Ending.returned (sv (ov f f2) (ov g g2) (obo b b2)); rw [HV.out, if_neg h1, if_neg h2, show max z2 z = z2 by omega]; rfl, GN.set3 (show w.heap.size ≤ S + 1 + 1 by rw [HS.out]; omega) _ _ _⟩

end Go.Proofs.YtlfffpoeioecjaaDoor

namespace Go.Proofs.YtlfffpoeioecjaaDoor
open Go.RowKit
set_option linter.unusedVariables false

/-- Blocks but M are as they were. -/
structure Ch (M : Nat) (W W' : World) : Prop where
  os : W'.os = W.os
  tape : W'.tape = W.tape
  output : W'.output = W.output
  size : W.heap.size ≤ W'.heap.size
  block : ∀ b, b < W.heap.size → b ≠ M → W'.heap[b]? = W.heap[b]?
section
variable {M : Nat} {W W' W2 : World}
theorem Ch.refl (M : Nat) (W : World) : Ch M W W := ⟨rfl, rfl, rfl, Nat.le_refl _, fun _ _ _ => rfl⟩
theorem Ch.trans (h : Ch M W W') (k : Ch M W' W2) : Ch M W W2 :=
  ⟨k.os.trans h.os, k.tape.trans h.tape, k.output.trans h.output, Nat.le_trans h.size k.size, fun b h1 h2 => (k.block b (Nat.lt_of_lt_of_le h1 h.size) h2).trans (h.block b h1 h2)⟩
theorem Ch.below (h : Below W.heap.size W W') : Ch M W W' := ⟨h.os, h.tape, h.output, h.size, fun b h1 _ => h.block b h1⟩
theorem Ch.gr (h : Gr W W') : Ch M W W' := Ch.below h.below
theorem Ch.thenGr (h : Ch M W W') (k : Gr W' W2) : Ch M W W2 := h.trans (Ch.gr k)
theorem Ch.set (h : Ch M W W') {k : Nat} (hk : k = M ∨ W.heap.size ≤ k) (o : Nat) (v : Value) : Ch M W (W'.setCell ⟨k, o, none⟩ v) :=
  ⟨h.os, h.tape, h.output, by simpa [World.setCell] using h.size, fun b h1 h2 => (Below.heap_setCell W' ⟨k, o, none⟩ v b (by show b ≠ k; omega)).trans (h.block b h1 h2)⟩
theorem Ch.low (h : Ch M W W') {B : Nat} (hM : B ≤ M) (hB : B ≤ W.heap.size) {W0 : World} (k : Below B W0 W) : Below B W0 W' :=
  ⟨h.os.trans k.os, h.tape.trans k.tape, h.output.trans k.output, Nat.le_trans k.size h.size, fun b hb => (h.block b (by omega) (by omega)).trans (k.block b hb)⟩
end

def c5 (e : Ce) : List Value := [.string e.t, .int .i64 e.f, .int .i64 e.g, .int .i64 e.b, .int .i64 e.p]
theorem c5_len (e : Ce) : (c5 e).length = 5 := rfl

/-- Cells in a block, row by row. -/
structure Cv (T : TypeId) (Q : World) (M W H : Nat) (c : Nat → Nat → Ce) : Prop where
  arr : ∃ a, Q.heap[M]? = some (.cells a T (0, 0))
  cell : ∀ y x, y < H → x < W → ∀ (k : Nat) u, (c5 (c y x))[k]? = some u → Q.cell? ⟨M, y * W * 5 + x * 5 + k, none⟩ = some u
def upd (c : Nat → Nat → Ce) (y x : Nat) (e : Ce) : Nat → Nat → Ce := fun y' x' => if y' = y ∧ x' = x then e else c y' x'

theorem idx_inj {W y x y' x' : Nat} (hx : x < W) (hx' : x' < W) (h : y * W + x = y' * W + x') : y = y' ∧ x = x' := by
  have h1 : (y * W + x) / W = y := by rw [Nat.mul_comm, Nat.mul_add_div (by omega), Nat.div_eq_of_lt hx, Nat.add_zero]
  have h2 : (y' * W + x') / W = y' := by rw [Nat.mul_comm, Nat.mul_add_div (by omega), Nat.div_eq_of_lt hx', Nat.add_zero]
  have : y = y' := by rw [← h1, ← h2, h]
  subst this
  exact ⟨rfl, by omega⟩
theorem off_inj {W y x k y' x' k' : Nat} (hx : x < W) (hx' : x' < W) (hk : k < 5) (hk' : k' < 5) (h : y * W * 5 + x * 5 + k = y' * W * 5 + x' * 5 + k') : y = y' ∧ x = x' ∧ k = k' := by
  generalize hp : y * W = p at *
  generalize hq : y' * W = q at *
  have h1 : p + x = q + x' ∧ k = k' := by omega
  have := idx_inj (y := y) (y' := y') hx hx' (by rw [hp, hq]; exact h1.1)
  exact ⟨this.1, this.2, h1.2⟩

section
variable {T : TypeId} {Q Q' : World} {M W H : Nat} {c c' : Nat → Nat → Ce}
theorem Cv.lt (h : Cv T Q M W H c) : M < Q.heap.size := by obtain ⟨a, ha⟩ := h.arr; exact (Array.getElem?_eq_some_iff.1 ha).1
theorem Cv.fz (h : Cv T Q M W H c) (j : Nat) : Q.frozen? ⟨M, j, none⟩ = false := by obtain ⟨a, ha⟩ := h.arr; exact frozen_of_row _ _ _ _ _ ha
theorem Cv.keep (h : Cv T Q M W H c) (hb : Q'.heap[M]? = Q.heap[M]?) : Cv T Q' M W H c := by
  obtain ⟨a, ha⟩ := h.arr
  exact ⟨⟨a, hb.trans ha⟩, fun y x hy hx k u hu => (World.cell?_of_block (a := ⟨M, _, none⟩) hb).trans (h.cell y x hy hx k u hu)⟩
theorem Cv.gr (h : Cv T Q M W H c) (g : Gr Q Q') : Cv T Q' M W H c := h.keep (g.block h.lt)
theorem Cv.ch {N : Nat} (h : Cv T Q M W H c) (g : Ch N Q Q') (hN : M ≠ N) : Cv T Q' M W H c := h.keep (g.block M h.lt hN)
theorem Cv.other {k : Nat} (h : Cv T Q M W H c) (hk : M ≠ k) (o : Nat) (v : Value) : Cv T (Q.setCell ⟨k, o, none⟩ v) M W H c := h.keep (Below.heap_setCell Q ⟨k, o, none⟩ v M hk)
theorem Cv.same (h : Cv T Q M W H c) (hc : ∀ y x, y < H → x < W → c y x = c' y x) : Cv T Q M W H c' :=
  ⟨h.arr, fun y x hy hx k u hu => h.cell y x hy hx k u (by rw [hc y x hy hx]; exact hu)⟩
/-- One part of one cell written. -/
theorem Cv.set1 (h : Cv T Q M W H c) {y x k : Nat} (hy : y < H) (hx : x < W) (hk : k < 5) (v : Value) (hc : ∀ y' x', c' y' x' = if y' = y ∧ x' = x then c' y x else c y' x') (he : c5 (c' y x) = (c5 (c y x)).set k v) :
    Cv T (Q.setCell ⟨M, y * W * 5 + x * 5 + k, none⟩ v) M W H c' := by
  obtain ⟨a, ha⟩ := h.arr
  refine ⟨⟨_, heap_setCell_same _ M _ _ _ _ ha⟩, fun y' x' hy' hx' k' u hu => ?_⟩
  have hk' : k' < 5 := (List.getElem?_eq_some_iff.1 hu).1
  have old := h.cell y x hy hx k _ (List.getElem?_eq_getElem (show k < (c5 (c y x)).length from hk))
  by_cases e : y' = y ∧ x' = x
  · obtain ⟨rfl, rfl⟩ := e
    rw [he] at hu
    by_cases e2 : k' = k
    · subst e2
      rw [List.getElem?_set_self (show k' < (c5 (c y' x')).length from hk)] at hu
      injection hu with hu
      subst hu
      exact World.cell?_setCell_same _ _ _ old
    · rw [List.getElem?_set_ne (by omega)] at hu
      rw [World.cell?_setCell_other _ _ _ _ (fun q => by injection q with _ q _; omega)]
      exact h.cell y' x' hy' hx' k' u hu
  · rw [hc y' x', if_neg e] at hu
    rw [World.cell?_setCell_other _ _ _ _]
    · exact h.cell y' x' hy' hx' k' u hu
    · intro q
      injection q with _ q _
      have := off_inj hx hx' hk hk' q
      exact e ⟨this.1.symm, this.2.1.symm⟩
/-- One cell written. -/
theorem Cv.set (h : Cv T Q M W H c) {y x : Nat} (hy : y < H) (hx : x < W) (e : Ce) :
    Cv T (((((Q.setCell ⟨M, y * W * 5 + x * 5, none⟩ (.string e.t)).setCell ⟨M, y * W * 5 + x * 5 + 1, none⟩ (.int .i64 e.f)).setCell ⟨M, y * W * 5 + x * 5 + 2, none⟩ (.int .i64 e.g)).setCell ⟨M, y * W * 5 + x * 5 + 3, none⟩ (.int .i64 e.b)).setCell ⟨M, y * W * 5 + x * 5 + 4, none⟩ (.int .i64 e.p)) M W H (upd c y x e) := by
  have u0 : ∀ e, upd c y x e y x = e := fun e => by unfold upd; rw [if_pos ⟨rfl, rfl⟩]
  have nx : ∀ e e', ∀ y' x', upd c y x e' y' x' = if y' = y ∧ x' = x then upd c y x e' y x else upd c y x e y' x' := fun e e' y' x' => by
    rw [u0]; unfold upd; split <;> rfl
  have h0 := h.set1 (c' := upd c y x { c y x with t := e.t }) (k := 0) hy hx (by omega) (.string e.t) (fun y' x' => by rw [u0]; rfl) (by rw [u0]; rfl)
  have h1 := h0.set1 (c' := upd c y x { c y x with t := e.t, f := e.f }) (k := 1) hy hx (by omega) (.int .i64 e.f) (nx _ _) (by rw [u0, u0]; rfl)
  have h2 := h1.set1 (c' := upd c y x { c y x with t := e.t, f := e.f, g := e.g }) (k := 2) hy hx (by omega) (.int .i64 e.g) (nx _ _) (by rw [u0, u0]; rfl)
  have h3 := h2.set1 (c' := upd c y x { c y x with t := e.t, f := e.f, g := e.g, b := e.b }) (k := 3) hy hx (by omega) (.int .i64 e.b) (nx _ _) (by rw [u0, u0]; rfl)
  exact h3.set1 (c' := upd c y x e) (k := 4) hy hx (by omega) (.int .i64 e.p) (nx _ _) (by rw [u0, u0]; rfl)
theorem Cv.setPart (h : Cv T Q M W H c) {y x : Nat} (hy : y < H) (hx : x < W) (p : Int) :
    Cv T (Q.setCell ⟨M, y * W * 5 + x * 5 + 4, none⟩ (.int .i64 p)) M W H (upd c y x { c y x with p := p }) :=
  h.set1 (k := 4) hy hx (by omega) _ (fun y' x' => by unfold upd; simp) (by unfold upd; rw [if_pos ⟨rfl, rfl⟩]; rfl)
theorem Cv.setText (h : Cv T Q M W H c) {y x : Nat} (hy : y < H) (hx : x < W) (s : ByteArray) :
    Cv T (Q.setCell ⟨M, y * W * 5 + x * 5 + 0, none⟩ (.string s)) M W H (upd c y x { c y x with t := s }) :=
  h.set1 (k := 0) hy hx (by omega) _ (fun y' x' => by unfold upd; simp) (by unfold upd; rw [if_pos ⟨rfl, rfl⟩]; rfl)
theorem Cv.c0 (h : Cv T Q M W H c) {y x : Nat} (hy : y < H) (hx : x < W) : Q.cell? ⟨M, y * W * 5 + x * 5, none⟩ = some (.string (c y x).t) := h.cell y x hy hx 0 _ rfl
theorem Cv.c1 (h : Cv T Q M W H c) {y x : Nat} (hy : y < H) (hx : x < W) : Q.cell? ⟨M, y * W * 5 + x * 5 + 1, none⟩ = some (.int .i64 (c y x).f) := h.cell y x hy hx 1 _ rfl
theorem Cv.c2 (h : Cv T Q M W H c) {y x : Nat} (hy : y < H) (hx : x < W) : Q.cell? ⟨M, y * W * 5 + x * 5 + 2, none⟩ = some (.int .i64 (c y x).g) := h.cell y x hy hx 2 _ rfl
theorem Cv.c3 (h : Cv T Q M W H c) {y x : Nat} (hy : y < H) (hx : x < W) : Q.cell? ⟨M, y * W * 5 + x * 5 + 3, none⟩ = some (.int .i64 (c y x).b) := h.cell y x hy hx 3 _ rfl
theorem Cv.c4 (h : Cv T Q M W H c) {y x : Nat} (hy : y < H) (hx : x < W) : Q.cell? ⟨M, y * W * 5 + x * 5 + 4, none⟩ = some (.int .i64 (c y x).p) := h.cell y x hy hx 4 _ rfl
end

/-- A canvas at K, its cells at M. -/
structure CS (TK T : TypeId) (Q : World) (K M cap W H : Nat) (c : Nat → Nat → Ce) : Prop where
  kb : Q.heap[K]? = some (.cells #[.int .i64 W, .int .i64 H, .slice (some ⟨M, 0, none⟩) (W * H) cap] TK (0, 0))
  cv : Cv T Q M W H c
  ne : K ≠ M
  hc : W * H ≤ cap
section
variable {TK T : TypeId} {Q Q' : World} {K M cap W H : Nat} {c c' : Nat → Nat → Ce}
theorem CS.klt (h : CS TK T Q K M cap W H c) : K < Q.heap.size := (Array.getElem?_eq_some_iff.1 h.kb).1
theorem CS.k0 (h : CS TK T Q K M cap W H c) : Q.cell? ⟨K, 0, none⟩ = some (.int .i64 W) := by have := h.kb; simp [World.cell?, this]
theorem CS.k1 (h : CS TK T Q K M cap W H c) : Q.cell? ⟨K, 1, none⟩ = some (.int .i64 H) := by have := h.kb; simp [World.cell?, this]
theorem CS.k2 (h : CS TK T Q K M cap W H c) : Q.cell? ⟨K, 2, none⟩ = some (.slice (some ⟨M, 0, none⟩) (W * H) cap) := by have := h.kb; simp [World.cell?, this]
theorem CS.ch {N : Nat} (h : CS TK T Q K M cap W H c) (g : Ch N Q Q') (h1 : K ≠ N) (h2 : M ≠ N) : CS TK T Q' K M cap W H c := ⟨(g.block K h.klt h1).trans h.kb, h.cv.ch g h2, h.ne, h.hc⟩
theorem CS.gr (h : CS TK T Q K M cap W H c) (g : Gr Q Q') : CS TK T Q' K M cap W H c := ⟨(g.block h.klt).trans h.kb, h.cv.gr g, h.ne, h.hc⟩
/-- The cells are others now. -/
theorem CS.put (h : CS TK T Q K M cap W H c) (g : Ch M Q Q') (hc : Cv T Q' M W H c') : CS TK T Q' K M cap W H c' := ⟨(g.block K h.klt h.ne).trans h.kb, hc, h.ne, h.hc⟩
end
end Go.Proofs.YtlfffpoeioecjaaDoor

namespace Go.Proofs.YtlfffpoeioecjaaDoor
open Go.RowKit Go.Sort
set_option linter.unusedVariables false

def cev (e : Ce) : Value := .agg #[.string e.t, .int .i64 e.f, .int .i64 e.g, .int .i64 e.b, .int .i64 e.p]

set_option maxRecDepth 100000 in
theorem blank_any (f g b : Int) (w : World) : Calls Tryd.prog 56 #[sv f g b] w fun e w' => e = .returned (cev (bk f g b)) ∧ Gr w w' := by
  unfold sv
  go_enter Tryd.func56, Tryd.ntmps56
  go_wp2
  refine bodyPost_ret (v := cev (bk f g b)) (by simp [results, Tryd.results56, go_sem, cev, bk, spc]) rfl ?_
  exact ⟨rfl, ((Gr.refl w).alloc _).alloc _⟩

set_option maxRecDepth 100000 in
theorem counts_any (f g b : Int) (w : World) : Calls Tryd.prog 127 #[sv f g b] w fun e w' => e = .returned (sv (kn f) (kn g) (bo b)) ∧ Gr w w' := by
  have OV : Hid (∀ f g b f2 g2 b2 w, Calls Tryd.prog 80 #[sv f g b, sv f2 g2 b2] w fun e w' => e = .returned (sv (ov f f2) (ov g g2) (obo b b2)) ∧ Gr w w') := over_any
  have O1 := OV.out 0 0 0 f g b
  rw [ov_zero, ov_zero, obo_zero] at O1
  unfold sv at O1 ⊢
  go_enter Tryd.func127, Tryd.ntmps127
  go_wp2_with (go_at_call 80; refine Calls.mono (O1 _) ?_; rintro e w1 ⟨rfl, g1⟩; have RC : Hid (R3 32 w1 (w.heap.size + 1) 0 0 0) := ((by have := R3.new (w.alloc (.cells #[.int .i64 f, .int .i64 g, .int .i64 b] 32)) 0 0 0 32; simp only [World.size_alloc] at this; exact this) : R3 32 _ (w.heap.size + 1) 0 0 0).gr g1; have c0 := RC.out.c0; have c1 := RC.out.c1; have c2 := RC.out.c2; have f0 := RC.out.fz 0; have f1 := RC.out.fz 1; have f2 := RC.out.fz 2; have GG : Hid (Gr w w1) := (((Gr.refl w).alloc _).alloc _).trans g1; clear g1)
  refine bodyPost_ret (results_cell_row rfl _ _ (w.heap.size + 1) _ _ _ _ rfl (RC.out.set _ _ _) Tryd.underlying32 rfl (by kernel_rfl)) rfl ?_
  exact ⟨rfl, GG.out.set3 (by omega) _ _ _⟩

set_option maxRecDepth 100000 in
theorem side_any (n : Int) (w : World) : Calls Tryd.prog 55 #[.int .i64 n] w fun e w' => e = .returned (.bool (decide (1 ≤ n ∧ n ≤ 400))) ∧ w' = w := by
  by_cases h1 : 1 ≤ n
  · by_cases h2 : n ≤ 400
    · rw [show decide (1 ≤ n ∧ n ≤ 400) = true from decide_eq_true ⟨h1, h2⟩]
      go_enter Tryd.func55, Tryd.ntmps55
      go_wp2
      go_ret
      exact ⟨rfl, rfl⟩
    · rw [show decide (1 ≤ n ∧ n ≤ 400) = false from decide_eq_false (by omega)]
      go_enter Tryd.func55, Tryd.ntmps55
      go_wp2
      go_ret
      exact ⟨by first | rfl | simp; omega, rfl⟩
  · rw [show decide (1 ≤ n ∧ n ≤ 400) = false from decide_eq_false (by omega)]
    go_enter Tryd.func55, Tryd.ntmps55
    go_wp2
    go_ret
    exact ⟨rfl, rfl⟩

section
variable {K M cap W H : Nat} {c : Nat → Nat → Ce}
set_option maxRecDepth 100000 in
set_option maxHeartbeats 2000000 in
theorem row_any (w : World) (h : CS 101 34 w K M cap W H c) (h0 : 0 < W) (hW : W ≤ 400) (hH : H ≤ 400) (y : Nat) (hy : y < H) : Calls Tryd.prog 139 #[.pointer (some ⟨K, 0, none⟩), .int .i64 y] w fun e w' => e = .returned (.slice (some ⟨M, y * W * 5, none⟩) W W) ∧ Gr w w' := by
  have k0 := h.k0
  have k2 := h.k2
  have hc := h.hc
  obtain ⟨p, hp⟩ : ∃ p, y * W = p := ⟨_, rfl⟩
  obtain ⟨n, hn⟩ : ∃ n, W * H = n := ⟨_, rfl⟩
  have e1 : (y : Int) * (W : Int) = (p : Int) := by rw [← hp]; simp
  have e2 : ((y : Int) + 1) * (W : Int) = (p : Int) + (W : Int) := by rw [Int.add_mul, e1]; omega
  have pn : p + W ≤ n := by
    rw [← hp, ← hn, Nat.mul_comm W H, ← Nat.succ_mul]; exact Nat.mul_le_mul_right _ (by omega)
  have nb : n ≤ 160000 := by rw [← hn]; exact Nat.mul_le_mul hW hH
  rw [hn] at k2 hc
  rw [hp]
  have w0 : ¬ W = 0 := by omega
  have w1 : ¬ p + W = p := by omega
  clear h hn hp
  go_enter Tryd.func139, Tryd.ntmps139
  go_wp2_with fail
  go_quiet (fail)
  go_wp2
  go_ret
  refine ⟨?_, (Gr.refl w).drewN _⟩
  first
    | rfl
    | (show Ending.returned (.slice (some ⟨M, p * 5, none⟩) (p + W - p) (p + W - p)) = _; rw [Nat.add_sub_cancel_left])
end

section
variable {K M cap W H : Nat} {c : Nat → Nat → Ce}
set_option maxRecDepth 100000 in
theorem size_any (w : World) (h : CS 101 34 w K M cap W H c) : Calls Tryd.prog 117 #[.pointer (some ⟨K, 0, none⟩)] w fun e w' => e = .returned (.tuple #[.int .i64 W, .int .i64 H]) ∧ Gr w w' := by
  have k0 := h.k0
  have k1 := h.k1
  clear h
  go_enter Tryd.func117, Tryd.ntmps117
  go_wp2_with fail
  go_quiet (fail)
  go_wp2
  go_ret2
  exact ⟨rfl, (Gr.refl w).drewN _⟩
end
end Go.Proofs.YtlfffpoeioecjaaDoor

namespace Go.Proofs.YtlfffpoeioecjaaDoor
open Go.RowKit Go.Sort
set_option linter.unusedVariables false

/-- What one number does. -/
def apf (n f : Int) : Int := if n = 0 then 0 else if n = 39 then 0 else if 30 ≤ n ∧ n ≤ 37 then n - 29 else f
def apg (n g : Int) : Int := if n = 0 then 0 else if n = 49 then 0 else if 40 ≤ n ∧ n ≤ 47 then n - 39 else g
def apb (n b : Int) : Int := if n = 0 then 0 else if n = 1 then 1 else if n = 22 then 0 else b
theorem apf_no {n : Int} (f : Int) (h0 : n ≠ 0) (h1 : n ≠ 39) (h2 : ¬ (30 ≤ n ∧ n ≤ 37)) : apf n f = f := by unfold apf; rw [if_neg h0, if_neg h1, if_neg h2]
theorem apg_no {n : Int} (f : Int) (h0 : n ≠ 0) (h1 : n ≠ 49) (h2 : ¬ (40 ≤ n ∧ n ≤ 47)) : apg n f = f := by unfold apg; rw [if_neg h0, if_neg h1, if_neg h2]
theorem apb_no {n : Int} (f : Int) (h0 : n ≠ 0) (h1 : n ≠ 1) (h2 : n ≠ 22) : apb n f = f := by unfold apb; rw [if_neg h0, if_neg h1, if_neg h2]
theorem apf_in {n : Int} (f : Int) (h : 30 ≤ n ∧ n ≤ 37) : apf n f = n - 29 := by unfold apf; rw [if_neg (by omega), if_neg (by omega), if_pos h]
theorem apg_in {n : Int} (f : Int) (h : 40 ≤ n ∧ n ≤ 47) : apg n f = n - 39 := by unfold apg; rw [if_neg (by omega), if_neg (by omega), if_pos h]

set_option maxRecDepth 100000 in
set_option maxHeartbeats 4000000 in
theorem applied_any (f g b n : Int) (w : World) : Calls Tryd.prog 129 #[sv f g b, .int .i64 n] w fun e w' => e = .returned (sv (apf n f) (apg n g) (apb n b)) ∧ Gr w w' := by
  by_cases h0 : n = 0
  · subst h0
    unfold sv
    go_enter Tryd.func129, Tryd.ntmps129
    go_wp2
    refine bodyPost_ret (v := sv 0 0 0) (by simp [results, Tryd.results129, go_sem, sv]) rfl ?_
    exact ⟨by rfl, ((Gr.refl w).alloc _).alloc _⟩
  by_cases h1 : n = 1
  · subst h1
    unfold sv
    go_enter Tryd.func129, Tryd.ntmps129
    go_wp2
    refine bodyPost_ret (v := sv f g 1) (by simp [results, Tryd.results129, go_sem, sv]) rfl ?_
    exact ⟨by rfl, ((Gr.refl w).alloc _).alloc _⟩
  by_cases h2 : n = 22
  · subst h2
    unfold sv
    go_enter Tryd.func129, Tryd.ntmps129
    go_wp2
    refine bodyPost_ret (v := sv f g 0) (by simp [results, Tryd.results129, go_sem, sv]) rfl ?_
    exact ⟨by rfl, ((Gr.refl w).alloc _).alloc _⟩
  by_cases h3 : n = 39
  · subst h3
    unfold sv
    go_enter Tryd.func129, Tryd.ntmps129
    go_wp2
    refine bodyPost_ret (v := sv 0 g b) (by simp [results, Tryd.results129, go_sem, sv]) rfl ?_
    exact ⟨by rfl, ((Gr.refl w).alloc _).alloc _⟩
  by_cases h4 : n = 49
  · subst h4
    unfold sv
    go_enter Tryd.func129, Tryd.ntmps129
    go_wp2
    refine bodyPost_ret (v := sv f 0 b) (by simp [results, Tryd.results129, go_sem, sv]) rfl ?_
    exact ⟨by rfl, ((Gr.refl w).alloc _).alloc _⟩
  by_cases h5 : 30 ≤ n ∧ n ≤ 37
  · rw [apf_in f h5, apg_no g h0 h4 (by omega), apb_no b h0 h1 h2]
    have q1 : 29 < n := by omega
    have q2 : n ≤ 37 := by omega
    unfold sv
    go_enter Tryd.func129, Tryd.ntmps129
    go_wp2
    refine bodyPost_ret (v := sv (n - 29) g b) (by simp [results, Tryd.results129, go_sem, sv]) rfl ?_
    exact ⟨by rfl, ((Gr.refl w).alloc _).alloc _⟩
  by_cases h6 : 40 ≤ n ∧ n ≤ 47
  · rw [apf_no f h0 h3 h5, apg_in g h6, apb_no b h0 h1 h2]
    have q0 : ¬ (29 < n ∧ n ≤ 37) := by omega
    have q1 : 39 < n := by omega
    have q2 : n ≤ 47 := by omega
    have q3 : ¬ n ≤ 37 := by omega
    have q4 : 29 < n := by omega
    unfold sv
    go_enter Tryd.func129, Tryd.ntmps129
    go_wp2
    refine bodyPost_ret (v := sv f (n - 39) b) (by simp [results, Tryd.results129, go_sem, sv]) rfl ?_
    exact ⟨by rfl, ((Gr.refl w).alloc _).alloc _⟩
  rw [apf_no f h0 h3 h5, apg_no g h0 h4 h6, apb_no b h0 h1 h2]
  unfold sv
  go_enter Tryd.func129, Tryd.ntmps129
  go_wp2
  all_goals
    refine bodyPost_ret (v := sv f g b) (by simp [results, Tryd.results129, go_sem, sv]) rfl ?_
    exact ⟨by rfl, ((Gr.refl w).alloc _).alloc _⟩

end Go.Proofs.YtlfffpoeioecjaaDoor
