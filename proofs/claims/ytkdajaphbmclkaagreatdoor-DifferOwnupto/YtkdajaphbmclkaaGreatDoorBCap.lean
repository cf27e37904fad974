/-
  box.Cap.
-/
import Derived.Test.YtkdajaphbmclkaaGreatDoorBRect
import Derived.Test.YtkdajaphbmclkaaGreatDoorYGr
namespace Go.Proofs.YtkdajaphbmclkaaGreatDoor
open Go.RowKit Go.Sort
set_option linter.unusedVariables false

/-- A block of four numbers. -/
def R4 (T : TypeId) (W : World) (b : Nat) (x y a c : Int) : Prop := W.heap[b]? = some (.cells #[.int .i64 x, .int .i64 y, .int .i64 a, .int .i64 c] T (0, 0))
section
variable {T : TypeId} {W W' : World} {b k o : Nat} {x y a c : Int}
theorem R4.lt (h : R4 T W b x y a c) : b < W.heap.size := (Array.getElem?_eq_some_iff.1 h).1
theorem R4.c0 (h : R4 T W b x y a c) : W.cell? ⟨b, 0, none⟩ = some (.int .i64 x) := by unfold R4 at h; simp [World.cell?, h]
theorem R4.c1 (h : R4 T W b x y a c) : W.cell? ⟨b, 1, none⟩ = some (.int .i64 y) := by unfold R4 at h; simp [World.cell?, h]
theorem R4.c2 (h : R4 T W b x y a c) : W.cell? ⟨b, 2, none⟩ = some (.int .i64 a) := by unfold R4 at h; simp [World.cell?, h]
theorem R4.c3 (h : R4 T W b x y a c) : W.cell? ⟨b, 3, none⟩ = some (.int .i64 c) := by unfold R4 at h; simp [World.cell?, h]
theorem R4.fz (h : R4 T W b x y a c) (j : Nat) : W.frozen? ⟨b, j, none⟩ = false := frozen_of_row _ _ _ _ _ h
theorem R4.gr (h : R4 T W b x y a c) (g : Gr W W') : R4 T W' b x y a c := (g.block h.lt).trans h
theorem R4.new (W : World) (x y a c : Int) (T : TypeId) : R4 T (W.alloc (.cells #[.int .i64 x, .int .i64 y, .int .i64 a, .int .i64 c] T)) W.heap.size x y a c := heap_alloc_new _ _
theorem R4.other (h : R4 T W b x y a c) (hk : b ≠ k) (v : Value) : R4 T (W.setCell ⟨k, o, none⟩ v) b x y a c := (Below.heap_setCell W ⟨k, o, none⟩ v b hk).trans h
theorem R4.set (h : R4 T W b x y a c) (x' y' a' c' : Int) : R4 T ((((W.setCell ⟨b, 0, none⟩ (.int .i64 x')).setCell ⟨b, 1, none⟩ (.int .i64 y')).setCell ⟨b, 2, none⟩ (.int .i64 a')).setCell ⟨b, 3, none⟩ (.int .i64 c')) b x' y' a' c' :=
  heap_setCell_same _ b 3 _ T _ (heap_setCell_same _ b 2 _ T _ (heap_setCell_same _ b 1 _ T _ (heap_setCell_same _ b 0 _ T _ h)))
theorem R4.others (h : R4 T W b x y a c) (hk : b ≠ k) (v0 v1 v2 v3 : Value) : R4 T ((((W.setCell ⟨k, 0, none⟩ v0).setCell ⟨k, 1, none⟩ v1).setCell ⟨k, 2, none⟩ v2).setCell ⟨k, 3, none⟩ v3) b x y a c := (((h.other hk v0).other hk v1).other hk v2).other hk v3
theorem Gr.set4 (h : Gr W W') (hk : W.heap.size ≤ k) (v0 v1 v2 v3 : Value) : Gr W ((((W'.setCell ⟨k, 0, none⟩ v0).setCell ⟨k, 1, none⟩ v1).setCell ⟨k, 2, none⟩ v2).setCell ⟨k, 3, none⟩ v3) := (((h.set hk v0).set hk v1).set hk v2).set hk v3
end

theorem clamped_gr (x y a b : Int) (w : World) : Calls Tryz.prog 108 #[rv x y a b] w fun e w' => e = .returned (rv (posI x) (posI y) (lenI a) (lenI b)) ∧ Gr w w' :=
  (clamped_any x y a b w).mono fun e w' ⟨he, hw⟩ => ⟨he, by rw [hw]; exact (((Gr.refl w).alloc _).alloc _).drew⟩

/-- What Cap answers. -/
def capL (ax aw bx bw : Int) : Int := max (posI ax) (posI bx)
def capR (ax aw bx bw : Int) : Int := min (posI ax + lenI aw) (posI bx + lenI bw)
def capV (ax ay aw ah bx by_ bw bh : Int) : Value := if capL ax aw bx bw ≥ capR ax aw bx bw ∨ capL ay ah by_ bh ≥ capR ay ah by_ bh then rv 0 0 0 0 else rv (capL ax aw bx bw) (capL ay ah by_ bh) (capR ax aw bx bw - capL ax aw bx bw) (capR ay ah by_ bh - capL ay ah by_ bh)

set_option maxRecDepth 100000 in
set_option maxHeartbeats 4000000 in
theorem cap_any (ax ay aw ah bx by_ bw bh : Int) (w : World) : Calls Tryz.prog 100 #[rv ax ay aw ah, rv bx by_ bw bh] w fun e w' => e = .returned (capV ax ay aw ah bx by_ bw bh) ∧ Gr w w' := by
  have CC : Hid (∀ x y a b w, Calls Tryz.prog 108 #[rv x y a b] w fun e w' => e = .returned (rv (posI x) (posI y) (lenI a) (lenI b)) ∧ Gr w w') := clamped_gr
  unfold rv at CC ⊢
  go_enter Tryz.func100, Tryz.ntmps100
  go_wp2_with fail
  obtain ⟨A, hA⟩ : ∃ x, w.heap.size = x := ⟨_, rfl⟩
  obtain ⟨W0, hW0⟩ : ∃ x, ((w.alloc (.cells #[.int .i64 ax, .int .i64 ay, .int .i64 aw, .int .i64 ah] 132)).alloc (.cells #[.int .i64 bx, .int .i64 by_, .int .i64 bw, .int .i64 bh] 132)).alloc (.cells #[.int .i64 0, .int .i64 0, .int .i64 0, .int .i64 0] 132) = x := ⟨_, rfl⟩
  have G0 : Hid (Gr w W0) := by rw [← hW0]; exact (((Gr.refl w).alloc _).alloc _).alloc _
  have RA : Hid (R4 132 W0 A ax ay aw ah) := by rw [← hW0, ← hA]; exact (R4.new w _ _ _ _ _).gr (((Gr.refl _).alloc _).alloc _)
  have RB : Hid (R4 132 W0 (A + 1) bx by_ bw bh) := by
    have := R4.new (w.alloc (.cells #[.int .i64 ax, .int .i64 ay, .int .i64 aw, .int .i64 ah] 132)) bx by_ bw bh 132
    simp only [World.size_alloc, hA] at this
    rw [← hW0]; exact this.gr ((Gr.refl _).alloc _)
  have RC : Hid (R4 132 W0 (A + 1 + 1) 0 0 0 0) := by
    have := R4.new ((w.alloc (.cells #[.int .i64 ax, .int .i64 ay, .int .i64 aw, .int .i64 ah] 132)).alloc (.cells #[.int .i64 bx, .int .i64 by_, .int .i64 bw, .int .i64 bh] 132)) 0 0 0 0 132
    simp only [World.size_alloc, hA] at this
    rw [← hW0]; exact this
  rw [hW0, hA]
  clear hW0
  have HA : Hid (w.heap.size = A) := hA
  clear hA
  have a0 := RA.out.c0
  have a1 := RA.out.c1
  have a2 := RA.out.c2
  have a3 := RA.out.c3
  have b0 := RB.out.c0
  have b1 := RB.out.c1
  have b2 := RB.out.c2
  have b3 := RB.out.c3
  obtain ⟨px, hpx⟩ : ∃ z, posI ax = z := ⟨_, rfl⟩
  obtain ⟨py, hpy⟩ : ∃ z, posI ay = z := ⟨_, rfl⟩
  obtain ⟨pa, hpa⟩ : ∃ z, lenI aw = z := ⟨_, rfl⟩
  obtain ⟨pb, hpb⟩ : ∃ z, lenI ah = z := ⟨_, rfl⟩
  obtain ⟨qx, hqx⟩ : ∃ z, posI bx = z := ⟨_, rfl⟩
  obtain ⟨qy, hqy⟩ : ∃ z, posI by_ = z := ⟨_, rfl⟩
  obtain ⟨qa, hqa⟩ : ∃ z, lenI bw = z := ⟨_, rfl⟩
  obtain ⟨qb, hqb⟩ : ∃ z, lenI bh = z := ⟨_, rfl⟩
  go_cut [2, 3, 4] from 9 to 12 (fun u v t wx => u = .pointer (some ⟨A, 0, none⟩) ∧ v = .pointer (some ⟨A + 1, 0, none⟩) ∧ t = .pointer (some ⟨A + 1 + 1, 0, none⟩) ∧ Hid (R4 132 wx A px py pa pb ∧ R4 132 wx (A + 1) qx qy qa qb ∧ R4 132 wx (A + 1 + 1) 0 0 0 0 ∧ Gr w wx))
  case first =>
    go_region_with (go_at_call 108; refine (CC.out _ _ _ _ _).mono ?_; rintro e wn ⟨rfl, hgn⟩; have HGn : Hid (Gr W0 wn) := (by first | exact ((Gr.refl W0).drew).trans hgn | exact Gr.trans (Hid.out (by assumption)) hgn); have HAn : Hid (R4 132 wn A ax ay aw ah) := RA.out.gr HGn.out; have HBn : Hid (R4 132 wn (A + 1) bx by_ bw bh) := RB.out.gr HGn.out; clear hgn; have m0 := HAn.out.c0; have m1 := HAn.out.c1; have m2 := HAn.out.c2; have m3 := HAn.out.c3; have n0 := HBn.out.c0; have n1 := HBn.out.c1; have n2 := HBn.out.c2; have n3 := HBn.out.c3; have f0 := HAn.out.fz 0; have f1 := HAn.out.fz 1; have f2 := HAn.out.fz 2; have f3 := HAn.out.fz 3; have g0 := HBn.out.fz 0; have g1 := HBn.out.fz 1; have g2 := HBn.out.fz 2; have g3 := HBn.out.fz 3)
    all_goals
      have HO : Hid (R4 132 ((((((((wn.setCell ⟨A, 0, none⟩ (.int .i64 px)).setCell ⟨A, 1, none⟩ (.int .i64 py)).setCell ⟨A, 2, none⟩ (.int .i64 pa)).setCell ⟨A, 3, none⟩ (.int .i64 pb)).setCell ⟨A + 1, 0, none⟩ (.int .i64 qx)).setCell ⟨A + 1, 1, none⟩ (.int .i64 qy)).setCell ⟨A + 1, 2, none⟩ (.int .i64 qa)).setCell ⟨A + 1, 3, none⟩ (.int .i64 qb)) A px py pa pb ∧ R4 132 ((((((((wn.setCell ⟨A, 0, none⟩ (.int .i64 px)).setCell ⟨A, 1, none⟩ (.int .i64 py)).setCell ⟨A, 2, none⟩ (.int .i64 pa)).setCell ⟨A, 3, none⟩ (.int .i64 pb)).setCell ⟨A + 1, 0, none⟩ (.int .i64 qx)).setCell ⟨A + 1, 1, none⟩ (.int .i64 qy)).setCell ⟨A + 1, 2, none⟩ (.int .i64 qa)).setCell ⟨A + 1, 3, none⟩ (.int .i64 qb)) (A + 1) qx qy qa qb ∧ R4 132 ((((((((wn.setCell ⟨A, 0, none⟩ (.int .i64 px)).setCell ⟨A, 1, none⟩ (.int .i64 py)).setCell ⟨A, 2, none⟩ (.int .i64 pa)).setCell ⟨A, 3, none⟩ (.int .i64 pb)).setCell ⟨A + 1, 0, none⟩ (.int .i64 qx)).setCell ⟨A + 1, 1, none⟩ (.int .i64 qy)).setCell ⟨A + 1, 2, none⟩ (.int .i64 qa)).setCell ⟨A + 1, 3, none⟩ (.int .i64 qb)) (A + 1 + 1) 0 0 0 0 ∧ Gr w ((((((((wn.setCell ⟨A, 0, none⟩ (.int .i64 px)).setCell ⟨A, 1, none⟩ (.int .i64 py)).setCell ⟨A, 2, none⟩ (.int .i64 pa)).setCell ⟨A, 3, none⟩ (.int .i64 pb)).setCell ⟨A + 1, 0, none⟩ (.int .i64 qx)).setCell ⟨A + 1, 1, none⟩ (.int .i64 qy)).setCell ⟨A + 1, 2, none⟩ (.int .i64 qa)).setCell ⟨A + 1, 3, none⟩ (.int .i64 qb))) :=
        ⟨(HAn.out.set px py pa pb).others (by omega) _ _ _ _, (HBn.out.others (by omega) _ _ _ _).set qx qy qa qb, ((RC.out.gr HGn.out).others (by omega) _ _ _ _).others (by omega) _ _ _ _, ((G0.out.trans HGn.out).set4 (by rw [HA.out]; omega) _ _ _ _).set4 (by rw [HA.out]; omega) _ _ _ _⟩
      clear m0 m1 m2 m3 n0 n1 n2 n3 f0 f1 f2 f3 g0 g1 g2 g3 a0 a1 a2 a3 b0 b1 b2 b3 HAn HBn
      go_wp2_with fail
      go_meet
      exact ⟨rfl, rfl, rfl, HO.out⟩
  case rest =>
    obtain ⟨rfl, rfl, rfl, HO⟩ := hcut
    clear a0 a1 a2 a3 b0 b1 b2 b3 RA RB RC
    have a0 := HO.out.1.c0
    have a1 := HO.out.1.c1
    have a2 := HO.out.1.c2
    have a3 := HO.out.1.c3
    have b0 := HO.out.2.1.c0
    have b1 := HO.out.2.1.c1
    have b2 := HO.out.2.1.c2
    have b3 := HO.out.2.1.c3
    have bpx := posI_bd ax
    have bpy := posI_bd ay
    have bpa := lenI_bd aw
    have bpb := lenI_bd ah
    have bqx := posI_bd bx
    have bqy := posI_bd by_
    have bqa := lenI_bd bw
    have bqb := lenI_bd bh
    rw [hpx] at bpx
    rw [hpy] at bpy
    rw [hpa] at bpa
    rw [hpb] at bpb
    rw [hqx] at bqx
    rw [hqy] at bqy
    rw [hqa] at bqa
    rw [hqb] at bqb
    go_wp2_with fail
    go_cut [5, 6] from 13 to 28 (fun u v wx => u = .int .i64 (max px qx) ∧ v = .int .i64 (min (px + pa) (qx + qa)) ∧ ∃ q, wx = wc.drewN q)
    case first =>
      by_cases h1 : px < qx
      · by_cases h2 : px + pa ≤ qx + qa
        · go_quiet (fail)
          go_wp2_with fail
          go_meet
          exact ⟨congrArg (Value.int .i64) (by omega), congrArg (Value.int .i64) (by omega), _, rfl⟩
        · go_quiet (fail)
          go_wp2_with fail
          go_meet
          exact ⟨congrArg (Value.int .i64) (by omega), congrArg (Value.int .i64) (by omega), _, rfl⟩
      · by_cases h2 : px + pa ≤ qx + qa
        · go_quiet (fail)
          go_wp2_with fail
          go_meet
          exact ⟨congrArg (Value.int .i64) (by omega), congrArg (Value.int .i64) (by omega), _, rfl⟩
        · go_quiet (fail)
          go_wp2_with fail
          go_meet
          exact ⟨congrArg (Value.int .i64) (by omega), congrArg (Value.int .i64) (by omega), _, rfl⟩
    case rest =>
      obtain ⟨rfl, rfl, q1, rfl⟩ := hcut
      go_wp2_with fail
      go_cut [7, 8] from 29 to 44 (fun u v wx => u = .int .i64 (max py qy) ∧ v = .int .i64 (min (py + pb) (qy + qb)) ∧ ∃ q, wx = wc.drewN q)
      case first =>
        by_cases h1 : py < qy
        · by_cases h2 : py + pb ≤ qy + qb
          · go_quiet (fail)
            go_wp2_with fail
            go_meet
            exact ⟨congrArg (Value.int .i64) (by omega), congrArg (Value.int .i64) (by omega), q1 + nq, by first | rfl | exact World.drewN_drewN _ _ _⟩
          · go_quiet (fail)
            go_wp2_with fail
            go_meet
            exact ⟨congrArg (Value.int .i64) (by omega), congrArg (Value.int .i64) (by omega), q1 + nq, by first | rfl | exact World.drewN_drewN _ _ _⟩
        · by_cases h2 : py + pb ≤ qy + qb
          · go_quiet (fail)
            go_wp2_with fail
            go_meet
            exact ⟨congrArg (Value.int .i64) (by omega), congrArg (Value.int .i64) (by omega), q1 + nq, by first | rfl | exact World.drewN_drewN _ _ _⟩
          · go_quiet (fail)
            go_wp2_with fail
            go_meet
            exact ⟨congrArg (Value.int .i64) (by omega), congrArg (Value.int .i64) (by omega), q1 + nq, by first | rfl | exact World.drewN_drewN _ _ _⟩
      case rest =>
        obtain ⟨rfl, rfl, q2, rfl⟩ := hcut
        obtain ⟨W1, hW1⟩ : ∃ z, wc.drewN q2 = z := ⟨_, rfl⟩
        have G1 : Hid (Gr wc W1) := by rw [← hW1]; exact (Gr.refl _).drewN _
        rw [hW1]
        have R1 : Hid (R4 132 W1 (A + 1 + 1) 0 0 0 0) := HO.out.2.2.1.gr G1.out
        have GG : Hid (Gr w W1) := HO.out.2.2.2.trans G1.out
        clear hW1 a0 a1 a2 a3 b0 b1 b2 b3 HO
        have c0 := R1.out.c0
        have c1 := R1.out.c1
        have c2 := R1.out.c2
        have c3 := R1.out.c3
        have f0 := R1.out.fz 0
        have f1 := R1.out.fz 1
        have f2 := R1.out.fz 2
        have f3 := R1.out.fz 3
        obtain ⟨l, hl⟩ : ∃ z, max px qx = z := ⟨_, rfl⟩
        obtain ⟨r, hr⟩ : ∃ z, min (px + pa) (qx + qa) = z := ⟨_, rfl⟩
        obtain ⟨t, ht⟩ : ∃ z, max py qy = z := ⟨_, rfl⟩
        obtain ⟨d, hd⟩ : ∃ z, min (py + pb) (qy + qb) = z := ⟨_, rfl⟩
        have HV : Hid (capV ax ay aw ah bx by_ bw bh = if l ≥ r ∨ t ≥ d then rv 0 0 0 0 else rv l t (r - l) (d - t)) := by
          show _ = _
          unfold capV capL capR
          rw [hpx, hpy, hpa, hpb, hqx, hqy, hqa, hqb, hl, hr, ht, hd]
        have bl : -100000 ≤ l ∧ l ≤ 100000 := by omega
        have br : -100000 ≤ r ∧ r ≤ 200000 := by omega
        have bt : -100000 ≤ t ∧ t ≤ 100000 := by omega
        have bd : -100000 ≤ d ∧ d ≤ 200000 := by omega
        rw [hl, hr, ht, hd]
        clear hpx hpy hpa hpb hqx hqy hqa hqb hl hr ht hd bpx bpy bpa bpb bqx bqy bqa bqb
        by_cases h1 : r ≤ l
        · have e1 : decide (r ≤ l) = true := decide_eq_true h1
          go_wp2
          refine bodyPost_ret (results_cell_row rfl _ _ (A + 1 + 1) _ _ _ _ rfl (R1.out.set 0 0 0 0) Tryz.underlying132 rfl (by kernel_rfl)) rfl ?_
          exact ⟨by rw [HV.out, if_pos (.inl h1)]; rfl, GG.out.set4 (by rw [HA.out]; omega) _ _ _ _⟩
        · have e1 : decide (r ≤ l) = false := decide_eq_false h1
          by_cases h2 : d ≤ t
          · have e2 : decide (d ≤ t) = true := decide_eq_true h2
            go_wp2
            refine bodyPost_ret (results_cell_row rfl _ _ (A + 1 + 1) _ _ _ _ rfl (R1.out.set 0 0 0 0) Tryz.underlying132 rfl (by kernel_rfl)) rfl ?_
            exact ⟨by rw [HV.out, if_pos (.inr h2)]; rfl, GG.out.set4 (by rw [HA.out]; omega) _ _ _ _⟩
          · have e2 : decide (d ≤ t) = false := decide_eq_false h2
            go_wp2
            refine bodyPost_ret (results_cell_row rfl _ _ (A + 1 + 1) _ _ _ _ rfl (R1.out.set l t (r - l) (d - t)) Tryz.underlying132 rfl (by kernel_rfl)) rfl ?_
            exact ⟨by rw [HV.out, if_neg (by omega)]; rfl, GG.out.set4 (by rw [HA.out]; omega) _ _ _ _⟩

end Go.Proofs.YtkdajaphbmclkaaGreatDoor
