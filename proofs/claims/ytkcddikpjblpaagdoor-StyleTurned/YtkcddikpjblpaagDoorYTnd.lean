/-
  StyleTurned, walked.
-/
import Derived.Test.YtkcddikpjblpaagDoorYNrd
namespace Go.Proofs.YtkcddikpjblpaagDoor
open Go.RowKit Go.Sort
set_option linter.unusedVariables false

theorem bget (l : List UInt8) (i : Nat) (c : UInt8) (hc : l[i]? = some c) (h : i < (⟨l.toArray⟩ : ByteArray).size) : (⟨l.toArray⟩ : ByteArray)[i]'h = c := by
  obtain ⟨_, e⟩ := List.getElem?_eq_some_iff.1 hc
  exact e
theorem numbers_sq {ns : List Int} (h : Small ns) (hp : ns ≠ []) (hl : ns.length ≤ 4) (w : World) : Calls Tryd.prog 8 #[.string ⟨(sq ns).toArray⟩] w fun e w' => ∃ v, e = .returned (.tuple #[v, .bool true]) ∧ w'.ownsRow w.heap.size 3 1 v ns.length (ns.map (Value.int .i64)) ∧ Below w.heap.size w w' := by
  have hb := sq_len h hp hl
  have hz : (⟨(sq ns).toArray⟩ : ByteArray).size = (sq ns).length := by show (sq ns).toArray.size = _; simp
  refine numbers_any ⟨(sq ns).toArray⟩ ns w (by omega) (by omega) ?_ ?_ ?_ (by simpa using sc_sq h hp)
  · rw [bget _ 0 27 (sq_0 ns)]; rfl
  · rw [bget _ 1 91 (sq_1 ns)]; rfl
  · rw [bget _ _ 109 (by rw [hz]; exact sq_last ns)]; rfl

set_option maxRecDepth 100000 in
set_option maxHeartbeats 8000000 in
theorem turned_walk (f g b f2 g2 b2 : Int) (w : World) : Calls Tryd.prog 3 #[sv f g b, sv f2 g2 b2] w fun e w' => e = .returned (.bool true) ∧ Below w.heap.size w w' := by
  have hmix : Tryd.prog.follows .mixedOrders = true := by kernel_rfl
  obtain ⟨x, hx⟩ : ∃ q, kn f = q := ⟨_, rfl⟩
  obtain ⟨y, hy⟩ : ∃ q, kn g = q := ⟨_, rfl⟩
  obtain ⟨z, hz⟩ : ∃ q, bo b = q := ⟨_, rfl⟩
  obtain ⟨x2, hx2⟩ : ∃ q, kn f2 = q := ⟨_, rfl⟩
  obtain ⟨y2, hy2⟩ : ∃ q, kn g2 = q := ⟨_, rfl⟩
  obtain ⟨z2, hz2⟩ : ∃ q, bo b2 = q := ⟨_, rfl⟩
  have HBD : Hid ((0 ≤ x ∧ x ≤ 8) ∧ (0 ≤ y ∧ y ≤ 8) ∧ (0 ≤ z ∧ z ≤ 1) ∧ (0 ≤ x2 ∧ x2 ≤ 8) ∧ (0 ≤ y2 ∧ y2 ≤ 8) ∧ (0 ≤ z2 ∧ z2 ≤ 1)) := by subst hx hy hz hx2 hy2 hz2; exact ⟨kn_bd f, kn_bd g, bo_bd b, kn_bd f2, kn_bd g2, bo_bd b2⟩
  have CO : Hid (∀ w, Calls Tryd.prog 6 #[sv f g b, sv f2 g2 b2] w fun e w' => e = .returned (.string ⟨(cds (nms x y z x2 y2 z2)).toArray⟩) ∧ Below w.heap.size w w') := by subst hx hy hz hx2 hy2 hz2; exact codes_any f g b f2 g2 b2
  have OX : Hid (∀ w, Calls Tryd.prog 4 #[sv 0 0 0, sv f g b] w fun e w' => e = .returned (sv x y z) ∧ Gr w w') := fun w => by have := over_any 0 0 0 f g b w; rw [ov_zero, ov_zero, obo_zero, hx, hy, hz] at this; exact this
  have OY : Hid (∀ w, Calls Tryd.prog 4 #[sv 0 0 0, sv f2 g2 b2] w fun e w' => e = .returned (sv x2 y2 z2) ∧ Gr w w') := fun w => by have := over_any 0 0 0 f2 g2 b2 w; rw [ov_zero, ov_zero, obo_zero, hx2, hy2, hz2] at this; exact this
  have OZ : Hid (∀ w, Calls Tryd.prog 4 #[sv x y z, sv x y z] w fun e w' => e = .returned (sv x y z) ∧ Gr w w') := fun w => by have := over_any (kn f) (kn g) (bo b) (kn f) (kn g) (bo b) w; rw [ov_self, ov_self, obo_self, hx, hy, hz] at this; exact this
  have SA : Hid (∀ w, Calls Tryd.prog 7 #[sv f g b] w fun e w' => e = .returned (sv x y z) ∧ Gr w w') := by subst hx hy hz; exact sound_any f g b
  have SB : Hid (∀ w, Calls Tryd.prog 7 #[sv f2 g2 b2] w fun e w' => e = .returned (sv x2 y2 z2) ∧ Gr w w') := by subst hx2 hy2 hz2; exact sound_any f2 g2 b2
  have LA : Hid (∀ w, Calls Tryd.prog 5 #[sv f g b] w fun e w' => e = .returned (sv f g b) ∧ Gr w w') := look_any f g b
  have LB : Hid (∀ w, Calls Tryd.prog 5 #[sv f2 g2 b2] w fun e w' => e = .returned (sv f2 g2 b2) ∧ Gr w w') := look_any f2 g2 b2
  have LX : Hid (∀ w, Calls Tryd.prog 5 #[sv x y z] w fun e w' => e = .returned (sv x y z) ∧ Gr w w') := look_any x y z
  have LY : Hid (∀ w, Calls Tryd.prog 5 #[sv x2 y2 z2] w fun e w' => e = .returned (sv x2 y2 z2) ∧ Gr w w') := look_any x2 y2 z2
  clear hx hy hz hx2 hy2 hz2
  obtain ⟨D, hD⟩ : ∃ q, cds (nms x y z x2 y2 z2) = q := ⟨_, rfl⟩
  have HD : Hid (cds (nms x y z x2 y2 z2) = D) := hD
  rw [hD] at CO
  clear hD
  have NM : Hid (¬ (x = x2 ∧ y = y2 ∧ z = z2) → ∀ w, Calls Tryd.prog 8 #[.string ⟨D.toArray⟩] w fun e w' => ∃ v, e = .returned (.tuple #[v, .bool true]) ∧ w'.ownsRow w.heap.size 3 1 v (nms x y z x2 y2 z2).length ((nms x y z x2 y2 z2).map (Value.int .i64)) ∧ Below w.heap.size w w') := fun hne w => by
    have hn := nms_ne hne HBD.out.2.2.2.2.2
    rw [← HD.out]
    unfold cds
    rw [if_neg hn]
    exact numbers_sq (nms_small HBD.out.2.2.2.1 HBD.out.2.2.2.2.1) hn (nms_len ..) w
  have AP : Hid (¬ (x = x2 ∧ y = y2 ∧ z = z2) → ∀ v w, Ints w v (nms x y z x2 y2 z2) → Calls Tryd.prog 9 #[sv x y z, v] w fun e w' => e = .returned (sv x2 y2 z2) ∧ Gr w w') := fun hne v w hv => by
    have := apply_any x y z (nms x y z x2 y2 z2) v w hv (by have := nms_len x y z x2 y2 z2; omega)
    obtain ⟨e1, e2, e3⟩ := turned HBD.out.1 HBD.out.2.1 HBD.out.2.2.1 HBD.out.2.2.2.1 HBD.out.2.2.2.2.1 HBD.out.2.2.2.2.2 hne
    rw [e1, e2, e3] at this
    exact this
  unfold sv at CO OX OY OZ SA SB LA LB LX LY AP ⊢
  obtain ⟨S, hS⟩ : ∃ q, w.heap.size = q := ⟨_, rfl⟩
  have HS : Hid (w.heap.size = S) := hS
  obtain ⟨W0, hW0⟩ : ∃ q, (w.alloc (.cells #[.int .i64 f, .int .i64 g, .int .i64 b] 23)).alloc (.cells #[.int .i64 f2, .int .i64 g2, .int .i64 b2] 23) = q := ⟨_, rfl⟩
  have G0 : Hid (Gr w W0) := by rw [← hW0]; exact ((Gr.refl w).alloc _).alloc _
  have RR : Hid (R3 23 W0 S f g b ∧ R3 23 W0 (S + 1) f2 g2 b2) := by
    rw [← hW0, ← hS]
    refine ⟨(R3.new w _ _ _ _).gr ((Gr.refl _).alloc _), ?_⟩
    have := R3.new (w.alloc (.cells #[.int .i64 f, .int .i64 g, .int .i64 b] 23)) f2 g2 b2 23
    simp only [World.size_alloc] at this
    exact this
  have a0 := RR.out.1.c0
  have a1 := RR.out.1.c1
  have a2 := RR.out.1.c2
  go_enter Tryd.func3, Tryd.ntmps3
  go_wp2_with fail
  clear hW0 hS a0 a1 a2
  refine Calls.mono (LA.out _) ?_
  rintro e w1 ⟨rfl, q1⟩
  have G1 : Hid (Gr W0 w1) := q1
  clear q1
  go_wp2_with fail
  refine Calls.mono (OX.out _) ?_
  rintro e w2 ⟨rfl, q2⟩
  obtain ⟨X, hX⟩ : ∃ q, w2.heap.size = q := ⟨_, rfl⟩
  obtain ⟨w3, hw3⟩ : ∃ q, w2.alloc (.cells #[.int .i64 x, .int .i64 y, .int .i64 z] 24) = q := ⟨_, rfl⟩
  have G3 : Hid (Gr W0 w3) := by rw [← hw3]; exact (G1.out.trans q2).alloc _
  have RX : Hid (R3 24 w3 X x y z) := by rw [← hw3, ← hX]; exact R3.new _ _ _ _ _
  clear q2 G1
  have c0 := (RR.out.2.gr G3.out).c0
  have c1 := (RR.out.2.gr G3.out).c1
  have c2 := (RR.out.2.gr G3.out).c2
  go_wp2_with fail
  clear hw3 hX c0 c1 c2
  refine Calls.mono (LB.out _) ?_
  rintro e w4 ⟨rfl, q4⟩
  have G4 : Hid (Gr w3 w4) := q4
  clear q4
  go_wp2_with fail
  refine Calls.mono (OY.out _) ?_
  rintro e w5 ⟨rfl, q5⟩
  obtain ⟨Y, hY⟩ : ∃ q, w5.heap.size = q := ⟨_, rfl⟩
  obtain ⟨w6, hw6⟩ : ∃ q, w5.alloc (.cells #[.int .i64 x2, .int .i64 y2, .int .i64 z2] 24) = q := ⟨_, rfl⟩
  have G6 : Hid (Gr w3 w6) := by rw [← hw6]; exact (G4.out.trans q5).alloc _
  have RY : Hid (R3 24 w6 Y x2 y2 z2) := by rw [← hw6, ← hY]; exact R3.new _ _ _ _ _
  have RQ : Hid (R3 23 w6 S f g b ∧ R3 23 w6 (S + 1) f2 g2 b2 ∧ R3 24 w6 X x y z ∧ R3 24 w6 Y x2 y2 z2 ∧ Gr w w6) := ⟨RR.out.1.gr (G3.out.trans G6.out), RR.out.2.gr (G3.out.trans G6.out), RX.out.gr G6.out, RY.out, (G0.out.trans G3.out).trans G6.out⟩
  clear q5 G4
  have a0 := RQ.out.1.c0
  have a1 := RQ.out.1.c1
  have a2 := RQ.out.1.c2
  have c0 := RQ.out.2.1.c0
  have c1 := RQ.out.2.1.c1
  have c2 := RQ.out.2.1.c2
  go_wp2_with fail
  clear hw6 hY
  go_cut [7] from 20 to 24 (fun s wx => s = .string ⟨D.toArray⟩ ∧ Hid (Below w6.heap.size w6 wx))
  case first =>
    go_region_held (fun W_ => W_.cell? ⟨S, 0, none⟩ = some (.int .i64 f) ∧ W_.cell? ⟨S, 1, none⟩ = some (.int .i64 g) ∧ W_.cell? ⟨S, 2, none⟩ = some (.int .i64 b) ∧ W_.cell? ⟨S + 1, 0, none⟩ = some (.int .i64 f2) ∧ W_.cell? ⟨S + 1, 1, none⟩ = some (.int .i64 g2) ∧ W_.cell? ⟨S + 1, 2, none⟩ = some (.int .i64 b2)) (go_keep) (first | (go_at_call 5; (first | (with_reducible refine Calls.mono (LA.out _) ?_) | (with_reducible refine Calls.mono (LB.out _) ?_)); rintro e wn ⟨rfl, hgn⟩; have HGn : Hid (Gr w6 wn) := (by first | exact ((Gr.refl w6).drew).trans hgn | exact Gr.trans (Hid.out (by assumption)) hgn); clear hgn; have m0 := (RQ.out.1.gr HGn.out).c0; have m1 := (RQ.out.1.gr HGn.out).c1; have m2 := (RQ.out.1.gr HGn.out).c2; have n0 := (RQ.out.2.1.gr HGn.out).c0; have n1 := (RQ.out.2.1.gr HGn.out).c1; have n2 := (RQ.out.2.1.gr HGn.out).c2) | (go_at_call 6; (with_reducible refine Calls.mono (CO.out _) ?_); rintro e w9 ⟨rfl, hb9⟩; have HB9 : Hid (Below w6.heap.size w6 w9) := HGn.out.below.trans (hb9.mono HGn.out.size); clear hb9; have m0 := (HB9.out.cell (p := ⟨S, 0, none⟩) RQ.out.1.lt).trans a0; have m1 := (HB9.out.cell (p := ⟨S, 1, none⟩) RQ.out.1.lt).trans a1; have m2 := (HB9.out.cell (p := ⟨S, 2, none⟩) RQ.out.1.lt).trans a2; have n0 := (HB9.out.cell (p := ⟨S + 1, 0, none⟩) RQ.out.2.1.lt).trans c0; have n1 := (HB9.out.cell (p := ⟨S + 1, 1, none⟩) RQ.out.2.1.lt).trans c1; have n2 := (HB9.out.cell (p := ⟨S + 1, 2, none⟩) RQ.out.2.1.lt).trans c2))
    all_goals
      go_wp2_with fail
      go_meet
      exact ⟨rfl, HB9.out⟩
  case rest =>
    obtain ⟨rfl, HB⟩ := hcut
    clear a0 a1 a2 c0 c1 c2
    have RW : Hid (R3 23 wc S f g b ∧ R3 23 wc (S + 1) f2 g2 b2 ∧ R3 24 wc X x y z ∧ R3 24 wc Y x2 y2 z2 ∧ Below w.heap.size w wc) := by
      obtain ⟨p1, p2, p3, p4, p5⟩ := RQ.out
      exact ⟨(HB.out.block _ p1.lt).trans p1, (HB.out.block _ p2.lt).trans p2, (HB.out.block _ p3.lt).trans p3, (HB.out.block _ p4.lt).trans p4, p5.below.trans (HB.out.mono p5.size)⟩
    have k0 := RW.out.2.2.1.c0
    have k1 := RW.out.2.2.1.c1
    have k2 := RW.out.2.2.1.c2
    go_wp2_with fail
    clear k0 k1 k2
    refine Calls.mono (OZ.out _) ?_
    rintro e w8 ⟨rfl, q8⟩
    obtain ⟨Z, hZ⟩ : ∃ q, w8.heap.size = q := ⟨_, rfl⟩
    obtain ⟨w9, hw9⟩ : ∃ q, w8.alloc (.cells #[.int .i64 x, .int .i64 y, .int .i64 z] 24) = q := ⟨_, rfl⟩
    have G9 : Hid (Gr wc w9) := by rw [← hw9]; exact q8.alloc _
    have RZ : Hid (R3 24 w9 Z x y z) := by rw [← hw9, ← hZ]; exact R3.new _ _ _ _ _
    have R9 : Hid (R3 23 w9 S f g b ∧ R3 23 w9 (S + 1) f2 g2 b2 ∧ R3 24 w9 X x y z ∧ R3 24 w9 Y x2 y2 z2 ∧ Below w.heap.size w w9) := by
      obtain ⟨p1, p2, p3, p4, p5⟩ := RW.out
      exact ⟨p1.gr G9.out, p2.gr G9.out, p3.gr G9.out, p4.gr G9.out, p5.trans (G9.out.below.mono p5.size)⟩
    clear q8
    have a0 : ∀ n' os', (grow (w9.drewN n') os').cell? ⟨S, 0, none⟩ = some (.int .i64 f) := cell_grown R9.out.1.lt R9.out.1.c0
    have a1 : ∀ n' os', (grow (w9.drewN n') os').cell? ⟨S, 1, none⟩ = some (.int .i64 g) := cell_grown R9.out.1.lt R9.out.1.c1
    have a2 : ∀ n' os', (grow (w9.drewN n') os').cell? ⟨S, 2, none⟩ = some (.int .i64 b) := cell_grown R9.out.1.lt R9.out.1.c2
    have c0 : ∀ n' os', (grow (w9.drewN n') os').cell? ⟨S + 1, 0, none⟩ = some (.int .i64 f2) := cell_grown R9.out.2.1.lt R9.out.2.1.c0
    have c1 : ∀ n' os', (grow (w9.drewN n') os').cell? ⟨S + 1, 1, none⟩ = some (.int .i64 g2) := cell_grown R9.out.2.1.lt R9.out.2.1.c1
    have c2 : ∀ n' os', (grow (w9.drewN n') os').cell? ⟨S + 1, 2, none⟩ = some (.int .i64 b2) := cell_grown R9.out.2.1.lt R9.out.2.1.c2
    have k0 : ∀ n' os', (grow (w9.drewN n') os').cell? ⟨X, 0, none⟩ = some (.int .i64 x) := cell_grown R9.out.2.2.1.lt R9.out.2.2.1.c0
    have k1 : ∀ n' os', (grow (w9.drewN n') os').cell? ⟨X, 1, none⟩ = some (.int .i64 y) := cell_grown R9.out.2.2.1.lt R9.out.2.2.1.c1
    have k2 : ∀ n' os', (grow (w9.drewN n') os').cell? ⟨X, 2, none⟩ = some (.int .i64 z) := cell_grown R9.out.2.2.1.lt R9.out.2.2.1.c2
    have l0 : ∀ n' os', (grow (w9.drewN n') os').cell? ⟨Y, 0, none⟩ = some (.int .i64 x2) := cell_grown R9.out.2.2.2.1.lt R9.out.2.2.2.1.c0
    have l1 : ∀ n' os', (grow (w9.drewN n') os').cell? ⟨Y, 1, none⟩ = some (.int .i64 y2) := cell_grown R9.out.2.2.2.1.lt R9.out.2.2.2.1.c1
    have l2 : ∀ n' os', (grow (w9.drewN n') os').cell? ⟨Y, 2, none⟩ = some (.int .i64 z2) := cell_grown R9.out.2.2.2.1.lt R9.out.2.2.2.1.c2
    have m0 : ∀ n' os', (grow (w9.drewN n') os').cell? ⟨Z, 0, none⟩ = some (.int .i64 x) := cell_grown RZ.out.lt RZ.out.c0
    have m1 : ∀ n' os', (grow (w9.drewN n') os').cell? ⟨Z, 1, none⟩ = some (.int .i64 y) := cell_grown RZ.out.lt RZ.out.c1
    have m2 : ∀ n' os', (grow (w9.drewN n') os').cell? ⟨Z, 2, none⟩ = some (.int .i64 z) := cell_grown RZ.out.lt RZ.out.c2
    go_wp2_with fail
    clear hw9 hZ
    go_quiet_grown (first | (go_at_call 7; (first | (with_reducible exact Calls.grown_of (SB.out _)) | (with_reducible exact Calls.grown_of (SA.out _)))) | (go_at_call 5; (first | (with_reducible exact Calls.grown_of (LY.out _)) | (with_reducible exact Calls.grown_of (LX.out _)))))
    have GF : Hid (Gr w9 (grow (w9.drewN nq) osq)) := ⟨nq, osq, rfl⟩
    clear a0 a1 a2 c0 c1 c2 m0 m1 m2
    have B10 : Hid (Below w.heap.size w (grow (w9.drewN nq) osq)) := R9.out.2.2.2.2.trans (GF.out.below.mono R9.out.2.2.2.2.size)
    by_cases hsame : x = x2 ∧ y = y2 ∧ z = z2
    · have HD0 : Hid (D = []) := by
        show _ = _
        rw [← HD.out]
        unfold cds nms
        rw [if_pos hsame, if_pos rfl]
      obtain ⟨rfl, rfl, rfl⟩ := hsame
      have hd0 := HD0.out
      subst hd0
      go_wp2
      go_ret
      exact ⟨rfl, B10.out⟩
    · have HNE : Hid (¬ (x = x2 ∧ y = y2 ∧ z = z2)) := hsame
      have NU : Hid (∀ w, _) := NM.out hsame
      have AU : Hid (∀ v w, _) := AP.out hsame
      have cc : ((x == x2) = false) ∨ ((x == x2) = true ∧ (y == y2) = false) ∨ ((x == x2) = true ∧ (y == y2) = true ∧ (z == z2) = false) := by
        by_cases e1 : x = x2
        · by_cases e2 : y = y2
          · refine .inr (.inr ⟨by simpa using e1, by simpa using e2, by simpa using fun e3 => HNE.out ⟨e1, e2, e3⟩⟩)
          · exact .inr (.inl ⟨by simpa using e1, by simpa using e2⟩)
        · exact .inl (by simpa using e1)
      have hp0 : 0 < (nms x y z x2 y2 z2).length := List.length_pos_iff.2 (nms_ne hsame HBD.out.2.2.2.2.2)
      have hl0 := nms_len x y z x2 y2 z2
      obtain ⟨L, hL⟩ : ∃ q, nms x y z x2 y2 z2 = q := ⟨_, rfl⟩
      rw [hL] at hp0 hl0 NU AU
      clear hL hsame
      have hl0' : ¬ (4 : Int) < (L.length : Int) := by omega
      rcases cc with ta0 | ⟨ta0, ta1⟩ | ⟨ta0, ta1, ta2⟩
      all_goals
        go_wp2_with fail
        refine Calls.mono (NU.out _) ?_
        rintro e wa ⟨v, rfl, ho, hb⟩
        have IV : Hid (Ints wa v L) := ints_own ho
        obtain ⟨gg, cp, rfl, _, _, _⟩ := row_open ho hp0
        have RA : Hid (R3 24 wa X x y z ∧ R3 24 wa Y x2 y2 z2 ∧ Below w.heap.size w wa) := ⟨(hb.block _ (Nat.lt_of_lt_of_le R9.out.2.2.1.lt GF.out.size)).trans (R9.out.2.2.1.gr GF.out), (hb.block _ (Nat.lt_of_lt_of_le R9.out.2.2.2.1.lt GF.out.size)).trans (R9.out.2.2.2.1.gr GF.out), B10.out.trans (hb.mono B10.out.size)⟩
        clear ho hb
        have s0 := RA.out.1.c0
        have s1 := RA.out.1.c1
        have s2 := RA.out.1.c2
        go_wp2_with fail
        refine Calls.mono (AU.out _ _ IV.out) ?_
        rintro e wb ⟨rfl, qb⟩
        obtain ⟨V, hV⟩ : ∃ q, wb.heap.size = q := ⟨_, rfl⟩
        obtain ⟨wd, hwd⟩ : ∃ q, wb.alloc (.cells #[.int .i64 x2, .int .i64 y2, .int .i64 z2] 24) = q := ⟨_, rfl⟩
        have GD : Hid (Gr wa wd) := by rw [← hwd]; exact qb.alloc _
        have RV : Hid (R3 24 wd V x2 y2 z2) := by rw [← hwd, ← hV]; exact R3.new _ _ _ _ _
        have RY2 : Hid (R3 24 wd Y x2 y2 z2) := RA.out.2.1.gr GD.out
        clear qb
        have t0 := RV.out.c0
        have t1 := RV.out.c1
        have t2 := RV.out.c2
        have u0 := RY2.out.c0
        have u1 := RY2.out.c1
        have u2 := RY2.out.c2
        go_wp2
        go_ret
        exact ⟨rfl, RA.out.2.2.trans (GD.out.below.mono RA.out.2.2.size)⟩
end Go.Proofs.YtkcddikpjblpaagDoor
