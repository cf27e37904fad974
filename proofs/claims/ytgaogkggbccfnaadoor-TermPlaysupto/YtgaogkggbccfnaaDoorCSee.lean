/-
  seen: what a rectangle has of the screen and of the clip.
-/
import Derived.Test.YtgaogkggbccfnaaDoorCBl
namespace Go.Proofs.YtgaogkggbccfnaaDoor
open Go.RowKit Go.Sort
set_option linter.unusedVariables false

/-- Cap, as four numbers. -/
def capQ (ax ay aw ah bx by_ bw bh : Int) : Int × Int × Int × Int := if capL ax aw bx bw ≥ capR ax aw bx bw ∨ capL ay ah by_ bh ≥ capR ay ah by_ bh then (0, 0, 0, 0) else (capL ax aw bx bw, capL ay ah by_ bh, capR ax aw bx bw - capL ax aw bx bw, capR ay ah by_ bh - capL ay ah by_ bh)
theorem capV_q (ax ay aw ah bx by_ bw bh : Int) : capV ax ay aw ah bx by_ bw bh = rv (capQ ax ay aw ah bx by_ bw bh).1 (capQ ax ay aw ah bx by_ bw bh).2.1 (capQ ax ay aw ah bx by_ bw bh).2.2.1 (capQ ax ay aw ah bx by_ bw bh).2.2.2 := by
  unfold capV capQ; split <;> rfl
/-- What can be seen of a rectangle x y a b under a clip on a screen W, H. -/
def seenQ (W H : Int) (x y a b cx cy ca cb : Int) : Int × Int × Int × Int := capQ 0 0 W H (capQ x y a b cx cy ca cb).1 (capQ x y a b cx cy ca cb).2.1 (capQ x y a b cx cy ca cb).2.2.1 (capQ x y a b cx cy ca cb).2.2.2
/-- Its facts: it lies on the screen, and has just the places that all three have. -/
structure Seen (W H : Int) (x y a b cx cy ca cb : Int) (l t u v : Int) : Prop where
  l0 : 0 ≤ l
  t0 : 0 ≤ t
  u0 : 0 ≤ u
  v0 : 0 ≤ v
  lu : l + u ≤ W
  tv : t + v ≤ H
  uv : 0 < u ↔ 0 < v
  mem : ∀ p q, (l ≤ p ∧ p < l + u ∧ t ≤ q ∧ q < t + v) ↔ ((0 ≤ p ∧ p < W ∧ 0 ≤ q ∧ q < H) ∧ (posI x ≤ p ∧ p < posI x + lenI a ∧ posI y ≤ q ∧ q < posI y + lenI b) ∧ (posI cx ≤ p ∧ p < posI cx + lenI ca ∧ posI cy ≤ q ∧ q < posI cy + lenI cb))
/-- Cap of what is within bounds already. -/
def cq (px py pa pb qx qy qa qb : Int) : Int × Int × Int × Int := if max px qx ≥ min (px + pa) (qx + qa) ∨ max py qy ≥ min (py + pb) (qy + qb) then (0, 0, 0, 0) else (max px qx, max py qy, min (px + pa) (qx + qa) - max px qx, min (py + pb) (qy + qb) - max py qy)
theorem cq_mem (px py pa pb qx qy qa qb p q : Int) : ((cq px py pa pb qx qy qa qb).1 ≤ p ∧ p < (cq px py pa pb qx qy qa qb).1 + (cq px py pa pb qx qy qa qb).2.2.1 ∧ (cq px py pa pb qx qy qa qb).2.1 ≤ q ∧ q < (cq px py pa pb qx qy qa qb).2.1 + (cq px py pa pb qx qy qa qb).2.2.2) ↔ ((px ≤ p ∧ p < px + pa ∧ py ≤ q ∧ q < py + pb) ∧ (qx ≤ p ∧ p < qx + qa ∧ qy ≤ q ∧ q < qy + qb)) := by
  unfold cq
  split
  · simp only; omega
  · simp only; omega
theorem cq_bd (px py pa pb qx qy qa qb : Int) (h1 : -100000 ≤ px ∧ px ≤ 100000) (h2 : -100000 ≤ py ∧ py ≤ 100000) (h3 : 0 ≤ pa ∧ pa ≤ 100000) (h4 : 0 ≤ pb ∧ pb ≤ 100000) (h5 : -100000 ≤ qx ∧ qx ≤ 100000) (h6 : -100000 ≤ qy ∧ qy ≤ 100000) :
    (-100000 ≤ (cq px py pa pb qx qy qa qb).1 ∧ (cq px py pa pb qx qy qa qb).1 ≤ 100000) ∧ (-100000 ≤ (cq px py pa pb qx qy qa qb).2.1 ∧ (cq px py pa pb qx qy qa qb).2.1 ≤ 100000) ∧ (0 ≤ (cq px py pa pb qx qy qa qb).2.2.1 ∧ (cq px py pa pb qx qy qa qb).2.2.1 ≤ 100000) ∧ (0 ≤ (cq px py pa pb qx qy qa qb).2.2.2 ∧ (cq px py pa pb qx qy qa qb).2.2.2 ≤ 100000) ∧ (0 < (cq px py pa pb qx qy qa qb).2.2.1 ↔ 0 < (cq px py pa pb qx qy qa qb).2.2.2) := by
  by_cases h : max px qx ≥ min (px + pa) (qx + qa) ∨ max py qy ≥ min (py + pb) (qy + qb)
  · have e : cq px py pa pb qx qy qa qb = (0, 0, 0, 0) := if_pos h
    rw [e]; simp
  · have e : cq px py pa pb qx qy qa qb = (max px qx, max py qy, min (px + pa) (qx + qa) - max px qx, min (py + pb) (qy + qb) - max py qy) := if_neg h
    rw [e]
    have k1 : max px qx < min (px + pa) (qx + qa) := by omega
    have k2 : max py qy < min (py + pb) (qy + qb) := by omega
    have k3 : min (px + pa) (qx + qa) ≤ px + pa := by omega
    have k4 : min (py + pb) (qy + qb) ≤ py + pb := by omega
    have k5 : px ≤ max px qx ∧ max px qx ≤ 100000 := by omega
    have k6 : py ≤ max py qy ∧ max py qy ≤ 100000 := by omega
    simp only
    generalize max px qx = A at *
    generalize min (px + pa) (qx + qa) = B at *
    generalize max py qy = C at *
    generalize min (py + pb) (qy + qb) = D at *
    refine ⟨⟨?_, ?_⟩, ⟨?_, ?_⟩, ⟨?_, ?_⟩, ⟨?_, ?_⟩, ?_⟩ <;> omega
theorem cq_in {W H qx qy qa qb : Int} (hW : 1 ≤ W) (hH : 1 ≤ H) : 0 ≤ (cq 0 0 W H qx qy qa qb).1 ∧ 0 ≤ (cq 0 0 W H qx qy qa qb).2.1 ∧ (cq 0 0 W H qx qy qa qb).1 + (cq 0 0 W H qx qy qa qb).2.2.1 ≤ W ∧ (cq 0 0 W H qx qy qa qb).2.1 + (cq 0 0 W H qx qy qa qb).2.2.2 ≤ H := by
  unfold cq
  split
  · simp only; omega
  · simp only; omega
theorem capQ_cq (ax ay aw ah bx by_ bw bh : Int) : capQ ax ay aw ah bx by_ bw bh = cq (posI ax) (posI ay) (lenI aw) (lenI ah) (posI bx) (posI by_) (lenI bw) (lenI bh) := rfl
theorem seen_facts {W H : Int} (hW : 1 ≤ W ∧ W ≤ 400) (hH : 1 ≤ H ∧ H ≤ 400) (x y a b cx cy ca cb : Int) :
    Seen W H x y a b cx cy ca cb (seenQ W H x y a b cx cy ca cb).1 (seenQ W H x y a b cx cy ca cb).2.1 (seenQ W H x y a b cx cy ca cb).2.2.1 (seenQ W H x y a b cx cy ca cb).2.2.2 := by
  have k := cq_bd (posI x) (posI y) (lenI a) (lenI b) (posI cx) (posI cy) (lenI ca) (lenI cb) (posI_bd x) (posI_bd y) (lenI_bd a) (lenI_bd b) (posI_bd cx) (posI_bd cy)
  have m1 := cq_mem (posI x) (posI y) (lenI a) (lenI b) (posI cx) (posI cy) (lenI ca) (lenI cb)
  unfold seenQ
  rw [capQ_cq x y a b cx cy ca cb]
  generalize cq (posI x) (posI y) (lenI a) (lenI b) (posI cx) (posI cy) (lenI ca) (lenI cb) = z at k m1 ⊢
  obtain ⟨i0, i1, i2, i3⟩ := z
  simp only at k m1 ⊢
  rw [capQ_cq, posI_id (n := i0) k.1, posI_id (n := i1) k.2.1, lenI_id (n := i2) k.2.2.1, lenI_id (n := i3) k.2.2.2.1, lenI_id (n := W) (by omega), lenI_id (n := H) (by omega), show posI 0 = 0 from rfl]
  have k2 := cq_bd 0 0 W H i0 i1 i2 i3 (by omega) (by omega) (by omega) (by omega) k.1 k.2.1
  have m2 := cq_mem 0 0 W H i0 i1 i2 i3
  have k3 := cq_in (qx := i0) (qy := i1) (qa := i2) (qb := i3) hW.1 hH.1
  generalize cq 0 0 W H i0 i1 i2 i3 = z at k2 m2 k3 ⊢
  obtain ⟨j0, j1, j2, j3⟩ := z
  simp only at k2 m2 k3 ⊢
  refine ⟨k3.1, k3.2.1, k2.2.2.1.1, k2.2.2.2.1.1, k3.2.2.1, k3.2.2.2, k2.2.2.2.2, fun p q => ?_⟩
  rw [m2 p q, m1 p q]
  constructor
  · rintro ⟨h1, h2, h3⟩; exact ⟨by omega, h2, h3⟩
  · rintro ⟨h1, h2, h3⟩; exact ⟨by omega, h2, h3⟩

section
variable {K M cap W H : Nat} {c : Nat → Nat → Ce}
set_option maxRecDepth 100000 in
set_option maxHeartbeats 4000000 in
theorem seen_any (w : World) (h : CS 88 45 w K M cap W H c) (x y a b cx cy ca cb : Int) : Calls Tryd.prog 91 #[.pointer (some ⟨K, 0, none⟩), rv x y a b, rv cx cy ca cb] w fun e w' => e = .returned (rv (seenQ W H x y a b cx cy ca cb).1 (seenQ W H x y a b cx cy ca cb).2.1 (seenQ W H x y a b cx cy ca cb).2.2.1 (seenQ W H x y a b cx cy ca cb).2.2.2) ∧ Gr w w' := by
  have k0 := h.k0
  have k1 := h.k1
  have kl := h.klt
  clear h
  have CP : Hid (∀ ax ay aw ah bx by_ bw bh w, Calls Tryd.prog 98 #[rv ax ay aw ah, rv bx by_ bw bh] w fun e w' => e = .returned (rv (capQ ax ay aw ah bx by_ bw bh).1 (capQ ax ay aw ah bx by_ bw bh).2.1 (capQ ax ay aw ah bx by_ bw bh).2.2.1 (capQ ax ay aw ah bx by_ bw bh).2.2.2) ∧ Gr w w') := fun ax ay aw ah bx by_ bw bh w => by rw [← capV_q]; exact cap_any ax ay aw ah bx by_ bw bh w
  obtain ⟨q1, hq1⟩ : ∃ z, capQ x y a b cx cy ca cb = z := ⟨_, rfl⟩
  have C1 := CP.out x y a b cx cy ca cb
  rw [hq1] at C1
  obtain ⟨i0, i1, i2, i3⟩ := q1
  obtain ⟨q2, hq2⟩ : ∃ z, capQ 0 0 (W : Int) (H : Int) i0 i1 i2 i3 = z := ⟨_, rfl⟩
  have C2 := CP.out 0 0 W H i0 i1 i2 i3
  rw [hq2] at C2
  obtain ⟨j0, j1, j2, j3⟩ := q2
  have HQ : Hid (seenQ W H x y a b cx cy ca cb = (j0, j1, j2, j3)) := by show _ = _; unfold seenQ; rw [hq1]; exact hq2
  rw [HQ.out]
  clear hq1 hq2 CP
  unfold rv at C1 C2 ⊢
  simp only at C1 C2 ⊢
  go_enter Tryd.func91, Tryd.ntmps91
  go_wp2_with fail
  obtain ⟨S, hS⟩ : ∃ z, w.heap.size = z := ⟨_, rfl⟩
  have HS : Hid (w.heap.size = S) := hS
  obtain ⟨W0, hW0⟩ : ∃ z, ((w.alloc (.cells #[.int .i64 x, .int .i64 y, .int .i64 a, .int .i64 b] 135)).alloc (.cells #[.int .i64 cx, .int .i64 cy, .int .i64 ca, .int .i64 cb] 135)).alloc (.cells #[.int .i64 0, .int .i64 0, .int .i64 0, .int .i64 0] 135) = z := ⟨_, rfl⟩
  have G0 : Hid (Gr w W0) := by rw [← hW0]; exact (((Gr.refl w).alloc _).alloc _).alloc _
  have RA : Hid (R4 135 W0 S x y a b) := by rw [← hW0, ← hS]; exact (R4.new w _ _ _ _ _).gr (((Gr.refl _).alloc _).alloc _)
  have RB : Hid (R4 135 W0 (S + 1) cx cy ca cb) := by
    have := R4.new (w.alloc (.cells #[.int .i64 x, .int .i64 y, .int .i64 a, .int .i64 b] 135)) cx cy ca cb 135
    simp only [World.size_alloc, hS] at this
    rw [← hW0]; exact this.gr ((Gr.refl _).alloc _)
  have RC : Hid (R4 135 W0 (S + 1 + 1) 0 0 0 0) := by
    have := R4.new ((w.alloc (.cells #[.int .i64 x, .int .i64 y, .int .i64 a, .int .i64 b] 135)).alloc (.cells #[.int .i64 cx, .int .i64 cy, .int .i64 ca, .int .i64 cb] 135)) 0 0 0 0 135
    simp only [World.size_alloc, hS] at this
    rw [← hW0]; exact this
  have k0' : W0.cell? ⟨K, 0, none⟩ = some (.int .i64 W) := (World.cell?_of_block (a := ⟨K, 0, none⟩) (G0.out.block kl)).trans k0
  have k1' : W0.cell? ⟨K, 1, none⟩ = some (.int .i64 H) := (World.cell?_of_block (a := ⟨K, 1, none⟩) (G0.out.block kl)).trans k1
  have sz : Hid (W0.heap.size = S + 3) := by show W0.heap.size = S + 3; rw [← hW0]; simp only [World.size_alloc, hS]
  have kl0 : K < W0.heap.size := by rw [sz.out, ← HS.out]; omega
  rw [hW0, hS]
  clear hW0 hS k0 k1
  go_cut [4, 5, 6, 7] from 8 to 16 (fun u v t s wx => u = .pointer (some ⟨S, 0, none⟩) ∧ v = .pointer (some ⟨S + 1, 0, none⟩) ∧ t = .pointer (some ⟨S + 1 + 1, 0, none⟩) ∧ s = .pointer (some ⟨W0.heap.size, 0, none⟩) ∧ Hid (R4 135 wx S x y a b ∧ R4 135 wx (S + 1) cx cy ca cb ∧ R4 135 wx (S + 1 + 1) 0 0 0 0 ∧ R4 135 wx W0.heap.size 0 0 W H ∧ Gr w wx))
  case first =>
    go_region
    all_goals
      go_wp2_with fail
      go_meet
      have gz : Gr W0 (W0.alloc (.cells #[.int .i64 0, .int .i64 0, .int .i64 W, .int .i64 H] 135)).drew := ((Gr.refl W0).alloc _).drew
      exact ⟨rfl, rfl, rfl, rfl, RA.out.gr gz, RB.out.gr gz, RC.out.gr gz, (R4.new W0 0 0 W H _).gr ((Gr.refl _).drew), G0.out.trans gz⟩
  case rest =>
    obtain ⟨rfl, rfl, rfl, rfl, HR⟩ := hcut
    obtain ⟨Z, hZ⟩ : ∃ z, W0.heap.size = z := ⟨_, rfl⟩
    have HZ : Hid (Z = S + 3) := hZ.symm.trans sz.out
    rw [hZ] at HR
    rw [hZ]
    clear hZ RA RB RC kl0 k0' k1' G0 sz
    have a0 := HR.out.1.c0
    have a1 := HR.out.1.c1
    have a2 := HR.out.1.c2
    have a3 := HR.out.1.c3
    have b0 := HR.out.2.1.c0
    have b1 := HR.out.2.1.c1
    have b2 := HR.out.2.1.c2
    have b3 := HR.out.2.1.c3
    have z0 := HR.out.2.2.2.1.c0
    have z1 := HR.out.2.2.2.1.c1
    have z2 := HR.out.2.2.2.1.c2
    have z3 := HR.out.2.2.2.1.c3
    go_wp2_with fail
    go_region_with (go_at_call 98; (first | (with_reducible refine Calls.mono (C1 _) ?_) | (with_reducible refine Calls.mono (C2 _) ?_)); rintro e wn ⟨rfl, hgn⟩; have HGn : Hid (Gr wc wn) := (by first | exact ((Gr.refl wc).drew).trans hgn | exact Gr.trans (Hid.out (by assumption)) hgn); clear hgn; have m0 := (HR.out.1.gr HGn.out).c0; have m1 := (HR.out.1.gr HGn.out).c1; have m2 := (HR.out.1.gr HGn.out).c2; have m3 := (HR.out.1.gr HGn.out).c3; have n0 := (HR.out.2.1.gr HGn.out).c0; have n1 := (HR.out.2.1.gr HGn.out).c1; have n2 := (HR.out.2.1.gr HGn.out).c2; have n3 := (HR.out.2.1.gr HGn.out).c3; have o0 := (HR.out.2.2.2.1.gr HGn.out).c0; have o1 := (HR.out.2.2.2.1.gr HGn.out).c1; have o2 := (HR.out.2.2.2.1.gr HGn.out).c2; have o3 := (HR.out.2.2.2.1.gr HGn.out).c3; have p0 := (HR.out.2.2.1.gr HGn.out).c0; have p1 := (HR.out.2.2.1.gr HGn.out).c1; have p2 := (HR.out.2.2.1.gr HGn.out).c2; have p3 := (HR.out.2.2.1.gr HGn.out).c3; have f0 := (HR.out.2.2.1.gr HGn.out).fz 0; have f1 := (HR.out.2.2.1.gr HGn.out).fz 1; have f2 := (HR.out.2.2.1.gr HGn.out).fz 2; have f3 := (HR.out.2.2.1.gr HGn.out).fz 3)
    all_goals
      go_wp2_with fail
      refine bodyPost_ret (results_cell_row rfl _ _ (S + 1 + 1) _ _ _ _ rfl ((HR.out.2.2.1.gr HGn.out).set _ _ _ _) Tryd.underlying135 rfl (by kernel_rfl)) rfl ?_
      exact ⟨rfl, (HR.out.2.2.2.2.trans HGn.out).set4 (by rw [HS.out]; omega) _ _ _ _⟩
end
end Go.Proofs.YtgaogkggbccfnaaDoor
