/-
  style.Codes.
-/
import Derived.Test.YtlfffpoeioecjaaDoorG02
import Derived.Test.YtlfffpoeioecjaaDoorG00
import Derived.Test.YtlfffpoeioecjaaDoorG08
namespace Go.Proofs.YtlfffpoeioecjaaDoor
open Go.RowKit Go.Sort
set_option linter.unusedVariables false

theorem chg_pos {x y z x2 y2 z2 : Int} (h : ¬ (x = x2 ∧ y = y2 ∧ z = z2)) (hz : ¬ z2 < z) : 0 < (chg x y z x2 y2 z2).length := by
  unfold chg cBold cFg cBg
  by_cases h1 : z < z2
  · rw [if_pos h1]; simp
  · rw [if_neg h1]
    by_cases h2 : x2 = x
    · have h3 : ¬ y2 = y := fun e => h ⟨h2.symm, e.symm, by omega⟩
      rw [if_neg h3]; simp
    · rw [if_neg h2]; simp
/-- A row of one's own, opened. -/
theorem row_open {w : World} {B : Nat} {v : Value} {ns : List Int} (h : w.ownsRow B 3 1 v ns.length (ns.map (Value.int .i64))) (hp : 0 < ns.length) :
    ∃ g cap, v = .slice (some ⟨g, 0, none⟩) ns.length cap ∧ g < w.heap.size ∧ B ≤ g ∧ ∀ j, j < ns.length → w.cell? ⟨g, 0 + j, none⟩ = some (.int .i64 (ns[j]?.getD 0)) := by
  rcases h.2 with ⟨_, h2⟩ | ⟨g, cap, cur, h1, h2, h3, _⟩
  · omega
  · refine ⟨g, cap, h1, (Array.getElem?_eq_some_iff.1 h3).1, h2, fun j hj => ?_⟩
    have := h.cells (g := g) (by rw [h1]; rfl) j (.int .i64 (ns[j]?.getD 0)) (by simp [hj])
    have e : (⟨g, 0, none⟩ : Addr).add j = ⟨g, 0 + j, none⟩ := by unfold Addr.add; split <;> simp_all
    rwa [e] at this
theorem row_get {g : Nat} {w : World} {ns : List Int} (hc : ∀ j, j < ns.length → w.cell? ⟨g, 0 + j, none⟩ = some (.int .i64 (ns[j]?.getD 0))) (j : Nat) (u : Value) (hj : (ns.map (Value.int .i64))[j]? = some u) : w.cell? ((⟨g, 0, none⟩ : Addr).add j) = some u := by
  have e : (⟨g, 0, none⟩ : Addr).add j = ⟨g, 0 + j, none⟩ := by unfold Addr.add; split <;> simp_all
  rw [List.getElem?_map] at hj
  have hjl : j < ns.length := by
    rcases Nat.lt_or_ge j ns.length with h | h
    · exact h
    · rw [List.getElem?_eq_none h] at hj; cases hj
  rw [e, hc j hjl]
  rw [List.getElem?_eq_getElem hjl] at hj ⊢
  exact hj
theorem row_cell {ns : List Int} (u : Value) (hu : u ∈ ns.map (Value.int .i64)) : u.oneCell' = true := by obtain ⟨z, _, rfl⟩ := List.mem_map.1 hu; rfl

theorem one_row {w : World} {base g : Nat} {x : Int} (h : w.heap[g]? = some (.cells #[.int .i64 x] 3 (0, 0))) (hb : base ≤ g) : w.ownsRow base 3 1 (.slice (some ⟨g, 0, none⟩) 1 1) 1 [.int .i64 x] :=
  ⟨rfl, .inr ⟨g, 1, #[.int .i64 x], rfl, hb, h, Nat.le_refl _, by decide, rfl, rfl⟩⟩
theorem zero_small : Small [0] := by intro n hn; simp at hn; omega
theorem cons_small {L : List Int} (h : Small L) : Small (0 :: L) := by
  intro n hn
  rcases List.mem_cons.1 hn with rfl | h1
  · omega
  · exact h n h1

theorem zero_seq (w : World) : Calls Tryd.prog 85 #[.slice (some ⟨w.heap.size, 0, none⟩) 1 1] (w.alloc (.cells #[.int .i64 0] 3)) fun e w' => e = .returned (.string ⟨(sq [0]).toArray⟩) ∧ Below (w.alloc (.cells #[.int .i64 0] 3)).heap.size (w.alloc (.cells #[.int .i64 0] 3)) w' :=
  ysequence_any [0] w.heap.size 0 1 _ (by decide) (by rw [World.size_alloc]; omega) (fun j hj => by
    obtain rfl : j = 0 := by simp at hj; omega
    exact one_new w (.int .i64 0) 3 0 _ rfl) zero_small (by decide)

set_option maxRecDepth 100000 in
set_option maxHeartbeats 8000000 in
theorem codes_any (f g b f2 g2 b2 : Int) (w : World) : Calls Tryd.prog 66 #[sv f g b, sv f2 g2 b2] w fun e w' => e = .returned (.string ⟨(cds (nms (kn f) (kn g) (bo b) (kn f2) (kn g2) (bo b2))).toArray⟩) ∧ Below w.heap.size w w' := by
  have CC : Hid (∀ f g b w, Calls Tryd.prog 83 #[sv f g b] w fun e w' => e = .returned (sv (kn f) (kn g) (bo b)) ∧ Gr w w') := counted_any
  unfold sv at CC ⊢
  go_enter Tryd.func66, Tryd.ntmps66
  go_wp2_with fail
  obtain ⟨S, hS⟩ : ∃ x, w.heap.size = x := ⟨_, rfl⟩
  obtain ⟨W0, hW0⟩ : ∃ x, (w.alloc (.cells #[.int .i64 f, .int .i64 g, .int .i64 b] 32)).alloc (.cells #[.int .i64 f2, .int .i64 g2, .int .i64 b2] 32) = x := ⟨_, rfl⟩
  have G0 : Hid (Gr w W0) := by rw [← hW0]; exact ((Gr.refl w).alloc _).alloc _
  have RA : Hid (R3 32 W0 S f g b) := by rw [← hW0, ← hS]; exact (R3.new w _ _ _ _).gr ((Gr.refl _).alloc _)
  have RB : Hid (R3 32 W0 (S + 1) f2 g2 b2) := by
    have := R3.new (w.alloc (.cells #[.int .i64 f, .int .i64 g, .int .i64 b] 32)) f2 g2 b2 32
    simp only [World.size_alloc, hS] at this
    rw [← hW0]; exact this
  rw [hW0, hS]
  clear hW0
  have HS : Hid (w.heap.size = S) := hS
  clear hS
  have a0 := RA.out.c0
  have a1 := RA.out.c1
  have a2 := RA.out.c2
  have b0 := RB.out.c0
  have b1 := RB.out.c1
  have b2' := RB.out.c2
  obtain ⟨x, hx⟩ : ∃ z, kn f = z := ⟨_, rfl⟩
  obtain ⟨y, hy⟩ : ∃ z, kn g = z := ⟨_, rfl⟩
  obtain ⟨z, hz⟩ : ∃ z, bo b = z := ⟨_, rfl⟩
  obtain ⟨x2, hx2⟩ : ∃ z, kn f2 = z := ⟨_, rfl⟩
  obtain ⟨y2, hy2⟩ : ∃ z, kn g2 = z := ⟨_, rfl⟩
  obtain ⟨z2, hz2⟩ : ∃ z, bo b2 = z := ⟨_, rfl⟩
  have HV : Hid (nms (kn f) (kn g) (bo b) (kn f2) (kn g2) (bo b2) = nms x y z x2 y2 z2) := by show _ = _; rw [hx, hy, hz, hx2, hy2, hz2]
  have bz := bo_bd b
  have bz2 := bo_bd b2
  have bx2 := kn_bd f2
  have by2 := kn_bd g2
  rw [hx2] at bx2
  rw [hy2] at by2
  rw [hz] at bz
  rw [hz2] at bz2
  have C1 := CC.out f g b
  have C2 := CC.out f2 g2 b2
  rw [hx, hy, hz] at C1
  rw [hx2, hy2, hz2] at C2
  go_cut [2, 3] from 6 to 9 (fun u v wx => u = .pointer (some ⟨S, 0, none⟩) ∧ v = .pointer (some ⟨S + 1, 0, none⟩) ∧ Hid (R3 32 wx S x y z ∧ R3 32 wx (S + 1) x2 y2 z2 ∧ Gr w wx))
  case first =>
    go_region_with (go_at_call 83; (first | (with_reducible refine Calls.mono (C1 _) ?_) | (with_reducible refine Calls.mono (C2 _) ?_)); rintro e wn ⟨rfl, hgn⟩; have HGn : Hid (Gr W0 wn) := (by first | exact ((Gr.refl W0).drew).trans hgn | exact Gr.trans (Hid.out (by assumption)) hgn); have HAn : Hid (R3 32 wn S f g b) := RA.out.gr HGn.out; have HBn : Hid (R3 32 wn (S + 1) f2 g2 b2) := RB.out.gr HGn.out; clear hgn; have m0 := HAn.out.c0; have m1 := HAn.out.c1; have m2 := HAn.out.c2; have n0 := HBn.out.c0; have n1 := HBn.out.c1; have n2 := HBn.out.c2; have f0 := HAn.out.fz 0; have f1 := HAn.out.fz 1; have f2' := HAn.out.fz 2; have g0 := HBn.out.fz 0; have g1 := HBn.out.fz 1; have g2' := HBn.out.fz 2)
    all_goals
      have HO : Hid (R3 32 ((((((wn.setCell ⟨S, 0, none⟩ (.int .i64 x)).setCell ⟨S, 1, none⟩ (.int .i64 y)).setCell ⟨S, 2, none⟩ (.int .i64 z)).setCell ⟨S + 1, 0, none⟩ (.int .i64 x2)).setCell ⟨S + 1, 1, none⟩ (.int .i64 y2)).setCell ⟨S + 1, 2, none⟩ (.int .i64 z2)) S x y z ∧ R3 32 ((((((wn.setCell ⟨S, 0, none⟩ (.int .i64 x)).setCell ⟨S, 1, none⟩ (.int .i64 y)).setCell ⟨S, 2, none⟩ (.int .i64 z)).setCell ⟨S + 1, 0, none⟩ (.int .i64 x2)).setCell ⟨S + 1, 1, none⟩ (.int .i64 y2)).setCell ⟨S + 1, 2, none⟩ (.int .i64 z2)) (S + 1) x2 y2 z2 ∧ Gr w ((((((wn.setCell ⟨S, 0, none⟩ (.int .i64 x)).setCell ⟨S, 1, none⟩ (.int .i64 y)).setCell ⟨S, 2, none⟩ (.int .i64 z)).setCell ⟨S + 1, 0, none⟩ (.int .i64 x2)).setCell ⟨S + 1, 1, none⟩ (.int .i64 y2)).setCell ⟨S + 1, 2, none⟩ (.int .i64 z2))) :=
        ⟨(HAn.out.set x y z).others (by omega) _ _ _, (HBn.out.others (by omega) _ _ _).set x2 y2 z2, ((G0.out.trans HGn.out).set3 (by rw [HS.out]; omega) _ _ _).set3 (by rw [HS.out]; omega) _ _ _⟩
      clear m0 m1 m2 n0 n1 n2 f0 f1 f2' g0 g1 g2' a0 a1 a2 b0 b1 b2' HAn HBn
      go_wp2_with fail
      go_meet
      exact ⟨rfl, rfl, HO.out⟩
  case rest =>
    obtain ⟨rfl, rfl, HO⟩ := hcut
    clear a0 a1 a2 b0 b1 b2' RA RB
    have a0 := HO.out.1.c0
    have a1 := HO.out.1.c1
    have a2 := HO.out.1.c2
    have b0 := HO.out.2.1.c0
    have b1 := HO.out.2.1.c1
    have b2' := HO.out.2.1.c2
    have al := HO.out.1.lt
    have bl := HO.out.2.1.lt
    have HXY : Hid (0 ≤ x2 ∧ x2 ≤ 8 ∧ 0 ≤ y2 ∧ y2 ≤ 8) := ⟨bx2.1, bx2.2, by2.1, by2.2⟩
    obtain ⟨i0, hi, hz0, hz1, hz2'⟩ := info_parts yinfo3
    clear CC C1 C2 hx hy hz hx2 hy2 hz2 bx2 by2
    have g0 := HO.out.1.fz 0
    have g1' := HO.out.1.fz 1
    have g2' := HO.out.1.fz 2
    by_cases h1 : x = x2 ∧ y = y2 ∧ z = z2
    · have HN : Hid (nms x y z x2 y2 z2 = []) := if_pos h1
      obtain ⟨rfl, rfl, rfl⟩ := h1
      go_wp2
      go_ret
      exact ⟨by rw [HV.out, HN.out]; rfl, HO.out.2.2.below⟩
    have H1 : Hid (¬ (x = x2 ∧ y = y2 ∧ z = z2)) := h1
    have c1 : ((x == x2) = false) ∨ ((x == x2) = true ∧ (y == y2) = false) ∨ ((x == x2) = true ∧ (y == y2) = true ∧ (z == z2) = false) := by
      by_cases e1 : x = x2
      · by_cases e2 : y = y2
        · refine .inr (.inr ⟨by simpa using e1, by simpa using e2, by simpa using fun e3 => H1.out ⟨e1, e2, e3⟩⟩)
        · exact .inr (.inl ⟨by simpa using e1, by simpa using e2⟩)
      · exact .inl (by simpa using e1)
    clear h1
    rcases c1 with ta0 | ⟨ta0, ta1⟩ | ⟨ta0, ta1, ta2⟩
    all_goals
      by_cases h2 : x2 = 0 ∧ y2 = 0 ∧ z2 = 0
      · have H2 : Hid (x2 = 0 ∧ y2 = 0 ∧ z2 = 0) := h2
        have tp0 : (x2 == 0) = true := by simpa using h2.1
        have tp1 : (y2 == 0) = true := by simpa using h2.2.1
        have tp2 : (z2 == 0) = true := by simpa using h2.2.2
        clear h2
        have HN : Hid (nms x y z x2 y2 z2 = [0]) := by show _ = _; unfold nms; rw [if_neg H1.out, if_pos H2.out]
        go_wp2_with (go_at_call 85; refine Calls.mono (zero_seq _) ?_; rintro e w3 ⟨rfl, b3⟩)
        go_ret
        exact ⟨by rw [HV.out, HN.out]; rfl, (HO.out.2.2.alloc _).below.trans (b3.mono (HO.out.2.2.alloc _).size)⟩
      have H2 : Hid (¬ (x2 = 0 ∧ y2 = 0 ∧ z2 = 0)) := h2
      have c2 : ((x2 == 0) = false) ∨ ((x2 == 0) = true ∧ (y2 == 0) = false) ∨ ((x2 == 0) = true ∧ (y2 == 0) = true ∧ (z2 == 0) = false) := by
        by_cases e1 : x2 = 0
        · by_cases e2 : y2 = 0
          · refine .inr (.inr ⟨by simpa using e1, by simpa using e2, by simpa using fun e3 => H2.out ⟨e1, e2, e3⟩⟩)
          · exact .inr (.inl ⟨by simpa using e1, by simpa using e2⟩)
        · exact .inl (by simpa using e1)
      clear h2
      rcases c2 with tb0 | ⟨tb0, tb1⟩ | ⟨tb0, tb1, tb2⟩
      all_goals
        by_cases h3 : z2 < z
        · have hp0 : 0 < (chg 0 0 0 x2 y2 z2).length := chg_pos (fun e => H2.out ⟨e.1.symm, e.2.1.symm, e.2.2.symm⟩) (by have := bz2; omega)
          have hl0 := chg_len 0 0 0 x2 y2 z2
          have HSm : Small (chg 0 0 0 x2 y2 z2) := chg_small ⟨HXY.out.1, HXY.out.2.1⟩ ⟨HXY.out.2.2.1, HXY.out.2.2.2⟩
          have CH : Hid (∀ w, Calls Tryd.prog 84 #[sv 0 0 0, sv x2 y2 z2] w fun e w' => ∃ v, e = .returned v ∧ w'.ownsRow w.heap.size 3 1 v (chg 0 0 0 x2 y2 z2).length ((chg 0 0 0 x2 y2 z2).map (Value.int .i64)) ∧ Below w.heap.size w w') := fun w => changes_any _ _ _ _ _ _ w ⟨HXY.out.1, HXY.out.2.1⟩ ⟨HXY.out.2.2.1, HXY.out.2.2.2⟩
          have HN : Hid (nms x y z x2 y2 z2 = 0 :: chg 0 0 0 x2 y2 z2) := by show _ = _; unfold nms; rw [if_neg H1.out, if_neg H2.out, if_pos h3]
          obtain ⟨L, hL⟩ : ∃ q, chg 0 0 0 x2 y2 z2 = q := ⟨_, rfl⟩
          rw [hL] at hp0 hl0 HSm CH HN
          have HSS : Hid (Small L) := HSm
          clear hL HSm
          unfold sv at CH
          have GX : Hid (Gr w ((((wc.setCell ⟨S, 0, none⟩ (.int .i64 0)).setCell ⟨S, 1, none⟩ (.int .i64 0)).setCell ⟨S, 2, none⟩ (.int .i64 0)).alloc (.cells #[.int .i64 0] 3))) := (HO.out.2.2.set3 (by rw [HS.out]; omega) _ _ _).alloc _
          have BX : Hid (((((wc.setCell ⟨S, 0, none⟩ (.int .i64 0)).setCell ⟨S, 1, none⟩ (.int .i64 0)).setCell ⟨S, 2, none⟩ (.int .i64 0)).alloc (.cells #[.int .i64 0] 3)).heap[wc.heap.size]? = some (.cells #[.int .i64 0] 3 (0, 0))) := by
            have := heap_alloc_new (((wc.setCell ⟨S, 0, none⟩ (.int .i64 0)).setCell ⟨S, 1, none⟩ (.int .i64 0)).setCell ⟨S, 2, none⟩ (.int .i64 0)) (.cells #[.int .i64 0] 3)
            rw [show (((wc.setCell ⟨S, 0, none⟩ (.int .i64 0)).setCell ⟨S, 1, none⟩ (.int .i64 0)).setCell ⟨S, 2, none⟩ (.int .i64 0)).heap.size = wc.heap.size by simp [World.setCell]] at this
            exact this
          go_wp2_with (first | (go_at_call 84; refine Calls.mono (CH.out _) ?_; rintro e w1 ⟨v1, rfl, o1, b1⟩; obtain ⟨g1, cap1, rfl, lt1, _, c1⟩ := row_open o1 hp0; have RW : Hid (w1.ownsRow w.heap.size 3 1 (.slice (some ⟨wc.heap.size, 0, none⟩) 1 1) 1 [.int .i64 0]) := (one_row ((b1.block _ (Array.getElem?_eq_some_iff.1 BX.out).1).trans BX.out) (by have := HO.out.2.2.size; omega) : w1.ownsRow w.heap.size 3 1 (.slice (some ⟨wc.heap.size, 0, none⟩) 1 1) 1 [.int .i64 0]); have B1 : Hid (Below w.heap.size w w1) := (GX.out.below).trans (b1.mono (GX.out.below).size); have C1' : Hid (∀ j, j < L.length → w1.cell? ⟨g1, 0 + j, none⟩ = some (.int .i64 (L[j]?.getD 0))) := c1; clear c1 b1 o1) | (at_builtin; refine wpList_append_own _ rfl _ _ 113 rfl w.heap.size 3 i0 (.int .i64 0) 1 8 Tryd.underlying113 hi hz0 hz1 hz2' rfl (by decide) _ _ _ rfl RW.out ⟨g1, 0, none⟩ L.length cap1 (L.map (Value.int .i64)) rfl (by rw [List.length_map, Nat.mul_one]) (row_get C1'.out) row_cell (by unfold maxLen; omega) (by omega) B1.out.size ?_; intro v2 w2 o2 q2 _; have O2 : w2.ownsRow w.heap.size 3 1 v2 (0 :: L).length ((0 :: L).map (Value.int .i64)) := (by have := o2; rw [Nat.add_comm] at this; exact this); have B2 : Hid (Below w.heap.size w w2) := B1.out.grown q2 B1.out.size (fun k hk => (RW.out.lt k hk).1); obtain ⟨g2, cap2, rfl, lt2, _, c2⟩ := row_open O2 (by first | exact hp0 | simp); have C2' : Hid (∀ j, j < (0 :: L).length → w2.cell? ⟨g2, 0 + j, none⟩ = some (.int .i64 ((0 :: L)[j]?.getD 0))) := c2; clear c2 o2 q2 O2) | (go_at_call 85; refine Calls.mono (ysequence_any (0 :: L) g2 0 cap2 _ (by first | exact hp0 | simp) lt2 C2'.out (cons_small HSS.out) (by first | (simp; omega) | omega)) ?_; rintro e w3 ⟨rfl, b3⟩))
          go_ret
          exact ⟨by rw [HV.out, HN.out]; first | rfl | (unfold cds; rw [if_neg (by intro e; rw [e] at hp0; simp at hp0)]; rfl), B2.out.trans (b3.mono B2.out.size)⟩
        · replace h3 : z ≤ z2 := by omega
          have hp0 : 0 < (chg x y z x2 y2 z2).length := chg_pos H1.out (by omega)
          have hl0 := chg_len x y z x2 y2 z2
          have HSm : Small (chg x y z x2 y2 z2) := chg_small ⟨HXY.out.1, HXY.out.2.1⟩ ⟨HXY.out.2.2.1, HXY.out.2.2.2⟩
          have CH : Hid (∀ w, Calls Tryd.prog 84 #[sv x y z, sv x2 y2 z2] w fun e w' => ∃ v, e = .returned v ∧ w'.ownsRow w.heap.size 3 1 v (chg x y z x2 y2 z2).length ((chg x y z x2 y2 z2).map (Value.int .i64)) ∧ Below w.heap.size w w') := fun w => changes_any _ _ _ _ _ _ w ⟨HXY.out.1, HXY.out.2.1⟩ ⟨HXY.out.2.2.1, HXY.out.2.2.2⟩
          have HN : Hid (nms x y z x2 y2 z2 = chg x y z x2 y2 z2) := by show _ = _; unfold nms; rw [if_neg H1.out, if_neg H2.out, if_neg (by omega)]
          obtain ⟨L, hL⟩ : ∃ q, chg x y z x2 y2 z2 = q := ⟨_, rfl⟩
          rw [hL] at hp0 hl0 HSm CH HN
          have HSS : Hid (Small L) := HSm
          clear hL HSm
          unfold sv at CH
          go_wp2_with (first | (go_at_call 84; refine Calls.mono (CH.out _) ?_; rintro e w1 ⟨v1, rfl, o1, b1⟩; obtain ⟨g1, cap1, rfl, lt1, _, c1⟩ := row_open o1 hp0; have RW : Hid (w1.ownsRow w.heap.size 3 1 (.slice none 0 0) 0 []) := World.ownsRow_nil _ _ _ _; have B1 : Hid (Below w.heap.size w w1) := (HO.out.2.2.below).trans (b1.mono (HO.out.2.2.below).size); have C1' : Hid (∀ j, j < L.length → w1.cell? ⟨g1, 0 + j, none⟩ = some (.int .i64 (L[j]?.getD 0))) := c1; clear c1 b1 o1) | (at_builtin; refine wpList_append_own _ rfl _ _ 113 rfl w.heap.size 3 i0 (.int .i64 0) 1 8 Tryd.underlying113 hi hz0 hz1 hz2' rfl (by decide) _ _ _ rfl RW.out ⟨g1, 0, none⟩ L.length cap1 (L.map (Value.int .i64)) rfl (by rw [List.length_map, Nat.mul_one]) (row_get C1'.out) row_cell (by unfold maxLen; omega) (by omega) B1.out.size ?_; intro v2 w2 o2 q2 _; have O2 : w2.ownsRow w.heap.size 3 1 v2 L.length (L.map (Value.int .i64)) := (by have := o2; rw [Nat.zero_add, List.nil_append] at this; exact this); have B2 : Hid (Below w.heap.size w w2) := B1.out.grown q2 B1.out.size (fun k hk => (RW.out.lt k hk).1); obtain ⟨g2, cap2, rfl, lt2, _, c2⟩ := row_open O2 (by first | exact hp0 | simp); have C2' : Hid (∀ j, j < L.length → w2.cell? ⟨g2, 0 + j, none⟩ = some (.int .i64 (L[j]?.getD 0))) := c2; clear c2 o2 q2 O2) | (go_at_call 85; refine Calls.mono (ysequence_any L g2 0 cap2 _ (by first | exact hp0 | simp) lt2 C2'.out (HSS.out) (by first | (simp; omega) | omega)) ?_; rintro e w3 ⟨rfl, b3⟩))
          go_ret
          exact ⟨by rw [HV.out, HN.out]; first | rfl | (unfold cds; rw [if_neg (by intro e; rw [e] at hp0; simp at hp0)]; rfl), B2.out.trans (b3.mono B2.out.size)⟩

end Go.Proofs.YtlfffpoeioecjaaDoor

namespace Go.Proofs.YtlfffpoeioecjaaDoor
open Go.RowKit Go.Sort
set_option linter.unusedVariables false

/-- What one number does. -/
def apf (n f : Int) : Int := if n = 0 then 0 else if n = 39 then 0 else if 30 ≤ n ∧ n ≤ 37 then n - 29 else f
def apg (n g : Int) : Int := if n = 0 then 0 else if n = 49 then 0 else if 40 ≤ n ∧ n ≤ 47 then n - 39 else g
def apb (n b : Int) : Int := if n = 0 then 0 else if n = 1 then 1 else if n = 22 then 0 else b
theorem apf_no {n : Int} (f : Int) (h0 : n ≠ 0) (h1 : n ≠ 39) (h2 : ¬ (30 ≤ n ∧ n ≤ 37)) : apf n f = f := by unfold apf; rw [if_neg h0, if_neg h1, if_neg h2]
theorem apg_no {n : Int} (f : Int) (h0 : n ≠ 0) (h1 : n ≠ 49) (h2 : ¬ (40 ≤ n ∧ n ≤ 47)) : apg n f = f := by unfold apg; rw [if_neg h0, if_neg h1, if_neg h2]
theorem apb_no {n : Int} (f : Int) (h0 : n ≠ 0) (h1 : n ≠ 1) (h2 : n ≠ 22) : apb n f = f := by unfold apb; rw [if_neg h0, if_neg h1, if_neg h2]
theorem apf_in {n : Int} (f : Int) (h : 30 ≤ n ∧ n ≤ 37) : apf n f = n - 29 := by unfold apf; rw [if_neg (by omega), if_neg (by omega), if_pos h]
theorem apg_in {n : Int} (f : Int) (h : 40 ≤ n ∧ n ≤ 47) : apg n f = n - 39 := by unfold apg; rw [if_neg (by omega), if_neg (by omega), if_pos h]

set_option maxRecDepth 100000 in
set_option maxHeartbeats 4000000 in
theorem applied_any (f g b n : Int) (w : World) : Calls Tryd.prog 129 #[sv f g b, .int .i64 n] w fun e w' => e = .returned (sv (apf n f) (apg n g) (apb n b)) ∧ Gr w w' := by
  by_cases h0 : n = 0
  · subst h0
    unfold sv
    go_enter Tryd.func129, Tryd.ntmps129
    go_wp2
    refine bodyPost_ret (v := sv 0 0 0) (by simp [results, Tryd.results129, go_sem, sv]) rfl ?_
    exact ⟨by rfl, ((Gr.refl w).alloc _).alloc _⟩
  by_cases h1 : n = 1
  · subst h1
    unfold sv
    go_enter Tryd.func129, Tryd.ntmps129
    go_wp2
    refine bodyPost_ret (v := sv f g 1) (by simp [results, Tryd.results129, go_sem, sv]) rfl ?_
    exact ⟨by rfl, ((Gr.refl w).alloc _).alloc _⟩
  by_cases h2 : n = 22
  · subst h2
    unfold sv
    go_enter Tryd.func129, Tryd.ntmps129
    go_wp2
    refine bodyPost_ret (v := sv f g 0) (by simp [results, Tryd.results129, go_sem, sv]) rfl ?_
    exact ⟨by rfl, ((Gr.refl w).alloc _).alloc _⟩
  by_cases h3 : n = 39
  · subst h3
    unfold sv
    go_enter Tryd.func129, Tryd.ntmps129
    go_wp2
    refine bodyPost_ret (v := sv 0 g b) (by simp [results, Tryd.results129, go_sem, sv]) rfl ?_
    exact ⟨by rfl, ((Gr.refl w).alloc _).alloc _⟩
  by_cases h4 : n = 49
  · subst h4
    unfold sv
    go_enter Tryd.func129, Tryd.ntmps129
    go_wp2
    refine bodyPost_ret (v := sv f 0 b) (by simp [results, Tryd.results129, go_sem, sv]) rfl ?_
    exact ⟨by rfl, ((Gr.refl w).alloc _).alloc _⟩
  by_cases h5 : 30 ≤ n ∧ n ≤ 37
  · rw [apf_in f h5, apg_no g h0 h4 (by omega), apb_no b h0 h1 h2]
    have q1 : 29 < n := by omega
    have q2 : n ≤ 37 := by omega
    unfold sv
    go_enter Tryd.func129, Tryd.ntmps129
    go_wp2
    refine bodyPost_ret (v := sv (n - 29) g b) (by simp [results, Tryd.results129, go_sem, sv]) rfl ?_
    exact ⟨by rfl, ((Gr.refl w).alloc _).alloc _⟩
  by_cases h6 : 40 ≤ n ∧ n ≤ 47
  · rw [apf_no f h0 h3 h5, apg_in g h6, apb_no b h0 h1 h2]
    have q0 : ¬ (29 < n ∧ n ≤ 37) := by omega
    have q1 : 39 < n := by omega
    have q2 : n ≤ 47 := by omega
    have q3 : ¬ n ≤ 37 := by omega
    have q4 : 29 < n := by omega
    unfold sv
    go_enter Tryd.func129, Tryd.ntmps129
    go_wp2
    refine bodyPost_ret (v := sv f (n - 39) b) (by simp [results, Tryd.results129, go_sem, sv]) rfl ?_
    exact ⟨by rfl, ((Gr.refl w).alloc _).alloc _⟩
  rw [apf_no f h0 h3 h5, apg_no g h0 h4 h6, apb_no b h0 h1 h2]
  unfold sv
  go_enter Tryd.func129, Tryd.ntmps129
  go_wp2
  all_goals
    refine bodyPost_ret (v := sv f g b) (by simp [results, Tryd.results129, go_sem, sv]) rfl ?_
    exact ⟨by rfl, ((Gr.refl w).alloc _).alloc _⟩

end Go.Proofs.YtlfffpoeioecjaaDoor

namespace Go.Proofs.YtlfffpoeioecjaaDoor
open Go.RowKit Go.Sort
set_option linter.unusedVariables false

/-- What numbers do, one behind the other. -/
def apF (zs : List Int) (f : Int) : Int := zs.foldl (fun f n => apf n f) f
def apG (zs : List Int) (g : Int) : Int := zs.foldl (fun g n => apg n g) g
def apB (zs : List Int) (b : Int) : Int := zs.foldl (fun b n => apb n b) b
theorem apF_next (zs : List Int) (k : Nat) (f : Int) (h : k < zs.length) : apF (zs.take (k + 1)) f = apf (zs[k]?.getD 0) (apF (zs.take k) f) := by
  unfold apF; rw [List.take_succ_eq_append_getElem h, List.foldl_append]; simp [h]
theorem apG_next (zs : List Int) (k : Nat) (f : Int) (h : k < zs.length) : apG (zs.take (k + 1)) f = apg (zs[k]?.getD 0) (apG (zs.take k) f) := by
  unfold apG; rw [List.take_succ_eq_append_getElem h, List.foldl_append]; simp [h]
theorem apB_next (zs : List Int) (k : Nat) (f : Int) (h : k < zs.length) : apB (zs.take (k + 1)) f = apb (zs[k]?.getD 0) (apB (zs.take k) f) := by
  unfold apB; rw [List.take_succ_eq_append_getElem h, List.foldl_append]; simp [h]
/-- What Apply answers. -/
def aplF (zs : List Int) (f : Int) : Int := if zs = [] then 0 else apF zs (kn f)
def aplG (zs : List Int) (f : Int) : Int := if zs = [] then 0 else apG zs (kn f)
def aplB (zs : List Int) (f : Int) : Int := if zs = [] then 0 else apB zs (bo f)
set_option maxRecDepth 100000 in
set_option maxHeartbeats 4000000 in
theorem apply_none (f g b : Int) (a : Option Addr) (cap : Nat) (w : World) : Calls Tryd.prog 113 #[sv f g b, .slice a 0 cap] w fun e w' => e = .returned (sv 0 0 0) ∧ Gr w w' := by
  have CC : Hid (∀ f g b w, Calls Tryd.prog 83 #[sv f g b] w fun e w' => e = .returned (sv (kn f) (kn g) (bo b)) ∧ Gr w w') := counted_any
  unfold sv at CC ⊢
  go_enter Tryd.func113, Tryd.ntmps113
  go_wp2
  refine bodyPost_ret (v := sv 0 0 0) (by simp [results, Tryd.results113, go_sem, sv]) rfl ?_
  exact ⟨rfl, ((Gr.refl w).alloc _).alloc _⟩

set_option maxRecDepth 100000 in
set_option maxHeartbeats 4000000 in
theorem apply_some (f g b : Int) (zs : List Int) (B off cap : Nat) (w : World) (hp : 0 < zs.length) (hB : B < w.heap.size) (hc : ∀ j, j < zs.length → w.cell? ⟨B, off + j, none⟩ = some (.int .i64 (zs[j]?.getD 0))) (hlen : zs.length ≤ 17592186044416) :
    Calls Tryd.prog 113 #[sv f g b, .slice (some ⟨B, off, none⟩) zs.length cap] w fun e w' => e = .returned (sv (apF zs (kn f)) (apG zs (kn g)) (apB zs (bo b))) ∧ Gr w w' := by
  have HC : Hid (∀ j, j < zs.length → w.cell? ⟨B, off + j, none⟩ = some (.int .i64 (zs[j]?.getD 0))) := hc
  clear hc
  have CC : Hid (∀ f g b w, Calls Tryd.prog 83 #[sv f g b] w fun e w' => e = .returned (sv (kn f) (kn g) (bo b)) ∧ Gr w w') := counted_any
  have AA : Hid (∀ f g b n w, Calls Tryd.prog 129 #[sv f g b, .int .i64 n] w fun e w' => e = .returned (sv (apf n f) (apg n g) (apb n b)) ∧ Gr w w') := applied_any
  obtain ⟨x, hx⟩ : ∃ z, kn f = z := ⟨_, rfl⟩
  obtain ⟨y, hy⟩ : ∃ z, kn g = z := ⟨_, rfl⟩
  obtain ⟨z, hz⟩ : ∃ z, bo b = z := ⟨_, rfl⟩
  have C1 : Hid (∀ w, _) := CC.out f g b
  rw [hx, hy, hz] at C1 ⊢
  clear CC hx hy hz
  unfold sv at C1 AA ⊢
  have hp' : ¬ ((zs.length : Int) = 0) := by omega
  have hpb : ((zs.length : Int) == 0) = false := by simpa using hp'
  have hpd : decide ((zs.length : Int) = 0) = false := by simpa using hp'
  go_enter Tryd.func113, Tryd.ntmps113
  go_wp2_with fail
  obtain ⟨S, hS⟩ : ∃ x, w.heap.size = x := ⟨_, rfl⟩
  obtain ⟨W0, hW0⟩ : ∃ x, (w.alloc (.cells #[.int .i64 f, .int .i64 g, .int .i64 b] 32)).alloc (.cells #[.int .i64 0, .int .i64 0, .int .i64 0] 32) = x := ⟨_, rfl⟩
  have G0 : Hid (Gr w W0) := by rw [← hW0]; exact ((Gr.refl w).alloc _).alloc _
  have RA : Hid (R3 32 W0 S f g b) := by rw [← hW0, ← hS]; exact (R3.new w _ _ _ _).gr ((Gr.refl _).alloc _)
  have RC : Hid (R3 32 W0 (S + 1) 0 0 0) := by
    have := R3.new (w.alloc (.cells #[.int .i64 f, .int .i64 g, .int .i64 b] 32)) 0 0 0 32
    simp only [World.size_alloc, hS] at this
    rw [← hW0]; exact this
  rw [hW0, hS]
  clear hW0
  have HS : Hid (w.heap.size = S) := hS
  have HB : Hid (B < w.heap.size) := hB
  clear hS hB
  refine (C1.out _).mono ?_
  rintro e w1 ⟨rfl, g1⟩
  have RA1 := RA.out.gr g1
  have R2 : Hid (R3 32 _ S x y z) := RA1.set x y z
  have RC2 : Hid (R3 32 _ (S + 1) 0 0 0) := (RC.out.gr g1).others (k := S) (by omega) (.int .i64 x) (.int .i64 y) (.int .i64 z)
  have G2 : Hid (Gr w _) := (G0.out.trans g1).set3 (k := S) (by rw [HS.out]; omega) (.int .i64 x) (.int .i64 y) (.int .i64 z)
  have a0 := RA1.c0
  have a1 := RA1.c1
  have a2 := RA1.c2
  have f0 := RA1.fz 0
  have f1 := RA1.fz 1
  have f2 := RA1.fz 2
  clear RA1 g1
  go_wp2_with fail
  obtain ⟨W2, hW2⟩ : ∃ q, (((w1.setCell ⟨S, 0, none⟩ (.int .i64 x)).setCell ⟨S, 1, none⟩ (.int .i64 y)).setCell ⟨S, 2, none⟩ (.int .i64 z)) = q := ⟨_, rfl⟩
  rw [hW2] at R2 RC2 G2 ⊢
  clear hW2 a0 a1 a2 f0 f1 f2 RA RC G0
  go_loopw [15] (fun i wr => ∃ k : Nat, k ≤ zs.length ∧ i = .int .i64 k ∧ Hid (R3 32 wr S (apF (zs.take k) x) (apG (zs.take k) y) (apB (zs.take k) z) ∧ R3 32 wr (S + 1) 0 0 0 ∧ Gr w wr)) (fun i _ => zs.length - (intOf i).toNat)
  case atStart => exact ⟨0, Nat.zero_le _, rfl, R2.out, RC2.out, G2.out⟩
  case round =>
    obtain ⟨k, hk, rfl, HR⟩ := hrel
    by_cases hlt : k < zs.length
    · obtain ⟨n, hn⟩ : ∃ q, zs[k]?.getD 0 = q := ⟨_, rfl⟩
      have hcx : wr.cell? ⟨B, off + k, none⟩ = some (.int .i64 n) := by rw [← hn]; exact (HR.out.2.2.below.cell (p := ⟨B, off + k, none⟩) HB.out).trans (HC.out k hlt)
      have N1 : Hid (apF (zs.take (k + 1)) x = apf n (apF (zs.take k) x)) := by rw [← hn]; exact apF_next zs k x hlt
      have N2 : Hid (apG (zs.take (k + 1)) y = apg n (apG (zs.take k) y)) := by rw [← hn]; exact apG_next zs k y hlt
      have N3 : Hid (apB (zs.take (k + 1)) z = apb n (apB (zs.take k) z)) := by rw [← hn]; exact apB_next zs k z hlt
      obtain ⟨p, hp1⟩ : ∃ q, apF (zs.take k) x = q := ⟨_, rfl⟩
      obtain ⟨q, hq1⟩ : ∃ q, apG (zs.take k) y = q := ⟨_, rfl⟩
      obtain ⟨r, hr1⟩ : ∃ q, apB (zs.take k) z = q := ⟨_, rfl⟩
      rw [hp1, hq1, hr1] at HR
      rw [hp1] at N1
      rw [hq1] at N2
      rw [hr1] at N3
      clear hn hp1 hq1 hr1
      have A1 : Hid (∀ w, _) := AA.out p q r n
      obtain ⟨p', hp2⟩ : ∃ q, apf n p = q := ⟨_, rfl⟩
      obtain ⟨q', hq2⟩ : ∃ z, apg n q = z := ⟨_, rfl⟩
      obtain ⟨r', hr2⟩ : ∃ q, apb n r = q := ⟨_, rfl⟩
      rw [hp2, hq2, hr2] at A1
      rw [hp2] at N1
      rw [hq2] at N2
      rw [hr2] at N3
      clear hp2 hq2 hr2
      have hlt' : (k : Int) < (zs.length : Int) := by omega
      have b0 := HR.out.1.c0
      have b1 := HR.out.1.c1
      have b2 := HR.out.1.c2
      have bb : B < wr.heap.size := Nat.lt_of_lt_of_le HB.out HR.out.2.2.size
      go_wp2_with (go_at_call 129; refine Calls.mono (A1.out _) ?_; rintro e w5 ⟨rfl, g5⟩; have HG5 : Hid (Gr wr w5) := (by first | exact g5 | exact ((Gr.refl wr).drew).trans g5); have R5 : Hid (R3 32 w5 S p q r) := HR.out.1.gr HG5.out; clear g5; have d0 := R5.out.c0; have d1 := R5.out.c1; have d2 := R5.out.c2; have e0 := R5.out.fz 0; have e1 := R5.out.fz 1; have e2 := R5.out.fz 2; have hcy : w5.cell? ⟨B, off + k, none⟩ = some (.int .i64 n) := (HG5.out.below.cell (p := ⟨B, off + k, none⟩) bb).trans hcx)
      all_goals
        go_roundw
        case rel => exact ⟨k + 1, by omega, by go_num, by show _ ∧ _ ∧ _; rw [N1.out, N2.out, N3.out]; exact ⟨R5.out.set p' q' r', (HR.out.2.1.gr HG5.out).others (by omega) _ _ _, (HR.out.2.2.trans HG5.out).set3 (by rw [HS.out]; omega) _ _ _⟩⟩
        case measure => simp [intOf]; omega
    · have hlt' : ¬ (k : Int) < (zs.length : Int) := by omega
      have hkk : k = zs.length := by omega
      have HK : Hid (R3 32 wr S (apF zs x) (apG zs y) (apB zs z)) := by have := HR.out.1; rw [hkk, List.take_length] at this; exact this
      obtain ⟨p, hp1⟩ : ∃ q, apF zs x = q := ⟨_, rfl⟩
      obtain ⟨q, hq1⟩ : ∃ q, apG zs y = q := ⟨_, rfl⟩
      obtain ⟨r, hr1⟩ : ∃ q, apB zs z = q := ⟨_, rfl⟩
      rw [hp1, hq1, hr1] at HK
      have HP : Hid (apF zs x = p) := hp1
      have HQ : Hid (apG zs y = q) := hq1
      have HRR : Hid (apB zs z = r) := hr1
      clear hp1 hq1 hr1
      have b0 := HK.out.c0
      have b1 := HK.out.c1
      have b2 := HK.out.c2
      have c0 := HR.out.2.1.c0
      have c1 := HR.out.2.1.c1
      have c2 := HR.out.2.1.c2
      have k0 := HR.out.2.1.fz 0
      have k1 := HR.out.2.1.fz 1
      have k2 := HR.out.2.1.fz 2
      go_wp2
      refine bodyPost_ret (results_cell_row rfl _ _ (S + 1) _ _ _ _ rfl (HR.out.2.1.set _ _ _) Tryd.underlying32 rfl (by kernel_rfl)) rfl ?_
      exact ⟨by rw [HP.out, HQ.out, HRR.out], HR.out.2.2.set3 (by rw [HS.out]; omega) _ _ _⟩

theorem apply_any (f g b : Int) (zs : List Int) (v : Value) (w : World) (h : Ints w v zs) (hlen : zs.length ≤ 17592186044416) : Calls Tryd.prog 113 #[sv f g b, v] w fun e w' => e = .returned (sv (aplF zs f) (aplG zs g) (aplB zs b)) ∧ Gr w w' := by
  obtain ⟨a, cap, rfl, hh⟩ := h
  by_cases hz : zs = []
  · subst hz; exact apply_none f g b a cap w
  · obtain ⟨B, off, rfl, hb, hc⟩ := hh.resolve_left hz
    unfold aplF aplG aplB
    rw [if_neg hz, if_neg hz, if_neg hz]
    exact apply_some f g b zs B off cap w (List.length_pos_iff.2 hz) hb hc hlen

end Go.Proofs.YtlfffpoeioecjaaDoor
