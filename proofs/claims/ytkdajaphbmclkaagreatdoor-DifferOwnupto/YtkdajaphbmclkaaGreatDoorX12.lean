/-
  strconv.Itoa of any number, by the library's own contract.
-/
import Derived.Test.YtkdajaphbmclkaaGreatDoorYSeq
import Derived.Test.YtkdajaphbmclkaaGreatDoorX04
namespace Go.Proofs.YtkdajaphbmclkaaGreatDoor
open Go.Shelf Go.RowKit
set_option linter.unusedVariables false

theorem laysM171 : Go.Proofs.LaysM.n171 Tryz.prog yRen := { lays171 with
  i0 := by kernel_rfl
  i2 := by kernel_rfl
  i3 := by kernel_rfl
  i4 := by kernel_rfl
  i5 := by kernel_rfl
  i9 := by kernel_rfl
  i20 := by kernel_rfl
  i37 := by kernel_rfl
  i46 := by kernel_rfl
  i51 := by kernel_rfl
  i53 := by kernel_rfl
  i171 := by kernel_rfl
  i173 := by kernel_rfl
  i212 := by kernel_rfl
  i232 := by kernel_rfl
  i233 := by kernel_rfl
  m17 := by kernel_rfl
  m18 := by kernel_rfl
  m19 := by kernel_rfl }
/-- The table of tens, by its number. -/
def TensAt (w : World) : Prop := ∃ nm : String, Tryz.prog.globalNamed nm = some 3 ∧ Lib.TabIs Tryz.prog w nm .u64 Lib.pow10Tab
theorem tab_name {P : Program} {w : World} {n n' : String} {k : IntKind} {zs : List Int} {g : Nat} (h1 : P.globalNamed n = some g) (h2 : P.globalNamed n' = some g) (h : Lib.TabIs P w n k zs) : Lib.TabIs P w n' k zs := by
  unfold Lib.TabIs World.var? at *
  rw [h1] at h
  rw [h2]
  exact h
theorem TensAt.below {w w' : World} {B : Nat} (h : TensAt w) (hb : Below B w w') (hg : 3 < B) : TensAt w' := by
  obtain ⟨nm, h1, h2⟩ := h
  refine ⟨nm, h1, ?_⟩
  unfold Lib.TabIs World.var? at *
  rw [h1] at h2 ⊢
  simp only [Option.bind_some] at h2 ⊢
  have : w'.heap[3]? = w.heap[3]? := hb.block _ hg
  rw [this]
  exact h2
theorem itoa_any (n : Nat) (hn : n ≤ 1000000) (w : World) (ht : TensAt w) :
    Calls Tryz.prog 55 #[.int .i64 n] w fun e w' => e = .returned (.string ⟨(Lib.decDigits n).toArray⟩) ∧ Gr w w' := by
  obtain ⟨nm, h1, h2⟩ := ht
  refine (Any.strconv_Itoa laysM171 n (by omega) (by omega) w (tab_name h1 (by kernel_rfl) h2)).mono fun e w' ⟨h, k, os, hw⟩ => ?_
  refine ⟨?_, ?_⟩
  · rw [h]
    have : Lib.itoa (n : Int) = Lib.decDigits n := by
      unfold Lib.itoa
      first
        | rw [if_neg (by omega)]; rfl
        | simp
    rw [this]
  · exact ⟨k, os, hw⟩

end Go.Proofs.YtkdajaphbmclkaaGreatDoor

namespace Go.Proofs.YtkdajaphbmclkaaGreatDoor
open Go.RowKit Go.Sort
set_option linter.unusedVariables false

theorem chg_pos {x y z x2 y2 z2 : Int} (h : ¬ (x = x2 ∧ y = y2 ∧ z = z2)) (hz : ¬ z2 < z) : 0 < (chg x y z x2 y2 z2).length := by
  unfold chg cBold cFg cBg
  by_cases h1 : z < z2
  · rw [if_pos h1]; simp
  · rw [if_neg h1]
    by_cases h2 : x2 = x
    · have h3 : ¬ y2 = y := fun e => h ⟨h2.symm, e.symm, by omega⟩
      rw [if_neg h3]; simp
    · rw [if_neg h2]; simp
/-- A row of one's own, opened. -/
theorem row_open {w : World} {B : Nat} {v : Value} {ns : List Int} (h : w.ownsRow B 3 1 v ns.length (ns.map (Value.int .i64))) (hp : 0 < ns.length) :
    ∃ g cap, v = .slice (some ⟨g, 0, none⟩) ns.length cap ∧ g < w.heap.size ∧ B ≤ g ∧ ∀ j, j < ns.length → w.cell? ⟨g, 0 + j, none⟩ = some (.int .i64 (ns[j]?.getD 0)) := by
  rcases h.2 with ⟨_, h2⟩ | ⟨g, cap, cur, h1, h2, h3, _⟩
  · omega
  · refine ⟨g, cap, h1, (Array.getElem?_eq_some_iff.1 h3).1, h2, fun j hj => ?_⟩
    have := h.cells (g := g) (by rw [h1]; rfl) j (.int .i64 (ns[j]?.getD 0)) (by simp [hj])
    have e : (⟨g, 0, none⟩ : Addr).add j = ⟨g, 0 + j, none⟩ := by unfold Addr.add; split <;> simp_all
    rwa [e] at this
theorem row_get {g : Nat} {w : World} {ns : List Int} (hc : ∀ j, j < ns.length → w.cell? ⟨g, 0 + j, none⟩ = some (.int .i64 (ns[j]?.getD 0))) (j : Nat) (u : Value) (hj : (ns.map (Value.int .i64))[j]? = some u) : w.cell? ((⟨g, 0, none⟩ : Addr).add j) = some u := by
  have e : (⟨g, 0, none⟩ : Addr).add j = ⟨g, 0 + j, none⟩ := by unfold Addr.add; split <;> simp_all
  rw [List.getElem?_map] at hj
  have hjl : j < ns.length := by
    rcases Nat.lt_or_ge j ns.length with h | h
    · exact h
    · rw [List.getElem?_eq_none h] at hj; cases hj
  rw [e, hc j hjl]
  rw [List.getElem?_eq_getElem hjl] at hj ⊢
  exact hj
theorem row_cell {ns : List Int} (u : Value) (hu : u ∈ ns.map (Value.int .i64)) : u.oneCell' = true := by obtain ⟨z, _, rfl⟩ := List.mem_map.1 hu; rfl

theorem one_row {w : World} {base g : Nat} {x : Int} (h : w.heap[g]? = some (.cells #[.int .i64 x] 3 (0, 0))) (hb : base ≤ g) : w.ownsRow base 3 1 (.slice (some ⟨g, 0, none⟩) 1 1) 1 [.int .i64 x] :=
  ⟨rfl, .inr ⟨g, 1, #[.int .i64 x], rfl, hb, h, Nat.le_refl _, by decide, rfl, rfl⟩⟩
theorem zero_small : Small [0] := by intro n hn; simp at hn; omega
theorem cons_small {L : List Int} (h : Small L) : Small (0 :: L) := by
  intro n hn
  rcases List.mem_cons.1 hn with rfl | h1
  · omega
  · exact h n h1

theorem zero_seq (w : World) : Calls Tryz.prog 73 #[.slice (some ⟨w.heap.size, 0, none⟩) 1 1] (w.alloc (.cells #[.int .i64 0] 3)) fun e w' => e = .returned (.string ⟨(sq [0]).toArray⟩) ∧ Below (w.alloc (.cells #[.int .i64 0] 3)).heap.size (w.alloc (.cells #[.int .i64 0] 3)) w' :=
  ysequence_any [0] w.heap.size 0 1 _ (by decide) (by rw [World.size_alloc]; omega) (fun j hj => by
    obtain rfl : j = 0 := by simp at hj; omega
    exact one_new w (.int .i64 0) 3 0 _ rfl) zero_small (by decide)

set_option maxRecDepth 100000 in
set_option maxHeartbeats 8000000 in
theorem codes_any (f g b f2 g2 b2 : Int) (w : World) : Calls Tryz.prog 56 #[sv f g b, sv f2 g2 b2] w fun e w' => e = .returned (.string ⟨(cds (nms (kn f) (kn g) (bo b) (kn f2) (kn g2) (bo b2))).toArray⟩) ∧ Below w.heap.size w w' := by
  have CC : Hid (∀ f g b w, Calls Tryz.prog 71 #[sv f g b] w fun e w' => e = .returned (sv (kn f) (kn g) (bo b)) ∧ Gr w w') := counted_any
  unfold sv at CC ⊢
  go_enter Tryz.func56, Tryz.ntmps56
  go_wp2_with fail
  obtain ⟨S, hS⟩ : ∃ x, w.heap.size = x := ⟨_, rfl⟩
  obtain ⟨W0, hW0⟩ : ∃ x, (w.alloc (.cells #[.int .i64 f, .int .i64 g, .int .i64 b] 50)).alloc (.cells #[.int .i64 f2, .int .i64 g2, .int .i64 b2] 50) = x := ⟨_, rfl⟩
  have G0 : Hid (Gr w W0) := by rw [← hW0]; exact ((Gr.refl w).alloc _).alloc _
  have RA : Hid (R3 50 W0 S f g b) := by rw [← hW0, ← hS]; exact (R3.new w _ _ _ _).gr ((Gr.refl _).alloc _)
  have RB : Hid (R3 50 W0 (S + 1) f2 g2 b2) := by
    have := R3.new (w.alloc (.cells #[.int .i64 f, .int .i64 g, .int .i64 b] 50)) f2 g2 b2 50
    simp only [World.size_alloc, hS] at this
    rw [← hW0]; exact this
  rw [hW0, hS]
  clear hW0
  have HS : Hid (w.heap.size = S) := hS
  clear hS
  have a0 := RA.out.c0
  have a1 := RA.out.c1
  have a2 := RA.out.c2
  have b0 := RB.out.c0
  have b1 := RB.out.c1
  have b2' := RB.out.c2
  obtain ⟨x, hx⟩ : ∃ z, kn f = z := ⟨_, rfl⟩
  obtain ⟨y, hy⟩ : ∃ z, kn g = z := ⟨_, rfl⟩
  obtain ⟨z, hz⟩ : ∃ z, bo b = z := ⟨_, rfl⟩
  obtain ⟨x2, hx2⟩ : ∃ z, kn f2 = z := ⟨_, rfl⟩
  obtain ⟨y2, hy2⟩ : ∃ z, kn g2 = z := ⟨_, rfl⟩
  obtain ⟨z2, hz2⟩ : ∃ z, bo b2 = z := ⟨_, rfl⟩
  have HV : Hid (nms (kn f) (kn g) (bo b) (kn f2) (kn g2) (bo b2) = nms x y z x2 y2 z2) := by show _ = _; rw [hx, hy, hz, hx2, hy2, hz2]
  have bz := bo_bd b
  have bz2 := bo_bd b2
  have bx2 := kn_bd f2
  have by2 := kn_bd g2
  rw [hx2] at bx2
  rw [hy2] at by2
  rw [hz] at bz
  rw [hz2] at bz2
  have C1 := CC.out f g b
  have C2 := CC.out f2 g2 b2
  rw [hx, hy, hz] at C1
  rw [hx2, hy2, hz2] at C2
  go_cut [2, 3] from 6 to 9 (fun u v wx => u = .pointer (some ⟨S, 0, none⟩) ∧ v = .pointer (some ⟨S + 1, 0, none⟩) ∧ Hid (R3 50 wx S x y z ∧ R3 50 wx (S + 1) x2 y2 z2 ∧ Gr w wx))
  case first =>
    go_region_with (go_at_call 71; (first | (with_reducible refine Calls.mono (C1 _) ?_) | (with_reducible refine Calls.mono (C2 _) ?_)); rintro e wn ⟨rfl, hgn⟩; have HGn : Hid (Gr W0 wn) := (by first | exact ((Gr.refl W0).drew).trans hgn | exact Gr.trans (Hid.out (by assumption)) hgn); have HAn : Hid (R3 50 wn S f g b) := RA.out.gr HGn.out; have HBn : Hid (R3 50 wn (S + 1) f2 g2 b2) := RB.out.gr HGn.out; clear hgn; have m0 := HAn.out.c0; have m1 := HAn.out.c1; have m2 := HAn.out.c2; have n0 := HBn.out.c0; have n1 := HBn.out.c1; have n2 := HBn.out.c2; have f0 := HAn.out.fz 0; have f1 := HAn.out.fz 1; have f2' := HAn.out.fz 2; have g0 := HBn.out.fz 0; have g1 := HBn.out.fz 1; have g2' := HBn.out.fz 2)
    all_goals
      have HO : Hid (R3 50 ((((((wn.setCell ⟨S, 0, none⟩ (.int .i64 x)).setCell ⟨S, 1, none⟩ (.int .i64 y)).setCell ⟨S, 2, none⟩ (.int .i64 z)).setCell ⟨S + 1, 0, none⟩ (.int .i64 x2)).setCell ⟨S + 1, 1, none⟩ (.int .i64 y2)).setCell ⟨S + 1, 2, none⟩ (.int .i64 z2)) S x y z ∧ R3 50 ((((((wn.setCell ⟨S, 0, none⟩ (.int .i64 x)).setCell ⟨S, 1, none⟩ (.int .i64 y)).setCell ⟨S, 2, none⟩ (.int .i64 z)).setCell ⟨S + 1, 0, none⟩ (.int .i64 x2)).setCell ⟨S + 1, 1, none⟩ (.int .i64 y2)).setCell ⟨S + 1, 2, none⟩ (.int .i64 z2)) (S + 1) x2 y2 z2 ∧ Gr w ((((((wn.setCell ⟨S, 0, none⟩ (.int .i64 x)).setCell ⟨S, 1, none⟩ (.int .i64 y)).setCell ⟨S, 2, none⟩ (.int .i64 z)).setCell ⟨S + 1, 0, none⟩ (.int .i64 x2)).setCell ⟨S + 1, 1, none⟩ (.int .i64 y2)).setCell ⟨S + 1, 2, none⟩ (.int .i64 z2))) :=
        ⟨(HAn.out.set x y z).others (by omega) _ _ _, (HBn.out.others (by omega) _ _ _).set x2 y2 z2, ((G0.out.trans HGn.out).set3 (by rw [HS.out]; omega) _ _ _).set3 (by rw [HS.out]; omega) _ _ _⟩
      clear m0 m1 m2 n0 n1 n2 f0 f1 f2' g0 g1 g2' a0 a1 a2 b0 b1 b2' HAn HBn
      go_wp2_with fail
      go_meet
      exact ⟨rfl, rfl, HO.out⟩
  case rest =>
    obtain ⟨rfl, rfl, HO⟩ := hcut
    clear a0 a1 a2 b0 b1 b2' RA RB
    have a0 := HO.out.1.c0
    have a1 := HO.out.1.c1
    have a2 := HO.out.1.c2
    have b0 := HO.out.2.1.c0
    have b1 := HO.out.2.1.c1
    have b2' := HO.out.2.1.c2
    have al := HO.out.1.lt
    have bl := HO.out.2.1.lt
    have HXY : Hid (0 ≤ x2 ∧ x2 ≤ 8 ∧ 0 ≤ y2 ∧ y2 ≤ 8) := ⟨bx2.1, bx2.2, by2.1, by2.2⟩
    obtain ⟨i0, hi, hz0, hz1, hz2'⟩ := info_parts yinfo3
    clear CC C1 C2 hx hy hz hx2 hy2 hz2 bx2 by2
    have g0 := HO.out.1.fz 0
    have g1' := HO.out.1.fz 1
    have g2' := HO.out.1.fz 2
    by_cases h1 : x = x2 ∧ y = y2 ∧ z = z2
    · have HN : Hid (nms x y z x2 y2 z2 = []) := if_pos h1
      obtain ⟨rfl, rfl, rfl⟩ := h1
      go_wp2
      go_ret
      exact ⟨by rw [HV.out, HN.out]; rfl, HO.out.2.2.below⟩
    have H1 : Hid (¬ (x = x2 ∧ y = y2 ∧ z = z2)) := h1
    have c1 : ((x == x2) = false) ∨ ((x == x2) = true ∧ (y == y2) = false) ∨ ((x == x2) = true ∧ (y == y2) = true ∧ (z == z2) = false) := by
      by_cases e1 : x = x2
      · by_cases e2 : y = y2
        · refine .inr (.inr ⟨by simpa using e1, by simpa using e2, by simpa using fun e3 => H1.out ⟨e1, e2, e3⟩⟩)
        · exact .inr (.inl ⟨by simpa using e1, by simpa using e2⟩)
      · exact .inl (by simpa using e1)
    clear h1
    rcases c1 with ta0 | ⟨ta0, ta1⟩ | ⟨ta0, ta1, ta2⟩
    all_goals
      by_cases h2 : x2 = 0 ∧ y2 = 0 ∧ z2 = 0
      · have H2 : Hid (x2 = 0 ∧ y2 = 0 ∧ z2 = 0) := h2
        have tp0 : (x2 == 0) = true := by simpa using h2.1
        have tp1 : (y2 == 0) = true := by simpa using h2.2.1
        have tp2 : (z2 == 0) = true := by simpa using h2.2.2
        clear h2
        have HN : Hid (nms x y z x2 y2 z2 = [0]) := by show _ = _; unfold nms; rw [if_neg H1.out, if_pos H2.out]
        go_wp2_with (go_at_call 73; refine Calls.mono (zero_seq _) ?_; rintro e w3 ⟨rfl, b3⟩)
        go_ret
        exact ⟨by rw [HV.out, HN.out]; rfl, (HO.out.2.2.alloc _).below.trans (b3.mono (HO.out.2.2.alloc _).size)⟩
      have H2 : Hid (¬ (x2 = 0 ∧ y2 = 0 ∧ z2 = 0)) := h2
      have c2 : ((x2 == 0) = false) ∨ ((x2 == 0) = true ∧ (y2 == 0) = false) ∨ ((x2 == 0) = true ∧ (y2 == 0) = true ∧ (z2 == 0) = false) := by
        by_cases e1 : x2 = 0
        · by_cases e2 : y2 = 0
          · refine .inr (.inr ⟨by simpa using e1, by simpa using e2, by simpa using fun e3 => H2.out ⟨e1, e2, e3⟩⟩)
          · exact .inr (.inl ⟨by simpa using e1, by simpa using e2⟩)
        · exact .inl (by simpa using e1)
      clear h2
      rcases c2 with tb0 | ⟨tb0, tb1⟩ | ⟨tb0, tb1, tb2⟩
      all_goals
        by_cases h3 : z2 < z
        · have hp0 : 0 < (chg 0 0 0 x2 y2 z2).length := chg_pos (fun e => H2.out ⟨e.1.symm, e.2.1.symm, e.2.2.symm⟩) (by have := bz2; omega)
          have hl0 := chg_len 0 0 0 x2 y2 z2
          have HSm : Small (chg 0 0 0 x2 y2 z2) := chg_small ⟨HXY.out.1, HXY.out.2.1⟩ ⟨HXY.out.2.2.1, HXY.out.2.2.2⟩
          have CH : Hid (∀ w, Calls Tryz.prog 72 #[sv 0 0 0, sv x2 y2 z2] w fun e w' => ∃ v, e = .returned v ∧ w'.ownsRow w.heap.size 3 1 v (chg 0 0 0 x2 y2 z2).length ((chg 0 0 0 x2 y2 z2).map (Value.int .i64)) ∧ Below w.heap.size w w') := fun w => changes_any _ _ _ _ _ _ w ⟨HXY.out.1, HXY.out.2.1⟩ ⟨HXY.out.2.2.1, HXY.out.2.2.2⟩
          have HN : Hid (nms x y z x2 y2 z2 = 0 :: chg 0 0 0 x2 y2 z2) := by show _ = _; unfold nms; rw [if_neg H1.out, if_neg H2.out, if_pos h3]
          obtain ⟨L, hL⟩ : ∃ q, chg 0 0 0 x2 y2 z2 = q := ⟨_, rfl⟩
          rw [hL] at hp0 hl0 HSm CH HN
          have HSS : Hid (Small L) := HSm
          clear hL HSm
          unfold sv at CH
          have GX : Hid (Gr w ((((wc.setCell ⟨S, 0, none⟩ (.int .i64 0)).setCell ⟨S, 1, none⟩ (.int .i64 0)).setCell ⟨S, 2, none⟩ (.int .i64 0)).alloc (.cells #[.int .i64 0] 3))) := (HO.out.2.2.set3 (by rw [HS.out]; omega) _ _ _).alloc _
          have BX : Hid (((((wc.setCell ⟨S, 0, none⟩ (.int .i64 0)).setCell ⟨S, 1, none⟩ (.int .i64 0)).setCell ⟨S, 2, none⟩ (.int .i64 0)).alloc (.cells #[.int .i64 0] 3)).heap[wc.heap.size]? = some (.cells #[.int .i64 0] 3 (0, 0))) := by
            have := heap_alloc_new (((wc.setCell ⟨S, 0, none⟩ (.int .i64 0)).setCell ⟨S, 1, none⟩ (.int .i64 0)).setCell ⟨S, 2, none⟩ (.int .i64 0)) (.cells #[.int .i64 0] 3)
            rw [show (((wc.setCell ⟨S, 0, none⟩ (.int .i64 0)).setCell ⟨S, 1, none⟩ (.int .i64 0)).setCell ⟨S, 2, none⟩ (.int .i64 0)).heap.size = wc.heap.size by simp [World.setCell]] at this
            exact this
          go_wp2_with (first | (go_at_call 72; refine Calls.mono (CH.out _) ?_; rintro e w1 ⟨v1, rfl, o1, b1⟩; obtain ⟨g1, cap1, rfl, lt1, _, c1⟩ := row_open o1 hp0; have RW : Hid (w1.ownsRow w.heap.size 3 1 (.slice (some ⟨wc.heap.size, 0, none⟩) 1 1) 1 [.int .i64 0]) := (one_row ((b1.block _ (Array.getElem?_eq_some_iff.1 BX.out).1).trans BX.out) (by have := HO.out.2.2.size; omega) : w1.ownsRow w.heap.size 3 1 (.slice (some ⟨wc.heap.size, 0, none⟩) 1 1) 1 [.int .i64 0]); have B1 : Hid (Below w.heap.size w w1) := (GX.out.below).trans (b1.mono (GX.out.below).size); have C1' : Hid (∀ j, j < L.length → w1.cell? ⟨g1, 0 + j, none⟩ = some (.int .i64 (L[j]?.getD 0))) := c1; clear c1 b1 o1) | (at_builtin; refine wpList_append_own _ rfl _ _ 76 rfl w.heap.size 3 i0 (.int .i64 0) 1 8 Tryz.underlying76 hi hz0 hz1 hz2' rfl (by decide) _ _ _ rfl RW.out ⟨g1, 0, none⟩ L.length cap1 (L.map (Value.int .i64)) rfl (by rw [List.length_map, Nat.mul_one]) (row_get C1'.out) row_cell (by unfold maxLen; omega) (by omega) B1.out.size ?_; intro v2 w2 o2 q2 _; have O2 : w2.ownsRow w.heap.size 3 1 v2 (0 :: L).length ((0 :: L).map (Value.int .i64)) := (by have := o2; rw [Nat.add_comm] at this; exact this); have B2 : Hid (Below w.heap.size w w2) := B1.out.grown q2 B1.out.size (fun k hk => (RW.out.lt k hk).1); obtain ⟨g2, cap2, rfl, lt2, _, c2⟩ := row_open O2 (by first | exact hp0 | simp); have C2' : Hid (∀ j, j < (0 :: L).length → w2.cell? ⟨g2, 0 + j, none⟩ = some (.int .i64 ((0 :: L)[j]?.getD 0))) := c2; clear c2 o2 q2 O2) | (go_at_call 73; refine Calls.mono (ysequence_any (0 :: L) g2 0 cap2 _ (by first | exact hp0 | simp) lt2 C2'.out (cons_small HSS.out) (by first | (simp; omega) | omega)) ?_; rintro e w3 ⟨rfl, b3⟩))
          go_ret
          exact ⟨by rw [HV.out, HN.out]; first | rfl | (unfold cds; rw [if_neg (by intro e; rw [e] at hp0; simp at hp0)]; rfl), B2.out.trans (b3.mono B2.out.size)⟩
        · replace h3 : z ≤ z2 := by omega
          have hp0 : 0 < (chg x y z x2 y2 z2).length := chg_pos H1.out (by omega)
          have hl0 := chg_len x y z x2 y2 z2
          have HSm : Small (chg x y z x2 y2 z2) := chg_small ⟨HXY.out.1, HXY.out.2.1⟩ ⟨HXY.out.2.2.1, HXY.out.2.2.2⟩
          have CH : Hid (∀ w, Calls Tryz.prog 72 #[sv x y z, sv x2 y2 z2] w fun e w' => ∃ v, e = .returned v ∧ w'.ownsRow w.heap.size 3 1 v (chg x y z x2 y2 z2).length ((chg x y z x2 y2 z2).map (Value.int .i64)) ∧ Below w.heap.size w w') := fun w => changes_any _ _ _ _ _ _ w ⟨HXY.out.1, HXY.out.2.1⟩ ⟨HXY.out.2.2.1, HXY.out.2.2.2⟩
          have HN : Hid (nms x y z x2 y2 z2 = chg x y z x2 y2 z2) := by show _ = _; unfold nms; rw [if_neg H1.out, if_neg H2.out, if_neg (by omega)]
          obtain ⟨L, hL⟩ : ∃ q, chg x y z x2 y2 z2 = q := ⟨_, rfl⟩
          rw [hL] at hp0 hl0 HSm CH HN
          have HSS : Hid (Small L) := HSm
          clear hL HSm
          unfold sv at CH
          go_wp2_with (first | (go_at_call 72; refine Calls.mono (CH.out _) ?_; rintro e w1 ⟨v1, rfl, o1, b1⟩; obtain ⟨g1, cap1, rfl, lt1, _, c1⟩ := row_open o1 hp0; have RW : Hid (w1.ownsRow w.heap.size 3 1 (.slice none 0 0) 0 []) := World.ownsRow_nil _ _ _ _; have B1 : Hid (Below w.heap.size w w1) := (HO.out.2.2.below).trans (b1.mono (HO.out.2.2.below).size); have C1' : Hid (∀ j, j < L.length → w1.cell? ⟨g1, 0 + j, none⟩ = some (.int .i64 (L[j]?.getD 0))) := c1; clear c1 b1 o1) | (at_builtin; refine wpList_append_own _ rfl _ _ 76 rfl w.heap.size 3 i0 (.int .i64 0) 1 8 Tryz.underlying76 hi hz0 hz1 hz2' rfl (by decide) _ _ _ rfl RW.out ⟨g1, 0, none⟩ L.length cap1 (L.map (Value.int .i64)) rfl (by rw [List.length_map, Nat.mul_one]) (row_get C1'.out) row_cell (by unfold maxLen; omega) (by omega) B1.out.size ?_; intro v2 w2 o2 q2 _; have O2 : w2.ownsRow w.heap.size 3 1 v2 L.length (L.map (Value.int .i64)) := (by have := o2; rw [Nat.zero_add, List.nil_append] at this; exact this); have B2 : Hid (Below w.heap.size w w2) := B1.out.grown q2 B1.out.size (fun k hk => (RW.out.lt k hk).1); obtain ⟨g2, cap2, rfl, lt2, _, c2⟩ := row_open O2 (by first | exact hp0 | simp); have C2' : Hid (∀ j, j < L.length → w2.cell? ⟨g2, 0 + j, none⟩ = some (.int .i64 (L[j]?.getD 0))) := c2; clear c2 o2 q2 O2) | (go_at_call 73; refine Calls.mono (ysequence_any L g2 0 cap2 _ (by first | exact hp0 | simp) lt2 C2'.out (HSS.out) (by first | (simp; omega) | omega)) ?_; rintro e w3 ⟨rfl, b3⟩))
          go_ret
          exact ⟨by rw [HV.out, HN.out]; first | rfl | (unfold cds; rw [if_neg (by intro e; rw [e] at hp0; simp at hp0)]; rfl), B2.out.trans (b3.mono B2.out.size)⟩

end Go.Proofs.YtkdajaphbmclkaaGreatDoor

namespace Go.Proofs.YtkdajaphbmclkaaGreatDoor
open Go.RowKit Go.Sort
set_option linter.unusedVariables false

/-- The numbers of a text's rest: behind those in l, of d digits n so far. -/
def sc : List UInt8 → List Int → Int → Nat → Option (List Int)
  | [], l, _, _ => some l
  | c :: r, l, n, d => if 48 ≤ c.toNat ∧ c.toNat ≤ 57 ∧ d < 3 then sc r l (10 * n + ((c.toNat : Int) - 48)) (d + 1) else if d = 0 ∨ (c.toNat ≠ 59 ∧ r ≠ []) then none else sc r (l ++ [n]) 0 0
theorem sc_digit {c : UInt8} {r : List UInt8} {l : List Int} {n : Int} {d : Nat} (h : 48 ≤ c.toNat ∧ c.toNat ≤ 57 ∧ d < 3) : sc (c :: r) l n d = sc r l (10 * n + ((c.toNat : Int) - 48)) (d + 1) := by rw [sc, if_pos h]
theorem sc_sep {c : UInt8} {r : List UInt8} {l : List Int} {n : Int} {d : Nat} (h : ¬ (48 ≤ c.toNat ∧ c.toNat ≤ 57 ∧ d < 3)) (hd : d ≠ 0) (hr : c.toNat = 59 ∨ r = []) : sc (c :: r) l n d = sc r (l ++ [n]) 0 0 := by
  rw [sc, if_neg h, if_neg]
  rintro (e | ⟨e1, e2⟩)
  · exact hd e
  · rcases hr with e | e
    · exact e1 e
    · exact e2 e
theorem d8 {n : Int} (h : 0 ≤ n ∧ n < 10) : ((48 + n).toNat.toUInt8).toNat = (48 + n).toNat := by
  rw [UInt8.toNat_ofNat_of_lt']
  show _ < 256
  omega
theorem dc_one {n : Int} (h : 0 ≤ n ∧ n < 10) : dc n = [(48 + n).toNat.toUInt8] := by
  unfold dc
  rw [Lib.decDigits, dif_pos (by omega)]
  have : 48 + n.toNat = (48 + n).toNat := by omega
  rw [this]
theorem dc_two {n : Int} (h : 10 ≤ n ∧ n < 100) : dc n = [(48 + n / 10).toNat.toUInt8, (48 + n % 10).toNat.toUInt8] := by
  unfold dc
  rw [Lib.decDigits, dif_neg (by omega), Lib.decDigits, dif_pos (by omega)]
  have e1 : 48 + n.toNat / 10 = (48 + n / 10).toNat := by omega
  have e2 : 48 + n.toNat % 10 = (48 + n % 10).toNat := by omega
  rw [e1, e2]
  rfl
theorem sc_dc {n : Int} (h : 0 ≤ n ∧ n < 100) (c : UInt8) (hc : ¬ (48 ≤ c.toNat ∧ c.toNat ≤ 57)) (r : List UInt8) (hr : c.toNat = 59 ∨ r = []) (l : List Int) : sc (dc n ++ (c :: r)) l 0 0 = sc r (l ++ [n]) 0 0 := by
  by_cases h1 : n < 10
  · have e := d8 (n := n) ⟨h.1, h1⟩
    rw [dc_one ⟨h.1, h1⟩, List.singleton_append, sc_digit (by rw [e]; omega), sc_sep (fun k => hc ⟨k.1, k.2.1⟩) (by omega) hr, e]
    rw [show (10 * 0 + (((48 + n).toNat : Int) - 48)) = n by omega]
  · have e1 := d8 (n := n / 10) (by omega)
    have e2 := d8 (n := n % 10) (by omega)
    rw [dc_two (by omega), List.cons_append, List.singleton_append, sc_digit (by rw [e1]; omega), sc_digit (by rw [e2]; omega), sc_sep (fun k => hc ⟨k.1, k.2.1⟩) (by omega) hr, e1, e2]
    rw [show (10 * (10 * 0 + (((48 + n / 10).toNat : Int) - 48)) + (((48 + n % 10).toNat : Int) - 48)) = n by omega]
theorem sc_tail (ns : List Int) : ∀ (n : Int) (l : List Int), Small (n :: ns) → sc (dc n ++ (Lib.joinTail [59] (ns.map dc) ++ [109])) l 0 0 = some (l ++ n :: ns) := by
  induction ns with
  | nil =>
    intro n l h
    have : Lib.joinTail [59] (([] : List Int).map dc) = [] := by simp [Lib.joinTail]
    rw [this, List.nil_append, sc_dc (h n (List.mem_cons_self ..)) 109 (by decide) [] (.inr rfl)]
    rfl
  | cons m r ih =>
    intro n l h
    have : Lib.joinTail [59] ((m :: r).map dc) ++ [109] = 59 :: (dc m ++ (Lib.joinTail [59] (r.map dc) ++ [109])) := by simp [Lib.joinTail]
    rw [this, sc_dc (h n (List.mem_cons_self ..)) 59 (by decide) _ (.inl (by decide)), ih m (l ++ [n]) (fun k hk => h k (List.mem_cons_of_mem _ hk))]
    simp
theorem sc_sq {ns : List Int} (h : Small ns) (hp : ns ≠ []) : sc ((sq ns).drop 2) [] 0 0 = some ns := by
  cases ns with
  | nil => exact absurd rfl hp
  | cons n r =>
    have : (sq (n :: r)).drop 2 = dc n ++ (Lib.joinTail [59] (r.map dc) ++ [109]) := by
      unfold sq
      rw [List.map_cons, Lib.join_cons]
      simp
    rw [this, sc_tail r n [] h]
    rfl
theorem sq_len {ns : List Int} (h : Small ns) (hp : ns ≠ []) (hl : ns.length ≤ 4) : 4 ≤ (sq ns).length ∧ (sq ns).length ≤ 15 := by
  have h1 := join_len ns h
  have h2 : 1 ≤ (Lib.join (ns.map dc) [59]).length := by
    cases ns with
    | nil => exact absurd rfl hp
    | cons n r =>
      have := dc_len (h n (List.mem_cons_self ..))
      rw [List.map_cons, Lib.join_cons, List.length_append]
      omega
  unfold sq
  simp only [List.length_append, List.length_cons, List.length_nil]
  omega
theorem sq_0 (ns : List Int) : (sq ns)[0]? = some 27 := rfl
theorem sq_1 (ns : List Int) : (sq ns)[1]? = some 91 := rfl
theorem sq_last (ns : List Int) : (sq ns)[(sq ns).length - 1]? = some 109 := by
  have e : sq ns = ([27, 91] ++ Lib.join (ns.map dc) [59]) ++ [109] := by unfold sq; rw [List.append_assoc]
  rw [e, List.length_append]
  simp

/-- What the numbers do, part by part. -/
theorem apF_app (a b : List Int) (f : Int) : apF (a ++ b) f = apF b (apF a f) := List.foldl_append
theorem apG_app (a b : List Int) (f : Int) : apG (a ++ b) f = apG b (apG a f) := List.foldl_append
theorem apB_app (a b : List Int) (f : Int) : apB (a ++ b) f = apB b (apB a f) := List.foldl_append
theorem one_F (n f : Int) : apF [n] f = apf n f := rfl
theorem one_G (n f : Int) : apG [n] f = apg n f := rfl
theorem one_B (n f : Int) : apB [n] f = apb n f := rfl
theorem hueF {n : Int} (h : 0 ≤ n ∧ n ≤ 8) : (hue n 29 39 = 39 ∧ n = 0) ∨ (30 ≤ hue n 29 39 ∧ hue n 29 39 ≤ 37 ∧ hue n 29 39 = 29 + n) := by unfold hue; split <;> omega
theorem hueG {n : Int} (h : 0 ≤ n ∧ n ≤ 8) : (hue n 39 49 = 49 ∧ n = 0) ∨ (40 ≤ hue n 39 49 ∧ hue n 39 49 ≤ 47 ∧ hue n 39 49 = 39 + n) := by unfold hue; split <;> omega
theorem bold_F (z z2 f : Int) : apF (cBold z z2) f = f := by unfold cBold; split; exact apf_no (n := 1) f (by decide) (by decide) (by decide); rfl
theorem bold_G (z z2 f : Int) : apG (cBold z z2) f = f := by unfold cBold; split; exact apg_no (n := 1) f (by decide) (by decide) (by decide); rfl
theorem bold_B {z z2 : Int} (h : 0 ≤ z ∧ z ≤ z2 ∧ z2 ≤ 1) : apB (cBold z z2) z = z2 := by
  unfold cBold; split
  · rw [one_B]; unfold apb; simp; omega
  · show z = z2; omega
theorem fg_F {x x2 : Int} (h : 0 ≤ x2 ∧ x2 ≤ 8) : apF (cFg x x2) x = x2 := by
  unfold cFg; split
  · show x = x2; omega
  · rw [one_F]
    rcases hueF h with ⟨e, e2⟩ | ⟨e1, e2, e3⟩
    · rw [e, e2]; rfl
    · rw [apf_in _ ⟨e1, e2⟩]; omega
theorem fg_G {x x2 g : Int} (h : 0 ≤ x2 ∧ x2 ≤ 8) : apG (cFg x x2) g = g := by
  unfold cFg; split
  · rfl
  · rw [one_G]; have := hueF h; exact apg_no g (by omega) (by omega) (by omega)
theorem fg_B {x x2 g : Int} (h : 0 ≤ x2 ∧ x2 ≤ 8) : apB (cFg x x2) g = g := by
  unfold cFg; split
  · rfl
  · rw [one_B]; have := hueF h; exact apb_no g (by omega) (by omega) (by omega)
theorem bg_G {x x2 : Int} (h : 0 ≤ x2 ∧ x2 ≤ 8) : apG (cBg x x2) x = x2 := by
  unfold cBg; split
  · show x = x2; omega
  · rw [one_G]
    rcases hueG h with ⟨e, e2⟩ | ⟨e1, e2, e3⟩
    · rw [e, e2]; rfl
    · rw [apg_in _ ⟨e1, e2⟩]; omega
theorem bg_F {x x2 g : Int} (h : 0 ≤ x2 ∧ x2 ≤ 8) : apF (cBg x x2) g = g := by
  unfold cBg; split
  · rfl
  · rw [one_F]; have := hueG h; exact apf_no g (by omega) (by omega) (by omega)
theorem bg_B {x x2 g : Int} (h : 0 ≤ x2 ∧ x2 ≤ 8) : apB (cBg x x2) g = g := by
  unfold cBg; split
  · rfl
  · rw [one_B]; have := hueG h; exact apb_no g (by omega) (by omega) (by omega)
section
variable {x y z x2 y2 z2 : Int}
theorem chg_F (hx : 0 ≤ x2 ∧ x2 ≤ 8) (hy : 0 ≤ y2 ∧ y2 ≤ 8) : apF (chg x y z x2 y2 z2) x = x2 := by
  unfold chg; rw [apF_app, apF_app, bold_F, fg_F hx, bg_F hy]
theorem chg_G (hx : 0 ≤ x2 ∧ x2 ≤ 8) (hy : 0 ≤ y2 ∧ y2 ≤ 8) : apG (chg x y z x2 y2 z2) y = y2 := by
  unfold chg; rw [apG_app, apG_app, bold_G, fg_G hx, bg_G hy]
theorem chg_B (hx : 0 ≤ x2 ∧ x2 ≤ 8) (hy : 0 ≤ y2 ∧ y2 ≤ 8) (hz : 0 ≤ z ∧ z ≤ z2 ∧ z2 ≤ 1) : apB (chg x y z x2 y2 z2) z = z2 := by
  unfold chg; rw [apB_app, apB_app, bold_B hz, fg_B hx, bg_B hy]
theorem nms_ne (h : ¬ (x = x2 ∧ y = y2 ∧ z = z2)) (hz2 : 0 ≤ z2 ∧ z2 ≤ 1) : nms x y z x2 y2 z2 ≠ [] := by
  unfold nms
  rw [if_neg h]
  split
  · simp
  · rename_i h2
    split
    · simp
    · rename_i h3
      intro e
      have := chg_pos h h3
      rw [e] at this
      simp at this
/-- The numbers turn the one style into the other one. -/
theorem turned (hx : 0 ≤ x ∧ x ≤ 8) (hy : 0 ≤ y ∧ y ≤ 8) (hz : 0 ≤ z ∧ z ≤ 1) (hx2 : 0 ≤ x2 ∧ x2 ≤ 8) (hy2 : 0 ≤ y2 ∧ y2 ≤ 8) (hz2 : 0 ≤ z2 ∧ z2 ≤ 1) (h : ¬ (x = x2 ∧ y = y2 ∧ z = z2)) :
    aplF (nms x y z x2 y2 z2) x = x2 ∧ aplG (nms x y z x2 y2 z2) y = y2 ∧ aplB (nms x y z x2 y2 z2) z = z2 := by
  have hn := nms_ne h hz2
  unfold aplF aplG aplB
  rw [if_neg hn, if_neg hn, if_neg hn, kn_of hx, kn_of hy, bo_of hz]
  unfold nms
  rw [if_neg h]
  split
  · rename_i h2
    obtain ⟨rfl, rfl, rfl⟩ := h2
    exact ⟨rfl, rfl, rfl⟩
  · split
    · refine ⟨?_, ?_, ?_⟩
      · show apF (chg 0 0 0 x2 y2 z2) (apf 0 x) = x2
        exact chg_F hx2 hy2
      · show apG (chg 0 0 0 x2 y2 z2) (apg 0 y) = y2
        exact chg_G hx2 hy2
      · show apB (chg 0 0 0 x2 y2 z2) (apb 0 z) = z2
        exact chg_B hx2 hy2 ⟨by omega, hz2.1, hz2.2⟩
    · rename_i h3
      exact ⟨chg_F hx2 hy2, chg_G hx2 hy2, chg_B hx2 hy2 ⟨hz.1, by omega, hz2.2⟩⟩
end
end Go.Proofs.YtkdajaphbmclkaaGreatDoor
