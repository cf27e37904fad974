/-
  counted, obey.
-/
import Derived.Test.YtlfffpoeioecjaaDoorX27a
import Derived.Test.YtlfffpoeioecjaaDoorX11
namespace Go.Proofs.YtlfffpoeioecjaaDoor
open Go.RowKit Go.Sort
set_option linter.unusedVariables false

/-- The first numbers. -/
def lst (l : Nat → Int) (m : Nat) : List Int := (List.range m).map l
theorem lst_len (l : Nat → Int) (m : Nat) : (lst l m).length = m := by simp [lst]
theorem lst_at (l : Nat → Int) (m j : Nat) (h : j < m) : (lst l m)[j]?.getD 0 = l j := by simp [lst, h]
def cntN (a : Int) : Nat := (min (a + 1) 16).toNat

set_option maxRecDepth 100000 in
set_option maxHeartbeats 4000000 in
theorem counted_seq (l : Nat → Int) (a : Int) (ha : 0 ≤ a ∧ a ≤ 16) (w : World) : Calls Tryd.prog 114 #[numV l a] w fun e w' => ∃ v, e = .returned v ∧ Ints w' v (lst l (cntN a)) ∧ Gr w w' := by
  obtain ⟨m, hm⟩ : ∃ z, cntN a = z := ⟨_, rfl⟩
  rw [hm]
  unfold cntN at hm
  have hm16 : m ≤ 16 := by omega
  have hb : a + 1 ≤ 16 ∧ a + 1 = (m : Int) ∨ 16 < a + 1 ∧ m = 16 := by omega
  clear hm
  unfold numV
  go_enter Tryd.func114, Tryd.ntmps114
  go_upto_region 1 with fail
  obtain ⟨S, hS⟩ : ∃ z, w.heap.size = z := ⟨_, rfl⟩
  obtain ⟨W0, hW0⟩ : ∃ z, w.alloc (.cells #[.int .i64 (l 0), .int .i64 (l 1), .int .i64 (l 2), .int .i64 (l 3), .int .i64 (l 4), .int .i64 (l 5), .int .i64 (l 6), .int .i64 (l 7), .int .i64 (l 8), .int .i64 (l 9), .int .i64 (l 10), .int .i64 (l 11), .int .i64 (l 12), .int .i64 (l 13), .int .i64 (l 14), .int .i64 (l 15), .int .i64 (l 16), .int .i64 a] 141) = z := ⟨_, rfl⟩
  have G0 : Hid (Gr w W0) := by rw [← hW0]; exact (Gr.refl w).alloc _
  have A0 : Hid (N18 W0 S l a) := by rw [← hW0, ← hS]; exact N18.new w l a
  rw [hW0, hS]
  clear hW0 hS
  have c17 : W0.cell? ⟨S, 17, none⟩ = some (.int .i64 a) := A0.out.at rfl
  have hal : Tryd.prog.arrayLen 139 = 17 := by kernel_rfl
  have HR : Hid (∀ cap, Ints W0 (.slice (some ⟨S, 0, none⟩) m cap) (lst l m)) := fun cap => ⟨some ⟨S, 0, none⟩, cap, by rw [lst_len], .inr ⟨S, 0, rfl, A0.out.lt, fun j hj => by
    rw [lst_len] at hj
    rw [Nat.zero_add, lst_at l m j hj]
    exact A0.out.at (numC_get l a (by omega))⟩⟩
  rcases hb with ⟨hb, hb2⟩ | ⟨hb, rfl⟩
  · have hb3 : (m : Int) ≤ 17 := by omega
    have hb4 : (0 : Int) ≤ (m : Int) := by omega
    have hmn : min (m : Int) 16 = (m : Int) := by omega
    go_wp2
    go_ret
    exact ⟨_, rfl, HR.out _, G0.out⟩
  · have hmn : min (a + 1) 16 = 16 := by omega
    go_wp2
    go_ret
    exact ⟨_, rfl, HR.out _, G0.out⟩

def obeyT (s : Tm) (b : Int) (l : Nat → Int) (a : Int) : Tm :=
  if b = 72 then { s with r := { s.r with x := min (max (l 1) 1) s.W - 1, y := min (max (l 0) 1) s.H - 1 } }
  else if b = 74 then (if l 0 = 2 then { s with c := filC s.W s.H s.c 0 0 s.W s.H 0 0 0 0 0 s.W s.H } else s)
  else if b = 109 then { s with r := { s.r with f := aplF (lst l (cntN a)) s.r.f, g := aplG (lst l (cntN a)) s.r.g, b := aplB (lst l (cntN a)) s.r.b } }
  else s

section
variable {T K M cap : Nat} {s : Tm} {nv : Value}
set_option maxRecDepth 100000 in
set_option maxHeartbeats 8000000 in
theorem obey_any (w : World) (h : TM w T K M cap s nv) (bt : Int) (l : Nat → Int) (a : Int) (ha : 0 ≤ a ∧ a ≤ 16) (hl : ∀ j, j < 17 → 0 ≤ l j ∧ l j ≤ 999999) : Calls Tryd.prog 95 #[.pointer (some ⟨T, 0, none⟩), .int .u8 bt, numV l a] w fun e w' => e = .returned (.tuple #[]) ∧ TM w' T K M cap (obeyT s bt l a) nv ∧ C2 T M w w' := by
  have HM : Hid (TM w T K M cap s nv) := h
  have HL : Hid (∀ j, j < 17 → 0 ≤ l j ∧ l j ≤ 999999) := hl
  clear h hl
  unfold numV
  go_enter Tryd.func95, Tryd.ntmps95
  go_upto_region 1 with fail
  obtain ⟨S, hS⟩ : ∃ z, w.heap.size = z := ⟨_, rfl⟩
  obtain ⟨W0, hW0⟩ : ∃ z, w.alloc (.cells #[.int .i64 (l 0), .int .i64 (l 1), .int .i64 (l 2), .int .i64 (l 3), .int .i64 (l 4), .int .i64 (l 5), .int .i64 (l 6), .int .i64 (l 7), .int .i64 (l 8), .int .i64 (l 9), .int .i64 (l 10), .int .i64 (l 11), .int .i64 (l 12), .int .i64 (l 13), .int .i64 (l 14), .int .i64 (l 15), .int .i64 (l 16), .int .i64 a] 141) = z := ⟨_, rfl⟩
  have G0 : Hid (Gr w W0) := by rw [← hW0]; exact (Gr.refl w).alloc _
  have A0 : Hid (N18 W0 S l a) := by rw [← hW0, ← hS]; exact N18.new w l a
  have H0 : Hid (TM W0 T K M cap s nv) := HM.out.gr G0.out
  have hTS : T ≠ S := by have := HM.out.lt; omega
  have hSM : S ≠ M := by have := HM.out.cs.cv.lt; omega
  rw [hW0, hS]
  clear hW0 hS
  by_cases h72 : bt = 72
  · subst h72
    have HO : Hid (obeyT s 72 l a = { s with r := { s.r with x := min (max (l 1) 1) s.W - 1, y := min (max (l 0) 1) s.H - 1 } }) := rfl
    obtain ⟨px, hpx⟩ : ∃ z, min (max (l 1) 1) (s.W : Int) - 1 = z := ⟨_, rfl⟩
    obtain ⟨py, hpy⟩ : ∃ z, min (max (l 0) 1) (s.H : Int) - 1 = z := ⟨_, rfl⟩
    have P1 : Hid (∀ w, Calls Tryd.prog 110 #[.int .i64 (l 1), .int .i64 (s.W : Int)] w fun e w' => e = .returned (.int .i64 px) ∧ w' = w) := fun w => by rw [← hpx]; exact placeOf_any _ _ (HL.out 1 (by decide)) (by have := HM.out.hW; omega) w
    have P2 : Hid (∀ w, Calls Tryd.prog 110 #[.int .i64 (l 0), .int .i64 (s.H : Int)] w fun e w' => e = .returned (.int .i64 py) ∧ w' = w) := fun w => by rw [← hpy]; exact placeOf_any _ _ (HL.out 0 (by decide)) (by have := HM.out.hH; omega) w
    rw [hpx, hpy] at HO
    clear hpx hpy
    go_wp2_with fail
    refine (tsize_any _ H0.out).mono ?_
    rintro e w1 ⟨rfl, g1⟩
    have H1 : Hid (TM w1 T K M cap s nv) := H0.out.gr g1
    have A1 : Hid (N18 w1 S l a) := A0.out.gr g1
    have G1 : Hid (Gr w w1) := G0.out.trans g1
    clear g1
    have y0 : w1.cell? ⟨S, 0, none⟩ = some (.int .i64 (l 0)) := A1.out.at rfl
    have y1 : w1.cell? ⟨S, 1, none⟩ = some (.int .i64 (l 1)) := A1.out.at rfl
    have c1 : w1.cell? ⟨T, 1, none⟩ = some (.int .i64 s.r.x) := H1.out.at rfl
    have c2 : w1.cell? ⟨T, 2, none⟩ = some (.int .i64 s.r.y) := H1.out.at rfl
    have fz := H1.out.fz
    go_wp2_with fail
    go_region_held (fun W => W.cell? ⟨S, 0, none⟩ = some (.int .i64 (l 0)) ∧ W.cell? ⟨S, 1, none⟩ = some (.int .i64 (l 1))) (go_keep) (first | (go_at_call 110; first | (with_reducible refine Calls.mono (P1.out _) ?_; rintro e w2 ⟨rfl, rfl⟩) | (with_reducible refine Calls.mono (P2.out _) ?_; rintro e w2 ⟨rfl, rfl⟩)))
    all_goals
      have H2 : Hid (TM (((w1.setCell ⟨T, 1, none⟩ (.int .i64 px)).setCell ⟨T, 2, none⟩ (.int .i64 py)).drew) T K M cap (obeyT s 72 l a) nv) := by
        show TM _ _ _ _ _ _ _
        rw [HO.out]
        exact ((H1.out.set 1 (.int .i64 px) { s.r with x := px } nv rfl).set 2 (.int .i64 py) { s.r with x := px, y := py } nv rfl).gr (Gr.refl _).drew
      have HC2 : Hid (C2 T M w (((w1.setCell ⟨T, 1, none⟩ (.int .i64 px)).setCell ⟨T, 2, none⟩ (.int .i64 py)).drew)) := (((C2.gr G1.out).set _ _).set _ _).trans (C2.gr (Gr.refl _).drew)
      go_wp2
      go_end0
      exact ⟨rfl, H2.out, HC2.out⟩
  · have e72 : (bt == 72) = false := by simpa using h72
    by_cases h74 : bt = 74
    · subst h74
      have y0 : W0.cell? ⟨S, 0, none⟩ = some (.int .i64 (l 0)) := A0.out.at rfl
      by_cases h2 : l 0 = 2
      · have HO : Hid (obeyT s 74 l a = { s with c := filC s.W s.H s.c 0 0 s.W s.H 0 0 0 0 0 s.W s.H }) := by show _ = _; unfold obeyT; rw [if_neg (by decide), if_pos rfl, if_pos h2]
        rw [h2] at y0
        have WR : Hid (∀ w', Gr W0 w' → Calls Tryd.prog 112 #[.pointer (some ⟨T, 0, none⟩)] w' fun e w2 => e = .returned (rv 0 0 s.W s.H) ∧ Gr w' w2) := fun w' g => whole_rect w' (H0.out.gr g)
        have FI : Hid (∀ w', Gr W0 w' → Calls Tryd.prog 111 #[.pointer (some ⟨K, 0, none⟩), rv 0 0 s.W s.H, .agg #[.int .i64 0, .int .i64 0, .int .i64 0], rv 0 0 s.W s.H] w' fun e w2 => e = .returned (.tuple #[]) ∧ Hid (TM w2 T K M cap (obeyT s 74 l a) nv ∧ C2 T M w w2)) := fun w' g => (fill_any w' (H0.out.gr g).cs H0.out.hW H0.out.hH H0.out.pa 0 0 s.W s.H 0 0 0 0 0 s.W s.H _ _ _ _ rfl).mono fun e w2 q => ⟨q.1, by
          show _ ∧ _
          rw [HO.out]
          exact ⟨(H0.out.gr g).cells q.2.1 q.2.2 (H0.out.pa.filX H0.out.hW H0.out.hH _ _ _ _ _ _ _ _ _ _ _), (C2.gr (G0.out.trans g)).trans (C2.ch q.2.2)⟩⟩
        have CE : Hid (∀ w', Gr W0 w' → w'.cell? ⟨T, 0, none⟩ = some (.pointer (some ⟨K, 0, none⟩))) := fun w' g => (H0.out.gr g).at rfl
        have c0 : W0.cell? ⟨T, 0, none⟩ = some (.pointer (some ⟨K, 0, none⟩)) := H0.out.at rfl
        go_wp2_with fail
        go_region_held (fun W => W.cell? ⟨T, 0, none⟩ = some (.pointer (some ⟨K, 0, none⟩))) (go_keep) (first | (go_at_call 112; refine Calls.mono (WR.out _ (by first | exact G1.out | exact (Gr.refl _).drew | exact Gr.refl _)) ?_; rintro e1 w1 ⟨rfl, g1⟩; (first | (have G2 : Hid (Gr W0 w1) := G1.out.trans g1; have o1 := CE.out w1 G2.out) | (have G1 : Hid (Gr W0 w1) := ((Gr.refl W0).drew).trans g1; have o2 := CE.out w1 G1.out) | (have G1 : Hid (Gr W0 w1) := g1; have o2 := CE.out w1 G1.out)); clear g1) | (go_at_call 111; refine Calls.mono (FI.out _ G2.out) ?_; rintro e2 w2 ⟨rfl, H2⟩; have o3 : w2.cell? ⟨T, 0, none⟩ = some (.pointer (some ⟨K, 0, none⟩)) := H2.out.1.at rfl))
        all_goals
          go_wp2
          go_end0
          exact ⟨rfl, H2.out.1, H2.out.2⟩
      · have HO : Hid (obeyT s 74 l a = s) := by show _ = _; unfold obeyT; rw [if_neg (by decide), if_pos rfl, if_neg h2]
        have e2 : (l 0 == 2) = false := by simpa using h2
        go_wp2
        go_end0
        rw [HO.out]
        exact ⟨rfl, H0.out, C2.gr G0.out⟩
    · have e74 : (bt == 74) = false := by simpa using h74
      by_cases h109 : bt = 109
      · subst h109
        obtain ⟨zs, hzs⟩ : ∃ z, lst l (cntN a) = z := ⟨_, rfl⟩
        have HZL : Hid (zs.length ≤ 17592186044416) := by show _ ≤ _; rw [← hzs, lst_len]; unfold cntN; omega
        have CT : Hid (∀ w', Calls Tryd.prog 114 #[.agg #[.int .i64 (l 0), .int .i64 (l 1), .int .i64 (l 2), .int .i64 (l 3), .int .i64 (l 4), .int .i64 (l 5), .int .i64 (l 6), .int .i64 (l 7), .int .i64 (l 8), .int .i64 (l 9), .int .i64 (l 10), .int .i64 (l 11), .int .i64 (l 12), .int .i64 (l 13), .int .i64 (l 14), .int .i64 (l 15), .int .i64 (l 16), .int .i64 a]] w' fun e w2 => ∃ v, e = .returned v ∧ Ints w2 v zs ∧ Gr w' w2) := fun w' => by have := counted_seq l a ha w'; rw [hzs] at this; exact this
        obtain ⟨f2, hf2⟩ : ∃ z, aplF zs s.r.f = z := ⟨_, rfl⟩
        obtain ⟨g2, hg2⟩ : ∃ z, aplG zs s.r.g = z := ⟨_, rfl⟩
        obtain ⟨b2, hb2⟩ : ∃ z, aplB zs s.r.b = z := ⟨_, rfl⟩
        have AP : Hid (∀ v w', Ints w' v zs → Calls Tryd.prog 113 #[.agg #[.int .i64 s.r.f, .int .i64 s.r.g, .int .i64 s.r.b], v] w' fun e w2 => e = .returned (.agg #[.int .i64 f2, .int .i64 g2, .int .i64 b2]) ∧ Gr w' w2) := fun v w' hv => by have := apply_any s.r.f s.r.g s.r.b zs v w' hv HZL.out; rw [hf2, hg2, hb2] at this; exact this
        have HO : Hid (obeyT s 109 l a = { s with r := { s.r with f := f2, g := g2, b := b2 } }) := by show _ = _; unfold obeyT; rw [if_neg (by decide), if_neg (by decide), if_pos rfl, hzs, hf2, hg2, hb2]
        have CE : Hid (∀ w', Gr W0 w' → ∀ j v, (tmc K s.r nv)[j]? = some v → w'.cell? ⟨T, j, none⟩ = some v) := fun w' g j v hv => (H0.out.gr g).at hv
        clear hzs hf2 hg2 hb2 HZL
        have x0 : W0.cell? ⟨S, 0, none⟩ = some (.int .i64 (l 0)) := A0.out.at rfl
        have x1 : W0.cell? ⟨S, 1, none⟩ = some (.int .i64 (l 1)) := A0.out.at rfl
        have x2 : W0.cell? ⟨S, 2, none⟩ = some (.int .i64 (l 2)) := A0.out.at rfl
        have x3 : W0.cell? ⟨S, 3, none⟩ = some (.int .i64 (l 3)) := A0.out.at rfl
        have x4 : W0.cell? ⟨S, 4, none⟩ = some (.int .i64 (l 4)) := A0.out.at rfl
        have x5 : W0.cell? ⟨S, 5, none⟩ = some (.int .i64 (l 5)) := A0.out.at rfl
        have x6 : W0.cell? ⟨S, 6, none⟩ = some (.int .i64 (l 6)) := A0.out.at rfl
        have x7 : W0.cell? ⟨S, 7, none⟩ = some (.int .i64 (l 7)) := A0.out.at rfl
        have x8 : W0.cell? ⟨S, 8, none⟩ = some (.int .i64 (l 8)) := A0.out.at rfl
        have x9 : W0.cell? ⟨S, 9, none⟩ = some (.int .i64 (l 9)) := A0.out.at rfl
        have x10 : W0.cell? ⟨S, 10, none⟩ = some (.int .i64 (l 10)) := A0.out.at rfl
        have x11 : W0.cell? ⟨S, 11, none⟩ = some (.int .i64 (l 11)) := A0.out.at rfl
        have x12 : W0.cell? ⟨S, 12, none⟩ = some (.int .i64 (l 12)) := A0.out.at rfl
        have x13 : W0.cell? ⟨S, 13, none⟩ = some (.int .i64 (l 13)) := A0.out.at rfl
        have x14 : W0.cell? ⟨S, 14, none⟩ = some (.int .i64 (l 14)) := A0.out.at rfl
        have x15 : W0.cell? ⟨S, 15, none⟩ = some (.int .i64 (l 15)) := A0.out.at rfl
        have x16 : W0.cell? ⟨S, 16, none⟩ = some (.int .i64 (l 16)) := A0.out.at rfl
        have x17 : W0.cell? ⟨S, 17, none⟩ = some (.int .i64 a) := A0.out.at rfl
        have c3 : W0.cell? ⟨T, 3, none⟩ = some (.int .i64 s.r.f) := H0.out.at rfl
        have c4 : W0.cell? ⟨T, 4, none⟩ = some (.int .i64 s.r.g) := H0.out.at rfl
        have c5 : W0.cell? ⟨T, 5, none⟩ = some (.int .i64 s.r.b) := H0.out.at rfl
        have fz := H0.out.fz
        go_wp2_with fail
        go_region_with (first | (go_at_call 114; refine Calls.mono (CT.out _) ?_; rintro e1 w1 ⟨v1, rfl, i1, g1⟩; have G1 : Hid (Gr W0 w1) := (by first | exact ((Gr.refl W0).drew).trans g1 | exact g1); have I1 : Hid (Ints w1 v1 zs) := i1; clear g1 i1; have o3 : w1.cell? ⟨T, 3, none⟩ = some (.int .i64 s.r.f) := CE.out w1 G1.out 3 _ rfl; have o4 : w1.cell? ⟨T, 4, none⟩ = some (.int .i64 s.r.g) := CE.out w1 G1.out 4 _ rfl; have o5 : w1.cell? ⟨T, 5, none⟩ = some (.int .i64 s.r.b) := CE.out w1 G1.out 5 _ rfl) | (go_at_call 113; refine Calls.mono (AP.out _ _ I1.out) ?_; rintro e2 w2 ⟨rfl, g2'⟩; have G2 : Hid (Gr W0 w2) := G1.out.trans g2'; clear g2'; have u3 : w2.cell? ⟨T, 3, none⟩ = some (.int .i64 s.r.f) := CE.out w2 G2.out 3 _ rfl; have u4 : w2.cell? ⟨T, 4, none⟩ = some (.int .i64 s.r.g) := CE.out w2 G2.out 4 _ rfl; have u5 : w2.cell? ⟨T, 5, none⟩ = some (.int .i64 s.r.b) := CE.out w2 G2.out 5 _ rfl; have uf := (H0.out.gr G2.out).fz))
        all_goals
          have H3 : Hid (TM (((w2.setCell ⟨T, 3, none⟩ (.int .i64 f2)).setCell ⟨T, 4, none⟩ (.int .i64 g2)).setCell ⟨T, 5, none⟩ (.int .i64 b2)) T K M cap (obeyT s 109 l a) nv) := by
            show TM _ _ _ _ _ _ _
            rw [HO.out]
            exact (((H0.out.gr G2.out).set 3 (.int .i64 f2) { s.r with f := f2 } nv rfl).set 4 (.int .i64 g2) { s.r with f := f2, g := g2 } nv rfl).set 5 (.int .i64 b2) { s.r with f := f2, g := g2, b := b2 } nv rfl
          have HC3 : Hid (C2 T M w (((w2.setCell ⟨T, 3, none⟩ (.int .i64 f2)).setCell ⟨T, 4, none⟩ (.int .i64 g2)).setCell ⟨T, 5, none⟩ (.int .i64 b2))) := (((C2.gr (G0.out.trans G2.out)).set _ _).set _ _).set _ _
          go_wp2
          go_end0
          exact ⟨rfl, H3.out, HC3.out⟩
      · have e109 : (bt == 109) = false := by simpa using h109
        have HO : Hid (obeyT s bt l a = s) := by show _ = _; unfold obeyT; rw [if_neg h72, if_neg h74, if_neg h109]
        go_wp2
        go_end0
        rw [HO.out]
        exact ⟨rfl, H0.out, C2.gr G0.out⟩
end

end Go.Proofs.YtlfffpoeioecjaaDoor
