/-
  Fill.
-/
import Derived.Test.YtkdajaphbmclkaaGreatDoorX03
namespace Go.Proofs.YtkdajaphbmclkaaGreatDoor
open Go.RowKit Go.Sort
set_option linter.unusedVariables false

/-- A row half written: i places from a on. -/
def part (c : Nat → Nat → Ce) (y a q i : Nat) (x : Nat → Ce) : Nat → Nat → Ce := fun y' x' => if y' = y ∧ a ≤ x' ∧ x' < a + i then x x' else cut c y a q y' x'
theorem part_zero (c : Nat → Nat → Ce) (y a q : Nat) (x : Nat → Ce) : part c y a q 0 x = cut c y a q := by
  funext y' x'; unfold part; rw [if_neg (by omega)]
theorem part_next (c : Nat → Nat → Ce) (y a q i : Nat) (x : Nat → Ce) : upd (part c y a q i x) y (a + i) (x (a + i)) = part c y a q (i + 1) x := by
  funext y' x'; unfold part upd
  by_cases h : y' = y ∧ x' = a + i
  · obtain ⟨rfl, rfl⟩ := h
    rw [if_pos ⟨rfl, rfl⟩, if_pos (by omega)]
  · rw [if_neg h]
    show (if y' = y ∧ a ≤ x' ∧ x' < a + i then x x' else cut c y a q y' x') = _
    by_cases h2 : y' = y ∧ a ≤ x' ∧ x' < a + i
    · rw [if_pos h2, if_pos (by omega)]
    · rw [if_neg h2, if_neg (by omega)]
theorem part_done (c : Nat → Nat → Ce) (y a q : Nat) (x : Nat → Ce) (h : a ≤ q) : part c y a q (q + 1 - a) x = fill c a (q + 1) y (y + 1) x := by
  funext y' x'; unfold part fill
  by_cases hy : y' = y
  · subst hy
    rw [if_pos (c := y' ≤ y' ∧ y' < y' + 1) (by omega)]
    unfold span
    by_cases h1 : a ≤ x' ∧ x' < q + 1
    · rw [if_pos (by omega), if_pos h1]
    · rw [if_neg (by omega), if_neg h1]
      unfold cut cutR
      have e : cutL c y' a y' q = c y' q := cutL_at h y'
      rw [e, show q + 1 - 1 = q by omega]
      by_cases h2 : x' + 1 = a ∧ (c y' a).p = 2
      · rw [if_neg (by omega), if_pos ⟨by omega, h2⟩]
        unfold cutL; rw [if_pos ⟨rfl, h2⟩]
      · rw [if_neg (c := a < q + 1 ∧ x' + 1 = a ∧ (c y' a).p = 2) (fun k => h2 k.2)]
        have e2 : cutL c y' a y' x' = c y' x' := by unfold cutL; rw [if_neg (fun k => h2 k.2)]
        rw [e2]
        by_cases h3 : x' = q + 1 ∧ (c y' q).p = 1
        · rw [if_pos ⟨rfl, h3⟩, if_pos ⟨by omega, h3⟩]
        · rw [if_neg (fun k => h3 k.2), if_neg (fun k => h3 k.2)]
  · rw [if_neg (fun k => hy k.1), if_neg (by omega)]
    unfold cut cutR cutL
    rw [if_neg (fun k => hy k.1), if_neg (fun k => hy k.1)]

/-- A block of one cell. -/
def R5 (T : TypeId) (Q : World) (b : Nat) (e : Ce) : Prop := Q.heap[b]? = some (.cells #[.string e.t, .int .i64 e.f, .int .i64 e.g, .int .i64 e.b, .int .i64 e.p] T (0, 0))
section
variable {T : TypeId} {Q Q' : World} {b k : Nat} {e : Ce}
theorem R5.lt (h : R5 T Q b e) : b < Q.heap.size := (Array.getElem?_eq_some_iff.1 h).1
theorem R5.c0 (h : R5 T Q b e) : Q.cell? ⟨b, 0, none⟩ = some (.string e.t) := by unfold R5 at h; simp [World.cell?, h]
theorem R5.c1 (h : R5 T Q b e) : Q.cell? ⟨b, 1, none⟩ = some (.int .i64 e.f) := by unfold R5 at h; simp [World.cell?, h]
theorem R5.c2 (h : R5 T Q b e) : Q.cell? ⟨b, 2, none⟩ = some (.int .i64 e.g) := by unfold R5 at h; simp [World.cell?, h]
theorem R5.c3 (h : R5 T Q b e) : Q.cell? ⟨b, 3, none⟩ = some (.int .i64 e.b) := by unfold R5 at h; simp [World.cell?, h]
theorem R5.c4 (h : R5 T Q b e) : Q.cell? ⟨b, 4, none⟩ = some (.int .i64 e.p) := by unfold R5 at h; simp [World.cell?, h]
theorem R5.gr (h : R5 T Q b e) (g : Gr Q Q') : R5 T Q' b e := (g.block h.lt).trans h
theorem R5.ch (h : R5 T Q b e) (g : Ch k Q Q') (hk : b ≠ k) : R5 T Q' b e := (g.block b h.lt hk).trans h
theorem R5.new (Q : World) (e : Ce) (T : TypeId) : R5 T (Q.alloc (.cells #[.string e.t, .int .i64 e.f, .int .i64 e.g, .int .i64 e.b, .int .i64 e.p] T)) Q.heap.size e := heap_alloc_new _ _
end
theorem Ch.set5 {M o0 o1 o2 o3 o4 : Nat} {W W' : World} (h : Ch M W W') (v0 v1 v2 v3 v4 : Value) : Ch M W (((((W'.setCell ⟨M, o0, none⟩ v0).setCell ⟨M, o1, none⟩ v1).setCell ⟨M, o2, none⟩ v2).setCell ⟨M, o3, none⟩ v3).setCell ⟨M, o4, none⟩ v4) :=
  ((((h.set (.inl rfl) _ _).set (.inl rfl) _ _).set (.inl rfl) _ _).set (.inl rfl) _ _).set (.inl rfl) _ _
theorem R4.ch {T : TypeId} {Q Q' : World} {b k : Nat} {x y a c : Int} (h : R4 T Q b x y a c) (g : Ch k Q Q') (hk : b ≠ k) : R4 T Q' b x y a c := (g.block b h.lt hk).trans h

section
variable {K M cap W H : Nat} {c : Nat → Nat → Ce}
theorem stretch_int (w : World) (h : CS 82 71 w K M cap W H c) (hW : 1 ≤ W ∧ W ≤ 400) (hH : H ≤ 400) (hp : PAll W H c) (y a z : Int) (hy : 0 ≤ y ∧ y < H) (ha : 0 ≤ a ∧ a < z) (hz : z ≤ W) : Calls Tryz.prog 90 #[.pointer (some ⟨K, 0, none⟩), .int .i64 y, .int .i64 a, .int .i64 z] w fun e w' => e = .returned (.slice (some ⟨M, y.toNat * W * 5 + a.toNat * 5, none⟩) (z - a).toNat (z - a).toNat) ∧ Cv 71 w' M W H (cut c y.toNat a.toNat (z.toNat - 1)) ∧ Ch M w w' := by
  obtain ⟨Y, rfl⟩ := Int.eq_ofNat_of_zero_le hy.1
  obtain ⟨A, rfl⟩ := Int.eq_ofNat_of_zero_le ha.1
  obtain ⟨Q, rfl⟩ : ∃ Q : Nat, z = (Q : Int) + 1 := ⟨(z - 1).toNat, by omega⟩
  have := stretch_any w h (by omega) hW.2 hH Y A Q (by omega) (by omega) (by omega) (hp Y (by omega))
  rw [show ((Q : Int) + 1 - (A : Int)).toNat = Q + 1 - A by omega, show ((Y : Int)).toNat = Y from rfl, show ((A : Int)).toNat = A from rfl, show ((Q : Int) + 1).toNat - 1 = Q by omega]
  exact this

set_option maxRecDepth 100000 in
set_option maxHeartbeats 4000000 in
theorem fill_any (w : World) (h : CS 82 71 w K M cap W H c) (hW : 1 ≤ W ∧ W ≤ 400) (hH : 1 ≤ H ∧ H ≤ 400) (hp : PAll W H c) (x y a b f g bd cx cy ca cb : Int) (l t u v : Int) (hq : seenQ W H x y a b cx cy ca cb = (l, t, u, v)) :
    Calls Tryz.prog 75 #[.pointer (some ⟨K, 0, none⟩), rv x y a b, sv f g bd, rv cx cy ca cb] w fun e w' => e = .returned (.tuple #[]) ∧ Cv 71 w' M W H (fill c l.toNat (l + u).toNat t.toNat (t + v).toNat (fun _ => bk (kn f) (kn g) (bo bd))) ∧ Ch M w w' := by
  have SF := seen_facts (W := W) (H := H) (by omega) (by omega) x y a b cx cy ca cb
  have SN : Hid (∀ w0, CS 82 71 w0 K M cap W H c → Calls Tryz.prog 88 #[.pointer (some ⟨K, 0, none⟩), rv x y a b, rv cx cy ca cb] w0 fun e w' => e = .returned (rv l t u v) ∧ Gr w0 w') := fun w0 h0 => by
    have := seen_any w0 h0 x y a b cx cy ca cb
    rw [hq] at this; exact this
  rw [hq] at SF
  have CN : Hid (∀ f g b w, Calls Tryz.prog 89 #[sv f g b] w fun e w' => e = .returned (sv (kn f) (kn g) (bo b)) ∧ Gr w w') := counts_any
  have BL : Hid (∀ f g b w, Calls Tryz.prog 28 #[sv f g b] w fun e w' => e = .returned (cev (bk f g b)) ∧ Gr w w') := blank_any
  have HC : Hid (CS 82 71 w K M cap W H c) := h
  have HP : Hid (PAll W H c) := hp
  clear h hp hq
  obtain ⟨e, he⟩ : ∃ e, bk (kn f) (kn g) (bo bd) = e := ⟨_, rfl⟩
  have B1 := BL.out (kn f) (kn g) (bo bd)
  rw [he] at B1 ⊢
  have HE : Hid (e.p = 0) := by rw [← he]; rfl
  clear he BL
  have C1 := CN.out f g bd
  obtain ⟨kf, hkf⟩ : ∃ z, kn f = z := ⟨_, rfl⟩
  obtain ⟨kg, hkg⟩ : ∃ z, kn g = z := ⟨_, rfl⟩
  obtain ⟨kb, hkb⟩ : ∃ z, bo bd = z := ⟨_, rfl⟩
  rw [hkf, hkg, hkb] at B1 C1
  clear hkf hkg hkb CN
  unfold rv at SN
  unfold rv sv
  unfold sv cev at B1
  unfold sv at C1
  have l0 := SF.l0
  have t0 := SF.t0
  have u0 := SF.u0
  have v0 := SF.v0
  have lu := SF.lu
  have tv := SF.tv
  have HS : Hid (0 < u ↔ 0 < v) := SF.uv
  clear SF
  go_enter Tryz.func75, Tryz.ntmps75
  go_wp2_with fail
  refine Calls.mono (SN.out _ (HC.out.gr ((((Gr.refl w).alloc _).alloc _).alloc _))) ?_
  rintro e1 w1 ⟨rfl, g1⟩
  have G1 : Hid (Gr w w1) := ((((Gr.refl w).alloc _).alloc _).alloc _).trans g1
  have RS : Hid (R3 50 w1 (w.heap.size + 1) f g bd) := by
    have := R3.new (w.alloc (.cells #[.int .i64 x, .int .i64 y, .int .i64 a, .int .i64 b] 132)) f g bd 50
    simp only [World.size_alloc] at this
    exact (this.gr ((Gr.refl _).alloc _)).gr g1
  clear g1 SN
  have s0 := RS.out.c0
  have s1 := RS.out.c1
  have s2 := RS.out.c2
  have sl := RS.out.lt
  go_wp2_with fail
  refine Calls.mono (C1 _) ?_
  rintro e2 w2 ⟨rfl, g2⟩
  have RR : Hid (R4 132 w2 w1.heap.size l t u v) := (R4.new w1 _ _ _ _ _).gr g2
  have G2 : Hid (Gr w w2) := (G1.out.alloc _).trans g2
  have Z1 : Hid (w.heap.size ≤ w1.heap.size) := G1.out.size
  obtain ⟨Z, hZ⟩ : ∃ z, w1.heap.size = z := ⟨_, rfl⟩
  rw [hZ] at RR Z1
  rw [hZ]
  clear hZ g2 s0 s1 s2 sl RS C1 G1
  go_wp2_with fail
  refine Calls.mono (B1 _) ?_
  rintro e3 w3 ⟨rfl, g3⟩
  have R2 : Hid (R4 132 w3 Z l t u v) := RR.out.gr g3
  have G3 : Hid (Gr w w3) := G2.out.trans g3
  clear g3 B1 RR G2
  obtain ⟨W4, hW4⟩ : ∃ z, w3.alloc (.cells #[.string e.t, .int .i64 e.f, .int .i64 e.g, .int .i64 e.b, .int .i64 e.p] 71) = z := ⟨_, rfl⟩
  have R4' : Hid (R4 132 W4 Z l t u v) := by rw [← hW4]; exact R2.out.gr ((Gr.refl _).alloc _)
  have G4 : Hid (Gr w W4) := by rw [← hW4]; exact G3.out.alloc _
  have P4 : Hid (R5 71 W4 w3.heap.size e) := by rw [← hW4]; exact R5.new w3 e _
  have Z2 : Hid (w.heap.size ≤ w3.heap.size) := G3.out.size
  obtain ⟨P, hP⟩ : ∃ z, w3.heap.size = z := ⟨_, rfl⟩
  rw [hP] at P4 Z2
  have HM : Hid (M < w.heap.size) := HC.out.cv.lt
  have ZM : Hid (Z ≠ M) := (fun q => by have := HM.out; have := Z1.out; omega : Z ≠ M)
  have PM : Hid (P ≠ M) := (fun q => by have := HM.out; have := Z2.out; omega : P ≠ M)
  have KM : Hid (K ≠ M) := HC.out.ne
  have x0 := R4'.out.c0
  have x1 := R4'.out.c1
  have x2 := R4'.out.c2
  have x3 := R4'.out.c3
  go_wp2_with fail
  clear hP hW4 R2 G3
  go_loopw [10] (fun yv wr => ∃ k : Int, t ≤ k ∧ k ≤ t + v ∧ yv = .int .i64 k ∧ Hid (Cv 71 wr M W H (fill c l.toNat (l + u).toNat t.toNat k.toNat (fun _ => e)) ∧ Ch M w wr ∧ R4 132 wr Z l t u v ∧ R5 71 wr P e)) (fun yv _ => (t + v - intOf yv).toNat)
  case atStart =>
    exact ⟨t, by omega, by omega, rfl, by rw [fill_none (by omega)]; exact HC.out.cv.gr G4.out, Ch.gr G4.out, R4'.out, P4.out⟩
  case round =>
    obtain ⟨k, hk1, hk2, rfl, HR⟩ := hrel
    clear x0 x1 x2 x3 R4' P4 G4
    have x0 := HR.out.2.2.1.c0
    have x1 := HR.out.2.2.1.c1
    have x2 := HR.out.2.2.1.c2
    have x3 := HR.out.2.2.1.c3
    by_cases hlt : k < t + v
    · have hv : 0 < v := by omega
      have hu : 0 < u := HS.out.2 hv
      obtain ⟨U, hU⟩ : ∃ U : Nat, (U : Int) = u := ⟨u.toNat, by omega⟩
      have ST : Hid (Calls Tryz.prog 90 #[.pointer (some ⟨K, 0, none⟩), .int .i64 k, .int .i64 l, .int .i64 (l + u)] wr fun e' w' => e' = .returned (.slice (some ⟨M, k.toNat * W * 5 + l.toNat * 5, none⟩) U U) ∧ Cv 71 w' M W H (cut (fill c l.toNat (l + u).toNat t.toNat k.toNat (fun _ => e)) k.toNat l.toNat ((l + u).toNat - 1)) ∧ Ch M wr w') := by
        have := stretch_int wr (HC.out.put HR.out.2.1 HR.out.1) hW hH.2 (HP.out.fill0 (by omega) (fun _ => HE.out)) k l (l + u) (by omega) (by omega) lu
        rw [show (l + u - l).toNat = U by omega] at this
        exact this
      obtain ⟨o, ho⟩ : ∃ z, k.toNat * W * 5 + l.toNat * 5 = z := ⟨_, rfl⟩
      have HO : Hid (k.toNat * W * 5 + l.toNat * 5 = o) := ho
      rw [ho] at ST
      clear ho
      have hUb : U ≤ 400 := by omega
      have HU : Hid ((U : Int) = u) := hU
      clear hU
      have HQ : Hid ((l + u).toNat - 1 + 1 - l.toNat = U ∧ (l + u).toNat - 1 + 1 = (l + u).toNat ∧ l.toNat ≤ (l + u).toNat - 1) := ⟨by have := HU.out; omega, by omega, by omega⟩
      go_wp2_with (go_at_call 90; refine Calls.mono ST.out ?_; rintro e4 w4 ⟨rfl, V4, C4⟩; have HV4 : Hid (Cv 71 w4 M W H (part (fill c l.toNat (l + u).toNat t.toNat k.toNat (fun _ => e)) k.toNat l.toNat ((l + u).toNat - 1) 0 (fun _ => e)) ∧ Ch M w w4 ∧ R4 132 w4 Z l t u v ∧ R5 71 w4 P e) := (⟨(by rw [part_zero]; exact V4), HR.out.2.1.trans C4, HR.out.2.2.1.ch C4 ZM.out, HR.out.2.2.2.ch C4 PM.out⟩ : Cv 71 w4 M W H (part (fill c l.toNat (l + u).toNat t.toNat k.toNat (fun _ => e)) k.toNat l.toNat ((l + u).toNat - 1) 0 (fun _ => e)) ∧ Ch M w w4 ∧ R4 132 w4 Z l t u v ∧ R5 71 w4 P e); clear V4 C4)
      go_loopw [43] (fun iv wi => ∃ i : Nat, i ≤ U ∧ iv = .int .i64 i ∧ Hid (Cv 71 wi M W H (part (fill c l.toNat (l + u).toNat t.toNat k.toNat (fun _ => e)) k.toNat l.toNat ((l + u).toNat - 1) i (fun _ => e)) ∧ Ch M w wi ∧ R4 132 wi Z l t u v ∧ R5 71 wi P e)) (fun iv _ => U - (intOf iv).toNat)
      case atStart => exact ⟨0, by omega, rfl, HV4.out⟩
      case round =>
        obtain ⟨i, hi, rfl, HI⟩ := hrel
        by_cases hil : i < U
        · have hx : l.toNat + i < W := by have := HU.out; omega
          have hy : k.toNat < H := by omega
          have d0 := HI.out.1.c0 hy hx
          have d1 := HI.out.1.c1 hy hx
          have d2 := HI.out.1.c2 hy hx
          have d3 := HI.out.1.c3 hy hx
          have d4 := HI.out.1.c4 hy hx
          have eo : k.toNat * W * 5 + (l.toNat + i) * 5 = o + i * 5 := by rw [← HO.out]; omega
          rw [eo] at d0 d1 d2 d3 d4
          have EO : Hid (k.toNat * W * 5 + (l.toNat + i) * 5 = o + i * 5) := eo
          clear eo
          have fz := HI.out.1.fz
          have p0 := HI.out.2.2.2.c0
          have p1 := HI.out.2.2.2.c1
          have p2 := HI.out.2.2.2.c2
          have p3 := HI.out.2.2.2.c3
          have p4 := HI.out.2.2.2.c4
          have hil' : (i : Int) < (U : Int) := by omega
          go_wp2
          go_roundw
          case rel =>
            have VS := HI.out.1.set hy hx e
            rw [EO.out, part_next _ _ _ _ _ (fun _ => e)] at VS
            exact ⟨i + 1, by omega, by go_num, VS, HI.out.2.1.set5 _ _ _ _ _, HI.out.2.2.1.ch ((Ch.refl M _).set5 _ _ _ _ _) ZM.out, HI.out.2.2.2.ch ((Ch.refl M _).set5 _ _ _ _ _) PM.out⟩
          case measure => simp [intOf]; omega
        · have hil' : ¬ (i : Int) < (U : Int) := by omega
          have hiU : i = U := by omega
          have VD : Hid (Cv 71 wr M W H (fill c l.toNat (l + u).toNat t.toNat (k + 1).toNat (fun _ => e))) := by
            have := HI.out.1
            rw [hiU, ← HQ.out.1, part_done _ _ _ _ _ HQ.out.2.2, HQ.out.2.1, fill_next (by omega), show k.toNat + 1 = (k + 1).toNat by omega] at this
            exact this
          go_wp2
          go_roundw
          case rel => exact ⟨k + 1, by omega, by omega, by go_num, VD.out, HI.out.2⟩
          case measure => simp [intOf]; omega
    · have hkk : k = t + v := by omega
      go_wp2
      go_end0
      exact ⟨rfl, by have := HR.out.1; rw [hkk] at this; exact this, HR.out.2.1⟩
end
end Go.Proofs.YtkdajaphbmclkaaGreatDoor

namespace Go.Proofs.YtkdajaphbmclkaaGreatDoor
open Go.RowKit Go.Sort
set_option linter.unusedVariables false

/-- What numbers do, one behind the other. -/
def apF (zs : List Int) (f : Int) : Int := zs.foldl (fun f n => apf n f) f
def apG (zs : List Int) (g : Int) : Int := zs.foldl (fun g n => apg n g) g
def apB (zs : List Int) (b : Int) : Int := zs.foldl (fun b n => apb n b) b
theorem apF_next (zs : List Int) (k : Nat) (f : Int) (h : k < zs.length) : apF (zs.take (k + 1)) f = apf (zs[k]?.getD 0) (apF (zs.take k) f) := by
  unfold apF; rw [List.take_succ_eq_append_getElem h, List.foldl_append]; simp [h]
theorem apG_next (zs : List Int) (k : Nat) (f : Int) (h : k < zs.length) : apG (zs.take (k + 1)) f = apg (zs[k]?.getD 0) (apG (zs.take k) f) := by
  unfold apG; rw [List.take_succ_eq_append_getElem h, List.foldl_append]; simp [h]
theorem apB_next (zs : List Int) (k : Nat) (f : Int) (h : k < zs.length) : apB (zs.take (k + 1)) f = apb (zs[k]?.getD 0) (apB (zs.take k) f) := by
  unfold apB; rw [List.take_succ_eq_append_getElem h, List.foldl_append]; simp [h]
/-- What Apply answers. -/
def aplF (zs : List Int) (f : Int) : Int := if zs = [] then 0 else apF zs (kn f)
def aplG (zs : List Int) (f : Int) : Int := if zs = [] then 0 else apG zs (kn f)
def aplB (zs : List Int) (f : Int) : Int := if zs = [] then 0 else apB zs (bo f)
set_option maxRecDepth 100000 in
set_option maxHeartbeats 4000000 in
theorem apply_none (f g b : Int) (a : Option Addr) (cap : Nat) (w : World) : Calls Tryz.prog 77 #[sv f g b, .slice a 0 cap] w fun e w' => e = .returned (sv 0 0 0) ∧ Gr w w' := by
  have CC : Hid (∀ f g b w, Calls Tryz.prog 71 #[sv f g b] w fun e w' => e = .returned (sv (kn f) (kn g) (bo b)) ∧ Gr w w') := counted_any
  unfold sv at CC ⊢
  go_enter Tryz.func77, Tryz.ntmps77
  go_wp2
  refine bodyPost_ret (v := sv 0 0 0) (by simp [results, Tryz.results77, go_sem, sv]) rfl ?_
  exact ⟨rfl, ((Gr.refl w).alloc _).alloc _⟩

set_option maxRecDepth 100000 in
set_option maxHeartbeats 4000000 in
theorem apply_some (f g b : Int) (zs : List Int) (B off cap : Nat) (w : World) (hp : 0 < zs.length) (hB : B < w.heap.size) (hc : ∀ j, j < zs.length → w.cell? ⟨B, off + j, none⟩ = some (.int .i64 (zs[j]?.getD 0))) (hlen : zs.length ≤ 17592186044416) :
    Calls Tryz.prog 77 #[sv f g b, .slice (some ⟨B, off, none⟩) zs.length cap] w fun e w' => e = .returned (sv (apF zs (kn f)) (apG zs (kn g)) (apB zs (bo b))) ∧ Gr w w' := by
  have HC : Hid (∀ j, j < zs.length → w.cell? ⟨B, off + j, none⟩ = some (.int .i64 (zs[j]?.getD 0))) := hc
  clear hc
  have CC : Hid (∀ f g b w, Calls Tryz.prog 71 #[sv f g b] w fun e w' => e = .returned (sv (kn f) (kn g) (bo b)) ∧ Gr w w') := counted_any
  have AA : Hid (∀ f g b n w, Calls Tryz.prog 91 #[sv f g b, .int .i64 n] w fun e w' => e = .returned (sv (apf n f) (apg n g) (apb n b)) ∧ Gr w w') := applied_any
  obtain ⟨x, hx⟩ : ∃ z, kn f = z := ⟨_, rfl⟩
  obtain ⟨y, hy⟩ : ∃ z, kn g = z := ⟨_, rfl⟩
  obtain ⟨z, hz⟩ : ∃ z, bo b = z := ⟨_, rfl⟩
  have C1 : Hid (∀ w, _) := CC.out f g b
  rw [hx, hy, hz] at C1 ⊢
  clear CC hx hy hz
  unfold sv at C1 AA ⊢
  have hp' : ¬ ((zs.length : Int) = 0) := by omega
  have hpb : ((zs.length : Int) == 0) = false := by simpa using hp'
  have hpd : decide ((zs.length : Int) = 0) = false := by simpa using hp'
  go_enter Tryz.func77, Tryz.ntmps77
  go_wp2_with fail
  obtain ⟨S, hS⟩ : ∃ x, w.heap.size = x := ⟨_, rfl⟩
  obtain ⟨W0, hW0⟩ : ∃ x, (w.alloc (.cells #[.int .i64 f, .int .i64 g, .int .i64 b] 50)).alloc (.cells #[.int .i64 0, .int .i64 0, .int .i64 0] 50) = x := ⟨_, rfl⟩
  have G0 : Hid (Gr w W0) := by rw [← hW0]; exact ((Gr.refl w).alloc _).alloc _
  have RA : Hid (R3 50 W0 S f g b) := by rw [← hW0, ← hS]; exact (R3.new w _ _ _ _).gr ((Gr.refl _).alloc _)
  have RC : Hid (R3 50 W0 (S + 1) 0 0 0) := by
    have := R3.new (w.alloc (.cells #[.int .i64 f, .int .i64 g, .int .i64 b] 50)) 0 0 0 50
    simp only [World.size_alloc, hS] at this
    rw [← hW0]; exact this
  rw [hW0, hS]
  clear hW0
  have HS : Hid (w.heap.size = S) := hS
  have HB : Hid (B < w.heap.size) := hB
  clear hS hB
  refine (C1.out _).mono ?_
  rintro e w1 ⟨rfl, g1⟩
  have RA1 := RA.out.gr g1
  have R2 : Hid (R3 50 _ S x y z) := RA1.set x y z
  have RC2 : Hid (R3 50 _ (S + 1) 0 0 0) := (RC.out.gr g1).others (k := S) (by omega) (.int .i64 x) (.int .i64 y) (.int .i64 z)
  have G2 : Hid (Gr w _) := (G0.out.trans g1).set3 (k := S) (by rw [HS.out]; omega) (.int .i64 x) (.int .i64 y) (.int .i64 z)
  have a0 := RA1.c0
  have a1 := RA1.c1
  have a2 := RA1.c2
  have f0 := RA1.fz 0
  have f1 := RA1.fz 1
  have f2 := RA1.fz 2
  clear RA1 g1
  go_wp2_with fail
  obtain ⟨W2, hW2⟩ : ∃ q, (((w1.setCell ⟨S, 0, none⟩ (.int .i64 x)).setCell ⟨S, 1, none⟩ (.int .i64 y)).setCell ⟨S, 2, none⟩ (.int .i64 z)) = q := ⟨_, rfl⟩
  rw [hW2] at R2 RC2 G2 ⊢
  clear hW2 a0 a1 a2 f0 f1 f2 RA RC G0
  go_loopw [15] (fun i wr => ∃ k : Nat, k ≤ zs.length ∧ i = .int .i64 k ∧ Hid (R3 50 wr S (apF (zs.take k) x) (apG (zs.take k) y) (apB (zs.take k) z) ∧ R3 50 wr (S + 1) 0 0 0 ∧ Gr w wr)) (fun i _ => zs.length - (intOf i).toNat)
  case atStart => exact ⟨0, Nat.zero_le _, rfl, R2.out, RC2.out, G2.out⟩
  case round =>
    obtain ⟨k, hk, rfl, HR⟩ := hrel
    by_cases hlt : k < zs.length
    · obtain ⟨n, hn⟩ : ∃ q, zs[k]?.getD 0 = q := ⟨_, rfl⟩
      have hcx : wr.cell? ⟨B, off + k, none⟩ = some (.int .i64 n) := by rw [← hn]; exact (HR.out.2.2.below.cell (p := ⟨B, off + k, none⟩) HB.out).trans (HC.out k hlt)
      have N1 : Hid (apF (zs.take (k + 1)) x = apf n (apF (zs.take k) x)) := by rw [← hn]; exact apF_next zs k x hlt
      have N2 : Hid (apG (zs.take (k + 1)) y = apg n (apG (zs.take k) y)) := by rw [← hn]; exact apG_next zs k y hlt
      have N3 : Hid (apB (zs.take (k + 1)) z = apb n (apB (zs.take k) z)) := by rw [← hn]; exact apB_next zs k z hlt
      obtain ⟨p, hp1⟩ : ∃ q, apF (zs.take k) x = q := ⟨_, rfl⟩
      obtain ⟨q, hq1⟩ : ∃ q, apG (zs.take k) y = q := ⟨_, rfl⟩
      obtain ⟨r, hr1⟩ : ∃ q, apB (zs.take k) z = q := ⟨_, rfl⟩
      rw [hp1, hq1, hr1] at HR
      rw [hp1] at N1
      rw [hq1] at N2
      rw [hr1] at N3
      clear hn hp1 hq1 hr1
      have A1 : Hid (∀ w, _) := AA.out p q r n
      obtain ⟨p', hp2⟩ : ∃ q, apf n p = q := ⟨_, rfl⟩
      obtain ⟨q', hq2⟩ : ∃ z, apg n q = z := ⟨_, rfl⟩
      obtain ⟨r', hr2⟩ : ∃ q, apb n r = q := ⟨_, rfl⟩
      rw [hp2, hq2, hr2] at A1
      rw [hp2] at N1
      rw [hq2] at N2
      rw [hr2] at N3
      clear hp2 hq2 hr2
      have hlt' : (k : Int) < (zs.length : Int) := by omega
      have b0 := HR.out.1.c0
      have b1 := HR.out.1.c1
      have b2 := HR.out.1.c2
      have bb : B < wr.heap.size := Nat.lt_of_lt_of_le HB.out HR.out.2.2.size
      go_wp2_with (go_at_call 91; refine Calls.mono (A1.out _) ?_; rintro e w5 ⟨rfl, g5⟩; have HG5 : Hid (Gr wr w5) := (by first | exact g5 | exact ((Gr.refl wr).drew).trans g5); have R5 : Hid (R3 50 w5 S p q r) := HR.out.1.gr HG5.out; clear g5; have d0 := R5.out.c0; have d1 := R5.out.c1; have d2 := R5.out.c2; have e0 := R5.out.fz 0; have e1 := R5.out.fz 1; have e2 := R5.out.fz 2; have hcy : w5.cell? ⟨B, off + k, none⟩ = some (.int .i64 n) := (HG5.out.below.cell (p := ⟨B, off + k, none⟩) bb).trans hcx)
      all_goals
        go_roundw
        case rel => exact ⟨k + 1, by omega, by go_num, by show _ ∧ _ ∧ _; rw [N1.out, N2.out, N3.out]; exact ⟨R5.out.set p' q' r', (HR.out.2.1.gr HG5.out).others (by omega) _ _ _, (HR.out.2.2.trans HG5.out).set3 (by rw [HS.out]; omega) _ _ _⟩⟩
        case measure => simp [intOf]; omega
    · have hlt' : ¬ (k : Int) < (zs.length : Int) := by omega
      have hkk : k = zs.length := by omega
      have HK : Hid (R3 50 wr S (apF zs x) (apG zs y) (apB zs z)) := by have := HR.out.1; rw [hkk, List.take_length] at this; exact this
      obtain ⟨p, hp1⟩ : ∃ q, apF zs x = q := ⟨_, rfl⟩
      obtain ⟨q, hq1⟩ : ∃ q, apG zs y = q := ⟨_, rfl⟩
      obtain ⟨r, hr1⟩ : ∃ q, apB zs z = q := ⟨_, rfl⟩
      rw [hp1, hq1, hr1] at HK
      have HP : Hid (apF zs x = p) := hp1
      have HQ : Hid (apG zs y = q) := hq1
      have HRR : Hid (apB zs z = r) := hr1
      clear hp1 hq1 hr1
      have b0 := HK.out.c0
      have b1 := HK.out.c1
      have b2 := HK.out.c2
      have c0 := HR.out.2.1.c0
      have c1 := HR.out.2.1.c1
      have c2 := HR.out.2.1.c2
      have k0 := HR.out.2.1.fz 0
      have k1 := HR.out.2.1.fz 1
      have k2 := HR.out.2.1.fz 2
      go_wp2
      refine bodyPost_ret (results_cell_row rfl _ _ (S + 1) _ _ _ _ rfl (HR.out.2.1.set _ _ _) Tryz.underlying50 rfl (by kernel_rfl)) rfl ?_
      exact ⟨by rw [HP.out, HQ.out, HRR.out], HR.out.2.2.set3 (by rw [HS.out]; omega) _ _ _⟩

theorem apply_any (f g b : Int) (zs : List Int) (v : Value) (w : World) (h : Ints w v zs) (hlen : zs.length ≤ 17592186044416) : Calls Tryz.prog 77 #[sv f g b, v] w fun e w' => e = .returned (sv (aplF zs f) (aplG zs g) (aplB zs b)) ∧ Gr w w' := by
  obtain ⟨a, cap, rfl, hh⟩ := h
  by_cases hz : zs = []
  · subst hz; exact apply_none f g b a cap w
  · obtain ⟨B, off, rfl, hb, hc⟩ := hh.resolve_left hz
    unfold aplF aplG aplB
    rw [if_neg hz, if_neg hz, if_neg hz]
    exact apply_some f g b zs B off cap w (List.length_pos_iff.2 hz) hb hc hlen

end Go.Proofs.YtkdajaphbmclkaaGreatDoor

namespace Go.Proofs.YtkdajaphbmclkaaGreatDoor
open Go.RowKit Go.Sort
set_option linter.unusedVariables false

/-- What a cluster that is seen whole writes. -/
def gly (l : Nat) (wd : Int) (txt : ByteArray) (f g b : Int) : Nat → Ce := fun j => if wd = 2 then (if j = l then ⟨txt, f, g, b, 1⟩ else ⟨ept, f, g, b, 2⟩) else ⟨txt, f, g, b, 0⟩
/-- What Put writes, of which l t u v can be seen. -/
def putX (l u wd : Int) (txt : ByteArray) (f g b : Int) : Nat → Ce := if u < wd then fun _ => bk (kn f) (kn g) (bo b) else gly l.toNat wd txt (kn f) (kn g) (bo b)
def putQ (c : Nat → Nat → Ce) (wd : Int) (txt : ByteArray) (f g b : Int) (q : Int × Int × Int × Int) : Nat → Nat → Ce :=
  if wd = 1 ∨ wd = 2 then fill c q.1.toNat (q.1 + q.2.2.1).toNat q.2.1.toNat (q.2.1 + q.2.2.2).toNat (putX q.1 q.2.2.1 wd txt f g b) else c
def putC (W H : Nat) (c : Nat → Nat → Ce) (x y : Int) (txt : ByteArray) (wd : Int) (f g b cx cy ca cb : Int) : Nat → Nat → Ce := putQ c wd txt f g b (seenQ W H x y wd 1 cx cy ca cb)
def filC (W H : Nat) (c : Nat → Nat → Ce) (x y a b f g bd cx cy ca cb : Int) : Nat → Nat → Ce :=
  fill c (seenQ W H x y a b cx cy ca cb).1.toNat ((seenQ W H x y a b cx cy ca cb).1 + (seenQ W H x y a b cx cy ca cb).2.2.1).toNat (seenQ W H x y a b cx cy ca cb).2.1.toNat ((seenQ W H x y a b cx cy ca cb).2.1 + (seenQ W H x y a b cx cy ca cb).2.2.2).toNat (fun _ => bk (kn f) (kn g) (bo bd))
/-- Seen whole: it stands where it was put. -/
theorem Seen.whole {W H x y wd cx cy ca cb l t u v : Int} (h : Seen W H x y wd 1 cx cy ca cb l t u v) (hw : wd = 1 ∨ wd = 2) (hu : wd ≤ u) (hW : W ≤ 400) (hH : H ≤ 400) : l = x ∧ t = y ∧ u = wd ∧ v = 1 := by
  have l0 := h.l0
  have t0 := h.t0
  have lu := h.lu
  have tv := h.tv
  have uv := h.uv
  have m1 := (h.mem l t).1 (by omega)
  have m2 := (h.mem (l + u - 1) (t + v - 1)).1 (by omega)
  have e : lenI wd = wd := lenI_id (by omega)
  have e1 : lenI 1 = 1 := rfl
  rw [e, e1] at m1 m2
  have b1 := posI_bd x
  have b2 := posI_bd y
  have hx : posI x = l := by omega
  have hy : posI y = t := by omega
  unfold posI at hx hy
  omega
theorem Seen.most {W H x y wd cx cy ca cb l t u v : Int} (h : Seen W H x y wd 1 cx cy ca cb l t u v) (hw : wd = 1 ∨ wd = 2) : u ≤ wd := by
  by_cases hu : 0 < u
  · have uv := h.uv
    have m1 := (h.mem l t).1 (by omega)
    have m2 := (h.mem (l + u - 1) (t + v - 1)).1 (by omega)
    have e : lenI wd = wd := lenI_id (by omega)
    rw [e] at m1 m2
    omega
  · omega
theorem PAll.putX {W H : Nat} {c : Nat → Nat → Ce} (h : PAll W H c) (hW : 1 ≤ W ∧ W ≤ 400) (hH : 1 ≤ H ∧ H ≤ 400) (x y : Int) (txt : ByteArray) (wd f g b cx cy ca cb : Int) : PAll W H (putC W H c x y txt wd f g b cx cy ca cb) := by
  have SF := seen_facts (W := W) (H := H) (by omega) (by omega) x y wd 1 cx cy ca cb
  unfold putC putQ
  obtain ⟨q, hq⟩ : ∃ q, seenQ W H x y wd 1 cx cy ca cb = q := ⟨_, rfl⟩
  rw [hq] at SF ⊢
  obtain ⟨l, t, u, v⟩ := q
  simp only at SF ⊢
  have lu := SF.lu
  have l0 := SF.l0
  have u0 := SF.u0
  split
  · rename_i hw
    unfold Go.Proofs.YtkdajaphbmclkaaGreatDoor.putX
    by_cases hu : u < wd
    · rw [if_pos hu]; exact h.fill0 (by omega) (fun _ => rfl)
    · rw [if_neg hu]
      obtain ⟨e1, e2, e3, e4⟩ := SF.whole hw (by omega) (by omega) (by omega)
      rcases hw with hw | hw
      · refine h.fill0 (by omega) (fun j => ?_)
        unfold gly; rw [if_neg (by omega)]
      · rw [show (l + u).toNat = l.toNat + 2 by omega]
        refine h.fill2 (by omega) ?_ ?_ ?_ ?_ ?_ ?_ <;> (unfold gly; simp [hw])
  · exact h
theorem PAll.filX {W H : Nat} {c : Nat → Nat → Ce} (h : PAll W H c) (hW : 1 ≤ W ∧ W ≤ 400) (hH : 1 ≤ H ∧ H ≤ 400) (x y a b f g bd cx cy ca cb : Int) : PAll W H (filC W H c x y a b f g bd cx cy ca cb) := by
  have SF := seen_facts (W := W) (H := H) (by omega) (by omega) x y a b cx cy ca cb
  unfold filC
  exact h.fill0 (by have := SF.lu; have := SF.l0; omega) (fun _ => rfl)

/-- A block of a cluster. -/
def RCl (T : TypeId) (Q : World) (b : Nat) (txt : ByteArray) (wd : Int) : Prop := Q.heap[b]? = some (.cells #[.string txt, .int .i64 wd] T (0, 0))
section
variable {T : TypeId} {Q Q' : World} {b k : Nat} {txt : ByteArray} {wd : Int}
theorem RCl.lt (h : RCl T Q b txt wd) : b < Q.heap.size := (Array.getElem?_eq_some_iff.1 h).1
theorem RCl.c0 (h : RCl T Q b txt wd) : Q.cell? ⟨b, 0, none⟩ = some (.string txt) := by unfold RCl at h; simp [World.cell?, h]
theorem RCl.c1 (h : RCl T Q b txt wd) : Q.cell? ⟨b, 1, none⟩ = some (.int .i64 wd) := by unfold RCl at h; simp [World.cell?, h]
theorem RCl.gr (h : RCl T Q b txt wd) (g : Gr Q Q') : RCl T Q' b txt wd := (g.block h.lt).trans h
theorem RCl.ch (h : RCl T Q b txt wd) (g : Ch k Q Q') (hk : b ≠ k) : RCl T Q' b txt wd := (g.block b h.lt hk).trans h
theorem RCl.other (h : RCl T Q b txt wd) (hk : b ≠ k) (o : Nat) (v : Value) : RCl T (Q.setCell ⟨k, o, none⟩ v) b txt wd := (Below.heap_setCell Q ⟨k, o, none⟩ v b hk).trans h
theorem RCl.new (Q : World) (txt : ByteArray) (wd : Int) (T : TypeId) : RCl T (Q.alloc (.cells #[.string txt, .int .i64 wd] T)) Q.heap.size txt wd := heap_alloc_new _ _
end
theorem R3.ch {T : TypeId} {Q Q' : World} {b k : Nat} {x y a : Int} (h : R3 T Q b x y a) (g : Ch k Q Q') (hk : b ≠ k) : R3 T Q' b x y a := (g.block b h.lt hk).trans h

theorem put_two (c : Nat → Nat → Ce) (Y X y' x' : Nat) (txt : ByteArray) (kf kg kb : Int) :
    upd (upd (upd (cut c Y X (X + 1)) Y X ⟨txt, kf, kg, kb, 0⟩) Y X { upd (cut c Y X (X + 1)) Y X ⟨txt, kf, kg, kb, 0⟩ Y X with p := 1 }) Y (X + 1) ⟨ept, kf, kg, kb, 2⟩ y' x' = part c Y X (X + 1) (X + 1 + 1 - X) (gly X 2 txt kf kg kb) y' x' := by
  have u0 : upd (cut c Y X (X + 1)) Y X ⟨txt, kf, kg, kb, 0⟩ Y X = ⟨txt, kf, kg, kb, 0⟩ := by unfold upd; rw [if_pos ⟨rfl, rfl⟩]
  rw [u0]
  unfold part gly
  rw [if_pos rfl]
  by_cases h1 : y' = Y ∧ x' = X + 1
  · rw [show upd (upd (upd (cut c Y X (X + 1)) Y X ⟨txt, kf, kg, kb, 0⟩) Y X ⟨txt, kf, kg, kb, 1⟩) Y (X + 1) ⟨ept, kf, kg, kb, 2⟩ y' x' = ⟨ept, kf, kg, kb, 2⟩ from if_pos h1, if_pos (by omega), if_neg (by omega)]
  · rw [show upd (upd (upd (cut c Y X (X + 1)) Y X ⟨txt, kf, kg, kb, 0⟩) Y X ⟨txt, kf, kg, kb, 1⟩) Y (X + 1) ⟨ept, kf, kg, kb, 2⟩ y' x' = upd (upd (cut c Y X (X + 1)) Y X ⟨txt, kf, kg, kb, 0⟩) Y X ⟨txt, kf, kg, kb, 1⟩ y' x' from if_neg h1]
    by_cases h2 : y' = Y ∧ x' = X
    · rw [show upd (upd (cut c Y X (X + 1)) Y X ⟨txt, kf, kg, kb, 0⟩) Y X ⟨txt, kf, kg, kb, 1⟩ y' x' = ⟨txt, kf, kg, kb, 1⟩ from if_pos h2, if_pos (by omega), if_pos h2.2]
    · rw [show upd (upd (cut c Y X (X + 1)) Y X ⟨txt, kf, kg, kb, 0⟩) Y X ⟨txt, kf, kg, kb, 1⟩ y' x' = upd (cut c Y X (X + 1)) Y X ⟨txt, kf, kg, kb, 0⟩ y' x' from if_neg h2, show upd (cut c Y X (X + 1)) Y X ⟨txt, kf, kg, kb, 0⟩ y' x' = cut c Y X (X + 1) y' x' from if_neg h2, if_neg (by omega)]
theorem fld2 (a b c d : Value) (W : World) : Sem.run Tryz.prog (Instr.field 132 (Value.agg #[a, b, c, d]) 2) W = Result.ok c W := by
  unfold Instr.field
  simp [go_sem]
  rfl

section
variable {K M cap W H : Nat} {c : Nat → Nat → Ce}
set_option maxRecDepth 100000 in
set_option maxHeartbeats 4000000 in
theorem put_any (w : World) (h : CS 82 71 w K M cap W H c) (hW : 1 ≤ W ∧ W ≤ 400) (hH : 1 ≤ H ∧ H ≤ 400) (hp : PAll W H c) (x y : Int) (txt : ByteArray) (wd f g b cx cy ca cb : Int) :
    Calls Tryz.prog 82 #[.pointer (some ⟨K, 0, none⟩), .int .i64 x, .int .i64 y, .agg #[.string txt, .int .i64 wd], sv f g b, rv cx cy ca cb] w fun e w' => e = .returned (.tuple #[]) ∧ Cv 71 w' M W H (putC W H c x y txt wd f g b cx cy ca cb) ∧ Ch M w w' := by
  have SF := seen_facts (W := W) (H := H) (by omega) (by omega) x y wd 1 cx cy ca cb
  unfold putC
  obtain ⟨q, hq⟩ : ∃ q, seenQ W H x y wd 1 cx cy ca cb = q := ⟨_, rfl⟩
  have SN : Hid (∀ w0, CS 82 71 w0 K M cap W H c → Calls Tryz.prog 88 #[.pointer (some ⟨K, 0, none⟩), rv x y wd 1, rv cx cy ca cb] w0 fun e w' => e = .returned (rv q.1 q.2.1 q.2.2.1 q.2.2.2) ∧ Gr w0 w') := fun w0 h0 => by
    have := seen_any w0 h0 x y wd 1 cx cy ca cb
    rw [hq] at this; exact this
  rw [hq] at SF ⊢
  obtain ⟨l, t, u, v⟩ := q
  have FL : Hid (∀ w0, CS 82 71 w0 K M cap W H c → Calls Tryz.prog 75 #[.pointer (some ⟨K, 0, none⟩), rv x y wd 1, sv f g b, rv cx cy ca cb] w0 fun e w' => e = .returned (.tuple #[]) ∧ Cv 71 w' M W H (fill c l.toNat (l + u).toNat t.toNat (t + v).toNat (fun _ => bk (kn f) (kn g) (bo b))) ∧ Ch M w0 w') := fun w0 h0 => fill_any w0 h0 hW hH hp x y wd 1 f g b cx cy ca cb l t u v hq
  simp only at SN SF
  unfold putQ
  simp only
  have CN : Hid (∀ f g b w, Calls Tryz.prog 89 #[sv f g b] w fun e w' => e = .returned (sv (kn f) (kn g) (bo b)) ∧ Gr w w') := counts_any
  have HC : Hid (CS 82 71 w K M cap W H c) := h
  have HP : Hid (PAll W H c) := hp
  have HF : Hid (Seen W H x y wd 1 cx cy ca cb l t u v) := SF
  clear h hp hq SF
  unfold rv at SN FL
  unfold rv sv
  unfold sv at CN FL
  have C1 := CN.out f g b
  obtain ⟨S, hS⟩ : ∃ z, w.heap.size = z := ⟨_, rfl⟩
  have HS : Hid (w.heap.size = S) := hS
  by_cases h1 : wd = 1 ∨ wd = 2
  · rcases h1 with rfl | rfl
    · have HI : Hid ((if (1 : Int) = 1 ∨ (1 : Int) = 2 then fill c l.toNat (l + u).toNat t.toNat (t + v).toNat (putX l u 1 txt f g b) else c) = fill c l.toNat (l + u).toNat t.toNat (t + v).toNat (putX l u 1 txt f g b)) := if_pos (by omega)
      rw [HI.out]
      clear HI
      go_enter Tryz.func82, Tryz.ntmps82
      go_wp2_with fail
      obtain ⟨W0, hW0⟩ : ∃ z, (((w.alloc (.cells #[.string txt, .int .i64 1] 51)).alloc (.cells #[.int .i64 f, .int .i64 g, .int .i64 b] 50)).alloc (.cells #[.int .i64 cx, .int .i64 cy, .int .i64 ca, .int .i64 cb] 132)).alloc (.cells #[.int .i64 x, .int .i64 y, .int .i64 1, .int .i64 1] 132) = z := ⟨_, rfl⟩
      have G0 : Hid (Gr w W0) := by rw [← hW0]; exact ((((Gr.refl w).alloc _).alloc _).alloc _).alloc _
      have R0 : Hid (RCl 51 W0 S txt 1 ∧ R3 50 W0 (S + 1) f g b ∧ R4 132 W0 (S + 1 + 1) cx cy ca cb ∧ R4 132 W0 (S + 1 + 1 + 1) x y 1 1) := by
        rw [← hW0, ← hS]
        refine ⟨(RCl.new w _ _ _).gr ((((Gr.refl _).alloc _).alloc _).alloc _), ?_, ?_, ?_⟩
        · have := R3.new (w.alloc (.cells #[.string txt, .int .i64 1] 51)) f g b 50
          simp only [World.size_alloc] at this
          exact this.gr (((Gr.refl _).alloc _).alloc _)
        · have := R4.new ((w.alloc (.cells #[.string txt, .int .i64 1] 51)).alloc (.cells #[.int .i64 f, .int .i64 g, .int .i64 b] 50)) cx cy ca cb 132
          simp only [World.size_alloc] at this
          exact this.gr ((Gr.refl _).alloc _)
        · have := R4.new (((w.alloc (.cells #[.string txt, .int .i64 1] 51)).alloc (.cells #[.int .i64 f, .int .i64 g, .int .i64 b] 50)).alloc (.cells #[.int .i64 cx, .int .i64 cy, .int .i64 ca, .int .i64 cb] 132)) x y 1 1 132
          simp only [World.size_alloc] at this
          exact this
      rw [hW0]
      clear hW0 hS
      have q0 := R0.out.1.c0
      have q1 := R0.out.1.c1
      have r0 := R0.out.2.2.1.c0
      have r1 := R0.out.2.2.1.c1
      have r2 := R0.out.2.2.1.c2
      have r3 := R0.out.2.2.1.c3
      have m0 := R0.out.2.2.2.c0
      have m1 := R0.out.2.2.2.c1
      have m2 := R0.out.2.2.2.c2
      have m3 := R0.out.2.2.2.c3
      have hfl := fld2 (.int .i64 l) (.int .i64 t) (.int .i64 u) (.int .i64 v)
      by_cases hu : u < 1
      · have HX : Hid (putX l u 1 txt f g b = fun _ => bk (kn f) (kn g) (bo b)) := if_pos hu
        go_cut [34] from 22 to 33 (fun s wx => s = .bool true ∧ Hid (RCl 51 wx S txt 1 ∧ R3 50 wx (S + 1) f g b ∧ R4 132 wx (S + 1 + 1) cx cy ca cb ∧ R4 132 wx (S + 1 + 1 + 1) x y 1 1 ∧ Gr w wx))
        case first =>
          go_region_with (go_at_call 88; refine Calls.mono (SN.out _ (HC.out.gr (by first | exact G0.out.drew | exact G0.out))) ?_; rintro e1 w1 ⟨rfl, g1⟩; have G1 : Hid (Gr W0 w1) := (by first | exact ((Gr.refl W0).drew).trans g1 | exact g1); clear g1; have o1 := (R0.out.1.gr G1.out).c1)
          all_goals
            go_wp2_with fail
            go_meet
            exact ⟨rfl, R0.out.1.gr G1.out, R0.out.2.1.gr G1.out, R0.out.2.2.1.gr G1.out, R0.out.2.2.2.gr G1.out, G0.out.trans G1.out⟩
        case rest =>
          obtain ⟨rfl, HR⟩ := hcut
          clear q0 q1 r0 r1 r2 r3 m0 m1 m2 m3 hfl
          have s0 := HR.out.2.1.c0
          have s1 := HR.out.2.1.c1
          have s2 := HR.out.2.1.c2
          have r0 := HR.out.2.2.1.c0
          have r1 := HR.out.2.2.1.c1
          have r2 := HR.out.2.2.1.c2
          have r3 := HR.out.2.2.1.c3
          have m0 := HR.out.2.2.2.1.c0
          have m1 := HR.out.2.2.2.1.c1
          have m2 := HR.out.2.2.2.1.c2
          have m3 := HR.out.2.2.2.1.c3
          go_wp2_with (go_at_call 75; refine Calls.mono (FL.out _ (HC.out.gr HR.out.2.2.2.2)) ?_; rintro e2 w2 ⟨rfl, V2, C2⟩; have HV2 : Hid (Cv 71 w2 M W H (fill c l.toNat (l + u).toNat t.toNat (t + v).toNat (fun _ => bk (kn f) (kn g) (bo b))) ∧ Ch M w w2) := (⟨V2, (Ch.gr HR.out.2.2.2.2).trans C2⟩ : _ ∧ _); clear V2 C2)
          refine bodyPost_ret (results_none rfl _ _ _) rfl ?_
          exact ⟨rfl, by rw [HX.out]; exact HV2.out.1, HV2.out.2⟩
      · have HX : Hid (putX l u 1 txt f g b = gly l.toNat 1 txt (kn f) (kn g) (bo b)) := if_neg hu
        have WH := HF.out.whole (by omega) (show (1 : Int) ≤ u by omega) (by omega) (by omega)
        have hlu := HF.out.lu
        have hl0 := HF.out.l0
        have htv := HF.out.tv
        have ht0 := HF.out.t0
        have hx : 0 ≤ x ∧ x + 1 ≤ W := by omega
        have hy : 0 ≤ y ∧ y < H := by omega
        have HW : Hid (l = x ∧ t = y ∧ u = 1 ∧ v = 1) := WH
        clear WH hlu hl0 htv ht0
        go_cut [34] from 22 to 33 (fun s wx => s = .bool false ∧ Hid (RCl 51 wx S txt 1 ∧ R3 50 wx (S + 1) f g b ∧ R4 132 wx (S + 1 + 1) cx cy ca cb ∧ R4 132 wx (S + 1 + 1 + 1) x y 1 1 ∧ Gr w wx))
        case first =>
          have hu' : ¬ u < 1 := hu
          go_region_with (go_at_call 88; refine Calls.mono (SN.out _ (HC.out.gr (by first | exact G0.out.drew | exact G0.out))) ?_; rintro e1 w1 ⟨rfl, g1⟩; have G1 : Hid (Gr W0 w1) := (by first | exact ((Gr.refl W0).drew).trans g1 | exact g1); clear g1; have o1 := (R0.out.1.gr G1.out).c1)
          all_goals
            go_wp2_with fail
            go_meet
            exact ⟨congrArg Value.bool (decide_eq_false (by omega)), R0.out.1.gr G1.out, R0.out.2.1.gr G1.out, R0.out.2.2.1.gr G1.out, R0.out.2.2.2.gr G1.out, G0.out.trans G1.out⟩
        case rest =>
          obtain ⟨rfl, HR⟩ := hcut
          clear q0 q1 r0 r1 r2 r3 m0 m1 m2 m3 hfl
          have s0 := HR.out.2.1.c0
          have s1 := HR.out.2.1.c1
          have s2 := HR.out.2.1.c2
          go_wp2_with fail
          refine Calls.mono (C1 _) ?_
          rintro e1 w1 ⟨rfl, g1⟩
          have R1 : Hid (RCl 51 w1 S txt 1 ∧ R3 50 w1 (S + 1) f g b ∧ Gr w w1) := ⟨HR.out.1.gr g1, HR.out.2.1.gr g1, HR.out.2.2.2.2.trans g1⟩
          clear g1 s0 s1 s2 HR C1
          obtain ⟨kf, hkf⟩ : ∃ z, kn f = z := ⟨_, rfl⟩
          obtain ⟨kg, hkg⟩ : ∃ z, kn g = z := ⟨_, rfl⟩
          obtain ⟨kb, hkb⟩ : ∃ z, bo b = z := ⟨_, rfl⟩
          rw [hkf, hkg, hkb] at HX
          rw [hkf, hkg, hkb]
          clear hkf hkg hkb
          obtain ⟨w2, hw2⟩ : ∃ z, ((w1.setCell ⟨S + 1, 0, none⟩ (.int .i64 kf)).setCell ⟨S + 1, 1, none⟩ (.int .i64 kg)).setCell ⟨S + 1, 2, none⟩ (.int .i64 kb) = z := ⟨_, rfl⟩
          have R2 : Hid (RCl 51 w2 S txt 1 ∧ R3 50 w2 (S + 1) kf kg kb ∧ Gr w w2) := by
            rw [← hw2]
            exact ⟨((R1.out.1.other (by omega) _ _).other (by omega) _ _).other (by omega) _ _, R1.out.2.1.set _ _ _, R1.out.2.2.set3 (by rw [HS.out]; omega) _ _ _⟩
          have s0 := R1.out.2.1.c0
          have s1 := R1.out.2.1.c1
          have s2 := R1.out.2.1.c2
          have z0 := R1.out.2.1.fz 0
          have z1 := R1.out.2.1.fz 1
          have z2 := R1.out.2.1.fz 2
          have q1 := R2.out.1.c1
          go_wp2_with fail
          refine Calls.mono (stretch_int w2 (HC.out.gr R2.out.2.2) hW hH.2 HP.out y x (x + 1) hy (by omega) hx.2) ?_
          rintro e3 w3 ⟨rfl, V3, C3⟩
          have HM : Hid (M < S) := (by rw [← HS.out]; exact HC.out.cv.lt : M < S)
          have R3' : Hid (RCl 51 w3 S txt 1 ∧ R3 50 w3 (S + 1) kf kg kb ∧ Ch M w w3) := ⟨R2.out.1.ch C3 (by have := HM.out; omega), R2.out.2.1.ch C3 (by have := HM.out; omega), (Ch.gr R2.out.2.2).trans C3⟩
          obtain ⟨X, hX⟩ : ∃ z, x.toNat = z := ⟨_, rfl⟩
          obtain ⟨Y, hY⟩ : ∃ z, y.toNat = z := ⟨_, rfl⟩
          rw [hX, hY] at V3
          rw [hX, hY]
          have HV3 : Hid (Cv 71 w3 M W H (cut c Y X (X + 1 - 1))) := by
            rw [show (x + 1).toNat - 1 = X + 1 - 1 by omega] at V3; exact V3
          have HXY : Hid (x.toNat = X ∧ y.toNat = Y) := ⟨hX, hY⟩
          have hXW : X + 1 ≤ W := by omega
          have hYH : Y < H := by omega
          rw [show (x + 1 - x).toNat = 1 by omega]
          clear hX hY V3 C3 s0 s1 s2 z0 z1 z2 q1 hw2 R1 R2
          obtain ⟨o, ho⟩ : ∃ z, Y * W * 5 + X * 5 = z := ⟨_, rfl⟩
          have HO : Hid (Y * W * 5 + X * 5 = o) := ho
          have d0 := HV3.out.c0 hYH (show X < W by omega)
          have d1 := HV3.out.c1 hYH (show X < W by omega)
          have d2 := HV3.out.c2 hYH (show X < W by omega)
          have d3 := HV3.out.c3 hYH (show X < W by omega)
          have d4 := HV3.out.c4 hYH (show X < W by omega)
          rw [ho] at d0 d1 d2 d3 d4
          rw [ho]
          clear ho
          have fz := HV3.out.fz
          have q0 := R3'.out.1.c0
          have q1 := R3'.out.1.c1
          have s0 := R3'.out.2.1.c0
          have s1 := R3'.out.2.1.c1
          have s2 := R3'.out.2.1.c2
          have sm : ¬ S = M := by have := HM.out; omega
          have sm1 : ¬ S + 1 = M := by have := HM.out; omega
          go_wp2
          go_end0
          refine ⟨rfl, ?_, R3'.out.2.2.set5 _ _ _ _ _⟩
          have VS := HV3.out.set hYH (show X < W by omega) ⟨txt, kf, kg, kb, 0⟩
          rw [HO.out] at VS
          refine VS.same ?_
          intro y' x' _ _
          rw [HX.out, HW.out.1, HW.out.2.1, HW.out.2.2.1, HW.out.2.2.2, show (x + 1).toNat = x.toNat + 1 by omega, show (y + 1).toNat = y.toNat + 1 by omega, HXY.out.1, HXY.out.2, ← part_done c Y X X _ (Nat.le_refl _), show X + 1 - X = 0 + 1 by omega, ← part_next, part_zero]
          rfl
    · have HI : Hid ((if (2 : Int) = 1 ∨ (2 : Int) = 2 then fill c l.toNat (l + u).toNat t.toNat (t + v).toNat (putX l u 2 txt f g b) else c) = fill c l.toNat (l + u).toNat t.toNat (t + v).toNat (putX l u 2 txt f g b)) := if_pos (by omega)
      rw [HI.out]
      clear HI
      go_enter Tryz.func82, Tryz.ntmps82
      go_wp2_with fail
      obtain ⟨W0, hW0⟩ : ∃ z, (((w.alloc (.cells #[.string txt, .int .i64 2] 51)).alloc (.cells #[.int .i64 f, .int .i64 g, .int .i64 b] 50)).alloc (.cells #[.int .i64 cx, .int .i64 cy, .int .i64 ca, .int .i64 cb] 132)).alloc (.cells #[.int .i64 x, .int .i64 y, .int .i64 2, .int .i64 1] 132) = z := ⟨_, rfl⟩
      have G0 : Hid (Gr w W0) := by rw [← hW0]; exact ((((Gr.refl w).alloc _).alloc _).alloc _).alloc _
      have R0 : Hid (RCl 51 W0 S txt 2 ∧ R3 50 W0 (S + 1) f g b ∧ R4 132 W0 (S + 1 + 1) cx cy ca cb ∧ R4 132 W0 (S + 1 + 1 + 1) x y 2 1) := by
        rw [← hW0, ← hS]
        refine ⟨(RCl.new w _ _ _).gr ((((Gr.refl _).alloc _).alloc _).alloc _), ?_, ?_, ?_⟩
        · have := R3.new (w.alloc (.cells #[.string txt, .int .i64 2] 51)) f g b 50
          simp only [World.size_alloc] at this
          exact this.gr (((Gr.refl _).alloc _).alloc _)
        · have := R4.new ((w.alloc (.cells #[.string txt, .int .i64 2] 51)).alloc (.cells #[.int .i64 f, .int .i64 g, .int .i64 b] 50)) cx cy ca cb 132
          simp only [World.size_alloc] at this
          exact this.gr ((Gr.refl _).alloc _)
        · have := R4.new (((w.alloc (.cells #[.string txt, .int .i64 2] 51)).alloc (.cells #[.int .i64 f, .int .i64 g, .int .i64 b] 50)).alloc (.cells #[.int .i64 cx, .int .i64 cy, .int .i64 ca, .int .i64 cb] 132)) x y 2 1 132
          simp only [World.size_alloc] at this
          exact this
      rw [hW0]
      clear hW0 hS
      have q0 := R0.out.1.c0
      have q1 := R0.out.1.c1
      have r0 := R0.out.2.2.1.c0
      have r1 := R0.out.2.2.1.c1
      have r2 := R0.out.2.2.1.c2
      have r3 := R0.out.2.2.1.c3
      have m0 := R0.out.2.2.2.c0
      have m1 := R0.out.2.2.2.c1
      have m2 := R0.out.2.2.2.c2
      have m3 := R0.out.2.2.2.c3
      have hfl := fld2 (.int .i64 l) (.int .i64 t) (.int .i64 u) (.int .i64 v)
      by_cases hu : u < 2
      · have HX : Hid (putX l u 2 txt f g b = fun _ => bk (kn f) (kn g) (bo b)) := if_pos hu
        go_cut [34] from 22 to 33 (fun s wx => s = .bool true ∧ Hid (RCl 51 wx S txt 2 ∧ R3 50 wx (S + 1) f g b ∧ R4 132 wx (S + 1 + 1) cx cy ca cb ∧ R4 132 wx (S + 1 + 1 + 1) x y 2 1 ∧ Gr w wx))
        case first =>
          go_region_with (go_at_call 88; refine Calls.mono (SN.out _ (HC.out.gr (by first | exact G0.out.drew | exact G0.out))) ?_; rintro e1 w1 ⟨rfl, g1⟩; have G1 : Hid (Gr W0 w1) := (by first | exact ((Gr.refl W0).drew).trans g1 | exact g1); clear g1; have o1 := (R0.out.1.gr G1.out).c1)
          all_goals
            go_wp2_with fail
            go_meet
            exact ⟨rfl, R0.out.1.gr G1.out, R0.out.2.1.gr G1.out, R0.out.2.2.1.gr G1.out, R0.out.2.2.2.gr G1.out, G0.out.trans G1.out⟩
        case rest =>
          obtain ⟨rfl, HR⟩ := hcut
          clear q0 q1 r0 r1 r2 r3 m0 m1 m2 m3 hfl
          have s0 := HR.out.2.1.c0
          have s1 := HR.out.2.1.c1
          have s2 := HR.out.2.1.c2
          have r0 := HR.out.2.2.1.c0
          have r1 := HR.out.2.2.1.c1
          have r2 := HR.out.2.2.1.c2
          have r3 := HR.out.2.2.1.c3
          have m0 := HR.out.2.2.2.1.c0
          have m1 := HR.out.2.2.2.1.c1
          have m2 := HR.out.2.2.2.1.c2
          have m3 := HR.out.2.2.2.1.c3
          go_wp2_with (go_at_call 75; refine Calls.mono (FL.out _ (HC.out.gr HR.out.2.2.2.2)) ?_; rintro e2 w2 ⟨rfl, V2, C2⟩; have HV2 : Hid (Cv 71 w2 M W H (fill c l.toNat (l + u).toNat t.toNat (t + v).toNat (fun _ => bk (kn f) (kn g) (bo b))) ∧ Ch M w w2) := (⟨V2, (Ch.gr HR.out.2.2.2.2).trans C2⟩ : _ ∧ _); clear V2 C2)
          refine bodyPost_ret (results_none rfl _ _ _) rfl ?_
          exact ⟨rfl, by rw [HX.out]; exact HV2.out.1, HV2.out.2⟩
      · have HX : Hid (putX l u 2 txt f g b = gly l.toNat 2 txt (kn f) (kn g) (bo b)) := if_neg hu
        have WH := HF.out.whole (by omega) (show (2 : Int) ≤ u by omega) (by omega) (by omega)
        have hlu := HF.out.lu
        have hl0 := HF.out.l0
        have htv := HF.out.tv
        have ht0 := HF.out.t0
        have hx : 0 ≤ x ∧ x + 2 ≤ W := by omega
        have hy : 0 ≤ y ∧ y < H := by omega
        have HW : Hid (l = x ∧ t = y ∧ u = 2 ∧ v = 1) := WH
        clear WH hlu hl0 htv ht0
        go_cut [34] from 22 to 33 (fun s wx => s = .bool false ∧ Hid (RCl 51 wx S txt 2 ∧ R3 50 wx (S + 1) f g b ∧ R4 132 wx (S + 1 + 1) cx cy ca cb ∧ R4 132 wx (S + 1 + 1 + 1) x y 2 1 ∧ Gr w wx))
        case first =>
          have hu' : ¬ u < 2 := hu
          go_region_with (go_at_call 88; refine Calls.mono (SN.out _ (HC.out.gr (by first | exact G0.out.drew | exact G0.out))) ?_; rintro e1 w1 ⟨rfl, g1⟩; have G1 : Hid (Gr W0 w1) := (by first | exact ((Gr.refl W0).drew).trans g1 | exact g1); clear g1; have o1 := (R0.out.1.gr G1.out).c1)
          all_goals
            go_wp2_with fail
            go_meet
            exact ⟨congrArg Value.bool (decide_eq_false (by omega)), R0.out.1.gr G1.out, R0.out.2.1.gr G1.out, R0.out.2.2.1.gr G1.out, R0.out.2.2.2.gr G1.out, G0.out.trans G1.out⟩
        case rest =>
          obtain ⟨rfl, HR⟩ := hcut
          clear q0 q1 r0 r1 r2 r3 m0 m1 m2 m3 hfl
          have s0 := HR.out.2.1.c0
          have s1 := HR.out.2.1.c1
          have s2 := HR.out.2.1.c2
          go_wp2_with fail
          refine Calls.mono (C1 _) ?_
          rintro e1 w1 ⟨rfl, g1⟩
          have R1 : Hid (RCl 51 w1 S txt 2 ∧ R3 50 w1 (S + 1) f g b ∧ Gr w w1) := ⟨HR.out.1.gr g1, HR.out.2.1.gr g1, HR.out.2.2.2.2.trans g1⟩
          clear g1 s0 s1 s2 HR C1
          obtain ⟨kf, hkf⟩ : ∃ z, kn f = z := ⟨_, rfl⟩
          obtain ⟨kg, hkg⟩ : ∃ z, kn g = z := ⟨_, rfl⟩
          obtain ⟨kb, hkb⟩ : ∃ z, bo b = z := ⟨_, rfl⟩
          rw [hkf, hkg, hkb] at HX
          rw [hkf, hkg, hkb]
          clear hkf hkg hkb
          obtain ⟨w2, hw2⟩ : ∃ z, ((w1.setCell ⟨S + 1, 0, none⟩ (.int .i64 kf)).setCell ⟨S + 1, 1, none⟩ (.int .i64 kg)).setCell ⟨S + 1, 2, none⟩ (.int .i64 kb) = z := ⟨_, rfl⟩
          have R2 : Hid (RCl 51 w2 S txt 2 ∧ R3 50 w2 (S + 1) kf kg kb ∧ Gr w w2) := by
            rw [← hw2]
            exact ⟨((R1.out.1.other (by omega) _ _).other (by omega) _ _).other (by omega) _ _, R1.out.2.1.set _ _ _, R1.out.2.2.set3 (by rw [HS.out]; omega) _ _ _⟩
          have s0 := R1.out.2.1.c0
          have s1 := R1.out.2.1.c1
          have s2 := R1.out.2.1.c2
          have z0 := R1.out.2.1.fz 0
          have z1 := R1.out.2.1.fz 1
          have z2 := R1.out.2.1.fz 2
          have q1 := R2.out.1.c1
          go_wp2_with fail
          refine Calls.mono (stretch_int w2 (HC.out.gr R2.out.2.2) hW hH.2 HP.out y x (x + 2) hy (by omega) hx.2) ?_
          rintro e3 w3 ⟨rfl, V3, C3⟩
          have HM : Hid (M < S) := (by rw [← HS.out]; exact HC.out.cv.lt : M < S)
          have R3' : Hid (RCl 51 w3 S txt 2 ∧ R3 50 w3 (S + 1) kf kg kb ∧ Ch M w w3) := ⟨R2.out.1.ch C3 (by have := HM.out; omega), R2.out.2.1.ch C3 (by have := HM.out; omega), (Ch.gr R2.out.2.2).trans C3⟩
          obtain ⟨X, hX⟩ : ∃ z, x.toNat = z := ⟨_, rfl⟩
          obtain ⟨Y, hY⟩ : ∃ z, y.toNat = z := ⟨_, rfl⟩
          rw [hX, hY] at V3
          rw [hX, hY]
          have HV3 : Hid (Cv 71 w3 M W H (cut c Y X (X + 2 - 1))) := by
            rw [show (x + 2).toNat - 1 = X + 2 - 1 by omega] at V3; exact V3
          have HXY : Hid (x.toNat = X ∧ y.toNat = Y) := ⟨hX, hY⟩
          have hXW : X + 2 ≤ W := by omega
          have hYH : Y < H := by omega
          rw [show (x + 2 - x).toNat = 2 by omega]
          clear hX hY V3 C3 s0 s1 s2 z0 z1 z2 q1 hw2 R1 R2
          obtain ⟨o, ho⟩ : ∃ z, Y * W * 5 + X * 5 = z := ⟨_, rfl⟩
          have HO : Hid (Y * W * 5 + X * 5 = o) := ho
          have d0 := HV3.out.c0 hYH (show X < W by omega)
          have d1 := HV3.out.c1 hYH (show X < W by omega)
          have d2 := HV3.out.c2 hYH (show X < W by omega)
          have d3 := HV3.out.c3 hYH (show X < W by omega)
          have d4 := HV3.out.c4 hYH (show X < W by omega)
          rw [ho] at d0 d1 d2 d3 d4
          rw [ho]
          clear ho
          have fz := HV3.out.fz
          have q0 := R3'.out.1.c0
          have q1 := R3'.out.1.c1
          have s0 := R3'.out.2.1.c0
          have s1 := R3'.out.2.1.c1
          have s2 := R3'.out.2.1.c2
          have sm : ¬ S = M := by have := HM.out; omega
          have sm1 : ¬ S + 1 = M := by have := HM.out; omega
          go_upto_if 58 with fail
          obtain ⟨w4, hw4⟩ : ∃ z, ((((w3.setCell ⟨M, o, none⟩ (.string txt)).setCell ⟨M, o + 1, none⟩ (.int .i64 kf)).setCell ⟨M, o + 2, none⟩ (.int .i64 kg)).setCell ⟨M, o + 3, none⟩ (.int .i64 kb)).setCell ⟨M, o + 4, none⟩ (.int .i64 0) = z := ⟨_, rfl⟩
          have HR4 : Hid (RCl 51 w4 S txt 2 ∧ R3 50 w4 (S + 1) kf kg kb ∧ Ch M w w4 ∧ Cv 71 w4 M W H (upd (cut c Y X (X + 1)) Y X ⟨txt, kf, kg, kb, 0⟩)) := by
            have VS := HV3.out.set hYH (show X < W by omega) ⟨txt, kf, kg, kb, 0⟩
            rw [HO.out, hw4] at VS
            have cc : Ch M w3 w4 := by rw [← hw4]; exact (Ch.refl M w3).set5 _ _ _ _ _
            exact ⟨R3'.out.1.ch cc sm, R3'.out.2.1.ch cc sm1, R3'.out.2.2.trans cc, VS⟩
          rw [hw4]
          clear hw4 d0 d1 d2 d3 d4 fz q0 q1 s0 s1 s2 R3' HV3
          have d4 := HR4.out.2.2.2.c4 hYH (show X < W by omega)
          rw [HO.out] at d4
          have fz := HR4.out.2.2.2.fz
          have q1 := HR4.out.1.c1
          have s0 := HR4.out.2.1.c0
          have s1 := HR4.out.2.1.c1
          have s2 := HR4.out.2.1.c2
          have e0 := HR4.out.2.2.2.c0 hYH (show X + 1 < W by omega)
          have e1 := HR4.out.2.2.2.c1 hYH (show X + 1 < W by omega)
          have e2 := HR4.out.2.2.2.c2 hYH (show X + 1 < W by omega)
          have e3 := HR4.out.2.2.2.c3 hYH (show X + 1 < W by omega)
          have e4 := HR4.out.2.2.2.c4 hYH (show X + 1 < W by omega)
          have EO : Hid (Y * W * 5 + (X + 1) * 5 = o + 5) := (by rw [← HO.out]; omega : Y * W * 5 + (X + 1) * 5 = o + 5)
          rw [EO.out] at e0 e1 e2 e3 e4
          go_wp2_with fail
          go_end0
          refine ⟨rfl, ?_, (HR4.out.2.2.1.set (.inl rfl) _ _).set5 _ _ _ _ _⟩
          have VP := HR4.out.2.2.2.setPart hYH (show X < W by omega) 1
          rw [HO.out] at VP
          have VS := VP.set hYH (show X + 1 < W by omega) ⟨ept, kf, kg, kb, 2⟩
          rw [EO.out] at VS
          refine VS.same ?_
          intro y' x' _ _
          rw [HX.out, HW.out.1, HW.out.2.1, HW.out.2.2.1, HW.out.2.2.2, show (x + 2).toNat = x.toNat + 1 + 1 by omega, show (y + 1).toNat = y.toNat + 1 by omega, HXY.out.1, HXY.out.2, ← part_done c Y X (X + 1) _ (by omega)]
          exact put_two c Y X y' x' txt kf kg kb
  · have n1 : (wd != 1) = true := by simp; omega
    have n2 : (wd != 2) = true := by simp; omega
    have n3 : ¬ wd = 1 := by omega
    rw [if_neg h1]
    clear hS
    go_enter Tryz.func82, Tryz.ntmps82
    go_wp2
    refine bodyPost_ret (results_none rfl _ _ _) rfl ?_
    exact ⟨rfl, HC.out.cv.gr ((((Gr.refl w).alloc _).alloc _).alloc _), Ch.gr ((((Gr.refl w).alloc _).alloc _).alloc _)⟩
end
end Go.Proofs.YtkdajaphbmclkaaGreatDoor
