/-
  The reference's Put and Fill, as functions of the cells.
-/
import Derived.Test.YtkcddikpjblpaagCRpi
import Derived.Test.YtkcddikpjblpaagCRfm
import Derived.Test.YtkcddikpjblpaagBRcap
namespace Go.Proofs.Ytkcddikpjblpaag
open Go.RowKit Go.Sort
set_option linter.unusedVariables false

theorem keep4 {Q : World} {k b o : Nat} {x : Value} (h : Q.cell? ⟨b, o, none⟩ = some x) (hk : b ≠ k) (v0 v1 v2 v3 : Value) : ((((Q.setCell ⟨k, 0, none⟩ v0).setCell ⟨k, 1, none⟩ v1).setCell ⟨k, 2, none⟩ v2).setCell ⟨k, 3, none⟩ v3).cell? ⟨b, o, none⟩ = some x := by
  have ne : ∀ j, (⟨k, j, none⟩ : Addr) ≠ ⟨b, o, none⟩ := fun j e => by injection e with e _ _; exact hk e.symm
  rw [World.cell?_setCell_other _ _ _ _ (ne 3), World.cell?_setCell_other _ _ _ _ (ne 2), World.cell?_setCell_other _ _ _ _ (ne 1), World.cell?_setCell_other _ _ _ _ (ne 0)]
  exact h
section
variable {K M cap W H : Nat} {c : Nat → Nat → Ce}
theorem rput_any (w : World) (h : CS 49 71 w K M cap W H c) (hW : 1 ≤ W ∧ W ≤ 400) (hH : 1 ≤ H ∧ H ≤ 400) (hp : PAll W H c) (x y : Int) (txt : ByteArray) (wd f g b cx cy ca cb : Int) :
    Calls Try.prog 35 #[.pointer (some ⟨K, 0, none⟩), .int .i64 x, .int .i64 y, .agg #[.string txt, .int .i64 wd], sv f g b, rv cx cy ca cb] w fun e w' => e = .returned (.tuple #[]) ∧ Cv 71 w' M W H (putC W H c x y txt wd f g b cx cy ca cb) ∧ Ch M w w' := by
  by_cases ho : ¬ (wd = 1 ∨ wd = 2) ∨ y < 0 ∨ (H : Int) ≤ y ∨ x < -1 ∨ (W : Int) ≤ x
  · rw [putC_out hW hH c x y txt wd f g b cx cy ca cb ho]
    exact Calls.mono (rput_out w h hW hH x y txt wd f g b cx cy ca cb ho) (fun e w' hh => ⟨hh.1, h.cv.gr hh.2, Ch.gr hh.2⟩)
  · have hw : wd = 1 ∨ wd = 2 := by omega
    have hy : 0 ≤ y ∧ y < H := by omega
    have hx : -1 ≤ x ∧ x < W := by omega
    obtain ⟨y, rfl⟩ : ∃ n : Nat, y = n := ⟨y.toNat, by omega⟩
    have SF := seen_facts (W := W) (H := H) (by omega) (by omega) x y wd 1 cx cy ca cb
    have := rput_in w h hW hH hp x y txt wd f g b cx cy ca cb hw (by omega) hx _ _ _ _ SF
    unfold putC putQ
    rw [if_pos hw]
    exact this
/-- One more place, as Fill puts it. -/
theorem fput (hW : 1 ≤ W ∧ W ≤ 400) (hH : 1 ≤ H ∧ H ≤ 400) (hp : PAll W H c) {L R T m k : Nat} (hLm : L ≤ m) (hm : m < W) (hk : k < H) (hTk : T ≤ k) (f g b cx cy ca cb : Int) (hc : posI cx ≤ (m : Int) ∧ (m : Int) < posI cx + lenI ca ∧ posI cy ≤ (k : Int) ∧ (k : Int) < posI cy + lenI cb) :
    putC W H (fill (fill c L R T k (fun _ => bk (kn f) (kn g) (bo b))) L m k (k + 1) (fun _ => bk (kn f) (kn g) (bo b))) m k spc 1 f g b cx cy ca cb = fill (fill c L R T k (fun _ => bk (kn f) (kn g) (bo b))) L (m + 1) k (k + 1) (fun _ => bk (kn f) (kn g) (bo b)) := by
  rw [putC_blank hW hH _ m k hm hk f g b cx cy ca cb hc]
  refine fill_col (W := W) ?_ hLm hm (fun _ => rfl)
  have : fill c L R T k (fun _ => bk (kn f) (kn g) (bo b)) k = c k := by unfold fill; rw [if_neg (by omega)]
  rw [this]
  exact hp k hk

/-- What Fill's own blocks and the canvas hold. -/
structure FB (w wi : World) (K M cap W H : Nat) (c : Nat → Nat → Ce) (S P : Nat) (f g b cx cy ca cb l t u v : Int) : Prop where
  cs : CS 49 71 wi K M cap W H c
  st : R3 23 wi (S + 1) f g b
  rc : R4 54 wi (S + 1 + 1) cx cy ca cb
  al : R4 54 wi P l t u v
  gr : Ch M w wi
theorem FB.cells {w wi wj : World} {c c' : Nat → Nat → Ce} {S P : Nat} {f g b cx cy ca cb l t u v : Int} (h : FB w wi K M cap W H c S P f g b cx cy ca cb l t u v) (hM : M < S) (hP : M < P) (q : Ch M wi wj) (V : Cv 71 wj M W H c') : FB w wj K M cap W H c' S P f g b cx cy ca cb l t u v :=
  ⟨h.cs.put q V, h.st.ch q (by omega), h.rc.ch q (by omega), h.al.ch q (by omega), h.gr.trans q⟩

set_option maxRecDepth 100000 in
set_option maxHeartbeats 8000000 in
theorem rfill_any (w : World) (h : CS 49 71 w K M cap W H c) (hW : 1 ≤ W ∧ W ≤ 400) (hH : 1 ≤ H ∧ H ≤ 400) (hp : PAll W H c) (x y a b f g bd cx cy ca cb : Int) :
    Calls Try.prog 36 #[.pointer (some ⟨K, 0, none⟩), rv x y a b, sv f g bd, rv cx cy ca cb] w fun e w' => e = .returned (.tuple #[]) ∧ Cv 71 w' M W H (filC W H c x y a b f g bd cx cy ca cb) ∧ Ch M w w' := by
  have SF := seen_facts (W := W) (H := H) (by omega) (by omega) x y a b cx cy ca cb
  have CP : Hid (∀ ax ay aw ah bx by_ bw bh w, Calls Try.prog 50 #[rv ax ay aw ah, rv bx by_ bw bh] w fun e w' => e = .returned (rv (capQ ax ay aw ah bx by_ bw bh).1 (capQ ax ay aw ah bx by_ bw bh).2.1 (capQ ax ay aw ah bx by_ bw bh).2.2.1 (capQ ax ay aw ah bx by_ bw bh).2.2.2) ∧ Gr w w') := fun ax ay aw ah bx by_ bw bh w => by rw [← capV_q]; exact rCap_any ax ay aw ah bx by_ bw bh w
  obtain ⟨q1, hq1⟩ : ∃ z, capQ x y a b cx cy ca cb = z := ⟨_, rfl⟩
  have C1 := CP.out x y a b cx cy ca cb
  rw [hq1] at C1
  obtain ⟨i0, i1, i2, i3⟩ := q1
  obtain ⟨q2, hq2⟩ : ∃ z, capQ 0 0 (W : Int) (H : Int) i0 i1 i2 i3 = z := ⟨_, rfl⟩
  have C2 := CP.out i0 i1 i2 i3 0 0 W H
  rw [← capV_q, capV_comm, capV_q, hq2] at C2
  obtain ⟨l, t, u, v⟩ := q2
  have HQ : Hid (seenQ W H x y a b cx cy ca cb = (l, t, u, v)) := by show _ = _; unfold seenQ; rw [hq1]; exact hq2
  rw [HQ.out] at SF
  simp only at SF
  unfold filC
  rw [HQ.out]
  simp only
  clear hq1 hq2 CP
  have l0 := SF.l0
  have t0 := SF.t0
  have u0 := SF.u0
  have v0 := SF.v0
  obtain ⟨L, rfl⟩ : ∃ n : Nat, l = n := ⟨l.toNat, by omega⟩
  obtain ⟨T, rfl⟩ : ∃ n : Nat, t = n := ⟨t.toNat, by omega⟩
  obtain ⟨U, rfl⟩ : ∃ n : Nat, u = n := ⟨u.toNat, by omega⟩
  obtain ⟨V, rfl⟩ : ∃ n : Nat, v = n := ⟨v.toNat, by omega⟩
  have hLU : L + U ≤ W := by have := SF.lu; omega
  have hTV : T + V ≤ H := by have := SF.tv; omega
  have HF : Hid (Seen W H x y a b cx cy ca cb L T U V) := SF
  have HP : Hid (PAll W H c) := hp
  have HRS : Hid (((L : Int)).toNat = L ∧ ((L : Int) + (U : Int)).toNat = L + U ∧ ((T : Int)).toNat = T ∧ ((T : Int) + (V : Int)).toNat = T + V) := ⟨by omega, by omega, by omega, by omega⟩
  rw [HRS.out.1, HRS.out.2.1, HRS.out.2.2.1, HRS.out.2.2.2]
  clear l0 t0 u0 v0 SF HRS HQ hp
  have PT : Hid (∀ (k m : Nat) (wq : World), L ≤ m → m < L + U → T ≤ k → k < T + V → CS 49 71 wq K M cap W H (fill (fill c L (L + U) T k (fun _ => bk (kn f) (kn g) (bo bd))) L m k (k + 1) (fun _ => bk (kn f) (kn g) (bo bd))) → Calls Try.prog 35 #[.pointer (some ⟨K, 0, none⟩), .int .i64 m, .int .i64 k, .agg #[.string ⟨#[32]⟩, .int .i64 1], sv f g bd, rv cx cy ca cb] wq fun e w' => e = .returned (.tuple #[]) ∧ Cv 71 w' M W H (fill (fill c L (L + U) T k (fun _ => bk (kn f) (kn g) (bo bd))) L (m + 1) k (k + 1) (fun _ => bk (kn f) (kn g) (bo bd))) ∧ Ch M wq w') := fun k m wq h1 h2 h3 h4 hq => by
    have := rput_any wq hq hW hH ((HP.out.fill0 (by omega) (fun _ => rfl)).fill0 (by omega) (fun _ => rfl)) m k spc 1 f g bd cx cy ca cb
    have mm := (HF.out.mem m k).1 (by omega)
    rw [fput hW hH HP.out h1 (by omega) (by omega) h3 f g bd cx cy ca cb mm.2.2] at this
    exact this
  have HC : Hid (CS 49 71 w K M cap W H c) := h
  obtain ⟨X, hX⟩ : ∃ z : Nat → Ce, (fun _ => bk (kn f) (kn g) (bo bd)) = z := ⟨_, rfl⟩
  rw [hX] at PT ⊢
  clear hX
  unfold rv at C1 C2 PT ⊢
  unfold sv at PT ⊢
  simp only at C1 C2
  have k0 := h.k0
  have k1 := h.k1
  have kl := h.klt
  have ml := h.cv.lt
  clear h
  go_enter Try.func36, Try.ntmps36
  go_wp2_with fail
  obtain ⟨S, hS⟩ : ∃ z, w.heap.size = z := ⟨_, rfl⟩
  have HS : Hid (w.heap.size = S) := hS
  obtain ⟨W0, hW0⟩ : ∃ z, ((w.alloc (.cells #[.int .i64 x, .int .i64 y, .int .i64 a, .int .i64 b] 54)).alloc (.cells #[.int .i64 f, .int .i64 g, .int .i64 bd] 23)).alloc (.cells #[.int .i64 cx, .int .i64 cy, .int .i64 ca, .int .i64 cb] 54) = z := ⟨_, rfl⟩
  have G0 : Hid (Gr w W0) := by rw [← hW0]; exact (((Gr.refl w).alloc _).alloc _).alloc _
  have RA : Hid (R4 54 W0 S x y a b) := by rw [← hW0, ← hS]; exact (R4.new w _ _ _ _ _).gr (((Gr.refl _).alloc _).alloc _)
  have RS : Hid (R3 23 W0 (S + 1) f g bd) := by
    have := R3.new (w.alloc (.cells #[.int .i64 x, .int .i64 y, .int .i64 a, .int .i64 b] 54)) f g bd 23
    simp only [World.size_alloc, hS] at this
    rw [← hW0]; exact this.gr ((Gr.refl _).alloc _)
  have RB : Hid (R4 54 W0 (S + 1 + 1) cx cy ca cb) := by
    have := R4.new ((w.alloc (.cells #[.int .i64 x, .int .i64 y, .int .i64 a, .int .i64 b] 54)).alloc (.cells #[.int .i64 f, .int .i64 g, .int .i64 bd] 23)) cx cy ca cb 54
    simp only [World.size_alloc, hS] at this
    rw [← hW0]; exact this
  have C0 : Hid (CS 49 71 W0 K M cap W H c) := HC.out.gr G0.out
  have HKS : Hid (K < S ∧ M < S) := by rw [← hS]; exact ⟨kl, ml⟩
  rw [hW0, hS]
  clear hW0 hS k0 k1 kl ml
  have k0 := C0.out.k0
  have k1 := C0.out.k1
  have kl := C0.out.klt
  have a0 := RA.out.c0
  have a1 := RA.out.c1
  have a2 := RA.out.c2
  have a3 := RA.out.c3
  have al := RA.out.lt
  have b0 := RB.out.c0
  have b1 := RB.out.c1
  have b2 := RB.out.c2
  have b3 := RB.out.c3
  have bl := RB.out.lt
  go_cut [8] from 11 to 23 (fun p wx => ∃ P, p = .pointer (some ⟨P, 0, none⟩) ∧ Hid (R4 54 wx P L T U V ∧ Gr W0 wx ∧ W0.heap.size ≤ P))
  case first =>
    go_region_held (fun W_ => W_.cell? ⟨S, 0, none⟩ = some (.int .i64 x) ∧ W_.cell? ⟨S, 1, none⟩ = some (.int .i64 y) ∧ W_.cell? ⟨S, 2, none⟩ = some (.int .i64 a) ∧ W_.cell? ⟨S, 3, none⟩ = some (.int .i64 b) ∧ W_.cell? ⟨S + 1 + 1, 0, none⟩ = some (.int .i64 cx) ∧ W_.cell? ⟨S + 1 + 1, 1, none⟩ = some (.int .i64 cy) ∧ W_.cell? ⟨S + 1 + 1, 2, none⟩ = some (.int .i64 ca) ∧ W_.cell? ⟨S + 1 + 1, 3, none⟩ = some (.int .i64 cb) ∧ W_.cell? ⟨K, 0, none⟩ = some (.int .i64 W) ∧ W_.cell? ⟨K, 1, none⟩ = some (.int .i64 H)) (first | go_keep | exact ⟨keep4 m2_0 (by omega) _ _ _ _, keep4 m2_1 (by omega) _ _ _ _, keep4 m2_2 (by omega) _ _ _ _, keep4 m2_3 (by omega) _ _ _ _, keep4 n2_0 (by omega) _ _ _ _, keep4 n2_1 (by omega) _ _ _ _, keep4 n2_2 (by omega) _ _ _ _, keep4 n2_3 (by omega) _ _ _ _, keep4 kk2 (by omega) _ _ _ _, keep4 kj2 (by omega) _ _ _ _⟩) (first | (go_at_call 50; (with_reducible refine Calls.mono (C1 _) ?_); rintro e w1 ⟨rfl, gq1⟩; have HG1 : Hid (Gr W0 w1) := (by first | exact gq1 | exact ((Gr.refl W0).drew).trans gq1 | exact ((Gr.refl W0).alloc _).trans gq1 | exact (((Gr.refl W0).alloc _).drew).trans gq1 | exact (((Gr.refl W0).drew).alloc _).trans gq1); have m1_0 := (RA.out.gr HG1.out).c0; have m1_1 := (RA.out.gr HG1.out).c1; have m1_2 := (RA.out.gr HG1.out).c2; have m1_3 := (RA.out.gr HG1.out).c3; have ml1 := (RA.out.gr HG1.out).lt; have n1_0 := (RB.out.gr HG1.out).c0; have n1_1 := (RB.out.gr HG1.out).c1; have n1_2 := (RB.out.gr HG1.out).c2; have n1_3 := (RB.out.gr HG1.out).c3; have nl1 := (RB.out.gr HG1.out).lt; have kk1 := (C0.out.gr HG1.out).k0; have kj1 := (C0.out.gr HG1.out).k1; have kz1 := (C0.out.gr HG1.out).klt; (first | (have Z1 : Hid (R4 54 w1 _ 0 0 0 0) := (R4.new _ 0 0 0 0 54).gr gq1; have z1_0 := Z1.out.c0; have y1_0 := Z1.out.fz 0; have z1_1 := Z1.out.c1; have y1_1 := Z1.out.fz 1; have z1_2 := Z1.out.c2; have y1_2 := Z1.out.fz 2; have z1_3 := Z1.out.c3; have y1_3 := Z1.out.fz 3; have x1 := Z1.out.lt) | (have Z1 : Hid (R4 54 w1 _ 0 0 0 0) := ((R4.new _ 0 0 0 0 54).gr ((Gr.refl _).drew)).gr gq1; have z1_0 := Z1.out.c0; have y1_0 := Z1.out.fz 0; have z1_1 := Z1.out.c1; have y1_1 := Z1.out.fz 1; have z1_2 := Z1.out.c2; have y1_2 := Z1.out.fz 2; have z1_3 := Z1.out.c3; have y1_3 := Z1.out.fz 3; have x1 := Z1.out.lt) | skip); clear gq1) | (go_at_call 50; (with_reducible refine Calls.mono (C2 _) ?_); rintro e w2 ⟨rfl, gq2⟩; have HG2 : Hid (Gr W0 w2) := (by first | exact HG1.out.trans gq2 | exact (HG1.out.alloc _).trans gq2); have m2_0 := (RA.out.gr HG2.out).c0; have m2_1 := (RA.out.gr HG2.out).c1; have m2_2 := (RA.out.gr HG2.out).c2; have m2_3 := (RA.out.gr HG2.out).c3; have ml2 := (RA.out.gr HG2.out).lt; have n2_0 := (RB.out.gr HG2.out).c0; have n2_1 := (RB.out.gr HG2.out).c1; have n2_2 := (RB.out.gr HG2.out).c2; have n2_3 := (RB.out.gr HG2.out).c3; have nl2 := (RB.out.gr HG2.out).lt; have kk2 := (C0.out.gr HG2.out).k0; have kj2 := (C0.out.gr HG2.out).k1; have kz2 := (C0.out.gr HG2.out).klt; (first | (have Z2 : Hid (R4 54 w2 _ 0 0 0 0) := Z1.out.gr gq2; have z2_0 := Z2.out.c0; have y2_0 := Z2.out.fz 0; have z2_1 := Z2.out.c1; have y2_1 := Z2.out.fz 1; have z2_2 := Z2.out.c2; have y2_2 := Z2.out.fz 2; have z2_3 := Z2.out.c3; have y2_3 := Z2.out.fz 3; have x2 := Z2.out.lt) | (have Z2 : Hid (R4 54 w2 _ 0 0 0 0) := (R4.new _ 0 0 0 0 54).gr gq2; have z2_0 := Z2.out.c0; have y2_0 := Z2.out.fz 0; have z2_1 := Z2.out.c1; have y2_1 := Z2.out.fz 1; have z2_2 := Z2.out.c2; have y2_2 := Z2.out.fz 2; have z2_3 := Z2.out.c3; have y2_3 := Z2.out.fz 3; have x2 := Z2.out.lt) | skip); clear gq2))
    all_goals
      go_wp2_with fail
      go_meet
      first
        | exact ⟨_, rfl, Z2.out.set _ _ _ _, HG2.out.set4 (Nat.le_refl _) _ _ _ _, Nat.le_refl _⟩
        | exact ⟨_, rfl, Z2.out.set _ _ _ _, HG2.out.set4 HG1.out.size _ _ _ _, HG1.out.size⟩
        | exact ⟨_, rfl, R4.new _ _ _ _ _ _, HG2.out.alloc _, HG2.out.size⟩
  case rest =>
    obtain ⟨P, rfl, HR0⟩ := hcut
    have HMP : Hid (M < P) := by
      have h1 := HR0.out.2.2
      have h2 := C0.out.cv.lt
      show M < P
      omega
    have F0 : Hid (FB w wc K M cap W H c S P f g bd cx cy ca cb L T U V) := ⟨C0.out.gr HR0.out.2.1, RS.out.gr HR0.out.2.1, RB.out.gr HR0.out.2.1, HR0.out.1, Ch.gr (G0.out.trans HR0.out.2.1)⟩
    clear HR0 RA RB RS C0 G0 C1 C2 k0 k1 kl a0 a1 a2 a3 al b0 b1 b2 b3 bl
    have r1 := F0.out.al.c1
    go_wp2_with fail
    clear r1
    go_loopw [9] (fun iv wi => ∃ k : Nat, T ≤ k ∧ k ≤ T + V ∧ iv = .int .i64 k ∧ Hid (FB w wi K M cap W H (fill c L (L + U) T k X) S P f g bd cx cy ca cb L T U V)) (fun iv _ => T + V - (intOf iv).toNat)
    case atStart => exact ⟨T, Nat.le_refl _, by omega, rfl, by rw [fill_none (by omega)]; exact F0.out⟩
    case round =>
      obtain ⟨k, hk1, hk2, rfl, HR⟩ := hrel
      have r0 := HR.out.al.c0
      have r1 := HR.out.al.c1
      have r3 := HR.out.al.c3
      by_cases hk : k < T + V
      · have hk' : (k : Int) < (T : Int) + (V : Int) := by omega
        go_wp2_with fail
        clear r0 r1 r3
        go_loopw [10] (fun iv wi => ∃ m : Nat, L ≤ m ∧ m ≤ L + U ∧ iv = .int .i64 m ∧ Hid (FB w wi K M cap W H (fill (fill c L (L + U) T k X) L m k (k + 1) X) S P f g bd cx cy ca cb L T U V)) (fun iv _ => L + U - (intOf iv).toNat)
        case atStart => exact ⟨L, Nat.le_refl _, by omega, rfl, by rw [fill_none (c := fill c L (L + U) T k X) (by omega)]; exact HR.out⟩
        case round =>
          obtain ⟨m, hm1, hm2, rfl, HI⟩ := hrel
          have q0 := HI.out.al.c0
          have q2 := HI.out.al.c2
          have s0 := HI.out.st.c0
          have s1 := HI.out.st.c1
          have s2 := HI.out.st.c2
          have t0 := HI.out.rc.c0
          have t1 := HI.out.rc.c1
          have t2 := HI.out.rc.c2
          have t3 := HI.out.rc.c3
          by_cases hm : m < L + U
          · have hm' : (m : Int) < (L : Int) + (U : Int) := by omega
            have PK : Hid (∀ wq, _ → _) := fun wq hq => PT.out k m wq hm1 hm hk1 hk hq
            go_wp2_with (go_at_call 35; refine Calls.mono (PK.out _ HI.out.cs) ?_; rintro e1 w3 ⟨rfl, V3, C3⟩; have B3 : Hid (FB w w3 K M cap W H (fill (fill c L (L + U) T k X) L (m + 1) k (k + 1) X) S P f g bd cx cy ca cb L T U V) := HI.out.cells HKS.out.2 HMP.out C3 V3; clear V3 C3)
            go_roundw
            case rel => exact ⟨m + 1, by omega, by omega, by go_num, B3.out⟩
            case measure => simp [intOf]; omega
          · have hm' : ¬ (m : Int) < (L : Int) + (U : Int) := by omega
            obtain rfl : m = L + U := by omega
            go_wp2_with fail
            go_roundw
            case rel => exact ⟨k + 1, by omega, by omega, by go_num, by have := HI.out; rw [fill_next hk1] at this; exact this⟩
            case measure => simp [intOf]; omega
      · have hk' : ¬ (k : Int) < (T : Int) + (V : Int) := by omega
        obtain rfl : k = T + V := by omega
        go_wp2_with fail
        go_end0
        exact ⟨rfl, HR.out.cs.cv, HR.out.gr⟩
end
end Go.Proofs.Ytkcddikpjblpaag
