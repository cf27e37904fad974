/-
  CanvasSeen: a cluster of one column.
-/
import Derived.Test.YtepkoiijdckcnahCSeen
namespace Go.Proofs.Ytepkoiijdckcnah
open Go.RowKit Go.Sort
set_option linter.unusedVariables false

set_option maxRecDepth 100000 in
set_option maxHeartbeats 16000000 in
theorem seen_ok1 (W H : Nat) (hW : 1 ≤ W ∧ W ≤ 400) (hH : 1 ≤ H ∧ H ≤ 400) (v : Value) (n : Nat) (op : Nat → OpR) (w : World) (h : OpsIn w v n op) (hn : n ≤ 17592186044416) (x y : Int) (sx : ByteArray) (f g b0 : Int) (hb1 : -9223372036854775808 ≤ x ∧ x ≤ 9223372036854775807) :
    Calls Try.prog 3 #[.int .i64 W, .int .i64 H, v, .int .i64 x, .int .i64 y, .string sx, .bool false, sv f g b0] w fun e w' => e = .returned (.bool true) ∧ Below w.heap.size w w' := by
  have EO : Hid (∀ w, Calls Try.prog 4 #[.int .i64 W, .int .i64 H] w fun e w' => ∃ K M, e = .returned (.tuple #[.pointer (some ⟨K, 0, none⟩), .bool true]) ∧ CS 62 42 w' K M (W * H) W H (fun _ _ => bk 0 0 0) ∧ w.heap.size ≤ K ∧ w.heap.size ≤ M ∧ Below w.heap.size w w') := fun w => easel_ok W H w hW hH
  have LK : Hid (∀ f g b w, Calls Try.prog 7 #[sv f g b] w fun e w' => e = .returned (sv f g b) ∧ Gr w w') := look_any
  have SD : Hid (∀ f g b w, Calls Try.prog 9 #[sv f g b] w fun e w' => e = .returned (sv (kn f) (kn g) (bo b)) ∧ Gr w w') := sound_any
  have PU : Hid (∀ w0 K M c, CS 62 42 w0 K M (W * H) W H c → PAll W H c → ∀ (x y : Int) (txt : ByteArray) (wd f g b cx cy ca cb : Int), Calls Try.prog 6 #[.pointer (some ⟨K, 0, none⟩), .int .i64 x, .int .i64 y, .agg #[.string txt, .int .i64 wd], sv f g b, rv cx cy ca cb] w0 fun e w' => e = .returned (.tuple #[]) ∧ Cv 42 w' M W H (putC W H c x y txt wd f g b cx cy ca cb) ∧ Ch M w0 w') := fun w0 K M c h0 hp x y txt wd f g b cx cy ca cb => put_any w0 h0 hW hH hp x y txt wd f g b cx cy ca cb
  obtain ⟨av, cv, rfl, hh⟩ := h
  have HH : Hid (n = 0 ∨ ∃ b off, av = some ⟨b, off, none⟩ ∧ b < w.heap.size ∧ ∀ i, i < n →
    w.cell? ⟨b, off + i * 6, none⟩ = some (.int .i64 (op i).kd) ∧ w.cell? ⟨b, off + i * 6 + 1, none⟩ = some (.int .i64 (op i).a) ∧ w.cell? ⟨b, off + i * 6 + 2, none⟩ = some (.int .i64 (op i).b) ∧ w.cell? ⟨b, off + i * 6 + 3, none⟩ = some (.string (op i).s) ∧ w.cell? ⟨b, off + i * 6 + 4, none⟩ = some (.string (op i).t) ∧ w.cell? ⟨b, off + i * 6 + 5, none⟩ = some (.slice (op i).p (op i).zs.length (op i).m) ∧
    Ints w (.slice (op i).p (op i).zs.length (op i).m) (op i).zs) := hh
  clear hh
  obtain ⟨N, hN⟩ : ∃ N, W * H = N := ⟨_, rfl⟩
  have eN : (W : Int) * (H : Int) = (N : Int) := by rw [← hN]; simp
  have HN : Hid (W * H = N) := hN
  have nb : 1 ≤ N ∧ N ≤ 160000 := by rw [← hN]; exact ⟨Nat.mul_le_mul hW.1 hH.1, Nat.mul_le_mul hW.2 hH.2⟩
  clear hN
  unfold sv at LK SD PU ⊢
  unfold rv at PU
  obtain ⟨S, hS⟩ : ∃ z, w.heap.size = z := ⟨_, rfl⟩
  have HS : Hid (w.heap.size = S) := hS
  go_enter Try.func3, Try.ntmps3
  go_wp2_with fail
  obtain ⟨W0, hW0⟩ : ∃ z, w.alloc (.cells #[.int .i64 f, .int .i64 g, .int .i64 b0] 24) = z := ⟨_, rfl⟩
  have G0 : Hid (Gr w W0) := by rw [← hW0]; exact (Gr.refl w).alloc _
  have R0 : Hid (R3 24 W0 S f g b0) := by rw [← hW0, ← hS]; exact R3.new w _ _ _ _
  have Z0 : Hid (W0.heap.size = S + 1) := by show W0.heap.size = S + 1; rw [← hW0, World.size_alloc, hS]
  rw [hW0]
  clear hW0 hS
  refine Calls.mono (EO.out _) ?_
  rintro e w1 ⟨K, M, rfl, hcs, hk, hm, hb⟩
  rw [Z0.out] at hk hm hb
  have HC : Hid (CS 62 42 w1 K M (W * H) W H (play W H op 0) ∧ S + 1 ≤ K ∧ S + 1 ≤ M ∧ Below (S + 1) W0 w1) := ⟨hcs, hk, hm, hb⟩
  clear hcs hk hm hb EO
  go_wp2_with fail
  go_loopw [19] (fun iv wr => ∃ i : Nat, i ≤ n ∧ iv = .int .i64 i ∧ Hid (CS 62 42 wr K M (W * H) W H (play W H op i) ∧ Below (S + 1) W0 wr)) (fun iv _ => n - (intOf iv).toNat)
  case atStart => exact ⟨0, by omega, rfl, HC.out.1, HC.out.2.2.2⟩
  case round =>
    obtain ⟨i, hi, rfl, HR⟩ := hrel
    have HBW : Hid (Below w.heap.size w wr) := G0.out.below.trans (HR.out.2.mono (by rw [HS.out]; omega))
    by_cases hlt : i < n
    · have hlt' : (i : Int) < (n : Int) := by omega
      have hlm : (i : Int) < 1152921504606846976 := by omega
      rcases HH.out with h0 | ⟨bb, off, rfl, hbb, hcell⟩
      · omega
      obtain ⟨p0, p1, p2, p3, p4, p5, p6⟩ := hcell i hlt
      have bel := HBW.out
      have q0 := (bel.cell (p := ⟨bb, off + i * 6, none⟩) hbb).trans p0
      have q1 := (bel.cell (p := ⟨bb, off + i * 6 + 1, none⟩) hbb).trans p1
      have q2 := (bel.cell (p := ⟨bb, off + i * 6 + 2, none⟩) hbb).trans p2
      have q3 := (bel.cell (p := ⟨bb, off + i * 6 + 3, none⟩) hbb).trans p3
      have q4 := (bel.cell (p := ⟨bb, off + i * 6 + 4, none⟩) hbb).trans p4
      have q5 := (bel.cell (p := ⟨bb, off + i * 6 + 5, none⟩) hbb).trans p5
      have DR : Hid (Calls Try.prog 5 #[.pointer (some ⟨K, 0, none⟩), opv (op i).kd (op i).a (op i).b (op i).s (op i).t (.slice (op i).p (op i).zs.length (op i).m)] wr fun e w' => e = .returned (.tuple #[]) ∧ Cv 42 w' M W H (play W H op (i + 1)) ∧ Ch M wr w') := drawn_any wr HR.out.1 hW hH (play_pairs op hW hH i) _ _ _ _ _ _ _ _ (p6.below bel)
      obtain ⟨r, hr⟩ : ∃ r, op i = r := ⟨_, rfl⟩
      rw [hr] at q0 q1 q2 q3 q4 q5 DR
      obtain ⟨kd, a, b, s, t, p, m, zs⟩ := r
      simp only at q0 q1 q2 q3 q4 q5 DR
      obtain ⟨ln, hln⟩ : ∃ z, zs.length = z := ⟨_, rfl⟩
      rw [hln] at q5 DR
      unfold opv at DR
      clear p0 p1 p2 p3 p4 p5 p6 hcell hr hln bel
      go_wp2_with (go_at_call 5; refine Calls.mono DR.out ?_; rintro e2 w2 ⟨rfl, V2, C2⟩; have HV2 : Hid (CS 62 42 w2 K M (W * H) W H (play W H op (i + 1)) ∧ Below (S + 1) W0 w2) := (⟨HR.out.1.put C2 V2, C2.low HC.out.2.2.1 (by have := HR.out.2.size; rw [Z0.out] at this; exact this) HR.out.2⟩ : _ ∧ _); clear V2 C2)
      go_roundw
      case rel => exact ⟨i + 1, by omega, by go_num, HV2.out⟩
      case measure => simp [intOf]; omega
    · have hlt' : ¬ (i : Int) < (n : Int) := by omega
      obtain ⟨c, hc⟩ : ∃ c, play W H op i = c := ⟨_, rfl⟩
      have HPA : Hid (PAll W H c) := by rw [← hc]; exact play_pairs op hW hH i
      rw [hc] at HR
      clear hc
      have hsz : Hid (S + 1 ≤ wr.heap.size) := (by have := HR.out.2.size; rw [Z0.out] at this; exact this : S + 1 ≤ wr.heap.size)
      by_cases hin : 0 ≤ x ∧ 0 ≤ y ∧ x < W ∧ y < H ∧ x + 1 ≤ W
      · obtain ⟨hx0, hy0, hxW, hyH, hxw⟩ := hin
        have g1 : ¬ x < 0 := by omega
        have g2 : ¬ y < 0 := by omega
        have g3 : ¬ (W : Int) ≤ x := by omega
        have g4 : ¬ (H : Int) ≤ y := by omega
        have g5 : ¬ (W : Int) < x + 1 := by omega
        obtain ⟨Y, hY⟩ : ∃ z, wr.heap.size = z := ⟨_, rfl⟩
        obtain ⟨W2, hW2⟩ : ∃ z, (wr.alloc (.cells #[.string sx, .int .i64 1] 33)).alloc (.cells #[.int .i64 0, .int .i64 0, .int .i64 W, .int .i64 H] 35) = z := ⟨_, rfl⟩
        have T2 : Hid (RCl 33 W2 Y sx 1 ∧ R3 24 W2 S f g b0 ∧ R4 35 W2 (Y + 1) 0 0 W H) := by
          have hs0 : R3 24 wr S f g b0 := (HR.out.2.block S (by omega)).trans R0.out
          rw [← hW2, ← hY]
          refine ⟨(RCl.new _ _ _ _).gr ((Gr.refl _).alloc _), hs0.gr (((Gr.refl _).alloc _).alloc _), ?_⟩
          have := R4.new (wr.alloc (.cells #[.string sx, .int .i64 1] 33)) 0 0 W H 35
          simp only [World.size_alloc] at this
          exact this
        have G2 : Hid (Gr wr W2) := by rw [← hW2]; exact ((Gr.refl _).alloc _).alloc _
        have MY : Hid (M < Y ∧ S + 1 ≤ M ∧ S + 1 ≤ Y) := by rw [← hY]; exact ⟨HR.out.1.cv.lt, HC.out.2.2.1, hsz.out⟩
        obtain ⟨c1, hc1⟩ : ∃ z, putC W H c x y sx 1 f g b0 0 0 W H = z := ⟨_, rfl⟩
        have HP1 : Hid (PAll W H c1) := by rw [← hc1]; exact HPA.out.putX hW hH _ _ _ _ _ _ _ _ _ _ _
        have HC1 : Hid (c1 = fill c x.toNat (x + 1).toNat y.toNat (y + 1).toNat (gly x.toNat 1 sx (kn f) (kn g) (bo b0))) := by show _ = _; rw [← hc1]; exact put_whole hW hH x y 1 (by omega) (by omega) (by omega) sx f g b0
        have HC2 : Hid (putC W H c1 x y sx 1 f g b0 0 0 W H = c1) := by
          show _ = _
          rw [put_whole hW hH x y 1 (by omega) (by omega) (by omega) sx f g b0, HC1.out]
          exact put_again x y 1 (by omega) hx0 sx _ _ _
        have PU1 : Hid (∀ w0, CS 62 42 w0 K M (W * H) W H c → Calls Try.prog 6 #[.pointer (some ⟨K, 0, none⟩), .int .i64 x, .int .i64 y, .agg #[.string sx, .int .i64 1], .agg #[.int .i64 f, .int .i64 g, .int .i64 b0], .agg #[.int .i64 0, .int .i64 0, .int .i64 W, .int .i64 H]] w0 fun e w' => e = .returned (.tuple #[]) ∧ Cv 42 w' M W H c1 ∧ Ch M w0 w') := fun w0 h0 => by
          have := PU.out w0 K M c h0 HPA.out x y sx 1 f g b0 0 0 W H
          rw [hc1] at this; exact this
        have PU2 : Hid (∀ w0, CS 62 42 w0 K M (W * H) W H c1 → Calls Try.prog 6 #[.pointer (some ⟨K, 0, none⟩), .int .i64 x, .int .i64 y, .agg #[.string sx, .int .i64 1], .agg #[.int .i64 f, .int .i64 g, .int .i64 b0], .agg #[.int .i64 0, .int .i64 0, .int .i64 W, .int .i64 H]] w0 fun e w' => e = .returned (.tuple #[]) ∧ Cv 42 w' M W H c1 ∧ Ch M w0 w') := fun w0 h0 => by
          have := PU.out w0 K M c1 h0 HP1.out x y sx 1 f g b0 0 0 W H
          rw [HC2.out] at this; exact this
        have PU3 : Hid (∀ w0, CS 62 42 w0 K M (W * H) W H c1 → Calls Try.prog 6 #[.pointer (some ⟨K, 0, none⟩), .int .i64 x, .int .i64 y, .agg #[.string ⟨#[122]⟩, .int .i64 1], .agg #[.int .i64 f, .int .i64 g, .int .i64 b0], .agg #[.int .i64 (x + 3), .int .i64 y, .int .i64 9, .int .i64 9]] w0 fun e w' => e = .returned (.tuple #[]) ∧ Cv 42 w' M W H c1 ∧ Ch M w0 w') := fun w0 h0 => by
          have := PU.out w0 K M c1 h0 HP1.out x y ⟨#[122]⟩ 1 f g b0 (x + 3) y 9 9
          rw [put_aside hW hH x y (by omega)] at this; exact this
        have PU4 : Hid (∀ w0, CS 62 42 w0 K M (W * H) W H c1 → Calls Try.prog 6 #[.pointer (some ⟨K, 0, none⟩), .int .i64 x, .int .i64 y, .agg #[.string ⟨#[122]⟩, .int .i64 3], .agg #[.int .i64 f, .int .i64 g, .int .i64 b0], .agg #[.int .i64 0, .int .i64 0, .int .i64 W, .int .i64 H]] w0 fun e w' => e = .returned (.tuple #[]) ∧ Cv 42 w' M W H c1 ∧ Ch M w0 w') := fun w0 h0 => by
          have := PU.out w0 K M c1 h0 HP1.out x y ⟨#[122]⟩ 3 f g b0 0 0 W H
          rw [put_three] at this; exact this
        clear hc1
        have q0 := T2.out.1.c0
        have q1 := T2.out.1.c1
        have q2 := T2.out.2.1.c0
        have q3 := T2.out.2.1.c1
        have q4 := T2.out.2.1.c2
        have q5 := T2.out.2.2.c0
        have q6 := T2.out.2.2.c1
        have q7 := T2.out.2.2.c2
        have q8 := T2.out.2.2.c3
        have xb : x ≤ 400 ∧ y ≤ 400 := by omega
        go_wp2_with fail
        clear hW2 hY
        go_region_held (fun W_ => W_.cell? ⟨Y, 0, none⟩ = some (.string sx) ∧ W_.cell? ⟨Y, 1, none⟩ = some (.int .i64 1) ∧ W_.cell? ⟨S, 0, none⟩ = some (.int .i64 f) ∧ W_.cell? ⟨S, 1, none⟩ = some (.int .i64 g) ∧ W_.cell? ⟨S, 2, none⟩ = some (.int .i64 b0) ∧ W_.cell? ⟨Y + 1, 0, none⟩ = some (.int .i64 0) ∧ W_.cell? ⟨Y + 1, 1, none⟩ = some (.int .i64 0) ∧ W_.cell? ⟨Y + 1, 2, none⟩ = some (.int .i64 W) ∧ W_.cell? ⟨Y + 1, 3, none⟩ = some (.int .i64 H)) (go_keep) (first | (go_at_call 7; refine Calls.mono (LK.out _ _ _ _) ?_; rintro e3 w3 ⟨rfl, g3⟩; have G3 : Hid (Gr W2 w3) := (by first | exact ((Gr.refl W2).drew).trans g3 | exact g3); have T3 : Hid (RCl 33 w3 Y sx 1 ∧ R3 24 w3 S f g b0 ∧ R4 35 w3 (Y + 1) 0 0 W H) := (⟨T2.out.1.gr G3.out, T2.out.2.1.gr G3.out, T2.out.2.2.gr G3.out⟩ : _ ∧ _ ∧ _); clear g3; have r0 := T3.out.1.c0; have r1 := T3.out.1.c1; have r2 := T3.out.2.1.c0; have r3 := T3.out.2.1.c1; have r4 := T3.out.2.1.c2; have r5 := T3.out.2.2.c0; have r6 := T3.out.2.2.c1; have r7 := T3.out.2.2.c2; have r8 := T3.out.2.2.c3) | (go_at_call 6; refine Calls.mono (PU1.out _ (HR.out.1.gr (G2.out.trans G3.out))) ?_; rintro e4 w4 ⟨rfl, V4, C4⟩; have H4 : Hid (CS 62 42 w4 K M (W * H) W H c1 ∧ Below (S + 1) W0 w4) := (⟨(HR.out.1.gr (G2.out.trans G3.out)).put C4 V4, C4.low MY.out.2.1 (by have := (G2.out.trans G3.out).size; have := hsz.out; omega) (HR.out.2.trans ((G2.out.trans G3.out).below.mono hsz.out))⟩ : _ ∧ _); have T4 : Hid (RCl 33 w4 Y sx 1 ∧ R3 24 w4 S f g b0 ∧ R4 35 w4 (Y + 1) 0 0 W H) := (⟨T3.out.1.ch C4 (by have := MY.out; omega), T3.out.2.1.ch C4 (by have := MY.out; omega), T3.out.2.2.ch C4 (by have := MY.out; omega)⟩ : _ ∧ _ ∧ _); clear V4 C4; have s0 := T4.out.1.c0; have s1 := T4.out.1.c1; have s2 := T4.out.2.1.c0; have s3 := T4.out.2.1.c1; have s4 := T4.out.2.1.c2; have s5 := T4.out.2.2.c0; have s6 := T4.out.2.2.c1; have s7 := T4.out.2.2.c2; have s8 := T4.out.2.2.c3))
        have PC1 : Hid (∀ w, CS 62 42 w K M (W * H) W H c1 → Calls Try.prog 8 #[.pointer (some ⟨K, 0, none⟩)] w fun e w' => ∃ N' cap', e = .returned (.slice (some ⟨N', 0, none⟩) N cap') ∧ Cv 42 w' N' W H c1 ∧ w.heap.size ≤ N' ∧ Below w.heap.size w w') := fun w h => by
          have := cells_any w h hW hH
          rw [HN.out] at this; exact this
        have hz4 : Hid (S + 1 ≤ w4.heap.size) := (by have := H4.out.2.size; rw [Z0.out] at this; exact this : S + 1 ≤ w4.heap.size)
        clear q0 q1 q2 q3 q4 q5 q6 q7 q8 r0 r1 r2 r3 r4 r5 r6 r7 r8 s0 s1 s2 s3 s4 s5 s6 s7 s8 T2 T3 G2 G3 PU1
        go_wp2_with fail
        refine Calls.mono (PC1.out w4 H4.out.1) ?_
        rintro e5 w5 ⟨N1, cap1, rfl, V5, hN5, B5⟩
        have H5 : Hid (CS 62 42 w5 K M (W * H) W H c1 ∧ Below (S + 1) W0 w5 ∧ Cv 42 w5 N1 W H c1 ∧ N1 ≠ M ∧ S + 1 ≤ w5.heap.size) := ⟨H4.out.1.below B5, H4.out.2.trans (B5.mono hz4.out), V5, by have := H4.out.1.cv.lt; omega, by have := hz4.out; have := B5.size; omega⟩
        have T5 : Hid (RCl 33 w5 Y sx 1 ∧ R3 24 w5 S f g b0 ∧ R4 35 w5 (Y + 1) 0 0 W H) := ⟨(B5.block _ T4.out.1.lt).trans T4.out.1, (B5.block _ T4.out.2.1.lt).trans T4.out.2.1, (B5.block _ T4.out.2.2.lt).trans T4.out.2.2⟩
        clear V5 hN5 B5 T4 H4 hz4
        have q0 := T5.out.1.c0
        have q1 := T5.out.1.c1
        have q2 := T5.out.2.1.c0
        have q3 := T5.out.2.1.c1
        have q4 := T5.out.2.1.c2
        have q5 := T5.out.2.2.c0
        have q6 := T5.out.2.2.c1
        have q7 := T5.out.2.2.c2
        have q8 := T5.out.2.2.c3
        go_wp2_with fail
        go_region_held (fun W_ => W_.cell? ⟨Y, 0, none⟩ = some (.string sx) ∧ W_.cell? ⟨Y, 1, none⟩ = some (.int .i64 1) ∧ W_.cell? ⟨S, 0, none⟩ = some (.int .i64 f) ∧ W_.cell? ⟨S, 1, none⟩ = some (.int .i64 g) ∧ W_.cell? ⟨S, 2, none⟩ = some (.int .i64 b0) ∧ W_.cell? ⟨Y + 1, 0, none⟩ = some (.int .i64 0) ∧ W_.cell? ⟨Y + 1, 1, none⟩ = some (.int .i64 0) ∧ W_.cell? ⟨Y + 1, 2, none⟩ = some (.int .i64 W) ∧ W_.cell? ⟨Y + 1, 3, none⟩ = some (.int .i64 H)) (go_keep) (first | (go_at_call 7; refine Calls.mono (LK.out _ _ _ _) ?_; rintro e6 w6 ⟨rfl, g6⟩; have G6 : Hid (Gr w5 w6) := (by first | exact ((Gr.refl w5).drew).trans g6 | exact g6); have T6 : Hid (RCl 33 w6 Y sx 1 ∧ R3 24 w6 S f g b0 ∧ R4 35 w6 (Y + 1) 0 0 W H) := (⟨T5.out.1.gr G6.out, T5.out.2.1.gr G6.out, T5.out.2.2.gr G6.out⟩ : _ ∧ _ ∧ _); clear g6; have r0 := T6.out.1.c0; have r1 := T6.out.1.c1; have r2 := T6.out.2.1.c0; have r3 := T6.out.2.1.c1; have r4 := T6.out.2.1.c2; have r5 := T6.out.2.2.c0; have r6 := T6.out.2.2.c1; have r7 := T6.out.2.2.c2; have r8 := T6.out.2.2.c3) | (go_at_call 6; refine Calls.mono (PU2.out _ (H5.out.1.gr G6.out)) ?_; rintro e7 w7 ⟨rfl, V7, C7⟩; have H7 : Hid (CS 62 42 w7 K M (W * H) W H c1 ∧ Below (S + 1) W0 w7 ∧ Cv 42 w7 N1 W H c1 ∧ S + 1 ≤ w7.heap.size) := (⟨(H5.out.1.gr G6.out).put C7 V7, C7.low MY.out.2.1 (by have := G6.out.size; have := H5.out.2.2.2.2; omega) (H5.out.2.1.trans (G6.out.below.mono H5.out.2.2.2.2)), (H5.out.2.2.1.gr G6.out).ch C7 H5.out.2.2.2.1, (by have := C7.size; have := G6.out.size; have := H5.out.2.2.2.2; omega)⟩ : _ ∧ _ ∧ _ ∧ _); have T7 : Hid (RCl 33 w7 Y sx 1 ∧ R3 24 w7 S f g b0 ∧ R4 35 w7 (Y + 1) 0 0 W H) := (⟨T6.out.1.ch C7 (by have := MY.out; omega), T6.out.2.1.ch C7 (by have := MY.out; omega), T6.out.2.2.ch C7 (by have := MY.out; omega)⟩ : _ ∧ _ ∧ _); clear V7 C7; have s0 := T7.out.1.c0; have s1 := T7.out.1.c1; have s2 := T7.out.2.1.c0; have s3 := T7.out.2.1.c1; have s4 := T7.out.2.1.c2; have s5 := T7.out.2.2.c0; have s6 := T7.out.2.2.c1; have s7 := T7.out.2.2.c2; have s8 := T7.out.2.2.c3))
        clear q0 q1 q2 q3 q4 q5 q6 q7 q8 r0 r1 r2 r3 r4 r5 r6 r7 r8 s0 s1 s2 s3 s4 s5 s6 s7 s8 T5 T6 G6 PU2
        have s2 := T7.out.2.1.c0
        have s3 := T7.out.2.1.c1
        have s4 := T7.out.2.1.c2
        go_wp2_with fail
        refine Calls.mono (LK.out _ _ _ _) ?_
        rintro e8 w8 ⟨rfl, g8⟩
        have H8 : Hid (CS 62 42 w8 K M (W * H) W H c1 ∧ Below (S + 1) W0 w8 ∧ Cv 42 w8 N1 W H c1 ∧ S + 1 ≤ w8.heap.size) := ⟨H7.out.1.gr g8, H7.out.2.1.trans (g8.below.mono H7.out.2.2.2), H7.out.2.2.1.gr g8, by have := g8.size; have := H7.out.2.2.2; omega⟩
        have T8 : Hid (RCl 33 w8 Y sx 1 ∧ R3 24 w8 S f g b0 ∧ R4 35 w8 (Y + 1) 0 0 W H) := ⟨T7.out.1.gr g8, T7.out.2.1.gr g8, T7.out.2.2.gr g8⟩
        have NM : Hid (N1 ≠ M) := H5.out.2.2.2.1
        clear g8 s2 s3 s4 H7 T7 H5
        go_wp2_with fail
        refine Calls.mono (PU3.out _ H8.out.1) ?_
        rintro e9 w9 ⟨rfl, V9, C9⟩
        have H9 : Hid (CS 62 42 w9 K M (W * H) W H c1 ∧ Below (S + 1) W0 w9 ∧ Cv 42 w9 N1 W H c1 ∧ S + 1 ≤ w9.heap.size) := ⟨H8.out.1.put C9 V9, C9.low MY.out.2.1 H8.out.2.2.2 H8.out.2.1, H8.out.2.2.1.ch C9 NM.out, by have := C9.size; have := H8.out.2.2.2; omega⟩
        have T9 : Hid (RCl 33 w9 Y sx 1 ∧ R3 24 w9 S f g b0 ∧ R4 35 w9 (Y + 1) 0 0 W H) := ⟨T8.out.1.ch C9 (by have := MY.out; omega), T8.out.2.1.ch C9 (by have := MY.out; omega), T8.out.2.2.ch C9 (by have := MY.out; omega)⟩
        clear V9 C9 H8 T8 PU3
        have q0 := T9.out.1.c0
        have q1 := T9.out.1.c1
        have q2 := T9.out.2.1.c0
        have q3 := T9.out.2.1.c1
        have q4 := T9.out.2.1.c2
        have q5 := T9.out.2.2.c0
        have q6 := T9.out.2.2.c1
        have q7 := T9.out.2.2.c2
        have q8 := T9.out.2.2.c3
        go_wp2_with fail
        go_region_held (fun W_ => W_.cell? ⟨Y, 0, none⟩ = some (.string sx) ∧ W_.cell? ⟨Y, 1, none⟩ = some (.int .i64 1) ∧ W_.cell? ⟨S, 0, none⟩ = some (.int .i64 f) ∧ W_.cell? ⟨S, 1, none⟩ = some (.int .i64 g) ∧ W_.cell? ⟨S, 2, none⟩ = some (.int .i64 b0) ∧ W_.cell? ⟨Y + 1, 0, none⟩ = some (.int .i64 0) ∧ W_.cell? ⟨Y + 1, 1, none⟩ = some (.int .i64 0) ∧ W_.cell? ⟨Y + 1, 2, none⟩ = some (.int .i64 W) ∧ W_.cell? ⟨Y + 1, 3, none⟩ = some (.int .i64 H)) (go_keep) (first | (go_at_call 7; refine Calls.mono (LK.out _ _ _ _) ?_; rintro e6 w6 ⟨rfl, g6⟩; have G6 : Hid (Gr w9 w6) := (by first | exact ((Gr.refl w9).drew).trans g6 | exact g6); have T6 : Hid (RCl 33 w6 Y sx 1 ∧ R3 24 w6 S f g b0 ∧ R4 35 w6 (Y + 1) 0 0 W H) := (⟨T9.out.1.gr G6.out, T9.out.2.1.gr G6.out, T9.out.2.2.gr G6.out⟩ : _ ∧ _ ∧ _); clear g6; have r0 := T6.out.1.c0; have r1 := T6.out.1.c1; have r2 := T6.out.2.1.c0; have r3 := T6.out.2.1.c1; have r4 := T6.out.2.1.c2; have r5 := T6.out.2.2.c0; have r6 := T6.out.2.2.c1; have r7 := T6.out.2.2.c2; have r8 := T6.out.2.2.c3) | (go_at_call 6; refine Calls.mono (PU4.out _ (H9.out.1.gr G6.out)) ?_; rintro e7 w7 ⟨rfl, V7, C7⟩; have H7 : Hid (CS 62 42 w7 K M (W * H) W H c1 ∧ Below (S + 1) W0 w7 ∧ Cv 42 w7 N1 W H c1 ∧ S + 1 ≤ w7.heap.size) := (⟨(H9.out.1.gr G6.out).put C7 V7, C7.low MY.out.2.1 (by have := G6.out.size; have := H9.out.2.2.2; omega) (H9.out.2.1.trans (G6.out.below.mono H9.out.2.2.2)), (H9.out.2.2.1.gr G6.out).ch C7 NM.out, (by have := C7.size; have := G6.out.size; have := H9.out.2.2.2; omega)⟩ : _ ∧ _ ∧ _ ∧ _); have T7 : Hid (RCl 33 w7 Y sx 1 ∧ R3 24 w7 S f g b0 ∧ R4 35 w7 (Y + 1) 0 0 W H) := (⟨T6.out.1.ch C7 (by have := MY.out; omega), T6.out.2.1.ch C7 (by have := MY.out; omega), T6.out.2.2.ch C7 (by have := MY.out; omega)⟩ : _ ∧ _ ∧ _); clear V7 C7; have s0 := T7.out.1.c0; have s1 := T7.out.1.c1; have s2 := T7.out.2.1.c0; have s3 := T7.out.2.1.c1; have s4 := T7.out.2.1.c2; have s5 := T7.out.2.2.c0; have s6 := T7.out.2.2.c1; have s7 := T7.out.2.2.c2; have s8 := T7.out.2.2.c3))
        clear q0 q1 q2 q3 q4 q5 q6 q7 q8 r0 r1 r2 r3 r4 r5 r6 r7 r8 s0 s1 s2 s3 s4 s5 s6 s7 s8 T9 T6 G6 PU4 H9
        go_wp2_with fail
        refine Calls.mono (PC1.out w7 H7.out.1) ?_
        rintro e10 w10 ⟨N2, cap2, rfl, V10, hN10, B10⟩
        have H10 : Hid (Cv 42 w10 N1 W H c1 ∧ Cv 42 w10 N2 W H c1 ∧ Below (S + 1) W0 w10 ∧ R3 24 w10 S f g b0) := ⟨H7.out.2.2.1.below B10, V10, H7.out.2.1.trans (B10.mono H7.out.2.2.2), (B10.block _ T7.out.2.1.lt).trans T7.out.2.1⟩
        clear V10 hN10 B10 H7 T7 PC1
        go_wp2_with fail
        go_loopw [24] (fun jv wq => ∃ j : Nat, j ≤ N ∧ jv = .int .i64 j ∧ Hid (Gr w10 wq)) (fun jv _ => N - (intOf jv).toNat)
        case atStart => exact ⟨0, by omega, rfl, Gr.refl w10⟩
        case round =>
          obtain ⟨j, hj, rfl, HG⟩ := hrel
          by_cases hjl : j < N
          · have hjl' : (j : Int) < (N : Int) := by omega
            have HI : Hid (j < W * H) := by rw [HN.out]; exact hjl
            obtain ⟨yy, hyy⟩ : ∃ z, j / W = z := ⟨_, rfl⟩
            obtain ⟨xx, hxx⟩ : ∃ z, j % W = z := ⟨_, rfl⟩
            have hyyH : yy < H := by rw [← hyy]; exact div_lt HI.out
            have hxxW : xx < W := by rw [← hxx]; exact Nat.mod_lt _ (by omega)
            have eo : yy * W * 5 + xx * 5 = j * 5 := by rw [← hyy, ← hxx]; exact lin_off j W
            have V1 := H10.out.1.gr HG.out
            have V2 := H10.out.2.1.gr HG.out
            have a0 := V1.c0 hyyH hxxW
            have a1 := V1.c1 hyyH hxxW
            have a2 := V1.c2 hyyH hxxW
            have a3 := V1.c3 hyyH hxxW
            have a4 := V1.c4 hyyH hxxW
            have b1 := V2.c0 hyyH hxxW
            have b2 := V2.c1 hyyH hxxW
            have b3 := V2.c2 hyyH hxxW
            have b4 := V2.c3 hyyH hxxW
            have b5 := V2.c4 hyyH hxxW
            rw [eo] at a0 a1 a2 a3 a4 b1 b2 b3 b4 b5
            obtain ⟨ce, hce⟩ : ∃ z, c1 yy xx = z := ⟨_, rfl⟩
            rw [hce] at a0 a1 a2 a3 a4 b1 b2 b3 b4 b5
            clear V1 V2 hyy hxx eo hce
            obtain ⟨f0, f1, f2, f3, f4⟩ := ce
            simp only at a0 a1 a2 a3 a4 b1 b2 b3 b4 b5
            go_wp2_with fail
            go_quiet (fail)
            go_wp2
            go_roundw
            case rel => exact ⟨j + 1, by omega, by go_num, HG.out.drewN _⟩
            case measure => simp [intOf]; omega
          · have hjl' : ¬ (j : Int) < (N : Int) := by omega
            obtain ⟨X, rfl⟩ := Int.eq_ofNat_of_zero_le hx0
            obtain ⟨Y0, rfl⟩ := Int.eq_ofNat_of_zero_le hy0
            obtain ⟨pp, hpp⟩ : ∃ z, z = Y0 * W := ⟨_, rfl⟩
            have ep : (Y0 : Int) * (W : Int) = (pp : Int) := by rw [hpp]; simp
            have E1 : c1 Y0 X = ⟨sx, kn f, kn g, bo b0, 0⟩ := by rw [HC1.out]; exact (seen_at (c := c) (X : Int) (Y0 : Int) 1 (by omega) (by omega) (by omega) sx (kn f) (kn g) (bo b0)).1
            have eo : Y0 * W * 5 + X * 5 = (pp + X) * 5 := by rw [hpp]; omega
            have hi0 : pp + X < N := by rw [← HN.out]; have hm : (Y0 + 1) * W ≤ H * W := Nat.mul_le_mul_right _ (by omega); rw [Nat.add_mul, Nat.mul_comm H W] at hm; omega
            have RS := H10.out.2.2.2.gr HG.out
            have z0 := RS.c0
            have z1 := RS.c1
            have z2 := RS.c2
            have pb : pp ≤ 160000 := by omega
            have HPP : Hid (pp = Y0 * W) := hpp
            clear hpp
            go_wp2_with fail
            refine Calls.mono (SD.out _ _ _ _) ?_
            rintro e11 w11 ⟨rfl, g11⟩
            have G11 : Hid (Gr w10 w11) := HG.out.trans g11
            clear g11 z0 z1 z2 RS
            go_wp2_with fail
            refine Calls.mono (LK.out _ _ _ _) ?_
            rintro e12 w12 ⟨rfl, g12⟩
            have G12 : Hid (Gr w10 w12) := G11.out.trans g12
            clear g12 G11
            have V1 := H10.out.1.gr G12.out
            have a1 := V1.c0 (show Y0 < H by omega) (show X < W by omega)
            have a2 := V1.c1 (show Y0 < H by omega) (show X < W by omega)
            have a3 := V1.c2 (show Y0 < H by omega) (show X < W by omega)
            have a4 := V1.c3 (show Y0 < H by omega) (show X < W by omega)
            have a5 := V1.c4 (show Y0 < H by omega) (show X < W by omega)
            rw [E1, eo] at a1 a2 a3 a4 a5
            simp only at a1 a2 a3 a4 a5
            have nl1 := V1.lt
            obtain ⟨kf, hkf⟩ : ∃ z, kn f = z := ⟨_, rfl⟩
            obtain ⟨kg, hkg⟩ : ∃ z, kn g = z := ⟨_, rfl⟩
            obtain ⟨kb, hkb⟩ : ∃ z, bo b0 = z := ⟨_, rfl⟩
            rw [hkf] at a2 ⊢
            rw [hkg] at a3 ⊢
            rw [hkb] at a4 ⊢
            clear hkf hkg hkb E1 eo V1
            go_wp2_with fail
            go_quiet (fail)
            go_wp2
            go_ret
            exact ⟨rfl, (G0.out.below.trans (H10.out.2.2.1.mono (by rw [HS.out]; omega))).trans (((G12.out.alloc _).drewN _).below.mono (by have := H10.out.2.2.1.size; rw [Z0.out] at this; rw [HS.out]; omega))⟩
      · have ho : x < 0 ∨ (0 ≤ x ∧ y < 0) ∨ (0 ≤ x ∧ 0 ≤ y ∧ (W : Int) ≤ x) ∨ (0 ≤ x ∧ 0 ≤ y ∧ x < W ∧ (H : Int) ≤ y) ∨ (0 ≤ x ∧ 0 ≤ y ∧ x < W ∧ y < H ∧ (W : Int) < x + 1) := by omega
        clear hin
        rcases ho with h1 | ⟨h1, h2⟩ | ⟨h1, h2, h3⟩ | ⟨h1, h2, h3, h4⟩ | ⟨h1, h2, h3, h4, h5⟩
        all_goals first | (exfalso; omega) | skip
        all_goals
          (try have k3 : ¬ (W : Int) ≤ x := by omega)
          (try have k4 : ¬ (H : Int) ≤ y := by omega)
          (try have k5 : decide ((W : Int) < x + 1) = true := decide_eq_true (by omega))
          (try have k6 : decide ((H : Int) ≤ y) = true := decide_eq_true (by omega))
          (try have k7 : decide ((W : Int) ≤ x) = true := decide_eq_true (by omega))
          go_wp2
          go_ret
          exact ⟨rfl, HBW.out.alloc (by have := HBW.out.size; omega) _⟩
end Go.Proofs.Ytepkoiijdckcnah
