/-
  CanvasPlays: both canvases step by step.
-/
import Derived.Test.YtkcddikpjblpaagCScr
import Derived.Test.YtkcddikpjblpaagCCes
import Derived.Test.YtkcddikpjblpaagCRnw
import Derived.Test.YtkcddikpjblpaagCMnt
namespace Go.Proofs.Ytkcddikpjblpaag
open Go.RowKit Go.Sort
set_option linter.unusedVariables false

set_option maxRecDepth 100000 in
set_option maxHeartbeats 4000000 in
theorem plays_bad (W H : Int) (v : Value) (w : World) (h : ¬ ((1 ≤ W ∧ W ≤ 400) ∧ (1 ≤ H ∧ H ≤ 400))) : Calls Try.prog 5 #[.int .i64 W, .int .i64 H, v] w fun e w' => e = .returned (.bool true) ∧ Below w.heap.size w w' := by
  have EB : Hid (Calls Try.prog 13 #[.int .i64 W, .int .i64 H] w fun e w' => e = .returned (.tuple #[.pointer none, .bool true]) ∧ w' = w) := easel_bad W H w h
  clear h
  go_enter Try.func5, Try.ntmps5
  go_wp2_with (go_at_call 13; refine Calls.mono EB.out ?_; rintro e w1 ⟨rfl, hw1⟩; obtain rfl := hw1.symm)
  go_ret
  exact ⟨rfl, Below.refl _ _⟩

theorem CS.bel {TK T : TypeId} {Q Q' : World} {K M cap W H : Nat} {c : Nat → Nat → Ce} (h : CS TK T Q K M cap W H c) (hb : Below Q.heap.size Q Q') : CS TK T Q' K M cap W H c :=
  ⟨(hb.block K h.klt).trans h.kb, h.cv.keep (hb.block M h.cv.lt), h.ne, h.hc⟩
/-- Both canvases in memory: the program's at K and M, the reference's at K2 and M2. -/
structure TW (w wr : World) (K M K2 M2 cap cap2 W H : Nat) (c c2 : Nat → Nat → Ce) : Prop where
  a : CS 85 58 wr K M cap W H c
  b : CS 49 71 wr K2 M2 cap2 W H c2
  bel : Below w.heap.size w wr
/-- Which blocks are which. -/
structure TB (w : World) (K M K2 M2 : Nat) : Prop where
  s1 : w.heap.size ≤ K
  s2 : w.heap.size ≤ M
  d1 : K < K2
  d2 : K < M2
  d3 : M < K2
  d4 : M < M2
section
variable {w wr w' : World} {K M K2 M2 cap cap2 W H N : Nat} {c c' c2 : Nat → Nat → Ce}
theorem TW.drawn (h : TW w wr K M K2 M2 cap cap2 W H c c2) (hB : TB w K M K2 M2) (g : Ch M wr w') (v : Cv 58 w' M W H c') : TW w w' K M K2 M2 cap cap2 W H c' c2 :=
  ⟨h.a.put g v, h.b.ch g (by have := hB.d3; omega) (by have := hB.d4; omega), g.low hB.s2 h.bel.size h.bel⟩
theorem TW.meant (h : TW w wr K M K2 M2 cap cap2 W H c c2) (hB : TB w K M K2 M2) (g : Ch M2 wr w') (v : Cv 71 w' M2 W H c') : TW w w' K M K2 M2 cap cap2 W H c c' :=
  ⟨h.a.ch g (by have := hB.d2; omega) (by have := hB.d4; omega), h.b.put g v, g.low (by have := hB.s2; have := hB.d4; omega) h.bel.size h.bel⟩
theorem TW.more (h : TW w wr K M K2 M2 cap cap2 W H c c2) (g : Below wr.heap.size wr w') : TW w w' K M K2 M2 cap cap2 W H c c2 :=
  ⟨h.a.bel g, h.b.bel g, h.bel.trans (g.mono h.bel.size)⟩
/-- Another block has changed. -/
theorem TW.other (h : TW w wr K M K2 M2 cap cap2 W H c c2) (g : Ch N wr w') (hN : N ≠ K ∧ N ≠ M ∧ N ≠ K2 ∧ N ≠ M2) (hS : w.heap.size ≤ N) : TW w w' K M K2 M2 cap cap2 W H c c2 :=
  ⟨h.a.ch g (fun e => hN.1 e.symm) (fun e => hN.2.1 e.symm), h.b.ch g (fun e => hN.2.2.1 e.symm) (fun e => hN.2.2.2 e.symm), g.low hS h.bel.size h.bel⟩
/-- A block that is new lies beyond all four. -/
theorem TW.new (h : TW w wr K M K2 M2 cap cap2 W H c c2) (hN : wr.heap.size ≤ N) : N ≠ K ∧ N ≠ M ∧ N ≠ K2 ∧ N ≠ M2 := by
  have h1 := h.a.klt
  have h2 := h.a.cv.lt
  have h3 := h.b.klt
  have h4 := h.b.cv.lt
  omega
end

set_option maxRecDepth 100000 in
set_option maxHeartbeats 8000000 in
theorem plays_ok (W H : Nat) (hW : 1 ≤ W ∧ W ≤ 400) (hH : 1 ≤ H ∧ H ≤ 400) (v : Value) (n : Nat) (op : Nat → OpR) (w : World) (h : OpsIn w v n op) (hn : n ≤ 17592186044416) : Calls Try.prog 5 #[.int .i64 W, .int .i64 H, v] w fun e w' => e = .returned (.bool true) ∧ Below w.heap.size w w' := by
  have EO : Hid (Calls Try.prog 13 #[.int .i64 W, .int .i64 H] w fun e w' => ∃ K M, e = .returned (.tuple #[.pointer (some ⟨K, 0, none⟩), .bool true]) ∧ CS 85 58 w' K M (W * H) W H (fun _ _ => bk 0 0 0) ∧ w.heap.size ≤ K ∧ w.heap.size ≤ M ∧ Below w.heap.size w w') := easel_ok W H w hW hH
  have RO : Hid (∀ w, Calls Try.prog 14 #[.int .i64 W, .int .i64 H] w fun e w' => ∃ K, e = .returned (.tuple #[.pointer (some ⟨K, 0, none⟩), .int .i64 0]) ∧ RN w w' W H K) := fun w => rnew_ok W H hW hH w
  obtain ⟨av, cv, rfl, hh⟩ := h
  have HH : Hid (n = 0 ∨ ∃ b off, av = some ⟨b, off, none⟩ ∧ b < w.heap.size ∧ ∀ i, i < n →
    w.cell? ⟨b, off + i * 6, none⟩ = some (.int .i64 (op i).kd) ∧ w.cell? ⟨b, off + i * 6 + 1, none⟩ = some (.int .i64 (op i).a) ∧ w.cell? ⟨b, off + i * 6 + 2, none⟩ = some (.int .i64 (op i).b) ∧ w.cell? ⟨b, off + i * 6 + 3, none⟩ = some (.string (op i).s) ∧ w.cell? ⟨b, off + i * 6 + 4, none⟩ = some (.string (op i).t) ∧ w.cell? ⟨b, off + i * 6 + 5, none⟩ = some (.slice (op i).p (op i).zs.length (op i).m) ∧
    Ints w (.slice (op i).p (op i).zs.length (op i).m) (op i).zs) := hh
  clear hh
  obtain ⟨N, hN⟩ : ∃ N, W * H = N := ⟨_, rfl⟩
  have HN : Hid (W * H = N) := hN
  have nb : 1 ≤ N ∧ N ≤ 160000 := by rw [← hN]; exact ⟨Nat.mul_le_mul hW.1 hH.1, Nat.mul_le_mul hW.2 hH.2⟩
  clear hN
  go_enter Try.func5, Try.ntmps5
  go_wp2_with fail
  refine Calls.mono EO.out ?_
  rintro e w1 ⟨K, M, rfl, hcs, hk, hm, hb⟩
  have HC : Hid (CS 85 58 w1 K M (W * H) W H (play W H op 0) ∧ w.heap.size ≤ K ∧ w.heap.size ≤ M ∧ Below w.heap.size w w1) := ⟨hcs, hk, hm, hb⟩
  clear hcs hk hm hb EO
  go_wp2_with fail
  refine Calls.mono (RO.out _) ?_
  rintro e w2 ⟨K2, rfl, hk2, M2, cap2, hcs2, hm2, hb2⟩
  have HT : Hid (TB w K M K2 M2) := by
    have h1 := HC.out.1.klt
    have h2 := HC.out.1.cv.lt
    exact ⟨HC.out.2.1, HC.out.2.2.1, by omega, by omega, by omega, by omega⟩
  have T0 : Hid (TW w w2 K M K2 M2 (W * H) cap2 W H (play W H op 0) (play W H op 0)) := ⟨HC.out.1.bel hb2, hcs2, HC.out.2.2.2.trans (hb2.mono HC.out.2.2.2.size)⟩
  clear hk2 hcs2 hm2 hb2 RO HC
  have CA : Hid (∀ (c : Nat → Nat → Ce) (w0 : World), CS 85 58 w0 K M (W * H) W H c → Calls Try.prog 17 #[.pointer (some ⟨K, 0, none⟩)] w0 fun e w' => ∃ Nb cap', e = .returned (.slice (some ⟨Nb, 0, none⟩) N cap') ∧ Cv 58 w' Nb W H c ∧ w0.heap.size ≤ Nb ∧ Below w0.heap.size w0 w') := fun c w0 h0 => by have := cells_any w0 h0 hW hH; rw [HN.out] at this; exact this
  have CE : Hid (∀ (c : Nat → Nat → Ce) (w0 : World) (Na Nb ca cb : Nat), Cv 58 w0 Na W H c → Cv 71 w0 Nb W H c → Calls Try.prog 18 #[.slice (some ⟨Na, 0, none⟩) N ca, .slice (some ⟨Nb, 0, none⟩) N cb] w0 fun e w' => e = .returned (.bool true) ∧ Gr w0 w') := fun c w0 Na Nb ca cb h1 h2 => lcells_any w0 h1 h2 N HN.out nb.2
  have SM : Hid (∀ (c : Nat → Nat → Ce) (w0 : World) (Na ca : Nat), Cv 58 w0 Na W H c → Calls Try.prog 19 #[.slice (some ⟨Na, 0, none⟩) N ca] w0 fun e w' => e = .returned (.tuple #[]) ∧ Ch Na w0 w') := fun c w0 Na ca h1 => smear_any w0 h1 N HN.out nb.2
  go_wp2_with fail
  go_loopw [11] (fun iv wr => ∃ i : Nat, i ≤ n ∧ iv = .int .i64 i ∧ Hid (TW w wr K M K2 M2 (W * H) cap2 W H (play W H op i) (play W H op i))) (fun iv _ => n - (intOf iv).toNat)
  case atStart => exact ⟨0, by omega, rfl, T0.out⟩
  case round =>
    obtain ⟨i, hi, rfl, HR⟩ := hrel
    by_cases hlt : i < n
    · have hlt' : (i : Int) < (n : Int) := by omega
      have hlm : (i : Int) < 1152921504606846976 := by omega
      rcases HH.out with h0 | ⟨bb, off, rfl, hbb, hcell⟩
      · omega
      obtain ⟨p0, p1, p2, p3, p4, p5, p6⟩ := hcell i hlt
      have HQ : Hid (∀ wx, Below w.heap.size w wx → wx.cell? ⟨bb, off + i * 6, none⟩ = some (.int .i64 (op i).kd) ∧ wx.cell? ⟨bb, off + i * 6 + 1, none⟩ = some (.int .i64 (op i).a) ∧ wx.cell? ⟨bb, off + i * 6 + 2, none⟩ = some (.int .i64 (op i).b) ∧ wx.cell? ⟨bb, off + i * 6 + 3, none⟩ = some (.string (op i).s) ∧ wx.cell? ⟨bb, off + i * 6 + 4, none⟩ = some (.string (op i).t) ∧ wx.cell? ⟨bb, off + i * 6 + 5, none⟩ = some (.slice (op i).p (op i).zs.length (op i).m)) := fun wx bel =>
        ⟨(bel.cell (p := ⟨bb, off + i * 6, none⟩) hbb).trans p0, (bel.cell (p := ⟨bb, off + i * 6 + 1, none⟩) hbb).trans p1, (bel.cell (p := ⟨bb, off + i * 6 + 2, none⟩) hbb).trans p2, (bel.cell (p := ⟨bb, off + i * 6 + 3, none⟩) hbb).trans p3, (bel.cell (p := ⟨bb, off + i * 6 + 4, none⟩) hbb).trans p4, (bel.cell (p := ⟨bb, off + i * 6 + 5, none⟩) hbb).trans p5⟩
      have DR : Hid (Calls Try.prog 15 #[.pointer (some ⟨K, 0, none⟩), opv (op i).kd (op i).a (op i).b (op i).s (op i).t (.slice (op i).p (op i).zs.length (op i).m)] wr fun e w' => e = .returned (.tuple #[]) ∧ Cv 58 w' M W H (play W H op (i + 1)) ∧ Ch M wr w') := drawn_any wr HR.out.a hW hH (play_pairs op hW hH i) _ _ _ _ _ _ _ _ (p6.below HR.out.bel)
      have MR : Hid (∀ w2, CS 49 71 w2 K2 M2 cap2 W H (play W H op i) → Below w.heap.size w w2 → Calls Try.prog 16 #[.pointer (some ⟨K2, 0, none⟩), opv (op i).kd (op i).a (op i).b (op i).s (op i).t (.slice (op i).p (op i).zs.length (op i).m)] w2 fun e w' => e = .returned (.tuple #[]) ∧ Cv 71 w' M2 W H (play W H op (i + 1)) ∧ Ch M2 w2 w') := fun w2 h2 b2 => meant_any w2 h2 hW hH (play_pairs op hW hH i) _ _ _ _ _ _ _ _ (p6.below b2)
      obtain ⟨r, hr⟩ : ∃ r, op i = r := ⟨_, rfl⟩
      rw [hr] at HQ DR MR
      obtain ⟨kd, a, b, s, t, p, m, zs⟩ := r
      simp only at HQ DR MR
      obtain ⟨ln, hln⟩ : ∃ z, zs.length = z := ⟨_, rfl⟩
      rw [hln] at HQ DR MR
      unfold opv at DR MR
      clear p0 p1 p2 p3 p4 p5 p6 hcell hr hln
      obtain ⟨q0, q1, q2, q3, q4, q5⟩ := HQ.out wr HR.out.bel
      go_wp2_with fail
      refine Calls.mono DR.out ?_
      rintro e2 w3 ⟨rfl, V2, C2⟩
      have T3 : Hid (TW w w3 K M K2 M2 (W * H) cap2 W H (play W H op (i + 1)) (play W H op i)) := HR.out.drawn HT.out C2 V2
      clear V2 C2 q0 q1 q2 q3 q4 q5 DR
      obtain ⟨q0, q1, q2, q3, q4, q5⟩ := HQ.out w3 T3.out.bel
      go_wp2_with fail
      refine Calls.mono (MR.out _ T3.out.b T3.out.bel) ?_
      rintro e3 w4 ⟨rfl, V3, C3⟩
      have T4 : Hid (TW w w4 K M K2 M2 (W * H) cap2 W H (play W H op (i + 1)) (play W H op (i + 1))) := T3.out.meant HT.out C3 V3
      clear V3 C3 q0 q1 q2 q3 q4 q5 MR
      obtain ⟨q0, _⟩ := HQ.out w4 T4.out.bel
      have k2 := T4.out.b.k2
      rw [HN.out] at k2
      have kc : Hid (True) := trivial
      have cc : (1 ≤ kd ∧ kd ≤ 2) ∨ (kd < 1) ∨ (1 ≤ kd ∧ 2 < kd) := by omega
      rcases cc with ⟨c1, c2⟩ | c1 | ⟨c1, c2⟩
      · have e1 : decide (kd < 1) = false := decide_eq_false (by omega)
        have e2 : decide (2 < kd) = false := decide_eq_false (by omega)
        go_wp2_with fail
        go_roundw
        case rel => exact ⟨i + 1, by omega, by go_num, T4.out⟩
        case measure => simp [intOf]; omega
      all_goals
        go_wp2_with fail
        clear k2
        refine Calls.mono (CA.out _ _ T4.out.a) ?_
        rintro e5 w5 ⟨Nb, cap', rfl, V5, hN5, B5⟩
        have T5 : Hid (TW w w5 K M K2 M2 (W * H) cap2 W H (play W H op (i + 1)) (play W H op (i + 1)) ∧ Cv 58 w5 Nb W H (play W H op (i + 1)) ∧ (Nb ≠ K ∧ Nb ≠ M ∧ Nb ≠ K2 ∧ Nb ≠ M2) ∧ w.heap.size ≤ Nb) := ⟨T4.out.more B5, V5, T4.out.new hN5, Nat.le_trans T4.out.bel.size hN5⟩
        clear V5 hN5 B5
        have k2 := T5.out.1.b.k2
        rw [HN.out] at k2
        go_wp2_with fail
        clear k2
        refine Calls.mono (CE.out _ _ _ _ _ _ T5.out.2.1 T5.out.1.b.cv) ?_
        rintro e6 w6 ⟨rfl, g6⟩
        have T6 : Hid (TW w w6 K M K2 M2 (W * H) cap2 W H (play W H op (i + 1)) (play W H op (i + 1)) ∧ Cv 58 w6 Nb W H (play W H op (i + 1))) := ⟨T5.out.1.more g6.below, T5.out.2.1.gr g6⟩
        clear g6
        go_wp2_with fail
        refine Calls.mono (SM.out _ _ _ _ T6.out.2) ?_
        rintro e7 w7 ⟨rfl, C7⟩
        have T7 : Hid (TW w w7 K M K2 M2 (W * H) cap2 W H (play W H op (i + 1)) (play W H op (i + 1))) := T6.out.1.other C7 T5.out.2.2.1 T5.out.2.2.2
        clear C7
        go_wp2_with fail
        go_roundw
        case rel => exact ⟨i + 1, by omega, by go_num, T7.out⟩
        case measure => simp [intOf]; omega
    · have hlt' : ¬ (i : Int) < (n : Int) := by omega
      go_wp2_with fail
      refine Calls.mono (CA.out _ _ HR.out.a) ?_
      rintro e3 w3 ⟨Na, capa, rfl, V3, hN3, B3⟩
      have T3 : Hid (TW w w3 K M K2 M2 (W * H) cap2 W H (play W H op i) (play W H op i) ∧ Cv 58 w3 Na W H (play W H op i) ∧ (Na ≠ K ∧ Na ≠ M ∧ Na ≠ K2 ∧ Na ≠ M2) ∧ w.heap.size ≤ Na) := ⟨HR.out.more B3, V3, HR.out.new hN3, Nat.le_trans HR.out.bel.size hN3⟩
      clear V3 hN3 B3
      go_wp2_with fail
      refine Calls.mono (CA.out _ _ T3.out.1.a) ?_
      rintro e4 w4 ⟨Nb, capb, rfl, V4, hN4, B4⟩
      have T4 : Hid (TW w w4 K M K2 M2 (W * H) cap2 W H (play W H op i) (play W H op i) ∧ Cv 58 w4 Na W H (play W H op i) ∧ Cv 58 w4 Nb W H (play W H op i) ∧ Nb ≠ Na) := ⟨T3.out.1.more B4, T3.out.2.1.keep (B4.block Na T3.out.2.1.lt), V4, by have := T3.out.2.1.lt; omega⟩
      clear V4 hN4 B4
      have k2 := T4.out.1.b.k2
      rw [HN.out] at k2
      go_wp2_with fail
      clear k2
      refine Calls.mono (CE.out _ _ _ _ _ _ T4.out.2.1 T4.out.1.b.cv) ?_
      rintro e5 w5 ⟨rfl, g5⟩
      have T5 : Hid (TW w w5 K M K2 M2 (W * H) cap2 W H (play W H op i) (play W H op i) ∧ Cv 58 w5 Na W H (play W H op i) ∧ Cv 58 w5 Nb W H (play W H op i)) := ⟨T4.out.1.more g5.below, T4.out.2.1.gr g5, T4.out.2.2.1.gr g5⟩
      clear g5
      go_wp2_with fail
      refine Calls.mono (SM.out _ _ _ _ T5.out.2.1) ?_
      rintro e6 w6 ⟨rfl, C6⟩
      have T6 : Hid (TW w w6 K M K2 M2 (W * H) cap2 W H (play W H op i) (play W H op i) ∧ Cv 58 w6 Nb W H (play W H op i)) := ⟨T5.out.1.other C6 T3.out.2.2.1 T3.out.2.2.2, T5.out.2.2.ch C6 T4.out.2.2.2⟩
      clear C6
      have k2 := T6.out.1.b.k2
      rw [HN.out] at k2
      go_wp2_with (go_at_call 18; refine Calls.mono (CE.out _ _ _ _ _ _ T6.out.2 T6.out.1.b.cv) ?_; rintro e7 w7 ⟨rfl, g7⟩; have B7 : Hid (Below w.heap.size w w7) := T6.out.1.bel.trans (g7.below.mono T6.out.1.bel.size); clear g7)
      go_ret
      exact ⟨rfl, B7.out⟩
theorem plays_walk (x0 x1 : Int) (v : Value) (n : Nat) (op : Nat → OpR) (w : World) (h : OpsIn w v n op) (hn : n ≤ 17592186044416) : Calls Try.prog 5 #[.int .i64 x0, .int .i64 x1, v] w fun e w' => e = .returned (.bool true) ∧ Below w.heap.size w w' := by
  by_cases hg : (1 ≤ x0 ∧ x0 ≤ 400) ∧ (1 ≤ x1 ∧ x1 ≤ 400)
  · obtain ⟨W, rfl⟩ := Int.eq_ofNat_of_zero_le (show 0 ≤ x0 by omega)
    obtain ⟨H, rfl⟩ := Int.eq_ofNat_of_zero_le (show 0 ≤ x1 by omega)
    exact plays_ok W H (by omega) (by omega) v n op w h hn
  · exact plays_bad x0 x1 v w hg
end Go.Proofs.Ytkcddikpjblpaag
