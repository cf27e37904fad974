/-
  A script as it is handed in; CanvasPairs.
-/
import Derived.Test.YtepkoiijdckcnagCEas
import Derived.Test.YtepkoiijdckcnagCDrw
namespace Go.Proofs.Ytepkoiijdckcnag
open Go.RowKit Go.Sort
set_option linter.unusedVariables false

structure OpR where
  kd : Int
  a : Int
  b : Int
  s : ByteArray
  t : ByteArray
  p : Option Addr
  m : Nat
  zs : List Int
/-- A script in memory. -/
def OpsIn (w : World) (v : Value) (n : Nat) (op : Nat → OpR) : Prop :=
  ∃ a cap, v = .slice a n cap ∧ (n = 0 ∨ ∃ b off, a = some ⟨b, off, none⟩ ∧ b < w.heap.size ∧ ∀ i, i < n →
    w.cell? ⟨b, off + i * 6, none⟩ = some (.int .i64 (op i).kd) ∧ w.cell? ⟨b, off + i * 6 + 1, none⟩ = some (.int .i64 (op i).a) ∧ w.cell? ⟨b, off + i * 6 + 2, none⟩ = some (.int .i64 (op i).b) ∧ w.cell? ⟨b, off + i * 6 + 3, none⟩ = some (.string (op i).s) ∧ w.cell? ⟨b, off + i * 6 + 4, none⟩ = some (.string (op i).t) ∧ w.cell? ⟨b, off + i * 6 + 5, none⟩ = some (.slice (op i).p (op i).zs.length (op i).m) ∧
    Ints w (.slice (op i).p (op i).zs.length (op i).m) (op i).zs)
/-- The cells behind so many steps. -/
def play (W H : Nat) (op : Nat → OpR) : Nat → Nat → Nat → Ce
  | 0 => fun _ _ => bk 0 0 0
  | i + 1 => drawC W H (play W H op i) (op i).kd (op i).a (op i).b (op i).s (op i).zs
theorem play_pairs {W H : Nat} (op : Nat → OpR) (hW : 1 ≤ W ∧ W ≤ 400) (hH : 1 ≤ H ∧ H ≤ 400) : ∀ i, PAll W H (play W H op i)
  | 0 => fun y _ => ⟨fun i _ => .inl rfl, fun i _ h => by have : (0 : Int) = 1 := h; omega, fun i _ h => by have : (0 : Int) = 2 := h; omega⟩
  | i + 1 => (play_pairs op hW hH i).draw hW hH _ _ _ _ _

set_option maxRecDepth 100000 in
set_option maxHeartbeats 4000000 in
theorem pairs_bad (W H : Int) (v : Value) (w : World) (h : ¬ ((1 ≤ W ∧ W ≤ 400) ∧ (1 ≤ H ∧ H ≤ 400))) : Calls Try.prog 6 #[.int .i64 W, .int .i64 H, v] w fun e w' => e = .returned (.bool true) ∧ Below w.heap.size w w' := by
  have EB : Hid (Calls Try.prog 13 #[.int .i64 W, .int .i64 H] w fun e w' => e = .returned (.tuple #[.pointer none, .bool true]) ∧ w' = w) := easel_bad W H w h
  clear h
  go_enter Try.func6, Try.ntmps6
  go_wp2_with (go_at_call 13; refine Calls.mono EB.out ?_; rintro e w1 ⟨rfl, hw1⟩; obtain rfl := hw1.symm)
  go_ret
  exact ⟨rfl, Below.refl _ _⟩

set_option maxRecDepth 100000 in
set_option maxHeartbeats 4000000 in
theorem pairs_ok (W H : Nat) (hW : 1 ≤ W ∧ W ≤ 400) (hH : 1 ≤ H ∧ H ≤ 400) (v : Value) (n : Nat) (op : Nat → OpR) (w : World) (h : OpsIn w v n op) (hn : n ≤ 17592186044416) : Calls Try.prog 6 #[.int .i64 W, .int .i64 H, v] w fun e w' => e = .returned (.bool true) ∧ Below w.heap.size w w' := by
  have EO : Hid (Calls Try.prog 13 #[.int .i64 W, .int .i64 H] w fun e w' => ∃ K M, e = .returned (.tuple #[.pointer (some ⟨K, 0, none⟩), .bool true]) ∧ CS 85 58 w' K M (W * H) W H (fun _ _ => bk 0 0 0) ∧ w.heap.size ≤ K ∧ w.heap.size ≤ M ∧ Below w.heap.size w w') := easel_ok W H w hW hH
  obtain ⟨av, cv, rfl, hh⟩ := h
  have HH : Hid (n = 0 ∨ ∃ b off, av = some ⟨b, off, none⟩ ∧ b < w.heap.size ∧ ∀ i, i < n →
    w.cell? ⟨b, off + i * 6, none⟩ = some (.int .i64 (op i).kd) ∧ w.cell? ⟨b, off + i * 6 + 1, none⟩ = some (.int .i64 (op i).a) ∧ w.cell? ⟨b, off + i * 6 + 2, none⟩ = some (.int .i64 (op i).b) ∧ w.cell? ⟨b, off + i * 6 + 3, none⟩ = some (.string (op i).s) ∧ w.cell? ⟨b, off + i * 6 + 4, none⟩ = some (.string (op i).t) ∧ w.cell? ⟨b, off + i * 6 + 5, none⟩ = some (.slice (op i).p (op i).zs.length (op i).m) ∧
    Ints w (.slice (op i).p (op i).zs.length (op i).m) (op i).zs) := hh
  clear hh
  obtain ⟨N, hN⟩ : ∃ N, W * H = N := ⟨_, rfl⟩
  have eN : (W : Int) * (H : Int) = (N : Int) := by rw [← hN]; simp
  have HN : Hid (W * H = N) := hN
  have nb : 1 ≤ N ∧ N ≤ 160000 := by rw [← hN]; exact ⟨Nat.mul_le_mul hW.1 hH.1, Nat.mul_le_mul hW.2 hH.2⟩
  clear hN
  go_enter Try.func6, Try.ntmps6
  go_wp2_with fail
  refine Calls.mono EO.out ?_
  rintro e w1 ⟨K, M, rfl, hcs, hk, hm, hb⟩
  have HC : Hid (CS 85 58 w1 K M (W * H) W H (play W H op 0) ∧ w.heap.size ≤ K ∧ w.heap.size ≤ M ∧ Below w.heap.size w w1) := ⟨hcs, hk, hm, hb⟩
  clear hcs hk hm hb EO
  go_wp2_with fail
  go_loopw [9] (fun iv wr => ∃ i : Nat, i ≤ n ∧ iv = .int .i64 i ∧ Hid (CS 85 58 wr K M (W * H) W H (play W H op i) ∧ Below w.heap.size w wr)) (fun iv _ => n - (intOf iv).toNat)
  case atStart => exact ⟨0, by omega, rfl, HC.out.1, HC.out.2.2.2⟩
  case round =>
    obtain ⟨i, hi, rfl, HR⟩ := hrel
    by_cases hlt : i < n
    · have hlt' : (i : Int) < (n : Int) := by omega
      have hlm : (i : Int) < 1152921504606846976 := by omega
      rcases HH.out with h0 | ⟨bb, off, rfl, hbb, hcell⟩
      · omega
      obtain ⟨p0, p1, p2, p3, p4, p5, p6⟩ := hcell i hlt
      have bel := HR.out.2
      have q0 := (bel.cell (p := ⟨bb, off + i * 6, none⟩) hbb).trans p0
      have q1 := (bel.cell (p := ⟨bb, off + i * 6 + 1, none⟩) hbb).trans p1
      have q2 := (bel.cell (p := ⟨bb, off + i * 6 + 2, none⟩) hbb).trans p2
      have q3 := (bel.cell (p := ⟨bb, off + i * 6 + 3, none⟩) hbb).trans p3
      have q4 := (bel.cell (p := ⟨bb, off + i * 6 + 4, none⟩) hbb).trans p4
      have q5 := (bel.cell (p := ⟨bb, off + i * 6 + 5, none⟩) hbb).trans p5
      have DR : Hid (Calls Try.prog 15 #[.pointer (some ⟨K, 0, none⟩), opv (op i).kd (op i).a (op i).b (op i).s (op i).t (.slice (op i).p (op i).zs.length (op i).m)] wr fun e w' => e = .returned (.tuple #[]) ∧ Cv 58 w' M W H (play W H op (i + 1)) ∧ Ch M wr w') := drawn_any wr HR.out.1 hW hH (play_pairs op hW hH i) _ _ _ _ _ _ _ _ (p6.below bel)
      obtain ⟨r, hr⟩ : ∃ r, op i = r := ⟨_, rfl⟩
      rw [hr] at q0 q1 q2 q3 q4 q5 DR
      obtain ⟨kd, a, b, s, t, p, m, zs⟩ := r
      simp only at q0 q1 q2 q3 q4 q5 DR
      obtain ⟨ln, hln⟩ : ∃ z, zs.length = z := ⟨_, rfl⟩
      rw [hln] at q5 DR
      unfold opv at DR
      clear p0 p1 p2 p3 p4 p5 p6 hcell hr hln bel
      go_wp2_with (go_at_call 15; refine Calls.mono DR.out ?_; rintro e2 w2 ⟨rfl, V2, C2⟩; have HV2 : Hid (CS 85 58 w2 K M (W * H) W H (play W H op (i + 1)) ∧ Below w.heap.size w w2) := (⟨HR.out.1.put C2 V2, C2.low HC.out.2.2.1 HR.out.2.size HR.out.2⟩ : _ ∧ _); clear V2 C2)
      go_roundw
      case rel => exact ⟨i + 1, by omega, by go_num, HV2.out⟩
      case measure => simp [intOf]; omega
    · have hlt' : ¬ (i : Int) < (n : Int) := by omega
      have CL : Hid (Calls Try.prog 17 #[.pointer (some ⟨K, 0, none⟩)] wr fun e w' => ∃ N cap', e = .returned (.slice (some ⟨N, 0, none⟩) (W * H) cap') ∧ Cv 58 w' N W H (play W H op i) ∧ wr.heap.size ≤ N ∧ Below wr.heap.size wr w') := cells_any wr HR.out.1 hW hH
      have PD : Hid (∀ w0 N cap, Cv 58 w0 N W H (play W H op i) → Calls Try.prog 20 #[.slice (some ⟨N, 0, none⟩) (W * H) cap, .int .i64 W] w0 fun e w' => e = .returned (.bool true) ∧ Gr w0 w') := fun w0 N cap h0 => paired_yes w0 h0 (play_pairs op hW hH i) hW hH
      rw [HN.out] at CL PD
      go_wp2_with (first | (go_at_call 17; refine Calls.mono CL.out ?_; rintro e3 w3 ⟨Nb, cap', rfl, V3, hN3, B3⟩; have HV3 : Hid (Cv 58 w3 Nb W H (play W H op i) ∧ Below w.heap.size w w3) := (⟨V3, HR.out.2.trans (B3.mono HR.out.2.size)⟩ : _ ∧ _); clear V3 hN3 B3) | (go_at_call 20; refine Calls.mono (PD.out _ _ _ HV3.out.1) ?_; rintro e4 w4 ⟨rfl, g4⟩; have HB4 : Hid (Below w.heap.size w w4) := HV3.out.2.trans (g4.below.mono HV3.out.2.size); clear g4))
      go_ret
      exact ⟨rfl, HB4.out⟩
theorem pairs_walk (x0 x1 : Int) (v : Value) (n : Nat) (op : Nat → OpR) (w : World) (h : OpsIn w v n op) (hn : n ≤ 17592186044416) : Calls Try.prog 6 #[.int .i64 x0, .int .i64 x1, v] w fun e w' => e = .returned (.bool true) ∧ Below w.heap.size w w' := by
  by_cases hg : (1 ≤ x0 ∧ x0 ≤ 400) ∧ (1 ≤ x1 ∧ x1 ≤ 400)
  · obtain ⟨W, rfl⟩ := Int.eq_ofNat_of_zero_le (show 0 ≤ x0 by omega)
    obtain ⟨H, rfl⟩ := Int.eq_ofNat_of_zero_le (show 0 ≤ x1 by omega)
    exact pairs_ok W H (by omega) (by omega) v n op w h hn
  · exact pairs_bad x0 x1 v w hg
end Go.Proofs.Ytepkoiijdckcnag
