/-
  TermKeeps, walked.
-/
import Derived.Test.YtdpinmlbccolnaiDoorMTwin
import Derived.Test.YtdpinmlbccolnaiDoorCPrd
namespace Go.Proofs.YtdpinmlbccolnaiDoor
open Go.RowKit Go.Sort
set_option linter.unusedVariables false

def wh (s : Tm) : Nat × Nat := (s.W, s.H)
theorem wh_mark (s : Tm) (mk : ByteArray) : wh (markT s mk) = wh s := by unfold markT; split <;> rfl
theorem wh_pr (s : Tm) (r : Int) : wh (prT s r) = wh s := by
  unfold prT
  split
  · exact wh_mark _ _
  · split <;> rfl
theorem wh_prs (s : Tm) : ∀ R : List Int, wh (prsT s R) = wh s
  | [] => rfl
  | r :: R => (wh_prs (prT s r) R).trans (wh_pr s r)
theorem wh_am (s : Tm) (t : ByteArray) : wh (amT s t).1 = wh s := by
  unfold amT
  split
  · exact wh_pr _ _
  · rfl
theorem wh_out (s : Tm) (b : UInt8) : wh (outT s b).1 = wh s := by
  unfold outT
  split
  · rfl
  · split
    · rfl
    · exact wh_am _ _
theorem wh_obey (s : Tm) (b : Int) (l : Nat → Int) (a : Int) : wh (obeyT s b l a) = wh s := by
  unfold obeyT
  split
  · rfl
  · split
    · split <;> rfl
    · split <;> rfl
theorem wh_step (s : Tm) (b : UInt8) (st : St) : wh (stepT s b st).1 = wh s := by
  cases st with
  | out => exact wh_out s b
  | esc => rfl
  | amid h =>
    show wh (amA s h b).1 = wh s
    unfold amA
    split
    · exact (wh_out _ _).trans (wh_prs _ _)
    · exact wh_am _ _
  | wth l a =>
    show wh (wthT s l a.toNat b.toNat).1 = wh s
    unfold wthT
    split
    · rfl
    · split
      · rfl
      · split
        · rfl
        · split
          · exact wh_obey _ _ _ _
          · rfl
theorem wh_run : ∀ (l : List UInt8) (p : Tm × St), wh (runT p l).1 = wh p.1
  | [], p => rfl
  | b :: l, p => (wh_run l (stepT p.1 b p.2)).trans (wh_step p.1 b p.2)
theorem pall0 (W H : Nat) : PAll W H (fun _ _ => bk 0 0 0) := fun y hy => ⟨fun i hi => .inl rfl, fun i hi h => absurd h (by show ¬ (0 : Int) = 1; decide), fun i hi h => absurd h (by show ¬ (0 : Int) = 2; decide)⟩

set_option maxRecDepth 100000 in
set_option maxHeartbeats 4000000 in
theorem keeps_walk (W H : Int) (x : ByteArray) (hx : x.size ≤ 9223372036854775807) (w : World) (ht : TabAt w) (hU : Utf w) (hg : 2 < w.heap.size) : Calls Tryd.prog 4 #[.int .i64 W, .int .i64 H, .string x] w fun e w' => e = .returned (.bool true) ∧ Below w.heap.size w w' := by
  by_cases hwh : (1 ≤ W ∧ W ≤ 400) ∧ (1 ≤ H ∧ H ≤ 400)
  · obtain ⟨W, rfl⟩ : ∃ W' : Nat, W = (W' : Int) := ⟨W.toNat, by omega⟩
    obtain ⟨H, rfl⟩ : ∃ H' : Nat, H = (H' : Int) := ⟨H.toNat, by omega⟩
    have TW : Hid (Calls Tryd.prog 9 #[.int .i64 W, .int .i64 H] w fun e w' => ∃ T K M T2, e = .returned (.tuple #[.pointer (some ⟨T, 0, none⟩), .pointer (some ⟨T2, 0, none⟩), .bool true]) ∧ TM w' T K M (W * H) (tm0 W H) (fnV 41 #[]) ∧ w.heap.size ≤ T ∧ w.heap.size ≤ K ∧ w.heap.size ≤ M ∧ Below w.heap.size w w') := twin_ok W H w (by omega) (by omega) (pall0 W H)
    have HT : Hid (TabAt w) := ht
    have HU : Hid (Utf w) := hU
    have hsz := hU.sz
    clear ht hU
    go_enter Tryd.func4, Tryd.ntmps4
    go_wp2_with fail
    refine TW.out.mono ?_
    rintro e w1 ⟨T, K, M, T2, rfl, h1, hT, _, hM, b1⟩
    have hfar : Far T M := ⟨by omega, by omega, by omega⟩
    have WR : Hid (Calls Tryd.prog 10 #[.pointer (some ⟨T, 0, none⟩), .string x] w1 fun e w' => WrOut w1 w' e T K M (W * H) (runT (tm0 W H, .out) x.data.toList)) := write_any x hx w1 h1 rfl (ti0 W H (by omega)) trivial (HT.out.below b1) (HU.out.below b1) hfar
    have HB1 : Hid (Below w.heap.size w w1) := b1
    obtain ⟨p, hp⟩ : ∃ p, runT (tm0 W H, .out) x.data.toList = p := ⟨_, rfl⟩
    have hwhp : wh p.1 = (W, H) := by rw [← hp]; exact wh_run _ _
    rw [hp] at WR
    obtain ⟨s, st⟩ := p
    have hsW : s.W = W := congrArg Prod.fst hwhp
    have hsH : s.H = H := congrArg Prod.snd hwhp
    clear h1 b1 hp hwhp TW
    go_wp2_with fail
    refine WR.out.mono ?_
    rintro e w2 ⟨rfl, ⟨nv, h2, _⟩, hti, _, c2⟩
    have H2 : Hid (TM w2 T K M (W * H) s nv) := h2
    have HC2 : Hid (Below w.heap.size w w2) := ⟨c2.os.trans HB1.out.os, c2.tape.trans HB1.out.tape, c2.output.trans HB1.out.output, Nat.le_trans HB1.out.size c2.size, fun b hb => (c2.block b (Nat.lt_of_lt_of_le hb HB1.out.size) (by omega) (by omega)).trans (HB1.out.block b hb)⟩
    have q1 := hti.x0
    have q2 := hti.x1
    have q3 := hti.y0
    have q4 := hti.y1
    have TC : Hid (Calls Tryd.prog 11 #[.pointer (some ⟨T, 0, none⟩)] w2 fun e w' => ∃ N cap', e = .returned (.slice (some ⟨N, 0, none⟩) (W * H) cap') ∧ Cv 36 w' N W H s.c ∧ w2.heap.size ≤ N ∧ Below w2.heap.size w2 w') := by have := tcells_any w2 h2; rw [hsW, hsH] at this; exact this
    rw [hsW] at q2
    rw [hsH] at q4
    have hpa : PAll W H s.c := by have := h2.pa; rw [hsW, hsH] at this; exact this
    have HPA : Hid (PAll W H s.c) := hpa
    clear h2 hti c2 WR hpa
    go_wp2_with fail
    refine TC.out.mono ?_
    rintro e w3 ⟨N, cp, rfl, hcv, hN, b3⟩
    have H3 : Hid (TM w3 T K M (W * H) s nv) := H2.out.below b3
    have HC3 : Hid (Below w.heap.size w w3) := HC2.out.trans (b3.mono HC2.out.size)
    have HV3 : Hid (Cv 36 w3 N W H s.c) := hcv
    clear hcv hN b3 TC
    go_wp2_with fail
    refine (cursor_any w3 H3.out).mono ?_
    rintro e w4 ⟨rfl, g4⟩
    have HC4 : Hid (Below w.heap.size w w4) := HC3.out.trans (g4.below.mono HC3.out.size)
    have PY : Hid (Calls Tryd.prog 14 #[.slice (some ⟨N, 0, none⟩) (W * H) cp, .int .i64 W] w4 fun e w' => e = .returned (.bool true) ∧ Gr w4 w') := paired_yes w4 (HV3.out.gr g4) HPA.out (by omega) (by omega)
    obtain ⟨n, hn⟩ : ∃ n, W * H = n := ⟨_, rfl⟩
    have hn' : (W : Int) * (H : Int) = (n : Int) := by rw [← hn, Int.natCast_mul]
    have hnb : n ≤ 160000 := by rw [← hn]; exact Nat.le_trans (Nat.mul_le_mul (by omega : W ≤ 400) (by omega : H ≤ 400)) (by decide)
    rw [hn] at PY
    rw [hn]
    obtain ⟨cx, hcx⟩ : ∃ z, s.r.x = z := ⟨_, rfl⟩
    obtain ⟨cy, hcy⟩ : ∃ z, s.r.y = z := ⟨_, rfl⟩
    rw [hcx, hcy]
    rw [hcx] at q1 q2
    rw [hcy] at q3 q4
    clear g4 hn hcx hcy H3 HV3 H2
    go_wp2_with fail
    refine PY.out.mono ?_
    rintro e w5 ⟨rfl, g5⟩
    have HC5 : Hid (Below w.heap.size w w5) := HC4.out.trans (g5.below.mono HC4.out.size)
    clear g5 PY
    go_wp2
    go_ret
    exact ⟨rfl, HC5.out⟩
  · have TW : Hid (Calls Tryd.prog 9 #[.int .i64 W, .int .i64 H] w fun e w' => e = .returned (.tuple #[.pointer none, .pointer none, .bool true]) ∧ w' = w) := twin_bad W H w hwh
    clear ht hU
    go_enter Tryd.func4, Tryd.ntmps4
    go_wp2_with fail
    refine TW.out.mono ?_
    rintro e w1 ⟨rfl, hw⟩
    obtain rfl := hw.symm
    go_wp2
    go_ret
    exact ⟨rfl, Below.refl _ _⟩

end Go.Proofs.YtdpinmlbccolnaiDoor
