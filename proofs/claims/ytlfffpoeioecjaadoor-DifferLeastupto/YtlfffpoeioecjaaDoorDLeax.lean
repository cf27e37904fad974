/-
  DifferLeast, walked.
-/
import Derived.Test.YtlfffpoeioecjaaDoorDTchx
import Derived.Test.YtlfffpoeioecjaaDoorDFulx
namespace Go.Proofs.YtlfffpoeioecjaaDoor
open Go.RowKit Go.Sort
set_option linter.unusedVariables false

theorem dlow2 {T M B : Nat} {w0 w w' : World} (g : C3 T M B w w') (b : Below w0.heap.size w0 w) (hT : w0.heap.size ≤ T) (hM : w0.heap.size ≤ M) (hB : w0.heap.size ≤ B) : Below w0.heap.size w0 w' :=
  ⟨g.os.trans b.os, g.tape.trans b.tape, g.output.trans b.output, Nat.le_trans b.size g.size, fun k hk => (g.block k (Nat.lt_of_lt_of_le hk b.size) (by omega) (by omega) (by omega)).trans (b.block k hk)⟩
set_option maxHeartbeats 16000000 in
set_option maxRecDepth 100000 in
theorem dleast_bad (old new : Nat → Ce) (nO n : Nat) (xw v x y : Int) (pO pN : Option Addr) (capO capN : Nat) (w : World) (hO : nO = 0 ∨ ∃ g off, pO = some ⟨g, off, none⟩ ∧ CL w g off nO old) (hN : n = 0 ∨ ∃ g off, pN = some ⟨g, off, none⟩ ∧ CL w g off n new) (hbO : nO ≤ 1048576) (hb : n ≤ 1048576) (hsO : ∀ i, i < nO → (old i).t.size ≤ 1099511627776) (hs : ∀ i, i < n → (new i).t.size ≤ 1099511627776) (ht : TabAt w) (hno : ¬ Scr new n v) :
    Calls Tryd.prog 5 #[.slice pO nO capO, .int .i64 xw, .slice pN n capN, .int .i64 v, .int .i64 x, .int .i64 y] w fun e w' => e = .returned (.bool true) ∧ Below w.heap.size w w' := by
  have PA : Hid (Calls Tryd.prog 11 #[.slice pO nO capO] w fun e w' => ∃ v, e = .returned v ∧ Pic w' v nO old ∧ Below w.heap.size w w') := painting_any nO capO pO old w hO hbO
  have PB : Hid (∀ w1, Below w.heap.size w w1 → Calls Tryd.prog 11 #[.slice pN n capN] w1 fun e w' => ∃ v, e = .returned v ∧ Pic w' v n new ∧ Below w1.heap.size w1 w') := fun w1 hb1 => painting_any n capN pN new w1 (hN.imp id fun ⟨g, off, a, c⟩ => ⟨g, off, a, c.below hb1⟩) hb
  have WH : Hid (∀ w1, Below w.heap.size w w1 → Calls Tryd.prog 13 #[.slice pN n capN, .int .i64 v] w1 fun r w' => r = .returned (.bool false) ∧ Hid (Below w1.heap.size w1 w')) := fun w1 hb1 => (whole_any new v pN n capN hb w1 (hN.imp id fun ⟨g, off, a, c⟩ => ⟨g, off, a, c.below hb1⟩) hs).mono fun r w' h => by
    obtain ⟨bb, h1, h2, h3⟩ := h
    cases bb with
    | true => exact absurd (h2.1 rfl) hno
    | false => exact ⟨h1, h3⟩
  have FI : Hid (∀ w1, Below w.heap.size w w1 → Calls Tryd.prog 17 #[.slice pO nO capO, .int .i64 xw, .slice pN n capN, .int .i64 v] w1 fun r w' => ∃ bb : Bool, r = .returned (.bool bb) ∧ Hid (bb = true ↔ One old nO xw n v) ∧ Hid (Below w1.heap.size w1 w')) := fun w1 hb1 => fits_any old nO n xw v pO _ capO capN w1 (whole_any old xw pO nO capO hbO w1 (hO.imp id fun ⟨g, off, a, c⟩ => ⟨g, off, a, c.below hb1⟩) hsO)
  have NU : Hid (∀ n w, Calls Tryd.prog 14 #[.int .i64 n] w fun e w' => e = .returned (.int .i64 n) ∧ w' = w) := dnum_any
  have HT : Hid (TabAt w) := ht
  have HS : Hid (∀ i, i < n → (new i).t.size ≤ 1099511627776) := hs
  have HNO : Hid (¬ Scr new n v) := hno
  clear hO hN hsO hs ht hno
  go_enter Tryd.func5, Tryd.ntmps5
  go_wp2_with fail
  refine PA.out.mono ?_
  rintro e w1 ⟨v1, rfl, ⟨p1, cap1, rfl, a1, a2, a3⟩, b1⟩
  have HB1 : Hid (Below w.heap.size w w1) := b1
  clear a1 a2 a3 b1
  go_wp2_with fail
  refine (PB.out w1 HB1.out).mono ?_
  rintro e w2 ⟨v2, rfl, ⟨p2, cap2, rfl, c1, c2, c3⟩, b2⟩
  have HB2 : Hid (Below w.heap.size w w2) := HB1.out.trans (b2.mono HB1.out.size)
  have UP : Hid (Calls Tryd.prog 12 #[.slice p1 nO cap1, .int .i64 xw, .slice p2 n cap2, .int .i64 v] w2 fun e w' => e = .returned (.tuple #[.string ⟨#[]⟩, .int .i64 6]) ∧ Hid (Below w2.heap.size w2 w')) := dUpdate_bad old new nO n xw v p1 p2 cap1 cap2 w2 hb c1 c2 c3 (HT.out.below HB2.out) HS.out HNO.out
  clear c1 c2 c3 b2
  go_wp2_with fail
  refine UP.out.mono ?_
  rintro e w3 ⟨rfl, h3⟩
  have HB3 : Hid (Below w.heap.size w w3) := HB2.out.trans (h3.out.mono HB2.out.size)
  clear h3
  go_wp2_with fail
  refine (WH.out w3 HB3.out).mono ?_
  rintro e w4 ⟨rfl, h4⟩
  have HB4 : Hid (Below w.heap.size w w4) := HB3.out.trans (h4.out.mono HB3.out.size)
  clear h4
  go_wp2_with fail
  refine (FI.out w4 HB4.out).mono ?_
  rintro e w5 ⟨bb, rfl, _, h5⟩
  have HB5 : Hid (Below w.heap.size w w5) := HB4.out.trans (h5.out.mono HB4.out.size)
  clear h5
  go_wp2_with fail
  refine (NU.out _ _).mono ?_
  rintro e w6 ⟨rfl, rfl⟩
  go_wp2
  go_ret
  exact ⟨rfl, HB5.out⟩

set_option maxHeartbeats 32000000 in
set_option maxRecDepth 100000 in
theorem dleast_ok (old new : Nat → Ce) (nO V H n : Nat) (xw x y : Int) (pO : Option Addr) (gN offN capO capN : Nat) (w : World) (hO : nO = 0 ∨ ∃ g off, pO = some ⟨g, off, none⟩ ∧ CL w g off nO old) (hN : CL w gN offN n new) (hbO : nO ≤ 1048576) (hb : n ≤ 1048576) (hsO : ∀ i, i < nO → (old i).t.size ≤ 1099511627776) (hs : ∀ i, i < n → (new i).t.size ≤ 1099511627776) (ht : TabAt w) (htn : TensAt w) (hg : 3 < w.heap.size) (hV : 1 ≤ V ∧ V ≤ 400) (hH : 1 ≤ H ∧ H ≤ 400) (hn : n = H * V) (hr : Rws new V H) :
    Calls Tryd.prog 5 #[.slice pO nO capO, .int .i64 xw, .slice (some ⟨gN, offN, none⟩) n capN, .int .i64 (V : Int), .int .i64 x, .int .i64 y] w fun e w' => e = .returned (.bool true) ∧ Below w.heap.size w w' := by
  have hscr : Scr new n (V : Int) := ⟨V, H, rfl, hn, hV.1, hV.2, hH.1, hH.2, hr⟩
  have hn160 : n ≤ 160000 := by rw [hn]; exact Nat.le_trans (Nat.mul_le_mul hH.2 hV.2) (by decide)
  have PA : Hid (Calls Tryd.prog 11 #[.slice pO nO capO] w fun e w' => ∃ v, e = .returned v ∧ Pic w' v nO old ∧ Below w.heap.size w w') := painting_any nO capO pO old w hO hbO
  have PB : Hid (∀ w1, Below w.heap.size w w1 → Calls Tryd.prog 11 #[.slice (some ⟨gN, offN, none⟩) n capN] w1 fun e w' => ∃ v, e = .returned v ∧ Pic w' v n new ∧ Below w1.heap.size w1 w') := fun w1 hb1 => painting_any n capN _ new w1 (.inr ⟨gN, offN, rfl, hN.below hb1⟩) hb
  have WH : Hid (∀ w1, Below w.heap.size w w1 → Calls Tryd.prog 13 #[.slice (some ⟨gN, offN, none⟩) n capN, .int .i64 (V : Int)] w1 fun r w' => r = .returned (.bool true) ∧ Hid (Below w1.heap.size w1 w')) := fun w1 hb1 => (whole_any new (V : Int) _ n capN hb w1 (.inr ⟨gN, offN, rfl, hN.below hb1⟩) hs).mono fun r w' h => by
    obtain ⟨bb, h1, h2, h3⟩ := h
    cases bb with
    | false => exact absurd (h2.2 hscr) (by decide)
    | true => exact ⟨h1, h3⟩
  have FI : Hid (∀ w1, Below w.heap.size w w1 → Calls Tryd.prog 17 #[.slice pO nO capO, .int .i64 xw, .slice (some ⟨gN, offN, none⟩) n capN, .int .i64 (V : Int)] w1 fun r w' => ∃ bb : Bool, r = .returned (.bool bb) ∧ Hid (bb = true ↔ One old nO xw n (V : Int)) ∧ Hid (Below w1.heap.size w1 w')) := fun w1 hb1 => fits_any old nO n xw (V : Int) pO _ capO capN w1 (whole_any old xw pO nO capO hbO w1 (hO.imp id fun ⟨g, off, a, c⟩ => ⟨g, off, a, c.below hb1⟩) hsO)
  have SO : Hid (∀ w1, Below w.heap.size w w1 → One old nO xw n (V : Int) → ∃ gO offO, pO = some ⟨gO, offO, none⟩ ∧ nO = n ∧ xw = (V : Int) ∧ CL w gO offO n old ∧ Rws old V H ∧ Calls Tryd.prog 16 #[.slice (some ⟨gO, offO, none⟩) n capO, .int .i64 (V : Int), .int .i64 x, .int .i64 y] w1 fun e w' => ∃ T, e = .returned (.pointer (some ⟨T, 0, none⟩)) ∧ Hid (∃ M B bc t, Scd w1 w' T M B bc V H old t)) := fun w1 hb1 h1 => by
    obtain ⟨h2, h3, V', H', h4, h5, h6, h7, h8, h9, h10⟩ := h1
    obtain rfl : V' = V := by omega
    obtain rfl : H' = H := Nat.eq_of_mul_eq_mul_right (by omega) (h5.symm.trans (h3.trans hn))
    subst h3
    rcases hO with h0 | ⟨g, off, rfl, hc⟩
    · exfalso
      have : 1 ≤ H' * V' := Nat.mul_pos (by omega) (by omega)
      omega
    · exact ⟨g, off, rfl, rfl, h2, hc, h10, screened_any old V' H' nO g off capO x y w1 hV hH h5 (hc.below hb1) h10⟩
  have NU : Hid (∀ n w, Calls Tryd.prog 14 #[.int .i64 n] w fun e w' => e = .returned (.int .i64 n) ∧ w' = w) := dnum_any
  have HT : Hid (TabAt w) := ht
  have HTN : Hid (TensAt w) := htn
  have HNW : Hid (CL w gN offN n new) := hN
  have HSO : Hid (∀ i, i < nO → (old i).t.size ≤ 1099511627776) := hsO
  have HHV : Hid (1 ≤ V ∧ V ≤ 400) := hV
  have HHH : Hid (1 ≤ H ∧ H ≤ 400) := hH
  have HNN : Hid (n = H * V) := hn
  have HRW : Hid (Rws new V H) := hr
  have HSZ : Hid (∀ i, i < n → (new i).t.size ≤ 20) := fun i hi => hr.size (by omega)
  have hn1 : ¬ n = 0 := by have : 1 ≤ H * V := Nat.mul_pos (by omega) (by omega); omega
  clear hO hN hsO hs ht htn hV hH hn hr hscr
  go_enter Tryd.func5, Tryd.ntmps5
  go_wp2_with fail
  refine PA.out.mono ?_
  rintro e w1 ⟨v1, rfl, ⟨p1, cap1, rfl, a1, a2, a3⟩, b1⟩
  have HB1 : Hid (Below w.heap.size w w1) := b1
  have A3 : Hid (nO = 0 ∨ ∃ g, p1 = some ⟨g, 0, none⟩ ∧ CB w1 g 0 nO old) := a3
  clear a3 b1
  go_wp2_with fail
  refine (PB.out w1 HB1.out).mono ?_
  rintro e w2 ⟨v2, rfl, ⟨p2, cap2, rfl, c1, c2, c3⟩, b2⟩
  have HB2 : Hid (Below w.heap.size w w2) := HB1.out.trans (b2.mono HB1.out.size)
  have B3 : Hid (nO = 0 ∨ ∃ g, p1 = some ⟨g, 0, none⟩ ∧ CB w2 g 0 nO old) := A3.out.imp id fun ⟨g, a, c⟩ => ⟨g, a, c.low b2⟩
  obtain ⟨g2, rfl, hcb2⟩ : ∃ g, p2 = some ⟨g, 0, none⟩ ∧ CB w2 g 0 n new := by
    rcases c3 with h | h
    · exact absurd h hn1
    · exact h
  have UP : Hid (Calls Tryd.prog 12 #[.slice p1 nO cap1, .int .i64 xw, .slice (some ⟨g2, 0, none⟩) n cap2, .int .i64 (V : Int)] w2 fun e w' => ∃ l, e = .returned (.tuple #[.string ⟨l.toArray⟩, .int .i64 0]) ∧ Hid (UpB old nO xw new n V l) ∧ Hid (Below w2.heap.size w2 w')) := dUpdate_ok old new nO V H n xw p1 g2 cap1 cap2 w2 hbO a1 a2 c1 c2 B3.out hcb2 (HT.out.below HB2.out) (Nat.lt_of_lt_of_le hg HB2.out.size) (HTN.out.below HB2.out hg) HSO.out HHV.out HHH.out HNN.out HRW.out
  clear c1 c2 c3 b2 a1 a2 A3 hcb2
  go_wp2_with fail
  refine UP.out.mono ?_
  rintro e w3 ⟨ll, rfl, HUB, h3⟩
  have HB3 : Hid (Below w.heap.size w w3) := HB2.out.trans (h3.out.mono HB2.out.size)
  clear h3 UP B3
  obtain ⟨ss, hss⟩ : ∃ z : ByteArray, (⟨ll.toArray⟩ : ByteArray) = z := ⟨_, rfl⟩
  have HSS : Hid ((⟨ll.toArray⟩ : ByteArray) = ss) := hss
  rw [hss]
  clear hss
  go_wp2_with fail
  refine (WH.out w3 HB3.out).mono ?_
  rintro e w4 ⟨rfl, h4⟩
  have HB4 : Hid (Below w.heap.size w w4) := HB3.out.trans (h4.out.mono HB3.out.size)
  clear h4
  go_wp2_with fail
  refine (FI.out w4 HB4.out).mono ?_
  rintro e w5 ⟨bb, rfl, HFI, h5⟩
  have HB5 : Hid (Below w.heap.size w w5) := HB4.out.trans (h5.out.mono HB4.out.size)
  clear h5
  cases bb with
  | false =>
    go_wp2_with fail
    refine (NU.out _ _).mono ?_
    rintro e w6 ⟨rfl, rfl⟩
    go_wp2
    go_ret
    exact ⟨rfl, HB5.out⟩
  | true =>
    have HON : Hid (One old nO xw n (V : Int)) := HFI.out.1 rfl
    obtain ⟨gO, offO, rfl, hnO, hxw, hcO, hro, _⟩ := SO.out w5 HB5.out HON.out
    subst hnO
    subst hxw
    have HRO : Hid (Rws old V H) := hro
    have HCO : Hid (CL w gO offO nO old) := hcO
    have hl : ll = allB nms V nO old new pn0 := HUB.out.one HON.out
    have HL : Hid (ll = allB nms V nO old new pn0) := hl
    have EQ : Hid (Calls Tryd.prog 19 #[.slice (some ⟨gO, offO, none⟩) nO capO, .slice (some ⟨gN, offN, none⟩) nO capN] w5 fun e w' => Tells w5 w' e (∀ j, j < nO → old j = new j)) := equal_any w5 (hcO.below HB5.out) (HNW.out.below HB5.out) (by omega)
    clear hro hcO hl HFI HUB
    go_wp2_with fail
    refine EQ.out.mono ?_
    rintro e w6 ⟨bb, rfl, h61, h62⟩
    have HI6 : Hid (bb = true ↔ ∀ j, j < nO → old j = new j) := h61
    have HB6 : Hid (Below w.heap.size w w6) := HB5.out.trans (h62.mono HB5.out.size)
    clear h61 h62 EQ
    cases bb with
    | true =>
      obtain rfl : ss = ⟨#[]⟩ := by
        rw [← HSS.out, HL.out, allB_same (fun j hj => (HI6.out.1 rfl j hj).symm)]
      go_wp2_with fail
      refine (NU.out _ _).mono ?_
      rintro e w7 ⟨rfl, rfl⟩
      go_wp2
      go_ret
      exact ⟨rfl, HB6.out⟩
    | false =>
      obtain ⟨_, _, hpp, _, _, _, _, hsc⟩ := SO.out w6 HB6.out HON.out
      cases hpp
      have SC : Hid (Calls Tryd.prog 16 #[.slice (some ⟨gO, offO, none⟩) nO capO, .int .i64 (V : Int), .int .i64 x, .int .i64 y] w6 fun e w' => ∃ T, e = .returned (.pointer (some ⟨T, 0, none⟩)) ∧ Hid (∃ M B bc t, Scd w6 w' T M B bc V H old t)) := hsc
      have HDF : Hid (∃ j, j < H * V ∧ new j ≠ old j) := by
        apply Classical.byContradiction
        intro q
        have : ∀ j, j < nO → old j = new j := fun j hj => Classical.byContradiction fun z => q ⟨j, by rw [← HNN.out]; exact hj, fun e => z e.symm⟩
        exact nomatch HI6.out.2 this
      clear hsc
      go_wp2_with fail
      refine SC.out.mono ?_
      rintro e wk ⟨T, rfl, HSC⟩
      obtain ⟨M, B, bc, tS, sc⟩ := HSC.out
      have HBK : Hid (Below w.heap.size w wk) := HB6.out.trans (sc.bel.mono HB6.out.size)
      have hT : w.heap.size ≤ T := Nat.le_trans HB6.out.size sc.tT
      have hM : w.heap.size ≤ M := Nat.le_trans HB6.out.size sc.tM
      have hB : w.heap.size ≤ B := Nat.le_trans HB6.out.size sc.tB
      have hss : ss.data.toList = ll := by rw [← HSS.out]
      have hsl : ss.size = ll.length := by rw [← HSS.out]; show ll.toArray.size = _; simp
      have hl1 : ll.length ≤ wrS old new nO + 15 := by rw [HL.out]; exact allB_len HHV.out HHH.out HNN.out HRW.out
      have hl2 : wrS old new nO ≤ 45 * nO := wrS_le HSZ.out nO (Nat.le_refl _)
      obtain ⟨wvK, hwvK⟩ : ∃ z : Nat → Bool, runW (tS, .out) (fun _ => false) ll = z := ⟨_, rfl⟩
      have hrun : runW (tS, .out) (fun _ => false) ll = runW (tS, .out) (fun _ => false) (updB nms V old new pn0 (H * V)).2 := by
        have hup := upd_run turns_nms HHV.out HHH.out HRO.out HRW.out sc.hW sc.hH (pen_at (W := V) sc.sty.1 sc.sty.2.1 sc.sty.2.2) sc.sh (H * V) (Nat.le_refl _)
        obtain ⟨t1, r1, _⟩ := hup
        rw [HL.out, HNN.out]
        unfold allB
        rw [runW_cat, r1, runW_dip]
      have hW2 := upd_W (wv := fun _ => false) HHV.out HHH.out HRO.out HRW.out sc.hW sc.hH (pen_at (W := V) sc.sty.1 sc.sty.2.1 sc.sty.2.2) sc.sh (H * V) (Nat.le_refl _)
      rw [← hrun, hwvK, ← HNN.out] at hW2
      have LOW : Hid (∀ j, j < nO → new j ≠ old j → (new j).p ≠ 2 → wvK j = true) := hW2.1
      have UPP : Hid (∀ j, j < nO → wvK j = true → Tch old new nO j) := fun j hj h => by
        rcases hW2.2 j hj h with q | q
        · exact nomatch q
        · exact q
      have HMO : Hid (ss.size ≤ mW wvK new nO) := by
        have h1 := (wrS_mW LOW.out nO (Nat.le_refl _)).2 (by have := some_wr HHV.out.1 HHH.out.1 HRO.out HRW.out HDF.out; rw [← HNN.out] at this; exact this)
        show ss.size ≤ _
        omega
      have WS : Hid (Calls Tryd.prog 18 #[.pointer (some ⟨T, 0, none⟩), .string ss] wk fun e w' => e = .returned (.tuple #[]) ∧ Hid (∃ p k2, Doc wk w' T M B bc p wvK k2 ∧ p.1.W = V ∧ p.1.H = H)) := by
        have := rwrite_any ss wk sc.doc sc.ti trivial (by omega)
        rw [hss, hwvK] at this
        have hwh : wh (runT (tS, .out) ll).1 = wh tS := wh_run ll (tS, .out)
        exact this.mono fun e w' q => ⟨q.1, _, _, q.2, (congrArg Prod.fst hwh).trans sc.hW, (congrArg Prod.snd hwh).trans sc.hH⟩
      clear sc hss hl1 hl2 hwvK hrun hW2 SC HSC HI6 HDF
      go_wp2_with fail
      refine WS.out.mono ?_
      rintro e wl ⟨rfl, HD⟩
      obtain ⟨pp, k2, ⟨⟨K2, M2, cap2', s2, hrt2, hdd, hk2, hM2⟩, hc3⟩, hpW, hpH⟩ := HD.out
      have HBL : Hid (Below w.heap.size w wl) := dlow2 hc3 HBK.out hT hM hB
      obtain ⟨qq, la, mks, hs2, _, _⟩ := hdd
      have RT2 : Hid (RT wl T K2 M2 cap2' B bc s2) := hrt2
      have HWV : Hid (s2.wv = wvK ∧ s2.W * s2.H = nO) := by
        refine ⟨by rw [hs2]; rfl, ?_⟩
        have e1 : s2.W = V := by rw [hs2]; exact hpW
        have e2 : s2.H = H := by rw [hs2]; exact hpH
        rw [e1, e2, HNN.out, Nat.mul_comm]
      have TO : Hid (Calls Tryd.prog 20 #[.slice (some ⟨gO, offO, none⟩) nO capO, .slice (some ⟨gN, offN, none⟩) nO capN] wl fun e w' => ∃ B, e = .returned (.slice (some ⟨B, 0, none⟩) nO nO) ∧ Hid (∃ tv, BR w' B nO tv ∧ ∀ j, j < nO → Tch old new nO j → tv j = true) ∧ Hid (Below wl.heap.size wl w')) := touched_any old new V H nO gO offO capO gN offN capN wl (HCO.out.below HBL.out) (HNW.out.below HBL.out) HHV.out HHH.out HNN.out HRO.out HRW.out
      clear hrt2 hs2 hM2 hc3 HD WS hk2 hpW hpH
      go_wp2_with fail
      refine TO.out.mono ?_
      rintro e wm ⟨BT, rfl, HTV, hbm⟩
      have HBM : Hid (Below w.heap.size w wm) := HBL.out.trans (hbm.out.mono HBL.out.size)
      have RT3 : Hid (RT wm T K2 M2 cap2' B bc s2) := RT2.out.below hbm.out
      obtain ⟨tv, htv⟩ := HTV.out
      have HT2 : Hid (BR wm BT nO tv ∧ ∀ j, j < nO → Tch old new nO j → tv j = true) := htv
      have t9 : wm.cell? ⟨T, 9, none⟩ = some (.slice (some ⟨B, 0, none⟩) nO bc) := by
        have h1 : wm.cell? ⟨T, 9, none⟩ = some (.slice (some ⟨B, 0, none⟩) (s2.W * s2.H) bc) := RT3.out.at rfl
        rw [HWV.out.2] at h1
        exact h1
      have BV : Hid (∀ i, i < nO → wm.cell? ⟨B, i, none⟩ = some (.bool (wvK i))) := fun i hi => by
        have h1 := RT3.out.bv.cell i (by rw [HWV.out.2]; exact hi)
        rw [HWV.out.1] at h1
        exact h1
      clear htv HTV hbm TO RT2
      go_wp2_with fail
      go_loopw [19, 20] (fun mv iv wr => ∃ i : Nat, iv = .int .i64 i ∧ i ≤ nO ∧ mv = .int .i64 ((mW wvK new i : Nat) : Int) ∧ wr = wm) (fun _ iv _ => nO - (intOf iv).toNat)
      case atStart => exact ⟨0, rfl, Nat.zero_le _, rfl, rfl⟩
      case round =>
        obtain ⟨i, rfl, hi, rfl, hwr⟩ := hrel
        obtain rfl := hwr.symm
        by_cases hil : i < nO
        · have hil' : (i : Int) < (nO : Int) := by omega
          have x0 : wm.cell? ⟨gN, offN + i * 5, none⟩ = some (.string (new i).t) := (HNW.out.below HBM.out).cell i hil 0 _ rfl
          have xb := BV.out i hil
          have xt := HT2.out.1.cell i hil
          have hz := HSZ.out i hil
          have hm := mW_le (wv := wvK) HSZ.out i hi
          have HM : Hid (mW wvK new (i + 1) = mW wvK new i + if wvK i = true then 64 + (new i).t.size else 0) := rfl
          have HTI : Hid (wvK i = true → tv i = true) := fun q => HT2.out.2 i hil (UPP.out i hil q)
          obtain ⟨m, hme⟩ : ∃ m, mW wvK new i = m := ⟨_, rfl⟩
          obtain ⟨t, hte⟩ : ∃ t, (new i).t = t := ⟨_, rfl⟩
          obtain ⟨bw, hbw⟩ : ∃ b, wvK i = b := ⟨_, rfl⟩
          obtain ⟨bt, hbt⟩ : ∃ b, tv i = b := ⟨_, rfl⟩
          rw [hte] at x0 hz HM
          rw [hme] at hm HM ⊢
          rw [hbw] at xb HM HTI
          rw [hbt] at xt HTI
          clear hme hte hbw hbt
          have y1 : IntKind.i64.wrap ((m : Int) + 64) = (m : Int) + 64 := IntWalk.i64_in _ (by omega)
          have y2 : IntKind.i64.wrap ((m : Int) + 64 + (t.size : Int)) = (m : Int) + 64 + (t.size : Int) := IntWalk.i64_in _ (by omega)
          cases bw with
          | true =>
            obtain rfl : bt = true := HTI.out rfl
            have HM2 : Hid (mW wvK new (i + 1) = m + (64 + t.size)) := HM.out
            clear HM HTI
            go_wp2
            go_roundw
            case rel => exact ⟨i + 1, by go_num, by omega, by rw [HM2.out]; first | rfl | (congr 1; omega), by first | rfl | trivial⟩
            case measure => simp [intOf]; omega
          | false =>
            have HM2 : Hid (mW wvK new (i + 1) = m) := HM.out
            clear HM HTI
            go_wp2
            go_roundw
            case rel => exact ⟨i + 1, by go_num, by omega, by rw [HM2.out], by first | rfl | trivial⟩
            case measure => simp [intOf]; omega
        · have hil' : ¬ (i : Int) < (nO : Int) := by omega
          obtain rfl : i = nO := by omega
          have hmo := HMO.out
          obtain ⟨m, hme⟩ : ∃ m, mW wvK new i = m := ⟨_, rfl⟩
          rw [hme] at hmo ⊢
          have f3 : decide ((ss.size : Int) ≤ (m : Int)) = true := decide_eq_true (by omega)
          have f4 : decide (ll.length ≤ m) = true := decide_eq_true (by omega)
          have f5 : decide (ss.size ≤ m) = true := decide_eq_true (by omega)
          clear hme
          go_wp2_with fail
          refine (NU.out _ _).mono ?_
          rintro e w6 ⟨rfl, rfl⟩
          go_wp2
          go_ret
          exact ⟨rfl, HBM.out⟩
theorem dleast_any (old new : Nat → Ce) (nO n : Nat) (xw v x y : Int) (pO pN : Option Addr) (capO capN : Nat) (w : World) (hO : nO = 0 ∨ ∃ g off, pO = some ⟨g, off, none⟩ ∧ CL w g off nO old) (hN : n = 0 ∨ ∃ g off, pN = some ⟨g, off, none⟩ ∧ CL w g off n new) (hbO : nO ≤ 1048576) (hb : n ≤ 1048576) (hsO : ∀ i, i < nO → (old i).t.size ≤ 1099511627776) (hs : ∀ i, i < n → (new i).t.size ≤ 1099511627776) (ht : TabAt w) (htn : TensAt w) (hg : 3 < w.heap.size) :
    Calls Tryd.prog 5 #[.slice pO nO capO, .int .i64 xw, .slice pN n capN, .int .i64 v, .int .i64 x, .int .i64 y] w fun e w' => e = .returned (.bool true) ∧ Below w.heap.size w w' := by
  by_cases h : Scr new n v
  · obtain ⟨V, H, rfl, h2, h3, h4, h5, h6, h7⟩ := h
    rcases hN with h0 | ⟨g, off, rfl, hc⟩
    · exfalso
      have : 1 ≤ H * V := Nat.mul_pos (by omega) (by omega)
      omega
    · exact dleast_ok old new nO V H n xw x y pO g off capO capN w hO hc hbO hb hsO hs ht htn hg ⟨h3, h4⟩ ⟨h5, h6⟩ h2 h7
  · exact dleast_bad old new nO n xw v x y pO pN capO capN w hO hN hbO hb hsO hs ht h

end Go.Proofs.YtlfffpoeioecjaaDoor
