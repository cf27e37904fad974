/-
  DifferShows, walked.
-/
import Derived.Test.YtlfffpoeioecjaaDoorX40
import Derived.Test.YtlfffpoeioecjaaDoorX36
namespace Go.Proofs.YtlfffpoeioecjaaDoor
open Go.RowKit Go.Sort
set_option linter.unusedVariables false

theorem dlow {T M B : Nat} {w0 w w' : World} (g : C3 T M B w w') (b : Below w0.heap.size w0 w) (hT : w0.heap.size ≤ T) (hM : w0.heap.size ≤ M) (hB : w0.heap.size ≤ B) : Below w0.heap.size w0 w' :=
  ⟨g.os.trans b.os, g.tape.trans b.tape, g.output.trans b.output, Nat.le_trans b.size g.size, fun k hk => (g.block k (Nat.lt_of_lt_of_le hk b.size) (by omega) (by omega) (by omega)).trans (b.block k hk)⟩
theorem cv_cl {T : TypeId} {Q : World} {M W H n : Nat} {c : Nat → Nat → Ce} {C : Nat → Ce} (h : Cv T Q M W H c) (hn : n = W * H) (hs : ∀ y x, y < H → x < W → c y x = C (y * W + x)) : CL Q M 0 n C := by
  refine ⟨h.lt, fun i hi k u hu => ?_⟩
  obtain ⟨y, x, hy, hx, rfl⟩ := lin_split (W := W) (H := H) (by rw [← hn]; exact hi)
  have := h.cell y x hy hx k u (by rw [hs y x hy hx]; exact hu)
  rw [show 0 + (y * W + x) * 5 + k = y * W * 5 + x * 5 + k by rw [Nat.add_mul]; omega]
  exact this
theorem upB_len {old new : Nat → Ce} {nO : Nat} {x : Int} {V H n : Nat} {l : List UInt8} (h : UpB old nO x new n V l) (hV : 1 ≤ V ∧ V ≤ 400) (hH : 1 ≤ H ∧ H ≤ 400) (hn : n = H * V) (hr : Rws new V H) : l.length ≤ 7300000 := by
  have hn4 : n ≤ 400 * V := by rw [hn]; exact Nat.mul_le_mul_right V hH.2
  have hnb : n ≤ 160000 := by have := Nat.mul_le_mul_left 400 hV.2; omega
  have key : ∀ o : Nat → Ce, (allB nms V n o new pn0).length ≤ 7200015 := fun o => by
    unfold allB
    have h1 := upd_len (old := o) (n := n) (new := new) (p := pn0) hV hn4 (fun i hi => hr.sty (by omega)) n (Nat.le_refl _)
    have h2 := wrS_le (old := o) (n := n) (new := new) (fun i hi => hr.size (by omega)) n (Nat.le_refl _)
    have h3 := dip_len (f := (updB nms V o new pn0 n).1.f) (g := (updB nms V o new pn0 n).1.g) (b := (updB nms V o new pn0 n).1.b) (f2 := 0) (g2 := 0) (b2 := 0) ⟨by decide, by decide, by decide⟩
    rw [List.length_append]
    omega
  by_cases c : One old nO x n (V : Int)
  · rw [h.one c]; have := key old; omega
  · rw [h.all c, List.length_append]; have := key (fun _ => bl0); simp; omega

set_option maxHeartbeats 16000000 in
set_option maxRecDepth 100000 in
theorem dshows_bad (old new : Nat → Ce) (nO n : Nat) (xw v x y : Int) (pO pN : Option Addr) (capO capN : Nat) (bf : ByteArray) (w : World) (hO : nO = 0 ∨ ∃ g off, pO = some ⟨g, off, none⟩ ∧ CL w g off nO old) (hN : n = 0 ∨ ∃ g off, pN = some ⟨g, off, none⟩ ∧ CL w g off n new) (hbO : nO ≤ 1048576) (hb : n ≤ 1048576) (hsO : ∀ i, i < nO → (old i).t.size ≤ 1099511627776) (hs : ∀ i, i < n → (new i).t.size ≤ 1099511627776) (ht : TabAt w) (hno : ¬ Scr new n v) :
    Calls Tryd.prog 4 #[.slice pO nO capO, .int .i64 xw, .slice pN n capN, .int .i64 v, .int .i64 x, .int .i64 y, .string bf] w fun e w' => e = .returned (.bool true) ∧ Below w.heap.size w w' := by
  have PA : Hid (Calls Tryd.prog 11 #[.slice pO nO capO] w fun e w' => ∃ v, e = .returned v ∧ Pic w' v nO old ∧ Below w.heap.size w w') := painting_any nO capO pO old w hO hbO
  have PB : Hid (∀ w1, Below w.heap.size w w1 → Calls Tryd.prog 11 #[.slice pN n capN] w1 fun e w' => ∃ v, e = .returned v ∧ Pic w' v n new ∧ Below w1.heap.size w1 w') := fun w1 hb1 => painting_any n capN pN new w1 (hN.imp id fun ⟨g, off, a, c⟩ => ⟨g, off, a, c.below hb1⟩) hb
  have WH : Hid (∀ w1, Below w.heap.size w w1 → Calls Tryd.prog 13 #[.slice pN n capN, .int .i64 v] w1 fun r w' => r = .returned (.bool false) ∧ Hid (Below w1.heap.size w1 w')) := fun w1 hb1 => (whole_any new v pN n capN hb w1 (hN.imp id fun ⟨g, off, a, c⟩ => ⟨g, off, a, c.below hb1⟩) hs).mono fun r w' h => by
    obtain ⟨bb, h1, h2, h3⟩ := h
    cases bb with
    | true => exact absurd (h2.1 rfl) hno
    | false => exact ⟨h1, h3⟩
  have NU : Hid (∀ n w, Calls Tryd.prog 14 #[.int .i64 n] w fun e w' => e = .returned (.int .i64 n) ∧ w' = w) := dnum_any
  have HT : Hid (TabAt w) := ht
  have HS : Hid (∀ i, i < n → (new i).t.size ≤ 1099511627776) := hs
  have HNO : Hid (¬ Scr new n v) := hno
  clear hO hN hsO hs ht hno
  go_enter Tryd.func4, Tryd.ntmps4
  go_wp2_with fail
  refine PA.out.mono ?_
  rintro e w1 ⟨v1, rfl, ⟨p1, cap1, rfl, a1, a2, a3⟩, b1⟩
  have HB1 : Hid (Below w.heap.size w w1) := b1
  clear a1 a2 a3 b1
  go_wp2_with fail
  refine (PB.out w1 HB1.out).mono ?_
  rintro e w2 ⟨v2, rfl, ⟨p2, cap2, rfl, c1, c2, c3⟩, b2⟩
  have HB2 : Hid (Below w.heap.size w w2) := HB1.out.trans (b2.mono HB1.out.size)
  have UP : Hid (Calls Tryd.prog 12 #[.slice p1 nO cap1, .int .i64 xw, .slice p2 n cap2, .int .i64 v] w2 fun e w' => e = .returned (.tuple #[.string ⟨#[]⟩, .int .i64 6]) ∧ Hid (Below w2.heap.size w2 w')) := dUpdate_bad old new nO n xw v p1 p2 cap1 cap2 w2 hb c1 c2 c3 (HT.out.below HB2.out) HS.out HNO.out
  clear c1 c2 c3 b2
  go_wp2_with fail
  refine UP.out.mono ?_
  rintro e w3 ⟨rfl, h3⟩
  have HB3 : Hid (Below w.heap.size w w3) := HB2.out.trans (h3.out.mono HB2.out.size)
  clear h3
  go_wp2_with fail
  refine (WH.out w3 HB3.out).mono ?_
  rintro e w4 ⟨rfl, h4⟩
  have HB4 : Hid (Below w.heap.size w w4) := HB3.out.trans (h4.out.mono HB3.out.size)
  clear h4
  go_wp2_with fail
  refine (NU.out _ _).mono ?_
  rintro e w5 ⟨rfl, rfl⟩
  go_wp2
  go_ret
  exact ⟨rfl, HB4.out⟩

set_option maxHeartbeats 32000000 in
set_option maxRecDepth 100000 in
theorem dshows_ok (old new : Nat → Ce) (nO V H n : Nat) (xw x y : Int) (pO : Option Addr) (gN offN capO capN : Nat) (bf : ByteArray) (w : World) (hO : nO = 0 ∨ ∃ g off, pO = some ⟨g, off, none⟩ ∧ CL w g off nO old) (hN : CL w gN offN n new) (hbO : nO ≤ 1048576) (hb : n ≤ 1048576) (hsO : ∀ i, i < nO → (old i).t.size ≤ 1099511627776) (hs : ∀ i, i < n → (new i).t.size ≤ 1099511627776) (ht : TabAt w) (htn : TensAt w) (hg : 3 < w.heap.size) (hbf : bf.size ≤ 1099511627776) (hV : 1 ≤ V ∧ V ≤ 400) (hH : 1 ≤ H ∧ H ≤ 400) (hn : n = H * V) (hr : Rws new V H) :
    Calls Tryd.prog 4 #[.slice pO nO capO, .int .i64 xw, .slice (some ⟨gN, offN, none⟩) n capN, .int .i64 (V : Int), .int .i64 x, .int .i64 y, .string bf] w fun e w' => e = .returned (.bool true) ∧ Below w.heap.size w w' := by
  have hmix : Tryd.prog.follows .mixedOrders = true := by kernel_rfl
  have hscr : Scr new n (V : Int) := ⟨V, H, rfl, hn, hV.1, hV.2, hH.1, hH.2, hr⟩
  have PA : Hid (Calls Tryd.prog 11 #[.slice pO nO capO] w fun e w' => ∃ v, e = .returned v ∧ Pic w' v nO old ∧ Below w.heap.size w w') := painting_any nO capO pO old w hO hbO
  have PB : Hid (∀ w1, Below w.heap.size w w1 → Calls Tryd.prog 11 #[.slice (some ⟨gN, offN, none⟩) n capN] w1 fun e w' => ∃ v, e = .returned v ∧ Pic w' v n new ∧ Below w1.heap.size w1 w') := fun w1 hb1 => painting_any n capN _ new w1 (.inr ⟨gN, offN, rfl, hN.below hb1⟩) hb
  have WH : Hid (∀ w1, Below w.heap.size w w1 → Calls Tryd.prog 13 #[.slice (some ⟨gN, offN, none⟩) n capN, .int .i64 (V : Int)] w1 fun r w' => r = .returned (.bool true) ∧ Hid (Below w1.heap.size w1 w')) := fun w1 hb1 => (whole_any new (V : Int) _ n capN hb w1 (.inr ⟨gN, offN, rfl, hN.below hb1⟩) hs).mono fun r w' h => by
    obtain ⟨bb, h1, h2, h3⟩ := h
    cases bb with
    | false => exact absurd (h2.2 hscr) (by decide)
    | true => exact ⟨h1, h3⟩
  have FI : Hid (∀ w1, Below w.heap.size w w1 → Calls Tryd.prog 17 #[.slice pO nO capO, .int .i64 xw, .slice (some ⟨gN, offN, none⟩) n capN, .int .i64 (V : Int)] w1 fun r w' => ∃ bb : Bool, r = .returned (.bool bb) ∧ Hid (bb = true ↔ One old nO xw n (V : Int)) ∧ Hid (Below w1.heap.size w1 w')) := fun w1 hb1 => fits_any old nO n xw (V : Int) pO _ capO capN w1 (whole_any old xw pO nO capO hbO w1 (hO.imp id fun ⟨g, off, a, c⟩ => ⟨g, off, a, c.below hb1⟩) hsO)
  have SN : Hid (∀ w1, Below w.heap.size w w1 → Calls Tryd.prog 16 #[.slice (some ⟨gN, offN, none⟩) n capN, .int .i64 (V : Int), .int .i64 x, .int .i64 y] w1 fun e w' => ∃ T, e = .returned (.pointer (some ⟨T, 0, none⟩)) ∧ Hid (∃ M B bc t, Scd w1 w' T M B bc V H new t)) := fun w1 hb1 => screened_any new V H n gN offN capN x y w1 hV hH hn (hN.below hb1) hr
  have SO : Hid (∀ w1, Below w.heap.size w w1 → One old nO xw n (V : Int) → Rws old V H ∧ Calls Tryd.prog 16 #[.slice pO nO capO, .int .i64 xw, .int .i64 x, .int .i64 y] w1 fun e w' => ∃ T, e = .returned (.pointer (some ⟨T, 0, none⟩)) ∧ Hid (∃ M B bc t, Scd w1 w' T M B bc V H old t)) := fun w1 hb1 h1 => by
    obtain ⟨h2, h3, V', H', h4, h5, h6, h7, h8, h9, h10⟩ := h1
    obtain rfl : V' = V := by omega
    obtain rfl : H' = H := Nat.eq_of_mul_eq_mul_right (by omega) (h5.symm.trans (h3.trans hn))
    subst h2
    refine ⟨h10, ?_⟩
    rcases hO with h0 | ⟨g, off, rfl, hc⟩
    · exfalso
      have : 1 ≤ H' * V' := Nat.mul_pos (by omega) (by omega)
      omega
    · exact screened_any old V' H' nO g off capO x y w1 hV hH h5 (hc.below hb1) h10
  have NU : Hid (∀ n w, Calls Tryd.prog 14 #[.int .i64 n] w fun e w' => e = .returned (.int .i64 n) ∧ w' = w) := dnum_any
  have HT : Hid (TabAt w) := ht
  have HTN : Hid (TensAt w) := htn
  have HNW : Hid (CL w gN offN n new) := hN
  have HO : Hid (nO = 0 ∨ ∃ g off, pO = some ⟨g, off, none⟩ ∧ CL w g off nO old) := hO
  have HSO : Hid (∀ i, i < nO → (old i).t.size ≤ 1099511627776) := hsO
  have HHV : Hid (1 ≤ V ∧ V ≤ 400) := hV
  have HHH : Hid (1 ≤ H ∧ H ≤ 400) := hH
  have HNN : Hid (n = H * V) := hn
  have HRW : Hid (Rws new V H) := hr
  have hn1 : ¬ n = 0 := by have : 1 ≤ H * V := Nat.mul_pos (by omega) (by omega); omega
  have hbj : ¬ 9223372036854775807 < bf.size + 4 := by omega
  clear hO hN hsO hs ht htn hV hH hn hr hscr
  go_enter Tryd.func4, Tryd.ntmps4
  go_wp2_with fail
  refine PA.out.mono ?_
  rintro e w1 ⟨v1, rfl, ⟨p1, cap1, rfl, a1, a2, a3⟩, b1⟩
  have HB1 : Hid (Below w.heap.size w w1) := b1
  have A3 : Hid (nO = 0 ∨ ∃ g, p1 = some ⟨g, 0, none⟩ ∧ CB w1 g 0 nO old) := a3
  clear a3 b1
  go_wp2_with fail
  refine (PB.out w1 HB1.out).mono ?_
  rintro e w2 ⟨v2, rfl, ⟨p2, cap2, rfl, c1, c2, c3⟩, b2⟩
  have HB2 : Hid (Below w.heap.size w w2) := HB1.out.trans (b2.mono HB1.out.size)
  have B3 : Hid (nO = 0 ∨ ∃ g, p1 = some ⟨g, 0, none⟩ ∧ CB w2 g 0 nO old) := A3.out.imp id fun ⟨g, a, c⟩ => ⟨g, a, c.low b2⟩
  obtain ⟨g2, rfl, hcb2⟩ : ∃ g, p2 = some ⟨g, 0, none⟩ ∧ CB w2 g 0 n new := by
    rcases c3 with h | h
    · exact absurd h hn1
    · exact h
  have C3_ : Hid (CB w2 g2 0 n new) := hcb2
  have UP : Hid (Calls Tryd.prog 12 #[.slice p1 nO cap1, .int .i64 xw, .slice (some ⟨g2, 0, none⟩) n cap2, .int .i64 (V : Int)] w2 fun e w' => ∃ l, e = .returned (.tuple #[.string ⟨l.toArray⟩, .int .i64 0]) ∧ Hid (UpB old nO xw new n V l) ∧ Hid (Below w2.heap.size w2 w')) := dUpdate_ok old new nO V H n xw p1 g2 cap1 cap2 w2 hbO a1 a2 c1 c2 B3.out hcb2 (HT.out.below HB2.out) (Nat.lt_of_lt_of_le hg HB2.out.size) (HTN.out.below HB2.out hg) HSO.out HHV.out HHH.out HNN.out HRW.out
  clear c1 c2 c3 b2 a1 a2 A3 hcb2
  go_wp2_with fail
  refine UP.out.mono ?_
  rintro e w3 ⟨ll, rfl, HUB, h3⟩
  have HB3 : Hid (Below w.heap.size w w3) := HB2.out.trans (h3.out.mono HB2.out.size)
  have hll : ll.length ≤ 7300000 := upB_len HUB.out HHV.out HHH.out HNN.out HRW.out
  have D1 : Hid (nO = 0 ∨ ∃ g off, p1 = some ⟨g, off, none⟩ ∧ CL w3 g off nO old) := B3.out.imp id fun ⟨g, a, c⟩ => ⟨g, 0, a, c.cl.below h3.out⟩
  have D2 : Hid (CL w3 g2 0 n new) := C3_.out.cl.below h3.out
  clear h3 UP B3 C3_
  go_wp2_with fail
  refine (WH.out w3 HB3.out).mono ?_
  rintro e w4 ⟨rfl, h4⟩
  have HB4 : Hid (Below w.heap.size w w4) := HB3.out.trans (h4.out.mono HB3.out.size)
  have E1 : Hid (Calls Tryd.prog 15 #[.slice p1 nO cap1, .slice pO nO capO] w4 fun e w' => e = .returned (.bool true) ∧ Gr w4 w') := dcells_any p1 pO w4 (D1.out.imp id fun ⟨g, off, a, c⟩ => ⟨g, off, a, c.below h4.out⟩) (HO.out.imp id fun ⟨g, off, a, c⟩ => ⟨g, off, a, c.below HB4.out⟩) hbO
  have D3 : Hid (CL w4 g2 0 n new) := D2.out.below h4.out
  clear h4 D1 D2
  go_wp2_with fail
  refine E1.out.mono ?_
  rintro e w5 ⟨rfl, g5⟩
  have HB5 : Hid (Below w.heap.size w w5) := HB4.out.trans (g5.below.mono HB4.out.size)
  have E2 : Hid (Calls Tryd.prog 15 #[.slice (some ⟨g2, 0, none⟩) n cap2, .slice (some ⟨gN, offN, none⟩) n capN] w5 fun e w' => e = .returned (.bool true) ∧ Gr w5 w') := dcells_some w5 (cell_gr1 D3.out g5) (HNW.out.below HB5.out) hb
  clear g5 E1 D3
  go_wp2_with fail
  refine E2.out.mono ?_
  rintro e w6 ⟨rfl, g6⟩
  have HB6 : Hid (Below w.heap.size w w6) := HB5.out.trans (g6.below.mono HB5.out.size)
  clear g6 E2
  go_wp2_with fail
  refine (NU.out _ _).mono ?_
  rintro e w7 ⟨rfl, hw7⟩
  obtain rfl := hw7.symm
  go_wp2_with fail
  refine (SN.out w6 HB6.out).mono ?_
  rintro e w8 ⟨TN, rfl, HSN⟩
  have HB8 : Hid (Below w.heap.size w w8) := by
    obtain ⟨M, B, bc, t, sc⟩ := HSN.out
    exact HB6.out.trans (sc.bel.mono HB6.out.size)
  go_wp2_with fail
  refine (FI.out w8 HB8.out).mono ?_
  rintro e w9 ⟨bb, rfl, HFI, h9⟩
  have HB9 : Hid (Below w.heap.size w w9) := HB8.out.trans (h9.out.mono HB8.out.size)
  cases bb with
  | true =>
    have HON : Hid (One old nO xw n (V : Int)) := HFI.out.1 rfl
    have SOC := SO.out w9 HB9.out HON.out
    have HRO : Hid (Rws old V H) := SOC.1
    have SC : Hid (Calls Tryd.prog 16 #[.slice pO nO capO, .int .i64 xw, .int .i64 x, .int .i64 y] w9 fun e w' => ∃ T, e = .returned (.pointer (some ⟨T, 0, none⟩)) ∧ Hid (∃ M B bc t, Scd w9 w' T M B bc V H old t)) := SOC.2
    clear SOC HFI h9 HSN
    go_wp2_with fail
    refine SC.out.mono ?_
    rintro e wk ⟨T, rfl, HSC⟩
    obtain ⟨M, B, bc, tS, sc⟩ := HSC.out
    have HBK : Hid (Below w.heap.size w wk) := HB9.out.trans (sc.bel.mono HB9.out.size)
    obtain ⟨PP, hPP⟩ : ∃ z : Tm × St, (tS, St.out) = z := ⟨_, rfl⟩
    have hdoc := sc.doc
    rw [hPP] at hdoc
    obtain ⟨wvK, hwvK⟩ : ∃ z : Nat → Bool, (fun _ => false) = z := ⟨_, rfl⟩
    rw [hwvK] at hdoc
    have DOC : Hid (Doc wk wk T M B bc PP wvK 0) := hdoc
    have TIS : Hid (Ti PP.1 ∧ Si PP.2) := by rw [← hPP]; exact ⟨sc.ti, trivial⟩
    have HLK : Hid (0 + (⟨ll.toArray⟩ : ByteArray).size + 1 ≤ 4611686018427387904) := by show 0 + ll.toArray.size + 1 ≤ _; simp; omega
    have END : Hid (Ended (runT PP ll) V H new) := by
      rw [← hPP, HUB.out.one HON.out, HNN.out]
      exact ended_one HHV.out HHH.out HRO.out HRW.out sc.hW sc.hH sc.sh sc.sty.1 sc.sty.2.1 sc.sty.2.2
    have hT : w.heap.size ≤ T := Nat.le_trans HB9.out.size sc.tT
    have hM : w.heap.size ≤ M := Nat.le_trans HB9.out.size sc.tM
    have hB : w.heap.size ≤ B := Nat.le_trans HB9.out.size sc.tB
    clear sc hdoc hPP hwvK SC HSC HON HRO
    have hwl : w.heap.size ≤ wk.heap.size := HBK.out.size
    have WS : Hid (Calls Tryd.prog 18 #[.pointer (some ⟨T, 0, none⟩), .string ⟨ll.toArray⟩] wk fun e w' => e = .returned (.tuple #[]) ∧ Hid (∃ wv2 k2, Doc wk w' T M B bc (runT PP ll) wv2 k2)) := by
      have := rwrite_any ⟨ll.toArray⟩ wk DOC.out TIS.out.1 TIS.out.2 HLK.out
      exact this.mono fun e w' q => ⟨q.1, _, _, q.2⟩
    go_wp2_with fail
    refine WS.out.mono ?_
    rintro e20 wl ⟨rfl, HD⟩
    obtain ⟨wv2, k2, ⟨⟨K2, M2, cap2, s2, hrt2, hdd, hk2, hM2⟩, hc3⟩⟩ := HD.out
    have HBL : Hid (Below w.heap.size w wl) := dlow hc3 HBK.out hT hM hB
    have HEN : Hid (Ended (runT PP ll) V H new) := END.out
    obtain ⟨t2, ht2⟩ : ∃ z, runT PP ll = z := ⟨_, rfl⟩
    rw [ht2] at hdd HEN
    obtain ⟨qq, la, mks, hs2, hl2, hq2⟩ := hdd
    have hqe : qq = ⟨#[]⟩ := by
      rw [HEN.out.out] at hq2
      have hq3 : qq.data.toList = [] := hq2
      cases qq with
      | mk d => simp only at hq3; rw [Array.toList_eq_nil_iff.1 hq3]
    have t0 : wl.cell? ⟨T, 0, none⟩ = some (.pointer (some ⟨K2, 0, none⟩)) := hrt2.at rfl
    have t3 : wl.cell? ⟨T, 3, none⟩ = some (.int .i64 0) := by have := hrt2.at (j := 3) rfl; rw [hs2] at this; rw [this]; show some (Value.int .i64 t2.1.r.f) = _; rw [HEN.out.f]
    have t4 : wl.cell? ⟨T, 4, none⟩ = some (.int .i64 0) := by have := hrt2.at (j := 4) rfl; rw [hs2] at this; rw [this]; show some (Value.int .i64 t2.1.r.g) = _; rw [HEN.out.g]
    have t5 : wl.cell? ⟨T, 5, none⟩ = some (.int .i64 0) := by have := hrt2.at (j := 5) rfl; rw [hs2] at this; rw [this]; show some (Value.int .i64 t2.1.r.b) = _; rw [HEN.out.b]
    have t6 : wl.cell? ⟨T, 6, none⟩ = some (.string ⟨#[]⟩) := by have := hrt2.at (j := 6) rfl; rw [hs2] at this; rw [this]; show some (Value.string qq) = _; rw [hqe]
    have eW : s2.W = V := by rw [hs2]; exact HEN.out.eW
    have eH : s2.H = H := by rw [hs2]; exact HEN.out.eH
    have eN : s2.W * s2.H = n := by rw [eW, eH, HNN.out, Nat.mul_comm]
    have k2c : wl.cell? ⟨K2, 2, none⟩ = some (.slice (some ⟨M2, 0, none⟩) n cap2) := by have := hrt2.cs.k2; rw [eN] at this; exact this
    have hcap2 : n ≤ cap2 := by have := hrt2.cs.hc; rw [eN] at this; exact this
    have CLM : CL wl M2 0 n new := by
      refine cv_cl hrt2.cs.cv (by rw [eN]) fun y' x' hy' hx' => ?_
      have := HEN.out.sh y' x' (by rw [← eH]; exact hy') (by rw [← eW]; exact hx')
      rw [eW, hs2]
      exact this
    have CLN : CL wl gN offN n new := HNW.out.below HBL.out
    have ltT := hrt2.lt
    have EQ : Hid (Calls Tryd.prog 19 #[.slice (some ⟨M2, 0, none⟩) n cap2, .slice (some ⟨gN, offN, none⟩) n capN] wl fun e w' => e = .returned (.bool true) ∧ Gr wl w') := equal_same wl CLM CLN (by omega)
    have c3 := cell_grown ltT t3
    have c4 := cell_grown ltT t4
    have c5' := cell_grown ltT t5
    have c6 := cell_grown ltT t6
    clear hrt2 hl2 hq2 hs2 hM2 hc3 CLM CLN HD WS t3 t4 t5 t6
    go_wp2_with fail
    refine EQ.out.mono ?_
    rintro e21 wm ⟨rfl, ⟨nk, os, rfl⟩⟩
    have HBM : Hid (Below w.heap.size w (grow (wl.drewN nk) os)) := HBL.out.trans ((Gr.below ⟨nk, os, rfl⟩).mono HBL.out.size)
    have v3 := c3 nk os
    have v4 := c4 nk os
    have v5 := c5' nk os
    have v6 := c6 nk os
    obtain ⟨wm, hwm⟩ : ∃ z, grow (wl.drewN nk) os = z := ⟨_, rfl⟩
    rw [hwm] at v3 v4 v5 v6 HBM ⊢
    clear hwm EQ c3 c4 c5' c6 t0 k2c
    go_wp2
    go_ret
    exact ⟨rfl, HBM.out⟩
  | false =>
    have HON : Hid (¬ One old nO xw n (V : Int)) := fun q => (nomatch HFI.out.2 q)
    obtain ⟨M0, B, bc, tS, sc⟩ := HSN.out
    have hdoc9 : Doc w9 w9 TN M0 B bc (tS, .out) (fun _ => false) 0 := by
      obtain ⟨⟨K', M', cap', s, r1, r2, r3, r4⟩, _⟩ := sc.doc
      refine ⟨⟨K', M', cap', s, r1.below h9.out, r2, r3, ?_⟩, C3.refl _ _ _ _⟩
      rcases r4 with q | q
      · exact .inl q
      · exfalso
        have := r1.cs.cv.lt
        omega
    have WB : Hid (Calls Tryd.prog 18 #[.pointer (some ⟨TN, 0, none⟩), .string (bf ++ ⟨#[109, 27, 91, 109]⟩)] w9 fun e w' => e = .returned (.tuple #[]) ∧ Hid (∃ wv2, Doc w9 w' TN M0 B bc (runT (tS, .out) (bf ++ ⟨#[109, 27, 91, 109]⟩).data.toList) wv2 (0 + (bf ++ ⟨#[109, 27, 91, 109]⟩).size))) := by
      have := rwrite_any (bf ++ ⟨#[109, 27, 91, 109]⟩) w9 hdoc9 sc.ti trivial (by rw [ByteArray.size_append]; show 0 + (bf.size + 4) + 1 ≤ _; omega)
      exact this.mono fun e w' q => ⟨q.1, _, q.2⟩
    have HSC : Hid (Scd w6 w8 TN M0 B bc V H new tS) := sc
    clear sc hdoc9 HFI HSN
    go_wp2_with fail
    refine WB.out.mono ?_
    rintro e wk ⟨rfl, HDK⟩
    have hT : w.heap.size ≤ TN := Nat.le_trans HB6.out.size HSC.out.tT
    have hM0 : w.heap.size ≤ M0 := Nat.le_trans HB6.out.size HSC.out.tM
    have hB : w.heap.size ≤ B := Nat.le_trans HB6.out.size HSC.out.tB
    obtain ⟨wvK, ⟨⟨K', M, cap', s, r1, r2, r3, r4⟩, c3k⟩⟩ := HDK.out
    have HBK : Hid (Below w.heap.size w wk) := dlow c3k HB9.out hT hM0 hB
    have hM : w.heap.size ≤ M := by
      rcases r4 with q | q
      · omega
      · have := HB9.out.size; omega
    have hbl : (bf ++ ⟨#[109, 27, 91, 109]⟩).data.toList = bf.data.toList ++ [109, 27, 91, 109] := by simp
    obtain ⟨PP, hPP⟩ : ∃ z : Tm × St, runT (tS, .out) (bf ++ ⟨#[109, 27, 91, 109]⟩).data.toList = z := ⟨_, rfl⟩
    rw [hPP] at r2
    have DOC : Hid (Doc wk wk TN M B bc PP wvK (0 + (bf ++ ⟨#[109, 27, 91, 109]⟩).size)) := ⟨⟨K', M, cap', s, r1, r2, r3, .inl rfl⟩, C3.refl _ _ _ _⟩
    have TIS : Hid (Ti PP.1 ∧ Si PP.2) := by
      rw [← hPP]
      have := run_ok (bf ++ ⟨#[109, 27, 91, 109]⟩).data.toList (tS, .out) HSC.out.ti trivial (by show 1 ≤ tS.W; rw [HSC.out.hW]; exact HHV.out.1) (by show 1 ≤ tS.H; rw [HSC.out.hH]; exact HHH.out.1)
      exact ⟨this.1, this.2.1⟩
    have HLK : Hid (0 + (bf ++ ⟨#[109, 27, 91, 109]⟩).size + (⟨ll.toArray⟩ : ByteArray).size + 1 ≤ 4611686018427387904) := by
      show 0 + (bf ++ ⟨#[109, 27, 91, 109]⟩).size + ll.toArray.size + 1 ≤ _
      rw [ByteArray.size_append]
      show 0 + (bf.size + 4) + ll.toArray.size + 1 ≤ _
      simp
      omega
    have END : Hid (Ended (runT PP ll) V H new) := by
      have r0 := run_ok bf.data.toList (tS, .out) HSC.out.ti trivial (by show 1 ≤ tS.W; rw [HSC.out.hW]; exact HHV.out.1) (by show 1 ≤ tS.H; rw [HSC.out.hH]; exact HHH.out.1)
      obtain ⟨t1, e1, q1, q2, q3, q4, q5⟩ := run_plain (runT (tS, .out) bf.data.toList).1 (runT (tS, .out) bf.data.toList).2 r0.2.1
      rw [← hPP, hbl, runT_cat, e1, HUB.out.all HON.out, HNN.out]
      exact ended_all HHV.out HHH.out HRW.out (q1.trans (r0.2.2.1.trans HSC.out.hW)) (q2.trans (r0.2.2.2.trans HSC.out.hH)) q3 q4 q5
    obtain ⟨T, hTT⟩ : ∃ z, TN = z := ⟨_, rfl⟩
    rw [hTT] at DOC hT ⊢
    obtain ⟨kk, hkk⟩ : ∃ z, 0 + (bf ++ ⟨#[109, 27, 91, 109]⟩).size = z := ⟨_, rfl⟩
    rw [hkk] at DOC HLK
    clear r1 r2 r3 r4 c3k hbl hPP hTT hkk WB HDK HSC HON
    have hwl : w.heap.size ≤ wk.heap.size := HBK.out.size
    have WS : Hid (Calls Tryd.prog 18 #[.pointer (some ⟨T, 0, none⟩), .string ⟨ll.toArray⟩] wk fun e w' => e = .returned (.tuple #[]) ∧ Hid (∃ wv2 k2, Doc wk w' T M B bc (runT PP ll) wv2 k2)) := by
      have := rwrite_any ⟨ll.toArray⟩ wk DOC.out TIS.out.1 TIS.out.2 HLK.out
      exact this.mono fun e w' q => ⟨q.1, _, _, q.2⟩
    go_wp2_with fail
    refine WS.out.mono ?_
    rintro e20 wl ⟨rfl, HD⟩
    obtain ⟨wv2, k2, ⟨⟨K2, M2, cap2, s2, hrt2, hdd, hk2, hM2⟩, hc3⟩⟩ := HD.out
    have HBL : Hid (Below w.heap.size w wl) := dlow hc3 HBK.out hT hM hB
    have HEN : Hid (Ended (runT PP ll) V H new) := END.out
    obtain ⟨t2, ht2⟩ : ∃ z, runT PP ll = z := ⟨_, rfl⟩
    rw [ht2] at hdd HEN
    obtain ⟨qq, la, mks, hs2, hl2, hq2⟩ := hdd
    have hqe : qq = ⟨#[]⟩ := by
      rw [HEN.out.out] at hq2
      have hq3 : qq.data.toList = [] := hq2
      cases qq with
      | mk d => simp only at hq3; rw [Array.toList_eq_nil_iff.1 hq3]
    have t0 : wl.cell? ⟨T, 0, none⟩ = some (.pointer (some ⟨K2, 0, none⟩)) := hrt2.at rfl
    have t3 : wl.cell? ⟨T, 3, none⟩ = some (.int .i64 0) := by have := hrt2.at (j := 3) rfl; rw [hs2] at this; rw [this]; show some (Value.int .i64 t2.1.r.f) = _; rw [HEN.out.f]
    have t4 : wl.cell? ⟨T, 4, none⟩ = some (.int .i64 0) := by have := hrt2.at (j := 4) rfl; rw [hs2] at this; rw [this]; show some (Value.int .i64 t2.1.r.g) = _; rw [HEN.out.g]
    have t5 : wl.cell? ⟨T, 5, none⟩ = some (.int .i64 0) := by have := hrt2.at (j := 5) rfl; rw [hs2] at this; rw [this]; show some (Value.int .i64 t2.1.r.b) = _; rw [HEN.out.b]
    have t6 : wl.cell? ⟨T, 6, none⟩ = some (.string ⟨#[]⟩) := by have := hrt2.at (j := 6) rfl; rw [hs2] at this; rw [this]; show some (Value.string qq) = _; rw [hqe]
    have eW : s2.W = V := by rw [hs2]; exact HEN.out.eW
    have eH : s2.H = H := by rw [hs2]; exact HEN.out.eH
    have eN : s2.W * s2.H = n := by rw [eW, eH, HNN.out, Nat.mul_comm]
    have k2c : wl.cell? ⟨K2, 2, none⟩ = some (.slice (some ⟨M2, 0, none⟩) n cap2) := by have := hrt2.cs.k2; rw [eN] at this; exact this
    have hcap2 : n ≤ cap2 := by have := hrt2.cs.hc; rw [eN] at this; exact this
    have CLM : CL wl M2 0 n new := by
      refine cv_cl hrt2.cs.cv (by rw [eN]) fun y' x' hy' hx' => ?_
      have := HEN.out.sh y' x' (by rw [← eH]; exact hy') (by rw [← eW]; exact hx')
      rw [eW, hs2]
      exact this
    have CLN : CL wl gN offN n new := HNW.out.below HBL.out
    have ltT := hrt2.lt
    have EQ : Hid (Calls Tryd.prog 19 #[.slice (some ⟨M2, 0, none⟩) n cap2, .slice (some ⟨gN, offN, none⟩) n capN] wl fun e w' => e = .returned (.bool true) ∧ Gr wl w') := equal_same wl CLM CLN (by omega)
    have c3 := cell_grown ltT t3
    have c4 := cell_grown ltT t4
    have c5' := cell_grown ltT t5
    have c6 := cell_grown ltT t6
    clear hrt2 hl2 hq2 hs2 hM2 hc3 CLM CLN HD WS t3 t4 t5 t6
    go_wp2_with fail
    refine EQ.out.mono ?_
    rintro e21 wm ⟨rfl, ⟨nk, os, rfl⟩⟩
    have HBM : Hid (Below w.heap.size w (grow (wl.drewN nk) os)) := HBL.out.trans ((Gr.below ⟨nk, os, rfl⟩).mono HBL.out.size)
    have v3 := c3 nk os
    have v4 := c4 nk os
    have v5 := c5' nk os
    have v6 := c6 nk os
    obtain ⟨wm, hwm⟩ : ∃ z, grow (wl.drewN nk) os = z := ⟨_, rfl⟩
    rw [hwm] at v3 v4 v5 v6 HBM ⊢
    clear hwm EQ c3 c4 c5' c6 t0 k2c
    go_wp2
    go_ret
    exact ⟨rfl, HBM.out⟩

theorem dshows_any (old new : Nat → Ce) (nO n : Nat) (xw v x y : Int) (pO pN : Option Addr) (capO capN : Nat) (bf : ByteArray) (w : World) (hO : nO = 0 ∨ ∃ g off, pO = some ⟨g, off, none⟩ ∧ CL w g off nO old) (hN : n = 0 ∨ ∃ g off, pN = some ⟨g, off, none⟩ ∧ CL w g off n new) (hbO : nO ≤ 1048576) (hb : n ≤ 1048576) (hsO : ∀ i, i < nO → (old i).t.size ≤ 1099511627776) (hs : ∀ i, i < n → (new i).t.size ≤ 1099511627776) (ht : TabAt w) (htn : TensAt w) (hg : 3 < w.heap.size) (hbf : bf.size ≤ 1099511627776) :
    Calls Tryd.prog 4 #[.slice pO nO capO, .int .i64 xw, .slice pN n capN, .int .i64 v, .int .i64 x, .int .i64 y, .string bf] w fun e w' => e = .returned (.bool true) ∧ Below w.heap.size w w' := by
  by_cases h : Scr new n v
  · obtain ⟨V, H, rfl, h2, h3, h4, h5, h6, h7⟩ := h
    rcases hN with h0 | ⟨g, off, rfl, hc⟩
    · exfalso
      have : 1 ≤ H * V := Nat.mul_pos (by omega) (by omega)
      omega
    · exact dshows_ok old new nO V H n xw x y pO g off capO capN bf w hO hc hbO hb hsO hs ht htn hg hbf ⟨h3, h4⟩ ⟨h5, h6⟩ h2 h7
  · exact dshows_bad old new nO n xw v x y pO pN capO capN bf w hO hN hbO hb hsO hs ht h

end Go.Proofs.YtlfffpoeioecjaaDoor
