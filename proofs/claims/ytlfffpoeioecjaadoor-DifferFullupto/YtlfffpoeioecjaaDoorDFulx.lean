/-
  DifferFull, walked.
-/
import Derived.Test.YtlfffpoeioecjaaDoorX40
import Derived.Test.YtlfffpoeioecjaaDoorX36
namespace Go.Proofs.YtlfffpoeioecjaaDoor
open Go.RowKit Go.Sort
set_option linter.unusedVariables false

/-- As many bytes as a new screen may take. -/
def mS (new : Nat → Ce) : Nat → Nat
  | 0 => 0
  | i + 1 => mS new i + (64 + (new i).t.size)
theorem wrS_mS (old new : Nat → Ce) : ∀ i, wrS old new i ≤ mS new i
  | 0 => Nat.le_refl _
  | i + 1 => by
    have := wrS_mS old new i
    unfold wrS mS
    split <;> omega
theorem mS_le {new : Nat → Ce} {n : Nat} (h : ∀ i, i < n → (new i).t.size ≤ 20) : ∀ i, i ≤ n → mS new i ≤ 84 * i
  | 0, _ => by simp [mS]
  | i + 1, hi => by
    have ih := mS_le h i (by omega)
    have := h i (by omega)
    unfold mS
    omega
theorem allB_len {old new : Nat → Ce} {V H n : Nat} (hV : 1 ≤ V ∧ V ≤ 400) (hH : 1 ≤ H ∧ H ≤ 400) (hn : n = H * V) (hr : Rws new V H) : (allB nms V n old new pn0).length ≤ wrS old new n + 15 := by
  have hn4 : n ≤ 400 * V := by rw [hn]; exact Nat.mul_le_mul_right V hH.2
  unfold allB
  have h1 := upd_len (old := old) (n := n) (new := new) (p := pn0) hV hn4 (fun i hi => hr.sty (by omega)) n (Nat.le_refl _)
  have h3 := dip_len (f := (updB nms V old new pn0 n).1.f) (g := (updB nms V old new pn0 n).1.g) (b := (updB nms V old new pn0 n).1.b) (f2 := 0) (g2 := 0) (b2 := 0) ⟨by decide, by decide, by decide⟩
  rw [List.length_append]
  omega

set_option maxHeartbeats 16000000 in
set_option maxRecDepth 100000 in
theorem dfull_bad (old new : Nat → Ce) (nO n : Nat) (xw v : Int) (pO pN : Option Addr) (capO capN : Nat) (w : World) (hO : nO = 0 ∨ ∃ g off, pO = some ⟨g, off, none⟩ ∧ CL w g off nO old) (hN : n = 0 ∨ ∃ g off, pN = some ⟨g, off, none⟩ ∧ CL w g off n new) (hbO : nO ≤ 1048576) (hb : n ≤ 1048576) (hsO : ∀ i, i < nO → (old i).t.size ≤ 1099511627776) (hs : ∀ i, i < n → (new i).t.size ≤ 1099511627776) (ht : TabAt w) (hno : ¬ Scr new n v) :
    Calls Tryd.prog 6 #[.slice pO nO capO, .int .i64 xw, .slice pN n capN, .int .i64 v] w fun e w' => e = .returned (.bool true) ∧ Below w.heap.size w w' := by
  have PA : Hid (Calls Tryd.prog 11 #[.slice pO nO capO] w fun e w' => ∃ v, e = .returned v ∧ Pic w' v nO old ∧ Below w.heap.size w w') := painting_any nO capO pO old w hO hbO
  have PB : Hid (∀ w1, Below w.heap.size w w1 → Calls Tryd.prog 11 #[.slice pN n capN] w1 fun e w' => ∃ v, e = .returned v ∧ Pic w' v n new ∧ Below w1.heap.size w1 w') := fun w1 hb1 => painting_any n capN pN new w1 (hN.imp id fun ⟨g, off, a, c⟩ => ⟨g, off, a, c.below hb1⟩) hb
  have WH : Hid (∀ w1, Below w.heap.size w w1 → Calls Tryd.prog 13 #[.slice pN n capN, .int .i64 v] w1 fun r w' => r = .returned (.bool false) ∧ Hid (Below w1.heap.size w1 w')) := fun w1 hb1 => (whole_any new v pN n capN hb w1 (hN.imp id fun ⟨g, off, a, c⟩ => ⟨g, off, a, c.below hb1⟩) hs).mono fun r w' h => by
    obtain ⟨bb, h1, h2, h3⟩ := h
    cases bb with
    | true => exact absurd (h2.1 rfl) hno
    | false => exact ⟨h1, h3⟩
  have FI : Hid (∀ w1, Below w.heap.size w w1 → Calls Tryd.prog 17 #[.slice pO nO capO, .int .i64 xw, .slice pN n capN, .int .i64 v] w1 fun r w' => ∃ bb : Bool, r = .returned (.bool bb) ∧ Hid (bb = true ↔ One old nO xw n v) ∧ Hid (Below w1.heap.size w1 w')) := fun w1 hb1 => fits_any old nO n xw v pO _ capO capN w1 (whole_any old xw pO nO capO hbO w1 (hO.imp id fun ⟨g, off, a, c⟩ => ⟨g, off, a, c.below hb1⟩) hsO)
  have NU : Hid (∀ n w, Calls Tryd.prog 14 #[.int .i64 n] w fun e w' => e = .returned (.int .i64 n) ∧ w' = w) := dnum_any
  have HT : Hid (TabAt w) := ht
  have HS : Hid (∀ i, i < n → (new i).t.size ≤ 1099511627776) := hs
  have HNO : Hid (¬ Scr new n v) := hno
  clear hO hN hsO hs ht hno
  go_enter Tryd.func6, Tryd.ntmps6
  go_wp2_with fail
  refine PA.out.mono ?_
  rintro e w1 ⟨v1, rfl, ⟨p1, cap1, rfl, a1, a2, a3⟩, b1⟩
  have HB1 : Hid (Below w.heap.size w w1) := b1
  clear a1 a2 a3 b1
  go_wp2_with fail
  refine (PB.out w1 HB1.out).mono ?_
  rintro e w2 ⟨v2, rfl, ⟨p2, cap2, rfl, c1, c2, c3⟩, b2⟩
  have HB2 : Hid (Below w.heap.size w w2) := HB1.out.trans (b2.mono HB1.out.size)
  have UP : Hid (Calls Tryd.prog 12 #[.slice p1 nO cap1, .int .i64 xw, .slice p2 n cap2, .int .i64 v] w2 fun e w' => e = .returned (.tuple #[.string ⟨#[]⟩, .int .i64 6]) ∧ Hid (Below w2.heap.size w2 w')) := dUpdate_bad old new nO n xw v p1 p2 cap1 cap2 w2 hb c1 c2 c3 (HT.out.below HB2.out) HS.out HNO.out
  clear c1 c2 c3 b2
  go_wp2_with fail
  refine UP.out.mono ?_
  rintro e w3 ⟨rfl, h3⟩
  have HB3 : Hid (Below w.heap.size w w3) := HB2.out.trans (h3.out.mono HB2.out.size)
  clear h3
  go_wp2_with fail
  refine (WH.out w3 HB3.out).mono ?_
  rintro e w4 ⟨rfl, h4⟩
  have HB4 : Hid (Below w.heap.size w w4) := HB3.out.trans (h4.out.mono HB3.out.size)
  clear h4
  go_wp2_with fail
  refine (FI.out w4 HB4.out).mono ?_
  rintro e w5 ⟨bb, rfl, _, h5⟩
  have HB5 : Hid (Below w.heap.size w w5) := HB4.out.trans (h5.out.mono HB4.out.size)
  clear h5
  go_wp2_with fail
  refine (NU.out _ _).mono ?_
  rintro e w6 ⟨rfl, rfl⟩
  go_wp2
  go_ret
  exact ⟨rfl, HB5.out⟩

set_option maxHeartbeats 32000000 in
set_option maxRecDepth 100000 in
theorem dfull_ok (old new : Nat → Ce) (nO V H n : Nat) (xw : Int) (pO : Option Addr) (gN offN capO capN : Nat) (w : World) (hO : nO = 0 ∨ ∃ g off, pO = some ⟨g, off, none⟩ ∧ CL w g off nO old) (hN : CL w gN offN n new) (hbO : nO ≤ 1048576) (hb : n ≤ 1048576) (hsO : ∀ i, i < nO → (old i).t.size ≤ 1099511627776) (hs : ∀ i, i < n → (new i).t.size ≤ 1099511627776) (ht : TabAt w) (htn : TensAt w) (hg : 3 < w.heap.size) (hV : 1 ≤ V ∧ V ≤ 400) (hH : 1 ≤ H ∧ H ≤ 400) (hn : n = H * V) (hr : Rws new V H) :
    Calls Tryd.prog 6 #[.slice pO nO capO, .int .i64 xw, .slice (some ⟨gN, offN, none⟩) n capN, .int .i64 (V : Int)] w fun e w' => e = .returned (.bool true) ∧ Below w.heap.size w w' := by
  have hscr : Scr new n (V : Int) := ⟨V, H, rfl, hn, hV.1, hV.2, hH.1, hH.2, hr⟩
  have hn160 : n ≤ 160000 := by rw [hn]; exact Nat.le_trans (Nat.mul_le_mul hH.2 hV.2) (by decide)
  have PA : Hid (Calls Tryd.prog 11 #[.slice pO nO capO] w fun e w' => ∃ v, e = .returned v ∧ Pic w' v nO old ∧ Below w.heap.size w w') := painting_any nO capO pO old w hO hbO
  have PB : Hid (∀ w1, Below w.heap.size w w1 → Calls Tryd.prog 11 #[.slice (some ⟨gN, offN, none⟩) n capN] w1 fun e w' => ∃ v, e = .returned v ∧ Pic w' v n new ∧ Below w1.heap.size w1 w') := fun w1 hb1 => painting_any n capN _ new w1 (.inr ⟨gN, offN, rfl, hN.below hb1⟩) hb
  have WH : Hid (∀ w1, Below w.heap.size w w1 → Calls Tryd.prog 13 #[.slice (some ⟨gN, offN, none⟩) n capN, .int .i64 (V : Int)] w1 fun r w' => r = .returned (.bool true) ∧ Hid (Below w1.heap.size w1 w')) := fun w1 hb1 => (whole_any new (V : Int) _ n capN hb w1 (.inr ⟨gN, offN, rfl, hN.below hb1⟩) hs).mono fun r w' h => by
    obtain ⟨bb, h1, h2, h3⟩ := h
    cases bb with
    | false => exact absurd (h2.2 hscr) (by decide)
    | true => exact ⟨h1, h3⟩
  have FI : Hid (∀ w1, Below w.heap.size w w1 → Calls Tryd.prog 17 #[.slice pO nO capO, .int .i64 xw, .slice (some ⟨gN, offN, none⟩) n capN, .int .i64 (V : Int)] w1 fun r w' => ∃ bb : Bool, r = .returned (.bool bb) ∧ Hid (bb = true ↔ One old nO xw n (V : Int)) ∧ Hid (Below w1.heap.size w1 w')) := fun w1 hb1 => fits_any old nO n xw (V : Int) pO _ capO capN w1 (whole_any old xw pO nO capO hbO w1 (hO.imp id fun ⟨g, off, a, c⟩ => ⟨g, off, a, c.below hb1⟩) hsO)
  have NU : Hid (∀ n w, Calls Tryd.prog 14 #[.int .i64 n] w fun e w' => e = .returned (.int .i64 n) ∧ w' = w) := dnum_any
  have HT : Hid (TabAt w) := ht
  have HTN : Hid (TensAt w) := htn
  have HNW : Hid (CL w gN offN n new) := hN
  have HSO : Hid (∀ i, i < nO → (old i).t.size ≤ 1099511627776) := hsO
  have HHV : Hid (1 ≤ V ∧ V ≤ 400) := hV
  have HHH : Hid (1 ≤ H ∧ H ≤ 400) := hH
  have HNN : Hid (n = H * V) := hn
  have HRW : Hid (Rws new V H) := hr
  have HSZ : Hid (∀ i, i < n → (new i).t.size ≤ 20) := fun i hi => hr.size (by omega)
  have hn1 : ¬ n = 0 := by have : 1 ≤ H * V := Nat.mul_pos (by omega) (by omega); omega
  clear hO hN hsO hs ht htn hV hH hn hr hscr
  go_enter Tryd.func6, Tryd.ntmps6
  go_wp2_with fail
  refine PA.out.mono ?_
  rintro e w1 ⟨v1, rfl, ⟨p1, cap1, rfl, a1, a2, a3⟩, b1⟩
  have HB1 : Hid (Below w.heap.size w w1) := b1
  have A3 : Hid (nO = 0 ∨ ∃ g, p1 = some ⟨g, 0, none⟩ ∧ CB w1 g 0 nO old) := a3
  clear a3 b1
  go_wp2_with fail
  refine (PB.out w1 HB1.out).mono ?_
  rintro e w2 ⟨v2, rfl, ⟨p2, cap2, rfl, c1, c2, c3⟩, b2⟩
  have HB2 : Hid (Below w.heap.size w w2) := HB1.out.trans (b2.mono HB1.out.size)
  have B3 : Hid (nO = 0 ∨ ∃ g, p1 = some ⟨g, 0, none⟩ ∧ CB w2 g 0 nO old) := A3.out.imp id fun ⟨g, a, c⟩ => ⟨g, a, c.low b2⟩
  obtain ⟨g2, rfl, hcb2⟩ : ∃ g, p2 = some ⟨g, 0, none⟩ ∧ CB w2 g 0 n new := by
    rcases c3 with h | h
    · exact absurd h hn1
    · exact h
  have UP : Hid (Calls Tryd.prog 12 #[.slice p1 nO cap1, .int .i64 xw, .slice (some ⟨g2, 0, none⟩) n cap2, .int .i64 (V : Int)] w2 fun e w' => ∃ l, e = .returned (.tuple #[.string ⟨l.toArray⟩, .int .i64 0]) ∧ Hid (UpB old nO xw new n V l) ∧ Hid (Below w2.heap.size w2 w')) := dUpdate_ok old new nO V H n xw p1 g2 cap1 cap2 w2 hbO a1 a2 c1 c2 B3.out hcb2 (HT.out.below HB2.out) (Nat.lt_of_lt_of_le hg HB2.out.size) (HTN.out.below HB2.out hg) HSO.out HHV.out HHH.out HNN.out HRW.out
  clear c1 c2 c3 b2 a1 a2 A3 hcb2
  go_wp2_with fail
  refine UP.out.mono ?_
  rintro e w3 ⟨ll, rfl, HUB, h3⟩
  have HB3 : Hid (Below w.heap.size w w3) := HB2.out.trans (h3.out.mono HB2.out.size)
  clear h3 UP B3
  obtain ⟨ss, hss⟩ : ∃ z : ByteArray, (⟨ll.toArray⟩ : ByteArray) = z := ⟨_, rfl⟩
  have HSS : Hid ((⟨ll.toArray⟩ : ByteArray) = ss) := hss
  rw [hss]
  clear hss
  go_wp2_with fail
  refine (WH.out w3 HB3.out).mono ?_
  rintro e w4 ⟨rfl, h4⟩
  have HB4 : Hid (Below w.heap.size w w4) := HB3.out.trans (h4.out.mono HB3.out.size)
  clear h4
  go_wp2_with fail
  refine (FI.out w4 HB4.out).mono ?_
  rintro e w5 ⟨bb, rfl, HFI, h5⟩
  have HB5 : Hid (Below w.heap.size w w5) := HB4.out.trans (h5.out.mono HB4.out.size)
  clear h5
  cases bb with
  | true =>
    go_wp2_with fail
    refine (NU.out _ _).mono ?_
    rintro e w6 ⟨rfl, rfl⟩
    go_wp2
    go_ret
    exact ⟨rfl, HB5.out⟩
  | false =>
    have hl : ll = [27, 91, 50, 74] ++ allB nms V n (fun _ => bl0) new pn0 := HUB.out.all fun q => (nomatch HFI.out.2 q)
    have hlen : ss.size = ll.length := by rw [← HSS.out]; show ll.toArray.size = _; simp
    have h4 : 4 ≤ ss.size := by rw [hlen, hl]; simp
    have hmost : ss.size ≤ 64 + mS new n := by
      have h1 := allB_len (old := fun _ => bl0) HHV.out HHH.out HNN.out HRW.out
      have h2 := wrS_mS (fun _ => bl0) new n
      rw [hlen, hl, List.length_append]
      simp only [List.length_cons, List.length_nil]
      omega
    have hex : ss.extract 0 4 = ⟨#[27, 91, 50, 74]⟩ := by
      rw [← HSS.out, hl]
      apply ByteArray.ext
      rw [ByteArray.data_extract]
      apply Array.toList_inj.1
      simp
    have HMO : Hid (ss.size ≤ 64 + mS new n) := hmost
    have hcc : n ≤ capN ∨ True := .inr trivial
    clear HFI HUB HSS hl hlen hmost hcc
    go_wp2_with fail
    go_loopw [13, 14] (fun mv iv wr => ∃ i : Nat, iv = .int .i64 i ∧ i ≤ n ∧ mv = .int .i64 ((64 + mS new i : Nat) : Int) ∧ wr = w5) (fun _ iv _ => n - (intOf iv).toNat)
    case atStart => exact ⟨0, rfl, Nat.zero_le _, rfl, rfl⟩
    case round =>
      obtain ⟨i, rfl, hi, rfl, hwr⟩ := hrel
      obtain rfl := hwr.symm
      by_cases hil : i < n
      · have hil' : (i : Int) < (n : Int) := by omega
        have x0 : w5.cell? ⟨gN, offN + i * 5, none⟩ = some (.string (new i).t) := (HNW.out.below HB5.out).cell i hil 0 _ rfl
        have hz := HSZ.out i hil
        have hm := mS_le HSZ.out i hi
        have HM : Hid (mS new (i + 1) = mS new i + (64 + (new i).t.size)) := rfl
        obtain ⟨m, hme⟩ : ∃ m, mS new i = m := ⟨_, rfl⟩
        obtain ⟨t, hte⟩ : ∃ t, (new i).t = t := ⟨_, rfl⟩
        rw [hte] at x0 hz HM
        rw [hme] at hm HM ⊢
        clear hme hte
        have y1 : IntKind.i64.wrap (((64 + m : Nat) : Int) + 64) = ((64 + m : Nat) : Int) + 64 := IntWalk.i64_in _ (by omega)
        have y2 : IntKind.i64.wrap (((64 + m : Nat) : Int) + 64 + (t.size : Int)) = ((64 + m : Nat) : Int) + 64 + (t.size : Int) := IntWalk.i64_in _ (by omega)
        go_wp2
        go_roundw
        case rel => exact ⟨i + 1, by go_num, by omega, by rw [HM.out]; first | rfl | (congr 1; omega), by first | rfl | trivial⟩
        case measure => simp [intOf]; omega
      · have hil' : ¬ (i : Int) < (n : Int) := by omega
        obtain rfl : i = n := by omega
        have hm := mS_le HSZ.out i hi
        have hmo := HMO.out
        obtain ⟨m, hme⟩ : ∃ m, mS new i = m := ⟨_, rfl⟩
        rw [hme] at hm hmo ⊢
        have f1 : decide ((4 : Int) ≤ (ss.size : Int)) = true := decide_eq_true (by omega)
        have f2 : decide ((ss.size : Int) ≥ 4) = true := decide_eq_true (by omega)
        have f3 : decide ((ss.size : Int) ≤ ((64 + m : Nat) : Int)) = true := decide_eq_true (by omega)
        have f4 : decide ((ss.size : Int) ≤ 64 + (m : Int)) = true := decide_eq_true (by omega)
        clear hme
        go_wp2_with fail
        refine (NU.out _ _).mono ?_
        rintro e w6 ⟨rfl, rfl⟩
        go_wp2
        go_ret
        exact ⟨rfl, HB5.out⟩

theorem dfull_any (old new : Nat → Ce) (nO n : Nat) (xw v : Int) (pO pN : Option Addr) (capO capN : Nat) (w : World) (hO : nO = 0 ∨ ∃ g off, pO = some ⟨g, off, none⟩ ∧ CL w g off nO old) (hN : n = 0 ∨ ∃ g off, pN = some ⟨g, off, none⟩ ∧ CL w g off n new) (hbO : nO ≤ 1048576) (hb : n ≤ 1048576) (hsO : ∀ i, i < nO → (old i).t.size ≤ 1099511627776) (hs : ∀ i, i < n → (new i).t.size ≤ 1099511627776) (ht : TabAt w) (htn : TensAt w) (hg : 3 < w.heap.size) :
    Calls Tryd.prog 6 #[.slice pO nO capO, .int .i64 xw, .slice pN n capN, .int .i64 v] w fun e w' => e = .returned (.bool true) ∧ Below w.heap.size w w' := by
  by_cases h : Scr new n v
  · obtain ⟨V, H, rfl, h2, h3, h4, h5, h6, h7⟩ := h
    rcases hN with h0 | ⟨g, off, rfl, hc⟩
    · exfalso
      have : 1 ≤ H * V := Nat.mul_pos (by omega) (by omega)
      omega
    · exact dfull_ok old new nO V H n xw pO g off capO capN w hO hc hbO hb hsO hs ht htn hg ⟨h3, h4⟩ ⟨h5, h6⟩ h2 h7
  · exact dfull_bad old new nO n xw v pO pN capO capN w hO hN hbO hb hsO hs ht h

end Go.Proofs.YtlfffpoeioecjaaDoor
