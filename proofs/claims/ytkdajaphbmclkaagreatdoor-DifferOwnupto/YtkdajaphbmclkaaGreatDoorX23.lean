/-
  differ.Update.
-/
import Derived.Test.YtkdajaphbmclkaaGreatDoorX22
import Derived.Test.YtkdajaphbmclkaaGreatDoorX21
import Derived.Test.YtkdajaphbmclkaaGreatDoorX14
import Derived.Test.YtkdajaphbmclkaaGreatDoorX08
import Derived.Test.YtkdajaphbmclkaaGreatDoorX18
import Derived.Test.YtkdajaphbmclkaaGreatDoorX15
namespace Go.Proofs.YtkdajaphbmclkaaGreatDoor
open Go.RowKit Go.Sort
set_option linter.unusedVariables false

theorem PenTo.low {w w1 w2 : World} {B b : Nat} {W a f g d : Int} {l : List UInt8} (h : PenTo w w1 B b W a f g d l) (hb : Below w1.heap.size w1 w2) (hB : B ≤ w1.heap.size) : PenTo w w2 B b W a f g d l := by
  obtain ⟨p', v', h1, h2, h3⟩ := h
  exact ⟨p', v', h1.up hb, h2.trans (hb.mono hB), h3.trans (below_others hb _ _)⟩
def bl0 : Ce := ⟨⟨#[32]⟩, 0, 0, 0, 0⟩
def pn0 : Pe0 := ⟨-1, 0, 0, 0⟩
/-- The first case: one size. -/
def One (old : Nat → Ce) (nO : Nat) (x : Int) (n : Nat) (v : Int) : Prop := x = v ∧ nO = n ∧ Scr old nO x
/-- The bytes of an update. -/
structure UpB (old : Nat → Ce) (nO : Nat) (x : Int) (new : Nat → Ce) (n V : Nat) (l : List UInt8) : Prop where
  one : One old nO x n (V : Int) → l = allB nms V n old new pn0
  all : ¬ One old nO x n (V : Int) → l = [27, 91, 50, 74] ++ allB nms V n (fun _ => bl0) new pn0

set_option maxHeartbeats 4000000 in
set_option maxRecDepth 100000 in
theorem dUpdate_bad (old new : Nat → Ce) (nO n : Nat) (x v : Int) (pO pN : Option Addr) (capO capN : Nat) (w : World) (hb : n ≤ 1048576) (hc1 : n ≤ capN) (hc2 : capN ≤ 9223372036854775807) (hN : n = 0 ∨ ∃ g, pN = some ⟨g, 0, none⟩ ∧ CB w g 0 n new) (ht : TabAt w) (hs : ∀ i, i < n → (new i).t.size ≤ 1099511627776) (hno : ¬ Scr new n v) :
    Calls Tryz.prog 7 #[.slice pO nO capO, .int .i64 x, .slice pN n capN, .int .i64 v] w fun e w' => e = .returned (.tuple #[.string ⟨#[]⟩, .int .i64 6]) ∧ Hid (Below w.heap.size w w') := by
  have DS : Hid (Calls Tryz.prog 16 #[.slice pN n capN, .int .i64 v] w fun r w' => r = .returned (.bool false) ∧ Hid (Below w.heap.size w w')) :=
    (dSound_any new v pN n capN hb hc1 hc2 w (hN.imp id fun ⟨g, a, c⟩ => ⟨g, a, c.cl⟩) ht hs).mono fun r w' h => by
      obtain ⟨bb, h1, h2, h3⟩ := h
      cases bb with
      | true => exact absurd (h2.1 rfl) hno
      | false => exact ⟨h1, h3⟩
  clear hN ht hs hno
  go_enter Tryz.func7, Tryz.ntmps7
  go_wp2_with fail
  refine DS.out.mono ?_
  rintro e w1 ⟨rfl, HB⟩
  go_wp2
  go_ret2
  exact ⟨rfl, HB.out⟩

set_option maxHeartbeats 8000000 in
set_option maxRecDepth 100000 in
theorem dUpdate_ok (old new : Nat → Ce) (nO V H n : Nat) (x : Int) (pO : Option Addr) (gN capO capN : Nat) (w : World) (hbO : nO ≤ 1048576) (hO1 : nO ≤ capO) (hO2 : capO ≤ 9223372036854775807) (hc1 : n ≤ capN) (hc2 : capN ≤ 9223372036854775807) (hO : nO = 0 ∨ ∃ g, pO = some ⟨g, 0, none⟩ ∧ CB w g 0 nO old) (hN : CB w gN 0 n new) (ht : TabAt w) (hg : 3 < w.heap.size) (htn : TensAt w) (hsO : ∀ i, i < nO → (old i).t.size ≤ 1099511627776) (hV : 1 ≤ V ∧ V ≤ 400) (hH : 1 ≤ H ∧ H ≤ 400) (hn : n = H * V) (hr : Rws new V H) :
    Calls Tryz.prog 7 #[.slice pO nO capO, .int .i64 x, .slice (some ⟨gN, 0, none⟩) n capN, .int .i64 (V : Int)] w fun e w' => ∃ l, e = .returned (.tuple #[.string ⟨l.toArray⟩, .int .i64 0]) ∧ Hid (UpB old nO x new n V l) ∧ Hid (Below w.heap.size w w') := by
  have hn160 : 1 ≤ n ∧ n ≤ 160000 := by
    rw [hn]
    exact ⟨Nat.mul_pos (by omega) (by omega), Nat.le_trans (Nat.mul_le_mul hH.2 hV.2) (by decide)⟩
  have hscr : Scr new n (V : Int) := ⟨V, H, rfl, hn, hV.1, hV.2, hH.1, hH.2, hr⟩
  have hsN : ∀ i, i < n → (new i).t.size ≤ 1099511627776 := fun i hi => Nat.le_trans (hr.size (by omega)) (by decide)
  have HN : Hid (CB w gN 0 n new) := hN
  have HO : Hid (nO = 0 ∨ ∃ g, pO = some ⟨g, 0, none⟩ ∧ CB w g 0 nO old) := hO
  have HTB : Hid (TabAt w) := ht
  have HTN : Hid (TensAt w) := htn
  have HSO : Hid (∀ i, i < nO → (old i).t.size ≤ 1099511627776) := hsO
  have HHV : Hid (1 ≤ V ∧ V ≤ 400) := hV
  have HHH : Hid (1 ≤ H ∧ H ≤ 400) := hH
  have HNN : Hid (n = H * V) := hn
  have HRW : Hid (Rws new V H) := hr
  have DS : Hid (Calls Tryz.prog 16 #[.slice (some ⟨gN, 0, none⟩) n capN, .int .i64 (V : Int)] w fun r w' => r = .returned (.bool true) ∧ Hid (Below w.heap.size w w')) :=
    (dSound_any new (V : Int) (some ⟨gN, 0, none⟩) n capN (by omega) hc1 hc2 w (.inr ⟨gN, rfl, hN.cl⟩) ht hsN).mono fun r w' h => by
      obtain ⟨bb, h1, h2, h3⟩ := h
      cases bb with
      | false => exact absurd (h2.2 hscr) (by decide)
      | true => exact ⟨h1, h3⟩
  clear hN hO ht htn hsO hV hH hn hr hscr hsN
  go_enter Tryz.func7, Tryz.ntmps7
  go_wp2_with fail
  refine DS.out.mono ?_
  rintro e w1 ⟨rfl, HB1⟩
  go_upto_region 4 with fail
  obtain ⟨W2, hW2⟩ : ∃ z, w1.alloc (.cells #[.pointer none, .slice none 0 0, .int .i64 (V : Int), .int .i64 (-1), .int .i64 0, .int .i64 0, .int .i64 0] 64) = z := ⟨_, rfl⟩
  obtain ⟨b, hbb⟩ : ∃ z, w1.heap.size = z := ⟨_, rfl⟩
  have G2 : Hid (Gr w1 W2) := by rw [← hW2]; exact (Gr.refl w1).alloc _
  have hb1 : w.heap.size ≤ b := by rw [← hbb]; exact HB1.out.size
  have HB2 : Hid (Below w.heap.size w W2) := HB1.out.trans (G2.out.below.mono HB1.out.size)
  have HP2 : Hid (PenB W2 w.heap.size b (.pointer none) (.slice none 0 0) (V : Int) (-1) 0 0 0 []) := by
    refine ⟨hb1, .inl rfl, ?_, ⟨rfl, .inl ⟨rfl, rfl⟩⟩, ?_⟩
    · rw [← hW2, ← hbb]; exact new_block w1 _
    · exact fun e => nomatch e
  rw [hW2, hbb]
  have hltN : gN < w.heap.size := HN.out.cl.lt
  clear hW2 hbb DS
  go_cut [33] from 18 to 32 (fun s wx => ∃ bb : Bool, s = .bool bb ∧ Hid (bb = true ↔ ¬ One old nO x n (V : Int)) ∧ Hid (Below W2.heap.size W2 wx))
  case first =>
    by_cases hx : x = (V : Int)
    · have hxb : (x != (V : Int)) = false := by simpa using hx
      by_cases hl : nO = n
      · have hlb : ((nO : Int) != (n : Int)) = false := by simp [hl]
        have DS2 : Hid (Calls Tryz.prog 16 #[.slice pO nO capO, .int .i64 x] W2 fun r w' => ∃ bb : Bool, r = .returned (.bool bb) ∧ Hid (bb = true ↔ One old nO x n (V : Int)) ∧ Hid (Below W2.heap.size W2 w')) :=
          (dSound_any old x pO nO capO hbO hO1 hO2 W2 (HO.out.imp id fun ⟨g, a, c⟩ => ⟨g, a, (c.low HB2.out).cl⟩) (HTB.out.below HB2.out) HSO.out).mono fun r w' h => by
            obtain ⟨bb, h1, h2, h3⟩ := h
            exact ⟨bb, h1, ⟨fun e => ⟨hx, hl, h2.1 e⟩, fun e => h2.2 e.2.2⟩, h3⟩
        clear hx hl
        go_wp2_with fail
        refine DS2.out.mono ?_
        rintro e w3 ⟨bb, rfl, HI, HB3⟩
        have HI2 : Hid ((!bb) = true ↔ ¬ One old nO x n (V : Int)) := by
          have := HI.out
          cases bb with
          | true => exact ⟨fun q => (nomatch q), fun q => absurd (this.1 rfl) q⟩
          | false => exact ⟨fun _ q => (nomatch this.2 q), fun _ => rfl⟩
        go_wp2
        go_meet
        exact ⟨_, rfl, HI2.out, HB3.out⟩
      · have hlb : ((nO : Int) != (n : Int)) = true := by simpa using fun e => hl (Int.ofNat.inj e)
        have HNO : Hid (¬ One old nO x n (V : Int)) := fun q => hl q.2.1
        clear hx hl
        go_wp2
        go_meet
        exact ⟨true, rfl, ⟨fun _ => HNO.out, fun _ => rfl⟩, Below.refl _ _⟩
    · have hxb : (x != (V : Int)) = true := by simpa using hx
      have HNO : Hid (¬ One old nO x n (V : Int)) := fun q => hx q.1
      clear hx
      go_wp2
      go_meet
      exact ⟨true, rfl, ⟨fun _ => HNO.out, fun _ => rfl⟩, Below.refl _ _⟩
  case rest =>
    obtain ⟨bb, rfl, HI, HBC⟩ := hcut
    have HB3 : Hid (Below w.heap.size w wc) := HB2.out.trans (HBC.out.mono HB2.out.size)
    have HP3 : Hid (PenB wc w.heap.size b (.pointer none) (.slice none 0 0) (V : Int) (-1) 0 0 0 []) := HP2.out.up HBC.out
    have hsz3 : w.heap.size ≤ wc.heap.size := HB3.out.size
    cases bb with
    | false =>
      have HON : Hid (One old nO x n (V : Int)) := Classical.not_not.1 fun q => nomatch HI.out.2 q
      obtain ⟨hx, hl, hso⟩ := HON.out
      subst hl
      obtain ⟨gO, rfl, hCO⟩ : ∃ g, pO = some ⟨g, 0, none⟩ ∧ CB w g 0 nO old := by
        rcases HO.out with h | h
        · omega
        · exact h
      have hltO : gO < w.heap.size := hCO.cl.lt
      have UP : Hid (Calls Tryz.prog 19 #[.pointer (some ⟨b, 0, none⟩), .slice (some ⟨gO, 0, none⟩) nO capO, .slice (some ⟨gN, 0, none⟩) nO capN] wc fun e w' => e = .returned (.tuple #[]) ∧ Hid (∃ a, PenTo wc w' w.heap.size b (V : Int) a 0 0 0 (allB nms V nO old new pn0))) :=
        penUpd_any w.heap.size b _ _ V H nO [] gO 0 capO gN 0 capN old new wc HP3.out (by decide) hsz3 HHV.out HHH.out HNN.out HRW.out (hCO.low HB3.out) (HN.out.low HB3.out) (by omega) (by omega) (HTN.out.below HB3.out hg) hg
      clear hx hso hCO
      go_wp2_with fail
      refine UP.out.mono ?_
      rintro e4 w4 ⟨rfl, HU⟩
      have ST : Hid (Calls Tryz.prog 20 #[.pointer (some ⟨b, 0, none⟩)] w4 fun e w' => e = .returned (.string ⟨(allB nms V nO old new pn0).toArray⟩) ∧ Hid (Below w.heap.size w w')) := by
        obtain ⟨a, p1, v1, k1, k2, k3⟩ := HU.out
        exact (penStr_any w.heap.size b p1 v1 (V : Int) a 0 0 0 _ w4 k1 (Nat.le_trans hsz3 k2.size)).mono fun e w' q => ⟨q.1, (HB3.out.trans k2).trans q.2.out.1⟩
      clear UP
      go_wp2_with fail
      refine ST.out.mono ?_
      rintro e5 w5 ⟨rfl, H5⟩
      go_wp2
      go_ret2
      exact ⟨_, rfl, ⟨fun _ => rfl, fun q => absurd HON.out q⟩, H5.out⟩
    | true =>
      have HON : Hid (¬ One old nO x n (V : Int)) := HI.out.1 rfl
      have PW : Hid (Calls Tryz.prog 17 #[.pointer (some ⟨b, 0, none⟩), .string ⟨#[27, 91, 50, 74]⟩] wc fun e w2 => e = .returned (.tuple #[.int .i64 4, .nilIface]) ∧ Hid (PenTo wc w2 w.heap.size b (V : Int) (-1) 0 0 0 [27, 91, 50, 74])) :=
        (penWrite_any w.heap.size b _ _ (V : Int) (-1) 0 0 0 [] ⟨#[27, 91, 50, 74]⟩ wc HP3.out (by decide) hsz3).mono fun e w2 ⟨he, h1⟩ => ⟨he, _, h1⟩
      go_wp2_with fail
      refine PW.out.mono ?_
      rintro e4 w4 ⟨rfl, H4⟩
      have hsz4 : w.heap.size ≤ w4.heap.size := H4.out.size hsz3
      clear PW
      go_wp2_with fail
      obtain ⟨W5, hW5⟩ : ∃ z, w4.alloc (.cells #[.string ⟨#[32]⟩, .int .i64 0, .int .i64 0, .int .i64 0, .int .i64 0] 71) = z := ⟨_, rfl⟩
      obtain ⟨S5, hS5⟩ : ∃ z, w4.heap.size = z := ⟨_, rfl⟩
      have G5 : Hid (Gr w4 W5) := by rw [← hW5]; exact (Gr.refl w4).alloc _
      have R5b : R5 71 W5 S5 bl0 := by rw [← hW5, ← hS5]; exact R5.new w4 bl0 _
      have RP : Hid (Calls Tryz.prog 18 #[.slice (some ⟨S5, 0, none⟩) 1 1, .int .i64 (n : Int)] W5 fun r w' => r = .returned (.slice (some ⟨W5.heap.size, 0, none⟩) n n) ∧ Hid (CB w' W5.heap.size 0 n (fun _ => bl0)) ∧ Hid (Below w4.heap.size w4 w')) := by
        refine (repeat_any W5 bl0 S5 n hn160 R5b.lt fun k u hu => ?_).mono fun r w' ⟨h1, ⟨L, h2, h3⟩, h4⟩ => ⟨h1, ⟨⟨_, _, h2⟩, (Array.getElem?_eq_some_iff.1 h2).1, fun i hi k u hu => ?_⟩, G5.out.below.trans (h4.mono G5.out.size)⟩
        · rw [Lib.cell_of_heap R5b, ← hu]
          match k with
          | 0 => rfl
          | 1 => rfl
          | 2 => rfl
          | 3 => rfl
          | 4 => rfl
          | _ + 5 => rfl
        · rw [Lib.cell_of_heap h2, Nat.zero_add, List.getElem?_toArray]
          exact h3.2 i k u hi hu
      have hg5 : w4.heap.size ≤ W5.heap.size := G5.out.size
      rw [hW5, hS5]
      clear hW5 hS5 R5b
      refine RP.out.mono ?_
      rintro e6 w6 ⟨rfl, HCB, HB6⟩
      have H6 : Hid (PenTo wc w6 w.heap.size b (V : Int) (-1) 0 0 0 [27, 91, 50, 74]) := H4.out.low HB6.out hsz4
      have HB7 : Hid (Below w.heap.size w w6) := by
        obtain ⟨p1, v1, k1, k2, k3⟩ := H6.out
        exact HB3.out.trans k2
      have hsz6 : w.heap.size ≤ w6.heap.size := HB7.out.size
      have hblt : b < W5.heap.size := by
        obtain ⟨p1, v1, k1, k2, k3⟩ := H4.out
        have := k1.lt
        omega
      obtain ⟨g6, hg6⟩ : ∃ z, W5.heap.size = z := ⟨_, rfl⟩
      rw [hg6] at HCB hblt ⊢
      have UP : Hid (Calls Tryz.prog 19 #[.pointer (some ⟨b, 0, none⟩), .slice (some ⟨g6, 0, none⟩) n n, .slice (some ⟨gN, 0, none⟩) n capN] w6 fun e w' => e = .returned (.tuple #[]) ∧ Hid (∃ a, PenTo w6 w' w.heap.size b (V : Int) a 0 0 0 ([27, 91, 50, 74] ++ allB nms V n (fun _ => bl0) new pn0))) := by
        obtain ⟨p1, v1, k1, k2, k3⟩ := H6.out
        exact penUpd_any w.heap.size b p1 v1 V H n [27, 91, 50, 74] g6 0 n gN 0 capN (fun _ => bl0) new w6 k1 (by decide) hsz6 HHV.out HHH.out HNN.out HRW.out HCB.out (HN.out.low HB7.out) (by omega) (by omega) (HTN.out.below HB7.out hg) hg
      clear RP hg6
      go_wp2_with fail
      refine UP.out.mono ?_
      rintro e8 w8 ⟨rfl, HU⟩
      have ST : Hid (Calls Tryz.prog 20 #[.pointer (some ⟨b, 0, none⟩)] w8 fun e w' => e = .returned (.string ⟨([27, 91, 50, 74] ++ allB nms V n (fun _ => bl0) new pn0).toArray⟩) ∧ Hid (Below w.heap.size w w')) := by
        obtain ⟨a, p1, v1, k1, k2, k3⟩ := HU.out
        exact (penStr_any w.heap.size b p1 v1 (V : Int) a 0 0 0 _ w8 k1 (Nat.le_trans hsz6 k2.size)).mono fun e w' q => ⟨q.1, (HB7.out.trans k2).trans q.2.out.1⟩
      clear UP
      obtain ⟨LL, hLL⟩ : ∃ z, [27, 91, 50, 74] ++ allB nms V n (fun _ => bl0) new pn0 = z := ⟨_, rfl⟩
      have HLL : Hid ([27, 91, 50, 74] ++ allB nms V n (fun _ => bl0) new pn0 = LL) := hLL
      rw [hLL] at ST
      clear hLL
      go_wp2_with fail
      refine ST.out.mono ?_
      rintro e9 w9 ⟨rfl, H9⟩
      go_wp2
      go_ret2
      exact ⟨_, rfl, ⟨fun q => absurd q HON.out, fun _ => HLL.out.symm⟩, H9.out⟩

end Go.Proofs.YtkdajaphbmclkaaGreatDoor

namespace Go.Proofs.YtkdajaphbmclkaaGreatDoor
set_option linter.unusedVariables false

theorem run_ok : ∀ (l : List UInt8) (p : Tm × St), Ti p.1 → Si p.2 → 1 ≤ p.1.W → 1 ≤ p.1.H → Ti (runT p l).1 ∧ Si (runT p l).2 ∧ (runT p l).1.W = p.1.W ∧ (runT p l).1.H = p.1.H
  | [], p, h1, h2, _, _ => ⟨h1, h2, rfl, rfl⟩
  | b :: l, p, h1, h2, h3, h4 => by
    have hw := wh_step p.1 b p.2
    have e1 : (stepT p.1 b p.2).1.W = p.1.W := congrArg Prod.fst hw
    have e2 : (stepT p.1 b p.2).1.H = p.1.H := congrArg Prod.snd hw
    have k := step_ok h1 h2 h3 h4 b
    have r := run_ok l (stepT p.1 b p.2) k.1 k.2 (by rw [e1]; exact h3) (by rw [e2]; exact h4)
    exact ⟨r.1, r.2.1, r.2.2.1.trans e1, r.2.2.2.trans e2⟩
/-- The end: it shows new, plain. -/
structure Ended (p : Tm × St) (W H : Nat) (new : Nat → Ce) : Prop where
  out : p.2 = .out
  eW : p.1.W = W
  eH : p.1.H = H
  sh : Shows p.1.c W H new
  f : p.1.r.f = 0
  g : p.1.r.g = 0
  b : p.1.r.b = 0
section
variable {W H : Nat} {old new : Nat → Ce} {t : Tm}
theorem pen_at (hf : t.r.f = 0) (hg : t.r.g = 0) (hb : t.r.b = 0) : PenAt W t pn0 := ⟨hf, hg, hb, ⟨by decide, by decide, by decide⟩, fun j hj => by have : (-1 : Int) = j := hj; omega⟩
theorem ended_one (hW : 1 ≤ W ∧ W ≤ 400) (hH : 1 ≤ H ∧ H ≤ 400) (ho : Rws old W H) (hn : Rws new W H) (h1 : t.W = W) (h2 : t.H = H) (hs : Shows t.c W H old) (hf : t.r.f = 0) (hg : t.r.g = 0) (hb : t.r.b = 0) : Ended (runT (t, .out) (allB nms W (H * W) old new pn0)) W H new := by
  obtain ⟨t', e, a1, a2, a3, a4, a5, a6⟩ := all_run turns_nms hW hH ho hn h1 h2 (pen_at hf hg hb) hs
  rw [e]
  exact ⟨rfl, a1, a2, a3, a4, a5, a6⟩
theorem blank_txt : Txt bl0 1 := by unfold Txt bl0; decide
theorem blank_rws : Rws (fun _ => bl0) W H := fun y hy i h1 h2 => ⟨⟨by decide, by decide, by decide⟩, .inl rfl, fun q => (by cases q), fun q => (by cases q), fun _ => blank_txt⟩
/-- Made plain. -/
theorem run_plain (s : Tm) (st : St) (h : Si st) : ∃ t, runT (s, st) [109, 27, 91, 109] = (t, .out) ∧ t.W = s.W ∧ t.H = s.H ∧ t.r.f = 0 ∧ t.r.g = 0 ∧ t.r.b = 0 := by
  have e0 : stepT s 109 st = ((stepT s 109 st).1, .out) := Prod.ext rfl (step_m s st h)
  obtain ⟨s1, h1⟩ : ∃ z, (stepT s 109 st).1 = z := ⟨_, rfl⟩
  have hw : wh s1 = wh s := by rw [← h1]; exact wh_step s 109 st
  rw [h1] at e0
  have hsW : s1.W = s.W := congrArg Prod.fst hw
  have hsH : s1.H = s.H := congrArg Prod.snd hw
  have e1 : runT (s, st) [109, 27, 91, 109] = runT (stepT s 109 st) [27, 91, 109] := rfl
  rw [e1, e0]
  have e : runT (s1, .out) [27, 91, 109] = (⟨s1.W, s1.H, s1.c, ⟨s1.r.x, s1.r.y, 0, 0, 0, 0, 0, ⟨#[]⟩, 0, 0⟩⟩, .out) := rfl
  exact ⟨_, e, hsW, hsH, rfl, rfl, rfl⟩
theorem run_erase (hW : 1 ≤ t.W ∧ t.W ≤ 400) (hH : 1 ≤ t.H ∧ t.H ≤ 400) (hf : t.r.f = 0) (hg : t.r.g = 0) (hb : t.r.b = 0) : ∃ t', runT (t, .out) [27, 91, 50, 74] = (t', .out) ∧ t'.W = t.W ∧ t'.H = t.H ∧ Shows t'.c t.W t.H (fun _ => bl0) ∧ t'.r.f = 0 ∧ t'.r.g = 0 ∧ t'.r.b = 0 := by
  have e : runT (t, .out) [27, 91, 50, 74] = ({ t with c := filC t.W t.H t.c 0 0 t.W t.H 0 0 0 0 0 t.W t.H, r := clr t.r }, .out) := rfl
  exact ⟨_, e, rfl, rfl, fun y x hy hx => fil_whole hW hH t.c hy hx, hf, hg, hb⟩
theorem ended_all (hW : 1 ≤ W ∧ W ≤ 400) (hH : 1 ≤ H ∧ H ≤ 400) (hn : Rws new W H) (h1 : t.W = W) (h2 : t.H = H) (hf : t.r.f = 0) (hg : t.r.g = 0) (hb : t.r.b = 0) : Ended (runT (t, .out) ([27, 91, 50, 74] ++ allB nms W (H * W) (fun _ => bl0) new pn0)) W H new := by
  obtain ⟨t', e, a1, a2, a3, a4, a5, a6⟩ := run_erase (t := t) (by rw [h1]; exact hW) (by rw [h2]; exact hH) hf hg hb
  rw [h1, h2] at a3
  rw [runT_cat, e]
  exact ended_one hW hH blank_rws hn (a1.trans h1) (a2.trans h2) a3 a4 a5 a6
end

end Go.Proofs.YtkdajaphbmclkaaGreatDoor

namespace Go.Proofs.YtkdajaphbmclkaaGreatDoor
open Go.RowKit Go.Sort
set_option linter.unusedVariables false

theorem ocv_cl {T : TypeId} {Q : World} {M W H n : Nat} {c : Nat → Nat → Ce} {C : Nat → Ce} (h : Cv T Q M W H c) (hn : n = W * H) (hs : ∀ y x, y < H → x < W → c y x = C (y * W + x)) : CL Q M 0 n C := by
  refine ⟨h.lt, fun i hi k u hu => ?_⟩
  obtain ⟨y, x, hy, hx, rfl⟩ := lin_split (W := W) (H := H) (by rw [← hn]; exact hi)
  have := h.cell y x hy hx k u (by rw [hs y x hy hx]; exact hu)
  rw [show 0 + (y * W + x) * 5 + k = y * W * 5 + x * 5 + k by rw [Nat.add_mul]; omega]
  exact this
theorem olow {T M : Nat} {w0 w w' : World} (g : C2 T M w w') (b : Below w0.heap.size w0 w) (hT : w0.heap.size ≤ T) (hM : w0.heap.size ≤ M) : Below w0.heap.size w0 w' :=
  ⟨g.os.trans b.os, g.tape.trans b.tape, g.output.trans b.output, Nat.le_trans b.size g.size, fun k hk => (g.block k (Nat.lt_of_lt_of_le hk b.size) (by omega) (by omega)).trans (b.block k hk)⟩
theorem CL.c2 {T M : Nat} {w w' : World} {g off n : Nat} {C : Nat → Ce} (h : CL w g off n C) (k : C2 T M w w') (h1 : g ≠ T) (h2 : g ≠ M) : CL w' g off n C :=
  ⟨Nat.lt_of_lt_of_le h.lt k.size, fun i hi j u hu => (World.cell?_of_block (a := ⟨g, off + i * 5 + j, none⟩) (k.block g h.lt h1 h2)).trans (h.cell i hi j u hu)⟩
theorem oupB_len {old new : Nat → Ce} {nO : Nat} {x : Int} {V H n : Nat} {l : List UInt8} (h : UpB old nO x new n V l) (hV : 1 ≤ V ∧ V ≤ 400) (hH : 1 ≤ H ∧ H ≤ 400) (hn : n = H * V) (hr : Rws new V H) : l.length ≤ 7300000 := by
  have hn4 : n ≤ 400 * V := by rw [hn]; exact Nat.mul_le_mul_right V hH.2
  have hnb : n ≤ 160000 := by have := Nat.mul_le_mul_left 400 hV.2; omega
  have key : ∀ o : Nat → Ce, (allB nms V n o new pn0).length ≤ 7200015 := fun o => by
    unfold allB
    have h1 := upd_len (old := o) (n := n) (new := new) (p := pn0) hV hn4 (fun i hi => hr.sty (by omega)) n (Nat.le_refl _)
    have h2 := wrS_le (old := o) (n := n) (new := new) (fun i hi => hr.size (by omega)) n (Nat.le_refl _)
    have h3 := dip_len (f := (updB nms V o new pn0 n).1.f) (g := (updB nms V o new pn0 n).1.g) (b := (updB nms V o new pn0 n).1.b) (f2 := 0) (g2 := 0) (b2 := 0) ⟨by decide, by decide, by decide⟩
    rw [List.length_append]
    omega
  by_cases c : One old nO x n (V : Int)
  · rw [h.one c]; have := key old; omega
  · rw [h.all c, List.length_append]; have := key (fun _ => bl0); simp; omega
/-- A list that is handed in. -/
def Hd (w : World) (p : Option Addr) (n : Nat) (C : Nat → Ce) : Prop := n = 0 ∨ ∃ g off, p = some ⟨g, off, none⟩ ∧ CL w g off n C
/-- The program's terminal between two writes. -/
structure TmO (w0 w : World) (T K M cap V H : Nat) (C : Nat → Ce) (t : Tm) (nv : Value) : Prop where
  tm : TM w T K M cap t nv
  nx : nv = fnV 15 #[]
  ti : Ti t
  eW : t.W = V
  eH : t.H = H
  sh : Shows t.c V H C
  f : t.r.f = 0
  g : t.r.g = 0
  b : t.r.b = 0

set_option maxHeartbeats 32000000 in
set_option maxRecDepth 100000 in
theorem down_no (F1 : Nat → Ce) (p1 : Option Addr) (n1 cap1 : Nat) (F2 : Nat → Ce) (p2 : Option Addr) (n2 cap2 : Nat) (F3 : Nat → Ce) (p3 : Option Addr) (n3 cap3 : Nat) (v : Int) (w : World) (h1 : Hd w p1 n1 F1) (b1 : n1 ≤ 1048576) (s1 : ∀ i, i < n1 → (F1 i).t.size ≤ 1099511627776) (h2 : Hd w p2 n2 F2) (b2 : n2 ≤ 1048576) (s2 : ∀ i, i < n2 → (F2 i).t.size ≤ 1099511627776) (h3 : Hd w p3 n3 F3) (b3 : n3 ≤ 1048576) (s3 : ∀ i, i < n3 → (F3 i).t.size ≤ 1099511627776) (hno : ¬ (Scr F1 n1 v ∧ Scr F2 n2 v ∧ Scr F3 n3 v ∧ n1 = n2 ∧ n2 = n3)) :
    Calls Tryz.prog 3 #[.slice p1 n1 cap1, .slice p2 n2 cap2, .slice p3 n3 cap3, .int .i64 v] w fun e w' => e = .returned (.bool true) ∧ Below w.heap.size w w' := by
  have W1 : Hid (∀ w1, Below w.heap.size w w1 → Calls Tryz.prog 4 #[.slice p1 n1 cap1, .int .i64 v] w1 fun r w' => ∃ b : Bool, r = .returned (.bool b) ∧ Hid (b = true ↔ Scr F1 n1 v) ∧ Hid (Below w1.heap.size w1 w')) := fun w1 hb => whole_any F1 v p1 n1 cap1 b1 w1 (h1.imp id fun ⟨g, off, a, c⟩ => ⟨g, off, a, c.below hb⟩) s1
  have W2 : Hid (∀ w1, Below w.heap.size w w1 → Calls Tryz.prog 4 #[.slice p2 n2 cap2, .int .i64 v] w1 fun r w' => ∃ b : Bool, r = .returned (.bool b) ∧ Hid (b = true ↔ Scr F2 n2 v) ∧ Hid (Below w1.heap.size w1 w')) := fun w1 hb => whole_any F2 v p2 n2 cap2 b2 w1 (h2.imp id fun ⟨g, off, a, c⟩ => ⟨g, off, a, c.below hb⟩) s2
  have W3 : Hid (∀ w1, Below w.heap.size w w1 → Calls Tryz.prog 4 #[.slice p3 n3 cap3, .int .i64 v] w1 fun r w' => ∃ b : Bool, r = .returned (.bool b) ∧ Hid (b = true ↔ Scr F3 n3 v) ∧ Hid (Below w1.heap.size w1 w')) := fun w1 hb => whole_any F3 v p3 n3 cap3 b3 w1 (h3.imp id fun ⟨g, off, a, c⟩ => ⟨g, off, a, c.below hb⟩) s3
  have HNO : Hid (¬ (Scr F1 n1 v ∧ Scr F2 n2 v ∧ Scr F3 n3 v ∧ n1 = n2 ∧ n2 = n3)) := hno
  clear h1 h2 h3 s1 s2 s3 hno
  go_enter Tryz.func3, Tryz.ntmps3
  go_wp2_with fail
  refine (W1.out w (Below.refl _ _)).mono ?_
  rintro e u1 ⟨a1, rfl, I1, k1⟩
  have HB1 : Hid (Below w.heap.size w u1) := k1.out
  clear k1
  go_wp2_with fail
  refine (W2.out u1 HB1.out).mono ?_
  rintro e u2 ⟨a2, rfl, I2, k2⟩
  have HB2 : Hid (Below w.heap.size w u2) := HB1.out.trans (k2.out.mono HB1.out.size)
  clear k2
  go_wp2_with fail
  refine (W3.out u2 HB2.out).mono ?_
  rintro e u3 ⟨a3, rfl, I3, k3⟩
  have HB3 : Hid (Below w.heap.size w u3) := HB2.out.trans (k3.out.mono HB2.out.size)
  clear k3
  cases a1 with
  | false =>
    go_wp2
    go_ret
    exact ⟨rfl, HB3.out⟩
  | true =>
    cases a2 with
    | false =>
      go_wp2
      go_ret
      exact ⟨rfl, HB3.out⟩
    | true =>
      cases a3 with
      | false =>
        go_wp2
        go_ret
        exact ⟨rfl, HB3.out⟩
      | true =>
        by_cases e1 : n1 = n2
        · by_cases e2 : n2 = n3
          · exact absurd ⟨I1.out.1 rfl, I2.out.1 rfl, I3.out.1 rfl, e1, e2⟩ HNO.out
          · have f1 : ((n1 : Int) != (n2 : Int)) = false := by simp [e1]
            have f2 : ((n2 : Int) != (n3 : Int)) = true := by simpa using fun e => e2 (Int.ofNat.inj e)
            clear e1 e2
            go_wp2
            go_ret
            exact ⟨rfl, HB3.out⟩
        · have f1 : ((n1 : Int) != (n2 : Int)) = true := by simpa using fun e => e1 (Int.ofNat.inj e)
          clear e1
          go_wp2
          go_ret
          exact ⟨rfl, HB3.out⟩

set_option maxHeartbeats 64000000 in
set_option maxRecDepth 100000 in
theorem down_ok (F1 F2 F3 : Nat → Ce) (V H n : Nat) (g1 o1 g2 o2 g3 o3 cap1 cap2 cap3 : Nat) (w : World) (h1 : CL w g1 o1 n F1) (h2 : CL w g2 o2 n F2) (h3 : CL w g3 o3 n F3) (ht : TabAt w) (hU : Utf w) (hgs : 2 < w.heap.size) (htn : TensAt w) (hg : 3 < w.heap.size) (hV : 1 ≤ V ∧ V ≤ 400) (hH : 1 ≤ H ∧ H ≤ 400) (hn : n = H * V) (r1 : Rws F1 V H) (r2 : Rws F2 V H) (r3 : Rws F3 V H) :
    Calls Tryz.prog 3 #[.slice (some ⟨g1, o1, none⟩) n cap1, .slice (some ⟨g2, o2, none⟩) n cap2, .slice (some ⟨g3, o3, none⟩) n cap3, .int .i64 (V : Int)] w fun e w' => e = .returned (.bool true) ∧ Below w.heap.size w w' := by
  have hn160 : 1 ≤ n ∧ n ≤ 160000 := by
    rw [hn]
    exact ⟨Nat.mul_pos (by omega) (by omega), Nat.le_trans (Nat.mul_le_mul hH.2 hV.2) (by decide)⟩
  have hsc : ∀ C, Rws C V H → Scr C n (V : Int) := fun C hr => ⟨V, H, rfl, hn, hV.1, hV.2, hH.1, hH.2, hr⟩
  have hsz : ∀ C, Rws C V H → ∀ i, i < n → (C i).t.size ≤ 1099511627776 := fun C hr i hi => Nat.le_trans (hr.size (by omega)) (by decide)
  have WH : Hid (∀ C g o cap w1, Rws C V H → CL w1 g o n C → Calls Tryz.prog 4 #[.slice (some ⟨g, o, none⟩) n cap, .int .i64 (V : Int)] w1 fun r w' => r = .returned (.bool true) ∧ Hid (Below w1.heap.size w1 w')) := fun C g o cap w1 hr hc => (whole_any C (V : Int) _ n cap (by omega) w1 (.inr ⟨g, o, rfl, hc⟩) (hsz C hr)).mono fun r w' h => by
    obtain ⟨bb, k1, k2, k3⟩ := h
    cases bb with
    | false => exact absurd (k2.2 (hsc C hr)) (by decide)
    | true => exact ⟨k1, k3⟩
  have PA : Hid (∀ C g o cap w1, CL w1 g o n C → Calls Tryz.prog 8 #[.slice (some ⟨g, o, none⟩) n cap] w1 fun e w' => ∃ q cp, e = .returned (.slice (some ⟨q, 0, none⟩) n cp) ∧ n ≤ cp ∧ cp ≤ 9223372036854775807 ∧ Hid (CB w' q 0 n C) ∧ Hid (Below w1.heap.size w1 w')) := fun C g o cap w1 hc => (painting_any n cap _ C w1 (.inr ⟨g, o, rfl, hc⟩) (by omega)).mono fun e w' h => by
    obtain ⟨v, k1, ⟨p, cp, rfl, k2, k3, k4⟩, k5⟩ := h
    rcases k4 with k4 | ⟨q, rfl, k6⟩
    · omega
    · exact ⟨q, cp, k1, k2, k3, k6, k5⟩
  have UN : Hid (∀ C q cp w1, Below w.heap.size w w1 → Rws C V H → CB w1 q 0 n C → n ≤ cp → cp ≤ 9223372036854775807 → Calls Tryz.prog 7 #[.slice none 0 0, .int .i64 0, .slice (some ⟨q, 0, none⟩) n cp, .int .i64 (V : Int)] w1 fun e w' => ∃ l, e = .returned (.tuple #[.string ⟨l.toArray⟩, .int .i64 0]) ∧ l.length ≤ 7300000 ∧ Hid (l = [27, 91, 50, 74] ++ allB nms V n (fun _ => bl0) C pn0) ∧ Hid (Below w1.heap.size w1 w')) := fun C q cp w1 hb hr hc k1 k2 => (dUpdate_ok C C 0 V H n 0 none q 0 cp w1 (by omega) (by omega) (by omega) k1 k2 (.inl rfl) hc (ht.below hb) (Nat.lt_of_lt_of_le hg hb.size) (htn.below hb hg) (fun i hi => absurd hi (by omega)) hV hH hn hr).mono fun e w' ⟨l, m1, m2, m3⟩ => ⟨l, m1, oupB_len m2.out hV hH hn hr, m2.out.all (fun q => by have := q.1; omega), m3⟩
  have UD : Hid (∀ O C qo co q cp w1, Below w.heap.size w w1 → Rws O V H → Rws C V H → CB w1 qo 0 n O → CB w1 q 0 n C → n ≤ co → co ≤ 9223372036854775807 → n ≤ cp → cp ≤ 9223372036854775807 → Calls Tryz.prog 7 #[.slice (some ⟨qo, 0, none⟩) n co, .int .i64 (V : Int), .slice (some ⟨q, 0, none⟩) n cp, .int .i64 (V : Int)] w1 fun e w' => ∃ l, e = .returned (.tuple #[.string ⟨l.toArray⟩, .int .i64 0]) ∧ l.length ≤ 7300000 ∧ Hid (l = allB nms V n O C pn0) ∧ Hid (Below w1.heap.size w1 w')) := fun O C qo co q cp w1 hb hro hr hco hc k1 k2 k3 k4 => (dUpdate_ok O C n V H n (V : Int) _ q co cp w1 (by omega) k1 k2 k3 k4 (.inr ⟨qo, rfl, hco⟩) hc (ht.below hb) (Nat.lt_of_lt_of_le hg hb.size) (htn.below hb hg) (hsz O hro) hV hH hn hr).mono fun e w' ⟨l, m1, m2, m3⟩ => ⟨l, m1, oupB_len m2.out hV hH hn hr, m2.out.one ⟨rfl, rfl, hsc O hro⟩, m3⟩
  have TN : Hid (∀ w1, Calls Tryz.prog 5 #[.int .i64 (V : Int), .int .i64 (H : Int)] w1 fun e w' => ∃ T K M, e = .returned (.tuple #[.pointer (some ⟨T, 0, none⟩), .int .i64 0]) ∧ TM w' T K M (V * H) (tm0 V H) (fnV 15 #[]) ∧ w1.heap.size ≤ T ∧ w1.heap.size ≤ K ∧ w1.heap.size ≤ M ∧ Below w1.heap.size w1 w') := fun w1 => tnew_ok V H w1 hV hH (pall0 V H)
  have NU : Hid (∀ n w, Calls Tryz.prog 6 #[.int .i64 n] w fun e w' => e = .returned (.int .i64 n) ∧ w' = w) := dnum_any
  have HA1 : Hid (CL w g1 o1 n F1) := h1
  have HA2 : Hid (CL w g2 o2 n F2) := h2
  have HA3 : Hid (CL w g3 o3 n F3) := h3
  have HR1 : Hid (Rws F1 V H) := r1
  have HR2 : Hid (Rws F2 V H) := r2
  have HR3 : Hid (Rws F3 V H) := r3
  have HT : Hid (TabAt w) := ht
  have HU : Hid (Utf w) := hU
  have hus := hU.sz
  have HHV : Hid (1 ≤ V ∧ V ≤ 400) := hV
  have HHH : Hid (1 ≤ H ∧ H ≤ 400) := hH
  have HNN : Hid (n = H * V) := hn
  have hW0 : ¬ V = 0 := by omega
  have hW1 : ¬ (V : Int) = 0 := by omega
  have wH : IntKind.i64.wrap (H : Int) = (H : Int) := IntWalk.i64_in _ (by omega)
  have hq0 : (n : Int) / (V : Int) = (H : Int) := by
    rw [hn, Int.natCast_mul]
    exact Int.mul_ediv_cancel _ hW1
  have hqw : IntKind.i64.wrap ((n : Int) / (V : Int)) = (H : Int) := by rw [hq0, wH]
  have hq2 : wrap64 ((n : Int) / (V : Int)) = (H : Int) := by rw [hq0]; clear hq0 hqw; unfold wrap64; omega
  clear h1 h2 h3 r1 r2 r3 ht hU htn hV hH hn hsc hsz
  go_enter Tryz.func3, Tryz.ntmps3
  go_wp2_with fail
  refine (WH.out F1 g1 o1 cap1 w HR1.out (HA1.out.below (Below.refl _ _))).mono ?_
  rintro e u1 ⟨rfl, k⟩
  have HB1 : Hid (Below w.heap.size w u1) := k.out
  clear k
  go_wp2_with fail
  refine (WH.out F2 g2 o2 cap2 u1 HR2.out (HA2.out.below HB1.out)).mono ?_
  rintro e u2 ⟨rfl, k⟩
  have HB2 : Hid (Below w.heap.size w u2) := HB1.out.trans (k.out.mono HB1.out.size)
  clear k
  go_wp2_with fail
  refine (WH.out F3 g3 o3 cap3 u2 HR3.out (HA3.out.below HB2.out)).mono ?_
  rintro e u3 ⟨rfl, k⟩
  have HB3 : Hid (Below w.heap.size w u3) := HB2.out.trans (k.out.mono HB2.out.size)
  clear k
  go_wp2_with fail
  refine (TN.out u3).mono ?_
  rintro e u4 ⟨T, K, M, rfl, tm4, hT, hK, hM, k⟩
  have HB4 : Hid (Below w.heap.size w u4) := HB3.out.trans (k.mono HB3.out.size)
  have HTM4 : Hid (TM u4 T K M (V * H) (tm0 V H) (fnV 15 #[])) := tm4
  have hT' : w.heap.size ≤ T := Nat.le_trans HB3.out.size hT
  have hM' : w.heap.size ≤ M := Nat.le_trans HB3.out.size hM
  have hfar : Far T M := ⟨by omega, by omega, by omega⟩
  clear tm4 k hT hK hM
  go_wp2_with fail
  refine (NU.out _ _).mono ?_
  rintro e u5 ⟨rfl, hu5⟩
  obtain rfl := hu5.symm
  go_wp2_with fail
  refine (PA.out F1 g1 o1 cap1 u4 (HA1.out.below HB4.out)).mono ?_
  rintro e u6 ⟨qa, ca, rfl, caa, cab, KA, k⟩
  have HB5 : Hid (Below w.heap.size w u6) := HB4.out.trans (k.out.mono HB4.out.size)
  have HTM' : Hid (TM u6 T K M (V * H) (tm0 V H) (fnV 15 #[])) := HTM4.out.below k.out
  clear HTM4 k
  have HTM4 := HTM'
  clear HTM'
  go_wp2_with fail
  refine (UN.out F1 qa ca u6 HB5.out HR1.out KA.out caa cab).mono ?_
  rintro e u7 ⟨la, rfl, lal, LA, k⟩
  have HB6 : Hid (Below w.heap.size w u7) := HB5.out.trans (k.out.mono HB5.out.size)
  have HTM' : Hid (TM u7 T K M (V * H) (tm0 V H) (fnV 15 #[])) := HTM4.out.below k.out
  clear HTM4 k
  have HTM4 := HTM'
  clear HTM'
  go_wp2_with fail
  refine (PA.out F1 g1 o1 cap1 u7 (HA1.out.below HB6.out)).mono ?_
  rintro e u8 ⟨qb, cb, rfl, cba, cbb, KB, k⟩
  have HB7 : Hid (Below w.heap.size w u8) := HB6.out.trans (k.out.mono HB6.out.size)
  have HTM' : Hid (TM u8 T K M (V * H) (tm0 V H) (fnV 15 #[])) := HTM4.out.below k.out
  clear HTM4 k
  have HTM4 := HTM'
  clear HTM'
  go_wp2_with fail
  refine (PA.out F2 g2 o2 cap2 u8 (HA2.out.below HB7.out)).mono ?_
  rintro e u9 ⟨qc, cc, rfl, cca, ccb, KC, k⟩
  have HB8 : Hid (Below w.heap.size w u9) := HB7.out.trans (k.out.mono HB7.out.size)
  have KB' : Hid (CB u9 qb 0 n F1) := KB.out.low k.out
  clear KB
  have KB := KB'
  clear KB'
  have HTM' : Hid (TM u9 T K M (V * H) (tm0 V H) (fnV 15 #[])) := HTM4.out.below k.out
  clear HTM4 k
  have HTM4 := HTM'
  clear HTM'
  go_wp2_with fail
  refine (UD.out F1 F2 qb cb qc cc u9 HB8.out HR1.out HR2.out KB.out KC.out cba cbb cca ccb).mono ?_
  rintro e u10 ⟨lb, rfl, lbl, LB, k⟩
  have HB9 : Hid (Below w.heap.size w u10) := HB8.out.trans (k.out.mono HB8.out.size)
  have HTM' : Hid (TM u10 T K M (V * H) (tm0 V H) (fnV 15 #[])) := HTM4.out.below k.out
  clear HTM4 k
  have HTM4 := HTM'
  clear HTM'
  go_wp2_with fail
  refine (PA.out F2 g2 o2 cap2 u10 (HA2.out.below HB9.out)).mono ?_
  rintro e u11 ⟨qd, cd, rfl, cda, cdb, KD, k⟩
  have HB10 : Hid (Below w.heap.size w u11) := HB9.out.trans (k.out.mono HB9.out.size)
  have HTM' : Hid (TM u11 T K M (V * H) (tm0 V H) (fnV 15 #[])) := HTM4.out.below k.out
  clear HTM4 k
  have HTM4 := HTM'
  clear HTM'
  go_wp2_with fail
  refine (PA.out F3 g3 o3 cap3 u11 (HA3.out.below HB10.out)).mono ?_
  rintro e u12 ⟨qe, ce, rfl, cea, ceb, KE, k⟩
  have HB11 : Hid (Below w.heap.size w u12) := HB10.out.trans (k.out.mono HB10.out.size)
  have KD' : Hid (CB u12 qd 0 n F2) := KD.out.low k.out
  clear KD
  have KD := KD'
  clear KD'
  have HTM' : Hid (TM u12 T K M (V * H) (tm0 V H) (fnV 15 #[])) := HTM4.out.below k.out
  clear HTM4 k
  have HTM4 := HTM'
  clear HTM'
  go_wp2_with fail
  refine (UD.out F2 F3 qd cd qe ce u12 HB11.out HR2.out HR3.out KD.out KE.out cda cdb cea ceb).mono ?_
  rintro e u13 ⟨lc, rfl, lcl, LC, k⟩
  have HB12 : Hid (Below w.heap.size w u13) := HB11.out.trans (k.out.mono HB11.out.size)
  have HTM' : Hid (TM u13 T K M (V * H) (tm0 V H) (fnV 15 #[])) := HTM4.out.below k.out
  clear HTM4 k
  have HTM4 := HTM'
  clear HTM'
  clear UN UD PA WH TN
  have E1 : Hid (Ended (runT (tm0 V H, .out) la) V H F1) := by
    rw [LA.out, HNN.out]
    exact ended_all HHV.out HHH.out HR1.out rfl rfl rfl rfl rfl
  have WR1 : Hid (Calls Tryz.prog 9 #[.pointer (some ⟨T, 0, none⟩), .string ⟨la.toArray⟩] u13 fun e w' => e = .returned (.tuple #[]) ∧ Hid (∃ t nv, TmO w w' T K M (V * H) V H F1 t nv) ∧ Hid (C2 T M u13 w')) := by
    have hwr := write_any ⟨la.toArray⟩ (by show la.toArray.size ≤ _; simp; omega) u13 HTM4.out (st := .out) rfl (ti0 V H HHH.out.1) trivial (HT.out.below HB12.out) (HU.out.below HB12.out) hfar
    have e0 : (⟨la.toArray⟩ : ByteArray).data.toList = la := rfl
    rw [e0] at hwr
    exact hwr.mono fun e w' q => by
      obtain ⟨q1, ⟨nv', q2, q3⟩, q4, q5, q6⟩ := q
      have en := E1.out
      refine ⟨q1, ⟨_, nv', q2, ?_, q4, en.eW, en.eH, en.sh, en.f, en.g, en.b⟩, q6⟩
      rw [en.out] at q3
      exact q3
  go_wp2_with fail
  refine WR1.out.mono ?_
  rintro e u14 ⟨rfl, hto, kc⟩
  have HB13 : Hid (Below w.heap.size w u14) := olow kc.out HB12.out hT' hM'
  obtain ⟨t1, nv1, hto2⟩ := hto.out
  have TO1 : Hid (TmO w u14 T K M (V * H) V H F1 t1 nv1) := hto2
  clear hto hto2 kc WR1
  clear HTM4
  have TC1 : Hid (Calls Tryz.prog 10 #[.pointer (some ⟨T, 0, none⟩)] u14 fun e w' => ∃ N cp, e = .returned (.slice (some ⟨N, 0, none⟩) n cp) ∧ Hid (CL w' N 0 n F1) ∧ u14.heap.size ≤ N ∧ Hid (Below u14.heap.size u14 w')) := (tcells_any u14 TO1.out.tm).mono fun e w' q => by
    obtain ⟨N, cp, q1, q2, q3, q4⟩ := q
    have en : t1.W * t1.H = n := by rw [TO1.out.eW, TO1.out.eH, HNN.out, Nat.mul_comm]
    rw [en] at q1
    refine ⟨N, cp, q1, ocv_cl q2 en.symm fun y' x' hy' hx' => ?_, q3, q4⟩
    have := TO1.out.sh y' x' (by rw [← TO1.out.eH]; exact hy') (by rw [← TO1.out.eW]; exact hx')
    rw [TO1.out.eW]
    exact this
  go_wp2_with fail
  refine TC1.out.mono ?_
  rintro e u15 ⟨N1, cn1, rfl, KN1, hN1, k⟩
  have HB14 : Hid (Below w.heap.size w u15) := HB13.out.trans (k.out.mono HB13.out.size)
  have hN1T : N1 ≠ T := by have := TO1.out.tm.lt; omega
  have hN1M : N1 ≠ M := by have := TO1.out.tm.cs.cv.lt; omega
  have TO' : Hid (TmO w u15 T K M (V * H) V H F1 t1 nv1) := ⟨TO1.out.tm.below k.out, TO1.out.nx, TO1.out.ti, TO1.out.eW, TO1.out.eH, TO1.out.sh, TO1.out.f, TO1.out.g, TO1.out.b⟩
  clear TO1 TC1
  have TO1 := TO'
  clear TO'
  clear k
  have E2 : Hid (Ended (runT (t1, .out) lb) V H F2) := by
    rw [LB.out, HNN.out]
    exact ended_one HHV.out HHH.out HR1.out HR2.out TO1.out.eW TO1.out.eH TO1.out.sh TO1.out.f TO1.out.g TO1.out.b
  have WR2 : Hid (Calls Tryz.prog 9 #[.pointer (some ⟨T, 0, none⟩), .string ⟨lb.toArray⟩] u15 fun e w' => e = .returned (.tuple #[]) ∧ Hid (∃ t nv, TmO w w' T K M (V * H) V H F2 t nv) ∧ Hid (C2 T M u15 w')) := by
    have hwr := write_any ⟨lb.toArray⟩ (by show lb.toArray.size ≤ _; simp; omega) u15 TO1.out.tm (st := .out) (by rw [TO1.out.nx]; rfl) TO1.out.ti trivial (HT.out.below HB14.out) (HU.out.below HB14.out) hfar
    have e0 : (⟨lb.toArray⟩ : ByteArray).data.toList = lb := rfl
    rw [e0] at hwr
    exact hwr.mono fun e w' q => by
      obtain ⟨q1, ⟨nv', q2, q3⟩, q4, q5, q6⟩ := q
      have en := E2.out
      refine ⟨q1, ⟨_, nv', q2, ?_, q4, en.eW, en.eH, en.sh, en.f, en.g, en.b⟩, q6⟩
      rw [en.out] at q3
      exact q3
  go_wp2_with fail
  refine WR2.out.mono ?_
  rintro e u16 ⟨rfl, hto, kc⟩
  have HB15 : Hid (Below w.heap.size w u16) := olow kc.out HB14.out hT' hM'
  have KN1' : Hid (CL u16 N1 0 n F1) := KN1.out.c2 kc.out hN1T hN1M
  clear KN1
  have KN1 := KN1'
  clear KN1'
  obtain ⟨t2, nv2, hto2⟩ := hto.out
  have TO2 : Hid (TmO w u16 T K M (V * H) V H F2 t2 nv2) := hto2
  clear hto hto2 kc WR2
  have TC2 : Hid (Calls Tryz.prog 10 #[.pointer (some ⟨T, 0, none⟩)] u16 fun e w' => ∃ N cp, e = .returned (.slice (some ⟨N, 0, none⟩) n cp) ∧ Hid (CL w' N 0 n F2) ∧ u16.heap.size ≤ N ∧ Hid (Below u16.heap.size u16 w')) := (tcells_any u16 TO2.out.tm).mono fun e w' q => by
    obtain ⟨N, cp, q1, q2, q3, q4⟩ := q
    have en : t2.W * t2.H = n := by rw [TO2.out.eW, TO2.out.eH, HNN.out, Nat.mul_comm]
    rw [en] at q1
    refine ⟨N, cp, q1, ocv_cl q2 en.symm fun y' x' hy' hx' => ?_, q3, q4⟩
    have := TO2.out.sh y' x' (by rw [← TO2.out.eH]; exact hy') (by rw [← TO2.out.eW]; exact hx')
    rw [TO2.out.eW]
    exact this
  go_wp2_with fail
  refine TC2.out.mono ?_
  rintro e u17 ⟨N2, cn2, rfl, KN2, hN2, k⟩
  have HB16 : Hid (Below w.heap.size w u17) := HB15.out.trans (k.out.mono HB15.out.size)
  have hN2T : N2 ≠ T := by have := TO2.out.tm.lt; omega
  have hN2M : N2 ≠ M := by have := TO2.out.tm.cs.cv.lt; omega
  have TO' : Hid (TmO w u17 T K M (V * H) V H F2 t2 nv2) := ⟨TO2.out.tm.below k.out, TO2.out.nx, TO2.out.ti, TO2.out.eW, TO2.out.eH, TO2.out.sh, TO2.out.f, TO2.out.g, TO2.out.b⟩
  clear TO2 TC2
  have TO2 := TO'
  clear TO'
  have KN1' : Hid (CL u17 N1 0 n F1) := KN1.out.below k.out
  clear KN1
  have KN1 := KN1'
  clear KN1'
  clear k
  have E3 : Hid (Ended (runT (t2, .out) lc) V H F3) := by
    rw [LC.out, HNN.out]
    exact ended_one HHV.out HHH.out HR2.out HR3.out TO2.out.eW TO2.out.eH TO2.out.sh TO2.out.f TO2.out.g TO2.out.b
  have WR3 : Hid (Calls Tryz.prog 9 #[.pointer (some ⟨T, 0, none⟩), .string ⟨lc.toArray⟩] u17 fun e w' => e = .returned (.tuple #[]) ∧ Hid (∃ t nv, TmO w w' T K M (V * H) V H F3 t nv) ∧ Hid (C2 T M u17 w')) := by
    have hwr := write_any ⟨lc.toArray⟩ (by show lc.toArray.size ≤ _; simp; omega) u17 TO2.out.tm (st := .out) (by rw [TO2.out.nx]; rfl) TO2.out.ti trivial (HT.out.below HB16.out) (HU.out.below HB16.out) hfar
    have e0 : (⟨lc.toArray⟩ : ByteArray).data.toList = lc := rfl
    rw [e0] at hwr
    exact hwr.mono fun e w' q => by
      obtain ⟨q1, ⟨nv', q2, q3⟩, q4, q5, q6⟩ := q
      have en := E3.out
      refine ⟨q1, ⟨_, nv', q2, ?_, q4, en.eW, en.eH, en.sh, en.f, en.g, en.b⟩, q6⟩
      rw [en.out] at q3
      exact q3
  go_wp2_with fail
  refine WR3.out.mono ?_
  rintro e u18 ⟨rfl, hto, kc⟩
  have HB17 : Hid (Below w.heap.size w u18) := olow kc.out HB16.out hT' hM'
  have KN1' : Hid (CL u18 N1 0 n F1) := KN1.out.c2 kc.out hN1T hN1M
  clear KN1
  have KN1 := KN1'
  clear KN1'
  have KN2' : Hid (CL u18 N2 0 n F2) := KN2.out.c2 kc.out hN2T hN2M
  clear KN2
  have KN2 := KN2'
  clear KN2'
  obtain ⟨t3, nv3, hto2⟩ := hto.out
  have TO3 : Hid (TmO w u18 T K M (V * H) V H F3 t3 nv3) := hto2
  clear hto hto2 kc WR3
  have TC3 : Hid (Calls Tryz.prog 10 #[.pointer (some ⟨T, 0, none⟩)] u18 fun e w' => ∃ N cp, e = .returned (.slice (some ⟨N, 0, none⟩) n cp) ∧ Hid (CL w' N 0 n F3) ∧ u18.heap.size ≤ N ∧ Hid (Below u18.heap.size u18 w')) := (tcells_any u18 TO3.out.tm).mono fun e w' q => by
    obtain ⟨N, cp, q1, q2, q3, q4⟩ := q
    have en : t3.W * t3.H = n := by rw [TO3.out.eW, TO3.out.eH, HNN.out, Nat.mul_comm]
    rw [en] at q1
    refine ⟨N, cp, q1, ocv_cl q2 en.symm fun y' x' hy' hx' => ?_, q3, q4⟩
    have := TO3.out.sh y' x' (by rw [← TO3.out.eH]; exact hy') (by rw [← TO3.out.eW]; exact hx')
    rw [TO3.out.eW]
    exact this
  go_wp2_with fail
  refine TC3.out.mono ?_
  rintro e u19 ⟨N3, cn3, rfl, KN3, hN3, k⟩
  have HB18 : Hid (Below w.heap.size w u19) := HB17.out.trans (k.out.mono HB17.out.size)
  have hN3T : N3 ≠ T := by have := TO3.out.tm.lt; omega
  have hN3M : N3 ≠ M := by have := TO3.out.tm.cs.cv.lt; omega
  have TO' : Hid (TmO w u19 T K M (V * H) V H F3 t3 nv3) := ⟨TO3.out.tm.below k.out, TO3.out.nx, TO3.out.ti, TO3.out.eW, TO3.out.eH, TO3.out.sh, TO3.out.f, TO3.out.g, TO3.out.b⟩
  clear TO3 TC3
  have TO3 := TO'
  clear TO'
  have KN1' : Hid (CL u19 N1 0 n F1) := KN1.out.below k.out
  clear KN1
  have KN1 := KN1'
  clear KN1'
  have KN2' : Hid (CL u19 N2 0 n F2) := KN2.out.below k.out
  clear KN2
  have KN2 := KN2'
  clear KN2'
  clear k
  have CE1 : Hid (Calls Tryz.prog 11 #[.slice (some ⟨N1, 0, none⟩) n cn1, .slice (some ⟨g1, o1, none⟩) n cap1] u19 fun e w' => e = .returned (.bool true) ∧ Gr u19 w') := dcells_some u19 KN1.out (HA1.out.below HB18.out) (by omega)
  go_wp2_with fail
  refine CE1.out.mono ?_
  rintro e u20 ⟨rfl, gg⟩
  have HB19 : Hid (Below w.heap.size w u20) := HB18.out.trans (gg.below.mono HB18.out.size)
  have KN2' : Hid (CL u20 N2 0 n F2) := cell_gr1 KN2.out gg
  clear KN2
  have KN2 := KN2'
  clear KN2'
  have KN3' : Hid (CL u20 N3 0 n F3) := cell_gr1 KN3.out gg
  clear KN3
  have KN3 := KN3'
  clear KN3'
  clear gg CE1
  have CE2 : Hid (Calls Tryz.prog 11 #[.slice (some ⟨N2, 0, none⟩) n cn2, .slice (some ⟨g2, o2, none⟩) n cap2] u20 fun e w' => e = .returned (.bool true) ∧ Gr u20 w') := dcells_some u20 KN2.out (HA2.out.below HB19.out) (by omega)
  go_wp2_with fail
  refine CE2.out.mono ?_
  rintro e u21 ⟨rfl, gg⟩
  have HB20 : Hid (Below w.heap.size w u21) := HB19.out.trans (gg.below.mono HB19.out.size)
  have KN3' : Hid (CL u21 N3 0 n F3) := cell_gr1 KN3.out gg
  clear KN3
  have KN3 := KN3'
  clear KN3'
  clear gg CE2
  have CE3 : Hid (Calls Tryz.prog 11 #[.slice (some ⟨N3, 0, none⟩) n cn3, .slice (some ⟨g3, o3, none⟩) n cap3] u21 fun e w' => e = .returned (.bool true) ∧ Gr u21 w') := dcells_some u21 KN3.out (HA3.out.below HB20.out) (by omega)
  go_wp2_with fail
  refine CE3.out.mono ?_
  rintro e u22 ⟨rfl, gg⟩
  have HB21 : Hid (Below w.heap.size w u22) := HB20.out.trans (gg.below.mono HB20.out.size)
  clear gg CE3
  go_wp2
  go_ret
  exact ⟨rfl, HB21.out⟩

theorem down_any (F1 : Nat → Ce) (p1 : Option Addr) (n1 cap1 : Nat) (F2 : Nat → Ce) (p2 : Option Addr) (n2 cap2 : Nat) (F3 : Nat → Ce) (p3 : Option Addr) (n3 cap3 : Nat) (v : Int) (w : World) (h1 : Hd w p1 n1 F1) (b1 : n1 ≤ 1048576) (s1 : ∀ i, i < n1 → (F1 i).t.size ≤ 1099511627776) (h2 : Hd w p2 n2 F2) (b2 : n2 ≤ 1048576) (s2 : ∀ i, i < n2 → (F2 i).t.size ≤ 1099511627776) (h3 : Hd w p3 n3 F3) (b3 : n3 ≤ 1048576) (s3 : ∀ i, i < n3 → (F3 i).t.size ≤ 1099511627776) (ht : TabAt w) (hU : Utf w) (hgs : 2 < w.heap.size) (htn : TensAt w) (hg : 3 < w.heap.size) :
    Calls Tryz.prog 3 #[.slice p1 n1 cap1, .slice p2 n2 cap2, .slice p3 n3 cap3, .int .i64 v] w fun e w' => e = .returned (.bool true) ∧ Below w.heap.size w w' := by
  by_cases h : Scr F1 n1 v ∧ Scr F2 n2 v ∧ Scr F3 n3 v ∧ n1 = n2 ∧ n2 = n3
  · obtain ⟨⟨V, H, rfl, q2, q3, q4, q5, q6, q7⟩, ⟨V', H', e1, e2, _, _, _, _, e7⟩, ⟨V'', H'', f1, f2, _, _, _, _, f7⟩, rfl, rfl⟩ := h
    obtain rfl : V = V' := by omega
    obtain rfl : V = V'' := by omega
    obtain rfl : H = H' := Nat.eq_of_mul_eq_mul_right (by omega) (q2.symm.trans e2)
    obtain rfl : H = H'' := Nat.eq_of_mul_eq_mul_right (by omega) (q2.symm.trans f2)
    have hn0 : ¬ n1 = 0 := by have : 1 ≤ H * V := Nat.mul_pos (by omega) (by omega); omega
    obtain ⟨g1, o1, rfl, c1⟩ := h1.resolve_left hn0
    obtain ⟨g2, o2, rfl, c2⟩ := h2.resolve_left hn0
    obtain ⟨g3, o3, rfl, c3⟩ := h3.resolve_left hn0
    exact down_ok F1 F2 F3 V H n1 g1 o1 g2 o2 g3 o3 cap1 cap2 cap3 w c1 c2 c3 ht hU hgs htn hg ⟨q3, q4⟩ ⟨q5, q6⟩ q2 q7 e7 f7
  · exact down_no F1 p1 n1 cap1 F2 p2 n2 cap2 F3 p3 n3 cap3 v w h1 b1 s1 h2 b2 s2 h3 b3 s3 h

end Go.Proofs.YtkdajaphbmclkaaGreatDoor
