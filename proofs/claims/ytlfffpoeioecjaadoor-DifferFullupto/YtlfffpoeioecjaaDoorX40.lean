/-
  differ.Update.
-/
import Derived.Test.YtlfffpoeioecjaaDoorX39
import Derived.Test.YtlfffpoeioecjaaDoorX38
import Derived.Test.YtlfffpoeioecjaaDoorX28
import Derived.Test.YtlfffpoeioecjaaDoorX17
import Derived.Test.YtlfffpoeioecjaaDoorX32
namespace Go.Proofs.YtlfffpoeioecjaaDoor
open Go.RowKit Go.Sort
set_option linter.unusedVariables false

theorem PenTo.low {w w1 w2 : World} {B b : Nat} {W a f g d : Int} {l : List UInt8} (h : PenTo w w1 B b W a f g d l) (hb : Below w1.heap.size w1 w2) (hB : B ≤ w1.heap.size) : PenTo w w2 B b W a f g d l := by
  obtain ⟨p', v', h1, h2, h3⟩ := h
  exact ⟨p', v', h1.up hb, h2.trans (hb.mono hB), h3.trans (below_others hb _ _)⟩
def bl0 : Ce := ⟨⟨#[32]⟩, 0, 0, 0, 0⟩
def pn0 : Pe0 := ⟨-1, 0, 0, 0⟩
/-- The first case: one size. -/
def One (old : Nat → Ce) (nO : Nat) (x : Int) (n : Nat) (v : Int) : Prop := x = v ∧ nO = n ∧ Scr old nO x
/-- The bytes of an update. -/
structure UpB (old : Nat → Ce) (nO : Nat) (x : Int) (new : Nat → Ce) (n V : Nat) (l : List UInt8) : Prop where
  one : One old nO x n (V : Int) → l = allB nms V n old new pn0
  all : ¬ One old nO x n (V : Int) → l = [27, 91, 50, 74] ++ allB nms V n (fun _ => bl0) new pn0

set_option maxHeartbeats 4000000 in
set_option maxRecDepth 100000 in
theorem dUpdate_bad (old new : Nat → Ce) (nO n : Nat) (x v : Int) (pO pN : Option Addr) (capO capN : Nat) (w : World) (hb : n ≤ 1048576) (hc1 : n ≤ capN) (hc2 : capN ≤ 9223372036854775807) (hN : n = 0 ∨ ∃ g, pN = some ⟨g, 0, none⟩ ∧ CB w g 0 n new) (ht : TabAt w) (hs : ∀ i, i < n → (new i).t.size ≤ 1099511627776) (hno : ¬ Scr new n v) :
    Calls Tryd.prog 12 #[.slice pO nO capO, .int .i64 x, .slice pN n capN, .int .i64 v] w fun e w' => e = .returned (.tuple #[.string ⟨#[]⟩, .int .i64 6]) ∧ Hid (Below w.heap.size w w') := by
  have DS : Hid (Calls Tryd.prog 25 #[.slice pN n capN, .int .i64 v] w fun r w' => r = .returned (.bool false) ∧ Hid (Below w.heap.size w w')) :=
    (dSound_any new v pN n capN hb hc1 hc2 w (hN.imp id fun ⟨g, a, c⟩ => ⟨g, a, c.cl⟩) ht hs).mono fun r w' h => by
      obtain ⟨bb, h1, h2, h3⟩ := h
      cases bb with
      | true => exact absurd (h2.1 rfl) hno
      | false => exact ⟨h1, h3⟩
  clear hN ht hs hno
  go_enter Tryd.func12, Tryd.ntmps12
  go_wp2_with fail
  refine DS.out.mono ?_
  rintro e w1 ⟨rfl, HB⟩
  go_wp2
  go_ret2
  exact ⟨rfl, HB.out⟩

set_option maxHeartbeats 8000000 in
set_option maxRecDepth 100000 in
theorem dUpdate_ok (old new : Nat → Ce) (nO V H n : Nat) (x : Int) (pO : Option Addr) (gN capO capN : Nat) (w : World) (hbO : nO ≤ 1048576) (hO1 : nO ≤ capO) (hO2 : capO ≤ 9223372036854775807) (hc1 : n ≤ capN) (hc2 : capN ≤ 9223372036854775807) (hO : nO = 0 ∨ ∃ g, pO = some ⟨g, 0, none⟩ ∧ CB w g 0 nO old) (hN : CB w gN 0 n new) (ht : TabAt w) (hg : 3 < w.heap.size) (htn : TensAt w) (hsO : ∀ i, i < nO → (old i).t.size ≤ 1099511627776) (hV : 1 ≤ V ∧ V ≤ 400) (hH : 1 ≤ H ∧ H ≤ 400) (hn : n = H * V) (hr : Rws new V H) :
    Calls Tryd.prog 12 #[.slice pO nO capO, .int .i64 x, .slice (some ⟨gN, 0, none⟩) n capN, .int .i64 (V : Int)] w fun e w' => ∃ l, e = .returned (.tuple #[.string ⟨l.toArray⟩, .int .i64 0]) ∧ Hid (UpB old nO x new n V l) ∧ Hid (Below w.heap.size w w') := by
  have hn160 : 1 ≤ n ∧ n ≤ 160000 := by
    rw [hn]
    exact ⟨Nat.mul_pos (by omega) (by omega), Nat.le_trans (Nat.mul_le_mul hH.2 hV.2) (by decide)⟩
  have hscr : Scr new n (V : Int) := ⟨V, H, rfl, hn, hV.1, hV.2, hH.1, hH.2, hr⟩
  have hsN : ∀ i, i < n → (new i).t.size ≤ 1099511627776 := fun i hi => Nat.le_trans (hr.size (by omega)) (by decide)
  have HN : Hid (CB w gN 0 n new) := hN
  have HO : Hid (nO = 0 ∨ ∃ g, pO = some ⟨g, 0, none⟩ ∧ CB w g 0 nO old) := hO
  have HTB : Hid (TabAt w) := ht
  have HTN : Hid (TensAt w) := htn
  have HSO : Hid (∀ i, i < nO → (old i).t.size ≤ 1099511627776) := hsO
  have HHV : Hid (1 ≤ V ∧ V ≤ 400) := hV
  have HHH : Hid (1 ≤ H ∧ H ≤ 400) := hH
  have HNN : Hid (n = H * V) := hn
  have HRW : Hid (Rws new V H) := hr
  have DS : Hid (Calls Tryd.prog 25 #[.slice (some ⟨gN, 0, none⟩) n capN, .int .i64 (V : Int)] w fun r w' => r = .returned (.bool true) ∧ Hid (Below w.heap.size w w')) :=
    (dSound_any new (V : Int) (some ⟨gN, 0, none⟩) n capN (by omega) hc1 hc2 w (.inr ⟨gN, rfl, hN.cl⟩) ht hsN).mono fun r w' h => by
      obtain ⟨bb, h1, h2, h3⟩ := h
      cases bb with
      | false => exact absurd (h2.2 hscr) (by decide)
      | true => exact ⟨h1, h3⟩
  clear hN hO ht htn hsO hV hH hn hr hscr hsN
  go_enter Tryd.func12, Tryd.ntmps12
  go_wp2_with fail
  refine DS.out.mono ?_
  rintro e w1 ⟨rfl, HB1⟩
  go_upto_region 4 with fail
  obtain ⟨W2, hW2⟩ : ∃ z, w1.alloc (.cells #[.pointer none, .slice none 0 0, .int .i64 (V : Int), .int .i64 (-1), .int .i64 0, .int .i64 0, .int .i64 0] 80) = z := ⟨_, rfl⟩
  obtain ⟨b, hbb⟩ : ∃ z, w1.heap.size = z := ⟨_, rfl⟩
  have G2 : Hid (Gr w1 W2) := by rw [← hW2]; exact (Gr.refl w1).alloc _
  have hb1 : w.heap.size ≤ b := by rw [← hbb]; exact HB1.out.size
  have HB2 : Hid (Below w.heap.size w W2) := HB1.out.trans (G2.out.below.mono HB1.out.size)
  have HP2 : Hid (PenB W2 w.heap.size b (.pointer none) (.slice none 0 0) (V : Int) (-1) 0 0 0 []) := by
    refine ⟨hb1, .inl rfl, ?_, ⟨rfl, .inl ⟨rfl, rfl⟩⟩, ?_⟩
    · rw [← hW2, ← hbb]; exact new_block w1 _
    · exact fun e => nomatch e
  rw [hW2, hbb]
  have hltN : gN < w.heap.size := HN.out.cl.lt
  clear hW2 hbb DS
  go_cut [33] from 18 to 32 (fun s wx => ∃ bb : Bool, s = .bool bb ∧ Hid (bb = true ↔ ¬ One old nO x n (V : Int)) ∧ Hid (Below W2.heap.size W2 wx))
  case first =>
    by_cases hx : x = (V : Int)
    · have hxb : (x != (V : Int)) = false := by simpa using hx
      by_cases hl : nO = n
      · have hlb : ((nO : Int) != (n : Int)) = false := by simp [hl]
        have DS2 : Hid (Calls Tryd.prog 25 #[.slice pO nO capO, .int .i64 x] W2 fun r w' => ∃ bb : Bool, r = .returned (.bool bb) ∧ Hid (bb = true ↔ One old nO x n (V : Int)) ∧ Hid (Below W2.heap.size W2 w')) :=
          (dSound_any old x pO nO capO hbO hO1 hO2 W2 (HO.out.imp id fun ⟨g, a, c⟩ => ⟨g, a, (c.low HB2.out).cl⟩) (HTB.out.below HB2.out) HSO.out).mono fun r w' h => by
            obtain ⟨bb, h1, h2, h3⟩ := h
            exact ⟨bb, h1, ⟨fun e => ⟨hx, hl, h2.1 e⟩, fun e => h2.2 e.2.2⟩, h3⟩
        clear hx hl
        go_wp2_with fail
        refine DS2.out.mono ?_
        rintro e w3 ⟨bb, rfl, HI, HB3⟩
        have HI2 : Hid ((!bb) = true ↔ ¬ One old nO x n (V : Int)) := by
          have := HI.out
          cases bb with
          | true => exact ⟨fun q => (nomatch q), fun q => absurd (this.1 rfl) q⟩
          | false => exact ⟨fun _ q => (nomatch this.2 q), fun _ => rfl⟩
        go_wp2
        go_meet
        exact ⟨_, rfl, HI2.out, HB3.out⟩
      · have hlb : ((nO : Int) != (n : Int)) = true := by simpa using fun e => hl (Int.ofNat.inj e)
        have HNO : Hid (¬ One old nO x n (V : Int)) := fun q => hl q.2.1
        clear hx hl
        go_wp2
        go_meet
        exact ⟨true, rfl, ⟨fun _ => HNO.out, fun _ => rfl⟩, Below.refl _ _⟩
    · have hxb : (x != (V : Int)) = true := by simpa using hx
      have HNO : Hid (¬ One old nO x n (V : Int)) := fun q => hx q.1
      clear hx
      go_wp2
      go_meet
      exact ⟨true, rfl, ⟨fun _ => HNO.out, fun _ => rfl⟩, Below.refl _ _⟩
  case rest =>
    obtain ⟨bb, rfl, HI, HBC⟩ := hcut
    have HB3 : Hid (Below w.heap.size w wc) := HB2.out.trans (HBC.out.mono HB2.out.size)
    have HP3 : Hid (PenB wc w.heap.size b (.pointer none) (.slice none 0 0) (V : Int) (-1) 0 0 0 []) := HP2.out.up HBC.out
    have hsz3 : w.heap.size ≤ wc.heap.size := HB3.out.size
    cases bb with
    | false =>
      have HON : Hid (One old nO x n (V : Int)) := Classical.not_not.1 fun q => nomatch HI.out.2 q
      obtain ⟨hx, hl, hso⟩ := HON.out
      subst hl
      obtain ⟨gO, rfl, hCO⟩ : ∃ g, pO = some ⟨g, 0, none⟩ ∧ CB w g 0 nO old := by
        rcases HO.out with h | h
        · omega
        · exact h
      have hltO : gO < w.heap.size := hCO.cl.lt
      have UP : Hid (Calls Tryd.prog 28 #[.pointer (some ⟨b, 0, none⟩), .slice (some ⟨gO, 0, none⟩) nO capO, .slice (some ⟨gN, 0, none⟩) nO capN] wc fun e w' => e = .returned (.tuple #[]) ∧ Hid (∃ a, PenTo wc w' w.heap.size b (V : Int) a 0 0 0 (allB nms V nO old new pn0))) :=
        penUpd_any w.heap.size b _ _ V H nO [] gO 0 capO gN 0 capN old new wc HP3.out (by decide) hsz3 HHV.out HHH.out HNN.out HRW.out (hCO.low HB3.out) (HN.out.low HB3.out) (by omega) (by omega) (HTN.out.below HB3.out hg) hg
      clear hx hso hCO
      go_wp2_with fail
      refine UP.out.mono ?_
      rintro e4 w4 ⟨rfl, HU⟩
      have ST : Hid (Calls Tryd.prog 29 #[.pointer (some ⟨b, 0, none⟩)] w4 fun e w' => e = .returned (.string ⟨(allB nms V nO old new pn0).toArray⟩) ∧ Hid (Below w.heap.size w w')) := by
        obtain ⟨a, p1, v1, k1, k2, k3⟩ := HU.out
        exact (penStr_any w.heap.size b p1 v1 (V : Int) a 0 0 0 _ w4 k1 (Nat.le_trans hsz3 k2.size)).mono fun e w' q => ⟨q.1, (HB3.out.trans k2).trans q.2.out.1⟩
      clear UP
      go_wp2_with fail
      refine ST.out.mono ?_
      rintro e5 w5 ⟨rfl, H5⟩
      go_wp2
      go_ret2
      exact ⟨_, rfl, ⟨fun _ => rfl, fun q => absurd HON.out q⟩, H5.out⟩
    | true =>
      have HON : Hid (¬ One old nO x n (V : Int)) := HI.out.1 rfl
      have PW : Hid (Calls Tryd.prog 26 #[.pointer (some ⟨b, 0, none⟩), .string ⟨#[27, 91, 50, 74]⟩] wc fun e w2 => e = .returned (.tuple #[.int .i64 4, .nilIface]) ∧ Hid (PenTo wc w2 w.heap.size b (V : Int) (-1) 0 0 0 [27, 91, 50, 74])) :=
        (penWrite_any w.heap.size b _ _ (V : Int) (-1) 0 0 0 [] ⟨#[27, 91, 50, 74]⟩ wc HP3.out (by decide) hsz3).mono fun e w2 ⟨he, h1⟩ => ⟨he, _, h1⟩
      go_wp2_with fail
      refine PW.out.mono ?_
      rintro e4 w4 ⟨rfl, H4⟩
      have hsz4 : w.heap.size ≤ w4.heap.size := H4.out.size hsz3
      clear PW
      go_wp2_with fail
      obtain ⟨W5, hW5⟩ : ∃ z, w4.alloc (.cells #[.string ⟨#[32]⟩, .int .i64 0, .int .i64 0, .int .i64 0, .int .i64 0] 34) = z := ⟨_, rfl⟩
      obtain ⟨S5, hS5⟩ : ∃ z, w4.heap.size = z := ⟨_, rfl⟩
      have G5 : Hid (Gr w4 W5) := by rw [← hW5]; exact (Gr.refl w4).alloc _
      have R5b : R5 34 W5 S5 bl0 := by rw [← hW5, ← hS5]; exact R5.new w4 bl0 _
      have RP : Hid (Calls Tryd.prog 27 #[.slice (some ⟨S5, 0, none⟩) 1 1, .int .i64 (n : Int)] W5 fun r w' => r = .returned (.slice (some ⟨W5.heap.size, 0, none⟩) n n) ∧ Hid (CB w' W5.heap.size 0 n (fun _ => bl0)) ∧ Hid (Below w4.heap.size w4 w')) := by
        refine (repeat_any W5 bl0 S5 n hn160 R5b.lt fun k u hu => ?_).mono fun r w' ⟨h1, ⟨L, h2, h3⟩, h4⟩ => ⟨h1, ⟨⟨_, _, h2⟩, (Array.getElem?_eq_some_iff.1 h2).1, fun i hi k u hu => ?_⟩, G5.out.below.trans (h4.mono G5.out.size)⟩
        · rw [Lib.cell_of_heap R5b, ← hu]
          match k with
          | 0 => rfl
          | 1 => rfl
          | 2 => rfl
          | 3 => rfl
          | 4 => rfl
          | _ + 5 => rfl
        · rw [Lib.cell_of_heap h2, Nat.zero_add, List.getElem?_toArray]
          exact h3.2 i k u hi hu
      have hg5 : w4.heap.size ≤ W5.heap.size := G5.out.size
      rw [hW5, hS5]
      clear hW5 hS5 R5b
      refine RP.out.mono ?_
      rintro e6 w6 ⟨rfl, HCB, HB6⟩
      have H6 : Hid (PenTo wc w6 w.heap.size b (V : Int) (-1) 0 0 0 [27, 91, 50, 74]) := H4.out.low HB6.out hsz4
      have HB7 : Hid (Below w.heap.size w w6) := by
        obtain ⟨p1, v1, k1, k2, k3⟩ := H6.out
        exact HB3.out.trans k2
      have hsz6 : w.heap.size ≤ w6.heap.size := HB7.out.size
      have hblt : b < W5.heap.size := by
        obtain ⟨p1, v1, k1, k2, k3⟩ := H4.out
        have := k1.lt
        omega
      obtain ⟨g6, hg6⟩ : ∃ z, W5.heap.size = z := ⟨_, rfl⟩
      rw [hg6] at HCB hblt ⊢
      have UP : Hid (Calls Tryd.prog 28 #[.pointer (some ⟨b, 0, none⟩), .slice (some ⟨g6, 0, none⟩) n n, .slice (some ⟨gN, 0, none⟩) n capN] w6 fun e w' => e = .returned (.tuple #[]) ∧ Hid (∃ a, PenTo w6 w' w.heap.size b (V : Int) a 0 0 0 ([27, 91, 50, 74] ++ allB nms V n (fun _ => bl0) new pn0))) := by
        obtain ⟨p1, v1, k1, k2, k3⟩ := H6.out
        exact penUpd_any w.heap.size b p1 v1 V H n [27, 91, 50, 74] g6 0 n gN 0 capN (fun _ => bl0) new w6 k1 (by decide) hsz6 HHV.out HHH.out HNN.out HRW.out HCB.out (HN.out.low HB7.out) (by omega) (by omega) (HTN.out.below HB7.out hg) hg
      clear RP hg6
      go_wp2_with fail
      refine UP.out.mono ?_
      rintro e8 w8 ⟨rfl, HU⟩
      have ST : Hid (Calls Tryd.prog 29 #[.pointer (some ⟨b, 0, none⟩)] w8 fun e w' => e = .returned (.string ⟨([27, 91, 50, 74] ++ allB nms V n (fun _ => bl0) new pn0).toArray⟩) ∧ Hid (Below w.heap.size w w')) := by
        obtain ⟨a, p1, v1, k1, k2, k3⟩ := HU.out
        exact (penStr_any w.heap.size b p1 v1 (V : Int) a 0 0 0 _ w8 k1 (Nat.le_trans hsz6 k2.size)).mono fun e w' q => ⟨q.1, (HB7.out.trans k2).trans q.2.out.1⟩
      clear UP
      obtain ⟨LL, hLL⟩ : ∃ z, [27, 91, 50, 74] ++ allB nms V n (fun _ => bl0) new pn0 = z := ⟨_, rfl⟩
      have HLL : Hid ([27, 91, 50, 74] ++ allB nms V n (fun _ => bl0) new pn0 = LL) := hLL
      rw [hLL] at ST
      clear hLL
      go_wp2_with fail
      refine ST.out.mono ?_
      rintro e9 w9 ⟨rfl, H9⟩
      go_wp2
      go_ret2
      exact ⟨_, rfl, ⟨fun q => absurd q HON.out, fun _ => HLL.out.symm⟩, H9.out⟩

end Go.Proofs.YtlfffpoeioecjaaDoor

namespace Go.Proofs.YtlfffpoeioecjaaDoor
set_option linter.unusedVariables false

theorem run_ok : ∀ (l : List UInt8) (p : Tm × St), Ti p.1 → Si p.2 → 1 ≤ p.1.W → 1 ≤ p.1.H → Ti (runT p l).1 ∧ Si (runT p l).2 ∧ (runT p l).1.W = p.1.W ∧ (runT p l).1.H = p.1.H
  | [], p, h1, h2, _, _ => ⟨h1, h2, rfl, rfl⟩
  | b :: l, p, h1, h2, h3, h4 => by
    have hw := wh_step p.1 b p.2
    have e1 : (stepT p.1 b p.2).1.W = p.1.W := congrArg Prod.fst hw
    have e2 : (stepT p.1 b p.2).1.H = p.1.H := congrArg Prod.snd hw
    have k := step_ok h1 h2 h3 h4 b
    have r := run_ok l (stepT p.1 b p.2) k.1 k.2 (by rw [e1]; exact h3) (by rw [e2]; exact h4)
    exact ⟨r.1, r.2.1, r.2.2.1.trans e1, r.2.2.2.trans e2⟩
/-- The end: it shows new, plain. -/
structure Ended (p : Tm × St) (W H : Nat) (new : Nat → Ce) : Prop where
  out : p.2 = .out
  eW : p.1.W = W
  eH : p.1.H = H
  sh : Shows p.1.c W H new
  f : p.1.r.f = 0
  g : p.1.r.g = 0
  b : p.1.r.b = 0
section
variable {W H : Nat} {old new : Nat → Ce} {t : Tm}
theorem pen_at (hf : t.r.f = 0) (hg : t.r.g = 0) (hb : t.r.b = 0) : PenAt W t pn0 := ⟨hf, hg, hb, ⟨by decide, by decide, by decide⟩, fun j hj => by have : (-1 : Int) = j := hj; omega⟩
theorem ended_one (hW : 1 ≤ W ∧ W ≤ 400) (hH : 1 ≤ H ∧ H ≤ 400) (ho : Rws old W H) (hn : Rws new W H) (h1 : t.W = W) (h2 : t.H = H) (hs : Shows t.c W H old) (hf : t.r.f = 0) (hg : t.r.g = 0) (hb : t.r.b = 0) : Ended (runT (t, .out) (allB nms W (H * W) old new pn0)) W H new := by
  obtain ⟨t', e, a1, a2, a3, a4, a5, a6⟩ := all_run turns_nms hW hH ho hn h1 h2 (pen_at hf hg hb) hs
  rw [e]
  exact ⟨rfl, a1, a2, a3, a4, a5, a6⟩
theorem blank_txt : Txt bl0 1 := by unfold Txt bl0; decide
theorem blank_rws : Rws (fun _ => bl0) W H := fun y hy i h1 h2 => ⟨⟨by decide, by decide, by decide⟩, .inl rfl, fun q => (by cases q), fun q => (by cases q), fun _ => blank_txt⟩
/-- Made plain. -/
theorem run_plain (s : Tm) (st : St) (h : Si st) : ∃ t, runT (s, st) [109, 27, 91, 109] = (t, .out) ∧ t.W = s.W ∧ t.H = s.H ∧ t.r.f = 0 ∧ t.r.g = 0 ∧ t.r.b = 0 := by
  have e0 : stepT s 109 st = ((stepT s 109 st).1, .out) := Prod.ext rfl (step_m s st h)
  obtain ⟨s1, h1⟩ : ∃ z, (stepT s 109 st).1 = z := ⟨_, rfl⟩
  have hw : wh s1 = wh s := by rw [← h1]; exact wh_step s 109 st
  rw [h1] at e0
  have hsW : s1.W = s.W := congrArg Prod.fst hw
  have hsH : s1.H = s.H := congrArg Prod.snd hw
  have e1 : runT (s, st) [109, 27, 91, 109] = runT (stepT s 109 st) [27, 91, 109] := rfl
  rw [e1, e0]
  have e : runT (s1, .out) [27, 91, 109] = (⟨s1.W, s1.H, s1.c, ⟨s1.r.x, s1.r.y, 0, 0, 0, 0, 0, ⟨#[]⟩, 0, 0⟩⟩, .out) := rfl
  exact ⟨_, e, hsW, hsH, rfl, rfl, rfl⟩
theorem run_erase (hW : 1 ≤ t.W ∧ t.W ≤ 400) (hH : 1 ≤ t.H ∧ t.H ≤ 400) (hf : t.r.f = 0) (hg : t.r.g = 0) (hb : t.r.b = 0) : ∃ t', runT (t, .out) [27, 91, 50, 74] = (t', .out) ∧ t'.W = t.W ∧ t'.H = t.H ∧ Shows t'.c t.W t.H (fun _ => bl0) ∧ t'.r.f = 0 ∧ t'.r.g = 0 ∧ t'.r.b = 0 := by
  have e : runT (t, .out) [27, 91, 50, 74] = ({ t with c := filC t.W t.H t.c 0 0 t.W t.H 0 0 0 0 0 t.W t.H, r := clr t.r }, .out) := rfl
  exact ⟨_, e, rfl, rfl, fun y x hy hx => fil_whole hW hH t.c hy hx, hf, hg, hb⟩
theorem ended_all (hW : 1 ≤ W ∧ W ≤ 400) (hH : 1 ≤ H ∧ H ≤ 400) (hn : Rws new W H) (h1 : t.W = W) (h2 : t.H = H) (hf : t.r.f = 0) (hg : t.r.g = 0) (hb : t.r.b = 0) : Ended (runT (t, .out) ([27, 91, 50, 74] ++ allB nms W (H * W) (fun _ => bl0) new pn0)) W H new := by
  obtain ⟨t', e, a1, a2, a3, a4, a5, a6⟩ := run_erase (t := t) (by rw [h1]; exact hW) (by rw [h2]; exact hH) hf hg hb
  rw [h1, h2] at a3
  rw [runT_cat, e]
  exact ended_one hW hH blank_rws hn (a1.trans h1) (a2.trans h2) a3 a4 a5 a6
end

end Go.Proofs.YtlfffpoeioecjaaDoor
