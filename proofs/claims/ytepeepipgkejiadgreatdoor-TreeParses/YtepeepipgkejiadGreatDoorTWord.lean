/-
  The reference's reader: got and must where a fault stands already; wrong; word.
-/
import Derived.Test.YtepeepipgkejiadGreatDoorTBase
namespace Go.Proofs.YtepeepipgkejiadGreatDoor
open Go.RowKit
set_option linter.unusedVariables false

set_option maxRecDepth 100000 in
set_option maxHeartbeats 2000000 in
theorem got_bad (rb : Nat) (s : ByteArray) (i : Nat) (lv : Value) (bad er at_ dep : Int) (c : Nat) (w : World) (h : RS w rb s i lv bad er at_ dep) (hs : s.size ≤ 1099511627776) (hi : i ≤ s.size) (hb : 0 ≤ bad) :
    Calls Tryz.prog 75 #[.pointer (some ⟨rb, 0, none⟩), .int .u8 (c : Int)] w fun e w' => e = .returned (.bool false) ∧ RS w' rb s (sk s i) lv bad er at_ dep ∧ w.grownBy w' (some rb) := by
  have CS : Hid (Calls Tryz.prog 20 #[.pointer (some ⟨rb, 0, none⟩)] w fun e w' => e = .returned (.tuple #[]) ∧ RS w' rb s (sk s i) lv bad er at_ dep ∧ w.grownBy w' (some rb)) := skip_any rb s i lv bad er at_ dep w h hs hi
  clear h
  go_enter Tryz.func75, Tryz.ntmps75
  go_wp2_with fail
  refine CS.out.mono ?_
  rintro e w1 ⟨rfl, h1, g1⟩
  have HR : Hid (RS w1 rb s (sk s i) lv bad er at_ dep) := h1
  have HG : Hid (w.grownBy w1 (some rb)) := g1
  have c3 := h1.c3
  have hb' : ¬ bad < 0 := by omega
  have eb : decide (bad < 0) = false := decide_eq_false hb'
  clear h1 g1 CS
  go_wp2_with fail
  go_quiet (fail)
  go_wp2
  go_ret
  exact ⟨rfl, HR.out.drewN _, gr_trans HG.out (gr_drewN _ _ _)⟩

/-- The fault behind must. -/
def mustB (s : ByteArray) (i c : Nat) (bad : Int) : Int := if isAt s i c then bad else (sk s i : Int)

set_option maxRecDepth 100000 in
set_option maxHeartbeats 2000000 in
theorem must_any (rb : Nat) (s : ByteArray) (i : Nat) (lv : Value) (bad er at_ dep : Int) (c : Nat) (w : World) (h : RS w rb s i lv bad er at_ dep) (hs : s.size ≤ 1099511627776) (hi : i ≤ s.size) (hc : c < 256) (hb : bad < 0) :
    Calls Tryz.prog 38 #[.pointer (some ⟨rb, 0, none⟩), .int .u8 (c : Int)] w fun e w' => e = .returned (.tuple #[]) ∧ RS w' rb s (gotI s i c) lv (mustB s i c bad) er at_ dep ∧ w.grownBy w' (some rb) := by
  have CG : Hid (Calls Tryz.prog 75 #[.pointer (some ⟨rb, 0, none⟩), .int .u8 (c : Int)] w fun e w' => e = .returned (.bool (isAt s i c)) ∧ RS w' rb s (gotI s i c) lv bad er at_ dep ∧ w.grownBy w' (some rb)) := got_any rb s i lv bad er at_ dep c w h hs hi hc hb
  obtain ⟨ia, hia⟩ : ∃ x, isAt s i c = x := ⟨_, rfl⟩
  obtain ⟨gi, hgi⟩ : ∃ x, gotI s i c = x := ⟨_, rfl⟩
  have HM : Hid (mustB s i c bad = if ia then bad else (sk s i : Int)) := by show _ = _; unfold mustB; rw [hia]
  have HGI : Hid (ia = false → gi = sk s i) := by
    intro e
    rw [← hgi]; unfold gotI
    rw [← hia] at e
    unfold isAt at e
    rw [if_neg (by simpa using e)]
  rw [hia, hgi] at CG
  rw [hgi]
  clear h hia hgi
  go_enter Tryz.func38, Tryz.ntmps38
  go_wp2_with fail
  refine CG.out.mono ?_
  rintro e w1 ⟨rfl, h1, g1⟩
  have HG : Hid (w.grownBy w1 (some rb)) := g1
  have c1 := h1.c1
  have HR : Hid (RS w1 rb s gi lv bad er at_ dep) := h1
  have CF : Hid (Calls Tryz.prog 21 #[.pointer (some ⟨rb, 0, none⟩), .int .i64 (gi : Int)] w1 fun e w' => e = .returned (.tuple #[]) ∧ RS w' rb s gi lv (badI bad gi) er at_ dep ∧ w1.grownBy w' (some rb)) := fail_any rb s gi lv bad er at_ dep gi w1 h1
  clear h1 g1 CG
  cases ia with
  | true =>
    have HE : Hid (RS w1 rb s gi lv (mustB s i c bad) er at_ dep) := by rw [HM.out]; exact HR.out
    clear CF HR
    go_wp2
    go_end0
    exact ⟨rfl, HE.out, HG.out⟩
  | false =>
    have HE : Hid (badI bad (gi : Int) = mustB s i c bad) := by
      show _ = _
      rw [HM.out, HGI.out rfl]; unfold badI; rw [if_pos hb]; rfl
    clear HR
    go_wp2_with fail
    refine CF.out.mono ?_
    rintro e w2 ⟨rfl, h2, g2⟩
    have H2 : Hid (RS w2 rb s gi lv (mustB s i c bad) er at_ dep) := by rw [← HE.out]; exact h2
    have HG2 : Hid (w.grownBy w2 (some rb)) := gr_trans HG.out g2
    clear h2 g2
    go_wp2
    go_end0
    exact ⟨rfl, H2.out, HG2.out⟩

set_option maxRecDepth 100000 in
set_option maxHeartbeats 2000000 in
theorem must_bad (rb : Nat) (s : ByteArray) (i : Nat) (lv : Value) (bad er at_ dep : Int) (c : Nat) (w : World) (h : RS w rb s i lv bad er at_ dep) (hs : s.size ≤ 1099511627776) (hi : i ≤ s.size) (hb : 0 ≤ bad) :
    Calls Tryz.prog 38 #[.pointer (some ⟨rb, 0, none⟩), .int .u8 (c : Int)] w fun e w' => e = .returned (.tuple #[]) ∧ RS w' rb s (sk s i) lv bad er at_ dep ∧ w.grownBy w' (some rb) := by
  have CG : Hid (Calls Tryz.prog 75 #[.pointer (some ⟨rb, 0, none⟩), .int .u8 (c : Int)] w fun e w' => e = .returned (.bool false) ∧ RS w' rb s (sk s i) lv bad er at_ dep ∧ w.grownBy w' (some rb)) := got_bad rb s i lv bad er at_ dep c w h hs hi hb
  obtain ⟨gi, hgi⟩ : ∃ x, sk s i = x := ⟨_, rfl⟩
  rw [hgi] at CG ⊢
  clear h hgi
  go_enter Tryz.func38, Tryz.ntmps38
  go_wp2_with fail
  refine CG.out.mono ?_
  rintro e w1 ⟨rfl, h1, g1⟩
  have HG : Hid (w.grownBy w1 (some rb)) := g1
  have c1 := h1.c1
  have CF : Hid (Calls Tryz.prog 21 #[.pointer (some ⟨rb, 0, none⟩), .int .i64 (gi : Int)] w1 fun e w' => e = .returned (.tuple #[]) ∧ RS w' rb s gi lv (badI bad gi) er at_ dep ∧ w1.grownBy w' (some rb)) := fail_any rb s gi lv bad er at_ dep gi w1 h1
  have HE : Hid (badI bad (gi : Int) = bad) := by show _ = _; unfold badI; rw [if_neg (by omega)]
  clear h1 g1 CG
  go_wp2_with fail
  refine CF.out.mono ?_
  rintro e w2 ⟨rfl, h2, g2⟩
  have H2 : Hid (RS w2 rb s gi lv bad er at_ dep) := by have := h2; rw [HE.out] at this; exact this
  have HG2 : Hid (w.grownBy w2 (some rb)) := gr_trans HG.out g2
  clear h2 g2
  go_wp2
  go_end0
  exact ⟨rfl, H2.out, HG2.out⟩

/-- The first other fault: the first place counts. -/
def wrE (er at_ e a : Int) : Int := if at_ < 0 ∨ a < at_ then e else er
def wrA (at_ a : Int) : Int := if at_ < 0 ∨ a < at_ then a else at_

set_option maxRecDepth 100000 in
set_option maxHeartbeats 2000000 in
theorem wrong_any (rb : Nat) (s : ByteArray) (i : Nat) (lv : Value) (bad er at_ dep : Int) (e a : Int) (w : World) (h : RS w rb s i lv bad er at_ dep) :
    Calls Tryz.prog 35 #[.pointer (some ⟨rb, 0, none⟩), .int .i64 e, .int .i64 a] w fun r w' => r = .returned (.tuple #[]) ∧ RS w' rb s i lv bad (wrE er at_ e a) (wrA at_ a) dep ∧ w.grownBy w' (some rb) := by
  have c5 := h.c5
  have c4 := h.c4
  have f4 := h.fz 4
  have f5 := h.fz 5
  have HR : Hid (RS w rb s i lv bad er at_ dep) := h
  clear h
  by_cases hc : at_ < 0 ∨ a < at_
  · have HN : Hid (RS ((w.setCell ⟨rb, 4, none⟩ (.int .i64 e)).setCell ⟨rb, 5, none⟩ (.int .i64 a)) rb s i lv bad (wrE er at_ e a) (wrA at_ a) dep) := by unfold wrE wrA; rw [if_pos hc, if_pos hc]; exact HR.out.setErr e a
    have HG : Hid (w.grownBy ((w.setCell ⟨rb, 4, none⟩ (.int .i64 e)).setCell ⟨rb, 5, none⟩ (.int .i64 a)) (some rb)) := gr_trans (gr_set _ _ _ _) (gr_set _ _ _ _)
    by_cases h1 : at_ < 0
    · clear hc
      go_enter Tryz.func35, Tryz.ntmps35
      go_wp2
      go_end0
      exact ⟨rfl, HN.out, HG.out⟩
    · have h2 : a < at_ := by omega
      clear hc
      go_enter Tryz.func35, Tryz.ntmps35
      go_wp2
      go_end0
      exact ⟨rfl, HN.out, HG.out⟩
  · have HN : Hid (RS w rb s i lv bad (wrE er at_ e a) (wrA at_ a) dep) := by unfold wrE wrA; rw [if_neg hc, if_neg hc]; exact HR.out
    have h1 : ¬ at_ < 0 := by omega
    have h2 : ¬ a < at_ := by omega
    clear hc
    go_enter Tryz.func35, Tryz.ntmps35
    go_wp2
    go_end0
    exact ⟨rfl, HN.out, gr_refl _ _⟩

end Go.Proofs.YtepeepipgkejiadGreatDoor
