/-
  columnsOf, isSide, isShown.
-/
import Derived.Test.YtkdajaphbmclkaaGreatDoorDMath
import Derived.Test.YtkdajaphbmclkaaGreatDoorGClus
import Derived.Test.YtkdajaphbmclkaaGreatDoorX03
import Derived.Test.YtkdajaphbmclkaaGreatDoorX04
import Derived.Test.YtkdajaphbmclkaaGreatDoorX05
import Derived.Test.YtkdajaphbmclkaaGreatDoorGWidth
import Derived.Test.YtkdajaphbmclkaaGreatDoorTable
import Derived.Test.YtkdajaphbmclkaaGreatDoorEncNil
import Derived.Test.YtkdajaphbmclkaaGreatDoorX07
import Derived.Test.YtkdajaphbmclkaaGreatDoorDec
namespace Go.Proofs.YtkdajaphbmclkaaGreatDoor
open Go.RowKit Go.Sort
set_option linter.unusedVariables false

def colI (p : Int) : Int := if p = 0 then 1 else if p = 1 then 2 else 0
set_option maxRecDepth 100000 in
theorem columnsOf_any (p : Int) (w : World) : Calls Tryz.prog 50 #[.int .i64 p] w fun e w' => e = .returned (.int .i64 (colI p)) ∧ w' = w := by
  go_enter Tryz.func50, Tryz.ntmps50
  by_cases h0 : p = 0
  · subst h0
    go_wp2
    go_ret
    exact ⟨rfl, rfl⟩
  · have e0 : (p == 0) = false := by simpa using h0
    by_cases h1 : p = 1
    · subst h1
      go_wp2
      go_ret
      exact ⟨rfl, rfl⟩
    · have e1 : (p == 1) = false := by simpa using h1
      go_wp2
      go_ret
      exact ⟨by unfold colI; rw [if_neg h0, if_neg h1]; rfl, rfl⟩

set_option maxRecDepth 100000 in
theorem dSide_any (n : Int) (w : World) : Calls Tryz.prog 32 #[.int .i64 n] w fun e w' => e = .returned (.bool (decide (1 ≤ n ∧ n ≤ 400))) ∧ w' = w := by
  go_enter Tryz.func32, Tryz.ntmps32
  by_cases h1 : 1 ≤ n
  · by_cases h2 : n ≤ 400
    · rw [decide_eq_true ⟨h1, h2⟩]
      go_wp2
      go_ret
      exact ⟨rfl, rfl⟩
    · rw [decide_eq_false (fun q => h2 q.2)]
      go_wp2
      go_ret
      exact ⟨rfl, rfl⟩
  · rw [decide_eq_false (fun q => h1 q.1)]
    go_wp2
    go_ret
    exact ⟨rfl, rfl⟩

theorem own_slice {W : World} {B n size : Nat} {e : TypeId} {v : Value} {xs : List Value} (h : W.ownsRow B e size v n xs) : ∃ p c, v = .slice p n c := by
  rcases h.2 with ⟨rfl, rfl⟩ | ⟨g, cap, cur, rfl, _⟩
  · exact ⟨_, _, rfl⟩
  · exact ⟨_, _, rfl⟩
theorem str_ne {a b : ByteArray} (h : ¬ a = b) : (a.toList == b.toList) = false := by
  rw [beq_eq_false_iff_ne]
  intro e
  rw [ByteArray.toList_eq, ByteArray.toList_eq] at e
  exact h (ByteArray.ext (Array.toList_inj.1 e))

/-- The first place of a text in a list; -1: nowhere. -/
def findF : List ByteArray → ByteArray → Nat → Int
  | [], _, _ => -1
  | a :: r, x, k => if a = x then (k : Int) else findF r x (k + 1)
def K0 (ct : List UInt8) (t : ByteArray) : Prop := ¬ (⟨ct.toArray⟩ : ByteArray) = t
/-- What is answered tells P. -/
def Tells (w w' : World) (r : Ending) (P : Prop) : Prop := ∃ b : Bool, r = .returned (.bool b) ∧ (b = true ↔ P) ∧ Below w.heap.size w w'
set_option maxRecDepth 100000 in
set_option maxHeartbeats 8000000 in
theorem isShown_any (e : Ce) (n : Int) (w : World) (ht : TabAt w) (hs : e.t.size ≤ 1099511627776) :
    Calls Tryz.prog 51 #[cev e, .int .i64 n] w fun r w' => Tells w w' r (n ≠ 0 ∧ Sty e ∧ Txt e n) := by
  have hmix : Tryz.prog.follows .mixedOrders = true := by kernel_rfl
  have HT : Hid (TabAt w) := ht
  obtain ⟨t, f, g, b, p⟩ := e
  have OV : Hid (∀ w, Calls Tryz.prog 68 #[sv 0 0 0, sv f g b] w fun e w' => e = .returned (sv (kn f) (kn g) (bo b)) ∧ Gr w w') := fun w => by
    have := over_any 0 0 0 f g b w
    rw [ov_zero, ov_zero, obo_zero] at this
    exact this
  clear ht
  unfold cev
  unfold sv at OV
  go_enter Tryz.func51, Tryz.ntmps51
  go_wp2_with fail
  obtain ⟨S, hS⟩ : ∃ z, w.heap.size = z := ⟨_, rfl⟩
  obtain ⟨W0, hW0⟩ : ∃ z, w.alloc (.cells #[.string t, .int .i64 f, .int .i64 g, .int .i64 b, .int .i64 p] 71) = z := ⟨_, rfl⟩
  have G0 : Hid (Gr w W0) := by rw [← hW0]; exact (Gr.refl w).alloc _
  have R0 : Hid (R5 71 W0 S ⟨t, f, g, b, p⟩) := by rw [← hW0, ← hS]; exact R5.new w ⟨t, f, g, b, p⟩ _
  rw [hW0, hS]
  have HS : Hid (w.heap.size = S) := hS
  clear hW0 hS
  have q0 := cell_grown R0.out.lt R0.out.c0
  have q1 := cell_grown R0.out.lt R0.out.c1
  have q2 := cell_grown R0.out.lt R0.out.c2
  have q3 := cell_grown R0.out.lt R0.out.c3
  by_cases h0 : n = 0
  · subst h0
    go_quiet_grown (first | (go_at_call 68; exact Calls.grown_of (OV.out _)))
    go_wp2
    go_ret
    exact ⟨false, rfl, by simp, (G0.out.trans ⟨nq, osq, rfl⟩).below⟩
  · have e0 : (n == 0) = false := by simpa using h0
    obtain ⟨f2, hf2⟩ : ∃ z, kn f = z := ⟨_, rfl⟩
    obtain ⟨g2, hg2⟩ : ∃ z, kn g = z := ⟨_, rfl⟩
    obtain ⟨b2, hb2⟩ : ∃ z, bo b = z := ⟨_, rfl⟩
    rw [hf2, hg2, hb2] at OV
    by_cases h1 : f2 = f
    · by_cases h2 : g2 = g
      · by_cases h3 : b2 = b
        · subst h1 h2 h3
          have HST : Hid (Sty ⟨t, f2, g2, b2, p⟩) := ⟨hf2, hg2, hb2⟩
          go_quiet_grown (first | (go_at_call 68; exact Calls.grown_of (OV.out _)))
          have G1 : Hid (Gr w (grow (W0.drewN nq) osq)) := G0.out.trans ⟨nq, osq, rfl⟩
          have R1 : Hid (R5 71 (grow (W0.drewN nq) osq) S ⟨t, f2, g2, b2, p⟩) := R0.out.gr ⟨nq, osq, rfl⟩
          obtain ⟨W1, hW1⟩ : ∃ z, grow (W0.drewN nq) osq = z := ⟨_, rfl⟩
          rw [hW1] at G1 R1
          rw [hW1]
          have c0 := R1.out.c0
          have CG : Hid (Calls Tryz.prog 69 #[.string t] W1 fun e w' => ∃ v, e = .returned v ∧ w'.ownsRow W1.heap.size 51 2 v (clus (runes t.data.toList)).length (cCells (clus (runes t.data.toList))) ∧ Below W1.heap.size W1 w') := gClusters_any t W1 (HT.out.below G1.out.below) hs
          obtain ⟨K, hK⟩ : ∃ K, clus (runes t.data.toList) = K := ⟨_, rfl⟩
          have HTX : Hid (Txt ⟨t, f2, g2, b2, p⟩ n ↔ K = [(t.data.toList, n)]) := by show _ ↔ _; unfold Txt; rw [hK]
          rw [hK] at CG
          clear q0 q1 q2 q3 hW1 hK hf2 hg2 hb2 OV
          go_wp2_with fail
          refine CG.out.mono ?_
          rintro e w2 ⟨v, rfl, hv, b2'⟩
          have HBL : Hid (Below w.heap.size w w2) := G1.out.below.trans (b2'.mono G1.out.below.size)
          have R2 : Hid (R5 71 w2 S ⟨t, f2, g2, b2, p⟩) := (b2'.block _ R1.out.lt).trans R1.out
          have z0 := cell_grown R2.out.lt R2.out.c0
          clear b2' CG c0
          obtain ⟨m, hm⟩ : ∃ m, K.length = m := ⟨_, rfl⟩
          by_cases h1m : m = 1
          · have hK1 : ∃ ct cw, K = [(ct, cw)] := by
              rcases K with _ | ⟨⟨ct, cw⟩, _ | ⟨c2, K⟩⟩
              · simp at hm; omega
              · exact ⟨ct, cw, rfl⟩
              · simp at hm; omega
            obtain ⟨ct, cw, rfl⟩ := hK1
            clear hm h1m
            obtain ⟨g1, c1, rfl, _⟩ : ∃ g1 c1, v = .slice (some ⟨g1, 0, none⟩) 1 c1 ∧ True := by
              rcases hv.2 with ⟨_, h⟩ | ⟨g1, c1, cur, e, _⟩
              · cases h
              · exact ⟨g1, c1, e, trivial⟩
            have y0 : w2.cell? ⟨g1, 0, none⟩ = some (.string ⟨ct.toArray⟩) := hv.cellAt 0 (by decide)
            have y1 : w2.cell? ⟨g1, 1, none⟩ = some (.int .i64 cw) := hv.cellAt 1 (by decide)
            have gl := (hv.lt g1 rfl).2
            clear hv
            by_cases hct : (⟨ct.toArray⟩ : ByteArray) = t
            · have HCE : Hid (ct = t.data.toList) := by show _ = _; rw [← hct]
              rw [hct] at y0
              have y0 := cell_grown gl y0
              have y1 := cell_grown gl y1
              clear hct
              by_cases hcw : cw = n
              · subst hcw
                go_wp2_with fail
                go_quiet_grown (fail)
                go_wp2
                go_ret
                exact ⟨true, rfl, ⟨fun _ => ⟨h0, HST.out, HTX.out.2 (by rw [HCE.out])⟩, fun _ => rfl⟩, (HBL.out.trans ((Gr.below ⟨nq, osq, rfl⟩).mono HBL.out.size))⟩
              · have e5 : (cw == n) = false := by simpa using hcw
                go_wp2_with fail
                go_quiet_grown (fail)
                go_wp2
                go_ret
                exact ⟨false, rfl, ⟨fun h => (nomatch h), fun h => by have := HTX.out.1 h.2.2; injection this with this; injection this with _ this; exact absurd this hcw⟩, (HBL.out.trans ((Gr.below ⟨nq, osq, rfl⟩).mono HBL.out.size))⟩
            · have HCT : Hid (K0 ct t) := hct
              obtain ⟨cb, hcb⟩ : ∃ z, (⟨ct.toArray⟩ : ByteArray) = z := ⟨_, rfl⟩
              rw [hcb] at hct y0
              have e5 : (cb.toList == t.toList) = false := str_ne hct
              have y0 := cell_grown gl y0
              have y1 := cell_grown gl y1
              clear hcb
              go_wp2_with fail
              go_quiet_grown (fail)
              go_wp2
              go_ret
              exact ⟨false, rfl, ⟨fun h => (nomatch h), fun h => by have := HTX.out.1 h.2.2; injection this with this; injection this with this _; exact absurd (by rw [this]) HCT.out⟩, (HBL.out.trans ((Gr.below ⟨nq, osq, rfl⟩).mono HBL.out.size))⟩
          · obtain ⟨p1, c1, rfl⟩ : ∃ p c, v = .slice p m c := by rw [← hm]; exact own_slice hv
            have HNK : Hid (∀ x, K ≠ [x]) := fun x hx => h1m (by rw [← hm, hx]; rfl)
            have e5 : ((m : Int) == 1) = false := by simp; omega
            clear hv hm
            clear z0
            go_wp2_with fail
            go_quiet (fail)
            go_wp2
            go_ret
            exact ⟨false, rfl, ⟨fun h => (nomatch h), fun h => absurd (HTX.out.1 h.2.2) (HNK.out _)⟩, HBL.out.trans ((Gr.below ((Gr.refl _).drewN _)).mono HBL.out.size)⟩
        · have e3 : (b2 == b) = false := by simpa using h3
          subst h1 h2
          go_quiet_grown (first | (go_at_call 68; exact Calls.grown_of (OV.out _)))
          go_wp2
          go_ret
          exact ⟨false, rfl, ⟨fun h => (nomatch h), fun h => by exfalso; first | exact h3 (hb2.symm.trans h.2.1.2.2) | exact h3 (hb2.symm.trans h.1.2.2)⟩, (G0.out.trans ⟨nq, osq, rfl⟩).below⟩
      · have e3 : (g2 == g) = false := by simpa using h2
        subst h1
        go_quiet_grown (first | (go_at_call 68; exact Calls.grown_of (OV.out _)))
        go_wp2
        go_ret
        exact ⟨false, rfl, ⟨fun h => (nomatch h), fun h => by exfalso; first | exact h2 (hg2.symm.trans h.2.1.2.1) | exact h2 (hg2.symm.trans h.1.2.1)⟩, (G0.out.trans ⟨nq, osq, rfl⟩).below⟩
    · have e3 : (f2 == f) = false := by simpa using h1
      go_quiet_grown (first | (go_at_call 68; exact Calls.grown_of (OV.out _)))
      go_wp2
      go_ret
      exact ⟨false, rfl, ⟨fun h => (nomatch h), fun h => by exfalso; first | exact h1 (hf2.symm.trans h.2.1.1) | exact h1 (hf2.symm.trans h.1.1)⟩, (G0.out.trans ⟨nq, osq, rfl⟩).below⟩

end Go.Proofs.YtkdajaphbmclkaaGreatDoor

namespace Go.Proofs.YtkdajaphbmclkaaGreatDoor
open Go.RowKit Go.Sort
set_option linter.unusedVariables false

/-- What holds of a terminal at all times. -/
structure Ti (s : Tm) : Prop where
  x0 : 0 ≤ s.r.x
  x1 : s.r.x ≤ s.W
  y0 : 0 ≤ s.r.y
  y1 : s.r.y < s.H
  m0 : 0 ≤ s.r.lm
  m1 : s.r.lm ≤ 4
  ts : (s.r.lt.size : Int) ≤ 4 + 4 * s.r.lm
def markT (s : Tm) (mk : ByteArray) : Tm := if s.r.lw = 0 ∨ s.r.lm = 4 then s else putL { s with r := { s.r with lm := s.r.lm + 1, lt := s.r.lt ++ mk } }
def prT (s : Tm) (r : Int) : Tm :=
  if wid r = 0 then markT s ⟨(enc [r]).toArray⟩
  else if s.r.x + wid r > s.W then { s with r := clr s.r }
  else
    { putL { s with r := { clr s.r with lx := s.r.x, ly := s.r.y, lt := ⟨(enc [r]).toArray⟩, lw := wid r } } with r := { clr s.r with lx := s.r.x, ly := s.r.y, lt := ⟨(enc [r]).toArray⟩, lw := wid r, x := s.r.x + wid r } }

section
variable {T K M cap : Nat} {s : Tm} {nv : Value}
set_option maxRecDepth 100000 in
set_option maxHeartbeats 2000000 in
theorem printMark_any (w : World) (h : TM w T K M cap s nv) (hi : Ti s) (mk : ByteArray) (hm : mk.size ≤ 4) : Calls Tryz.prog 65 #[.pointer (some ⟨T, 0, none⟩), .string mk] w fun e w' => e = .returned (.tuple #[]) ∧ TM w' T K M cap (markT s mk) nv ∧ C2 T M w w' := by
  have c8 : w.cell? ⟨T, 8, none⟩ = some (.string s.r.lt) := h.at rfl
  have c9 : w.cell? ⟨T, 9, none⟩ = some (.int .i64 s.r.lw) := h.at rfl
  have c10 : w.cell? ⟨T, 10, none⟩ = some (.int .i64 s.r.lm) := h.at rfl
  have fz := h.fz
  have HM : Hid (TM w T K M cap s nv) := h
  have hts := hi.ts
  have hm0 := hi.m0
  have hm1 := hi.m1
  clear h hi
  obtain ⟨lw, hlw⟩ : ∃ z, s.r.lw = z := ⟨_, rfl⟩
  obtain ⟨lm, hlm⟩ : ∃ z, s.r.lm = z := ⟨_, rfl⟩
  obtain ⟨lt, hlt⟩ : ∃ z, s.r.lt = z := ⟨_, rfl⟩
  have HLW : Hid (s.r.lw = lw) := hlw
  have HLM : Hid (s.r.lm = lm) := hlm
  have HLT : Hid (s.r.lt = lt) := hlt
  rw [hlw] at c9
  rw [hlm] at c10 hts hm0 hm1
  rw [hlt] at c8 hts
  clear hlw hlm hlt
  go_enter Tryz.func65, Tryz.ntmps65
  by_cases h0 : lw = 0
  · have HE : Hid (markT s mk = s) := by show _ = _; unfold markT; rw [if_pos (.inl (HLW.out.trans h0))]
    subst h0
    go_wp2
    refine bodyPost_ret (v := .tuple #[]) (by simp [results, Tryz.results65, go_sem]) rfl ?_
    rw [HE.out]
    exact ⟨rfl, HM.out, C2.refl _ _ _⟩
  · have e0 : (lw == 0) = false := by simpa using h0
    by_cases h4 : lm = 4
    · have HE : Hid (markT s mk = s) := by show _ = _; unfold markT; rw [if_pos (.inr (HLM.out.trans h4))]
      subst h4
      go_wp2
      refine bodyPost_ret (v := .tuple #[]) (by simp [results, Tryz.results65, go_sem]) rfl ?_
      rw [HE.out]
      exact ⟨rfl, HM.out, C2.refl _ _ _⟩
    · have e4 : (lm == 4) = false := by simpa using h4
      have HE : Hid (markT s mk = putL { s with r := { s.r with lm := s.r.lm + 1, lt := s.r.lt ++ mk } }) := by show _ = _; unfold markT; rw [if_neg (by rw [HLW.out, HLM.out]; omega)]
      have H1 : Hid (TM ((w.setCell ⟨T, 10, none⟩ (.int .i64 (lm + 1))).setCell ⟨T, 8, none⟩ (.string (lt ++ mk))) T K M cap { s with r := { s.r with lm := s.r.lm + 1, lt := s.r.lt ++ mk } } nv) := by
        have h1 := HM.out.set 10 (.int .i64 (lm + 1)) { s.r with lm := s.r.lm + 1 } nv (by rw [HLM.out]; rfl)
        exact h1.set 8 (.string (lt ++ mk)) { s.r with lm := s.r.lm + 1, lt := s.r.lt ++ mk } nv (by rw [HLT.out]; rfl)
      have HC1 : Hid (C2 T M w ((w.setCell ⟨T, 10, none⟩ (.int .i64 (lm + 1))).setCell ⟨T, 8, none⟩ (.string (lt ++ mk)))) := ((C2.refl T M w).set _ _).set _ _
      go_wp2_with fail
      refine (putLast_any _ H1.out).mono ?_
      rintro e w1 ⟨rfl, h1, g1⟩
      have H2 : Hid (TM w1 T K M cap (markT s mk) nv ∧ C2 T M w w1) := by show _ ∧ _; rw [HE.out]; exact ⟨h1, HC1.out.trans g1⟩
      clear h1 g1
      go_wp2
      go_end0
      exact ⟨rfl, H2.out.1, H2.out.2⟩

theorem enc_one_size (r : Int) : (⟨(enc [r]).toArray⟩ : ByteArray).size ≤ 4 := by
  have h := enc_le [r]
  have e : (⟨(enc [r]).toArray⟩ : ByteArray).size = (enc [r]).length := by show (enc [r]).toArray.size = _; simp
  rw [e]
  simpa using h
theorem wid_cases (r : Int) : wid r = 0 ∨ wid r = 1 ∨ wid r = 2 := by
  have := wid_bd r
  omega
/-- A block of a text and a number. -/
def R2c (T : TypeId) (Q : World) (b : Nat) (t : ByteArray) (n : Int) : Prop := Q.heap[b]? = some (.cells #[.string t, .int .i64 n] T (0, 0))
theorem R2c.lt {T : TypeId} {Q : World} {b : Nat} {t : ByteArray} {n : Int} (h : R2c T Q b t n) : b < Q.heap.size := (Array.getElem?_eq_some_iff.1 h).1
theorem R2c.c0 {T : TypeId} {Q : World} {b : Nat} {t : ByteArray} {n : Int} (h : R2c T Q b t n) : Q.cell? ⟨b, 0, none⟩ = some (.string t) := by unfold R2c at h; simp [World.cell?, h]
theorem R2c.c1 {T : TypeId} {Q : World} {b : Nat} {t : ByteArray} {n : Int} (h : R2c T Q b t n) : Q.cell? ⟨b, 1, none⟩ = some (.int .i64 n) := by unfold R2c at h; simp [World.cell?, h]
theorem R2c.c2 {T : TypeId} {Q Q' : World} {b X M : Nat} {t : ByteArray} {n : Int} (h : R2c T Q b t n) (g : C2 X M Q Q') (h1 : b ≠ X) (h2 : b ≠ M) : R2c T Q' b t n := (g.block b h.lt h1 h2).trans h

set_option maxRecDepth 100000 in
set_option maxHeartbeats 8000000 in
theorem print_any (w : World) (h : TM w T K M cap s nv) (hi : Ti s) (ht : TabAt w) (r : Int) : Calls Tryz.prog 49 #[.pointer (some ⟨T, 0, none⟩), .int .i64 r] w fun e w' => e = .returned (.tuple #[]) ∧ TM w' T K M cap (prT s r) nv ∧ C2 T M w w' := by
  have hmix : Tryz.prog.follows .mixedOrders = true := by kernel_rfl
  have HM : Hid (TM w T K M cap s nv) := h
  have HT : Hid (TabAt w) := ht
  have HI : Hid (Ti s) := hi
  have hx0 := hi.x0
  have hx1 := hi.x1
  have hWb := h.hW.2
  clear h hi ht
  obtain ⟨tx, htx⟩ : ∃ z, (⟨(enc [r]).toArray⟩ : ByteArray) = z := ⟨_, rfl⟩
  obtain ⟨wd, hwd⟩ : ∃ z, wid r = z := ⟨_, rfl⟩
  have HPR : Hid (prT s r = if wd = 0 then markT s tx else if s.r.x + wd > s.W then { s with r := clr s.r } else { putL { s with r := { clr s.r with lx := s.r.x, ly := s.r.y, lt := tx, lw := wd } } with r := { clr s.r with lx := s.r.x, ly := s.r.y, lt := tx, lw := wd, x := s.r.x + wd } }) := by show _ = _; unfold prT; rw [htx, hwd]
  have hts : tx.size ≤ 4 := by rw [← htx]; exact enc_one_size r
  have hwc : wd = 0 ∨ wd = 1 ∨ wd = 2 := by rw [← hwd]; exact wid_cases r
  have EN : Hid (∀ v w, Ints w v [r] → Calls Tryz.prog 63 #[v] w fun e w' => e = .returned (.string tx) ∧ Below w.heap.size w w') := fun v w hv => by have := gEncode_all [r] v w hv (by simp); rw [htx] at this; exact this
  have WI : Hid (∀ w, TabAt w → Calls Tryz.prog 64 #[.int .i64 r] w fun e w' => e = .returned (.int .i64 wd) ∧ w' = w) := fun w ht => by have := gWidth_any r w ht; rw [hwd] at this; exact this
  clear htx hwd
  go_enter Tryz.func49, Tryz.ntmps49
  go_wp2_with fail
  have hin : Ints (w.alloc (.cells #[.int .i64 r] 3)) (.slice (some ⟨w.heap.size, 0, none⟩) 1 1) [r] := ⟨some ⟨w.heap.size, 0, none⟩, 1, rfl, .inr ⟨w.heap.size, 0, rfl, by simp, fun j hj => by
    obtain rfl : j = 0 := by simp at hj; omega
    rw [World.cell?_alloc_at _ _ _ _ rfl]; rfl⟩⟩
  refine (EN.out _ _ hin).mono ?_
  rintro e w1 ⟨rfl, b1⟩
  have HB1 : Hid (Below w.heap.size w w1) := ((Gr.refl w).alloc (.cells #[.int .i64 r] 3)).below.trans (b1.mono (by simp))
  clear b1 hin
  go_wp2_with fail
  refine (WI.out _ (HT.out.below HB1.out)).mono ?_
  rintro e w2 ⟨rfl, hw⟩
  obtain rfl := hw.symm
  by_cases h0 : wd = 0
  · subst h0
    have H1 : Hid (TM (w1.alloc (.cells #[.string tx, .int .i64 0] 51)) T K M cap s nv) := (HM.out.below HB1.out).gr ((Gr.refl _).alloc _)
    have HC1 : Hid (C2 T M w (w1.alloc (.cells #[.string tx, .int .i64 0] 51))) := (C2.below HB1.out).trans (C2.gr ((Gr.refl _).alloc _))
    have HPE : Hid (prT s r = markT s tx) := by show _ = _; rw [HPR.out, if_pos rfl]
    go_wp2_with fail
    refine (printMark_any _ H1.out HI.out tx hts).mono ?_
    rintro e w3 ⟨rfl, h3, g3⟩
    have H3 : Hid (TM w3 T K M cap (prT s r) nv ∧ C2 T M w w3) := by show _ ∧ _; rw [HPE.out]; exact ⟨h3, HC1.out.trans g3⟩
    clear h3 g3
    go_wp2
    refine bodyPost_ret (v := .tuple #[]) (by simp [results, Tryz.results49, go_sem]) rfl ?_
    exact ⟨rfl, H3.out.1, H3.out.2⟩
  · have e0 : (wd == 0) = false := by simpa using h0
    go_wp2_with fail
    obtain ⟨S, hS⟩ : ∃ z, w1.heap.size = z := ⟨_, rfl⟩
    obtain ⟨W2, hW2⟩ : ∃ z, w1.alloc (.cells #[.string tx, .int .i64 wd] 51) = z := ⟨_, rfl⟩
    have H1 : Hid (TM W2 T K M cap s nv) := by rw [← hW2]; exact (HM.out.below HB1.out).gr ((Gr.refl _).alloc _)
    have HC1 : Hid (C2 T M w W2) := by rw [← hW2]; exact (C2.below HB1.out).trans (C2.gr ((Gr.refl _).alloc _))
    have R1 : Hid (R2c 51 W2 S tx wd) := by rw [← hW2, ← hS]; exact heap_alloc_new _ _
    have hST : S ≠ T := by have h1 := HM.out.lt; have h2 := HB1.out.size; omega
    have hSM : S ≠ M := by have h1 := HM.out.cs.cv.lt; have h2 := HB1.out.size; omega
    have HPE : Hid (prT s r = if s.r.x + wd > s.W then { s with r := clr s.r } else { putL { s with r := { clr s.r with lx := s.r.x, ly := s.r.y, lt := tx, lw := wd } } with r := { clr s.r with lx := s.r.x, ly := s.r.y, lt := tx, lw := wd, x := s.r.x + wd } }) := by show _ = _; rw [HPR.out, if_neg h0]
    rw [hW2, hS]
    clear hW2 hS
    refine (forget_any _ H1.out).mono ?_
    rintro e w3 ⟨rfl, h3, g3⟩
    have H3 : Hid (TM w3 T K M cap { s with r := clr s.r } nv) := h3
    have HC3 : Hid (C2 T M w w3) := HC1.out.trans g3
    have R3' : Hid (R2c 51 w3 S tx wd) := R1.out.c2 g3 hST hSM
    clear h3 g3 R1 H1 HC1
    go_wp2_with fail
    refine (tsize_any _ H3.out).mono ?_
    rintro e w4 ⟨rfl, g4⟩
    have H4 : Hid (TM w4 T K M cap { s with r := clr s.r } nv) := H3.out.gr g4
    have HC4 : Hid (C2 T M w w4) := HC3.out.trans (C2.gr g4)
    have R4' : Hid (R2c 51 w4 S tx wd) := R3'.out.c2 (C2.gr (T := T) (M := M) g4) hST hSM
    clear g4 R3' H3 HC3
    have c1 : w4.cell? ⟨T, 1, none⟩ = some (.int .i64 s.r.x) := H4.out.at rfl
    have c2 : w4.cell? ⟨T, 2, none⟩ = some (.int .i64 s.r.y) := H4.out.at rfl
    have d0 := R4'.out.c0
    have d1 := R4'.out.c1
    obtain ⟨x, hx⟩ : ∃ z, s.r.x = z := ⟨_, rfl⟩
    obtain ⟨y, hy⟩ : ∃ z, s.r.y = z := ⟨_, rfl⟩
    have HX : Hid (s.r.x = x) := hx
    have HY : Hid (s.r.y = y) := hy
    rw [hx] at c1 hx0 hx1
    rw [hy] at c2
    clear hx hy
    by_cases hf : (s.W : Int) < x + wd
    · have hf' : decide ((s.W : Int) < x + wd) = true := decide_eq_true hf
      have HPF : Hid (prT s r = { s with r := clr s.r }) := by show _ = _; rw [HPE.out, if_pos (by rw [HX.out]; exact hf)]
      go_wp2_with fail
      go_quiet (fail)
      go_wp2
      refine bodyPost_ret (v := .tuple #[]) (by simp [results, Tryz.results49, go_sem]) rfl ?_
      rw [HPF.out]
      exact ⟨rfl, H4.out.gr ((Gr.refl _).drewN _), HC4.out.trans (C2.gr ((Gr.refl _).drewN _))⟩
    · have hf' : decide ((s.W : Int) < x + wd) = false := decide_eq_false hf
      have HPF : Hid (prT s r = { putL { s with r := { clr s.r with lx := s.r.x, ly := s.r.y, lt := tx, lw := wd } } with r := { clr s.r with lx := s.r.x, ly := s.r.y, lt := tx, lw := wd, x := s.r.x + wd } }) := by show _ = _; rw [HPE.out, if_neg (by rw [HX.out]; exact hf)]
      go_wp2_with fail
      go_quiet (fail)
      go_wp2_with fail
      obtain ⟨W5, hW5⟩ : ∃ z, w4.drewN nq = z := ⟨_, rfl⟩
      have H5 : Hid (TM W5 T K M cap { s with r := clr s.r } nv) := by rw [← hW5]; exact H4.out.gr ((Gr.refl _).drewN _)
      have HC5 : Hid (C2 T M w W5) := by rw [← hW5]; exact HC4.out.trans (C2.gr ((Gr.refl _).drewN _))
      have R5' : Hid (R2c 51 W5 S tx wd) := by rw [← hW5]; exact R4'.out.c2 (C2.gr (T := T) (M := M) ((Gr.refl _).drewN _)) hST hSM
      rw [hW5]
      clear hW5 c1 c2 d0 d1 R4' H4 HC4
      have c1 : W5.cell? ⟨T, 1, none⟩ = some (.int .i64 x) := by rw [← HX.out]; exact H5.out.at rfl
      have c2 : W5.cell? ⟨T, 2, none⟩ = some (.int .i64 y) := by rw [← HY.out]; exact H5.out.at rfl
      have c6 : W5.cell? ⟨T, 6, none⟩ = some (.int .i64 0) := H5.out.at rfl
      have c7 : W5.cell? ⟨T, 7, none⟩ = some (.int .i64 0) := H5.out.at rfl
      have c8 : W5.cell? ⟨T, 8, none⟩ = some (.string ⟨#[]⟩) := H5.out.at rfl
      have c9 : W5.cell? ⟨T, 9, none⟩ = some (.int .i64 0) := H5.out.at rfl
      have c10 : W5.cell? ⟨T, 10, none⟩ = some (.int .i64 0) := H5.out.at rfl
      have fz := H5.out.fz
      have d0 := R5'.out.c0
      have d1 := R5'.out.c1
      go_region
      go_wp2_with fail
      obtain ⟨W6, hW6⟩ : ∃ z, (((((W5.setCell ⟨T, 6, none⟩ (.int .i64 x)).setCell ⟨T, 7, none⟩ (.int .i64 y)).setCell ⟨T, 8, none⟩ (.string tx)).setCell ⟨T, 9, none⟩ (.int .i64 wd)).setCell ⟨T, 10, none⟩ (.int .i64 0)).drew = z := ⟨_, rfl⟩
      have H6 : Hid (TM W6 T K M cap { s with r := { clr s.r with lx := s.r.x, ly := s.r.y, lt := tx, lw := wd } } nv) := by
        rw [← hW6]
        have h1 := H5.out.set 6 (.int .i64 x) { clr s.r with lx := x } nv rfl
        have h2 := h1.set 7 (.int .i64 y) { clr s.r with lx := x, ly := y } nv rfl
        have h3 := h2.set 8 (.string tx) { clr s.r with lx := x, ly := y, lt := tx } nv rfl
        have h4 := h3.set 9 (.int .i64 wd) { clr s.r with lx := x, ly := y, lt := tx, lw := wd } nv rfl
        have h5 := h4.set 10 (.int .i64 0) { clr s.r with lx := x, ly := y, lt := tx, lw := wd } nv rfl
        rw [HX.out, HY.out]
        exact h5.gr (Gr.refl _).drew
      have HC6 : Hid (C2 T M w W6) := by
        rw [← hW6]
        exact (((((HC5.out.set _ _).set _ _).set _ _).set _ _).set _ _).trans (C2.gr (Gr.refl _).drew)
      have R6 : Hid (R2c 51 W6 S tx wd) := by
        rw [← hW6]
        exact R5'.out.c2 ((((((C2.refl T M W5).set _ _).set _ _).set _ _).set _ _).set _ _ |>.trans (C2.gr (Gr.refl _).drew)) hST hSM
      rw [hW6]
      clear hW6 c1 c2 c6 c7 c8 c9 c10 fz d0 d1 R5' H5 HC5
      refine (putLast_any _ H6.out).mono ?_
      rintro e w7 ⟨rfl, h7, g7⟩
      have H7 : Hid (TM w7 T K M cap (putL { s with r := { clr s.r with lx := s.r.x, ly := s.r.y, lt := tx, lw := wd } }) nv) := h7
      have HC7 : Hid (C2 T M w w7) := HC6.out.trans g7
      have R7 : Hid (R2c 51 w7 S tx wd) := R6.out.c2 g7 hST hSM
      clear h7 g7 H6 HC6 R6
      have c1 : w7.cell? ⟨T, 1, none⟩ = some (.int .i64 x) := by rw [← HX.out]; exact H7.out.at rfl
      have fz := H7.out.fz
      have d1 := R7.out.c1
      go_wp2_with fail
      go_region
      have H8 : Hid (TM ((w7.setCell ⟨T, 1, none⟩ (.int .i64 (x + wd))).drew) T K M cap (prT s r) nv) := by
        have h1 := H7.out.set 1 (.int .i64 (x + wd)) { clr s.r with lx := s.r.x, ly := s.r.y, lt := tx, lw := wd, x := s.r.x + wd } nv (by rw [HX.out]; rfl)
        show TM _ _ _ _ _ _ _
        rw [HPF.out]
        exact h1.gr (Gr.refl _).drew
      have HC8 : Hid (C2 T M w ((w7.setCell ⟨T, 1, none⟩ (.int .i64 (x + wd))).drew)) := (HC7.out.set _ _).trans (C2.gr (Gr.refl _).drew)
      go_wp2
      go_end0
      exact ⟨rfl, H8.out, HC8.out⟩
end

end Go.Proofs.YtkdajaphbmclkaaGreatDoor

namespace Go.Proofs.YtkdajaphbmclkaaGreatDoor
open Go.RowKit Go.Sort
set_option linter.unusedVariables false

/-- The first numbers. -/
def lst (l : Nat → Int) (m : Nat) : List Int := (List.range m).map l
theorem lst_len (l : Nat → Int) (m : Nat) : (lst l m).length = m := by simp [lst]
theorem lst_at (l : Nat → Int) (m j : Nat) (h : j < m) : (lst l m)[j]?.getD 0 = l j := by simp [lst, h]
def cntN (a : Int) : Nat := (min (a + 1) 16).toNat

set_option maxRecDepth 100000 in
set_option maxHeartbeats 4000000 in
theorem counted_seq (l : Nat → Int) (a : Int) (ha : 0 ≤ a ∧ a ≤ 16) (w : World) : Calls Tryz.prog 78 #[numV l a] w fun e w' => ∃ v, e = .returned v ∧ Ints w' v (lst l (cntN a)) ∧ Gr w w' := by
  obtain ⟨m, hm⟩ : ∃ z, cntN a = z := ⟨_, rfl⟩
  rw [hm]
  unfold cntN at hm
  have hm16 : m ≤ 16 := by omega
  have hb : a + 1 ≤ 16 ∧ a + 1 = (m : Int) ∨ 16 < a + 1 ∧ m = 16 := by omega
  clear hm
  unfold numV
  go_enter Tryz.func78, Tryz.ntmps78
  go_upto_region 1 with fail
  obtain ⟨S, hS⟩ : ∃ z, w.heap.size = z := ⟨_, rfl⟩
  obtain ⟨W0, hW0⟩ : ∃ z, w.alloc (.cells #[.int .i64 (l 0), .int .i64 (l 1), .int .i64 (l 2), .int .i64 (l 3), .int .i64 (l 4), .int .i64 (l 5), .int .i64 (l 6), .int .i64 (l 7), .int .i64 (l 8), .int .i64 (l 9), .int .i64 (l 10), .int .i64 (l 11), .int .i64 (l 12), .int .i64 (l 13), .int .i64 (l 14), .int .i64 (l 15), .int .i64 (l 16), .int .i64 a] 100) = z := ⟨_, rfl⟩
  have G0 : Hid (Gr w W0) := by rw [← hW0]; exact (Gr.refl w).alloc _
  have A0 : Hid (N18 W0 S l a) := by rw [← hW0, ← hS]; exact N18.new w l a
  rw [hW0, hS]
  clear hW0 hS
  have c17 : W0.cell? ⟨S, 17, none⟩ = some (.int .i64 a) := A0.out.at rfl
  have hal : Tryz.prog.arrayLen 98 = 17 := by kernel_rfl
  have HR : Hid (∀ cap, Ints W0 (.slice (some ⟨S, 0, none⟩) m cap) (lst l m)) := fun cap => ⟨some ⟨S, 0, none⟩, cap, by rw [lst_len], .inr ⟨S, 0, rfl, A0.out.lt, fun j hj => by
    rw [lst_len] at hj
    rw [Nat.zero_add, lst_at l m j hj]
    exact A0.out.at (numC_get l a (by omega))⟩⟩
  rcases hb with ⟨hb, hb2⟩ | ⟨hb, rfl⟩
  · have hb3 : (m : Int) ≤ 17 := by omega
    have hb4 : (0 : Int) ≤ (m : Int) := by omega
    have hmn : min (m : Int) 16 = (m : Int) := by omega
    go_wp2
    go_ret
    exact ⟨_, rfl, HR.out _, G0.out⟩
  · have hmn : min (a + 1) 16 = 16 := by omega
    go_wp2
    go_ret
    exact ⟨_, rfl, HR.out _, G0.out⟩

def obeyT (s : Tm) (b : Int) (l : Nat → Int) (a : Int) : Tm :=
  if b = 72 then { s with r := { s.r with x := min (max (l 1) 1) s.W - 1, y := min (max (l 0) 1) s.H - 1 } }
  else if b = 74 then (if l 0 = 2 then { s with c := filC s.W s.H s.c 0 0 s.W s.H 0 0 0 0 0 s.W s.H } else s)
  else if b = 109 then { s with r := { s.r with f := aplF (lst l (cntN a)) s.r.f, g := aplG (lst l (cntN a)) s.r.g, b := aplB (lst l (cntN a)) s.r.b } }
  else s

section
variable {T K M cap : Nat} {s : Tm} {nv : Value}
set_option maxRecDepth 100000 in
set_option maxHeartbeats 8000000 in
theorem obey_any (w : World) (h : TM w T K M cap s nv) (bt : Int) (l : Nat → Int) (a : Int) (ha : 0 ≤ a ∧ a ≤ 16) (hl : ∀ j, j < 17 → 0 ≤ l j ∧ l j ≤ 999999) : Calls Tryz.prog 61 #[.pointer (some ⟨T, 0, none⟩), .int .u8 bt, numV l a] w fun e w' => e = .returned (.tuple #[]) ∧ TM w' T K M cap (obeyT s bt l a) nv ∧ C2 T M w w' := by
  have HM : Hid (TM w T K M cap s nv) := h
  have HL : Hid (∀ j, j < 17 → 0 ≤ l j ∧ l j ≤ 999999) := hl
  clear h hl
  unfold numV
  go_enter Tryz.func61, Tryz.ntmps61
  go_upto_region 1 with fail
  obtain ⟨S, hS⟩ : ∃ z, w.heap.size = z := ⟨_, rfl⟩
  obtain ⟨W0, hW0⟩ : ∃ z, w.alloc (.cells #[.int .i64 (l 0), .int .i64 (l 1), .int .i64 (l 2), .int .i64 (l 3), .int .i64 (l 4), .int .i64 (l 5), .int .i64 (l 6), .int .i64 (l 7), .int .i64 (l 8), .int .i64 (l 9), .int .i64 (l 10), .int .i64 (l 11), .int .i64 (l 12), .int .i64 (l 13), .int .i64 (l 14), .int .i64 (l 15), .int .i64 (l 16), .int .i64 a] 100) = z := ⟨_, rfl⟩
  have G0 : Hid (Gr w W0) := by rw [← hW0]; exact (Gr.refl w).alloc _
  have A0 : Hid (N18 W0 S l a) := by rw [← hW0, ← hS]; exact N18.new w l a
  have H0 : Hid (TM W0 T K M cap s nv) := HM.out.gr G0.out
  have hTS : T ≠ S := by have := HM.out.lt; omega
  have hSM : S ≠ M := by have := HM.out.cs.cv.lt; omega
  rw [hW0, hS]
  clear hW0 hS
  by_cases h72 : bt = 72
  · subst h72
    have HO : Hid (obeyT s 72 l a = { s with r := { s.r with x := min (max (l 1) 1) s.W - 1, y := min (max (l 0) 1) s.H - 1 } }) := rfl
    obtain ⟨px, hpx⟩ : ∃ z, min (max (l 1) 1) (s.W : Int) - 1 = z := ⟨_, rfl⟩
    obtain ⟨py, hpy⟩ : ∃ z, min (max (l 0) 1) (s.H : Int) - 1 = z := ⟨_, rfl⟩
    have P1 : Hid (∀ w, Calls Tryz.prog 74 #[.int .i64 (l 1), .int .i64 (s.W : Int)] w fun e w' => e = .returned (.int .i64 px) ∧ w' = w) := fun w => by rw [← hpx]; exact placeOf_any _ _ (HL.out 1 (by decide)) (by have := HM.out.hW; omega) w
    have P2 : Hid (∀ w, Calls Tryz.prog 74 #[.int .i64 (l 0), .int .i64 (s.H : Int)] w fun e w' => e = .returned (.int .i64 py) ∧ w' = w) := fun w => by rw [← hpy]; exact placeOf_any _ _ (HL.out 0 (by decide)) (by have := HM.out.hH; omega) w
    rw [hpx, hpy] at HO
    clear hpx hpy
    go_wp2_with fail
    refine (tsize_any _ H0.out).mono ?_
    rintro e w1 ⟨rfl, g1⟩
    have H1 : Hid (TM w1 T K M cap s nv) := H0.out.gr g1
    have A1 : Hid (N18 w1 S l a) := A0.out.gr g1
    have G1 : Hid (Gr w w1) := G0.out.trans g1
    clear g1
    have y0 : w1.cell? ⟨S, 0, none⟩ = some (.int .i64 (l 0)) := A1.out.at rfl
    have y1 : w1.cell? ⟨S, 1, none⟩ = some (.int .i64 (l 1)) := A1.out.at rfl
    have c1 : w1.cell? ⟨T, 1, none⟩ = some (.int .i64 s.r.x) := H1.out.at rfl
    have c2 : w1.cell? ⟨T, 2, none⟩ = some (.int .i64 s.r.y) := H1.out.at rfl
    have fz := H1.out.fz
    go_wp2_with fail
    go_region_held (fun W => W.cell? ⟨S, 0, none⟩ = some (.int .i64 (l 0)) ∧ W.cell? ⟨S, 1, none⟩ = some (.int .i64 (l 1))) (go_keep) (first | (go_at_call 74; first | (with_reducible refine Calls.mono (P1.out _) ?_; rintro e w2 ⟨rfl, rfl⟩) | (with_reducible refine Calls.mono (P2.out _) ?_; rintro e w2 ⟨rfl, rfl⟩)))
    all_goals
      have H2 : Hid (TM (((w1.setCell ⟨T, 1, none⟩ (.int .i64 px)).setCell ⟨T, 2, none⟩ (.int .i64 py)).drew) T K M cap (obeyT s 72 l a) nv) := by
        show TM _ _ _ _ _ _ _
        rw [HO.out]
        exact ((H1.out.set 1 (.int .i64 px) { s.r with x := px } nv rfl).set 2 (.int .i64 py) { s.r with x := px, y := py } nv rfl).gr (Gr.refl _).drew
      have HC2 : Hid (C2 T M w (((w1.setCell ⟨T, 1, none⟩ (.int .i64 px)).setCell ⟨T, 2, none⟩ (.int .i64 py)).drew)) := (((C2.gr G1.out).set _ _).set _ _).trans (C2.gr (Gr.refl _).drew)
      go_wp2
      go_end0
      exact ⟨rfl, H2.out, HC2.out⟩
  · have e72 : (bt == 72) = false := by simpa using h72
    by_cases h74 : bt = 74
    · subst h74
      have y0 : W0.cell? ⟨S, 0, none⟩ = some (.int .i64 (l 0)) := A0.out.at rfl
      by_cases h2 : l 0 = 2
      · have HO : Hid (obeyT s 74 l a = { s with c := filC s.W s.H s.c 0 0 s.W s.H 0 0 0 0 0 s.W s.H }) := by show _ = _; unfold obeyT; rw [if_neg (by decide), if_pos rfl, if_pos h2]
        rw [h2] at y0
        have WR : Hid (∀ w', Gr W0 w' → Calls Tryz.prog 76 #[.pointer (some ⟨T, 0, none⟩)] w' fun e w2 => e = .returned (rv 0 0 s.W s.H) ∧ Gr w' w2) := fun w' g => whole_rect w' (H0.out.gr g)
        have FI : Hid (∀ w', Gr W0 w' → Calls Tryz.prog 75 #[.pointer (some ⟨K, 0, none⟩), rv 0 0 s.W s.H, .agg #[.int .i64 0, .int .i64 0, .int .i64 0], rv 0 0 s.W s.H] w' fun e w2 => e = .returned (.tuple #[]) ∧ Hid (TM w2 T K M cap (obeyT s 74 l a) nv ∧ C2 T M w w2)) := fun w' g => (fill_any w' (H0.out.gr g).cs H0.out.hW H0.out.hH H0.out.pa 0 0 s.W s.H 0 0 0 0 0 s.W s.H _ _ _ _ rfl).mono fun e w2 q => ⟨q.1, by
          show _ ∧ _
          rw [HO.out]
          exact ⟨(H0.out.gr g).cells q.2.1 q.2.2 (H0.out.pa.filX H0.out.hW H0.out.hH _ _ _ _ _ _ _ _ _ _ _), (C2.gr (G0.out.trans g)).trans (C2.ch q.2.2)⟩⟩
        have CE : Hid (∀ w', Gr W0 w' → w'.cell? ⟨T, 0, none⟩ = some (.pointer (some ⟨K, 0, none⟩))) := fun w' g => (H0.out.gr g).at rfl
        have c0 : W0.cell? ⟨T, 0, none⟩ = some (.pointer (some ⟨K, 0, none⟩)) := H0.out.at rfl
        go_wp2_with fail
        go_region_held (fun W => W.cell? ⟨T, 0, none⟩ = some (.pointer (some ⟨K, 0, none⟩))) (go_keep) (first | (go_at_call 76; refine Calls.mono (WR.out _ (by first | exact G1.out | exact (Gr.refl _).drew | exact Gr.refl _)) ?_; rintro e1 w1 ⟨rfl, g1⟩; (first | (have G2 : Hid (Gr W0 w1) := G1.out.trans g1; have o1 := CE.out w1 G2.out) | (have G1 : Hid (Gr W0 w1) := ((Gr.refl W0).drew).trans g1; have o2 := CE.out w1 G1.out) | (have G1 : Hid (Gr W0 w1) := g1; have o2 := CE.out w1 G1.out)); clear g1) | (go_at_call 75; refine Calls.mono (FI.out _ G2.out) ?_; rintro e2 w2 ⟨rfl, H2⟩; have o3 : w2.cell? ⟨T, 0, none⟩ = some (.pointer (some ⟨K, 0, none⟩)) := H2.out.1.at rfl))
        all_goals
          go_wp2
          go_end0
          exact ⟨rfl, H2.out.1, H2.out.2⟩
      · have HO : Hid (obeyT s 74 l a = s) := by show _ = _; unfold obeyT; rw [if_neg (by decide), if_pos rfl, if_neg h2]
        have e2 : (l 0 == 2) = false := by simpa using h2
        go_wp2
        go_end0
        rw [HO.out]
        exact ⟨rfl, H0.out, C2.gr G0.out⟩
    · have e74 : (bt == 74) = false := by simpa using h74
      by_cases h109 : bt = 109
      · subst h109
        obtain ⟨zs, hzs⟩ : ∃ z, lst l (cntN a) = z := ⟨_, rfl⟩
        have HZL : Hid (zs.length ≤ 17592186044416) := by show _ ≤ _; rw [← hzs, lst_len]; unfold cntN; omega
        have CT : Hid (∀ w', Calls Tryz.prog 78 #[.agg #[.int .i64 (l 0), .int .i64 (l 1), .int .i64 (l 2), .int .i64 (l 3), .int .i64 (l 4), .int .i64 (l 5), .int .i64 (l 6), .int .i64 (l 7), .int .i64 (l 8), .int .i64 (l 9), .int .i64 (l 10), .int .i64 (l 11), .int .i64 (l 12), .int .i64 (l 13), .int .i64 (l 14), .int .i64 (l 15), .int .i64 (l 16), .int .i64 a]] w' fun e w2 => ∃ v, e = .returned v ∧ Ints w2 v zs ∧ Gr w' w2) := fun w' => by have := counted_seq l a ha w'; rw [hzs] at this; exact this
        obtain ⟨f2, hf2⟩ : ∃ z, aplF zs s.r.f = z := ⟨_, rfl⟩
        obtain ⟨g2, hg2⟩ : ∃ z, aplG zs s.r.g = z := ⟨_, rfl⟩
        obtain ⟨b2, hb2⟩ : ∃ z, aplB zs s.r.b = z := ⟨_, rfl⟩
        have AP : Hid (∀ v w', Ints w' v zs → Calls Tryz.prog 77 #[.agg #[.int .i64 s.r.f, .int .i64 s.r.g, .int .i64 s.r.b], v] w' fun e w2 => e = .returned (.agg #[.int .i64 f2, .int .i64 g2, .int .i64 b2]) ∧ Gr w' w2) := fun v w' hv => by have := apply_any s.r.f s.r.g s.r.b zs v w' hv HZL.out; rw [hf2, hg2, hb2] at this; exact this
        have HO : Hid (obeyT s 109 l a = { s with r := { s.r with f := f2, g := g2, b := b2 } }) := by show _ = _; unfold obeyT; rw [if_neg (by decide), if_neg (by decide), if_pos rfl, hzs, hf2, hg2, hb2]
        have CE : Hid (∀ w', Gr W0 w' → ∀ j v, (tmc K s.r nv)[j]? = some v → w'.cell? ⟨T, j, none⟩ = some v) := fun w' g j v hv => (H0.out.gr g).at hv
        clear hzs hf2 hg2 hb2 HZL
        have x0 : W0.cell? ⟨S, 0, none⟩ = some (.int .i64 (l 0)) := A0.out.at rfl
        have x1 : W0.cell? ⟨S, 1, none⟩ = some (.int .i64 (l 1)) := A0.out.at rfl
        have x2 : W0.cell? ⟨S, 2, none⟩ = some (.int .i64 (l 2)) := A0.out.at rfl
        have x3 : W0.cell? ⟨S, 3, none⟩ = some (.int .i64 (l 3)) := A0.out.at rfl
        have x4 : W0.cell? ⟨S, 4, none⟩ = some (.int .i64 (l 4)) := A0.out.at rfl
        have x5 : W0.cell? ⟨S, 5, none⟩ = some (.int .i64 (l 5)) := A0.out.at rfl
        have x6 : W0.cell? ⟨S, 6, none⟩ = some (.int .i64 (l 6)) := A0.out.at rfl
        have x7 : W0.cell? ⟨S, 7, none⟩ = some (.int .i64 (l 7)) := A0.out.at rfl
        have x8 : W0.cell? ⟨S, 8, none⟩ = some (.int .i64 (l 8)) := A0.out.at rfl
        have x9 : W0.cell? ⟨S, 9, none⟩ = some (.int .i64 (l 9)) := A0.out.at rfl
        have x10 : W0.cell? ⟨S, 10, none⟩ = some (.int .i64 (l 10)) := A0.out.at rfl
        have x11 : W0.cell? ⟨S, 11, none⟩ = some (.int .i64 (l 11)) := A0.out.at rfl
        have x12 : W0.cell? ⟨S, 12, none⟩ = some (.int .i64 (l 12)) := A0.out.at rfl
        have x13 : W0.cell? ⟨S, 13, none⟩ = some (.int .i64 (l 13)) := A0.out.at rfl
        have x14 : W0.cell? ⟨S, 14, none⟩ = some (.int .i64 (l 14)) := A0.out.at rfl
        have x15 : W0.cell? ⟨S, 15, none⟩ = some (.int .i64 (l 15)) := A0.out.at rfl
        have x16 : W0.cell? ⟨S, 16, none⟩ = some (.int .i64 (l 16)) := A0.out.at rfl
        have x17 : W0.cell? ⟨S, 17, none⟩ = some (.int .i64 a) := A0.out.at rfl
        have c3 : W0.cell? ⟨T, 3, none⟩ = some (.int .i64 s.r.f) := H0.out.at rfl
        have c4 : W0.cell? ⟨T, 4, none⟩ = some (.int .i64 s.r.g) := H0.out.at rfl
        have c5 : W0.cell? ⟨T, 5, none⟩ = some (.int .i64 s.r.b) := H0.out.at rfl
        have fz := H0.out.fz
        go_wp2_with fail
        go_region_with (first | (go_at_call 78; refine Calls.mono (CT.out _) ?_; rintro e1 w1 ⟨v1, rfl, i1, g1⟩; have G1 : Hid (Gr W0 w1) := (by first | exact ((Gr.refl W0).drew).trans g1 | exact g1); have I1 : Hid (Ints w1 v1 zs) := i1; clear g1 i1; have o3 : w1.cell? ⟨T, 3, none⟩ = some (.int .i64 s.r.f) := CE.out w1 G1.out 3 _ rfl; have o4 : w1.cell? ⟨T, 4, none⟩ = some (.int .i64 s.r.g) := CE.out w1 G1.out 4 _ rfl; have o5 : w1.cell? ⟨T, 5, none⟩ = some (.int .i64 s.r.b) := CE.out w1 G1.out 5 _ rfl) | (go_at_call 77; refine Calls.mono (AP.out _ _ I1.out) ?_; rintro e2 w2 ⟨rfl, g2'⟩; have G2 : Hid (Gr W0 w2) := G1.out.trans g2'; clear g2'; have u3 : w2.cell? ⟨T, 3, none⟩ = some (.int .i64 s.r.f) := CE.out w2 G2.out 3 _ rfl; have u4 : w2.cell? ⟨T, 4, none⟩ = some (.int .i64 s.r.g) := CE.out w2 G2.out 4 _ rfl; have u5 : w2.cell? ⟨T, 5, none⟩ = some (.int .i64 s.r.b) := CE.out w2 G2.out 5 _ rfl; have uf := (H0.out.gr G2.out).fz))
        all_goals
          have H3 : Hid (TM (((w2.setCell ⟨T, 3, none⟩ (.int .i64 f2)).setCell ⟨T, 4, none⟩ (.int .i64 g2)).setCell ⟨T, 5, none⟩ (.int .i64 b2)) T K M cap (obeyT s 109 l a) nv) := by
            show TM _ _ _ _ _ _ _
            rw [HO.out]
            exact (((H0.out.gr G2.out).set 3 (.int .i64 f2) { s.r with f := f2 } nv rfl).set 4 (.int .i64 g2) { s.r with f := f2, g := g2 } nv rfl).set 5 (.int .i64 b2) { s.r with f := f2, g := g2, b := b2 } nv rfl
          have HC3 : Hid (C2 T M w (((w2.setCell ⟨T, 3, none⟩ (.int .i64 f2)).setCell ⟨T, 4, none⟩ (.int .i64 g2)).setCell ⟨T, 5, none⟩ (.int .i64 b2))) := (((C2.gr (G0.out.trans G2.out)).set _ _).set _ _).set _ _
          go_wp2
          go_end0
          exact ⟨rfl, H3.out, HC3.out⟩
      · have e109 : (bt == 109) = false := by simpa using h109
        have HO : Hid (obeyT s bt l a = s) := by show _ = _; unfold obeyT; rw [if_neg h72, if_neg h74, if_neg h109]
        go_wp2
        go_end0
        rw [HO.out]
        exact ⟨rfl, H0.out, C2.gr G0.out⟩
end

end Go.Proofs.YtkdajaphbmclkaaGreatDoor

namespace Go.Proofs.YtkdajaphbmclkaaGreatDoor
open Go.RowKit Go.Sort
set_option linter.unusedVariables false

/-- What reads the next byte. -/
inductive St where
  | out
  | esc
  | amid (h : ByteArray)
  | wth (l : Nat → Int) (a : Int)
def fnV (f : Nat) (cap : Array Value) : Value := .func (.func f) #[] cap
def Nx (Q : World) (T M : Nat) (v : Value) : St → Prop
  | .out => v = fnV 15 #[]
  | .esc => v = fnV 30 #[]
  | .amid h => ∃ k, v = fnV 46 #[.pointer (some ⟨k, 0, none⟩)] ∧ k ≠ T ∧ k ≠ M ∧ Q.heap[k]? = some (.cells #[.string h] 9 (0, 0))
  | .wth l a => ∃ k, v = fnV 58 #[.pointer (some ⟨k, 0, none⟩)] ∧ k ≠ T ∧ k ≠ M ∧ N18 Q k l a

set_option maxRecDepth 100000 in
theorem within_mk (l : Nat → Int) (a : Int) (w : World) : Calls Tryz.prog 45 #[numV l a] w fun e w' => e = .returned (fnV 58 #[.pointer (some ⟨w.heap.size, 0, none⟩)]) ∧ N18 w' w.heap.size l a ∧ Gr w w' := by
  have hmf : ∀ (fn : Fn) (first cap : Array Value) (w : World), (Instr.makeFunc fn first cap).run Tryz.prog w = .ok (.func fn first cap) w := fun _ _ _ _ => rfl
  unfold numV
  go_enter Tryz.func45, Tryz.ntmps45
  go_wp2
  go_ret
  exact ⟨rfl, N18.new w l a, (Gr.refl w).alloc _⟩

set_option maxRecDepth 100000 in
theorem amid_mk (h : ByteArray) (w : World) : Calls Tryz.prog 31 #[.string h] w fun e w' => e = .returned (fnV 46 #[.pointer (some ⟨w.heap.size, 0, none⟩)]) ∧ w'.heap[w.heap.size]? = some (.cells #[.string h] 9 (0, 0)) ∧ Gr w w' := by
  have hmf : ∀ (fn : Fn) (first cap : Array Value) (w : World), (Instr.makeFunc fn first cap).run Tryz.prog w = .ok (.func fn first cap) w := fun _ _ _ _ => rfl
  go_enter Tryz.func31, Tryz.ntmps31
  go_wp2
  go_ret
  exact ⟨rfl, heap_alloc_new _ _, (Gr.refl w).alloc _⟩

section
variable {T K M cap : Nat} {s : Tm} {nv : Value}
/-- What the reading of a byte leaves. -/
def Done (w w' : World) (e : Ending) (T K M cap : Nat) (s : Tm) (nv : Value) (st : St) : Prop := ∃ v, e = .returned v ∧ TM w' T K M cap s nv ∧ Nx w' T M v st ∧ C2 T M w w'
theorem Done.wth {w w1 w' : World} {l : Nat → Int} {a : Int} (h : TM w1 T K M cap s nv) (g : C2 T M w w1) (hn : N18 w' w1.heap.size l a) (g2 : Gr w1 w') : Done w w' (.returned (fnV 58 #[.pointer (some ⟨w1.heap.size, 0, none⟩)])) T K M cap s nv (.wth l a) :=
  ⟨_, rfl, h.gr g2, ⟨_, rfl, by have := h.lt; omega, by have := h.cs.cv.lt; omega, hn⟩, g.trans (C2.gr g2)⟩

set_option maxRecDepth 100000 in
set_option maxHeartbeats 2000000 in
theorem escaped_any (w : World) (h : TM w T K M cap s nv) (bt : Int) : Calls Tryz.prog 30 #[.pointer (some ⟨T, 0, none⟩), .int .u8 bt] w fun e w' => Done w w' e T K M cap s nv (if bt = 91 then .wth (fun _ => 0) 0 else .out) := by
  have HM : Hid (TM w T K M cap s nv) := h
  have WI : Hid (∀ w, Calls Tryz.prog 45 #[numV (fun _ => 0) 0] w fun e w' => e = .returned (fnV 58 #[.pointer (some ⟨w.heap.size, 0, none⟩)]) ∧ N18 w' w.heap.size (fun _ => 0) 0 ∧ Gr w w') := within_mk _ _
  unfold numV at WI
  clear h
  go_enter Tryz.func30, Tryz.ntmps30
  by_cases hb : bt = 91
  · subst hb
    rw [if_pos rfl]
    go_wp2_with fail
    refine (WI.out w).mono ?_
    rintro e w1 ⟨rfl, n1, g1⟩
    have HD := Done.wth HM.out (C2.refl T M w) n1 g1
    clear n1 g1
    go_wp2
    go_ret
    exact HD
  · have e91 : (bt == 91) = false := by simpa using hb
    rw [if_neg hb]
    go_wp2
    go_ret
    exact ⟨_, rfl, HM.out, rfl, C2.refl T M w⟩

/-- A byte within a sequence. -/
def wthT (s : Tm) (l : Nat → Int) (a : Nat) (b : Int) : Tm × St :=
  if 48 ≤ b ∧ b ≤ 57 then (s, .wth (updN l a (min (l a * 10 + (b - 48)) 999999)) a)
  else if b = 58 then (s, .wth l a)
  else if b = 59 then (s, .wth l (min ((a : Int) + 1) 16))
  else if 64 ≤ b ∧ b ≤ 126 then (obeyT s b l a, .out)
  else (s, .out)

set_option maxRecDepth 100000 in
set_option maxHeartbeats 8000000 in
theorem within1_any (w : World) (h : TM w T K M cap s nv) (bt : Int) (hbt : 0 ≤ bt ∧ bt ≤ 255) (l : Nat → Int) (a : Nat) (k : Nat) (ha : a ≤ 16) (hl : ∀ j, j < 17 → 0 ≤ l j ∧ l j ≤ 999999) (hn : N18 w k l a) :
    Calls Tryz.prog 58 #[.pointer (some ⟨T, 0, none⟩), .int .u8 bt, .pointer (some ⟨k, 0, none⟩)] w fun e w' => Done w w' e T K M cap (wthT s l a bt).1 nv (wthT s l a bt).2 := by
  have HM : Hid (TM w T K M cap s nv) := h
  have HL : Hid (∀ j, j < 17 → 0 ≤ l j ∧ l j ≤ 999999) := hl
  have HN : Hid (N18 w k l a) := hn
  obtain ⟨d0, hu, hd0⟩ := numDesc
  have hi3 : (Tryz.prog.info? 100).map (·.size) = some (numC l (a : Int)).toList.length := numInfo
  clear h hl hn
  go_enter Tryz.func58, Tryz.ntmps58
  by_cases h1 : 48 ≤ bt ∧ bt ≤ 57
  · have hE : wthT s l a bt = (s, .wth (updN l a (min (l a * 10 + (bt - 48)) 999999)) a) := if_pos h1
    rw [hE]
    clear hE
    obtain ⟨h1a, h1b⟩ := h1
    go_wp2_with (refine wpList_load_mid rfl 100 _ rfl k 0 rfl (numC l (a : Int)).toList d0 HN.out.range hu hd0 hi3 ?_)
    refine (withDigit_any l a (bt - 48) (by omega) (HL.out a (by omega)) (by omega) w).mono ?_
    rintro e w1 ⟨rfl, g1⟩
    have H1 : Hid (TM w1 T K M cap s nv) := HM.out.gr g1
    have C1 : Hid (C2 T M w w1) := C2.gr g1
    clear g1
    go_wp2_with fail
    refine (within_mk _ _ w1).mono ?_
    rintro e w2 ⟨rfl, n2, g2⟩
    have HD := Done.wth H1.out C1.out n2 g2
    clear n2 g2
    go_wp2
    go_ret
    exact HD
  · have h1a : ¬ (48 ≤ bt) ∨ ¬ (bt ≤ 57) := by omega
    by_cases h58 : bt = 58
    · have hE : wthT s l a bt = (s, .wth l a) := by unfold wthT; rw [if_neg h1, if_pos h58]
      rw [hE]
      clear hE
      subst h58
      go_wp2_with (refine wpList_load_mid rfl 100 _ rfl k 0 rfl (numC l (a : Int)).toList d0 HN.out.range hu hd0 hi3 ?_)
      refine (within_mk l a w).mono ?_
      rintro e w2 ⟨rfl, n2, g2⟩
      have HD := Done.wth HM.out (C2.refl T M w) n2 g2
      clear n2 g2
      go_wp2
      go_ret
      exact HD
    · by_cases h59 : bt = 59
      · have hE : wthT s l a bt = (s, .wth l (min ((a : Int) + 1) 16)) := by unfold wthT; rw [if_neg h1, if_neg h58, if_pos h59]
        rw [hE]
        clear hE
        subst h59
        go_wp2_with (refine wpList_load_mid rfl 100 _ rfl k 0 rfl (numC l (a : Int)).toList d0 HN.out.range hu hd0 hi3 ?_)
        refine (withAnother_any l a (by omega) w).mono ?_
        rintro e w1 ⟨rfl, g1⟩
        have H1 : Hid (TM w1 T K M cap s nv) := HM.out.gr g1
        have C1 : Hid (C2 T M w w1) := C2.gr g1
        clear g1
        go_wp2_with fail
        refine (within_mk _ _ w1).mono ?_
        rintro e w2 ⟨rfl, n2, g2⟩
        have HD := Done.wth H1.out C1.out n2 g2
        clear n2 g2
        go_wp2
        go_ret
        exact HD
      · have e58 : (bt == 58) = false := by simpa using h58
        have e59 : (bt == 59) = false := by simpa using h59
        by_cases h64 : 64 ≤ bt ∧ bt ≤ 126
        · have hE : wthT s l a bt = (obeyT s bt l a, .out) := by unfold wthT; rw [if_neg h1, if_neg h58, if_neg h59, if_pos h64]
          rw [hE]
          clear hE
          obtain ⟨h64a, h64b⟩ := h64
          have hx1 : decide (bt ≤ 57) = false := decide_eq_false (by omega)
          have hx2 : (48 : Int) ≤ bt := by omega
          go_wp2_with (refine wpList_load_mid rfl 100 _ rfl k 0 rfl (numC l (a : Int)).toList d0 HN.out.range hu hd0 hi3 ?_)
          refine (obey_any w HM.out bt l a (by omega) HL.out).mono ?_
          rintro e w1 ⟨rfl, h1', g1⟩
          have HD : Hid (TM w1 T K M cap (obeyT s bt l a) nv ∧ C2 T M w w1) := ⟨h1', g1⟩
          clear h1' g1
          go_wp2
          go_ret
          exact ⟨_, rfl, HD.out.1, rfl, HD.out.2⟩
        · have hE : wthT s l a bt = (s, .out) := by unfold wthT; rw [if_neg h1, if_neg h58, if_neg h59, if_neg h64]
          rw [hE]
          clear hE
          by_cases q1 : 48 ≤ bt
          · have hx1 : decide (bt ≤ 57) = false := decide_eq_false (by omega)
            by_cases q2 : 64 ≤ bt
            · have hx3 : decide (bt ≤ 126) = false := decide_eq_false (by omega)
              go_wp2
              go_ret
              exact ⟨_, rfl, HM.out, rfl, C2.refl T M w⟩
            · have hx3 : decide (64 ≤ bt) = false := decide_eq_false q2
              go_wp2
              go_ret
              exact ⟨_, rfl, HM.out, rfl, C2.refl T M w⟩
          · have hx1 : decide (48 ≤ bt) = false := decide_eq_false q1
            have hx3 : decide (64 ≤ bt) = false := decide_eq_false (by omega)
            go_wp2
            go_ret
            exact ⟨_, rfl, HM.out, rfl, C2.refl T M w⟩
end

end Go.Proofs.YtkdajaphbmclkaaGreatDoor

namespace Go.Proofs.YtkdajaphbmclkaaGreatDoor
open Go.RowKit Go.Sort
set_option linter.unusedVariables false

theorem conv_one (bt : UInt8) (w : World) : (convert 60 9 (.slice (some ⟨w.heap.size, 0, none⟩) 1 1)).run Tryz.prog (w.alloc (.cells #[.int .u8 (bt.toNat : Int)] 5)) = .ok (.string ⟨#[bt]⟩) (w.alloc (.cells #[.int .u8 (bt.toNat : Int)] 5)) := by
  refine run_convert_bytes_back (P := Tryz.prog) (w.alloc (.cells #[.int .u8 (bt.toNat : Int)] 5)) 60 9 5 ⟨w.heap.size, 0, none⟩ 1 [bt] Tryz.underlying60 Tryz.underlying5 Tryz.underlying9 ?_
  intro j hj
  have hj0 : j = 0 := by simp at hj; omega
  subst hj0
  have e : (⟨w.heap.size, 0, none⟩ : Addr).add 0 = ⟨w.heap.size, 0, none⟩ := by unfold Addr.add; split <;> simp_all
  rw [e, World.cell?_alloc_mark]
  simp

instance (l : List UInt8) : Decidable (full l) := by unfold full; exact inferInstance
/-- A byte that comes behind h: what is done, if it is not read anew. -/
def amT (s : Tm) (t : ByteArray) : Tm × St := if full t.data.toList then (prT s ((runes t.data.toList)[0]?.getD 0), .out) else (s, .amid t)

section
variable {T K M cap : Nat} {s : Tm} {nv : Value}
set_option maxRecDepth 100000 in
set_option maxHeartbeats 8000000 in
/-- Where the byte goes on as it must, or ends the rune. -/
theorem amid1_on (w : World) (h : TM w T K M cap s nv) (hi : Ti s) (ht : TabAt w) (hU : Utf w) (bt : UInt8) (hf : ByteArray) (hfs : hf.size ≤ 3) (k : Nat) (hk : w.heap[k]? = some (.cells #[.string hf] 9 (0, 0)))
    (hone : full (hf ++ ⟨#[bt]⟩).data.toList → (runes (hf ++ ⟨#[bt]⟩).data.toList).length = 1) :
    Calls Tryz.prog 46 #[.pointer (some ⟨T, 0, none⟩), .int .u8 (bt.toNat : Int), .pointer (some ⟨k, 0, none⟩)] w fun e w' => Done w w' e T K M cap (amT s (hf ++ ⟨#[bt]⟩)).1 nv (amT s (hf ++ ⟨#[bt]⟩)).2 := by
  have HM : Hid (TM w T K M cap s nv) := h
  have HT : Hid (TabAt w) := ht
  have HI : Hid (Ti s) := hi
  have HU : Hid (Utf w) := hU
  have ck : w.cell? ⟨k, 0, none⟩ = some (.string hf) := by simp [World.cell?, hk]
  have cv := conv_one bt w
  obtain ⟨tx, htx⟩ : ∃ z, hf ++ (⟨#[bt]⟩ : ByteArray) = z := ⟨_, rfl⟩
  have hts : tx.size ≤ 1000000 := by
    have e : (hf ++ (⟨#[bt]⟩ : ByteArray)).size = hf.size + 1 := ByteArray.size_append
    rw [← htx, e]; omega
  have HTX : Hid (hf ++ (⟨#[bt]⟩ : ByteArray) = tx) := htx
  rw [htx]
  rw [htx] at hone
  have HON : Hid (full tx.data.toList → (runes tx.data.toList).length = 1) := hone
  clear h ht hi hU hk hone
  go_enter Tryz.func46, Tryz.ntmps46
  go_wp2_with fail
  clear cv
  have G0 : Gr w (w.alloc (.cells #[.int .u8 (bt.toNat : Int)] 5)) := (Gr.refl w).alloc _
  refine (full_any tx _ (HU.out.below G0.below) hts).mono ?_
  rintro e w1 ⟨b, rfl, hb, g1⟩
  have G1 : Hid (Gr w w1) := G0.trans g1
  have HB : Hid (b = true ↔ full tx.data.toList) := hb
  clear G0 g1 hb
  cases b with
  | false =>
    have HA : Hid (amT s tx = (s, .amid tx)) := by show _ = _; unfold amT; rw [if_neg (fun q => (nomatch HB.out.2 q))]
    go_wp2_with fail
    refine (amid_mk tx w1).mono ?_
    rintro e w2 ⟨rfl, n2, g2⟩
    have HD : Done w w2 (.returned (fnV 46 #[.pointer (some ⟨w1.heap.size, 0, none⟩)])) T K M cap s nv (.amid tx) :=
      ⟨_, rfl, (HM.out.gr G1.out).gr g2, ⟨_, rfl, by have := (HM.out.gr G1.out).lt; omega, by have := (HM.out.gr G1.out).cs.cv.lt; omega, n2⟩, (C2.gr G1.out).trans (C2.gr g2)⟩
    clear n2 g2
    go_wp2
    go_ret
    rw [HA.out]
    exact HD
  | true =>
    have hfu : full tx.data.toList := HB.out.1 rfl
    have HA : Hid (amT s tx = (prT s ((runes tx.data.toList)[0]?.getD 0), .out)) := by show _ = _; unfold amT; rw [if_pos hfu]
    have hr1 := HON.out hfu
    obtain ⟨R, hR⟩ : ∃ R, runes tx.data.toList = R := ⟨_, rfl⟩
    have DC : Hid (Calls Tryz.prog 48 #[.string tx] w1 fun e w' => ∃ v, e = .returned v ∧ w'.ownsRow w1.heap.size 3 1 v R.length (R.map (Value.int .i64)) ∧ Below w1.heap.size w1 w') := by have := gDecode_any tx w1 (by omega); rw [hR] at this; exact this
    rw [hR] at hr1 HA
    obtain ⟨r, rfl⟩ : ∃ r, R = [r] := by
      match R, hr1 with
      | [r], _ => exact ⟨r, rfl⟩
    clear hr1 hR hfu HB HON
    go_wp2_with fail
    refine DC.out.mono ?_
    rintro e w2 ⟨v, rfl, hv, b2⟩
    obtain ⟨g, cp, rfl, _⟩ : ∃ g cp, v = .slice (some ⟨g, 0, none⟩) 1 cp ∧ True := by
      rcases hv.2 with ⟨_, h⟩ | ⟨g, cp, cur, e, _⟩
      · cases h
      · exact ⟨g, cp, e, trivial⟩
    have y0 : w2.cell? ⟨g, 0, none⟩ = some (.int .i64 r) := hv.cellAt 0 (by decide)
    have HM2 : Hid (TM w2 T K M cap s nv) := (HM.out.gr G1.out).below b2
    have HC2 : Hid (C2 T M w w2) := (C2.gr G1.out).trans (C2.below b2)
    have HT2 : Hid (TabAt w2) := (HT.out.below G1.out.below).below b2
    clear hv b2 DC
    go_wp2_with fail
    refine (print_any w2 HM2.out HI.out HT2.out r).mono ?_
    rintro e w3 ⟨rfl, h3, g3⟩
    have HD : Hid (TM w3 T K M cap (prT s r) nv ∧ C2 T M w w3) := ⟨h3, HC2.out.trans g3⟩
    clear h3 g3
    go_wp2
    go_ret
    rw [HA.out]
    exact ⟨_, rfl, HD.out.1, rfl, HD.out.2⟩
end

end Go.Proofs.YtkdajaphbmclkaaGreatDoor
