/-
  columnsOf, isSide, isShown.
-/
import Derived.Test.YtkdajaphbmclkaaGreatDoorDMath
import Derived.Test.YtkdajaphbmclkaaGreatDoorGClus
import Derived.Test.YtkdajaphbmclkaaGreatDoorX03
import Derived.Test.YtkdajaphbmclkaaGreatDoorX04
import Derived.Test.YtkdajaphbmclkaaGreatDoorX05
import Derived.Test.YtkdajaphbmclkaaGreatDoorGWidth
import Derived.Test.YtkdajaphbmclkaaGreatDoorTable
import Derived.Test.YtkdajaphbmclkaaGreatDoorEncNil
namespace Go.Proofs.YtkdajaphbmclkaaGreatDoor
open Go.RowKit Go.Sort
set_option linter.unusedVariables false

def colI (p : Int) : Int := if p = 0 then 1 else if p = 1 then 2 else 0
set_option maxRecDepth 100000 in
theorem columnsOf_any (p : Int) (w : World) : Calls Tryz.prog 50 #[.int .i64 p] w fun e w' => e = .returned (.int .i64 (colI p)) ∧ w' = w := by
  go_enter Tryz.func50, Tryz.ntmps50
  by_cases h0 : p = 0
  · subst h0
    go_wp2
    go_ret
    exact ⟨rfl, rfl⟩
  · have e0 : (p == 0) = false := by simpa using h0
    by_cases h1 : p = 1
    · subst h1
      go_wp2
      go_ret
      exact ⟨rfl, rfl⟩
    · have e1 : (p == 1) = false := by simpa using h1
      go_wp2
      go_ret
      exact ⟨by unfold colI; rw [if_neg h0, if_neg h1]; rfl, rfl⟩

set_option maxRecDepth 100000 in
theorem dSide_any (n : Int) (w : World) : Calls Tryz.prog 32 #[.int .i64 n] w fun e w' => e = .returned (.bool (decide (1 ≤ n ∧ n ≤ 400))) ∧ w' = w := by
  go_enter Tryz.func32, Tryz.ntmps32
  by_cases h1 : 1 ≤ n
  · by_cases h2 : n ≤ 400
    · rw [decide_eq_true ⟨h1, h2⟩]
      go_wp2
      go_ret
      exact ⟨rfl, rfl⟩
    · rw [decide_eq_false (fun q => h2 q.2)]
      go_wp2
      go_ret
      exact ⟨rfl, rfl⟩
  · rw [decide_eq_false (fun q => h1 q.1)]
    go_wp2
    go_ret
    exact ⟨rfl, rfl⟩

theorem own_slice {W : World} {B n size : Nat} {e : TypeId} {v : Value} {xs : List Value} (h : W.ownsRow B e size v n xs) : ∃ p c, v = .slice p n c := by
  rcases h.2 with ⟨rfl, rfl⟩ | ⟨g, cap, cur, rfl, _⟩
  · exact ⟨_, _, rfl⟩
  · exact ⟨_, _, rfl⟩
theorem str_ne {a b : ByteArray} (h : ¬ a = b) : (a.toList == b.toList) = false := by
  rw [beq_eq_false_iff_ne]
  intro e
  rw [ByteArray.toList_eq, ByteArray.toList_eq] at e
  exact h (ByteArray.ext (Array.toList_inj.1 e))

/-- The first place of a text in a list; -1: nowhere. -/
def findF : List ByteArray → ByteArray → Nat → Int
  | [], _, _ => -1
  | a :: r, x, k => if a = x then (k : Int) else findF r x (k + 1)
def K0 (ct : List UInt8) (t : ByteArray) : Prop := ¬ (⟨ct.toArray⟩ : ByteArray) = t
/-- What is answered tells P. -/
def Tells (w w' : World) (r : Ending) (P : Prop) : Prop := ∃ b : Bool, r = .returned (.bool b) ∧ (b = true ↔ P) ∧ Below w.heap.size w w'
set_option maxRecDepth 100000 in
set_option maxHeartbeats 8000000 in
theorem isShown_any (e : Ce) (n : Int) (w : World) (ht : TabAt w) (hs : e.t.size ≤ 1099511627776) :
    Calls Tryz.prog 51 #[cev e, .int .i64 n] w fun r w' => Tells w w' r (n ≠ 0 ∧ Sty e ∧ Txt e n) := by
  have hmix : Tryz.prog.follows .mixedOrders = true := by kernel_rfl
  have HT : Hid (TabAt w) := ht
  obtain ⟨t, f, g, b, p⟩ := e
  have OV : Hid (∀ w, Calls Tryz.prog 68 #[sv 0 0 0, sv f g b] w fun e w' => e = .returned (sv (kn f) (kn g) (bo b)) ∧ Gr w w') := fun w => by
    have := over_any 0 0 0 f g b w
    rw [ov_zero, ov_zero, obo_zero] at this
    exact this
  clear ht
  unfold cev
  unfold sv at OV
  go_enter Tryz.func51, Tryz.ntmps51
  go_wp2_with fail
  obtain ⟨S, hS⟩ : ∃ z, w.heap.size = z := ⟨_, rfl⟩
  obtain ⟨W0, hW0⟩ : ∃ z, w.alloc (.cells #[.string t, .int .i64 f, .int .i64 g, .int .i64 b, .int .i64 p] 71) = z := ⟨_, rfl⟩
  have G0 : Hid (Gr w W0) := by rw [← hW0]; exact (Gr.refl w).alloc _
  have R0 : Hid (R5 71 W0 S ⟨t, f, g, b, p⟩) := by rw [← hW0, ← hS]; exact R5.new w ⟨t, f, g, b, p⟩ _
  rw [hW0, hS]
  have HS : Hid (w.heap.size = S) := hS
  clear hW0 hS
  have q0 := cell_grown R0.out.lt R0.out.c0
  have q1 := cell_grown R0.out.lt R0.out.c1
  have q2 := cell_grown R0.out.lt R0.out.c2
  have q3 := cell_grown R0.out.lt R0.out.c3
  by_cases h0 : n = 0
  · subst h0
    go_quiet_grown (first | (go_at_call 68; exact Calls.grown_of (OV.out _)))
    go_wp2
    go_ret
    exact ⟨false, rfl, by simp, (G0.out.trans ⟨nq, osq, rfl⟩).below⟩
  · have e0 : (n == 0) = false := by simpa using h0
    obtain ⟨f2, hf2⟩ : ∃ z, kn f = z := ⟨_, rfl⟩
    obtain ⟨g2, hg2⟩ : ∃ z, kn g = z := ⟨_, rfl⟩
    obtain ⟨b2, hb2⟩ : ∃ z, bo b = z := ⟨_, rfl⟩
    rw [hf2, hg2, hb2] at OV
    by_cases h1 : f2 = f
    · by_cases h2 : g2 = g
      · by_cases h3 : b2 = b
        · subst h1 h2 h3
          have HST : Hid (Sty ⟨t, f2, g2, b2, p⟩) := ⟨hf2, hg2, hb2⟩
          go_quiet_grown (first | (go_at_call 68; exact Calls.grown_of (OV.out _)))
          have G1 : Hid (Gr w (grow (W0.drewN nq) osq)) := G0.out.trans ⟨nq, osq, rfl⟩
          have R1 : Hid (R5 71 (grow (W0.drewN nq) osq) S ⟨t, f2, g2, b2, p⟩) := R0.out.gr ⟨nq, osq, rfl⟩
          obtain ⟨W1, hW1⟩ : ∃ z, grow (W0.drewN nq) osq = z := ⟨_, rfl⟩
          rw [hW1] at G1 R1
          rw [hW1]
          have c0 := R1.out.c0
          have CG : Hid (Calls Tryz.prog 69 #[.string t] W1 fun e w' => ∃ v, e = .returned v ∧ w'.ownsRow W1.heap.size 51 2 v (clus (runes t.data.toList)).length (cCells (clus (runes t.data.toList))) ∧ Below W1.heap.size W1 w') := gClusters_any t W1 (HT.out.below G1.out.below) hs
          obtain ⟨K, hK⟩ : ∃ K, clus (runes t.data.toList) = K := ⟨_, rfl⟩
          have HTX : Hid (Txt ⟨t, f2, g2, b2, p⟩ n ↔ K = [(t.data.toList, n)]) := by show _ ↔ _; unfold Txt; rw [hK]
          rw [hK] at CG
          clear q0 q1 q2 q3 hW1 hK hf2 hg2 hb2 OV
          go_wp2_with fail
          refine CG.out.mono ?_
          rintro e w2 ⟨v, rfl, hv, b2'⟩
          have HBL : Hid (Below w.heap.size w w2) := G1.out.below.trans (b2'.mono G1.out.below.size)
          have R2 : Hid (R5 71 w2 S ⟨t, f2, g2, b2, p⟩) := (b2'.block _ R1.out.lt).trans R1.out
          have z0 := cell_grown R2.out.lt R2.out.c0
          clear b2' CG c0
          obtain ⟨m, hm⟩ : ∃ m, K.length = m := ⟨_, rfl⟩
          by_cases h1m : m = 1
          · have hK1 : ∃ ct cw, K = [(ct, cw)] := by
              rcases K with _ | ⟨⟨ct, cw⟩, _ | ⟨c2, K⟩⟩
              · simp at hm; omega
              · exact ⟨ct, cw, rfl⟩
              · simp at hm; omega
            obtain ⟨ct, cw, rfl⟩ := hK1
            clear hm h1m
            obtain ⟨g1, c1, rfl, _⟩ : ∃ g1 c1, v = .slice (some ⟨g1, 0, none⟩) 1 c1 ∧ True := by
              rcases hv.2 with ⟨_, h⟩ | ⟨g1, c1, cur, e, _⟩
              · cases h
              · exact ⟨g1, c1, e, trivial⟩
            have y0 : w2.cell? ⟨g1, 0, none⟩ = some (.string ⟨ct.toArray⟩) := hv.cellAt 0 (by decide)
            have y1 : w2.cell? ⟨g1, 1, none⟩ = some (.int .i64 cw) := hv.cellAt 1 (by decide)
            have gl := (hv.lt g1 rfl).2
            clear hv
            by_cases hct : (⟨ct.toArray⟩ : ByteArray) = t
            · have HCE : Hid (ct = t.data.toList) := by show _ = _; rw [← hct]
              rw [hct] at y0
              have y0 := cell_grown gl y0
              have y1 := cell_grown gl y1
              clear hct
              by_cases hcw : cw = n
              · subst hcw
                go_wp2_with fail
                go_quiet_grown (fail)
                go_wp2
                go_ret
                exact ⟨true, rfl, ⟨fun _ => ⟨h0, HST.out, HTX.out.2 (by rw [HCE.out])⟩, fun _ => rfl⟩, (HBL.out.trans ((Gr.below ⟨nq, osq, rfl⟩).mono HBL.out.size))⟩
              · have e5 : (cw == n) = false := by simpa using hcw
                go_wp2_with fail
                go_quiet_grown (fail)
                go_wp2
                go_ret
                exact ⟨false, rfl, ⟨fun h => (nomatch h), fun h => by have := HTX.out.1 h.2.2; injection this with this; injection this with _ this; exact absurd this hcw⟩, (HBL.out.trans ((Gr.below ⟨nq, osq, rfl⟩).mono HBL.out.size))⟩
            · have HCT : Hid (K0 ct t) := hct
              obtain ⟨cb, hcb⟩ : ∃ z, (⟨ct.toArray⟩ : ByteArray) = z := ⟨_, rfl⟩
              rw [hcb] at hct y0
              have e5 : (cb.toList == t.toList) = false := str_ne hct
              have y0 := cell_grown gl y0
              have y1 := cell_grown gl y1
              clear hcb
              go_wp2_with fail
              go_quiet_grown (fail)
              go_wp2
              go_ret
              exact ⟨false, rfl, ⟨fun h => (nomatch h), fun h => by have := HTX.out.1 h.2.2; injection this with this; injection this with this _; exact absurd (by rw [this]) HCT.out⟩, (HBL.out.trans ((Gr.below ⟨nq, osq, rfl⟩).mono HBL.out.size))⟩
          · obtain ⟨p1, c1, rfl⟩ : ∃ p c, v = .slice p m c := by rw [← hm]; exact own_slice hv
            have HNK : Hid (∀ x, K ≠ [x]) := fun x hx => h1m (by rw [← hm, hx]; rfl)
            have e5 : ((m : Int) == 1) = false := by simp; omega
            clear hv hm
            clear z0
            go_wp2_with fail
            go_quiet (fail)
            go_wp2
            go_ret
            exact ⟨false, rfl, ⟨fun h => (nomatch h), fun h => absurd (HTX.out.1 h.2.2) (HNK.out _)⟩, HBL.out.trans ((Gr.below ((Gr.refl _).drewN _)).mono HBL.out.size)⟩
        · have e3 : (b2 == b) = false := by simpa using h3
          subst h1 h2
          go_quiet_grown (first | (go_at_call 68; exact Calls.grown_of (OV.out _)))
          go_wp2
          go_ret
          exact ⟨false, rfl, ⟨fun h => (nomatch h), fun h => by exfalso; first | exact h3 (hb2.symm.trans h.2.1.2.2) | exact h3 (hb2.symm.trans h.1.2.2)⟩, (G0.out.trans ⟨nq, osq, rfl⟩).below⟩
      · have e3 : (g2 == g) = false := by simpa using h2
        subst h1
        go_quiet_grown (first | (go_at_call 68; exact Calls.grown_of (OV.out _)))
        go_wp2
        go_ret
        exact ⟨false, rfl, ⟨fun h => (nomatch h), fun h => by exfalso; first | exact h2 (hg2.symm.trans h.2.1.2.1) | exact h2 (hg2.symm.trans h.1.2.1)⟩, (G0.out.trans ⟨nq, osq, rfl⟩).below⟩
    · have e3 : (f2 == f) = false := by simpa using h1
      go_quiet_grown (first | (go_at_call 68; exact Calls.grown_of (OV.out _)))
      go_wp2
      go_ret
      exact ⟨false, rfl, ⟨fun h => (nomatch h), fun h => by exfalso; first | exact h1 (hf2.symm.trans h.2.1.1) | exact h1 (hf2.symm.trans h.1.1)⟩, (G0.out.trans ⟨nq, osq, rfl⟩).below⟩

end Go.Proofs.YtkdajaphbmclkaaGreatDoor

namespace Go.Proofs.YtkdajaphbmclkaaGreatDoor
open Go.RowKit Go.Sort
set_option linter.unusedVariables false

/-- What holds of a terminal at all times. -/
structure Ti (s : Tm) : Prop where
  x0 : 0 ≤ s.r.x
  x1 : s.r.x ≤ s.W
  y0 : 0 ≤ s.r.y
  y1 : s.r.y < s.H
  m0 : 0 ≤ s.r.lm
  m1 : s.r.lm ≤ 4
  ts : (s.r.lt.size : Int) ≤ 4 + 4 * s.r.lm
def markT (s : Tm) (mk : ByteArray) : Tm := if s.r.lw = 0 ∨ s.r.lm = 4 then s else putL { s with r := { s.r with lm := s.r.lm + 1, lt := s.r.lt ++ mk } }
def prT (s : Tm) (r : Int) : Tm :=
  if wid r = 0 then markT s ⟨(enc [r]).toArray⟩
  else if s.r.x + wid r > s.W then { s with r := clr s.r }
  else
    { putL { s with r := { clr s.r with lx := s.r.x, ly := s.r.y, lt := ⟨(enc [r]).toArray⟩, lw := wid r } } with r := { clr s.r with lx := s.r.x, ly := s.r.y, lt := ⟨(enc [r]).toArray⟩, lw := wid r, x := s.r.x + wid r } }

section
variable {T K M cap : Nat} {s : Tm} {nv : Value}
set_option maxRecDepth 100000 in
set_option maxHeartbeats 2000000 in
theorem printMark_any (w : World) (h : TM w T K M cap s nv) (hi : Ti s) (mk : ByteArray) (hm : mk.size ≤ 4) : Calls Tryz.prog 65 #[.pointer (some ⟨T, 0, none⟩), .string mk] w fun e w' => e = .returned (.tuple #[]) ∧ TM w' T K M cap (markT s mk) nv ∧ C2 T M w w' := by
  have c8 : w.cell? ⟨T, 8, none⟩ = some (.string s.r.lt) := h.at rfl
  have c9 : w.cell? ⟨T, 9, none⟩ = some (.int .i64 s.r.lw) := h.at rfl
  have c10 : w.cell? ⟨T, 10, none⟩ = some (.int .i64 s.r.lm) := h.at rfl
  have fz := h.fz
  have HM : Hid (TM w T K M cap s nv) := h
  have hts := hi.ts
  have hm0 := hi.m0
  have hm1 := hi.m1
  clear h hi
  obtain ⟨lw, hlw⟩ : ∃ z, s.r.lw = z := ⟨_, rfl⟩
  obtain ⟨lm, hlm⟩ : ∃ z, s.r.lm = z := ⟨_, rfl⟩
  obtain ⟨lt, hlt⟩ : ∃ z, s.r.lt = z := ⟨_, rfl⟩
  have HLW : Hid (s.r.lw = lw) := hlw
  have HLM : Hid (s.r.lm = lm) := hlm
  have HLT : Hid (s.r.lt = lt) := hlt
  rw [hlw] at c9
  rw [hlm] at c10 hts hm0 hm1
  rw [hlt] at c8 hts
  clear hlw hlm hlt
  go_enter Tryz.func65, Tryz.ntmps65
  by_cases h0 : lw = 0
  · have HE : Hid (markT s mk = s) := by show _ = _; unfold markT; rw [if_pos (.inl (HLW.out.trans h0))]
    subst h0
    go_wp2
    refine bodyPost_ret (v := .tuple #[]) (by simp [results, Tryz.results65, go_sem]) rfl ?_
    rw [HE.out]
    exact ⟨rfl, HM.out, C2.refl _ _ _⟩
  · have e0 : (lw == 0) = false := by simpa using h0
    by_cases h4 : lm = 4
    · have HE : Hid (markT s mk = s) := by show _ = _; unfold markT; rw [if_pos (.inr (HLM.out.trans h4))]
      subst h4
      go_wp2
      refine bodyPost_ret (v := .tuple #[]) (by simp [results, Tryz.results65, go_sem]) rfl ?_
      rw [HE.out]
      exact ⟨rfl, HM.out, C2.refl _ _ _⟩
    · have e4 : (lm == 4) = false := by simpa using h4
      have HE : Hid (markT s mk = putL { s with r := { s.r with lm := s.r.lm + 1, lt := s.r.lt ++ mk } }) := by show _ = _; unfold markT; rw [if_neg (by rw [HLW.out, HLM.out]; omega)]
      have H1 : Hid (TM ((w.setCell ⟨T, 10, none⟩ (.int .i64 (lm + 1))).setCell ⟨T, 8, none⟩ (.string (lt ++ mk))) T K M cap { s with r := { s.r with lm := s.r.lm + 1, lt := s.r.lt ++ mk } } nv) := by
        have h1 := HM.out.set 10 (.int .i64 (lm + 1)) { s.r with lm := s.r.lm + 1 } nv (by rw [HLM.out]; rfl)
        exact h1.set 8 (.string (lt ++ mk)) { s.r with lm := s.r.lm + 1, lt := s.r.lt ++ mk } nv (by rw [HLT.out]; rfl)
      have HC1 : Hid (C2 T M w ((w.setCell ⟨T, 10, none⟩ (.int .i64 (lm + 1))).setCell ⟨T, 8, none⟩ (.string (lt ++ mk)))) := ((C2.refl T M w).set _ _).set _ _
      go_wp2_with fail
      refine (putLast_any _ H1.out).mono ?_
      rintro e w1 ⟨rfl, h1, g1⟩
      have H2 : Hid (TM w1 T K M cap (markT s mk) nv ∧ C2 T M w w1) := by show _ ∧ _; rw [HE.out]; exact ⟨h1, HC1.out.trans g1⟩
      clear h1 g1
      go_wp2
      go_end0
      exact ⟨rfl, H2.out.1, H2.out.2⟩

theorem enc_one_size (r : Int) : (⟨(enc [r]).toArray⟩ : ByteArray).size ≤ 4 := by
  have h := enc_le [r]
  have e : (⟨(enc [r]).toArray⟩ : ByteArray).size = (enc [r]).length := by show (enc [r]).toArray.size = _; simp
  rw [e]
  simpa using h
theorem wid_cases (r : Int) : wid r = 0 ∨ wid r = 1 ∨ wid r = 2 := by
  have := wid_bd r
  omega
/-- A block of a text and a number. -/
def R2c (T : TypeId) (Q : World) (b : Nat) (t : ByteArray) (n : Int) : Prop := Q.heap[b]? = some (.cells #[.string t, .int .i64 n] T (0, 0))
theorem R2c.lt {T : TypeId} {Q : World} {b : Nat} {t : ByteArray} {n : Int} (h : R2c T Q b t n) : b < Q.heap.size := (Array.getElem?_eq_some_iff.1 h).1
theorem R2c.c0 {T : TypeId} {Q : World} {b : Nat} {t : ByteArray} {n : Int} (h : R2c T Q b t n) : Q.cell? ⟨b, 0, none⟩ = some (.string t) := by unfold R2c at h; simp [World.cell?, h]
theorem R2c.c1 {T : TypeId} {Q : World} {b : Nat} {t : ByteArray} {n : Int} (h : R2c T Q b t n) : Q.cell? ⟨b, 1, none⟩ = some (.int .i64 n) := by unfold R2c at h; simp [World.cell?, h]
theorem R2c.c2 {T : TypeId} {Q Q' : World} {b X M : Nat} {t : ByteArray} {n : Int} (h : R2c T Q b t n) (g : C2 X M Q Q') (h1 : b ≠ X) (h2 : b ≠ M) : R2c T Q' b t n := (g.block b h.lt h1 h2).trans h

set_option maxRecDepth 100000 in
set_option maxHeartbeats 8000000 in
theorem print_any (w : World) (h : TM w T K M cap s nv) (hi : Ti s) (ht : TabAt w) (r : Int) : Calls Tryz.prog 49 #[.pointer (some ⟨T, 0, none⟩), .int .i64 r] w fun e w' => e = .returned (.tuple #[]) ∧ TM w' T K M cap (prT s r) nv ∧ C2 T M w w' := by
  have hmix : Tryz.prog.follows .mixedOrders = true := by kernel_rfl
  have HM : Hid (TM w T K M cap s nv) := h
  have HT : Hid (TabAt w) := ht
  have HI : Hid (Ti s) := hi
  have hx0 := hi.x0
  have hx1 := hi.x1
  have hWb := h.hW.2
  clear h hi ht
  obtain ⟨tx, htx⟩ : ∃ z, (⟨(enc [r]).toArray⟩ : ByteArray) = z := ⟨_, rfl⟩
  obtain ⟨wd, hwd⟩ : ∃ z, wid r = z := ⟨_, rfl⟩
  have HPR : Hid (prT s r = if wd = 0 then markT s tx else if s.r.x + wd > s.W then { s with r := clr s.r } else { putL { s with r := { clr s.r with lx := s.r.x, ly := s.r.y, lt := tx, lw := wd } } with r := { clr s.r with lx := s.r.x, ly := s.r.y, lt := tx, lw := wd, x := s.r.x + wd } }) := by show _ = _; unfold prT; rw [htx, hwd]
  have hts : tx.size ≤ 4 := by rw [← htx]; exact enc_one_size r
  have hwc : wd = 0 ∨ wd = 1 ∨ wd = 2 := by rw [← hwd]; exact wid_cases r
  have EN : Hid (∀ v w, Ints w v [r] → Calls Tryz.prog 63 #[v] w fun e w' => e = .returned (.string tx) ∧ Below w.heap.size w w') := fun v w hv => by have := gEncode_all [r] v w hv (by simp); rw [htx] at this; exact this
  have WI : Hid (∀ w, TabAt w → Calls Tryz.prog 64 #[.int .i64 r] w fun e w' => e = .returned (.int .i64 wd) ∧ w' = w) := fun w ht => by have := gWidth_any r w ht; rw [hwd] at this; exact this
  clear htx hwd
  go_enter Tryz.func49, Tryz.ntmps49
  go_wp2_with fail
  have hin : Ints (w.alloc (.cells #[.int .i64 r] 3)) (.slice (some ⟨w.heap.size, 0, none⟩) 1 1) [r] := ⟨some ⟨w.heap.size, 0, none⟩, 1, rfl, .inr ⟨w.heap.size, 0, rfl, by simp, fun j hj => by
    obtain rfl : j = 0 := by simp at hj; omega
    rw [World.cell?_alloc_at _ _ _ _ rfl]; rfl⟩⟩
  refine (EN.out _ _ hin).mono ?_
  rintro e w1 ⟨rfl, b1⟩
  have HB1 : Hid (Below w.heap.size w w1) := ((Gr.refl w).alloc (.cells #[.int .i64 r] 3)).below.trans (b1.mono (by simp))
  clear b1 hin
  go_wp2_with fail
  refine (WI.out _ (HT.out.below HB1.out)).mono ?_
  rintro e w2 ⟨rfl, hw⟩
  obtain rfl := hw.symm
  by_cases h0 : wd = 0
  · subst h0
    have H1 : Hid (TM (w1.alloc (.cells #[.string tx, .int .i64 0] 51)) T K M cap s nv) := (HM.out.below HB1.out).gr ((Gr.refl _).alloc _)
    have HC1 : Hid (C2 T M w (w1.alloc (.cells #[.string tx, .int .i64 0] 51))) := (C2.below HB1.out).trans (C2.gr ((Gr.refl _).alloc _))
    have HPE : Hid (prT s r = markT s tx) := by show _ = _; rw [HPR.out, if_pos rfl]
    go_wp2_with fail
    refine (printMark_any _ H1.out HI.out tx hts).mono ?_
    rintro e w3 ⟨rfl, h3, g3⟩
    have H3 : Hid (TM w3 T K M cap (prT s r) nv ∧ C2 T M w w3) := by show _ ∧ _; rw [HPE.out]; exact ⟨h3, HC1.out.trans g3⟩
    clear h3 g3
    go_wp2
    refine bodyPost_ret (v := .tuple #[]) (by simp [results, Tryz.results49, go_sem]) rfl ?_
    exact ⟨rfl, H3.out.1, H3.out.2⟩
  · have e0 : (wd == 0) = false := by simpa using h0
    go_wp2_with fail
    obtain ⟨S, hS⟩ : ∃ z, w1.heap.size = z := ⟨_, rfl⟩
    obtain ⟨W2, hW2⟩ : ∃ z, w1.alloc (.cells #[.string tx, .int .i64 wd] 51) = z := ⟨_, rfl⟩
    have H1 : Hid (TM W2 T K M cap s nv) := by rw [← hW2]; exact (HM.out.below HB1.out).gr ((Gr.refl _).alloc _)
    have HC1 : Hid (C2 T M w W2) := by rw [← hW2]; exact (C2.below HB1.out).trans (C2.gr ((Gr.refl _).alloc _))
    have R1 : Hid (R2c 51 W2 S tx wd) := by rw [← hW2, ← hS]; exact heap_alloc_new _ _
    have hST : S ≠ T := by have h1 := HM.out.lt; have h2 := HB1.out.size; omega
    have hSM : S ≠ M := by have h1 := HM.out.cs.cv.lt; have h2 := HB1.out.size; omega
    have HPE : Hid (prT s r = if s.r.x + wd > s.W then { s with r := clr s.r } else { putL { s with r := { clr s.r with lx := s.r.x, ly := s.r.y, lt := tx, lw := wd } } with r := { clr s.r with lx := s.r.x, ly := s.r.y, lt := tx, lw := wd, x := s.r.x + wd } }) := by show _ = _; rw [HPR.out, if_neg h0]
    rw [hW2, hS]
    clear hW2 hS
    refine (forget_any _ H1.out).mono ?_
    rintro e w3 ⟨rfl, h3, g3⟩
    have H3 : Hid (TM w3 T K M cap { s with r := clr s.r } nv) := h3
    have HC3 : Hid (C2 T M w w3) := HC1.out.trans g3
    have R3' : Hid (R2c 51 w3 S tx wd) := R1.out.c2 g3 hST hSM
    clear h3 g3 R1 H1 HC1
    go_wp2_with fail
    refine (tsize_any _ H3.out).mono ?_
    rintro e w4 ⟨rfl, g4⟩
    have H4 : Hid (TM w4 T K M cap { s with r := clr s.r } nv) := H3.out.gr g4
    have HC4 : Hid (C2 T M w w4) := HC3.out.trans (C2.gr g4)
    have R4' : Hid (R2c 51 w4 S tx wd) := R3'.out.c2 (C2.gr (T := T) (M := M) g4) hST hSM
    clear g4 R3' H3 HC3
    have c1 : w4.cell? ⟨T, 1, none⟩ = some (.int .i64 s.r.x) := H4.out.at rfl
    have c2 : w4.cell? ⟨T, 2, none⟩ = some (.int .i64 s.r.y) := H4.out.at rfl
    have d0 := R4'.out.c0
    have d1 := R4'.out.c1
    obtain ⟨x, hx⟩ : ∃ z, s.r.x = z := ⟨_, rfl⟩
    obtain ⟨y, hy⟩ : ∃ z, s.r.y = z := ⟨_, rfl⟩
    have HX : Hid (s.r.x = x) := hx
    have HY : Hid (s.r.y = y) := hy
    rw [hx] at c1 hx0 hx1
    rw [hy] at c2
    clear hx hy
    by_cases hf : (s.W : Int) < x + wd
    · have hf' : decide ((s.W : Int) < x + wd) = true := decide_eq_true hf
      have HPF : Hid (prT s r = { s with r := clr s.r }) := by show _ = _; rw [HPE.out, if_pos (by rw [HX.out]; exact hf)]
      go_wp2_with fail
      go_quiet (fail)
      go_wp2
      refine bodyPost_ret (v := .tuple #[]) (by simp [results, Tryz.results49, go_sem]) rfl ?_
      rw [HPF.out]
      exact ⟨rfl, H4.out.gr ((Gr.refl _).drewN _), HC4.out.trans (C2.gr ((Gr.refl _).drewN _))⟩
    · have hf' : decide ((s.W : Int) < x + wd) = false := decide_eq_false hf
      have HPF : Hid (prT s r = { putL { s with r := { clr s.r with lx := s.r.x, ly := s.r.y, lt := tx, lw := wd } } with r := { clr s.r with lx := s.r.x, ly := s.r.y, lt := tx, lw := wd, x := s.r.x + wd } }) := by show _ = _; rw [HPE.out, if_neg (by rw [HX.out]; exact hf)]
      go_wp2_with fail
      go_quiet (fail)
      go_wp2_with fail
      obtain ⟨W5, hW5⟩ : ∃ z, w4.drewN nq = z := ⟨_, rfl⟩
      have H5 : Hid (TM W5 T K M cap { s with r := clr s.r } nv) := by rw [← hW5]; exact H4.out.gr ((Gr.refl _).drewN _)
      have HC5 : Hid (C2 T M w W5) := by rw [← hW5]; exact HC4.out.trans (C2.gr ((Gr.refl _).drewN _))
      have R5' : Hid (R2c 51 W5 S tx wd) := by rw [← hW5]; exact R4'.out.c2 (C2.gr (T := T) (M := M) ((Gr.refl _).drewN _)) hST hSM
      rw [hW5]
      clear hW5 c1 c2 d0 d1 R4' H4 HC4
      have c1 : W5.cell? ⟨T, 1, none⟩ = some (.int .i64 x) := by rw [← HX.out]; exact H5.out.at rfl
      have c2 : W5.cell? ⟨T, 2, none⟩ = some (.int .i64 y) := by rw [← HY.out]; exact H5.out.at rfl
      have c6 : W5.cell? ⟨T, 6, none⟩ = some (.int .i64 0) := H5.out.at rfl
      have c7 : W5.cell? ⟨T, 7, none⟩ = some (.int .i64 0) := H5.out.at rfl
      have c8 : W5.cell? ⟨T, 8, none⟩ = some (.string ⟨#[]⟩) := H5.out.at rfl
      have c9 : W5.cell? ⟨T, 9, none⟩ = some (.int .i64 0) := H5.out.at rfl
      have c10 : W5.cell? ⟨T, 10, none⟩ = some (.int .i64 0) := H5.out.at rfl
      have fz := H5.out.fz
      have d0 := R5'.out.c0
      have d1 := R5'.out.c1
      go_region
      go_wp2_with fail
      obtain ⟨W6, hW6⟩ : ∃ z, (((((W5.setCell ⟨T, 6, none⟩ (.int .i64 x)).setCell ⟨T, 7, none⟩ (.int .i64 y)).setCell ⟨T, 8, none⟩ (.string tx)).setCell ⟨T, 9, none⟩ (.int .i64 wd)).setCell ⟨T, 10, none⟩ (.int .i64 0)).drew = z := ⟨_, rfl⟩
      have H6 : Hid (TM W6 T K M cap { s with r := { clr s.r with lx := s.r.x, ly := s.r.y, lt := tx, lw := wd } } nv) := by
        rw [← hW6]
        have h1 := H5.out.set 6 (.int .i64 x) { clr s.r with lx := x } nv rfl
        have h2 := h1.set 7 (.int .i64 y) { clr s.r with lx := x, ly := y } nv rfl
        have h3 := h2.set 8 (.string tx) { clr s.r with lx := x, ly := y, lt := tx } nv rfl
        have h4 := h3.set 9 (.int .i64 wd) { clr s.r with lx := x, ly := y, lt := tx, lw := wd } nv rfl
        have h5 := h4.set 10 (.int .i64 0) { clr s.r with lx := x, ly := y, lt := tx, lw := wd } nv rfl
        rw [HX.out, HY.out]
        exact h5.gr (Gr.refl _).drew
      have HC6 : Hid (C2 T M w W6) := by
        rw [← hW6]
        exact (((((HC5.out.set _ _).set _ _).set _ _).set _ _).set _ _).trans (C2.gr (Gr.refl _).drew)
      have R6 : Hid (R2c 51 W6 S tx wd) := by
        rw [← hW6]
        exact R5'.out.c2 ((((((C2.refl T M W5).set _ _).set _ _).set _ _).set _ _).set _ _ |>.trans (C2.gr (Gr.refl _).drew)) hST hSM
      rw [hW6]
      clear hW6 c1 c2 c6 c7 c8 c9 c10 fz d0 d1 R5' H5 HC5
      refine (putLast_any _ H6.out).mono ?_
      rintro e w7 ⟨rfl, h7, g7⟩
      have H7 : Hid (TM w7 T K M cap (putL { s with r := { clr s.r with lx := s.r.x, ly := s.r.y, lt := tx, lw := wd } }) nv) := h7
      have HC7 : Hid (C2 T M w w7) := HC6.out.trans g7
      have R7 : Hid (R2c 51 w7 S tx wd) := R6.out.c2 g7 hST hSM
      clear h7 g7 H6 HC6 R6
      have c1 : w7.cell? ⟨T, 1, none⟩ = some (.int .i64 x) := by rw [← HX.out]; exact H7.out.at rfl
      have fz := H7.out.fz
      have d1 := R7.out.c1
      go_wp2_with fail
      go_region
      have H8 : Hid (TM ((w7.setCell ⟨T, 1, none⟩ (.int .i64 (x + wd))).drew) T K M cap (prT s r) nv) := by
        have h1 := H7.out.set 1 (.int .i64 (x + wd)) { clr s.r with lx := s.r.x, ly := s.r.y, lt := tx, lw := wd, x := s.r.x + wd } nv (by rw [HX.out]; rfl)
        show TM _ _ _ _ _ _ _
        rw [HPF.out]
        exact h1.gr (Gr.refl _).drew
      have HC8 : Hid (C2 T M w ((w7.setCell ⟨T, 1, none⟩ (.int .i64 (x + wd))).drew)) := (HC7.out.set _ _).trans (C2.gr (Gr.refl _).drew)
      go_wp2
      go_end0
      exact ⟨rfl, H8.out, HC8.out⟩
end

end Go.Proofs.YtkdajaphbmclkaaGreatDoor
