/-
  The program's reader: readList, given what readNode does.
-/
import Derived.Test.YtepeepipgkejiadGreatDoorTPg
import Derived.Test.YtepeepipgkejiadGreatDoorTKind
import Derived.Test.YtepeepipgkejiadGreatDoorTStw
namespace Go.Proofs.YtepeepipgkejiadGreatDoor
open Go.RowKit
set_option linter.unusedVariables false

/-- The names of the kinds. -/
def Kn (W : World) : Prop := ∀ j, j < 7 → W.cell? ⟨6, j, none⟩ = some (.string (kindsL[j]?.getD ByteArray.empty))
theorem Kn.fr {W W' : World} {B r : Nat} (h : Kn W) (f : Fr B r W W') (hB : r < B) (hr : 12 ≤ r) : Kn W' := fun j hj => f.cell (h j hj) (by show 6 < B; omega) (by show 6 ≠ r; omega)
/-- A state in memory. -/
def Mem (W0 W : World) (rb ab B : Nat) (E : Nat → Addr) (s : ByteArray) (st : PS) : Prop := Env W rb ab B E ∧ Kn W ∧ Good s st ∧ Fr B rb W0 W ∧ ∃ nv KV, PR W rb s st.i (.slice (some ⟨ab, 0, none⟩) 12 12) nv (fltV E st.er) ∧ PN W B nv st.L KV
/-- What a part of the reader leaves. -/
def NdOut (w w' : World) (e : Ending) (rb ab B : Nat) (E : Nat → Addr) (s : ByteArray) (r : Except Nat PS) : Prop := match r with
  | .error b => e = .panicked [{ v := faultV (b : Int) (errV (E 2)), recovered := false }] ∧ Fr B rb w w'
  | .ok st => e = .returned (.tuple #[]) ∧ Mem w w' rb ab B E s st
def NodeC (rb ab B : Nat) (E : Nat → Addr) (s : ByteArray) (f : Nat) : Prop := ∀ (up : Int) (depth : Nat) (st : PS) (w0 w : World), Mem w0 w rb ab B E s st → (up = -1 ∨ (0 ≤ up ∧ up < st.L.length)) → depth ≤ st.i → s.size < f + st.i →
  Calls Tryz.prog 29 #[.pointer (some ⟨rb, 0, none⟩), .int .i64 up, .int .i64 (depth : Int)] w fun e w' => NdOut w0 w' e rb ab B E s (pNodeF s f up depth st)
theorem Mem.grown {W0 W W' : World} {rb ab B : Nat} {E : Nat → Addr} {s : ByteArray} {st : PS} {i : Nat} (h : Mem W0 W rb ab B E s st) (g : W.grownBy W' (some rb)) (hg : Good s { st with i := i }) (hp : ∀ nv KV, PR W rb s st.i (.slice (some ⟨ab, 0, none⟩) 12 12) nv (fltV E st.er) → PN W B nv st.L KV → PR W' rb s i (.slice (some ⟨ab, 0, none⟩) 12 12) nv (fltV E st.er)) : Mem W0 W' rb ab B E s { st with i := i } := by
  obtain ⟨e, k, _, f, nv, KV, p, n⟩ := h
  have fr := Fr.grown (r := rb) g e.le
  exact ⟨e.fr fr, k.fr fr e.rbB e.lo, hg, f.trans fr, nv, KV, hp nv KV p n, n.up (Up.grown g e.rbB)⟩
/-- takes and expect, of a state. -/
theorem mem_takes {W0 W : World} {rb ab B : Nat} {E : Nat → Addr} {s : ByteArray} {st : PS} (c : Nat) (h : Mem W0 W rb ab B E s st) (hs : s.size ≤ 1073741824) (hc : c < 256) :
    Calls Tryz.prog 69 #[.pointer (some ⟨rb, 0, none⟩), .int .u8 (c : Int)] W fun e w' => e = .returned (.bool (isAt s st.i c)) ∧ Mem W0 w' rb ab B E s { st with i := gotI s st.i c } := by
  obtain ⟨e, k, g, f, nv, KV, p, n⟩ := h
  refine (takes_any rb s st.i _ nv _ c W p (by omega) g.il hc).mono ?_
  rintro e' w' ⟨rfl, h1, g1⟩
  have fr := Fr.grown (r := rb) g1 e.le
  exact ⟨rfl, e.fr fr, k.fr fr e.rbB e.lo, g.at hc, f.trans fr, nv, KV, h1, n.up (Up.grown g1 e.rbB)⟩
theorem mem_expect {W0 W : World} {rb ab B : Nat} {E : Nat → Addr} {s : ByteArray} {st : PS} (c : Nat) (h : Mem W0 W rb ab B E s st) (hs : s.size ≤ 1073741824) (hc : c < 256) :
    Calls Tryz.prog 72 #[.pointer (some ⟨rb, 0, none⟩), .int .u8 (c : Int)] W fun e w' => NdOut W0 w' e rb ab B E s (pEnd s st c) := by
  obtain ⟨e, k, g, f, nv, KV, p, n⟩ := h
  unfold pEnd
  by_cases hq : isAt s st.i c = true
  · rw [if_pos hq]
    refine (expect_yes rb s st.i _ nv _ c W p (by omega) g.il hc hq).mono ?_
    rintro e' w' ⟨rfl, h1, g1⟩
    have fr := Fr.grown (r := rb) g1 e.le
    exact ⟨rfl, e.fr fr, k.fr fr e.rbB e.lo, g.at hc, f.trans fr, nv, KV, h1, n.up (Up.grown g1 e.rbB)⟩
  · rw [if_neg hq]
    have lo := e.lo
    refine (expect_no rb s st.i _ nv _ (E 2) c W p (by omega) g.il hc (by simpa using hq) (by omega) e.g2).mono ?_
    rintro e' w' ⟨rfl, g1⟩
    exact ⟨rfl, f.trans (Fr.grown g1 e.le)⟩
theorem Mem.prI {W0 W : World} {rb ab B : Nat} {E : Nat → Addr} {s : ByteArray} {st : PS} (h : Mem W0 W rb ab B E s st) : prI W rb = st.i := by
  obtain ⟨e, k, g, f, nv, KV, p, n⟩ := h
  exact p.prI

set_option maxRecDepth 100000 in
set_option maxHeartbeats 8000000 in
theorem readList_of (rb ab B : Nat) (E : Nat → Addr) (s : ByteArray) (f : Nat) (hnode : NodeC rb ab B E s f) (hs : s.size ≤ 1073741824) (up : Nat) (depth : Nat) (st : PS) (w0 w : World) (h : Mem w0 w rb ab B E s st) (hup : up < st.L.length) (hd : depth ≤ st.i) (hf : s.size < f + st.i) :
    Calls Tryz.prog 73 #[.pointer (some ⟨rb, 0, none⟩), .int .i64 (up : Int), .int .i64 (depth : Int)] w fun e w' => NdOut w0 w' e rb ab B E s (pList s (pNodeF s f (up : Int) depth) st) := by
  have HN : Hid (NodeC rb ab B E s f) := hnode
  have CX : Hid (Calls Tryz.prog 72 #[.pointer (some ⟨rb, 0, none⟩), .int .u8 91] w fun e w' => NdOut w0 w' e rb ab B E s (pEnd s st 91)) := mem_expect 91 h hs (by omega)
  by_cases hq : isAt s st.i 91 = true
  · have e1 : pEnd s st 91 = .ok { st with i := gotI s st.i 91 } := by unfold pEnd; rw [if_pos hq]
    rw [e1] at CX
    have HP : Hid (pList s (pNodeF s f (up : Int) depth) st = if isAt s (gotI s st.i 91) 93 = true then .ok { st with i := gotI s (gotI s st.i 91) 93 } else pKidsF s (pNodeF s f (up : Int) depth) (s.size + 1) { st with i := gotI s (gotI s st.i 91) 93 }) := by show _ = _; unfold pList; rw [if_pos hq]
    have hg1 := gotI_ge s st.i 91
    have hg2 := gotI_ge s (gotI s st.i 91) 93
    obtain ⟨R, hR⟩ : ∃ z, pList s (pNodeF s f (up : Int) depth) st = z := ⟨_, rfl⟩
    rw [hR] at HP ⊢
    clear h hnode hR e1 hq
    go_enter Tryz.func73, Tryz.ntmps73
    go_wp2_with fail
    refine CX.out.mono ?_
    rintro e w1 ⟨rfl, h1⟩
    have CT : Hid (Calls Tryz.prog 69 #[.pointer (some ⟨rb, 0, none⟩), .int .u8 93] w1 fun e w' => e = .returned (.bool (isAt s (gotI s st.i 91) 93)) ∧ Mem w0 w' rb ab B E s { st with i := gotI s (gotI s st.i 91) 93 }) := mem_takes 93 h1 hs (by omega)
    clear h1 CX
    by_cases hq2 : isAt s (gotI s st.i 91) 93 = true
    · have HRE : Hid (R = .ok { st with i := gotI s (gotI s st.i 91) 93 }) := by show _ = _; rw [HP.out, if_pos hq2]
      rw [hq2] at CT
      clear HP hq2
      go_wp2_with fail
      refine CT.out.mono ?_
      rintro e w2 ⟨rfl, h2⟩
      have HM : Hid (Mem w0 w2 rb ab B E s { st with i := gotI s (gotI s st.i 91) 93 }) := h2
      clear h2 CT
      go_wp2
      try simp only [Exit.inBlock, Exit.then]
      refine bodyPost_ret (results_none rfl _ _ _) rfl ?_
      show NdOut _ _ _ _ _ _ _ _ _
      rw [HRE.out]
      exact ⟨rfl, HM.out⟩
    · have HRE : Hid (pKidsF s (pNodeF s f (up : Int) depth) (s.size + 1) { st with i := gotI s (gotI s st.i 91) 93 } = R) := by show _ = _; rw [HP.out, if_neg hq2]
      rw [show isAt s (gotI s st.i 91) 93 = false by simpa using hq2] at CT
      clear HP hq2
      obtain ⟨st1, hst1⟩ : ∃ z : PS, { st with i := gotI s (gotI s st.i 91) 93 } = z := ⟨_, rfl⟩
      have k1 : st.i ≤ st1.i := by rw [← hst1]; exact Nat.le_trans hg1 hg2
      have k2 : st1.L.length = st.L.length := by rw [← hst1]
      rw [hst1] at CT HRE
      clear hst1 hg1 hg2
      go_wp2_with fail
      refine CT.out.mono ?_
      rintro e w2 ⟨rfl, h2⟩
      have HM : Hid (Mem w0 w2 rb ab B E s st1) := h2
      clear h2 CT
      go_wp2
      go_loopw [6] (fun b wr => ∃ (st2 : PS) (g : Nat) (m : Bool), b = .bool m ∧ Hid (Mem w0 wr rb ab B E s st2) ∧ st.i ≤ st2.i ∧ st.L.length ≤ st2.L.length ∧ s.size < g + st2.i ∧ Hid ((if m = true then pKidsF s (pNodeF s f (up : Int) depth) g st2 else pEnd s st2 93) = R)) (fun b wr => 2 * (s.size - prI wr rb) + (match b with | .bool true => 1 | _ => 0))
      case atStart => exact ⟨st1, s.size + 1, true, rfl, HM.out, k1, by omega, by omega, HRE.out⟩
      case round =>
        clear HM HRE k1 k2
        obtain ⟨st2, g, m, rfl, HS, hi2, hl2, hg, HRR⟩ := hrel
        have HI : Hid (prI wr rb = st2.i) := HS.out.prI
        have hil2 := HS.out.2.2.1.il
        cases m with
        | true =>
          obtain ⟨g, rfl⟩ : ∃ q, g = q + 1 := ⟨g - 1, by omega⟩
          have CN : Hid (Calls Tryz.prog 29 #[.pointer (some ⟨rb, 0, none⟩), .int .i64 (up : Int), .int .i64 (depth : Int)] wr fun e w' => NdOut w0 w' e rb ab B E s (pNodeF s f (up : Int) depth st2)) := HN.out (up : Int) depth st2 w0 wr HS.out (.inr ⟨by omega, by omega⟩) (by omega) (by omega)
          cases hp : pNodeF s f (up : Int) depth st2 with
          | error b =>
            have HRE : Hid (R = .error b) := by show _ = _; rw [← HRR.out]; simp only [if_true]; unfold pKidsF; rw [hp]
            rw [hp] at CN
            clear hp HRR
            go_wp2_with fail
            refine CN.out.mono ?_
            rintro e w3 ⟨rfl, f3⟩
            refine ⟨rfl, ?_⟩
            rw [HRE.out]
            exact ⟨rfl, f3⟩
          | ok st3 =>
            obtain ⟨q1, q2, q3⟩ := node_fwd f (up : Int) depth st2 st3 (by omega) HS.out.2.2.1 hp
            have q4 := q1.good.il
            have HRE : Hid ((if isAt s st3.i 44 = true then pKidsF s (pNodeF s f (up : Int) depth) g { st3 with i := gotI s st3.i 44 } else pEnd s { st3 with i := gotI s st3.i 44 } 93) = R) := by
              show _ = _; rw [← HRR.out]; simp only [if_true]; conv => rhs; unfold pKidsF
              rw [hp]
            rw [hp] at CN
            clear hp HRR q1
            go_wp2_with fail
            refine CN.out.mono ?_
            rintro e w3 ⟨rfl, h3⟩
            have CT : Hid (Calls Tryz.prog 69 #[.pointer (some ⟨rb, 0, none⟩), .int .u8 44] w3 fun e w' => e = .returned (.bool (isAt s st3.i 44)) ∧ Mem w0 w' rb ab B E s { st3 with i := gotI s st3.i 44 }) := mem_takes 44 h3 hs (by omega)
            have hg3 := gotI_ge s st3.i 44
            have hg4 := gotI_le (s := s) (i := st3.i) (c := 44) (by omega) q4
            obtain ⟨m', hm'⟩ : ∃ z, isAt s st3.i 44 = z := ⟨_, rfl⟩
            obtain ⟨st4, hst4⟩ : ∃ z : PS, { st3 with i := gotI s st3.i 44 } = z := ⟨_, rfl⟩
            have k1 : st4.i = gotI s st3.i 44 := by rw [← hst4]
            have k2 : st4.L.length = st3.L.length := by rw [← hst4]
            rw [hm', hst4] at CT HRE
            clear h3 CN hst4 hm'
            go_wp2_with fail
            refine CT.out.mono ?_
            rintro e w4 ⟨rfl, h4⟩
            have HM4 : Hid (Mem w0 w4 rb ab B E s st4) := h4
            have HI4 : Hid (prI w4 rb = st4.i) := h4.prI
            clear h4 CT
            go_wp2
            go_roundw
            case rel => exact ⟨st4, g, m', rfl, HM4.out, by omega, by omega, by omega, HRE.out⟩
            case measure => rw [HI4.out, HI.out]; cases m' <;> simp <;> omega
        | false =>
          have CX : Hid (Calls Tryz.prog 72 #[.pointer (some ⟨rb, 0, none⟩), .int .u8 93] wr fun e w' => NdOut w0 w' e rb ab B E s (pEnd s st2 93)) := mem_expect 93 HS.out hs (by omega)
          have HRE : Hid (pEnd s st2 93 = R) := by show _ = _; have := HRR.out; simpa using this
          rw [HRE.out] at CX
          clear HRR HRE
          cases R with
          | error b =>
            go_wp2_with fail
            refine CX.out.mono ?_
            rintro e w3 ⟨rfl, f3⟩
            exact ⟨rfl, rfl, f3⟩
          | ok st3 =>
            go_wp2_with fail
            refine CX.out.mono ?_
            rintro e w3 ⟨rfl, h3⟩
            have HM3 : Hid (Mem w0 w3 rb ab B E s st3) := h3
            clear h3 CX
            go_wp2
            go_end0
            exact ⟨rfl, HM3.out⟩
  · have e1 : pEnd s st 91 = .error (sk s st.i) := by unfold pEnd; rw [if_neg hq]
    have HP : Hid (pList s (pNodeF s f (up : Int) depth) st = .error (sk s st.i)) := by show _ = _; unfold pList; rw [if_neg hq]
    rw [e1] at CX
    clear h hnode e1 hq
    go_enter Tryz.func73, Tryz.ntmps73
    go_wp2_with fail
    refine CX.out.mono ?_
    rintro e w1 ⟨rfl, f1⟩
    refine ⟨rfl, ?_⟩
    rw [HP.out]
    exact ⟨rfl, f1⟩

end Go.Proofs.YtepeepipgkejiadGreatDoor
