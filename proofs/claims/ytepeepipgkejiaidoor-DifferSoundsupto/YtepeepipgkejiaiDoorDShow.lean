/-
  columnsOf, isSide, isShown.
-/
import Derived.Test.YtepeepipgkejiaiDoorDMath
import Derived.Test.YtepeepipgkejiaiDoorGClus
import Derived.Test.YtepeepipgkejiaiDoorYOver
import Derived.Test.YtepeepipgkejiaiDoorCFill
namespace Go.Proofs.YtepeepipgkejiaiDoor
open Go.RowKit Go.Sort
set_option linter.unusedVariables false

def colI (p : Int) : Int := if p = 0 then 1 else if p = 1 then 2 else 0
set_option maxRecDepth 100000 in
theorem columnsOf_any (p : Int) (w : World) : Calls Tryd.prog 44 #[.int .i64 p] w fun e w' => e = .returned (.int .i64 (colI p)) ∧ w' = w := by
  go_enter Tryd.func44, Tryd.ntmps44
  by_cases h0 : p = 0
  · subst h0
    go_wp2
    go_ret
    exact ⟨rfl, rfl⟩
  · have e0 : (p == 0) = false := by simpa using h0
    by_cases h1 : p = 1
    · subst h1
      go_wp2
      go_ret
      exact ⟨rfl, rfl⟩
    · have e1 : (p == 1) = false := by simpa using h1
      go_wp2
      go_ret
      exact ⟨by unfold colI; rw [if_neg h0, if_neg h1]; rfl, rfl⟩

set_option maxRecDepth 100000 in
theorem dSide_any (n : Int) (w : World) : Calls Tryd.prog 29 #[.int .i64 n] w fun e w' => e = .returned (.bool (decide (1 ≤ n ∧ n ≤ 400))) ∧ w' = w := by
  go_enter Tryd.func29, Tryd.ntmps29
  by_cases h1 : 1 ≤ n
  · by_cases h2 : n ≤ 400
    · rw [decide_eq_true ⟨h1, h2⟩]
      go_wp2
      go_ret
      exact ⟨rfl, rfl⟩
    · rw [decide_eq_false (fun q => h2 q.2)]
      go_wp2
      go_ret
      exact ⟨rfl, rfl⟩
  · rw [decide_eq_false (fun q => h1 q.1)]
    go_wp2
    go_ret
    exact ⟨rfl, rfl⟩

theorem own_slice {W : World} {B n size : Nat} {e : TypeId} {v : Value} {xs : List Value} (h : W.ownsRow B e size v n xs) : ∃ p c, v = .slice p n c := by
  rcases h.2 with ⟨rfl, rfl⟩ | ⟨g, cap, cur, rfl, _⟩
  · exact ⟨_, _, rfl⟩
  · exact ⟨_, _, rfl⟩
theorem str_ne {a b : ByteArray} (h : ¬ a = b) : (a.toList == b.toList) = false := by
  rw [beq_eq_false_iff_ne]
  intro e
  rw [ByteArray.toList_eq, ByteArray.toList_eq] at e
  exact h (ByteArray.ext (Array.toList_inj.1 e))

/-- The first place of a text in a list; -1: nowhere. -/
def findF : List ByteArray → ByteArray → Nat → Int
  | [], _, _ => -1
  | a :: r, x, k => if a = x then (k : Int) else findF r x (k + 1)
def K0 (ct : List UInt8) (t : ByteArray) : Prop := ¬ (⟨ct.toArray⟩ : ByteArray) = t
/-- What is answered tells P. -/
def Tells (w w' : World) (r : Ending) (P : Prop) : Prop := ∃ b : Bool, r = .returned (.bool b) ∧ (b = true ↔ P) ∧ Below w.heap.size w w'
set_option maxRecDepth 100000 in
set_option maxHeartbeats 8000000 in
theorem isShown_any (e : Ce) (n : Int) (w : World) (ht : TabAt w) (hs : e.t.size ≤ 1099511627776) :
    Calls Tryd.prog 45 #[cev e, .int .i64 n] w fun r w' => Tells w w' r (n ≠ 0 ∧ Sty e ∧ Txt e n) := by
  have hmix : Tryd.prog.follows .mixedOrders = true := by kernel_rfl
  have HT : Hid (TabAt w) := ht
  obtain ⟨t, f, g, b, p⟩ := e
  have OV : Hid (∀ w, Calls Tryd.prog 65 #[sv 0 0 0, sv f g b] w fun e w' => e = .returned (sv (kn f) (kn g) (bo b)) ∧ Gr w w') := fun w => by
    have := over_any 0 0 0 f g b w
    rw [ov_zero, ov_zero, obo_zero] at this
    exact this
  clear ht
  unfold cev
  unfold sv at OV
  go_enter Tryd.func45, Tryd.ntmps45
  go_wp2_with fail
  obtain ⟨S, hS⟩ : ∃ z, w.heap.size = z := ⟨_, rfl⟩
  obtain ⟨W0, hW0⟩ : ∃ z, w.alloc (.cells #[.string t, .int .i64 f, .int .i64 g, .int .i64 b, .int .i64 p] 36) = z := ⟨_, rfl⟩
  have G0 : Hid (Gr w W0) := by rw [← hW0]; exact (Gr.refl w).alloc _
  have R0 : Hid (R5 36 W0 S ⟨t, f, g, b, p⟩) := by rw [← hW0, ← hS]; exact R5.new w ⟨t, f, g, b, p⟩ _
  rw [hW0, hS]
  have HS : Hid (w.heap.size = S) := hS
  clear hW0 hS
  have q0 := cell_grown R0.out.lt R0.out.c0
  have q1 := cell_grown R0.out.lt R0.out.c1
  have q2 := cell_grown R0.out.lt R0.out.c2
  have q3 := cell_grown R0.out.lt R0.out.c3
  by_cases h0 : n = 0
  · subst h0
    go_quiet_grown (first | (go_at_call 65; exact Calls.grown_of (OV.out _)))
    go_wp2
    go_ret
    exact ⟨false, rfl, by simp, (G0.out.trans ⟨nq, osq, rfl⟩).below⟩
  · have e0 : (n == 0) = false := by simpa using h0
    obtain ⟨f2, hf2⟩ : ∃ z, kn f = z := ⟨_, rfl⟩
    obtain ⟨g2, hg2⟩ : ∃ z, kn g = z := ⟨_, rfl⟩
    obtain ⟨b2, hb2⟩ : ∃ z, bo b = z := ⟨_, rfl⟩
    rw [hf2, hg2, hb2] at OV
    by_cases h1 : f2 = f
    · by_cases h2 : g2 = g
      · by_cases h3 : b2 = b
        · subst h1 h2 h3
          have HST : Hid (Sty ⟨t, f2, g2, b2, p⟩) := ⟨hf2, hg2, hb2⟩
          go_quiet_grown (first | (go_at_call 65; exact Calls.grown_of (OV.out _)))
          have G1 : Hid (Gr w (grow (W0.drewN nq) osq)) := G0.out.trans ⟨nq, osq, rfl⟩
          have R1 : Hid (R5 36 (grow (W0.drewN nq) osq) S ⟨t, f2, g2, b2, p⟩) := R0.out.gr ⟨nq, osq, rfl⟩
          obtain ⟨W1, hW1⟩ : ∃ z, grow (W0.drewN nq) osq = z := ⟨_, rfl⟩
          rw [hW1] at G1 R1
          rw [hW1]
          have c0 := R1.out.c0
          have CG : Hid (Calls Tryd.prog 66 #[.string t] W1 fun e w' => ∃ v, e = .returned v ∧ w'.ownsRow W1.heap.size 69 2 v (clus (runes t.data.toList)).length (cCells (clus (runes t.data.toList))) ∧ Below W1.heap.size W1 w') := gClusters_any t W1 (HT.out.below G1.out.below) hs
          obtain ⟨K, hK⟩ : ∃ K, clus (runes t.data.toList) = K := ⟨_, rfl⟩
          have HTX : Hid (Txt ⟨t, f2, g2, b2, p⟩ n ↔ K = [(t.data.toList, n)]) := by show _ ↔ _; unfold Txt; rw [hK]
          rw [hK] at CG
          clear q0 q1 q2 q3 hW1 hK hf2 hg2 hb2 OV
          go_wp2_with fail
          refine CG.out.mono ?_
          rintro e w2 ⟨v, rfl, hv, b2'⟩
          have HBL : Hid (Below w.heap.size w w2) := G1.out.below.trans (b2'.mono G1.out.below.size)
          have R2 : Hid (R5 36 w2 S ⟨t, f2, g2, b2, p⟩) := (b2'.block _ R1.out.lt).trans R1.out
          have z0 := cell_grown R2.out.lt R2.out.c0
          clear b2' CG c0
          obtain ⟨m, hm⟩ : ∃ m, K.length = m := ⟨_, rfl⟩
          by_cases h1m : m = 1
          · have hK1 : ∃ ct cw, K = [(ct, cw)] := by
              rcases K with _ | ⟨⟨ct, cw⟩, _ | ⟨c2, K⟩⟩
              · simp at hm; omega
              · exact ⟨ct, cw, rfl⟩
              · simp at hm; omega
            obtain ⟨ct, cw, rfl⟩ := hK1
            clear hm h1m
            obtain ⟨g1, c1, rfl, _⟩ : ∃ g1 c1, v = .slice (some ⟨g1, 0, none⟩) 1 c1 ∧ True := by
              rcases hv.2 with ⟨_, h⟩ | ⟨g1, c1, cur, e, _⟩
              · cases h
              · exact ⟨g1, c1, e, trivial⟩
            have y0 : w2.cell? ⟨g1, 0, none⟩ = some (.string ⟨ct.toArray⟩) := hv.cellAt 0 (by decide)
            have y1 : w2.cell? ⟨g1, 1, none⟩ = some (.int .i64 cw) := hv.cellAt 1 (by decide)
            have gl := (hv.lt g1 rfl).2
            clear hv
            by_cases hct : (⟨ct.toArray⟩ : ByteArray) = t
            · have HCE : Hid (ct = t.data.toList) := by show _ = _; rw [← hct]
              rw [hct] at y0
              have y0 := cell_grown gl y0
              have y1 := cell_grown gl y1
              clear hct
              by_cases hcw : cw = n
              · subst hcw
                go_wp2_with fail
                go_quiet_grown (fail)
                go_wp2
                go_ret
                exact ⟨true, rfl, ⟨fun _ => ⟨h0, HST.out, HTX.out.2 (by rw [HCE.out])⟩, fun _ => rfl⟩, (HBL.out.trans ((Gr.below ⟨nq, osq, rfl⟩).mono HBL.out.size))⟩
              · have e5 : (cw == n) = false := by simpa using hcw
                go_wp2_with fail
                go_quiet_grown (fail)
                go_wp2
                go_ret
                exact ⟨false, rfl, ⟨fun h => (nomatch h), fun h => by have := HTX.out.1 h.2.2; injection this with this; injection this with _ this; exact absurd this hcw⟩, (HBL.out.trans ((Gr.below ⟨nq, osq, rfl⟩).mono HBL.out.size))⟩
            · have HCT : Hid (K0 ct t) := hct
              obtain ⟨cb, hcb⟩ : ∃ z, (⟨ct.toArray⟩ : ByteArray) = z := ⟨_, rfl⟩
              rw [hcb] at hct y0
              have e5 : (cb.toList == t.toList) = false := str_ne hct
              have y0 := cell_grown gl y0
              have y1 := cell_grown gl y1
              clear hcb
              go_wp2_with fail
              go_quiet_grown (fail)
              go_wp2
              go_ret
              exact ⟨false, rfl, ⟨fun h => (nomatch h), fun h => by have := HTX.out.1 h.2.2; injection this with this; injection this with this _; exact absurd (by rw [this]) HCT.out⟩, (HBL.out.trans ((Gr.below ⟨nq, osq, rfl⟩).mono HBL.out.size))⟩
          · obtain ⟨p1, c1, rfl⟩ : ∃ p c, v = .slice p m c := by rw [← hm]; exact own_slice hv
            have HNK : Hid (∀ x, K ≠ [x]) := fun x hx => h1m (by rw [← hm, hx]; rfl)
            have e5 : ((m : Int) == 1) = false := by simp; omega
            clear hv hm
            clear z0
            go_wp2_with fail
            go_quiet (fail)
            go_wp2
            go_ret
            exact ⟨false, rfl, ⟨fun h => (nomatch h), fun h => absurd (HTX.out.1 h.2.2) (HNK.out _)⟩, HBL.out.trans ((Gr.below ((Gr.refl _).drewN _)).mono HBL.out.size)⟩
        · have e3 : (b2 == b) = false := by simpa using h3
          subst h1 h2
          go_quiet_grown (first | (go_at_call 65; exact Calls.grown_of (OV.out _)))
          go_wp2
          go_ret
          exact ⟨false, rfl, ⟨fun h => (nomatch h), fun h => by exfalso; first | exact h3 (hb2.symm.trans h.2.1.2.2) | exact h3 (hb2.symm.trans h.1.2.2)⟩, (G0.out.trans ⟨nq, osq, rfl⟩).below⟩
      · have e3 : (g2 == g) = false := by simpa using h2
        subst h1
        go_quiet_grown (first | (go_at_call 65; exact Calls.grown_of (OV.out _)))
        go_wp2
        go_ret
        exact ⟨false, rfl, ⟨fun h => (nomatch h), fun h => by exfalso; first | exact h2 (hg2.symm.trans h.2.1.2.1) | exact h2 (hg2.symm.trans h.1.2.1)⟩, (G0.out.trans ⟨nq, osq, rfl⟩).below⟩
    · have e3 : (f2 == f) = false := by simpa using h1
      go_quiet_grown (first | (go_at_call 65; exact Calls.grown_of (OV.out _)))
      go_wp2
      go_ret
      exact ⟨false, rfl, ⟨fun h => (nomatch h), fun h => by exfalso; first | exact h1 (hf2.symm.trans h.2.1.1) | exact h1 (hf2.symm.trans h.1.1)⟩, (G0.out.trans ⟨nq, osq, rfl⟩).below⟩

end Go.Proofs.YtepeepipgkejiaiDoor
