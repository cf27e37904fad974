/-
  columnsOf, isSide, isShown.
-/
import Derived.Test.YtlfffpoeioecjaaDoorG05
import Derived.Test.YtlfffpoeioecjaaDoorG08
import Derived.Test.YtlfffpoeioecjaaDoorG10
import Derived.Test.YtlfffpoeioecjaaDoorG02
namespace Go.Proofs.YtlfffpoeioecjaaDoor
open Go.RowKit Go.Sort
set_option linter.unusedVariables false

def colI (p : Int) : Int := if p = 0 then 1 else if p = 1 then 2 else 0
set_option maxRecDepth 100000 in
theorem columnsOf_any (p : Int) (w : World) : Calls Tryd.prog 60 #[.int .i64 p] w fun e w' => e = .returned (.int .i64 (colI p)) ∧ w' = w := by
  go_enter Tryd.func60, Tryd.ntmps60
  by_cases h0 : p = 0
  · subst h0
    go_wp2
    go_ret
    exact ⟨rfl, rfl⟩
  · have e0 : (p == 0) = false := by simpa using h0
    by_cases h1 : p = 1
    · subst h1
      go_wp2
      go_ret
      exact ⟨rfl, rfl⟩
    · have e1 : (p == 1) = false := by simpa using h1
      go_wp2
      go_ret
      exact ⟨by unfold colI; rw [if_neg h0, if_neg h1]; rfl, rfl⟩

set_option maxRecDepth 100000 in
theorem dSide_any (n : Int) (w : World) : Calls Tryd.prog 40 #[.int .i64 n] w fun e w' => e = .returned (.bool (decide (1 ≤ n ∧ n ≤ 400))) ∧ w' = w := by
  go_enter Tryd.func40, Tryd.ntmps40
  by_cases h1 : 1 ≤ n
  · by_cases h2 : n ≤ 400
    · rw [decide_eq_true ⟨h1, h2⟩]
      go_wp2
      go_ret
      exact ⟨rfl, rfl⟩
    · rw [decide_eq_false (fun q => h2 q.2)]
      go_wp2
      go_ret
      exact ⟨rfl, rfl⟩
  · rw [decide_eq_false (fun q => h1 q.1)]
    go_wp2
    go_ret
    exact ⟨rfl, rfl⟩

theorem own_slice {W : World} {B n size : Nat} {e : TypeId} {v : Value} {xs : List Value} (h : W.ownsRow B e size v n xs) : ∃ p c, v = .slice p n c := by
  rcases h.2 with ⟨rfl, rfl⟩ | ⟨g, cap, cur, rfl, _⟩
  · exact ⟨_, _, rfl⟩
  · exact ⟨_, _, rfl⟩
theorem str_ne {a b : ByteArray} (h : ¬ a = b) : (a.toList == b.toList) = false := by
  rw [beq_eq_false_iff_ne]
  intro e
  rw [ByteArray.toList_eq, ByteArray.toList_eq] at e
  exact h (ByteArray.ext (Array.toList_inj.1 e))

/-- The first place of a text in a list; -1: nowhere. -/
def findF : List ByteArray → ByteArray → Nat → Int
  | [], _, _ => -1
  | a :: r, x, k => if a = x then (k : Int) else findF r x (k + 1)
def K0 (ct : List UInt8) (t : ByteArray) : Prop := ¬ (⟨ct.toArray⟩ : ByteArray) = t
/-- What is answered tells P. -/
def Tells (w w' : World) (r : Ending) (P : Prop) : Prop := ∃ b : Bool, r = .returned (.bool b) ∧ (b = true ↔ P) ∧ Below w.heap.size w w'
set_option maxRecDepth 100000 in
set_option maxHeartbeats 8000000 in
theorem isShown_any (e : Ce) (n : Int) (w : World) (ht : TabAt w) (hs : e.t.size ≤ 1099511627776) :
    Calls Tryd.prog 61 #[cev e, .int .i64 n] w fun r w' => Tells w w' r (n ≠ 0 ∧ Sty e ∧ Txt e n) := by
  have hmix : Tryd.prog.follows .mixedOrders = true := by kernel_rfl
  have HT : Hid (TabAt w) := ht
  obtain ⟨t, f, g, b, p⟩ := e
  have OV : Hid (∀ w, Calls Tryd.prog 80 #[sv 0 0 0, sv f g b] w fun e w' => e = .returned (sv (kn f) (kn g) (bo b)) ∧ Gr w w') := fun w => by
    have := over_any 0 0 0 f g b w
    rw [ov_zero, ov_zero, obo_zero] at this
    exact this
  clear ht
  unfold cev
  unfold sv at OV
  go_enter Tryd.func61, Tryd.ntmps61
  go_wp2_with fail
  obtain ⟨S, hS⟩ : ∃ z, w.heap.size = z := ⟨_, rfl⟩
  obtain ⟨W0, hW0⟩ : ∃ z, w.alloc (.cells #[.string t, .int .i64 f, .int .i64 g, .int .i64 b, .int .i64 p] 34) = z := ⟨_, rfl⟩
  have G0 : Hid (Gr w W0) := by rw [← hW0]; exact (Gr.refl w).alloc _
  have R0 : Hid (R5 34 W0 S ⟨t, f, g, b, p⟩) := by rw [← hW0, ← hS]; exact R5.new w ⟨t, f, g, b, p⟩ _
  rw [hW0, hS]
  have HS : Hid (w.heap.size = S) := hS
  clear hW0 hS
  have q0 := cell_grown R0.out.lt R0.out.c0
  have q1 := cell_grown R0.out.lt R0.out.c1
  have q2 := cell_grown R0.out.lt R0.out.c2
  have q3 := cell_grown R0.out.lt R0.out.c3
  by_cases h0 : n = 0
  · subst h0
    go_quiet_grown (first | (go_at_call 80; exact Calls.grown_of (OV.out _)))
    go_wp2
    go_ret
    exact ⟨false, rfl, by simp, (G0.out.trans ⟨nq, osq, rfl⟩).below⟩
  · have e0 : (n == 0) = false := by simpa using h0
    obtain ⟨f2, hf2⟩ : ∃ z, kn f = z := ⟨_, rfl⟩
    obtain ⟨g2, hg2⟩ : ∃ z, kn g = z := ⟨_, rfl⟩
    obtain ⟨b2, hb2⟩ : ∃ z, bo b = z := ⟨_, rfl⟩
    rw [hf2, hg2, hb2] at OV
    by_cases h1 : f2 = f
    · by_cases h2 : g2 = g
      · by_cases h3 : b2 = b
        · subst h1 h2 h3
          have HST : Hid (Sty ⟨t, f2, g2, b2, p⟩) := ⟨hf2, hg2, hb2⟩
          go_quiet_grown (first | (go_at_call 80; exact Calls.grown_of (OV.out _)))
          have G1 : Hid (Gr w (grow (W0.drewN nq) osq)) := G0.out.trans ⟨nq, osq, rfl⟩
          have R1 : Hid (R5 34 (grow (W0.drewN nq) osq) S ⟨t, f2, g2, b2, p⟩) := R0.out.gr ⟨nq, osq, rfl⟩
          obtain ⟨W1, hW1⟩ : ∃ z, grow (W0.drewN nq) osq = z := ⟨_, rfl⟩
          rw [hW1] at G1 R1
          rw [hW1]
          have c0 := R1.out.c0
          have CG : Hid (Calls Tryd.prog 81 #[.string t] W1 fun e w' => ∃ v, e = .returned v ∧ w'.ownsRow W1.heap.size 67 2 v (clus (runes t.data.toList)).length (cCells (clus (runes t.data.toList))) ∧ Below W1.heap.size W1 w') := gClusters_any t W1 (HT.out.below G1.out.below) hs
          obtain ⟨K, hK⟩ : ∃ K, clus (runes t.data.toList) = K := ⟨_, rfl⟩
          have HTX : Hid (Txt ⟨t, f2, g2, b2, p⟩ n ↔ K = [(t.data.toList, n)]) := by show _ ↔ _; unfold Txt; rw [hK]
          rw [hK] at CG
          clear q0 q1 q2 q3 hW1 hK hf2 hg2 hb2 OV
          go_wp2_with fail
          refine CG.out.mono ?_
          rintro e w2 ⟨v, rfl, hv, b2'⟩
          have HBL : Hid (Below w.heap.size w w2) := G1.out.below.trans (b2'.mono G1.out.below.size)
          have R2 : Hid (R5 34 w2 S ⟨t, f2, g2, b2, p⟩) := (b2'.block _ R1.out.lt).trans R1.out
          have z0 := cell_grown R2.out.lt R2.out.c0
          clear b2' CG c0
          obtain ⟨m, hm⟩ : ∃ m, K.length = m := ⟨_, rfl⟩
          by_cases h1m : m = 1
          · have hK1 : ∃ ct cw, K = [(ct, cw)] := by
              rcases K with _ | ⟨⟨ct, cw⟩, _ | ⟨c2, K⟩⟩
              · simp at hm; omega
              · exact ⟨ct, cw, rfl⟩
              · simp at hm; omega
            obtain ⟨ct, cw, rfl⟩ := hK1
            clear hm h1m
            obtain ⟨g1, c1, rfl, _⟩ : ∃ g1 c1, v = .slice (some ⟨g1, 0, none⟩) 1 c1 ∧ True := by
              rcases hv.2 with ⟨_, h⟩ | ⟨g1, c1, cur, e, _⟩
              · cases h
              · exact ⟨g1, c1, e, trivial⟩
            have y0 : w2.cell? ⟨g1, 0, none⟩ = some (.string ⟨ct.toArray⟩) := hv.cellAt 0 (by decide)
            have y1 : w2.cell? ⟨g1, 1, none⟩ = some (.int .i64 cw) := hv.cellAt 1 (by decide)
            have gl := (hv.lt g1 rfl).2
            clear hv
            by_cases hct : (⟨ct.toArray⟩ : ByteArray) = t
            · have HCE : Hid (ct = t.data.toList) := by show _ = _; rw [← hct]
              rw [hct] at y0
              have y0 := cell_grown gl y0
              have y1 := cell_grown gl y1
              clear hct
              by_cases hcw : cw = n
              · subst hcw
                go_wp2_with fail
                go_quiet_grown (fail)
                go_wp2
                go_ret
                exact ⟨true, rfl, ⟨fun _ => ⟨h0, HST.out, HTX.out.2 (by rw [HCE.out])⟩, fun _ => rfl⟩, (HBL.out.trans ((Gr.below ⟨nq, osq, rfl⟩).mono HBL.out.size))⟩
              · have e5 : (cw == n) = false := by simpa using hcw
                go_wp2_with fail
                go_quiet_grown (fail)
                go_wp2
                go_ret
                exact ⟨false, rfl, ⟨fun h => (nomatch h), fun h => by have := HTX.out.1 h.2.2; injection this with this; injection this with _ this; exact absurd this hcw⟩, (HBL.out.trans ((Gr.below ⟨nq, osq, rfl⟩).mono HBL.out.size))⟩
            · have HCT : Hid (K0 ct t) := hct
              obtain ⟨cb, hcb⟩ : ∃ z, (⟨ct.toArray⟩ : ByteArray) = z := ⟨_, rfl⟩
              rw [hcb] at hct y0
              have e5 : (cb.toList == t.toList) = false := str_ne hct
              have y0 := cell_grown gl y0
              have y1 := cell_grown gl y1
              clear hcb
              go_wp2_with fail
              go_quiet_grown (fail)
              go_wp2
              go_ret
              exact ⟨false, rfl, ⟨fun h => (nomatch h), fun h => by have := HTX.out.1 h.2.2; injection this with this; injection this with this _; exact absurd (by rw [this]) HCT.out⟩, (HBL.out.trans ((Gr.below ⟨nq, osq, rfl⟩).mono HBL.out.size))⟩
          · obtain ⟨p1, c1, rfl⟩ : ∃ p c, v = .slice p m c := by rw [← hm]; exact own_slice hv
            have HNK : Hid (∀ x, K ≠ [x]) := fun x hx => h1m (by rw [← hm, hx]; rfl)
            have e5 : ((m : Int) == 1) = false := by simp; omega
            clear hv hm
            clear z0
            go_wp2_with fail
            go_quiet (fail)
            go_wp2
            go_ret
            exact ⟨false, rfl, ⟨fun h => (nomatch h), fun h => absurd (HTX.out.1 h.2.2) (HNK.out _)⟩, HBL.out.trans ((Gr.below ((Gr.refl _).drewN _)).mono HBL.out.size)⟩
        · have e3 : (b2 == b) = false := by simpa using h3
          subst h1 h2
          go_quiet_grown (first | (go_at_call 80; exact Calls.grown_of (OV.out _)))
          go_wp2
          go_ret
          exact ⟨false, rfl, ⟨fun h => (nomatch h), fun h => by exfalso; first | exact h3 (hb2.symm.trans h.2.1.2.2) | exact h3 (hb2.symm.trans h.1.2.2)⟩, (G0.out.trans ⟨nq, osq, rfl⟩).below⟩
      · have e3 : (g2 == g) = false := by simpa using h2
        subst h1
        go_quiet_grown (first | (go_at_call 80; exact Calls.grown_of (OV.out _)))
        go_wp2
        go_ret
        exact ⟨false, rfl, ⟨fun h => (nomatch h), fun h => by exfalso; first | exact h2 (hg2.symm.trans h.2.1.2.1) | exact h2 (hg2.symm.trans h.1.2.1)⟩, (G0.out.trans ⟨nq, osq, rfl⟩).below⟩
    · have e3 : (f2 == f) = false := by simpa using h1
      go_quiet_grown (first | (go_at_call 80; exact Calls.grown_of (OV.out _)))
      go_wp2
      go_ret
      exact ⟨false, rfl, ⟨fun h => (nomatch h), fun h => by exfalso; first | exact h1 (hf2.symm.trans h.2.1.1) | exact h1 (hf2.symm.trans h.1.1)⟩, (G0.out.trans ⟨nq, osq, rfl⟩).below⟩

end Go.Proofs.YtlfffpoeioecjaaDoor

namespace Go.Proofs.YtlfffpoeioecjaaDoor
open Go.Shelf Go.RowKit
set_option linter.unusedVariables false

theorem laysM171 : Go.Proofs.LaysM.n171 Tryd.prog yRen := { lays171 with
  i0 := by kernel_rfl
  i2 := by kernel_rfl
  i3 := by kernel_rfl
  i4 := by kernel_rfl
  i5 := by kernel_rfl
  i9 := by kernel_rfl
  i20 := by kernel_rfl
  i37 := by kernel_rfl
  i46 := by kernel_rfl
  i51 := by kernel_rfl
  i53 := by kernel_rfl
  i171 := by kernel_rfl
  i173 := by kernel_rfl
  i212 := by kernel_rfl
  i232 := by kernel_rfl
  i233 := by kernel_rfl
  m17 := by kernel_rfl
  m18 := by kernel_rfl
  m19 := by kernel_rfl }
/-- The table of tens, by its number. -/
def TensAt (w : World) : Prop := ∃ nm : String, Tryd.prog.globalNamed nm = some 3 ∧ Lib.TabIs Tryd.prog w nm .u64 Lib.pow10Tab
theorem tab_name {P : Program} {w : World} {n n' : String} {k : IntKind} {zs : List Int} {g : Nat} (h1 : P.globalNamed n = some g) (h2 : P.globalNamed n' = some g) (h : Lib.TabIs P w n k zs) : Lib.TabIs P w n' k zs := by
  unfold Lib.TabIs World.var? at *
  rw [h1] at h
  rw [h2]
  exact h
theorem TensAt.below {w w' : World} {B : Nat} (h : TensAt w) (hb : Below B w w') (hg : 3 < B) : TensAt w' := by
  obtain ⟨nm, h1, h2⟩ := h
  refine ⟨nm, h1, ?_⟩
  unfold Lib.TabIs World.var? at *
  rw [h1] at h2 ⊢
  simp only [Option.bind_some] at h2 ⊢
  have : w'.heap[3]? = w.heap[3]? := hb.block _ hg
  rw [this]
  exact h2
theorem itoa_any (n : Nat) (hn : n ≤ 1000000) (w : World) (ht : TensAt w) :
    Calls Tryd.prog 65 #[.int .i64 n] w fun e w' => e = .returned (.string ⟨(Lib.decDigits n).toArray⟩) ∧ Gr w w' := by
  obtain ⟨nm, h1, h2⟩ := ht
  refine (Any.strconv_Itoa laysM171 n (by omega) (by omega) w (tab_name h1 (by kernel_rfl) h2)).mono fun e w' ⟨h, k, os, hw⟩ => ?_
  refine ⟨?_, ?_⟩
  · rw [h]
    have : Lib.itoa (n : Int) = Lib.decDigits n := by
      unfold Lib.itoa
      first
        | rw [if_neg (by omega)]; rfl
        | simp
    rw [this]
  · exact ⟨k, os, hw⟩

end Go.Proofs.YtlfffpoeioecjaaDoor

namespace Go.Proofs.YtlfffpoeioecjaaDoor
open Go.RowKit Go.Sort
set_option linter.unusedVariables false

theorem below_others {w w' : World} (h : Below w.heap.size w w') (e : TypeId) (b : Option Nat) : Lib.OthersKept e b w w' := fun k o hk _ _ => (h.block k (Array.getElem?_eq_some_iff.1 hk).1).trans hk
section
variable {Q Q' : World} {B b : Nat} {p v : Value} {W a f g d : Int} {l : List UInt8}
theorem PenB.up (h : PenB Q B b p v W a f g d l) (hb : Below Q.heap.size Q Q') : PenB Q' B b p v W a f g d l := by
  refine ⟨h.low, h.hp, (hb.block b h.lt).trans h.at_, ⟨h.own.1, ?_⟩, h.ne⟩
  rcases h.own.2 with q | ⟨c, cap, cur, fz, hv, hB, hg, r⟩
  · exact .inl q
  · exact .inr ⟨c, cap, cur, fz, hv, hB, (hb.block c (Array.getElem?_eq_some_iff.1 hg).1).trans hg, r⟩
theorem PenB.at3 (h : PenB Q B b p v W a f g d l) (a' : Int) : PenB (Q.setCell ⟨b, 3, none⟩ (.int .i64 a')) B b p v W a' f g d l := ⟨h.low, h.hp, (h.set 3 _).1, (h.set 3 _).2, h.ne⟩
theorem PenB.at4 (h : PenB Q B b p v W a f g d l) (u : Int) : PenB (Q.setCell ⟨b, 4, none⟩ (.int .i64 u)) B b p v W a u g d l := ⟨h.low, h.hp, (h.set 4 _).1, (h.set 4 _).2, h.ne⟩
theorem PenB.at5 (h : PenB Q B b p v W a f g d l) (u : Int) : PenB (Q.setCell ⟨b, 5, none⟩ (.int .i64 u)) B b p v W a f u d l := ⟨h.low, h.hp, (h.set 5 _).1, (h.set 5 _).2, h.ne⟩
theorem PenB.at6 (h : PenB Q B b p v W a f g d l) (u : Int) : PenB (Q.setCell ⟨b, 6, none⟩ (.int .i64 u)) B b p v W a f g u l := ⟨h.low, h.hp, (h.set 6 _).1, (h.set 6 _).2, h.ne⟩
end
/-- What a pen's way leaves. -/
def PenTo (w w' : World) (B b : Nat) (W a f g d : Int) (l : List UInt8) : Prop := ∃ p' v', PenB w' B b p' v' W a f g d l ∧ Below B w w' ∧ Lib.OthersKept 5 (some b) w w'

theorem PenTo.start {w w0 w2 : World} {B b : Nat} {W a f g d : Int} {l : List UInt8} (hg : Gr w w0) (hB : B ≤ w.heap.size) (h : PenTo w0 w2 B b W a f g d l) : PenTo w w2 B b W a f g d l := by
  obtain ⟨p', v', h1, h2, h3⟩ := h
  exact ⟨p', v', h1, (hg.below.mono hB).trans h2, (below_others hg.below _ _).trans h3⟩
/-- A block that is no pen and no row of bytes stays. -/
theorem PenTo.block {w w2 : World} {B b : Nat} {W a f g d : Int} {l : List UInt8} (h : PenTo w w2 B b W a f g d l) {k : Nat} {cs : Array Value} {T : TypeId} {fz : Nat × Nat} (hk : w.heap[k]? = some (.cells cs T fz)) (hb : k ≠ b) (hT : T ≠ 5) : w2.heap[k]? = some (.cells cs T fz) := by
  obtain ⟨p', v', h1, h2, h3⟩ := h
  refine h3 k _ hk (fun e => hb (Option.some.inj e)) fun c z e => hT ?_
  injection e
theorem PenTo.drew {w w2 : World} {B b : Nat} {W a f g d : Int} {l : List UInt8} (h : PenTo w w2 B b W a f g d l) : PenTo w w2.drew B b W a f g d l := by
  obtain ⟨p', v', h1, h2, h3⟩ := h
  exact ⟨p', v', h1.up ((Gr.refl w2).drew.below), Below.drew h2, h3.drew⟩
/-- The cursor stands elsewhere. -/
theorem PenTo.at3 {w w2 : World} {B b : Nat} {W a f g d : Int} {l : List UInt8} (h : PenTo w w2 B b W a f g d l) (a' : Int) : PenTo w (w2.setCell ⟨b, 3, none⟩ (.int .i64 a')) B b W a' f g d l := by
  obtain ⟨p', v', h1, h2, h3⟩ := h
  exact ⟨p', v', h1.at3 a', h2.setCell (p := ⟨b, 3, none⟩) h1.low _, h3.setCell ⟨b, 3, none⟩ rfl _⟩
theorem PenTo.sty {w w2 : World} {B b : Nat} {W a f g d : Int} {l : List UInt8} (h : PenTo w w2 B b W a f g d l) (f' g' d' : Int) : PenTo w (((w2.setCell ⟨b, 4, none⟩ (.int .i64 f')).setCell ⟨b, 5, none⟩ (.int .i64 g')).setCell ⟨b, 6, none⟩ (.int .i64 d')) B b W a f' g' d' l := by
  obtain ⟨p', v', h1, h2, h3⟩ := h
  exact ⟨p', v', ((h1.at4 f').at5 g').at6 d', ((h2.setCell (p := ⟨b, 4, none⟩) h1.low _).setCell (p := ⟨b, 5, none⟩) h1.low _).setCell (p := ⟨b, 6, none⟩) h1.low _, ((h3.setCell ⟨b, 4, none⟩ rfl _).setCell ⟨b, 5, none⟩ rfl _).setCell ⟨b, 6, none⟩ rfl _⟩
theorem new_block (w : World) (o : Obj) : (w.alloc o).heap[w.heap.size]? = some o := by show (w.heap.push o)[w.heap.size]? = some o; exact Array.getElem?_push_size

set_option maxHeartbeats 2000000 in
set_option maxRecDepth 100000 in
theorem penWr_any (B b : Nat) (p v : Value) (W a f g d : Int) (l : List UInt8) (t : ByteArray) (f2 g2 d2 q : Int) (w : World) (h : PenB w B b p v W a f g d l) (hlen : l.length + t.size ≤ 140737488355328) (hBw : B ≤ w.heap.size) (ha : -1 ≤ a ∧ a ≤ 1000000) :
    Calls Tryd.prog 46 #[.pointer (some ⟨b, 0, none⟩), .agg #[.string t, .int .i64 f2, .int .i64 g2, .int .i64 d2, .int .i64 q]] w fun e w' => e = .returned (.tuple #[]) ∧ Hid (PenTo w w' B b W (a + colI q) f g d (l ++ t.data.toList)) := by
  have hlt : b < w.heap.size := h.lt
  obtain ⟨S, hS⟩ : ∃ z, w.heap.size = z := ⟨_, rfl⟩
  obtain ⟨W0, hW0⟩ : ∃ z, w.alloc (.cells #[.string t, .int .i64 f2, .int .i64 g2, .int .i64 d2, .int .i64 q] 34) = z := ⟨_, rfl⟩
  have G0 : Hid (Gr w W0) := by rw [← hW0]; exact (Gr.refl w).alloc _
  have N0 : Hid (W0.heap[S]? = some (.cells #[.string t, .int .i64 f2, .int .i64 g2, .int .i64 d2, .int .i64 q] 34 (0, 0))) := by rw [← hW0, ← hS]; exact new_block w _
  have n0 : W0.cell? ⟨S, 0, none⟩ = some (.string t) := by rw [Lib.cell_of_heap N0.out]; rfl
  have HP : Hid (PenB W0 B b p v W a f g d l) := h.up G0.out.below
  have hB0 : B ≤ W0.heap.size := Nat.le_trans hBw G0.out.size
  have PW : Hid (∀ w', w' = W0 ∨ w' = W0.drew → Calls Tryd.prog 26 #[.pointer (some ⟨b, 0, none⟩), .string t] w' fun e w2 => e = .returned (.tuple #[.int .i64 t.size, .nilIface]) ∧ Hid (PenTo W0 w2 B b W a f g d (l ++ t.data.toList))) := by
    rintro w' (rfl | rfl)
    · exact (penWrite_any B b p v W a f g d l t w' HP.out hlen hB0).mono fun e w2 ⟨he, h1⟩ => ⟨he, _, h1⟩
    · exact (penWrite_any B b p v W a f g d l t W0.drew (HP.out.up ((Gr.refl W0).drew.below)) hlen hB0).mono fun e w2 ⟨he, h1⟩ => ⟨he, PenTo.start ((Gr.refl W0).drew) hB0 ⟨_, h1⟩⟩
  have CO : Hid (∀ w, Calls Tryd.prog 60 #[.int .i64 q] w fun e w' => e = .returned (.int .i64 (colI q)) ∧ w' = w) := columnsOf_any q
  have hc : 0 ≤ colI q ∧ colI q ≤ 2 := by unfold colI; split; omega; split <;> omega
  have hwr : IntKind.i64.wrap (a + colI q) = a + colI q := IntWalk.i64_in _ (by omega)
  clear h
  go_enter Tryd.func46, Tryd.ntmps46
  go_wp2_with fail
  go_region_with (go_at_call 26; refine Calls.mono (PW.out _ (by first | exact .inl rfl | exact .inr rfl)) ?_; rintro e1 w1 ⟨rfl, HT⟩)
  all_goals
    have M0 : w1.heap[S]? = some (.cells #[.string t, .int .i64 f2, .int .i64 g2, .int .i64 d2, .int .i64 q] 34 (0, 0)) := HT.out.block N0.out (by omega) (by decide)
    have o4 : w1.cell? ⟨S, 4, none⟩ = some (.int .i64 q) := by rw [Lib.cell_of_heap M0]; rfl
    have c3 : w1.cell? ⟨b, 3, none⟩ = some (.int .i64 a) := by obtain ⟨p1, v1, hv1, _⟩ := HT.out; exact hv1.cell (k := 3) rfl
    have z3 : w1.frozen? ⟨b, 3, none⟩ = false := by obtain ⟨p1, v1, hv1, _⟩ := HT.out; exact hv1.fz 3
    clear M0
    go_wp2_with fail
    go_region_with (go_at_call 60; refine Calls.mono (CO.out _) ?_; rintro e2 w2 ⟨rfl, rfl⟩)
    all_goals
      go_wp2_with fail
      go_end0
      have X := (HT.out.start G0.out hBw).at3 (a + colI q)
      exact ⟨rfl, by first | exact X | exact X.drew | exact X.drew.drew | exact X.drew.drew.drew⟩

end Go.Proofs.YtlfffpoeioecjaaDoor
