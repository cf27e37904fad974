/-
  paneref.poured.
-/
import Derived.Test.YtmlicipdkbeihacSRLev
namespace Go.Proofs.Ytmlicipdkbeihac
open Go.RowKit Go.Sort
set_option linter.unusedVariables false

theorem op_bds {n : Nat} {Mn Mx Wt : Nat → Int} (hM : Heldb Mn Mx Wt) (hn : n ≤ 200) (p q : Int) : 0 ≤ opW n Mn Mx Wt p q ∧ opW n Mn Mx Wt p q ≤ 20000000 ∧ 0 ≤ opB n Mn Mx Wt p q ∧ opB n Mn Mx Wt p q ≤ 20000000 := by
  have a1 : 0 ≤ opW n Mn Mx Wt p q := sumL_nonneg fun j _ => by have := hM j; split <;> omega
  have a2 : opW n Mn Mx Wt p q ≤ ((List.range n).length : Int) * 100000 := sumL_bound fun j _ => by have := hM j; split <;> omega
  have a3 : 0 ≤ opB n Mn Mx Wt p q := sumL_nonneg fun j _ => by have := hM j; split; omega; split <;> omega
  have a4 : opB n Mn Mx Wt p q ≤ ((List.range n).length : Int) * 100000 := sumL_bound fun j _ => by have := hM j; split; omega; split <;> omega
  rw [List.length_range] at a2 a4
  omega

/-- The bends ahead of i are not good (i from 0 on: t = 0, then the wants). -/
def BadTo (n : Nat) (Mn Mx Wt : Nat → Int) (r : Int) (i : Nat) : Prop := (0 < i → ¬ goodAt n Mn Mx Wt r 0 1) ∧ ∀ j, j + 1 < i → 0 < Wt j → ¬ goodAt n Mn Mx Wt r (Mx j - Mn j) (Wt j)
/-- What poured answers. -/
def PourR (n : Nat) (Mn Mx Wt : Nat → Int) (r p q : Int) : Prop := (p = 0 ∧ q = 0 ∧ BadTo n Mn Mx Wt r (n + 1)) ∨ (0 < q ∧ q ≤ 20000000 ∧ 0 ≤ p ∧ p ≤ 100000 ∧ totI n Mn Mx Wt p q = r * q)

theorem good_iff {n : Nat} {Mn Mx Wt : Nat → Int} {r p q w b : Int} (hw : opW n Mn Mx Wt p q = w) (hb : opB n Mn Mx Wt p q = b) : goodAt n Mn Mx Wt r p q ↔ (w ≠ 0 ∧ 0 ≤ r - b ∧ p * w ≤ (r - b) * q ∧ totI n Mn Mx Wt (r - b) w = r * w) := by
  unfold goodAt; rw [hw, hb]

set_option maxRecDepth 100000 in
set_option maxHeartbeats 4000000 in
theorem rPoured_any (n blk off cap : Nat) (Mn Mx Wt : Nat → Int) (r : Int) (w : World) (h : WRow w blk off n Mn Mx Wt) (hn : n ≤ 200) (hM : Heldb Mn Mx Wt) (hr : 0 ≤ r ∧ r ≤ 100000) :
    Calls Try.prog 20 #[.slice (some ⟨blk, off, none⟩) n cap, .int .i64 r] w fun e w' => ∃ p q, e = .returned (.tuple #[.int .i64 p, .int .i64 q]) ∧ PourR n Mn Mx Wt r p q ∧ Below w.heap.size w w' := by
  have HW : Hid (WRow w blk off n Mn Mx Wt) := h
  have HM : Hid (Heldb Mn Mx Wt) := hM
  have r0 := hr.1
  have r1 := hr.2
  have CO : Hid (∀ p q w, WRow w blk off n Mn Mx Wt → (0 ≤ p ∧ p ≤ 100000) → (0 ≤ q ∧ q ≤ 100000) → Calls Try.prog 25 #[.slice (some ⟨blk, off, none⟩) n cap, .int .i64 p, .int .i64 q] w fun e w' => e = .returned (.tuple #[.int .i64 (opW n Mn Mx Wt p q), .int .i64 (opB n Mn Mx Wt p q)]) ∧ Below w.heap.size w w') := fun p q w h hp hq => rOpen_any n blk off cap Mn Mx Wt p q w h hn hM hp hq
  have CT : Hid (∀ p q w, WRow w blk off n Mn Mx Wt → (0 ≤ p ∧ p ≤ 20000000) → (0 ≤ q ∧ q ≤ 20000000) → Calls Try.prog 26 #[.slice (some ⟨blk, off, none⟩) n cap, .int .i64 p, .int .i64 q] w fun e w' => e = .returned (.int .i64 (totI n Mn Mx Wt p q)) ∧ Below w.heap.size w w') := fun p q w h hp hq => rTotal_any n blk off cap Mn Mx Wt p q w h hn hM hp hq
  have HOB : Hid (∀ p q, 0 ≤ opW n Mn Mx Wt p q ∧ opW n Mn Mx Wt p q ≤ 20000000 ∧ 0 ≤ opB n Mn Mx Wt p q ∧ opB n Mn Mx Wt p q ≤ 20000000) := op_bds hM hn
  clear h hM hr
  go_enter Try.func20, Try.ntmps20
  go_wp2
  go_loopw [6] (fun i wr => ∃ k : Nat, i = .int .i64 ((k : Int) - 1) ∧ k ≤ n + 1 ∧ Hid (BadTo n Mn Mx Wt r k) ∧ Below w.heap.size w wr) (fun i _ => ((n : Int) - intOf i).toNat)
  case atStart => exact ⟨0, rfl, by omega, ⟨fun h => by omega, fun j hj => by omega⟩, Below.refl _ _⟩
  case round =>
    obtain ⟨k, rfl, hk, HBad, hbw⟩ := hrel
    match k with
    | 0 =>
      have HBN : Hid (¬ goodAt n Mn Mx Wt r 0 1 → BadTo n Mn Mx Wt r (0 + 1)) := fun h => ⟨fun _ => h, fun j hj => by omega⟩
      have HWW : WRow wr blk off n Mn Mx Wt := HW.out.below hbw
      have HBW : Hid (Below w.heap.size w wr) := hbw
      have hi0 : ((0 : Nat) : Int) - 1 < (n : Int) := by omega
      clear hbw HBad
      go_wp2_with fail
      have HO := CO.out 0 1 wr HWW ⟨by omega, by omega⟩ ⟨by omega, by omega⟩
      have hob := HOB.out 0 1
      obtain ⟨ow, how⟩ : ∃ x, opW n Mn Mx Wt 0 1 = x := ⟨_, rfl⟩
      obtain ⟨ob, hob2⟩ : ∃ x, opB n Mn Mx Wt 0 1 = x := ⟨_, rfl⟩
      rw [how, hob2] at HO hob
      have HOc : Hid (Calls Try.prog 25 #[.slice (some ⟨blk, off, none⟩) n cap, .int .i64 0, .int .i64 1] wr fun e w' => e = .returned (.tuple #[.int .i64 ow, .int .i64 ob]) ∧ Below wr.heap.size wr w') := HO
      have HGI := good_iff (r := r) how hob2
      obtain ⟨ow0, ow1, ob0, ob1⟩ := hob
      clear HO how hob2
      refine Calls.mono HOc.out ?_
      rintro e w5 ⟨rfl, b5⟩
      have hb5 : Below w.heap.size w w5 := HBW.out.trans (b5.mono HBW.out.size)
      have hs5 := hb5.size
      clear b5 HOc
      by_cases cw : ow = 0
      · have HN : Hid (BadTo n Mn Mx Wt r (0 + 1)) := HBN.out fun hg => (HGI.1 hg).1 cw
        subst cw
        clear HGI HBN
        go_wp2
        go_roundw
        case rel => exact ⟨0 + 1, by go_num, by omega, HN.out, hb5⟩
        case measure => first | (simp [intOf]; done) | (simp [intOf]; omega)
      · have cw' : (ow == 0) = false := by simpa using cw
        obtain ⟨aa, haa⟩ : ∃ x, r - ob = x := ⟨_, rfl⟩
        rw [haa] at HGI
        have aa1 : aa ≤ 100000 := by omega
        have aa0 : -20000000 ≤ aa := by omega
        by_cases ca : aa < 0
        · have HN : Hid (BadTo n Mn Mx Wt r (0 + 1)) := HBN.out fun hg => by have := (HGI.1 hg).2.1; omega
          clear HGI HBN
          go_wp2
          go_roundw
          case rel => exact ⟨0 + 1, by go_num, by omega, HN.out, hb5⟩
          case measure => first | (simp [intOf]; done) | (simp [intOf]; omega)
        · have HG := HGI
          clear HGI

          by_cases cx : aa * 1 < 0 * ow
          · exact absurd cx (by omega)
          · have hT := CT.out aa ow w5 (HW.out.below hb5) ⟨by omega, by omega⟩ ⟨by omega, by omega⟩
            obtain ⟨tt, htt⟩ : ∃ x, totI n Mn Mx Wt aa ow = x := ⟨_, rfl⟩
            obtain ⟨rw, hrw⟩ : ∃ x, r * ow = x := ⟨_, rfl⟩
            have rwb := prod_bd r0 r1 ow0 ow1 (by omega)
            rw [hrw] at rwb
            obtain ⟨rwc, rwd⟩ := rwb
            rw [htt] at hT
            have HT : Hid (Calls Try.prog 26 #[.slice (some ⟨blk, off, none⟩) n cap, .int .i64 aa, .int .i64 ow] w5 fun e w' => e = .returned (.int .i64 tt) ∧ Below w5.heap.size w5 w') := hT
            have HTT : Hid (totI n Mn Mx Wt aa ow = tt) := htt
            have HRW : Hid (r * ow = rw) := hrw
            have HN : Hid (¬ goodAt n Mn Mx Wt r 0 1 → BadTo n Mn Mx Wt r (0 + 1)) := HBN.out
            have HGc : Hid (goodAt n Mn Mx Wt r 0 1 → totI n Mn Mx Wt aa ow = r * ow) := fun hg => (HG.1 hg).2.2.2
            clear HG hT htt HBN
            go_wp2_with fail
            refine Calls.mono HT.out ?_
            rintro e w6 ⟨rfl, b6⟩
            have hb6 : Below w.heap.size w w6 := hb5.trans (b6.mono hs5)
            clear b6 HT
            by_cases cT : tt = rw
            · have HR : Hid (PourR n Mn Mx Wt r aa ow) := .inr ⟨by omega, ow1, by omega, by omega, by rw [HTT.out, HRW.out]; exact cT⟩
              subst cT
              clear hb5 HTT HRW HGc HN
              go_wp2
              go_ret2
              exact ⟨aa, ow, rfl, HR.out, hb6⟩
            · have HN2 : Hid (BadTo n Mn Mx Wt r (0 + 1)) := HN.out fun hg => cT (by have := HGc.out hg; rw [HTT.out, HRW.out] at this; exact this)
              have cT' : (tt == rw) = false := by simpa using cT
              clear hb5 HTT HRW HGc HN
              go_wp2
              go_roundw
              case rel => exact ⟨0 + 1, by go_num, by omega, HN2.out, hb6⟩
              case measure => first | (simp [intOf]; done) | (simp [intOf]; omega)
    | j + 1 =>
      by_cases hjn : j < n
      · have hji : ((j + 1 : Nat) : Int) - 1 = (j : Int) := by omega
        rw [hji]
        have hjn' : (j : Int) < (n : Int) := by omega
        have hw1 := HW.out.below hbw
        obtain ⟨c0, c1, c2⟩ := hw1.2 j hjn
        have hz := hw1.1
        have hm := HM.out j
        obtain ⟨a1, ha1⟩ : ∃ x, Mn j = x := ⟨_, rfl⟩
        obtain ⟨a2, ha2⟩ : ∃ x, Mx j = x := ⟨_, rfl⟩
        obtain ⟨a3, ha3⟩ : ∃ x, Wt j = x := ⟨_, rfl⟩
        obtain ⟨pp, hpp⟩ : ∃ x, a2 - a1 = x := ⟨_, rfl⟩
        rw [ha1] at c0
        rw [ha2] at c1
        rw [ha3] at c2
        rw [ha1, ha2, ha3] at hm
        obtain ⟨d1, d2, d3, d4, d5⟩ := hm
        have HBN : Hid (¬ (0 < a3 ∧ goodAt n Mn Mx Wt r pp a3) → BadTo n Mn Mx Wt r (j + 1 + 1)) := fun h => by
          refine ⟨fun _ => HBad.out.1 (by omega), fun i hi hwi => ?_⟩
          by_cases e : i = j
          · subst e
            rw [ha1, ha2, ha3, hpp]
            rw [ha3] at hwi
            exact fun hg => h ⟨hwi, hg⟩
          · exact HBad.out.2 i (by omega) hwi
        clear ha1 ha2 ha3 hw1 HBad
        by_cases c3 : a3 = 0
        · have HN : Hid (BadTo n Mn Mx Wt r (j + 1 + 1)) := HBN.out (by omega)
          subst c3
          clear HBN
          go_wp2
          go_roundw
          case rel => exact ⟨j + 1 + 1, by go_num, by omega, HN.out, hbw⟩
          case measure => first | (simp [intOf]; done) | (simp [intOf]; omega)
        · have c3' : (a3 == 0) = false := by simpa using c3
          have HBN2 : Hid (¬ goodAt n Mn Mx Wt r pp a3 → BadTo n Mn Mx Wt r (j + 1 + 1)) := fun h => HBN.out fun hg => h hg.2
          clear HBN
          have wpp : IntKind.i64.wrap pp = pp := IntWalk.i64_in _ ⟨by omega, by omega⟩
          have HWW : WRow wr.drew blk off n Mn Mx Wt := HW.out.below (below_drewN hbw 1)
          have HBW : Hid (Below w.heap.size w wr.drew) := below_drewN hbw 1
          have c2d : wr.drew.cell? ⟨blk, off + j * 3 + 2, none⟩ = some (.int .i64 a3) := c2
          have pp0 : 0 ≤ pp := by omega
          have pp1 : pp ≤ 100000 := by omega
          have a30 : 1 ≤ a3 := by omega
          clear hbw
          go_wp2_with fail
          go_big_region
          go_wp2_with fail
          clear hpp
          have HO := CO.out pp a3 wr.drew HWW ⟨by omega, by omega⟩ ⟨by omega, by omega⟩
          have hob := HOB.out pp a3
          obtain ⟨ow, how⟩ : ∃ x, opW n Mn Mx Wt pp a3 = x := ⟨_, rfl⟩
          obtain ⟨ob, hob2⟩ : ∃ x, opB n Mn Mx Wt pp a3 = x := ⟨_, rfl⟩
          rw [how, hob2] at HO hob
          have HOc : Hid (Calls Try.prog 25 #[.slice (some ⟨blk, off, none⟩) n cap, .int .i64 pp, .int .i64 a3] wr.drew fun e w' => e = .returned (.tuple #[.int .i64 ow, .int .i64 ob]) ∧ Below wr.drew.heap.size wr.drew w') := HO
          have HGI := good_iff (r := r) how hob2
          obtain ⟨ow0, ow1, ob0, ob1⟩ := hob
          clear HO how hob2
          refine Calls.mono HOc.out ?_
          rintro e w5 ⟨rfl, b5⟩
          have hb5 : Below w.heap.size w w5 := HBW.out.trans (b5.mono HBW.out.size)
          have hs5 := hb5.size
          clear b5 HOc
          by_cases cw : ow = 0
          · have HN : Hid (BadTo n Mn Mx Wt r (j + 1 + 1)) := HBN2.out fun hg => (HGI.1 hg).1 cw
            subst cw
            clear HGI HBN2
            go_wp2
            go_roundw
            case rel => exact ⟨j + 1 + 1, by go_num, by omega, HN.out, hb5⟩
            case measure => first | (simp [intOf]; done) | (simp [intOf]; omega)
          · have cw' : (ow == 0) = false := by simpa using cw
            obtain ⟨aa, haa⟩ : ∃ x, r - ob = x := ⟨_, rfl⟩
            rw [haa] at HGI
            have aa1 : aa ≤ 100000 := by omega
            have aa0 : -20000000 ≤ aa := by omega
            by_cases ca : aa < 0
            · have HN : Hid (BadTo n Mn Mx Wt r (j + 1 + 1)) := HBN2.out fun hg => by have := (HGI.1 hg).2.1; omega
              clear HGI HBN2
              go_wp2
              go_roundw
              case rel => exact ⟨j + 1 + 1, by go_num, by omega, HN.out, hb5⟩
              case measure => first | (simp [intOf]; done) | (simp [intOf]; omega)
            · have HG := HGI
              clear HGI
              obtain ⟨x1, hx1⟩ : ∃ x, aa * a3 = x := ⟨_, rfl⟩
              obtain ⟨x2, hx2⟩ : ∃ x, pp * ow = x := ⟨_, rfl⟩
              rw [hx1, hx2] at HG
              have x1b := prod_bd (show 0 ≤ aa by omega) (show aa ≤ 100000 by omega) (show 0 ≤ a3 by omega) (show a3 ≤ 100000 by omega) (by omega)
              have x2b := prod_bd (show 0 ≤ pp by omega) (show pp ≤ 100000 by omega) (show 0 ≤ ow by omega) ow1 (by omega)
              rw [hx1] at x1b
              rw [hx2] at x2b
              obtain ⟨x1c, x1d⟩ := x1b
              obtain ⟨x2c, x2d⟩ := x2b
              by_cases cx : x1 < x2
              · have HN : Hid (BadTo n Mn Mx Wt r (j + 1 + 1)) := HBN2.out fun hg => by have := (HG.1 hg).2.2.1; omega
                clear HG HBN2
                go_wp2
                go_roundw
                case rel => exact ⟨j + 1 + 1, by go_num, by omega, HN.out, hb5⟩
                case measure => first | (simp [intOf]; done) | (simp [intOf]; omega)
              · have hT := CT.out aa ow w5 (HW.out.below hb5) ⟨by omega, by omega⟩ ⟨by omega, by omega⟩
                obtain ⟨tt, htt⟩ : ∃ x, totI n Mn Mx Wt aa ow = x := ⟨_, rfl⟩
                obtain ⟨rw, hrw⟩ : ∃ x, r * ow = x := ⟨_, rfl⟩
                have rwb := prod_bd r0 r1 ow0 ow1 (by omega)
                rw [hrw] at rwb
                obtain ⟨rwc, rwd⟩ := rwb
                rw [htt] at hT
                have HT : Hid (Calls Try.prog 26 #[.slice (some ⟨blk, off, none⟩) n cap, .int .i64 aa, .int .i64 ow] w5 fun e w' => e = .returned (.int .i64 tt) ∧ Below w5.heap.size w5 w') := hT
                have HTT : Hid (totI n Mn Mx Wt aa ow = tt) := htt
                have HRW : Hid (r * ow = rw) := hrw
                have HN : Hid (¬ goodAt n Mn Mx Wt r pp a3 → BadTo n Mn Mx Wt r (j + 1 + 1)) := HBN2.out
                have HGc : Hid (goodAt n Mn Mx Wt r pp a3 → totI n Mn Mx Wt aa ow = r * ow) := fun hg => (HG.1 hg).2.2.2
                clear HG hT htt HBN2
                go_wp2_with fail
                refine Calls.mono HT.out ?_
                rintro e w6 ⟨rfl, b6⟩
                have hb6 : Below w.heap.size w w6 := hb5.trans (b6.mono hs5)
                clear b6 HT
                by_cases cT : tt = rw
                · have HR : Hid (PourR n Mn Mx Wt r aa ow) := .inr ⟨by omega, ow1, by omega, by omega, by rw [HTT.out, HRW.out]; exact cT⟩
                  subst cT
                  clear hb5 HTT HRW HGc HN
                  go_wp2
                  go_ret2
                  exact ⟨aa, ow, rfl, HR.out, hb6⟩
                · have HN2 : Hid (BadTo n Mn Mx Wt r (j + 1 + 1)) := HN.out fun hg => cT (by have := HGc.out hg; rw [HTT.out, HRW.out] at this; exact this)
                  have cT' : (tt == rw) = false := by simpa using cT
                  clear hb5 HTT HRW HGc HN
                  go_wp2
                  go_roundw
                  case rel => exact ⟨j + 1 + 1, by go_num, by omega, HN2.out, hb6⟩
                  case measure => first | (simp [intOf]; done) | (simp [intOf]; omega)
      · obtain rfl : n = j := by omega
        have hjn' : ¬ ((n + 1 : Nat) : Int) - 1 < (n : Int) := by omega
        have HR : Hid (PourR n Mn Mx Wt r 0 0) := .inl ⟨rfl, rfl, HBad.out⟩
        clear HBad
        go_wp2
        go_ret2
        exact ⟨0, 0, rfl, HR.out, hbw⟩

end Go.Proofs.Ytmlicipdkbeihac
