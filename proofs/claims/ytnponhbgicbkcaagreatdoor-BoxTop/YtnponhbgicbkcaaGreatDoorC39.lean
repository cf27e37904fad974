import Derived.RangeFuncNested
import Derived.RangeFuncBound
import Derived.RangeFuncCalls
import Derived.RangeFuncLeaves
import Derived.RangeFuncBox
import Derived.Shelf.Abstract
import Derived.Shelf.RegionOpen
import Derived.WalkKit
import Derived.OwnWalkIn
import Derived.TacticsInMore
import Derived.LoopNIn
import Derived.LoopIn
import Derived.Sort.CutIn
import Derived.Test.YtnponhbgicbkcaaGreatDoorC38
import Derived.Test.YtnponhbgicbkcaaGreatDoorC24
import Derived.Maps.AppendAt
import Derived.Test.YtnponhbgicbkcaaGreatDoorC01
set_option linter.unusedVariables false
set_option maxRecDepth 100000
set_option maxHeartbeats 16000000
namespace Go.Proofs.YtnponhbgicbkcaaGreatDoor
section
open Go.RowKit Go.Shelf
attribute [local go_sem] Oper.semAt_some
def z7b(Bw:Nat)(W W':World):Prop:=(∀ (k:Nat) (c:Array Value) (fz:Nat×Nat),W.heap[k]?=some (.cells c 239 fz)->W'.heap[k]?=some (.cells c 239 fz))∧W'.heap[Bw]?=W.heap[Bw]?
theorem z7b.trans{Bw:Nat}{A B C:World}(h:z7b Bw A B)(k:z7b Bw B C):z7b Bw A C:=⟨fun i c fz e=>k.1 i c fz (h.1 i c fz e),k.2.trans h.2⟩
theorem zlp{Bw:Nat}{W W':World}(h:z7b Bw W W'){B n:Nat}{v:Value}{xs:List Value}(ho:W.ownsRow B 239 2 v n xs):W'.ownsRow B 239 2 v n xs:=by
 refine⟨ho.1,ho.2.imp id ?_⟩
 rintro ⟨g,cap,cur,e1,e2,e3,e4⟩
 exact⟨g,cap,cur,e1,e2,h.1 g cur _ e3,e4⟩
theorem z60{W W':World}(h:Below W.heap.size W W'):W.grownBy W' none:=⟨h.os,h.tape,h.output,h.size,fun k hk _=>h.block k hk⟩
theorem zh7{w:World}{B:Nat}{v:Value}{l:List (List UInt8×Int)}(h:w.ownsRow B 239 2 v l.length (z2a l)):ClsC w v l:=(zof h).clsC
theorem ziv{w w':World}{B n:Nat}{e:TypeId}{v:Value}{xs:List Value}(h:w.ownsRow B e 2 v n xs)(hb:Below w.heap.size w w'):w'.ownsRow B e 2 v n xs:=by
 refine⟨h.1,h.2.imp id ?_⟩
 rintro ⟨g,cap,cur,e1,e2,e3,e4⟩
 exact⟨g,cap,cur,e1,e2,(hb.block g (Array.getElem?_eq_some_iff.1 e3).1).trans e3,e4⟩
theorem zoe{w:World}{b off cap a n:Nat}{l:List (List UInt8×Int)}(hn:a+n≤l.length)(hcap:l.length≤cap)(hmax:cap≤maxLen)(hb:b<w.heap.size)(hc:∀j (hj:j<l.length),w.cell? ⟨b,off+j*2,none⟩=some (.string ⟨(l[j]).1.toArray⟩)∧w.cell? ⟨b,off+j*2+1,none⟩=some (.int .i64 (l[j]).2)) :
 ClsC w (.slice (if cap=a then some ⟨b,off,none⟩ else some ⟨b,off+a*2,none⟩) n (cap - a)) ((l.drop a).take n):=by
 have hl:((l.drop a).take n).length=n:=by rw[List.length_take,List.length_drop];omega
 refine⟨_,_,by rw[hl],by rw[hl];omega,by omega,?_⟩
 by_cases e:cap=a
 ·left;exact List.length_eq_zero_iff.1 (by rw[hl];omega)
 ·right
  rw[if_neg e]
  refine⟨b,off+a*2,rfl,hb,fun j hj=>?_⟩
  rw[hl] at hj
  have:=hc (a+j) (by omega)
  rw[List.getElem_take,List.getElem_drop,show off+a*2+j*2=off+(a+j)*2 by omega]
  exact this
def lnV(x:Ln):Array Value:=#[.agg #[.string ⟨x.T.toArray⟩,.int .i64 x.W,.int .i64 x.F,.int .i64 x.N,.int .i64 x.E]]
theorem zol(n : Nat)(hn : 3 ≤ n)(k0 Bw Bs : Nat)(s : ByteArray)(w : Int)(l : List (List UInt8 × Int))(hl : clus (z0p s.data.toList) = l)(hs : s.size ≤ 68719476736)(hw0 : -9223372036854775808 ≤ w)(hw1 : w ≤ 9223372036854775807)(J Jx : List Ln -> World -> Prop)(W : World)
    (hJ : AbidesFrom W.heap.size J)
    (hY : ∀ pre x W1, J pre W1 -> pre.length < l.length + 1 -> YieldAt Fence.wide (n - 1) Tryz.prog k0 (lnV x) W1 fun e W' =>
      (e = .returned (.bool true) ∧ J (pre ++ [x]) W' ∧ z7b Bw W1 W') ∨ (e = .returned (.bool false) ∧ Jx (pre ++ [x]) W'))
    (ht : ∀ W', Below W.heap.size W W' -> z0y W')
    (hBw : W.heap[Bw]? = some (.cells #[.int .i64 w] 3 (0, 0))) (hBs : W.heap[Bs]? = some (.cells #[.string s] 9 (0, 0))) (h0 : J [] W) :
    CallsIn Fence.wide n Tryz.prog 184 #[.func (.yield k0) #[] #[], .pointer (some ⟨Bw, 0, none⟩), .pointer (some ⟨Bs, 0, none⟩)] W fun e W' => (∃ v, e = .returned v) ∧
      ((∃ ys, ys = z2j l w ∧ J ys W') ∨ (∃ pre, True ∧ Jx pre W')) := by
  have hsl : s.data.toList.length = s.size := by rw [Array.length_toList]; rfl
  have hR := z26 s.data.toList
  have hC := z47 (z0p s.data.toList)
  have hbd := z8x (z0p s.data.toList)
  have hsh := zhx (z0p s.data.toList)
  rw [hsl] at hR
  rw [hl] at hC hbd hsh
  have cw : W.cell? ⟨Bw, 0, none⟩ = some (.int .i64 w) := by simp [World.cell?, hBw]
  have cs : W.cell? ⟨Bs, 0, none⟩ = some (.string s) := by simp [World.cell?, hBs]
  have HBw : Hid (W.heap[Bw]? = some (.cells #[.int .i64 w] 3 (0, 0))) := hBw
  have HBD : Hid (∀ c ∈ l, 0 ≤ c.2 ∧ c.2 ≤ 2) := hbd
  have HSH : Hid (∀ c ∈ l, c.1.length ≤ 20) := hsh
  have HL : Hid (clus (z0p s.data.toList) = l) := hl
  have HT : Hid (∀ W', Below W.heap.size W W' -> z0y W') := ht
  have HJ : Hid (AbidesFrom W.heap.size J) := hJ
  have HY : Hid (∀ pre x W1, J pre W1 -> pre.length < l.length + 1 -> YieldAt Fence.wide (n - 1) Tryz.prog k0 (lnV x) W1 fun e W' =>
      (e = .returned (.bool true) ∧ J (pre ++ [x]) W' ∧ z7b Bw W1 W') ∨ (e = .returned (.bool false) ∧ Jx (pre ++ [x]) W')) := hY
  clear hBw hBs hbd hsh hl ht hJ hY hsl
  refine callsIn_of_wp Tryz.func184 rfl trivial ?_ rfl
  simp only [Tryz.ntmps184, List.size_toArray, List.length_cons, List.length_nil, Nat.reduceAdd, Nat.reduceSub, Array.replicate_succ, Array.replicate_zero, List.push_toArray, List.append_toArray, List.nil_append, List.cons_append]
  by_cases hlt : w < 1
  · have HE : Hid (z2j l w = []) := by show _ = _; rw [z2j, if_pos hlt]
    gi_wp2
    refine bodyPost_ret (results_none rfl _ _ _) rfl ?_
    exact ⟨⟨_, rfl⟩, .inl ⟨[], HE.out.symm, h0⟩⟩
  have HE : Hid (z2j l w = z3f l w 0) := by show _ = _; rw [z2j, if_neg hlt]
  have hw1' : 1 ≤ w := by omega
  have G : Hid (Calls Tryz.prog 162 #[.string s] W fun e w' => ∃ v, e = .returned v ∧ w'.ownsRow W.heap.size 239 2 v l.length (z2a l) ∧ Below W.heap.size W w') := by
    have := z6l s W (HT.out W (Below.refl _ _)) (by omega)
    rw [HL.out] at this; exact this
  gi_wp2_with fail
  refine ⟨trivial, fun _ => by omega, (callsIn_wide.2 G.out).mono ?_⟩
  rintro e w1 ⟨v1, rfl, o1, b1⟩
  have HO1 : Hid (w1.ownsRow W.heap.size 239 2 v1 l.length (z2a l)) := o1
  have j1 : J [] w1 := HJ.out [] W w1 none h0 (z60 b1) (fun r e => by cases e)
  have hBwl : Bw < W.heap.size := (Array.getElem?_eq_some_iff.1 HBw.out).1
  have w1Bw : Hid (w1.heap[Bw]? = some (.cells #[.int .i64 w] 3 (0, 0))) := (b1.block Bw hBwl).trans HBw.out
  have hs1 := b1.size
  obtain ⟨a1, cap, rfl, hcap, hmax, hh1⟩ := zh7 o1
  clear G HBw cw cs o1 hh1
  gi_wp2
  gi_loopw [5] (fun p wr => ∃ (a : Nat) (pre : List Ln), p = .int .i64 a ∧ a ≤ l.length ∧ Hid (pre ++ z3f l w a = z3f l w 0) ∧ Hid (wr.ownsRow W.heap.size 239 2 (.slice a1 l.length cap) l.length (z2a l)) ∧ Hid (wr.heap[Bw]? = some (.cells #[.int .i64 w] 3 (0, 0))) ∧ J pre wr) (fun p _ => l.length - (intOf p).toNat)
  case atStart => exact ⟨0, [], rfl, Nat.zero_le _, rfl, HO1.out, w1Bw.out, j1⟩
  case round =>
    obtain ⟨a, pre, rfl, ha, hpre, hown, hbw, hJs⟩ := hrel
    have cw : wr.cell? ⟨Bw, 0, none⟩ = some (.int .i64 w) := by have := hbw.out; simp [World.cell?, this]
    have hBwr : Bw < wr.heap.size := (Array.getElem?_eq_some_iff.1 hbw.out).1
    clear j1 HO1 w1Bw b1
    have hcs : (l = [] ∧ a1 = none ∧ cap = 0) ∨ ∃ b, a1 = some ⟨b, 0, none⟩ := by
      rcases hown.out.2 with ⟨e1, e2⟩ | ⟨g, cp, cur, e1, _⟩
      · injection e1 with e3 e4 e5
        exact .inl ⟨List.length_eq_zero_iff.1 e2, e3, e5⟩
      · injection e1 with e3 e4 e5
        exact .inr ⟨g, e3⟩
    have hal : (a : Int) ≤ (l.length : Int) := by omega
    have hlc : (l.length : Int) ≤ (cap : Int) := by omega
    rcases hcs with ⟨e1, rfl, rfl⟩ | ⟨b, rfl⟩
    · have hmx : Tryz.prog.follows .mixedOrders = true := by kernel_rfl
      have hl0 : l.length = 0 := by rw [e1]; rfl
      obtain rfl : a = 0 := by omega
      have hLn : lnAt l w 0 = ⟨[], 0, 0, 0, 3⟩ := by
        rw [e1]
        have h1 : ¬ w < 0 := by omega
        simp [lnAt, z0g, fitN, z0m, z05, h1]
      have HLN2 : Hid (lnAt l w 0 = ⟨[], 0, 0, 0, 3⟩) := hLn
      have HF : Hid (z2j l w = pre ++ [lnAt l w 0]) := by
        show _ = _
        rw [HE.out, <- hpre.out, z7q (Nat.zero_le _) (by rw [hLn])]
      have hpl : pre.length < l.length + 1 := by
        have := congrArg List.length hpre.out
        have h2 := (z4e l w 0 (Nat.zero_le _)).1
        rw [List.length_append] at this
        omega
      have hcl0 : ∀ w', ClsC w' (.slice none 0 0) [] := fun w' => ⟨none, 0, rfl, Nat.le_refl _, Nat.zero_le _, .inl rfl⟩
      have HFL : Hid (Calls Tryz.prog 185 #[.slice none 0 0, .int .i64 w] wr.drew fun e w' => e = .returned (.tuple #[.int .i64 0, .int .i64 0, .int .i64 3]) ∧ Below wr.heap.size wr w') := by
        refine (z6h [] _ w wr.drew (hcl0 _) (by simp) (by simp) hw1' hw1).mono ?_
        rintro e w2 ⟨rfl, b2⟩
        exact ⟨by simp [z0g, fitN], ((Below.refl wr.heap.size wr).drew).trans b2⟩
      have HLO : Hid (∀ w', Calls Tryz.prog 186 #[.slice none 0 0, .int .i64 w] w' fun e w2 => e = .returned (.agg #[.string ⟨#[]⟩, .int .i64 0, .int .i64 0, .int .i64 0, .int .i64 0]) ∧ Below w'.heap.size w' w2) := by
        intro w'
        refine (zb0 [] _ w w' (hcl0 w').cls (by simp) (by simp) (by simp [z0m]) hw1' (fun h => by simp [z05] at h; omega)).mono ?_
        rintro e w2 ⟨rfl, b2⟩
        refine ⟨?_, b2⟩
        have h1 : ¬ w < 0 := by omega
        simp [zdq, zsj, z0m, z05, h1]
      rw [hl0]
      clear hLn hcl0
      gi_wp2_with fail
      gi_cut [6, 7, 8] from 14 (fun x y z wx => x = .int .i64 0 ∧ y = .int .i64 0 ∧ z = .int .i64 3 ∧ Below wr.heap.size wr wx)
      case first =>
        gi_region_with_o (refine ⟨trivial, fun _ => by omega, (callsIn_wide.2 HFL.out).mono ?_⟩; rintro e wq ⟨rfl, bq⟩)
        all_goals (gi_wp2_with fail)
        all_goals (gi_meet)
        all_goals (exact ⟨rfl, rfl, rfl, bq⟩)
      case rest =>
        obtain ⟨rfl, rfl, rfl, bx⟩ := hcut
        have hsx := bx.size
        have cwx : wc.cell? ⟨Bw, 0, none⟩ = some (.int .i64 w) := (bx.cell (p := ⟨Bw, 0, none⟩) hBwr).trans cw
        have hBwc : Bw < wc.heap.size := by omega
        have hBwn : ¬ Bw = wc.heap.size := by omega
        clear cw HFL
        gi_wp2_with fail
        gi_cut [9] from 14 (fun p wx => ∃ B, p = .pointer (some ⟨B, 0, none⟩) ∧ wr.heap.size ≤ B ∧ wx.heap[B]? = some (.cells #[.string ⟨#[]⟩, .int .i64 0, .int .i64 0, .int .i64 0, .int .i64 0] 267 (0, 0)) ∧ Below wr.heap.size wr wx)
        case first =>
          have HLG : Hid (∀ w', (w' = wc.drew ∨ w' = (wc.alloc (.cells #[.string ⟨#[]⟩, .int .i64 0, .int .i64 0, .int .i64 0, .int .i64 0] 267)).drew) -> Calls Tryz.prog 186 #[.slice none 0 0, .int .i64 w] w' fun e w2 => e = .returned (.agg #[.string ⟨#[]⟩, .int .i64 0, .int .i64 0, .int .i64 0, .int .i64 0]) ∧ Below wr.heap.size wr w2 ∧
              (w' = (wc.alloc (.cells #[.string ⟨#[]⟩, .int .i64 0, .int .i64 0, .int .i64 0, .int .i64 0] 267)).drew -> wc.heap.size < w2.heap.size ∧ w2.heap[wc.heap.size]? = some (.cells #[.string ⟨#[]⟩, .int .i64 0, .int .i64 0, .int .i64 0, .int .i64 0] 267 (0, 0)))) := by
            intro w' hw'
            have hbw' : Below wr.heap.size wr w' := by
              rcases hw' with rfl | rfl
              · exact bx.drew
              · exact (bx.alloc hsx _).drew
            refine (HLO.out w').mono ?_
            rintro e w2 ⟨rfl, b2⟩
            refine ⟨rfl, hbw'.trans (b2.mono hbw'.size), ?_⟩
            rintro rfl
            have hlt3 : wc.heap.size < (wc.alloc (.cells #[.string ⟨#[]⟩, .int .i64 0, .int .i64 0, .int .i64 0, .int .i64 0] 267)).drew.heap.size := by
              show wc.heap.size < (wc.alloc _).heap.size
              rw [World.size_alloc]; omega
            exact ⟨Nat.lt_of_lt_of_le hlt3 b2.size, (b2.block _ hlt3).trans (heap_alloc_new wc _)⟩
          have HLA : Hid (Calls Tryz.prog 186 #[.slice none 0 0, .int .i64 w] wc.drew fun e w2 => e = .returned (.agg #[.string ⟨#[]⟩, .int .i64 0, .int .i64 0, .int .i64 0, .int .i64 0]) ∧ Below wr.heap.size wr w2) := by
            refine (HLG.out _ (Or.inl rfl)).mono ?_
            rintro e w2 ⟨h1, h2, _⟩
            exact ⟨h1, h2⟩
          have HLB : Hid (Calls Tryz.prog 186 #[.slice none 0 0, .int .i64 w] (wc.alloc (.cells #[.string ⟨#[]⟩, .int .i64 0, .int .i64 0, .int .i64 0, .int .i64 0] 267)).drew fun e w2 => e = .returned (.agg #[.string ⟨#[]⟩, .int .i64 0, .int .i64 0, .int .i64 0, .int .i64 0]) ∧ Below wr.heap.size wr w2 ∧ wc.heap.size < w2.heap.size ∧ w2.heap[wc.heap.size]? = some (.cells #[.string ⟨#[]⟩, .int .i64 0, .int .i64 0, .int .i64 0, .int .i64 0] 267 (0, 0))) := by
            refine (HLG.out _ (Or.inr rfl)).mono ?_
            rintro e w2 ⟨h1, h2, h3⟩
            exact ⟨h1, h2, (h3 rfl).1, (h3 rfl).2⟩
          clear HLO HLG
          gi_region_with_o (refine ⟨trivial, fun _ => by omega, ?_⟩; (first | (refine (callsIn_wide.2 HLA.out).mono ?_; rintro e wq ⟨rfl, bq⟩) | (refine (callsIn_wide.2 HLB.out).mono ?_; rintro e wq ⟨rfl, bq, hzl, hzr⟩; have q0 : wq.cell? ⟨wc.heap.size, 0, none⟩ = some (.string ⟨#[]⟩) := (by simp [World.cell?, hzr]); have q1 : wq.cell? ⟨wc.heap.size, 1, none⟩ = some (.int .i64 0) := (by simp [World.cell?, hzr]); have q2 : wq.cell? ⟨wc.heap.size, 2, none⟩ = some (.int .i64 0) := (by simp [World.cell?, hzr]); have q3 : wq.cell? ⟨wc.heap.size, 3, none⟩ = some (.int .i64 0) := (by simp [World.cell?, hzr]); have q4 : wq.cell? ⟨wc.heap.size, 4, none⟩ = some (.int .i64 0) := (by simp [World.cell?, hzr]); have fr : ∀ j, wq.frozen? ⟨wc.heap.size, j, none⟩ = false := (fun j => frozen_of_row _ _ _ _ _ hzr); have HZR : Hid (wq.heap[wc.heap.size]? = some (.cells #[.string ⟨#[]⟩, .int .i64 0, .int .i64 0, .int .i64 0, .int .i64 0] 267 (0, 0))) := hzr; clear hzr)))
          all_goals (gi_wp2_with fail)
          all_goals (gi_meet)
          all_goals (first
            | exact ⟨_, rfl, bq.size, heap_alloc_new _ _, bq.alloc bq.size _⟩
            | exact ⟨_, rfl, hsx, row5 HZR.out, ((((bq.setCell (p := ⟨wc.heap.size, 0, none⟩) hsx _).setCell (p := ⟨wc.heap.size, 1, none⟩) hsx _).setCell (p := ⟨wc.heap.size, 2, none⟩) hsx _).setCell (p := ⟨wc.heap.size, 3, none⟩) hsx _).setCell (p := ⟨wc.heap.size, 4, none⟩) hsx _⟩)
        case rest =>
          obtain ⟨B, rfl, hB, hrow, by2⟩ := hcut
          have hsy := by2.size
          have q0 : wc.cell? ⟨B, 0, none⟩ = some (.string ⟨#[]⟩) := by simp [World.cell?, hrow]
          have q1 : wc.cell? ⟨B, 1, none⟩ = some (.int .i64 0) := by simp [World.cell?, hrow]
          have q2 : wc.cell? ⟨B, 2, none⟩ = some (.int .i64 0) := by simp [World.cell?, hrow]
          have q3 : wc.cell? ⟨B, 3, none⟩ = some (.int .i64 0) := by simp [World.cell?, hrow]
          have q4 : wc.cell? ⟨B, 4, none⟩ = some (.int .i64 0) := by simp [World.cell?, hrow]
          have fr : ∀ j, wc.frozen? ⟨B, j, none⟩ = false := fun j => frozen_of_row _ _ _ _ _ hrow
          have bz : Below wr.heap.size wr ((wc.setCell ⟨B, 2, none⟩ (.int .i64 0)).setCell ⟨B, 4, none⟩ (.int .i64 3)) := (by2.setCell (p := ⟨B, 2, none⟩) hB _).setCell (p := ⟨B, 4, none⟩) hB _
          have jz : J pre ((wc.setCell ⟨B, 2, none⟩ (.int .i64 0)).setCell ⟨B, 4, none⟩ (.int .i64 3)) := HJ.out pre wr _ none hJs (z60 bz) (fun r e => by cases e)
          obtain ⟨fn, tmps, assign, body, hy, hR⟩ := HY.out pre (lnAt l w 0) _ jz hpl
          rw [HLN2.out] at hy
          change (Instr.yield k0 #[.agg #[.string ⟨#[]⟩, .int .i64 0, .int .i64 0, .int .i64 0, .int .i64 3]]).run Tryz.prog _ = _ at hy
          have HR : Hid (RoundIn Fence.wide (n - 1) Tryz.prog k0 fn tmps assign body ((wc.setCell ⟨B, 2, none⟩ (.int .i64 0)).setCell ⟨B, 4, none⟩ (.int .i64 3)) fun e W' =>
      (e = .returned (.bool true) ∧ J (pre ++ [lnAt l w 0]) W' ∧ z7b Bw ((wc.setCell ⟨B, 2, none⟩ (.int .i64 0)).setCell ⟨B, 4, none⟩ (.int .i64 3)) W') ∨ (e = .returned (.bool false) ∧ Jx (pre ++ [lnAt l w 0]) W')) := hR
          clear hrow cwx hR jz
          gi_wp2
          refine ⟨fun _ => by omega, HR.out.mono ?_⟩
          clear HR hy
          rintro e W3 (⟨rfl, hJ3, hk3⟩ | ⟨rfl, hJx3⟩)
          · gi_wp2
            refine bodyPost_ret (results_none rfl _ _ _) rfl ?_
            exact ⟨⟨_, rfl⟩, .inl ⟨_, HF.out.symm, hJ3⟩⟩
          · gi_wp2
            refine bodyPost_ret (results_none rfl _ _ _) rfl ?_
            exact ⟨⟨_, rfl⟩, .inr ⟨_, trivial, hJx3⟩⟩
    · have hmx : Tryz.prog.follows .mixedOrders = true := by kernel_rfl
      have hle := zd7 (l.drop a) w
      rw [List.length_drop] at hle
      have HX : Hid (z3f l w a = if (lnAt l w a).E = 3 then [lnAt l w a] else lnAt l w a :: z3f l w (nxt l w a)) := by
        show _ = _
        by_cases h : (lnAt l w a).E = 3
        · rw [if_pos h, z7q ha h]
        · rw [if_neg h, z9d ha h]
      have HNL : Hid ((lnAt l w a).E ≠ 3 -> a < nxt l w a) := zh6 l w a
      have HNX : Hid (nxt l w a = a + (z0g (l.drop a) w).n + (z0g (l.drop a) w).d) := rfl
      have hlA := (z4e l w a ha).1
      have hlA0 := (z4e l w 0 (Nat.zero_le _)).2
      have hcl : ∀ w', Below wr.heap.size wr w' -> ∀ n, a + n ≤ l.length -> ClsC w' (.slice (if cap = a then some ⟨b, 0, none⟩ else some ⟨b, a * 2, none⟩) n (cap - a)) ((l.drop a).take n) := by
        intro w' hb n hn
        obtain ⟨a', cap', e1, _, _, hh⟩ := (zh7 hown.out).below hb
        cases e1
        rcases hh with hh | ⟨b', off', e2, hb', hc'⟩
        · subst hh
          have e0 : n = 0 := by simp at hn; omega
          subst e0
          exact ⟨_, _, rfl, by simp, by omega, .inl (by simp)⟩
        · cases e2
          have := zoe (a := a) (n := n) hn hcap hmax hb' hc'
          simpa using this
      have HCL : Hid (∀ w', Below wr.heap.size wr w' -> ∀ n, a + n ≤ l.length -> ClsC w' (.slice (if cap = a then some ⟨b, 0, none⟩ else some ⟨b, a * 2, none⟩) n (cap - a)) ((l.drop a).take n)) := hcl
      have hFL : Calls Tryz.prog 185 #[.slice (if cap = a then some ⟨b, 0, none⟩ else some ⟨b, a * 2, none⟩) (l.length - a) (cap - a), .int .i64 w] wr.drew fun e w' => e = .returned (.tuple #[.int .i64 (z0g (l.drop a) w).n, .int .i64 (z0g (l.drop a) w).d, .int .i64 (z0g (l.drop a) w).e]) ∧ Below wr.heap.size wr w' := by
        have h1 := hcl wr.drew ((Below.refl _ _).drew) (l.length - a) (by omega)
        rw [List.take_of_length_le (by rw [List.length_drop]; omega)] at h1
        refine (z6h (l.drop a) _ w wr.drew h1 (fun c hc => HBD.out c (List.mem_of_mem_drop hc)) (by rw [List.length_drop]; omega) hw1' hw1).mono ?_
        rintro e w2 ⟨rfl, b2⟩
        exact ⟨rfl, ((Below.refl wr.heap.size wr).drew).trans b2⟩
      have HLO : Hid (∀ w' v, Cls w' v ((l.drop a).take (z0g (l.drop a) w).n) -> Calls Tryz.prog 186 #[v, .int .i64 w] w' fun e w2 => e = .returned (zdq ((l.drop a).take (z0g (l.drop a) w).n) w) ∧ Below w'.heap.size w' w2) := by
        intro w' v hv
        have hb2 : ∀ c ∈ (l.drop a).take (z0g (l.drop a) w).n, 0 ≤ c.2 ∧ c.2 ≤ 2 := fun c hc => HBD.out c (List.mem_of_mem_drop (List.mem_of_mem_take hc))
        have hl2 : ((l.drop a).take (z0g (l.drop a) w).n).length ≤ l.length := by rw [List.length_take, List.length_drop]; omega
        have hj2 := zdf _ (fun c hc => HSH.out c (List.mem_of_mem_drop (List.mem_of_mem_take hc)) : ∀ c ∈ (l.drop a).take (z0g (l.drop a) w).n, c.1.length ≤ 20)
        have hs2 := (z27 _ hb2 ((l.drop a).take (z0g (l.drop a) w).n).length).2
        rw [List.take_length] at hs2
        exact zb0 _ v w w' hv hb2 (by omega) (by omega) hw1' (fun _ => by omega)
      have HLN : Hid (∃ (T : List UInt8) (V : Int) (N : Nat), zdq ((l.drop a).take (z0g (l.drop a) w).n) w = .agg #[.string ⟨T.toArray⟩, .int .i64 V, .int .i64 0, .int .i64 N, .int .i64 0] ∧ lnAt l w a = ⟨T, V, a, N, (z0g (l.drop a) w).e⟩) := by
        by_cases hwd : w < z05 ((l.drop a).take (z0g (l.drop a) w).n)
        · exact ⟨List.replicate w.toNat 32, w, 1, by rw [zdq, if_pos hwd]; rfl, by simp only [lnAt]; rw [if_pos hwd]⟩
        · exact ⟨z0m ((l.drop a).take (z0g (l.drop a) w).n), z05 ((l.drop a).take (z0g (l.drop a) w).n), ((l.drop a).take (z0g (l.drop a) w).n).length, by rw [zdq, if_neg hwd]; rfl, by simp only [lnAt]; rw [if_neg hwd]⟩
      obtain ⟨n1, hn1⟩ : ∃ n1, (z0g (l.drop a) w).n = n1 := ⟨_, rfl⟩
      obtain ⟨d1, hd1⟩ : ∃ d1, (z0g (l.drop a) w).d = d1 := ⟨_, rfl⟩
      obtain ⟨e1, he1⟩ : ∃ e1, (z0g (l.drop a) w).e = e1 := ⟨_, rfl⟩
      rw [hn1, hd1, he1] at hFL
      rw [hn1] at HLO
      rw [hn1, he1] at HLN
      rw [hn1, hd1] at HNX hle
      have HFL : Hid (Calls Tryz.prog 185 #[.slice (if cap = a then some ⟨b, 0, none⟩ else some ⟨b, a * 2, none⟩) (l.length - a) (cap - a), .int .i64 w] wr.drew fun e w' => e = .returned (.tuple #[.int .i64 n1, .int .i64 d1, .int .i64 e1]) ∧ Below wr.heap.size wr w') := hFL
      obtain ⟨pp, hpp⟩ : ∃ pp, (if cap = a then some (⟨b, 0, none⟩ : Addr) else some ⟨b, a * 2, none⟩) = pp := ⟨_, rfl⟩
      rw [hpp] at HFL HCL
      clear hFL hcl hn1 hd1 he1
      gi_wp2_with fail
      gi_cut [6, 7, 8] from 14 (fun x y z wx => x = .int .i64 n1 ∧ y = .int .i64 d1 ∧ z = .int .i64 e1 ∧ Below wr.heap.size wr wx)
      case first =>
        gi_region_with_o (refine ⟨trivial, fun _ => by omega, (callsIn_wide.2 HFL.out).mono ?_⟩; rintro e wq ⟨rfl, bq⟩)
        all_goals (gi_wp2_with fail)
        all_goals (gi_meet)
        all_goals (exact ⟨rfl, rfl, rfl, bq⟩)
      case rest =>
        obtain ⟨rfl, rfl, rfl, bx⟩ := hcut
        have hsx := bx.size
        have cwx : wc.cell? ⟨Bw, 0, none⟩ = some (.int .i64 w) := (bx.cell (p := ⟨Bw, 0, none⟩) hBwr).trans cw
        have hBwc : Bw < wc.heap.size := by omega
        have hBwn : ¬ Bw = wc.heap.size := by omega
        clear cw HFL
        obtain ⟨T, V, N, hlo, hln⟩ := HLN.out
        rw [hlo] at HLO
        have HLN2 : Hid (lnAt l w a = ⟨T, V, a, N, e1⟩) := hln
        have hwr : IntKind.i64.wrap ((a : Int) + (n1 : Int)) = (a : Int) + (n1 : Int) := by
          exact IntWalk.i64_in _ ⟨by omega, by omega⟩
        have hq1 : (0 : Int) ≤ (a : Int) + (n1 : Int) := by omega
        have hq2 : (a : Int) + (n1 : Int) ≤ (cap : Int) := by omega
        have hq3 : ((a : Int) + (n1 : Int)).toNat = a + n1 := by omega
        clear HLN hlo hln
        gi_wp2_with fail
        gi_cut [9] from 14 (fun p wx => ∃ B, p = .pointer (some ⟨B, 0, none⟩) ∧ wr.heap.size ≤ B ∧ wx.heap[B]? = some (.cells #[.string ⟨T.toArray⟩, .int .i64 V, .int .i64 0, .int .i64 N, .int .i64 0] 267 (0, 0)) ∧ Below wr.heap.size wr wx)
        case first =>
          have HLG : Hid (∀ w', (w' = wc.drew ∨ w' = (wc.alloc (.cells #[.string ⟨#[]⟩, .int .i64 0, .int .i64 0, .int .i64 0, .int .i64 0] 267)).drew) -> Calls Tryz.prog 186 #[.slice pp n1 (cap - a), .int .i64 w] w' fun e w2 => e = .returned (.agg #[.string ⟨T.toArray⟩, .int .i64 V, .int .i64 0, .int .i64 N, .int .i64 0]) ∧ Below wr.heap.size wr w2 ∧
              (w' = (wc.alloc (.cells #[.string ⟨#[]⟩, .int .i64 0, .int .i64 0, .int .i64 0, .int .i64 0] 267)).drew -> wc.heap.size < w2.heap.size ∧ w2.heap[wc.heap.size]? = some (.cells #[.string ⟨#[]⟩, .int .i64 0, .int .i64 0, .int .i64 0, .int .i64 0] 267 (0, 0)))) := by
            intro w' hw'
            have hbw' : Below wr.heap.size wr w' := by
              rcases hw' with rfl | rfl
              · exact bx.drew
              · exact (bx.alloc hsx _).drew
            refine (HLO.out w' _ (HCL.out w' hbw' n1 (by omega)).cls).mono ?_
            rintro e w2 ⟨rfl, b2⟩
            refine ⟨rfl, hbw'.trans (b2.mono hbw'.size), ?_⟩
            rintro rfl
            have hlt3 : wc.heap.size < (wc.alloc (.cells #[.string ⟨#[]⟩, .int .i64 0, .int .i64 0, .int .i64 0, .int .i64 0] 267)).drew.heap.size := by
              show wc.heap.size < (wc.alloc _).heap.size
              rw [World.size_alloc]; omega
            exact ⟨Nat.lt_of_lt_of_le hlt3 b2.size, (b2.block _ hlt3).trans (heap_alloc_new wc _)⟩
          have HLA : Hid (Calls Tryz.prog 186 #[.slice pp n1 (cap - a), .int .i64 w] wc.drew fun e w2 => e = .returned (.agg #[.string ⟨T.toArray⟩, .int .i64 V, .int .i64 0, .int .i64 N, .int .i64 0]) ∧ Below wr.heap.size wr w2) := by
            refine (HLG.out _ (Or.inl rfl)).mono ?_
            rintro e w2 ⟨h1, h2, _⟩
            exact ⟨h1, h2⟩
          have HLB : Hid (Calls Tryz.prog 186 #[.slice pp n1 (cap - a), .int .i64 w] (wc.alloc (.cells #[.string ⟨#[]⟩, .int .i64 0, .int .i64 0, .int .i64 0, .int .i64 0] 267)).drew fun e w2 => e = .returned (.agg #[.string ⟨T.toArray⟩, .int .i64 V, .int .i64 0, .int .i64 N, .int .i64 0]) ∧ Below wr.heap.size wr w2 ∧ wc.heap.size < w2.heap.size ∧ w2.heap[wc.heap.size]? = some (.cells #[.string ⟨#[]⟩, .int .i64 0, .int .i64 0, .int .i64 0, .int .i64 0] 267 (0, 0))) := by
            refine (HLG.out _ (Or.inr rfl)).mono ?_
            rintro e w2 ⟨h1, h2, h3⟩
            exact ⟨h1, h2, (h3 rfl).1, (h3 rfl).2⟩
          clear HLO HCL HLG
          gi_region_with_o (refine ⟨trivial, fun _ => by omega, ?_⟩; (first | (refine (callsIn_wide.2 HLA.out).mono ?_; rintro e wq ⟨rfl, bq⟩) | (refine (callsIn_wide.2 HLB.out).mono ?_; rintro e wq ⟨rfl, bq, hzl, hzr⟩; have q0 : wq.cell? ⟨wc.heap.size, 0, none⟩ = some (.string ⟨#[]⟩) := (by simp [World.cell?, hzr]); have q1 : wq.cell? ⟨wc.heap.size, 1, none⟩ = some (.int .i64 0) := (by simp [World.cell?, hzr]); have q2 : wq.cell? ⟨wc.heap.size, 2, none⟩ = some (.int .i64 0) := (by simp [World.cell?, hzr]); have q3 : wq.cell? ⟨wc.heap.size, 3, none⟩ = some (.int .i64 0) := (by simp [World.cell?, hzr]); have q4 : wq.cell? ⟨wc.heap.size, 4, none⟩ = some (.int .i64 0) := (by simp [World.cell?, hzr]); have fr : ∀ j, wq.frozen? ⟨wc.heap.size, j, none⟩ = false := (fun j => frozen_of_row _ _ _ _ _ hzr); have HZR : Hid (wq.heap[wc.heap.size]? = some (.cells #[.string ⟨#[]⟩, .int .i64 0, .int .i64 0, .int .i64 0, .int .i64 0] 267 (0, 0))) := hzr; clear hzr)))
          all_goals (gi_wp2_with fail)
          all_goals (gi_meet)
          all_goals (first
            | exact ⟨_, rfl, bq.size, heap_alloc_new _ _, bq.alloc bq.size _⟩
            | exact ⟨_, rfl, hsx, row5 HZR.out, ((((bq.setCell (p := ⟨wc.heap.size, 0, none⟩) hsx _).setCell (p := ⟨wc.heap.size, 1, none⟩) hsx _).setCell (p := ⟨wc.heap.size, 2, none⟩) hsx _).setCell (p := ⟨wc.heap.size, 3, none⟩) hsx _).setCell (p := ⟨wc.heap.size, 4, none⟩) hsx _⟩)
        case rest =>
          obtain ⟨B, rfl, hB, hrow, by2⟩ := hcut
          have hsy := by2.size
          have q0 : wc.cell? ⟨B, 0, none⟩ = some (.string ⟨T.toArray⟩) := by simp [World.cell?, hrow]
          have q1 : wc.cell? ⟨B, 1, none⟩ = some (.int .i64 V) := by simp [World.cell?, hrow]
          have q2 : wc.cell? ⟨B, 2, none⟩ = some (.int .i64 0) := by simp [World.cell?, hrow]
          have q3 : wc.cell? ⟨B, 3, none⟩ = some (.int .i64 N) := by simp [World.cell?, hrow]
          have q4 : wc.cell? ⟨B, 4, none⟩ = some (.int .i64 0) := by simp [World.cell?, hrow]
          have fr : ∀ j, wc.frozen? ⟨B, j, none⟩ = false := fun j => frozen_of_row _ _ _ _ _ hrow
          have bz : Below wr.heap.size wr ((wc.setCell ⟨B, 2, none⟩ (.int .i64 a)).setCell ⟨B, 4, none⟩ (.int .i64 e1)) := (by2.setCell (p := ⟨B, 2, none⟩) hB _).setCell (p := ⟨B, 4, none⟩) hB _
          have jz : J pre ((wc.setCell ⟨B, 2, none⟩ (.int .i64 a)).setCell ⟨B, 4, none⟩ (.int .i64 e1)) := HJ.out pre wr _ none hJs (z60 bz) (fun r e => by cases e)
          have hpl : pre.length < l.length + 1 := by
            have := congrArg List.length hpre.out
            rw [List.length_append] at this
            omega
          obtain ⟨fn, tmps, assign, body, hy, hR⟩ := HY.out pre (lnAt l w a) _ jz hpl
          rw [HLN2.out] at hy
          dsimp only [lnV] at hy
          have HR : Hid (RoundIn Fence.wide (n - 1) Tryz.prog k0 fn tmps assign body ((wc.setCell ⟨B, 2, none⟩ (.int .i64 a)).setCell ⟨B, 4, none⟩ (.int .i64 e1)) fun e W' =>
      (e = .returned (.bool true) ∧ J (pre ++ [lnAt l w a]) W' ∧ z7b Bw ((wc.setCell ⟨B, 2, none⟩ (.int .i64 a)).setCell ⟨B, 4, none⟩ (.int .i64 e1)) W') ∨ (e = .returned (.bool false) ∧ Jx (pre ++ [lnAt l w a]) W')) := hR
          clear hrow cwx hR jz
          gi_wp2
          refine ⟨fun _ => by omega, HR.out.mono ?_⟩
          clear HR hy
          rintro e W3 (⟨rfl, hJ3, hk3⟩ | ⟨rfl, hJx3⟩)
          · have hown3 : Hid (W3.ownsRow W.heap.size 239 2 (.slice (some ⟨b, 0, none⟩) l.length cap) l.length (z2a l)) := zlp hk3 (ziv hown.out bz)
            have hbw3 : Hid (W3.heap[Bw]? = some (.cells #[.int .i64 w] 3 (0, 0))) := (hk3.2.trans (bz.block Bw hBwr)).trans hbw.out
            have hE : (lnAt l w a).E = e1 := by rw [HLN2.out]
            by_cases h3 : e1 = 3
            · have HF : Hid (z2j l w = pre ++ [lnAt l w a]) := by
                show _ = _
                rw [HE.out, <- hpre.out, HX.out, if_pos (by rw [hE, h3])]
              clear hE
              subst h3
              gi_wp2
              refine bodyPost_ret (results_none rfl _ _ _) rfl ?_
              exact ⟨⟨_, rfl⟩, .inl ⟨_, HF.out.symm, hJ3⟩⟩
            · have hne3 : (lnAt l w a).E ≠ 3 := by rw [hE]; exact h3
              have hnl := HNL.out hne3
              have HF : Hid ((pre ++ [lnAt l w a]) ++ z3f l w (nxt l w a) = z3f l w 0) := by
                show _ = _
                rw [<- hpre.out, HX.out, if_neg hne3]; simp
              have hnx' := HNX.out
              have HNX' : Hid (nxt l w a = a + n1 + d1) := hnx'
              rw [HNX'.out] at HF hnl
              clear hE hne3 hnx'
              gi_wp2
              go_roundw
              case rel => exact ⟨a + n1 + d1, pre ++ [lnAt l w a], by go_num, by omega, HF, hown3, hbw3, hJ3⟩
              case measure => simp [intOf]; omega
          · gi_wp2
            refine bodyPost_ret (results_none rfl _ _ _) rfl ?_
            exact ⟨⟨_, rfl⟩, .inr ⟨_, trivial, hJx3⟩⟩
end
section
open Go.RowKit Go.Shelf
attribute [local go_sem] Oper.semAt_some
theorem zlo{Bw B:Nat}(hB:Bw<B)(W:World)(l:Nat)(o o':Obj)(hl:B≤l)(h:W.heap[l]?=some o)(hc:o.isCells=false)(_:o.isWalk=false):z7b Bw W (W.putObj l o'):=by
 have hg:=grownBy_putObj' W l o'
 have hls:=(Array.getElem?_eq_some_iff.1 h).1
 refine⟨fun k c fz e=>?_,hg.block Bw (by omega) (fun e=>by cases e;omega)⟩
 refine (hg.block k (Array.getElem?_eq_some_iff.1 e).1 (fun e'=>?_)).trans e
 cases e'
 rw[h] at e;cases e;cases hc
theorem zi2(n:Nat)(hn:3≤n)(Bw Bs:Nat)(s:ByteArray)(w:Int)(l:List (List UInt8×Int))(hl:clus (z0p s.data.toList)=l)(hs:s.size≤68719476736)(hw0 : -9223372036854775808≤w)(hw1:w≤9223372036854775807)(W0:World)(ht:z0y W0)
 (hBw:W0.heap[Bw]?=some (.cells #[.int .i64 w] 3 (0,0))) (hBs:W0.heap[Bs]?=some (.cells #[.string s] 9 (0,0))) :
 SeqStopsK Fence.wide n Tryz.prog 184 #[.pointer (some ⟨Bw,0,none⟩),.pointer (some ⟨Bs,0,none⟩)] lnV (z7b Bw) (fun ys=>ys=z2j l w) (fun _=>True) (l.length+1) W0:=fun k0 J Jx W hW hJ _ hY h0 =>
 zol n hn k0 Bw Bs s w l hl hs hw0 hw1 J Jx W hJ hY (fun W' hW'=>(ht.below hW).below hW')
  ((hW.block Bw (Array.getElem?_eq_some_iff.1 hBw).1).trans hBw) ((hW.block Bs (Array.getElem?_eq_some_iff.1 hBs).1).trans hBs) h0
theorem zom(s:ByteArray)(w:Int)(W:World) :
 Calls Tryz.prog 163 #[.string s,.int .i64 w] W fun e w'=>e=.returned (.func (.func 184) #[] #[.pointer (some ⟨W.heap.size+1,0,none⟩),.pointer (some ⟨W.heap.size,0,none⟩)])∧w'=(W.alloc (.cells #[.string s] 9)).alloc (.cells #[.int .i64 w] 3):=by
 go_enter Tryz.func163,Tryz.ntmps163
 go_wp2
 go_ret
 exact⟨rfl,rfl⟩
def zm2(x:Ln):List Value:=[.string ⟨x.T.toArray⟩,.int .i64 x.W,.int .i64 x.F,.int .i64 x.N,.int .i64 x.E]
theorem zpb{W:World}{B Bw:Nat}{v v' x:Value}(hne:Bw≠B)(hv:Boxed W B 3 v)(hw:Boxed W Bw 3 x):z7b Bw W (W.setCell ⟨B,0,none⟩ v')∧Boxed (W.setCell ⟨B,0,none⟩ v') Bw 3 x:=by
 have hb:=Boxed.other hw hne v'
 refine⟨⟨fun j c fz e=>?_,hb.trans hw.symm⟩,hb⟩
 have hjB:j≠B:=by
  rintro rfl
  rw[show W.heap[j]?=_ from hv] at e;cases e
 rw[heap_setCell_other _ _ _ _ hjB]
 exact e
theorem zkg(s:ByteArray)(w:Int)(W:World)(ht:z0y W)(hs:s.size≤68719476736)(hw0 : -9223372036854775808≤w)(hw1:w≤9223372036854775807) :
 Calls Tryz.prog 138 #[.string s,.int .i64 w] W fun e W'=>e=.returned (.int .i64 (z2j (clus (z0p s.data.toList)) w).length)∧Below W.heap.size W W':=by
 have hsl:s.data.toList.length=s.size:=by rw[Array.length_toList];rfl
 have hR:=z26 s.data.toList
 have hC:=z47 (z0p s.data.toList)
 rw[hsl] at hR
 obtain⟨l,hl⟩:∃l,clus (z0p s.data.toList)=l:=⟨_,rfl⟩
 rw[hl] at hC ⊢
 refine (callsIn_wide (n:=6)).1 ?_
 refine callsIn_of_wp_marks Tryz.func138 rfl trivial ?_ rfl
 simp only[Tryz.ntmps138,List.size_toArray,List.length_cons,List.length_nil,Nat.reduceAdd,Nat.reduceSub,Array.replicate_succ,Array.replicate_zero,List.push_toArray,List.append_toArray,List.nil_append,List.cons_append]
 gi_wp2_with fail
 refine⟨trivial,(callsIn_wide.2 (zom s w _)).mono ?_⟩
 rintro e w' ⟨rfl,rfl⟩
 have bO:=Boxed.new W 3 (.int .i64 0)
 obtain⟨W0,hW0⟩:∃W0,((W.alloc (.cells #[.int .i64 0] 3)).alloc (.cells #[.string s] 9)).alloc (.cells #[.int .i64 w] 3)=W0:=⟨_,rfl⟩
 have bO0:Boxed W0 W.heap.size 3 (.int .i64 0):=by rw[<-hW0];exact (bO.alloc _).alloc _
 have bS0:Boxed W0 (W.heap.size+1) 9 (.string s):=by
  rw[<-hW0];have:=Boxed.new (W.alloc (.cells #[.int .i64 0] 3)) 9 (.string s);rw[World.size_alloc] at this;exact this.alloc _
 have bW0:Boxed W0 (W.heap.size+2) 3 (.int .i64 w):=by
  rw[<-hW0];have:=Boxed.new ((W.alloc (.cells #[.int .i64 0] 3)).alloc (.cells #[.string s] 9)) 3 (.int .i64 w);rw[World.size_alloc,World.size_alloc] at this;exact this
 have hB0:Below W.heap.size W W0:=by rw[<-hW0];exact (((Below.refl _ W).alloc (Nat.le_refl _) _).alloc (by simp) _).alloc (by simp;omega) _
 have hsz:W0.heap.size=W.heap.size+3:=by rw[<-hW0];simp
 have ht0:z0y W0:=ht.below hB0
 rw[World.size_alloc,hW0]
 gi_wp2
 refine wpIn_rangeFunc_ownG rfl (by omega) (gf:=184) (lb:=#[.pointer (some ⟨W.heap.size+2,0,none⟩),.pointer (some ⟨W.heap.size+1,0,none⟩)]) rfl trivial (enters_of Tryz.func184 (by kernel_rfl) rfl)
  (zi2 5 (by omega) (W.heap.size+2) (W.heap.size+1) s w l hl hs hw0 hw1 W0 ht0 bW0 bS0) z7b.trans (zlo (by omega)) (Below.refl _ _) (fun _=>rfl)
  (fun pre W'=>(Boxed W' W.heap.size 3 (.int .i64 pre.length)∧Boxed W' (W.heap.size+2) 3 (.int .i64 w))∧Below W.heap.size W W')
  (fun _ _ _=>False)
  (OwnFrom.and (OwnFrom.and (Own.from (boxed_own W.heap.size 3 (fun pre:List Ln=>Value.int .i64 (pre.length:Int))) _) (Own.from (boxed_own _ _ _) _)) (ownFrom_below (Nat.le_refl _) (by omega)))
  (fun _ _ _ _ _ hs _ _=>hs)
  ⟨⟨bO0,bW0⟩,hB0⟩
  (fun x=>{ tmps:=#[.string s,.int .i64 w,undef,undef,.int .i64 0,.pointer (some ⟨W.heap.size,0,none⟩),.string s,.int .i64 w,.func (.func 184) #[] #[.pointer (some ⟨W.heap.size+2,0,none⟩),.pointer (some ⟨W.heap.size+1,0,none⟩)],.agg (zm2 x).toArray,undef,undef,undef],defers:=[] })
  ?assign ?body ?done ?stop
 case assign =>
  rintro k0 ⟨T,V,F,N,E⟩ W' K hK
  dsimp only[lnV,zm2] at hK ⊢
  gi_wp2
  simpa using hK
 case body =>
  rintro k0 pre x W' ⟨⟨hv,hbw⟩,hB⟩ hlt
  have hc:=hv.cell
  have hf:=hv.frozen
  have hBs:=hB.size
  gi_wp2
  obtain⟨hkl,hbw2⟩:=zpb (v':=.int .i64 ((pre.length:Int)+1)) (by omega) hv hbw
  exact⟨(KeepsOthers.setCell _ _ _).from _,hkl,⟨by have:=hv.set (.int .i64 ((pre.length:Int)+1));simpa using this,hbw2⟩,hB.setCell (p:=⟨W.heap.size,0,none⟩) (Nat.le_refl _) _⟩
 case done =>
  rintro D ys W' hD rfl ⟨⟨hv,hbw⟩,hB⟩ hK
  have hc:=hv.cell
  gi_wp2
  refine⟨by simp,.inl ⟨_,_,rfl,run_takeDeferred hK,?_⟩⟩
  exact⟨_,results_tmp rfl _ _ _,rfl,hB.trans (belowK_b (w:=W) (Nat.le_refl _) W' D _ _ (by omega) hK rfl rfl)⟩
 case stop =>
  rintro D c pre W' _ _ h _
  exact h.elim
end
section
open Go.RowKit Go.Shelf
attribute [local go_sem] Oper.semAt_some
def offR(id:Int)(idf off:Nat->Int):Nat->Int
 | 0=>0
 | k+1=>if idf k=id then off k else offR id idf off k
def offI(id:Int)(idf off:Nat->Int)(n:Nat):Int:=if id=0 then 0 else offR id idf off n
def revN(n:Nat):List Nat:=(List.range n).reverse
theorem z54(n:Nat):revN (n+1)=n::revN n:=by unfold revN;rw[List.range_succ,List.reverse_append];rfl
theorem zc4(id:Int)(idf off:Nat->Int):∀ (n k:Nat) (pre:List Nat),pre++revN k=revN n->k≤n->(∀i∈pre,idf i≠id)->offR id idf off n=offR id idf off k
  | 0, k, pre, h, hk, _ => by obtain rfl : k = 0 := by omega
                              rfl
  | n+1,k,pre,h,hk,hp=>by
    by_cases e:k=n+1
    · rw[e]
    · rw[z54] at h
      cases pre with
      | nil =>
        have:=congrArg List.length h
        simp[revN] at this
        omega
      | cons a pre =>
        rw[List.cons_append] at h
        injection h with h1 h2
        have ha:=hp a (by simp)
        rw[h1] at ha
        have hu:offR id idf off (n+1)=offR id idf off n:=if_neg ha
        rw[hu]
        exact zc4 id idf off n k pre h2 (by omega) (fun i hi=>hp i (by simp[hi]))
def Scr(W:World)(p:Option Addr)(n:Nat)(idf off:Nat->Int):Prop:=n=0∨∃b o,p=some ⟨b,o,none⟩∧b<W.heap.size∧∀j,j<n->W.cell? ⟨b,o+j*2,none⟩=some (.int .i64 (idf j))∧W.cell? ⟨b,o+j*2+1,none⟩=some (.int .i64 (off j))
def z8p(Bx:Nat)(p:Option Addr)(W W':World):Prop:=W'.heap[Bx]?=W.heap[Bx]?∧∀a:Addr,p=some a->W'.heap[a.block]?=W.heap[a.block]?
theorem z8p.trans{Bx:Nat}{p:Option Addr}{A B C:World}(h:z8p Bx p A B)(k:z8p Bx p B C):z8p Bx p A C:=⟨k.1.trans h.1,fun a e=>(k.2 a e).trans (h.2 a e)⟩
theorem Scr.keep{W W':World}{Bx:Nat}{p:Option Addr}{n:Nat}{idf off:Nat->Int}(h:Scr W p n idf off)(hk:z8p Bx p W W'):Scr W' p n idf off:=by
 rcases h with h|⟨b,o,e,h1,h2⟩
 ·exact .inl h
 ·have hb:W'.heap[b]?=W.heap[b]?:=hk.2 _ e
  refine .inr ⟨b,o,e,?_,fun j hj=>⟨(World.cell?_of_block (a:=⟨b,o+j*2,none⟩) hb).trans (h2 j hj).1,(World.cell?_of_block (a:=⟨b,o+j*2+1,none⟩) hb).trans (h2 j hj).2⟩⟩
  by_cases q:b<W'.heap.size
  ·exact q
  ·rw[Array.getElem?_eq_none (Nat.le_of_not_lt q),Array.getElem?_eq_getElem h1] at hb
   cases hb
theorem Scr.below{W W':World}{p:Option Addr}{n:Nat}{idf off:Nat->Int}(h:Scr W p n idf off)(hb:Below W.heap.size W W'):Scr W' p n idf off:=by
 rcases h with h|⟨b,o,e,h1,h2⟩
 ·exact .inl h
 ·exact .inr ⟨b,o,e,Nat.lt_of_lt_of_le h1 hb.size,fun j hj=>⟨(hb.cell (p:=⟨b,_,none⟩) h1).trans (h2 j hj).1,(hb.cell (p:=⟨b,_,none⟩) h1).trans (h2 j hj).2⟩⟩
def scV(idf off:Nat->Int)(i:Nat):Array Value:=#[.int .i64 (i:Int),.agg #[.int .i64 (idf i),.int .i64 (off i)]]
theorem zcw(n:Nat)(hn:3≤n)(Bx N c:Nat)(p:Option Addr)(idf off:Nat->Int)(hN:N≤4611686018427387904)(W0:World)(hs:Scr W0 p N idf off)(hx:W0.heap[Bx]?=some (.cells #[.slice p N c] 33 (0,0))) :
 SeqStopsK Fence.wide n Tryz.prog 172 #[.pointer (some ⟨Bx,0,none⟩)] (scV idf off) (z8p Bx p) (fun xs=>xs=revN N) (fun pre=>∃k,k≤N∧pre++revN k=revN N) N W0:=by
 intro k0 J Jx W hW hJ hJx hY h0
 have hx1:W.heap[Bx]?=some (.cells #[.slice p N c] 33 (0,0)):=(hW.block Bx (Array.getElem?_eq_some_iff.1 hx).1).trans hx
 have cx:W.cell? ⟨Bx,0,none⟩=some (.slice p N c):=by simp[World.cell?,hx1]
 have HX1:Hid (W.heap[Bx]?=some (.cells #[.slice p N c] 33 (0,0))∧Scr W p N idf off):=⟨hx1,hs.below hW⟩
 have HY:Hid (∀pre x W1,J pre W1->pre.length<N->YieldAt Fence.wide (n - 1) Tryz.prog k0 (scV idf off x) W1 fun e W'=>(e=.returned (.bool true)∧J (pre++[x]) W'∧z8p Bx p W1 W')∨(e=.returned (.bool false)∧Jx (pre++[x]) W')):=hY
 have HJ0:Hid (J [] W):=h0
 clear hx hs hx1 hJ hJx hY h0
 refine callsIn_of_wp Tryz.func172 rfl trivial ?_ rfl
 simp only[Tryz.ntmps172,List.size_toArray,List.length_cons,List.length_nil,Nat.reduceAdd,Nat.reduceSub,Array.replicate_succ,Array.replicate_zero,List.push_toArray,List.append_toArray,List.nil_append,List.cons_append]
 gi_wp2
 gi_loopw [3] (fun iv wr=>∃ (k:Nat) (pre:List Nat),k≤N∧iv=.int .i64 ((k:Int) - 1)∧Hid (pre++revN k=revN N)∧Hid (wr.heap[Bx]?=some (.cells #[.slice p N c] 33 (0,0))∧Scr wr p N idf off)∧Hid (J pre wr)) (fun iv _=>(intOf iv+1).toNat)
 case atStart=>exact⟨N,[],Nat.le_refl _,by go_num,rfl,HX1,HJ0⟩
 case round =>
  obtain⟨k,pre,hk,rfl,hpre,HX,HJs⟩:=hrel
  clear cx HX1 HJ0
  cases k with
  | zero =>
   gi_wp2
   go_end0
   exact⟨⟨_,rfl⟩,.inl ⟨_,by have:=hpre.out;simpa [revN] using this,HJs.out⟩⟩
  | succ i =>
   have ei:((i+1:Nat):Int) - 1=(i:Int):=by omega
   rw[ei]
   have hpl:pre.length<N:=by
    have h1:=congrArg List.length hpre.out
    rw[List.length_append] at h1
    simp[revN] at h1
    omega
   have cx:wr.cell? ⟨Bx,0,none⟩=some (.slice p N c):=by simp[World.cell?,HX.out.1]
   obtain⟨b,o,rfl,hbl,hcs⟩:=HX.out.2.resolve_left (by omega)
   have c0:=(hcs i (by omega)).1
   have c1:=(hcs i (by omega)).2
   have hiN:(i:Int)<(N:Int):=by omega
   obtain⟨fn,tmps,assign,body,hy,hR⟩:=HY.out pre i wr HJs.out hpl
   dsimp only[scV] at hy
   have HR:Hid (RoundIn Fence.wide (n - 1) Tryz.prog k0 fn tmps assign body wr fun e W'=>(e=.returned (.bool true)∧J (pre++[i]) W'∧z8p Bx (some ⟨b,o,none⟩) wr W')∨(e=.returned (.bool false)∧Jx (pre++[i]) W')):=hR
   have HPR:Hid ((pre++[i])++revN i=revN N):=by show _=_;rw[<-hpre.out,z54];simp
   clear hR hcs ei
   gi_wp2
   refine⟨fun _=>by omega,HR.out.mono ?_⟩
   clear HR hy
   rintro e W3 (⟨rfl,hJ3,hk3⟩|⟨rfl,hJx3⟩)
   ·have HX3:Hid (W3.heap[Bx]?=some (.cells #[.slice (some ⟨b,o,none⟩) N c] 33 (0,0))∧Scr W3 (some ⟨b,o,none⟩) N idf off):=⟨hk3.1.trans HX.out.1,HX.out.2.keep hk3⟩
    gi_wp2
    go_roundw
    case rel=>exact⟨i,pre++[i],by omega,by go_num,HPR,HX3,hJ3⟩
    case measure=>simp[intOf] <;> omega
   ·gi_wp2
    refine bodyPost_ret (results_none rfl _ _ _) rfl ?_
    exact⟨⟨_,rfl⟩,.inr ⟨_,⟨i,by omega,HPR.out⟩,hJx3⟩⟩
theorem zcx(p:Option Addr)(N c:Nat)(W:World) :
 Calls Tryz.prog 146 #[.slice p N c] W fun e w'=>e=.returned (.func (.func 172) #[] #[.pointer (some ⟨W.heap.size,0,none⟩)])∧w'=W.alloc (.cells #[.slice p N c] 33):=by
 go_enter Tryz.func146,Tryz.ntmps146
 go_wp2
 go_ret
 exact⟨rfl,rfl⟩
theorem zlq{Bx B:Nat}{p:Option Addr}(h0:Bx<B)(h1:∀a:Addr,p=some a->a.block<B)(W:World)(l:Nat)(o o':Obj)(hl:B≤l)(_:W.heap[l]?=some o)(_:o.isCells=false)(_:o.isWalk=false):z8p Bx p W (W.putObj l o') :=
 ⟨World.putObj_heap_other (by omega),fun a e=>World.putObj_heap_other (by have:=h1 a e;omega)⟩
theorem zoa{W:World}{B:Nat}{x y:Value}{t:TypeId}(h:W.heap[B]?=some (.cells #[x,y] t (0,0))):W.cell? ⟨B,0,none⟩=some x∧W.cell? ⟨B,1,none⟩=some y:=by simp[World.cell?,h]
theorem zit(id:Int)(p:Option Addr)(N c:Nat)(idf off:Nat->Int)(U:World)(hs:Scr U p N idf off)(hN:N≤4611686018427387904)(hp:∀a:Addr,p=some a->a.block<U.heap.size) :
 Calls Tryz.prog 96 #[.int .i64 id,.slice p N c] U fun e U'=>e=.returned (.int .i64 (offI id idf off N))∧Below U.heap.size U U':=by
 by_cases h0:id=0
 ·subst h0
  have HR:Hid (offI 0 idf off N=0):=if_pos rfl
  have HB:Hid (Below U.heap.size U ((U.alloc (.cells #[.int .i64 0] 3)).alloc (.cells #[.int .i64 0] 3))):=((Below.refl _ U).alloc (Nat.le_refl _) _).alloc (by simp) _
  go_enter Tryz.func96,Tryz.ntmps96
  go_wp2
  refine bodyPost_ret (v:=.int .i64 0) (by simp[results,Tryz.results96,go_sem]) rfl ⟨by rw[HR.out],HB.out⟩
 ·have HR:Hid (offI id idf off N=offR id idf off N):=if_neg h0
  have e0:(id==0)=false:=by simpa using h0
  refine (callsIn_wide (n:=6)).1 ?_
  refine callsIn_of_wp_marks Tryz.func96 rfl trivial ?_ rfl
  simp only[Tryz.ntmps96,List.size_toArray,List.length_cons,List.length_nil,Nat.reduceAdd,Nat.reduceSub,Array.replicate_succ,Array.replicate_zero,List.push_toArray,List.append_toArray,List.nil_append,List.cons_append]
  gi_wp2_with fail
  refine⟨trivial,(callsIn_wide.2 (zcx p N c _)).mono ?_⟩
  rintro e w' ⟨rfl,rfl⟩
  obtain⟨S,hS⟩:∃z,U.heap.size=z:=⟨_,rfl⟩
  obtain⟨W0,hW0⟩:∃W0,((U.alloc (.cells #[.int .i64 id] 3)).alloc (.cells #[.int .i64 0] 3)).alloc (.cells #[.slice p N c] 33)=W0:=⟨_,rfl⟩
  have bI:Boxed W0 S 3 (.int .i64 id):=by rw[<-hW0,<-hS];exact ((Boxed.new U 3 (.int .i64 id)).alloc _).alloc _
  have bR:Boxed W0 (S+1) 3 (.int .i64 0):=by
   rw[<-hW0,<-hS];have:=Boxed.new (U.alloc (.cells #[.int .i64 id] 3)) 3 (.int .i64 0);rw[World.size_alloc] at this;exact this.alloc _
  have bX:Boxed W0 (S+2) 33 (.slice p N c):=by
   rw[<-hW0,<-hS];have:=Boxed.new ((U.alloc (.cells #[.int .i64 id] 3)).alloc (.cells #[.int .i64 0] 3)) 33 (.slice p N c);rw[World.size_alloc,World.size_alloc] at this;exact this
  have hB0:Below S U W0:=by rw[<-hW0,<-hS];exact (((Below.refl _ U).alloc (Nat.le_refl _) _).alloc (by simp) _).alloc (by simp;omega) _
  have hsz:W0.heap.size=S+3:=by rw[<-hW0];simp;omega
  have hsc:Scr W0 p N idf off:=hs.below (by rw[hS];exact hB0)
  have hp0:∀a:Addr,p=some a->a.block<S:=fun a e=>by rw[<-hS];exact hp a e
  rw[World.size_alloc,World.size_alloc,hW0]
  gi_wp2
  refine wpIn_rangeFunc_ownH rfl (by omega) (gf:=172) (lb:=#[.pointer (some ⟨S+1+1,0,none⟩)]) rfl trivial (enters_of Tryz.func172 (by kernel_rfl) rfl)
   (zcw 5 (by omega) (S+1+1) N c p idf off hN W0 hsc bX) z8p.trans (zlq (by omega) (fun a e=>by have:=hp0 a e;omega)) (Below.refl _ _) (fun _=>rfl)
   (fun pre W'=>(((Boxed W' S 3 (.int .i64 id)∧Boxed W' (S+1) 3 (.int .i64 0))∧Boxed W' (S+1+1) 33 (.slice p N c))∧Below S U W')∧∀i∈pre,idf i≠id)
   (fun cd pre W'=>∃pr x,pre=pr++[x]∧idf x=id∧(∀i∈pr,idf i≠id)∧Boxed W' (S+1) 3 (.int .i64 (off x))∧Below S U W'∧cd=.ret)
   (OwnFrom.and (OwnFrom.and (OwnFrom.and (OwnFrom.and (Own.from (boxed_own S 3 (fun _:List Nat=>Value.int .i64 id)) _) (Own.from (boxed_own (S+1) 3 (fun _:List Nat=>Value.int .i64 0)) _)) (Own.from (boxed_own (S+1+1) 33 (fun _:List Nat=>Value.slice p N c)) _)) (ownFrom_below (by omega) (by omega))) (fun _ _ _ _ h _ _=>h))
   (fun cd pre A B row ⟨pr,x,e1,e2,e3,hb,hB,hc⟩ hg hr=>⟨pr,x,e1,e2,e3,(Own.from (boxed_own (S+1) 3 (fun _:Unit=>Value.int .i64 (off x))) W0.heap.size) () A B row hb hg hr,(ownFrom_below (β:=Unit) (n₀:=S) (w₀:=U) (by omega) (by omega)) () A B row hB hg hr,hc⟩)
   ⟨⟨⟨⟨bI,bR⟩,bX⟩,hB0⟩,fun i hi=>by cases hi⟩
   (fun x a' W'=>∃Bx,W'.heap[Bx]?=some (.cells #[.int .i64 (idf x),.int .i64 (off x)] 42 (0,0))∧a'={ tmps:=#[.int .i64 id,.slice p N c,.pointer (some ⟨S,0,none⟩),undef,.pointer (some ⟨S+1,0,none⟩),undef,.pointer (some ⟨Bx,0,none⟩),.int .i64 id,.bool false,.slice p N c,.func (.func 172) #[] #[.pointer (some ⟨S+1+1,0,none⟩)],.int .i64 (x:Int),.agg #[.int .i64 (idf x),.int .i64 (off x)],undef,undef,undef,undef,undef,undef],defers:=[] })
   ?hAx ?assign ?body ?done ?stop
  case hAx =>
   rintro x a' _ A B row ⟨Bx,h2,h3⟩ hg hr
   refine⟨Bx,(hg.block Bx (Array.getElem?_eq_some_iff.1 h2).1 (fun e=>?_)).trans h2,h3⟩
   obtain⟨_,o,ho,hc⟩:=hr Bx e.symm
   rw[h2] at ho;cases ho;cases hc
  case assign =>
   rintro k0 pre x W' K ⟨⟨⟨⟨h1,h2⟩,h3⟩,hB⟩,h4⟩ hK
   dsimp only[scV] at hK ⊢
   have hBs:=hB.size
   have hkp:∀o,z8p (S+1+1) p W' (W'.alloc o):=fun o=>⟨heap_alloc_old _ _ _ h3.lt,fun a e=>heap_alloc_old _ _ _ (by have:=hp0 a e;have:=h1.lt;omega)⟩
   gi_wp2
   exact hK _ _ ((KeepsOthers.alloc _ _).from _) (hkp _) ⟨⟨⟨⟨h1.alloc _,h2.alloc _⟩,h3.alloc _⟩,hB.alloc (by have:=h1.lt;omega) _⟩,h4⟩ ⟨W'.heap.size,heap_alloc_new _ _,rfl⟩
  case body =>
   rintro k0 pre x a' W' hlk ⟨r,hr⟩ ⟨⟨⟨⟨h1,h2⟩,h3⟩,hB⟩,h4⟩ ⟨Bx,hx,rfl⟩ hlt
   have c1:=h1.cell
   have c2:=h2.cell
   have f2:=h2.frozen
   obtain⟨x0,x1⟩:=zoa hx
   by_cases hid:idf x=id
   ·have HE:Hid (Boxed (W'.setCell ⟨S+1,0,none⟩ (.int .i64 (off x))) (S+1) 3 (.int .i64 (off x))∧Below S U (W'.setCell ⟨S+1,0,none⟩ (.int .i64 (off x)))):=⟨h2.set _,hB.setCell (p:=⟨S+1,0,none⟩) (by show S≤S+1;omega) _⟩
    rw[hid] at x0
    gi_wp2
    exact⟨(KeepsOthers.setCell _ _ _).from _,pre,x,rfl,hid,h4,HE.out.1,HE.out.2,rfl⟩
   ·have e1:(idf x==id)=false:=by simpa using hid
    gi_wp2
    exact⟨(KeepsOthers.refl _).from _,⟨rfl,fun _ _=>rfl⟩,⟨⟨⟨h1,h2⟩,h3⟩,hB⟩,fun i hi=>by
     rcases List.mem_append.1 hi with q|q
     ·exact h4 i q
     ·rw[List.mem_singleton.1 q];exact hid⟩
  case done =>
   rintro D ys W' hD rfl ⟨⟨⟨⟨h1,h2⟩,h3⟩,hB⟩,h4⟩ hK
   have c2:=h2.cell
   have f2:=h2.frozen
   have HRE:Hid (offI id idf off N=0):=by show _=_;rw[HR.out,zc4 id idf off N 0 (revN N) (by simp[revN]) (Nat.zero_le _) h4];rfl
   have hK2:(W'.setCell ⟨S+1,0,none⟩ (.int .i64 0)).heap[D]?=some (.deferred (some [])):=(Below.heap_setCell W' ⟨S+1,0,none⟩ _ D (by show D≠S+1;omega)).trans hK
   have hbx:=(h2.set (.int .i64 0)).kept (grownBy_putObj' _ D (.deferred none)) (by simp;omega)
   have hcr:=hbx.cell
   have HBE:Hid (Below S U ((W'.setCell ⟨S+1,0,none⟩ (.int .i64 0)).putObj D (.deferred none))):=(hB.setCell (p:=⟨S+1,0,none⟩) (by show S≤S+1;omega) _).trans (belowK_b (w:=U) (by omega) _ D _ _ (by omega) hK2 rfl rfl)
   gi_wp2
   refine⟨by simp,.inl ⟨_,_,rfl,run_takeDeferred hK2,?_⟩⟩
   exact⟨.int .i64 0,by simp[results,Tryz.results96,go_sem,hcr],by rw[HRE.out],by rw[hS];exact HBE.out⟩
  case stop =>
   rintro D cd pre W' hD ⟨k,hk,hpre⟩ ⟨pr,x,e1,e2,e3,hb,hB,rfl⟩ hK
   have HRE:Hid (offI id idf off N=off x):=by
    show _=_
    have hq:pr++revN (k+1)=revN N:=by
     have:=hpre
     rw[e1] at this
     have hx:x=k:=by
      have h9:∀ (n:Nat) (pr:List Nat) (x k:Nat),(pr++[x])++revN k=revN n->x=k:=by
       intro n
       induction n with
       | zero=>intro pr x k h;simp[revN] at h
       | succ n ih =>
        intro pr x k h
        rw[z54] at h
        cases pr with
        | nil =>
         simp at h
         have:=congrArg List.length h.2
         simp[revN] at this
         omega
        | cons a pr =>
         rw[List.cons_append,List.cons_append] at h
         injection h with _ h
         exact ih pr x k h
      exact h9 N pr x k this
     rw[z54,<-hx]
     rw[<-hx] at this
     simpa using this
    have hkN:k+1≤N:=by
     have:=congrArg List.length hq
     simp[revN] at this
     omega
    have hxk:x=k:=by
     have h1:=hpre
     rw[e1] at h1
     have h2:pr++(x::revN k)=pr++(k::revN k):=by
      rw[z54] at hq
      rw[hq,<-h1];simp
     have:=List.append_cancel_left h2
     injection this
    rw[HR.out,zc4 id idf off N (k+1) pr hq hkN e3]
    show (if idf k=id then off k else offR id idf off k)=off x
    rw[<-hxk,if_pos e2]
   have hbx:=hb.kept (grownBy_putObj' W' D (.deferred none)) (by simp;omega)
   have hcr:=hbx.cell
   gi_wp2
   refine⟨by simp,.inl ⟨_,_,rfl,run_takeDeferred hK,?_⟩⟩
   exact⟨.int .i64 (off x),by simp[results,Tryz.results96,go_sem,hcr],by rw[HRE.out],by rw[hS];exact hB.trans (belowK_b (w:=U) (by omega) W' D _ _ (by omega) hK rfl rfl)⟩
end
end Go.Proofs.YtnponhbgicbkcaaGreatDoor
