import Derived.Test.YtnponhbgicbkcaaGreatDoorC30
import Derived.Test.YtnponhbgicbkcaaGreatDoorC14
import Derived.Defers
import Derived.Recover
set_option linter.unusedVariables false
set_option maxRecDepth 100000
set_option maxHeartbeats 16000000
namespace Go.Proofs.YtnponhbgicbkcaaGreatDoor
section
open Go.RowKit
structure z34(W:World)(E:Nat->Addr):Prop where
 blk:∀c,1≤c->c≤7->∃xs t,W.heap[(E c).block]?=some (.cells xs t (0,0))
 inj:∀c d,1≤c->c≤7->1≤d->d≤7->c≠d->E c≠E d
theorem z34.below{W W':World}{E:Nat->Addr}(h:z34 W E)(hb:Below W.heap.size W W'):z34 W' E :=
 ⟨fun c h1 h2=>by
  obtain⟨xs,t,hx⟩:=h.blk c h1 h2
  exact⟨xs,t,(hb.block _ (Array.getElem?_eq_some_iff.1 hx).1).trans hx⟩,h.inj⟩
def errC:Option (Nat×Nat)->Nat
 | none=>1
 | some (c,_)=>c
def errP:Option (Nat×Nat)->Nat
 | none=>0
 | some (_,p)=>p
theorem z5i(p:Int)(c d:Nat)(E:Nat->Addr)(w:World)(hA:z34 w E)(hc:1≤c∧c≤7)(hd:1≤d∧d≤7) :
 Calls Tryz.prog 70 #[z0b p (errV (E c)),errV (E d)] w fun e w'=>e=.returned (.bool (decide (c=d)))∧Below w.heap.size w w':=by
 by_cases h:c=d
 ·subst h
  rw[decide_eq_true rfl]
  exact zbt p (E c) w
 ·rw[decide_eq_false h]
  obtain⟨xs,t,hx⟩:=hA.blk c hc.1 hc.2
  obtain⟨ys,u,hy⟩:=hA.blk d hd.1 hd.2
  exact zae p (E c) (E d) xs ys t u w (hA.inj c d hc.1 hc.2 hd.1 hd.2 h) hx hy
theorem Glo.cells{W W':World}{E:Nat->Addr}(h:Glo W E)(hb:Below W.heap.size W W'):Glo W' E:=by
 have sz:=h.sz
 have c:∀ (g:Nat) (v:Value),g<9->W.cell? ⟨g,0,none⟩=some v->W'.cell? ⟨g,0,none⟩=some v:=fun g v hg hv=>(hb.cell (p:=⟨g,0,none⟩) (by show g<_;omega)).trans hv
 exact⟨Nat.le_trans sz hb.size,fun j hj=>(hb.cell (p:=⟨8,j,none⟩) (by show 8<_;omega)).trans (h.kn j hj),c _ _ (by decide) h.g1,c _ _ (by decide) h.g2,c _ _ (by decide) h.g3,c _ _ (by decide) h.g4,c _ _ (by decide) h.g5,c _ _ (by decide) h.g6,c _ _ (by decide) h.g7⟩
theorem zi3(E:Nat->Addr)(w:World)(hG:Glo w E):Calls Tryz.prog 41 #[errV (E 1)] w fun e w'=>e=.returned (.int .i64 1)∧w'=w:=by
 have IS:Hid (Calls Tryz.prog 70 #[errV (E 1),errV (E 1)] w fun e w'=>e=.returned (.bool true)∧w'=w):=zs6 (E 1) w
 have g1:=hG.g1
 unfold errV at *
 go_enter Tryz.func41,Tryz.ntmps41
 go_wp2_with (go_at_call 70;refine Calls.mono IS.out ?_;rintro e w1 ⟨rfl,hw⟩;obtain rfl:=hw.symm)
 go_ret
 exact⟨rfl,rfl⟩
theorem zrr(p:Int)(E:Nat->Addr)(w:World)(hG:Glo w E)(hA:z34 w E):Calls Tryz.prog 41 #[z0b p (errV (E 2))] w fun e w'=>e=.returned (.int .i64 2)∧Below w.heap.size w w':=by
 have IS:Hid (∀ (d:Nat) (w':World),Below w.heap.size w w'->1≤d∧d≤7->Calls Tryz.prog 70 #[z0b p (errV (E 2)),errV (E d)] w' fun e w''=>e=.returned (.bool (decide (2=d)))∧Below w'.heap.size w' w''):=fun d w' hb hd=>z5i p 2 d E w' (hA.below hb) (by omega) hd
 have HG:Hid (∀w',Below w.heap.size w w'->Glo w' E):=fun w' hb=>hG.cells hb
 have B0:Hid (Below w.heap.size w w):=Below.refl _ _
 have I1:Hid (∀w',Below w.heap.size w w'->Calls Tryz.prog 70 #[z0b p (errV (E 2)),errV (E 1)] w' fun e w''=>e=.returned (.bool false)∧Below w'.heap.size w' w''):=fun w' hb=>IS.out 1 w' hb (by omega)
 have I3:Hid (∀w',Below w.heap.size w w'->Calls Tryz.prog 70 #[z0b p (errV (E 2)),errV (E 3)] w' fun e w''=>e=.returned (.bool false)∧Below w'.heap.size w' w''):=fun w' hb=>IS.out 3 w' hb (by omega)
 have I4:Hid (∀w',Below w.heap.size w w'->Calls Tryz.prog 70 #[z0b p (errV (E 2)),errV (E 4)] w' fun e w''=>e=.returned (.bool false)∧Below w'.heap.size w' w''):=fun w' hb=>IS.out 4 w' hb (by omega)
 have I5:Hid (∀w',Below w.heap.size w w'->Calls Tryz.prog 70 #[z0b p (errV (E 2)),errV (E 5)] w' fun e w''=>e=.returned (.bool false)∧Below w'.heap.size w' w''):=fun w' hb=>IS.out 5 w' hb (by omega)
 have I6:Hid (∀w',Below w.heap.size w w'->Calls Tryz.prog 70 #[z0b p (errV (E 2)),errV (E 6)] w' fun e w''=>e=.returned (.bool false)∧Below w'.heap.size w' w''):=fun w' hb=>IS.out 6 w' hb (by omega)
 have I7:Hid (∀w',Below w.heap.size w w'->Calls Tryz.prog 70 #[z0b p (errV (E 2)),errV (E 7)] w' fun e w''=>e=.returned (.bool false)∧Below w'.heap.size w' w''):=fun w' hb=>IS.out 7 w' hb (by omega)
 have g0:=(HG.out w B0.out).g1
 clear hG hA IS
 unfold errV z0b at *
 go_enter Tryz.func41,Tryz.ntmps41
 go_wp2_with fail
 clear g0
 refine Calls.mono (I1.out _ B0.out) ?_
 rintro e w1 ⟨rfl,b1⟩
 have B1:Hid (Below w.heap.size w w1):=B0.out.trans (b1.mono B0.out.size)
 clear b1
 have g1:=(HG.out w1 B1.out).g3
 unfold errV at g1
 go_wp2_with fail
 clear g1
 refine Calls.mono (I3.out _ B1.out) ?_
 rintro e w2 ⟨rfl,b2⟩
 have B2:Hid (Below w.heap.size w w2):=B1.out.trans (b2.mono B1.out.size)
 clear b2
 have g2:=(HG.out w2 B2.out).g4
 unfold errV at g2
 go_wp2_with fail
 clear g2
 refine Calls.mono (I4.out _ B2.out) ?_
 rintro e w3 ⟨rfl,b3⟩
 have B3:Hid (Below w.heap.size w w3):=B2.out.trans (b3.mono B2.out.size)
 clear b3
 have g3:=(HG.out w3 B3.out).g5
 unfold errV at g3
 go_wp2_with fail
 clear g3
 refine Calls.mono (I5.out _ B3.out) ?_
 rintro e w4 ⟨rfl,b4⟩
 have B4:Hid (Below w.heap.size w w4):=B3.out.trans (b4.mono B3.out.size)
 clear b4
 have g4:=(HG.out w4 B4.out).g6
 unfold errV at g4
 go_wp2_with fail
 clear g4
 refine Calls.mono (I6.out _ B4.out) ?_
 rintro e w5 ⟨rfl,b5⟩
 have B5:Hid (Below w.heap.size w w5):=B4.out.trans (b5.mono B4.out.size)
 clear b5
 have g5:=(HG.out w5 B5.out).g7
 unfold errV at g5
 go_wp2_with fail
 clear g5
 refine Calls.mono (I7.out _ B5.out) ?_
 rintro e w6 ⟨rfl,b6⟩
 have B6:Hid (Below w.heap.size w w6):=B5.out.trans (b6.mono B5.out.size)
 clear b6
 go_wp2
 go_ret
 exact⟨rfl,B6.out⟩
theorem zrs(p:Int)(E:Nat->Addr)(w:World)(hG:Glo w E)(hA:z34 w E):Calls Tryz.prog 41 #[z0b p (errV (E 3))] w fun e w'=>e=.returned (.int .i64 3)∧Below w.heap.size w w':=by
 have IS:Hid (∀ (d:Nat) (w':World),Below w.heap.size w w'->1≤d∧d≤7->Calls Tryz.prog 70 #[z0b p (errV (E 3)),errV (E d)] w' fun e w''=>e=.returned (.bool (decide (3=d)))∧Below w'.heap.size w' w''):=fun d w' hb hd=>z5i p 3 d E w' (hA.below hb) (by omega) hd
 have HG:Hid (∀w',Below w.heap.size w w'->Glo w' E):=fun w' hb=>hG.cells hb
 have B0:Hid (Below w.heap.size w w):=Below.refl _ _
 have I1:Hid (∀w',Below w.heap.size w w'->Calls Tryz.prog 70 #[z0b p (errV (E 3)),errV (E 1)] w' fun e w''=>e=.returned (.bool false)∧Below w'.heap.size w' w''):=fun w' hb=>IS.out 1 w' hb (by omega)
 have I3:Hid (∀w',Below w.heap.size w w'->Calls Tryz.prog 70 #[z0b p (errV (E 3)),errV (E 3)] w' fun e w''=>e=.returned (.bool true)∧Below w'.heap.size w' w''):=fun w' hb=>IS.out 3 w' hb (by omega)
 have g0:=(HG.out w B0.out).g1
 clear hG hA IS
 unfold errV z0b at *
 go_enter Tryz.func41,Tryz.ntmps41
 go_wp2_with fail
 clear g0
 refine Calls.mono (I1.out _ B0.out) ?_
 rintro e w1 ⟨rfl,b1⟩
 have B1:Hid (Below w.heap.size w w1):=B0.out.trans (b1.mono B0.out.size)
 clear b1
 have g1:=(HG.out w1 B1.out).g3
 unfold errV at g1
 go_wp2_with fail
 clear g1
 refine Calls.mono (I3.out _ B1.out) ?_
 rintro e w2 ⟨rfl,b2⟩
 have B2:Hid (Below w.heap.size w w2):=B1.out.trans (b2.mono B1.out.size)
 clear b2
 go_wp2
 go_ret
 exact⟨rfl,B2.out⟩
theorem zrt(p:Int)(E:Nat->Addr)(w:World)(hG:Glo w E)(hA:z34 w E):Calls Tryz.prog 41 #[z0b p (errV (E 4))] w fun e w'=>e=.returned (.int .i64 4)∧Below w.heap.size w w':=by
 have IS:Hid (∀ (d:Nat) (w':World),Below w.heap.size w w'->1≤d∧d≤7->Calls Tryz.prog 70 #[z0b p (errV (E 4)),errV (E d)] w' fun e w''=>e=.returned (.bool (decide (4=d)))∧Below w'.heap.size w' w''):=fun d w' hb hd=>z5i p 4 d E w' (hA.below hb) (by omega) hd
 have HG:Hid (∀w',Below w.heap.size w w'->Glo w' E):=fun w' hb=>hG.cells hb
 have B0:Hid (Below w.heap.size w w):=Below.refl _ _
 have I1:Hid (∀w',Below w.heap.size w w'->Calls Tryz.prog 70 #[z0b p (errV (E 4)),errV (E 1)] w' fun e w''=>e=.returned (.bool false)∧Below w'.heap.size w' w''):=fun w' hb=>IS.out 1 w' hb (by omega)
 have I3:Hid (∀w',Below w.heap.size w w'->Calls Tryz.prog 70 #[z0b p (errV (E 4)),errV (E 3)] w' fun e w''=>e=.returned (.bool false)∧Below w'.heap.size w' w''):=fun w' hb=>IS.out 3 w' hb (by omega)
 have I4:Hid (∀w',Below w.heap.size w w'->Calls Tryz.prog 70 #[z0b p (errV (E 4)),errV (E 4)] w' fun e w''=>e=.returned (.bool true)∧Below w'.heap.size w' w''):=fun w' hb=>IS.out 4 w' hb (by omega)
 have g0:=(HG.out w B0.out).g1
 clear hG hA IS
 unfold errV z0b at *
 go_enter Tryz.func41,Tryz.ntmps41
 go_wp2_with fail
 clear g0
 refine Calls.mono (I1.out _ B0.out) ?_
 rintro e w1 ⟨rfl,b1⟩
 have B1:Hid (Below w.heap.size w w1):=B0.out.trans (b1.mono B0.out.size)
 clear b1
 have g1:=(HG.out w1 B1.out).g3
 unfold errV at g1
 go_wp2_with fail
 clear g1
 refine Calls.mono (I3.out _ B1.out) ?_
 rintro e w2 ⟨rfl,b2⟩
 have B2:Hid (Below w.heap.size w w2):=B1.out.trans (b2.mono B1.out.size)
 clear b2
 have g2:=(HG.out w2 B2.out).g4
 unfold errV at g2
 go_wp2_with fail
 clear g2
 refine Calls.mono (I4.out _ B2.out) ?_
 rintro e w3 ⟨rfl,b3⟩
 have B3:Hid (Below w.heap.size w w3):=B2.out.trans (b3.mono B2.out.size)
 clear b3
 go_wp2
 go_ret
 exact⟨rfl,B3.out⟩
theorem zru(p:Int)(E:Nat->Addr)(w:World)(hG:Glo w E)(hA:z34 w E):Calls Tryz.prog 41 #[z0b p (errV (E 5))] w fun e w'=>e=.returned (.int .i64 5)∧Below w.heap.size w w':=by
 have IS:Hid (∀ (d:Nat) (w':World),Below w.heap.size w w'->1≤d∧d≤7->Calls Tryz.prog 70 #[z0b p (errV (E 5)),errV (E d)] w' fun e w''=>e=.returned (.bool (decide (5=d)))∧Below w'.heap.size w' w''):=fun d w' hb hd=>z5i p 5 d E w' (hA.below hb) (by omega) hd
 have HG:Hid (∀w',Below w.heap.size w w'->Glo w' E):=fun w' hb=>hG.cells hb
 have B0:Hid (Below w.heap.size w w):=Below.refl _ _
 have I1:Hid (∀w',Below w.heap.size w w'->Calls Tryz.prog 70 #[z0b p (errV (E 5)),errV (E 1)] w' fun e w''=>e=.returned (.bool false)∧Below w'.heap.size w' w''):=fun w' hb=>IS.out 1 w' hb (by omega)
 have I3:Hid (∀w',Below w.heap.size w w'->Calls Tryz.prog 70 #[z0b p (errV (E 5)),errV (E 3)] w' fun e w''=>e=.returned (.bool false)∧Below w'.heap.size w' w''):=fun w' hb=>IS.out 3 w' hb (by omega)
 have I4:Hid (∀w',Below w.heap.size w w'->Calls Tryz.prog 70 #[z0b p (errV (E 5)),errV (E 4)] w' fun e w''=>e=.returned (.bool false)∧Below w'.heap.size w' w''):=fun w' hb=>IS.out 4 w' hb (by omega)
 have I5:Hid (∀w',Below w.heap.size w w'->Calls Tryz.prog 70 #[z0b p (errV (E 5)),errV (E 5)] w' fun e w''=>e=.returned (.bool true)∧Below w'.heap.size w' w''):=fun w' hb=>IS.out 5 w' hb (by omega)
 have g0:=(HG.out w B0.out).g1
 clear hG hA IS
 unfold errV z0b at *
 go_enter Tryz.func41,Tryz.ntmps41
 go_wp2_with fail
 clear g0
 refine Calls.mono (I1.out _ B0.out) ?_
 rintro e w1 ⟨rfl,b1⟩
 have B1:Hid (Below w.heap.size w w1):=B0.out.trans (b1.mono B0.out.size)
 clear b1
 have g1:=(HG.out w1 B1.out).g3
 unfold errV at g1
 go_wp2_with fail
 clear g1
 refine Calls.mono (I3.out _ B1.out) ?_
 rintro e w2 ⟨rfl,b2⟩
 have B2:Hid (Below w.heap.size w w2):=B1.out.trans (b2.mono B1.out.size)
 clear b2
 have g2:=(HG.out w2 B2.out).g4
 unfold errV at g2
 go_wp2_with fail
 clear g2
 refine Calls.mono (I4.out _ B2.out) ?_
 rintro e w3 ⟨rfl,b3⟩
 have B3:Hid (Below w.heap.size w w3):=B2.out.trans (b3.mono B2.out.size)
 clear b3
 have g3:=(HG.out w3 B3.out).g5
 unfold errV at g3
 go_wp2_with fail
 clear g3
 refine Calls.mono (I5.out _ B3.out) ?_
 rintro e w4 ⟨rfl,b4⟩
 have B4:Hid (Below w.heap.size w w4):=B3.out.trans (b4.mono B3.out.size)
 clear b4
 go_wp2
 go_ret
 exact⟨rfl,B4.out⟩
theorem zrv(p:Int)(E:Nat->Addr)(w:World)(hG:Glo w E)(hA:z34 w E):Calls Tryz.prog 41 #[z0b p (errV (E 6))] w fun e w'=>e=.returned (.int .i64 6)∧Below w.heap.size w w':=by
 have IS:Hid (∀ (d:Nat) (w':World),Below w.heap.size w w'->1≤d∧d≤7->Calls Tryz.prog 70 #[z0b p (errV (E 6)),errV (E d)] w' fun e w''=>e=.returned (.bool (decide (6=d)))∧Below w'.heap.size w' w''):=fun d w' hb hd=>z5i p 6 d E w' (hA.below hb) (by omega) hd
 have HG:Hid (∀w',Below w.heap.size w w'->Glo w' E):=fun w' hb=>hG.cells hb
 have B0:Hid (Below w.heap.size w w):=Below.refl _ _
 have I1:Hid (∀w',Below w.heap.size w w'->Calls Tryz.prog 70 #[z0b p (errV (E 6)),errV (E 1)] w' fun e w''=>e=.returned (.bool false)∧Below w'.heap.size w' w''):=fun w' hb=>IS.out 1 w' hb (by omega)
 have I3:Hid (∀w',Below w.heap.size w w'->Calls Tryz.prog 70 #[z0b p (errV (E 6)),errV (E 3)] w' fun e w''=>e=.returned (.bool false)∧Below w'.heap.size w' w''):=fun w' hb=>IS.out 3 w' hb (by omega)
 have I4:Hid (∀w',Below w.heap.size w w'->Calls Tryz.prog 70 #[z0b p (errV (E 6)),errV (E 4)] w' fun e w''=>e=.returned (.bool false)∧Below w'.heap.size w' w''):=fun w' hb=>IS.out 4 w' hb (by omega)
 have I5:Hid (∀w',Below w.heap.size w w'->Calls Tryz.prog 70 #[z0b p (errV (E 6)),errV (E 5)] w' fun e w''=>e=.returned (.bool false)∧Below w'.heap.size w' w''):=fun w' hb=>IS.out 5 w' hb (by omega)
 have I6:Hid (∀w',Below w.heap.size w w'->Calls Tryz.prog 70 #[z0b p (errV (E 6)),errV (E 6)] w' fun e w''=>e=.returned (.bool true)∧Below w'.heap.size w' w''):=fun w' hb=>IS.out 6 w' hb (by omega)
 have g0:=(HG.out w B0.out).g1
 clear hG hA IS
 unfold errV z0b at *
 go_enter Tryz.func41,Tryz.ntmps41
 go_wp2_with fail
 clear g0
 refine Calls.mono (I1.out _ B0.out) ?_
 rintro e w1 ⟨rfl,b1⟩
 have B1:Hid (Below w.heap.size w w1):=B0.out.trans (b1.mono B0.out.size)
 clear b1
 have g1:=(HG.out w1 B1.out).g3
 unfold errV at g1
 go_wp2_with fail
 clear g1
 refine Calls.mono (I3.out _ B1.out) ?_
 rintro e w2 ⟨rfl,b2⟩
 have B2:Hid (Below w.heap.size w w2):=B1.out.trans (b2.mono B1.out.size)
 clear b2
 have g2:=(HG.out w2 B2.out).g4
 unfold errV at g2
 go_wp2_with fail
 clear g2
 refine Calls.mono (I4.out _ B2.out) ?_
 rintro e w3 ⟨rfl,b3⟩
 have B3:Hid (Below w.heap.size w w3):=B2.out.trans (b3.mono B2.out.size)
 clear b3
 have g3:=(HG.out w3 B3.out).g5
 unfold errV at g3
 go_wp2_with fail
 clear g3
 refine Calls.mono (I5.out _ B3.out) ?_
 rintro e w4 ⟨rfl,b4⟩
 have B4:Hid (Below w.heap.size w w4):=B3.out.trans (b4.mono B3.out.size)
 clear b4
 have g4:=(HG.out w4 B4.out).g6
 unfold errV at g4
 go_wp2_with fail
 clear g4
 refine Calls.mono (I6.out _ B4.out) ?_
 rintro e w5 ⟨rfl,b5⟩
 have B5:Hid (Below w.heap.size w w5):=B4.out.trans (b5.mono B4.out.size)
 clear b5
 go_wp2
 go_ret
 exact⟨rfl,B5.out⟩
theorem zrw(p:Int)(E:Nat->Addr)(w:World)(hG:Glo w E)(hA:z34 w E):Calls Tryz.prog 41 #[z0b p (errV (E 7))] w fun e w'=>e=.returned (.int .i64 7)∧Below w.heap.size w w':=by
 have IS:Hid (∀ (d:Nat) (w':World),Below w.heap.size w w'->1≤d∧d≤7->Calls Tryz.prog 70 #[z0b p (errV (E 7)),errV (E d)] w' fun e w''=>e=.returned (.bool (decide (7=d)))∧Below w'.heap.size w' w''):=fun d w' hb hd=>z5i p 7 d E w' (hA.below hb) (by omega) hd
 have HG:Hid (∀w',Below w.heap.size w w'->Glo w' E):=fun w' hb=>hG.cells hb
 have B0:Hid (Below w.heap.size w w):=Below.refl _ _
 have I1:Hid (∀w',Below w.heap.size w w'->Calls Tryz.prog 70 #[z0b p (errV (E 7)),errV (E 1)] w' fun e w''=>e=.returned (.bool false)∧Below w'.heap.size w' w''):=fun w' hb=>IS.out 1 w' hb (by omega)
 have I3:Hid (∀w',Below w.heap.size w w'->Calls Tryz.prog 70 #[z0b p (errV (E 7)),errV (E 3)] w' fun e w''=>e=.returned (.bool false)∧Below w'.heap.size w' w''):=fun w' hb=>IS.out 3 w' hb (by omega)
 have I4:Hid (∀w',Below w.heap.size w w'->Calls Tryz.prog 70 #[z0b p (errV (E 7)),errV (E 4)] w' fun e w''=>e=.returned (.bool false)∧Below w'.heap.size w' w''):=fun w' hb=>IS.out 4 w' hb (by omega)
 have I5:Hid (∀w',Below w.heap.size w w'->Calls Tryz.prog 70 #[z0b p (errV (E 7)),errV (E 5)] w' fun e w''=>e=.returned (.bool false)∧Below w'.heap.size w' w''):=fun w' hb=>IS.out 5 w' hb (by omega)
 have I6:Hid (∀w',Below w.heap.size w w'->Calls Tryz.prog 70 #[z0b p (errV (E 7)),errV (E 6)] w' fun e w''=>e=.returned (.bool false)∧Below w'.heap.size w' w''):=fun w' hb=>IS.out 6 w' hb (by omega)
 have I7:Hid (∀w',Below w.heap.size w w'->Calls Tryz.prog 70 #[z0b p (errV (E 7)),errV (E 7)] w' fun e w''=>e=.returned (.bool true)∧Below w'.heap.size w' w''):=fun w' hb=>IS.out 7 w' hb (by omega)
 have g0:=(HG.out w B0.out).g1
 clear hG hA IS
 unfold errV z0b at *
 go_enter Tryz.func41,Tryz.ntmps41
 go_wp2_with fail
 clear g0
 refine Calls.mono (I1.out _ B0.out) ?_
 rintro e w1 ⟨rfl,b1⟩
 have B1:Hid (Below w.heap.size w w1):=B0.out.trans (b1.mono B0.out.size)
 clear b1
 have g1:=(HG.out w1 B1.out).g3
 unfold errV at g1
 go_wp2_with fail
 clear g1
 refine Calls.mono (I3.out _ B1.out) ?_
 rintro e w2 ⟨rfl,b2⟩
 have B2:Hid (Below w.heap.size w w2):=B1.out.trans (b2.mono B1.out.size)
 clear b2
 have g2:=(HG.out w2 B2.out).g4
 unfold errV at g2
 go_wp2_with fail
 clear g2
 refine Calls.mono (I4.out _ B2.out) ?_
 rintro e w3 ⟨rfl,b3⟩
 have B3:Hid (Below w.heap.size w w3):=B2.out.trans (b3.mono B2.out.size)
 clear b3
 have g3:=(HG.out w3 B3.out).g5
 unfold errV at g3
 go_wp2_with fail
 clear g3
 refine Calls.mono (I5.out _ B3.out) ?_
 rintro e w4 ⟨rfl,b4⟩
 have B4:Hid (Below w.heap.size w w4):=B3.out.trans (b4.mono B3.out.size)
 clear b4
 have g4:=(HG.out w4 B4.out).g6
 unfold errV at g4
 go_wp2_with fail
 clear g4
 refine Calls.mono (I6.out _ B4.out) ?_
 rintro e w5 ⟨rfl,b5⟩
 have B5:Hid (Below w.heap.size w w5):=B4.out.trans (b5.mono B4.out.size)
 clear b5
 have g5:=(HG.out w5 B5.out).g7
 unfold errV at g5
 go_wp2_with fail
 clear g5
 refine Calls.mono (I7.out _ B5.out) ?_
 rintro e w6 ⟨rfl,b6⟩
 have B6:Hid (Below w.heap.size w w6):=B5.out.trans (b6.mono B5.out.size)
 clear b6
 go_wp2
 go_ret
 exact⟨rfl,B6.out⟩
theorem zkq(x:Option (Nat×Nat))(E:Nat->Addr)(w:World)(hG:Glo w E)(hA:z34 w E)(hx:∀c p,x=some (c,p)->2≤c∧c≤7):Calls Tryz.prog 41 #[pv E x] w fun e w'=>e=.returned (.int .i64 (errC x:Int))∧Below w.heap.size w w':=by
 cases x with
 | none=>exact Calls.mono (zi3 E w hG) (fun e w' h=>⟨h.1,by rw[h.2];exact Below.refl _ _⟩)
 | some q =>
  obtain⟨c,p⟩:=q
  have hc:=hx c p rfl
  rcases (by omega:c=2∨c=3∨c=4∨c=5∨c=6∨c=7) with rfl|rfl|rfl|rfl|rfl|rfl
  ·exact zrr p E w hG hA
  ·exact zrs p E w hG hA
  ·exact zrt p E w hG hA
  ·exact zru p E w hG hA
  ·exact zrv p E w hG hA
  ·exact zrw p E w hG hA
def ErT(W:World):Prop:=6<W.heap.size∧W.cell? ⟨6,0,none⟩=some (.iface 213 (.agg #[.pointer (some ⟨18,94,none⟩)]))
theorem ErT.below{W W':World}(h:ErT W)(hb:Below W.heap.size W W'):ErT W':=⟨Nat.lt_of_lt_of_le h.1 hb.size,(hb.cell (p:=⟨6,0,none⟩) h.1).trans h.2⟩
theorem zfg(p:Int)(c:Value)(hcl:c.oneCell'=true)(w:World)(hT:ErT w):Calls Tryz.prog 42 #[.iface 137 (.agg #[.int .i64 p,c])] w fun e w'=>e=.returned (.int .i64 p)∧Below w.heap.size w w':=by
 obtain⟨W0,hW0⟩:∃q,w.alloc (.cells #[.int .i64 0,.nilIface] 137)=q:=⟨_,rfl⟩
 have hT0:ErT W0:=by rw[<-hW0];exact hT.below ((Below.refl _ _).alloc (Nat.le_refl _) _)
 obtain⟨S,hS⟩:∃q,w.heap.size=q:=⟨_,rfl⟩
 have hb:W0.heap[S]?=some (.cells #[.int .i64 0,.nilIface] 137 (0,0)):=by rw[<-hW0,<-hS];exact heap_alloc_new _ _
 have hl:S<W0.heap.size:=(Array.getElem?_eq_some_iff.1 hb).1
 have AH:=zts S p c (.int .i64 0) .nilIface W0 hT0.1 hT0.2 hl (by simp[World.cell?,hb]) (by simp[World.cell?,hb]) (fun j=>frozen_of_row _ _ _ _ _ hb) hcl
 have HB:Hid (∀w',w'=((((((W0.alloc (.cells #[.pointer (some ⟨S,0,none⟩)] 139)).alloc (.cells #[.pointer (some ⟨18,139,none⟩),.pointer (some ⟨W0.heap.size,0,none⟩),.int .u64 150] 179)).alloc (.cells #[.pointer (some ⟨18,139,none⟩),.pointer (some ⟨W0.heap.size,0,none⟩),.int .u64 150] 179)).alloc (.cells #[.int .i64 p,c] 137)).setCell ⟨S,0,none⟩ (.int .i64 p)).setCell ⟨S,1,none⟩ c)->Below w.heap.size w w'∧w'.cell? ⟨S,0,none⟩=some (.int .i64 p)):=by
  rintro w' rfl
  have b0:Below w.heap.size w W0:=by rw[<-hW0];exact (Below.refl _ _).alloc (Nat.le_refl _) _
  have sz:=b0.size
  have b4:=(((b0.alloc sz (.cells #[.pointer (some ⟨S,0,none⟩)] 139)).alloc (by rw[World.size_alloc];omega) (.cells #[.pointer (some ⟨18,139,none⟩),.pointer (some ⟨W0.heap.size,0,none⟩),.int .u64 150] 179)).alloc (by simp only[World.size_alloc];omega) (.cells #[.pointer (some ⟨18,139,none⟩),.pointer (some ⟨W0.heap.size,0,none⟩),.int .u64 150] 179)).alloc (by simp only[World.size_alloc];omega) (.cells #[.int .i64 p,c] 137)
  have hS1:w.heap.size≤S:=by omega
  refine⟨(b4.setCell hS1 _).setCell hS1 _,?_⟩
  have hc:(((((W0.alloc (.cells #[.pointer (some ⟨S,0,none⟩)] 139)).alloc (.cells #[.pointer (some ⟨18,139,none⟩),.pointer (some ⟨W0.heap.size,0,none⟩),.int .u64 150] 179)).alloc (.cells #[.pointer (some ⟨18,139,none⟩),.pointer (some ⟨W0.heap.size,0,none⟩),.int .u64 150] 179)).alloc (.cells #[.int .i64 p,c] 137)).setCell ⟨S,0,none⟩ (.int .i64 p)).cell? ⟨S,0,none⟩=some (.int .i64 p):=by
   refine World.cell?_setCell_same (u:=.int .i64 0) _ _ _ ?_
   rw[World.cell?_alloc_lt _ _ ⟨S,0,none⟩ (by simp only[World.size_alloc];show S<_;omega),World.cell?_alloc_lt _ _ ⟨S,0,none⟩ (by simp only[World.size_alloc];show S<_;omega),World.cell?_alloc_lt _ _ ⟨S,0,none⟩ (by simp only[World.size_alloc];show S<_;omega),World.cell?_alloc_lt _ _ ⟨S,0,none⟩ hl]
   simp[World.cell?,hb]
  rw[World.cell?_setCell_other _ _ _ _ (fun e=>by injection e with _ e _;omega)]
  exact hc
 go_enter Tryz.func42,Tryz.ntmps42
 go_wp2_with fail
 refine Calls.mono AH ?_
 rintro e w1 ⟨rfl,hw1⟩
 have HW:Hid (Below w.heap.size w w1):=(HB.out w1 hw1).1
 have c0:=(HB.out w1 hw1).2
 clear hw1 HB AH hW0 hb hT0
 go_wp2
 go_ret
 exact⟨rfl,HW.out⟩
theorem zfh(a:Addr)(w:World)(hT:ErT w):Calls Tryz.prog 42 #[.iface 331 (.pointer (some a))] w fun e w'=>e=.returned (.int .i64 0)∧Below w.heap.size w w':=by
 obtain⟨W0,hW0⟩:∃q,w.alloc (.cells #[.int .i64 0,.nilIface] 137)=q:=⟨_,rfl⟩
 have b0:Below w.heap.size w W0:=by rw[<-hW0];exact (Below.refl _ _).alloc (Nat.le_refl _) _
 have hT0:ErT W0:=hT.below b0
 obtain⟨S,hS⟩:∃q,w.heap.size=q:=⟨_,rfl⟩
 have AM:=zrg S a W0 hT0.1 hT0.2
 have HB:Hid (∀w',w'=(((W0.alloc (.cells #[.pointer (some ⟨S,0,none⟩)] 139)).alloc (.cells #[.pointer (some ⟨18,139,none⟩),.pointer (some ⟨W0.heap.size,0,none⟩),.int .u64 150] 179)).alloc (.cells #[.pointer (some ⟨18,139,none⟩),.pointer (some ⟨W0.heap.size,0,none⟩),.int .u64 150] 179))->Below w.heap.size w w'):=by
  rintro w' rfl
  have sz:=b0.size
  exact ((b0.alloc sz _).alloc (by rw[World.size_alloc];omega) _).alloc (by simp only[World.size_alloc];omega) _
 go_enter Tryz.func42,Tryz.ntmps42
 go_wp2_with fail
 refine Calls.mono AM ?_
 rintro e w1 ⟨rfl,hw1⟩
 have HW:Hid (Below w.heap.size w w1):=HB.out w1 hw1
 clear hw1 HB AM hW0 hT0 b0
 go_wp2
 go_ret
 exact⟨rfl,HW.out⟩
theorem zmk(x:Option (Nat×Nat))(E:Nat->Addr)(w:World)(hT:ErT w):Calls Tryz.prog 42 #[pv E x] w fun e w'=>e=.returned (.int .i64 (errP x:Int))∧Below w.heap.size w w':=by
 cases x with
 | none=>exact zfh (E 1) w hT
 | some q=>exact zfg q.2 (errV (E q.1)) rfl w hT
end
section
open Go.RowKit Go.Stop
theorem zvh(x:Option (Nat×Nat))(E:Nat->Addr)(w:World):(Instr.typeAssert (pv E x) 20 94 true).run Tryz.prog w=.ok (.tuple #[pv E x,.bool true]) w:=by
 cases x with
 | none=>exact run_typeAssert_hasB Tryz.underlying94 (by kernel_rfl) _ _ w
 | some q=>exact run_typeAssert_hasB Tryz.underlying94 (by kernel_rfl) _ _ w
theorem zo0(w:World):(Instr.typeAssert .nilIface 20 94 true).run Tryz.prog w=.ok (.tuple #[.nilIface,.bool false]) w:=by kernel_rfl
theorem zek(eb pb B:Nat)(a0 a1:Int)(x:Option (Nat×Nat))(E:Nat->Addr)(w:World)(hB:B≤eb∧B≤pb∧eb≠pb∧B≤w.heap.size)(he:w.heap[eb]?=some (.cells #[.int .i64 a0] 22 (0,0)))(hp:w.heap[pb]?=some (.cells #[.int .i64 a1] 3 (0,0)))(hG:Glo w E)(hA:z34 w E)(hT:ErT w)(hx:∀c p,x=some (c,p)->2≤c∧c≤7) :
 CallsD Tryz.prog 40 #[.pointer (some ⟨eb,0,none⟩),.pointer (some ⟨pb,0,none⟩)] (.panicking [{ v:=pv E x,recovered:=false }]) w fun e u' w' =>
  e=.returned (.tuple #[])∧u'=.panicking [{ v:=pv E x,recovered:=true }]∧w'.cell? ⟨eb,0,none⟩=some (.int .i64 (errC x:Int))∧w'.cell? ⟨pb,0,none⟩=some (.int .i64 (errP x:Int))∧Below B w w':=by
 have TA:=zvh x E
 have EN:Hid (Calls Tryz.prog 41 #[pv E x] w fun e w'=>e=.returned (.int .i64 (errC x:Int))∧Below w.heap.size w w'):=zkq x E w hG hA hx
 have PL:Hid (∀w',Below w.heap.size w w'->Calls Tryz.prog 42 #[pv E x] w' fun e w''=>e=.returned (.int .i64 (errP x:Int))∧Below w'.heap.size w' w''):=fun w' hb=>zmk x E w' (hT.below hb)
 have HBB:Hid (B≤eb∧B≤pb∧eb≠pb∧B≤w.heap.size):=hB
 have HE:Hid (w.heap[eb]?=some (.cells #[.int .i64 a0] 22 (0,0))∧w.heap[pb]?=some (.cells #[.int .i64 a1] 3 (0,0))):=⟨he,hp⟩
 obtain⟨v,hv⟩:∃v,pv E x=v:=⟨_,rfl⟩
 rw[hv] at TA EN PL ⊢
 clear hv hG hA hT hx hB he hp
 refine callsD_of_wpS Tryz.func40 rfl fun c₀ cs hu=>?_
 apply wpS_seq
 apply wpS_region
 simp[wpOpsS,go_sem,recoverD,hu,Tryz.ntmps40,Exit.thenS,TA]
 have ht:(#[Value.pointer (some ⟨eb,0,none⟩),Value.pointer (some ⟨pb,0,none⟩)]++(((((((Array.replicate 12 undef).setIfInBounds 3 v).setIfInBounds 4 (Value.tuple #[v,Value.bool true])).setIfInBounds 2 (Value.tuple #[v,Value.bool true])).setIfInBounds 5 v).setIfInBounds 6 (Value.bool true)).setIfInBounds 0 v).setIfInBounds 1 (Value.bool true))=#[.pointer (some ⟨eb,0,none⟩),.pointer (some ⟨pb,0,none⟩),v,.bool true,.tuple #[v,.bool true],v,.tuple #[v,.bool true],v,.bool true,undef,undef,undef,undef,undef]:=by rfl
 rw[ht]
 clear ht
 refine wpS_of_wp ?_
 go_wp2_with fail
 refine Calls.mono EN.out ?_
 rintro e w1 ⟨rfl,b1⟩
 have HB1:Hid (Below w.heap.size w w1):=b1
 clear b1 EN
 go_wp2_with fail
 refine Calls.mono (PL.out _ HB1.out) ?_
 rintro e w2 ⟨rfl,b2⟩
 have HB2:Hid (Below w.heap.size w w2):=HB1.out.trans (b2.mono HB1.out.size)
 clear b2 PL HB1
 have HE2:Hid (w2.heap[eb]?=some (.cells #[.int .i64 a0] 22 (0,0))∧w2.heap[pb]?=some (.cells #[.int .i64 a1] 3 (0,0))):=⟨(HB2.out.block _ (Array.getElem?_eq_some_iff.1 HE.out.1).1).trans HE.out.1,(HB2.out.block _ (Array.getElem?_eq_some_iff.1 HE.out.2).1).trans HE.out.2⟩
 have d0:w2.cell? ⟨eb,0,none⟩=some (.int .i64 a0):=by simp[World.cell?,HE2.out.1]
 have d1:w2.cell? ⟨pb,0,none⟩=some (.int .i64 a1):=by simp[World.cell?,HE2.out.2]
 have f0:w2.frozen? ⟨eb,0,none⟩=false:=frozen_of_row _ _ _ _ _ HE2.out.1
 have f1:w2.frozen? ⟨pb,0,none⟩=false:=frozen_of_row _ _ _ _ _ HE2.out.2
 have hne:¬eb=pb:=HBB.out.2.2.1
 have HC:Hid (((w2.setCell ⟨eb,0,none⟩ (.int .i64 (errC x:Int))).setCell ⟨pb,0,none⟩ (.int .i64 (errP x:Int))).cell? ⟨eb,0,none⟩=some (.int .i64 (errC x:Int))∧((w2.setCell ⟨eb,0,none⟩ (.int .i64 (errC x:Int))).setCell ⟨pb,0,none⟩ (.int .i64 (errP x:Int))).cell? ⟨pb,0,none⟩=some (.int .i64 (errP x:Int))∧Below B w ((w2.setCell ⟨eb,0,none⟩ (.int .i64 (errC x:Int))).setCell ⟨pb,0,none⟩ (.int .i64 (errP x:Int)))):=by
  refine⟨?_,?_,?_⟩
  ·rw[World.cell?_setCell_other _ _ _ _ (fun e=>by injection e with e _ _;exact hne e.symm)]
   exact World.cell?_setCell_same _ _ _ d0
  ·refine World.cell?_setCell_same (u:=.int .i64 a1) _ _ _ ?_
   rw[World.cell?_setCell_other _ _ _ _ (fun e=>by injection e with e _ _;exact hne e)]
   exact d1
  ·exact ((HB2.out.mono HBB.out.2.2.2).setCell HBB.out.1 _).setCell HBB.out.2.1 _
 go_wp2
 exact⟨rfl,_,rfl,.tuple #[],by simp[results,Tryz.results40,go_sem],rfl,rfl,HC.out.1,HC.out.2.1,HC.out.2.2⟩
theorem zhw(eb pb:Nat)(w:World) :
 CallsD Tryz.prog 40 #[.pointer (some ⟨eb,0,none⟩),.pointer (some ⟨pb,0,none⟩)] .returning w fun e u' w'=>e=.returned (.tuple #[])∧u'=.returning∧w'=w:=by
 have TA:=zo0
 refine callsD_of_wpS Tryz.func40 rfl fun c₀ cs hu=>?_
 apply wpS_seq
 apply wpS_region
 simp[wpOpsS,go_sem,recoverD,hu,Tryz.ntmps40,Exit.thenS,TA]
 have ht:(#[Value.pointer (some ⟨eb,0,none⟩),Value.pointer (some ⟨pb,0,none⟩)]++(((((((Array.replicate 12 undef).setIfInBounds 3 Value.nilIface).setIfInBounds 4 (Value.tuple #[Value.nilIface,Value.bool false])).setIfInBounds 2 (Value.tuple #[Value.nilIface,Value.bool false])).setIfInBounds 5 Value.nilIface).setIfInBounds 6 (Value.bool false)).setIfInBounds 0 Value.nilIface).setIfInBounds 1 (Value.bool false))=#[.pointer (some ⟨eb,0,none⟩),.pointer (some ⟨pb,0,none⟩),.nilIface,.bool false,.tuple #[.nilIface,.bool false],.nilIface,.tuple #[.nilIface,.bool false],.nilIface,.bool false,undef,undef,undef,undef,undef]:=by rfl
 rw[ht]
 clear ht
 refine wpS_of_wp ?_
 go_wp2
 refine⟨rfl,.returning,?_,.tuple #[],by simp[results,Tryz.results40,go_sem],rfl,rfl,rfl⟩
 cases c₀
 simp_all
def zrb(w w':World)(e:Ending)(r:Except (Option (Nat×Nat)) (List Nd)):Prop:=Below w.heap.size w w'∧match r with
 | .error x=>e=.returned (.tuple #[.slice none 0 0,.int .i64 (errC x:Int),.int .i64 (errP x:Int)])
 | .ok L=>∃nv KV,e=.returned (.tuple #[nv,.int .i64 0,.int .i64 0])∧PN w' w.heap.size nv L KV
theorem zb9(s:ByteArray)(E:Nat->Addr)(w:World)(hG:Glo w E)(hA:z34 w E)(hT:ErT w) :
 Calls Tryz.prog 21 #[.string s] w fun e w'=>zrb w w' e (z0s s):=by
 have hmf:∀ (fn:Fn) (first cap:Array Value) (w:World),(Instr.makeFunc fn first cap).run Tryz.prog w=.ok (.func fn first cap) w:=fun _ _ _ _=>rfl
 obtain⟨S,hS⟩:∃q,w.heap.size=q:=⟨_,rfl⟩
 obtain⟨W0,hW0⟩:∃q,(w.alloc (.cells #[.int .i64 0] 22)).alloc (.cells #[.int .i64 0] 3)=q:=⟨_,rfl⟩
 have B0:Hid (Below w.heap.size w W0):=by rw[<-hW0];exact ((Below.refl _ _).alloc (Nat.le_refl _) _).alloc (by rw[World.size_alloc];omega) _
 have RD:Hid (Calls Tryz.prog 43 #[.string s] W0 fun e w'=>zrc W0 w' e E (z0s s)):=ze3 s E W0 (hG.cells B0.out)
 have HE:Hid (W0.heap[S]?=some (.cells #[.int .i64 0] 22 (0,0))∧W0.heap[S+1]?=some (.cells #[.int .i64 0] 3 (0,0))∧W0.heap.size=S+2):=by
  rw[<-hW0,<-hS]
  refine⟨?_,?_,by simp only[World.size_alloc]⟩
  ·rw[Below.heap_alloc _ _ _ (by rw[World.size_alloc];omega)];exact heap_alloc_new _ _
  ·have:=heap_alloc_new (w.alloc (.cells #[.int .i64 0] 22)) (.cells #[.int .i64 0] 3)
   rw[World.size_alloc] at this;exact this
 have HGL:Hid (∀w',Below w.heap.size w w'->Glo w' E∧z34 w' E∧ErT w'):=fun w' hb=>⟨hG.cells hb,hA.below hb,hT.below hb⟩
 have HS:Hid (w.heap.size=S):=hS
 clear hG hA hT
 go_enter_defers Tryz.func21,Tryz.ntmps21
 go_wp2_with fail
 clear hW0 hS
 refine Calls.mono RD.out ?_
 rintro e w1 ⟨b1,hr⟩
 have hSW:=HE.out.2.2
 have HB1:Hid (Below w.heap.size w w1):=B0.out.trans (b1.mono B0.out.size)
 have HE1:Hid (w1.heap[S]?=some (.cells #[.int .i64 0] 22 (0,0))∧w1.heap[S+1]?=some (.cells #[.int .i64 0] 3 (0,0))):=⟨(b1.block _ (by omega)).trans HE.out.1,(b1.block _ (by omega)).trans HE.out.2.1⟩
 have HSZ:Hid (S≤w1.heap.size∧W0.heap.size=S+2):=⟨by have:=b1.size;omega,hSW⟩
 clear b1 hSW RD
 cases hp:z0s s with
 | error x =>
  rw[hp] at hr
  subst hr
  have HPP:Hid (z0s s=.error x):=hp
  have CT:=zek S (S+1) S 0 0 x E w1 ⟨Nat.le_refl _,by omega,by omega,HSZ.out.1⟩ HE1.out.1 HE1.out.2 (HGL.out w1 HB1.out).1 (HGL.out w1 HB1.out).2.1 (HGL.out w1 HB1.out).2.2 (fun c p e=>zb1 (by rw[HPP.out,e]))
  clear hp
  refine leaves_cons (f:=40) (args:=#[.pointer (some ⟨S,0,none⟩),.pointer (some ⟨S+1,0,none⟩)]) (by simp) (by simp[go_sem]) ?_
  refine CT.mono ?_
  rintro e u' w2 ⟨rfl,rfl,c0,c1,b2⟩
  have HB2:Hid (Below w.heap.size w w2):=HB1.out.trans (by rw[HS.out];exact b2)
  clear b2 CT
  simp[Leaves,settle,results,Tryz.results21,go_sem,c0,c1]
  refine⟨HB2.out,?_⟩
  rw[HPP.out]
 | ok L =>
  rw[hp] at hr
  obtain⟨nv,KV,rfl,hn⟩:=hr
  have HPP:Hid (z0s s=.ok L):=hp
  have HN:Hid (PN w1 W0.heap.size nv L KV):=hn
  clear hn hp
  have d0:w1.cell? ⟨S,0,none⟩=some (.int .i64 0):=by simp[World.cell?,HE1.out.1]
  have d1:w1.cell? ⟨S+1,0,none⟩=some (.int .i64 0):=by simp[World.cell?,HE1.out.2]
  have f0:w1.frozen? ⟨S,0,none⟩=false:=frozen_of_row _ _ _ _ _ HE1.out.1
  have f1:w1.frozen? ⟨S+1,0,none⟩=false:=frozen_of_row _ _ _ _ _ HE1.out.2
  have HQ:Hid (Below w.heap.size w ((w1.setCell ⟨S,0,none⟩ (.int .i64 0)).setCell ⟨S+1,0,none⟩ (.int .i64 0))∧PN ((w1.setCell ⟨S,0,none⟩ (.int .i64 0)).setCell ⟨S+1,0,none⟩ (.int .i64 0)) w.heap.size nv L KV):=by
   have h1:w.heap.size≤S:=by rw[HS.out];exact Nat.le_refl _
   have h2:w.heap.size≤S+1:=by omega
   refine⟨(HB1.out.setCell h1 _).setCell h2 _,PN.base (HN.out.up ((Up.set w1 (by rw[HSZ.out.2];omega) _).trans (Up.set _ (by rw[HSZ.out.2];omega) _))) (by rw[HSZ.out.2];omega)⟩
  have k0:((w1.setCell ⟨S,0,none⟩ (.int .i64 0)).setCell ⟨S+1,0,none⟩ (.int .i64 0)).cell? ⟨S,0,none⟩=some (.int .i64 0):=by
   rw[World.cell?_setCell_other _ _ _ _ (fun e=>by injection e with e _ _;omega)]
   exact World.cell?_setCell_same _ _ _ d0
  have k1:((w1.setCell ⟨S,0,none⟩ (.int .i64 0)).setCell ⟨S+1,0,none⟩ (.int .i64 0)).cell? ⟨S+1,0,none⟩=some (.int .i64 0):=by
   refine World.cell?_setCell_same (u:=.int .i64 0) _ _ _ ?_
   rw[World.cell?_setCell_other _ _ _ _ (fun e=>by injection e with e _ _;omega)]
   exact d1
  go_wp2
  refine leaves_cons (f:=40) (args:=#[.pointer (some ⟨S,0,none⟩),.pointer (some ⟨S+1,0,none⟩)]) (by simp) (by simp[go_sem]) ?_
  refine (zhw S (S+1) _).mono ?_
  rintro e u' w2 ⟨rfl,rfl,rfl⟩
  simp[Leaves,settle,results,Tryz.results21,go_sem,k0,k1]
  refine⟨HQ.out.1,?_⟩
  rw[HPP.out]
  exact⟨nv,KV,rfl,HQ.out.2⟩
end
end Go.Proofs.YtnponhbgicbkcaaGreatDoor
