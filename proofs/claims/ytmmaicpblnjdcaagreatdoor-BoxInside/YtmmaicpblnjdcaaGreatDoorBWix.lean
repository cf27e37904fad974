import Derived.Test.YtmmaicpblnjdcaaGreatDoorB50
import Derived.BigQuiet
import Derived.Deep.RegionHeld
set_option linter.unusedVariables false
set_option maxRecDepth 100000
set_option maxHeartbeats 16000000
namespace Go.Proofs.YtmmaicpblnjdcaaGreatDoor
section
open Go.RowKit Go.Sort
theorem zd7(s:ByteArray)(w h:Int)(sp:Option Addr)(sn sc:Nat)(idf off:Nat->Int)(E:Nat->Addr)(W:World)(hG:Glo W E)(hA:z2w W E)(hE:ErT W)(ht:z0z W)(hsc:Scr W sp sn idf off)(hsn:sn≤8796093022208) :
 Calls Tryz.prog 3 #[.string s,.int .i64 w,.int .i64 h,.slice sp sn sc] W fun e W'=>e=.returned (.bool true)∧Below W.heap.size W W':=by
 have hmix:Tryz.prog.follows .mixedOrders=true:=by kernel_rfl
 have RT:Hid (Calls Tryz.prog 7 #[.string s,.int .i64 w,.int .i64 h] W fun e U'=>e=.returned (.bool (z4v s w h))∧Hid (Below W.heap.size W U')):=z7a s w h W
 by_cases hr:z2h s w h
 ·rw[z48 hr] at RT
  have LD:Hid (∀u,Below W.heap.size W u->Calls Tryz.prog 8 #[.string s,.int .i64 w,.int .i64 h,.slice sp sn sc] u fun e U'=>∃ (L:List Nd) (g cap pb:Nat) (KV:Nat->Value) (P:Nat->Nat->Int),e=.returned (.tuple #[.slice (some ⟨g,0,none⟩) L.length cap,.slice (some ⟨pb,0,none⟩) L.length L.length,.bool true])∧Hid (NP U' g pb L KV P)∧Hid (Tree s L∧∃Wd H,PlTo L Wd H w h idf off sn P L.length)∧Hid (Below W.heap.size W U')):=fun u hu=>z8t hr sp sn sc idf off E W hG hA hE ht hsc hsn u hu
  have HSZ:Hid ((1≤w∧w≤400)∧(1≤h∧h≤400)):=hr.sz
  clear hG hA hE ht hsc
  go_enter Tryz.func3,Tryz.ntmps3
  go_wp2_with (first|(go_at_call 7;refine RT.out.mono ?_;rintro e U1 ⟨rfl,HB1⟩)|(go_at_call 8;refine (LD.out _ HB1.out).mono ?_;rintro e U2 ⟨L,g,cap,pb,KV,P,rfl,HNP,HTP,HB2⟩))
  obtain⟨N,hN⟩:∃z,L.length=z:=⟨_,rfl⟩
  have HN:Hid (L.length=N):=hN
  have hN100:N≤100:=by have:=HTP.out.1.vl.cnt;omega
  rw[hN]
  clear hN RT LD
  go_loopw [13] (fun iv wr=>∃i:Nat,i≤N∧iv=.int .i64 (i:Int)∧Hid (Below U2.heap.size U2 wr)) (fun iv _=>N - (intOf iv).toNat)
  case atStart=>exact⟨0,Nat.zero_le _,rfl,Below.refl _ _⟩
  case round =>
   obtain⟨i,hi,rfl,HB⟩:=hrel
   rename World=>W1
   have HNr:Hid (NP W1 g pb L KV P):=HNP.out.below HB.out
   by_cases hlt:i<N
   ·have hlt':(i:Int)<(N:Int):=by omega
    have hiL:i<L.length:=by have:=HN.out;omega
    obtain⟨Wd,H,hP⟩:=HTP.out.2
    have hon:=hP.onScr HTP.out.1 HSZ.out.1 HSZ.out.2 (i+1) i (by omega) hiL
    have hbi:=hP.bd i hiL
    have HCL:Hid (InsB (P i 4) (P i 5) (P i 6) (P i 7) (P i 0) (P i 1) (P i 2) (P i 3)∧(0<i->∃u:Nat,u<i∧(nth L i).up=(u:Int)∧InsB (P i 4) (P i 5) (P i 6) (P i 7) (P u 4) (P u 5) (P u 6) (P u 7)∧zeu P w h u)):=by
     by_cases e:i=0
     ·subst e
      obtain⟨r0,r1,r2,r3,r4,r5,r6,r7⟩:=hP.root
      refine⟨?_,fun q=>absurd q (by omega)⟩
      rw[r0,r1,r2,r3,r4,r5,r6,r7]
      exact .inr (.inr (by omega))
     ·obtain⟨u,hu,hup,q1,q2⟩:=hP.clip HTP.out.1 HSZ.out.1 HSZ.out.2 hiL (by omega)
      exact⟨q1,fun _=>⟨u,hu,hup,q2,hP.onScr HTP.out.1 HSZ.out.1 HSZ.out.2 (u+1) u (by omega) (by omega)⟩⟩
    have HSC:Hid (InsB (P i 4) (P i 5) (P i 6) (P i 7) 0 0 w h):=by
     unfold zeu at hon
     exact .inr (.inr (by omega))
    have HPL:Hid (∀ (u:World) (t:Nat),Below W1.heap.size W1 u->t<8->u.cell? ⟨pb,i*10+t,none⟩=some (.int .i64 (P i t))):=fun u t hu ht=>z0k hu (HNr.out.pl i t hiL (by omega))
    obtain⟨p0,h0⟩:∃z,P i 0=z:=⟨_,rfl⟩
    obtain⟨p1,h1⟩:∃z,P i 1=z:=⟨_,rfl⟩
    obtain⟨p2,h2⟩:∃z,P i 2=z:=⟨_,rfl⟩
    obtain⟨p3,h3⟩:∃z,P i 3=z:=⟨_,rfl⟩
    obtain⟨c4,h4⟩:∃z,P i 4=z:=⟨_,rfl⟩
    obtain⟨c5,h5⟩:∃z,P i 5=z:=⟨_,rfl⟩
    obtain⟨c6,h6⟩:∃z,P i 6=z:=⟨_,rfl⟩
    obtain⟨c7,h7⟩:∃z,P i 7=z:=⟨_,rfl⟩
    have y0:W1.cell? ⟨pb,i*10,none⟩=some (.int .i64 p0):=by rw[<-h0];exact HPL.out W1 0 (Below.refl _ _) (by omega)
    have y1:W1.cell? ⟨pb,i*10+1,none⟩=some (.int .i64 p1):=by rw[<-h1];exact HPL.out W1 1 (Below.refl _ _) (by omega)
    have y2:W1.cell? ⟨pb,i*10+2,none⟩=some (.int .i64 p2):=by rw[<-h2];exact HPL.out W1 2 (Below.refl _ _) (by omega)
    have y3:W1.cell? ⟨pb,i*10+3,none⟩=some (.int .i64 p3):=by rw[<-h3];exact HPL.out W1 3 (Below.refl _ _) (by omega)
    have y4:W1.cell? ⟨pb,i*10+4,none⟩=some (.int .i64 c4):=by rw[<-h4];exact HPL.out W1 4 (Below.refl _ _) (by omega)
    have y5:W1.cell? ⟨pb,i*10+5,none⟩=some (.int .i64 c5):=by rw[<-h5];exact HPL.out W1 5 (Below.refl _ _) (by omega)
    have y6:W1.cell? ⟨pb,i*10+6,none⟩=some (.int .i64 c6):=by rw[<-h6];exact HPL.out W1 6 (Below.refl _ _) (by omega)
    have y7:W1.cell? ⟨pb,i*10+7,none⟩=some (.int .i64 c7):=by rw[<-h7];exact HPL.out W1 7 (Below.refl _ _) (by omega)
    unfold zeu at hon
    rw[h4,h5,h6,h7] at hon
    rw[h0,h1,h2,h3] at hbi
    rw[h4,h5,h6,h7] at HSC
    rw[h0,h1,h2,h3,h4,h5,h6,h7] at HCL
    have HSB:Hid (w≤400∧h≤400):=⟨HSZ.out.1.2,HSZ.out.2.2⟩
    have HCI:Hid (∀u,Below W1.heap.size W1 u->u.cell? ⟨pb,i*10,none⟩=some (.int .i64 p0)∧u.cell? ⟨pb,i*10+1,none⟩=some (.int .i64 p1)∧u.cell? ⟨pb,i*10+2,none⟩=some (.int .i64 p2)∧u.cell? ⟨pb,i*10+3,none⟩=some (.int .i64 p3)∧u.cell? ⟨pb,i*10+4,none⟩=some (.int .i64 c4)∧u.cell? ⟨pb,i*10+5,none⟩=some (.int .i64 c5)∧u.cell? ⟨pb,i*10+6,none⟩=some (.int .i64 c6)∧u.cell? ⟨pb,i*10+7,none⟩=some (.int .i64 c7)):=fun u hu=>by
     refine⟨?_,?_,?_,?_,?_,?_,?_,?_⟩
     ·rw[<-h0];exact HPL.out u 0 hu (by omega)
     ·rw[<-h1];exact HPL.out u 1 hu (by omega)
     ·rw[<-h2];exact HPL.out u 2 hu (by omega)
     ·rw[<-h3];exact HPL.out u 3 hu (by omega)
     ·rw[<-h4];exact HPL.out u 4 hu (by omega)
     ·rw[<-h5];exact HPL.out u 5 hu (by omega)
     ·rw[<-h6];exact HPL.out u 6 hu (by omega)
     ·rw[<-h7];exact HPL.out u 7 hu (by omega)
    have IN1:Hid (∀u,(u=W1∨u=W1.drew)->Calls Tryz.prog 9 #[.agg #[.int .i64 c4,.int .i64 c5,.int .i64 c6,.int .i64 c7],.agg #[.int .i64 p0,.int .i64 p1,.int .i64 p2,.int .i64 p3]] u fun e u'=>e=.returned (.bool true)∧(u'.cell? ⟨pb,i*10,none⟩=some (.int .i64 p0)∧u'.cell? ⟨pb,i*10+1,none⟩=some (.int .i64 p1)∧u'.cell? ⟨pb,i*10+2,none⟩=some (.int .i64 p2)∧u'.cell? ⟨pb,i*10+3,none⟩=some (.int .i64 p3)∧u'.cell? ⟨pb,i*10+4,none⟩=some (.int .i64 c4)∧u'.cell? ⟨pb,i*10+5,none⟩=some (.int .i64 c5)∧u'.cell? ⟨pb,i*10+6,none⟩=some (.int .i64 c6)∧u'.cell? ⟨pb,i*10+7,none⟩=some (.int .i64 c7))∧Hid (Below W1.heap.size W1 u')):=fun u hu=>by
     have hbu:Below W1.heap.size W1 u:=by
      rcases hu with rfl|rfl
      ·exact Below.refl _ _
      ·exact (Below.refl _ _).drew
     refine (z7s c4 c5 c6 c7 p0 p1 p2 p3 u HCL.out.1 (by have:=HSB.out;omega) (by have:=HSB.out;have:=HN.out;omega)).mono ?_
     rintro e u' ⟨rfl,q⟩
     have hb2:=hbu.trans (q.below.mono hbu.size)
     exact⟨rfl,HCI.out u' hb2,hb2⟩
    have IN2:Hid (∀u,Below W1.heap.size W1 u->Calls Tryz.prog 9 #[.agg #[.int .i64 c4,.int .i64 c5,.int .i64 c6,.int .i64 c7],.agg #[.int .i64 0,.int .i64 0,.int .i64 w,.int .i64 h]] u fun e u'=>e=.returned (.bool true)∧(u'.cell? ⟨pb,i*10,none⟩=some (.int .i64 p0)∧u'.cell? ⟨pb,i*10+1,none⟩=some (.int .i64 p1)∧u'.cell? ⟨pb,i*10+2,none⟩=some (.int .i64 p2)∧u'.cell? ⟨pb,i*10+3,none⟩=some (.int .i64 p3)∧u'.cell? ⟨pb,i*10+4,none⟩=some (.int .i64 c4)∧u'.cell? ⟨pb,i*10+5,none⟩=some (.int .i64 c5)∧u'.cell? ⟨pb,i*10+6,none⟩=some (.int .i64 c6)∧u'.cell? ⟨pb,i*10+7,none⟩=some (.int .i64 c7))∧Hid (Below W1.heap.size W1 u')):=fun u hu=>by
     refine (z7s c4 c5 c6 c7 0 0 w h u HSC.out (by have:=HSB.out;omega) (by have:=HSB.out;have:=HSZ.out;omega)).mono ?_
     rintro e u' ⟨rfl,q⟩
     have hb2:=hu.trans (q.below.mono hu.size)
     exact⟨rfl,HCI.out u' hb2,hb2⟩
    clear hP h0 h1 h2 h3 h4 h5 h6 h7
    by_cases hi0:i=0
    ·have hi0':¬(0:Int)<(i:Int):=by omega
     clear hi0 hon hbi
     go_wp2_with fail
     go_region_held (fun W=>W.cell? ⟨pb,i*10,none⟩=some (.int .i64 p0)∧W.cell? ⟨pb,i*10+1,none⟩=some (.int .i64 p1)∧W.cell? ⟨pb,i*10+2,none⟩=some (.int .i64 p2)∧W.cell? ⟨pb,i*10+3,none⟩=some (.int .i64 p3)∧W.cell? ⟨pb,i*10+4,none⟩=some (.int .i64 c4)∧W.cell? ⟨pb,i*10+5,none⟩=some (.int .i64 c5)∧W.cell? ⟨pb,i*10+6,none⟩=some (.int .i64 c6)∧W.cell? ⟨pb,i*10+7,none⟩=some (.int .i64 c7)) (go_keep) (first|(go_at_call 9;refine Calls.mono (IN1.out _ (by first|exact .inl rfl|exact .inr rfl)) ?_;rintro e u1 ⟨rfl,⟨s0,s1,s2,s3,s4,s5,s6,s7⟩,HBa⟩))
     all_goals go_wp2_with (go_at_call 9;refine Calls.mono (IN2.out _ HBa.out) ?_;rintro e u2 ⟨rfl,⟨t0,t1,t2,t3,t4,t5,t6,t7⟩,HBb⟩)
     all_goals go_roundw
     all_goals first|exact⟨i+1,by omega,by go_num,HB.out.trans (HBb.out.mono HB.out.size)⟩|(simp[intOf];omega)
    ·have hi0':(0:Int)<(i:Int):=by omega
     obtain⟨u,hu,hup,hIB,hou⟩:=HCL.out.2 (by omega)
     unfold zeu at hou
     have HUP:Hid (∀v,Below W1.heap.size W1 v->v.cell? ⟨g,i*16+15,none⟩=some (.int .i64 (u:Int))):=fun v hv=>by
      have:=(HNr.out.node hiL).2.2.2
      rw[hup] at this
      exact z0k hv this
     have HPU:Hid (∀ (v:World) (t:Nat),Below W1.heap.size W1 v->t<8->v.cell? ⟨pb,u*10+t,none⟩=some (.int .i64 (P u t))):=fun v t hv ht=>z0k hv (HNr.out.pl u t (by omega) (by omega))
     obtain⟨d4,g4⟩:∃z,P u 4=z:=⟨_,rfl⟩
     obtain⟨d5,g5⟩:∃z,P u 5=z:=⟨_,rfl⟩
     obtain⟨d6,g6⟩:∃z,P u 6=z:=⟨_,rfl⟩
     obtain⟨d7,g7⟩:∃z,P u 7=z:=⟨_,rfl⟩
     have HC9:Hid (∀v,Below W1.heap.size W1 v->v.cell? ⟨pb,i*10+4,none⟩=some (.int .i64 c4)∧v.cell? ⟨pb,i*10+5,none⟩=some (.int .i64 c5)∧v.cell? ⟨pb,i*10+6,none⟩=some (.int .i64 c6)∧v.cell? ⟨pb,i*10+7,none⟩=some (.int .i64 c7)∧v.cell? ⟨g,i*16+15,none⟩=some (.int .i64 (u:Int))∧v.cell? ⟨pb,u*10+4,none⟩=some (.int .i64 d4)∧v.cell? ⟨pb,u*10+5,none⟩=some (.int .i64 d5)∧v.cell? ⟨pb,u*10+6,none⟩=some (.int .i64 d6)∧v.cell? ⟨pb,u*10+7,none⟩=some (.int .i64 d7)):=fun v hv=>by
      obtain⟨_,_,_,_,z4,z5,z6,z7⟩:=HCI.out v hv
      refine⟨z4,z5,z6,z7,HUP.out v hv,?_,?_,?_,?_⟩
      ·rw[<-g4];exact HPU.out v 4 hv (by omega)
      ·rw[<-g5];exact HPU.out v 5 hv (by omega)
      ·rw[<-g6];exact HPU.out v 6 hv (by omega)
      ·rw[<-g7];exact HPU.out v 7 hv (by omega)
     rw[g4,g5,g6,g7] at hIB hou
     clear g4 g5 g6 g7
     have HUB:Hid (InsB c4 c5 c6 c7 d4 d5 d6 d7):=hIB
     have huN:(u:Int)<(N:Int):=by have:=HN.out;omega
     have hui:(u:Int)<(i:Int):=by omega
     have e1:decide ((u:Int)<0)=false:=decide_eq_false (by omega)
     have e2:decide ((i:Int)≤(u:Int))=false:=decide_eq_false (by omega)
     have IN3:Hid (∀v,(Below W1.heap.size W1 v)->Calls Tryz.prog 9 #[.agg #[.int .i64 c4,.int .i64 c5,.int .i64 c6,.int .i64 c7],.agg #[.int .i64 d4,.int .i64 d5,.int .i64 d6,.int .i64 d7]] v fun e u'=>e=.returned (.bool true)∧(u'.cell? ⟨pb,i*10+4,none⟩=some (.int .i64 c4)∧u'.cell? ⟨pb,i*10+5,none⟩=some (.int .i64 c5)∧u'.cell? ⟨pb,i*10+6,none⟩=some (.int .i64 c6)∧u'.cell? ⟨pb,i*10+7,none⟩=some (.int .i64 c7)∧u'.cell? ⟨g,i*16+15,none⟩=some (.int .i64 (u:Int))∧u'.cell? ⟨pb,u*10+4,none⟩=some (.int .i64 d4)∧u'.cell? ⟨pb,u*10+5,none⟩=some (.int .i64 d5)∧u'.cell? ⟨pb,u*10+6,none⟩=some (.int .i64 d6)∧u'.cell? ⟨pb,u*10+7,none⟩=some (.int .i64 d7))∧Hid (Below W1.heap.size W1 u')):=fun v hv=>by
      refine (z7s c4 c5 c6 c7 d4 d5 d6 d7 v HUB.out (by have:=HSB.out;omega) (by have:=HSB.out;omega)).mono ?_
      rintro e u' ⟨rfl,q⟩
      have hb2:=hv.trans (q.below.mono hv.size)
      exact⟨rfl,HC9.out u' hb2,hb2⟩
     clear hi0 hon hbi hou hIB hup hu
     go_wp2_with fail
     go_region_held (fun W=>W.cell? ⟨pb,i*10,none⟩=some (.int .i64 p0)∧W.cell? ⟨pb,i*10+1,none⟩=some (.int .i64 p1)∧W.cell? ⟨pb,i*10+2,none⟩=some (.int .i64 p2)∧W.cell? ⟨pb,i*10+3,none⟩=some (.int .i64 p3)∧W.cell? ⟨pb,i*10+4,none⟩=some (.int .i64 c4)∧W.cell? ⟨pb,i*10+5,none⟩=some (.int .i64 c5)∧W.cell? ⟨pb,i*10+6,none⟩=some (.int .i64 c6)∧W.cell? ⟨pb,i*10+7,none⟩=some (.int .i64 c7)) (go_keep) (first|(go_at_call 9;refine Calls.mono (IN1.out _ (by first|exact .inl rfl|exact .inr rfl)) ?_;rintro e u1 ⟨rfl,⟨s0,s1,s2,s3,s4,s5,s6,s7⟩,HBa⟩))
     all_goals go_wp2_with (go_at_call 9;refine Calls.mono (IN2.out _ HBa.out) ?_;rintro e u2 ⟨rfl,_,HBb⟩;obtain⟨m0,m1,m2,m3,m4,m5,m6,m7,m8⟩:=HC9.out u2 HBb.out)
     all_goals go_region_held (fun W=>W.cell? ⟨pb,i*10+4,none⟩=some (.int .i64 c4)∧W.cell? ⟨pb,i*10+5,none⟩=some (.int .i64 c5)∧W.cell? ⟨pb,i*10+6,none⟩=some (.int .i64 c6)∧W.cell? ⟨pb,i*10+7,none⟩=some (.int .i64 c7)∧W.cell? ⟨g,i*16+15,none⟩=some (.int .i64 (u:Int))∧W.cell? ⟨pb,u*10+4,none⟩=some (.int .i64 d4)∧W.cell? ⟨pb,u*10+5,none⟩=some (.int .i64 d5)∧W.cell? ⟨pb,u*10+6,none⟩=some (.int .i64 d6)∧W.cell? ⟨pb,u*10+7,none⟩=some (.int .i64 d7)) (go_keep) (first|(go_at_call 9;refine Calls.mono (IN3.out _ (by first|exact HBb.out|exact HBb.out.drew)) ?_;rintro e u3 ⟨rfl,⟨k0,k1,k2,k3,k4,k5,k6,k7,k8⟩,HBc⟩))
     all_goals go_wp2_with fail
     all_goals go_roundw
     all_goals first|exact⟨i+1,by omega,by go_num,HB.out.trans (HBc.out.mono HB.out.size)⟩|(simp[intOf];omega)
   ·have hlt':¬(i:Int)<(N:Int):=by omega
    obtain⟨Wd,H,hP⟩:=HTP.out.2
    obtain⟨r0,r1,r2,r3,r4,r5,r6,r7⟩:=hP.root
    have hpos:=HTP.out.1.pos
    have HPL:Hid (∀t:Nat,t<8->W1.cell? ⟨pb,0*10+t,none⟩=some (.int .i64 (P 0 t))):=fun t ht=>HNr.out.pl 0 t hpos (by omega)
    have y0:W1.cell? ⟨pb,0,none⟩=some (.int .i64 0):=by have:=HPL.out 0 (by omega);rw[r0] at this;simpa using this
    have y1:W1.cell? ⟨pb,1,none⟩=some (.int .i64 0):=by have:=HPL.out 1 (by omega);rw[r1] at this;simpa using this
    have y2:W1.cell? ⟨pb,2,none⟩=some (.int .i64 w):=by have:=HPL.out 2 (by omega);rw[r2] at this;simpa using this
    have y3:W1.cell? ⟨pb,3,none⟩=some (.int .i64 h):=by have:=HPL.out 3 (by omega);rw[r3] at this;simpa using this
    have y4:W1.cell? ⟨pb,4,none⟩=some (.int .i64 0):=by have:=HPL.out 4 (by omega);rw[r4] at this;simpa using this
    have y5:W1.cell? ⟨pb,5,none⟩=some (.int .i64 0):=by have:=HPL.out 5 (by omega);rw[r5] at this;simpa using this
    have y6:W1.cell? ⟨pb,6,none⟩=some (.int .i64 w):=by have:=HPL.out 6 (by omega);rw[r6] at this;simpa using this
    have y7:W1.cell? ⟨pb,7,none⟩=some (.int .i64 h):=by have:=HPL.out 7 (by omega);rw[r7] at this;simpa using this
    clear r0 r1 r2 r3 r4 r5 r6 r7 hP
    have hNpos:(0:Int)<(N:Int):=by have:=HN.out;omega
    go_wp2_with fail
    go_quiet (fail)
    go_wp2
    go_ret
    exact⟨rfl,by first|exact HB2.out.trans (HB.out.mono HB2.out.size)|exact z0v (HB2.out.trans (HB.out.mono HB2.out.size)) _⟩
 ·rw[z47 hr] at RT
  have LD:Hid (∀u,Below W.heap.size W u->Calls Tryz.prog 8 #[.string s,.int .i64 w,.int .i64 h,.slice sp sn sc] u fun e U'=>∃a b,e=.returned (.tuple #[a,b,.bool false])∧Hid (Below W.heap.size W U')):=fun u hu=>zc6 hr sp sn sc idf off E W hG hA hE ht hsc hsn u hu
  clear hG hA hE ht hsc
  go_enter Tryz.func3,Tryz.ntmps3
  go_wp2_with (first|(go_at_call 7;refine RT.out.mono ?_;rintro e U1 ⟨rfl,HB1⟩)|(go_at_call 8;refine (LD.out _ HB1.out).mono ?_;rintro e U2 ⟨a,b,rfl,HB2⟩))
  go_ret
  exact⟨rfl,HB2.out⟩
end
end Go.Proofs.YtmmaicpblnjdcaaGreatDoor
