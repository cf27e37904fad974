import Derived.Test.YtbeiapdobffpiaaGreatDoorQ39
import Derived.Deep.CutBlock
set_option linter.all false
set_option maxRecDepth 100000
set_option maxHeartbeats 16000000
namespace Go.Proofs.YtbeiapdobffpiaaGreatDoor
open Go.RowKit Go.Sort Go.Proofs.Tryz
theorem vn(f:Nat)(ev:Array Value)(av:Nat->Array Value)(mb r g al wb nn m:Nat)(L:List Nd)(KV:Nat->Value)(Wd:Nat->Int)(H:Nat->Int->Int)(ks:Nat->Nat)(N:Nat->Int)(kc:Nat->Nat)(p:Option Addr)(c:Nat)(U:World)
 (hf:Hid ((f=140/\∃X,ev=#[Pq X]/\av=fun j=>#[Iq (ks j:Int),Pq X])\/f=141/\∃X Y,ev=#[Pq X,Pq Y]/\av=fun j=>#[Iq (ks j:Int),Pq X,Pq Y]))
 (hV:Hid (rx U mb r g al wb L KV Wd)) (hM:Hid (bu U r H nn)) (hm:m<=1000) (hks:Hid (∀j,j<m->ks j<L.length)) (hL:L.length<=1000000) (hK:Hid (gm U r p m (fun j=>(ks j:Int)))) (hN:Hid (∀j,j<m->0<=N j/\N j<=100000))
 (NC:Hid (∀j u,j<m->U.grownBy u (some r)->bu u r H (nn+cS kc j)->Cw f (av j) u fun e u'=>e=Rw (Iq (N j))/\Hid (u.grownBy u' (some r))/\Hid (bu u' r H (nn+cS kc (j+1))))):
 Cw 139 #[Pq mb,.slice p m c,.func (.func f) #[] ev] U fun e U'=>∃lb,e=Rw (Sq lb m m)/\QB U U' r lb m (fun j=>ti (ae L (ks j)) (N j)) (fun j=>aC (ae L (ks j)) 2) (fun j=>aC (ae L (ks j)) 3) H (nn+cS kc m):=by
 have gR:=vg m (by omega);have AM:=qH<|atMost_any;obtain⟨a,ha⟩:∃f:Nat->Int,(fun j=>ti (ae L (ks j)) (N j))=f:=⟨_,rfl⟩;obtain⟨b,hb⟩:∃f:Nat->Int,(fun j=>aC (ae L (ks j)) 2)=f:=⟨_,rfl⟩;obtain⟨cc,hcc⟩:∃f:Nat->Int,(fun j=>aC (ae L (ks j)) 3)=f:=⟨_,rfl⟩;have HA:Hid (∀j,a j=ti (ae L (ks j)) (N j)):=fun j=>by grind
 have HB:Hid (∀j,b j=aC (ae L (ks j)) 2):=fun j=>by grind
 have IA:Hid (∀j,cc j=aC (ae L (ks j)) 3):=fun j=>by grind
 rw[ha,hb,hcc];clear ha hb hcc;obtain⟨lb,hlb⟩:=aj U.heap.size;have Nk:=qH<|hlb;have R0:Hid ((U.alloc (.cells (madeCells #[Iq 0,Iq 0,Iq 0] (m*3)) 277)).rowIs lb 277 (m*3) (E9 a b cc 0)):=by rw[<-hlb];exact P5 U m a b cc _
 have G0:Hid (U.grownBy (U.alloc (.cells (madeCells #[Iq 0,Iq 0,Iq 0] (m*3)) 277)) (some r)):=pP (ac (ag _ U)) _;have M0:Hid (bu (U.alloc (.cells (madeCells #[Iq 0,Iq 0,Iq 0] (m*3)) 277)) r H (nn+cS kc 0)):=hM.alloc _;have Ka:lb≠r:=by have:=hM.lt;omega
 go_enter func139,ntmps139;go_wp2_with fail;clear hlb gR;go_loopw[17] (fun kv wr=>∃k:Nat,k<=m/\kv=Iq (k:Int)/\Hid (U.grownBy wr (some r))/\Hid (bu wr r H (nn+cS kc k))/\Hid (wr.rowIs lb 277 (m*3) (E9 a b cc k))) (fun kv _=>m-(intOf kv).toNat);case atStart=>grind
 case round=>
  obtain⟨k,hk,rfl,H7,RR,lL⟩:=hrel;clear R0 G0 M0;by_cases hlt:k<m
  ·have aK:(k:Int)<(m:Int):=by omega
   have dD:=hks k hlt;have hkI:(ks k:Int)<(L.length:Int):=by omega
   have Y5:=qH<|hV.grown H7;have oW:=Y5.ms;have m0:wr.cell? (az mb 0)=some (Sq g L.length al):=by unfold Ms at oW;rw[Lib.cell_of_heap oW];rfl
   obtain⟨kb,ko,rfl,_,_,J4⟩:=(hK.grown H7).resolve_left (by omega);have ck:=J4 k hlt;have qB:=nU (Y5.len _ dD) (KV (ks k));have kJ:=Y5.nd _ dD;rw[qB]at kJ;have y_:=hN k hlt;have eA:=HA k;have eB:=HB k;have eC:=IA k;unfold ti at eA;generalize(ae L (ks k)).text.toArray=Yw at kJ;generalize((ae L (ks k)).kind:Int)=kd at kJ;generalize aC (ae L (ks k)) 0=a0 at kJ;generalize aC (ae L (ks k)) 1=a1 at kJ eA;generalize aC (ae L (ks k)) 2=a2 at kJ eA eB;generalize aC (ae L (ks k)) 3=a3 at kJ eA eC;generalize aC (ae L (ks k)) 4=a4 at kJ;generalize aC (ae L (ks k)) 5=a5 at kJ;generalize aC (ae L (ks k)) 6=a6 at kJ;generalize aC (ae L (ks k)) 7=a7 at kJ;generalize aC (ae L (ks k)) 8=a8 at kJ;generalize aC (ae L (ks k)) 9=a9 at kJ;generalize aC (ae L (ks k)) 10=b0 at kJ;generalize aC (ae L (ks k)) 11=b1 at kJ;generalize(ae L (ks k)).up=up at kJ;obtain⟨pk,ckk,uJ,_⟩:=Y5.kid _ dD;generalize(ae L (ks k)).kids.length=kl at uJ;rw[uJ]at kJ;obtain⟨tx,zk⟩:∃z:ByteArray,⟨Yw⟩=z:=⟨_,rfl⟩;rw[zk]at kJ;have hq:=kJ;have q0:wr.cell? (az g (ks k*16))=some (Iq kd):=hq 0 _ rfl;have q1:=hq 1 _ rfl;have q2:=hq 2 _ rfl;have q3:=hq 3 _ rfl;have q4:=hq 4 _ rfl;have q5:=hq 5 _ rfl;have q6:=hq 6 _ rfl;have q7:=hq 7 _ rfl;have q8:=hq 8 _ rfl;have q9:=hq 9 _ rfl;have q10:=hq 10 _ rfl;have q11:=hq 11 _ rfl;have q12:=hq 12 _ rfl;have q13:=hq 13 _ rfl;have q14:=hq 14 _ rfl;have q15:=hq 15 _ rfl;obtain⟨W1,cE⟩:=aj (wr.alloc (.cells #[Iq kd,Iq a0,Iq a1,Iq a2,Iq a3,Iq a4,Iq a5,Iq a6,Iq a7,Iq a8,Iq a9,Iq b0,Iq b1,.string tx,.slice pk kl ckk,Iq up] 100));obtain⟨A,hA⟩:=aj wr.heap.size;have hlA:lb<A:=by rw[<-hA];exact lL.lt
   have bY:W1.heap[A]?=some (.cells #[Iq kd,Iq a0,Iq a1,Iq a2,Iq a3,Iq a4,Iq a5,Iq a6,Iq a7,Iq a8,Iq a9,Iq b0,Iq b1,.string tx,.slice pk kl ckk,Iq up] 100 (0,0)):=by rw[<-cE,<-hA];show(wr.heap.push _)[wr.heap.size]?=_;exact Mt
   have hgA:A≠r:=by have:=RR.lt;omega
   have cH:Hid (∀u,W1.grownBy u (some r)->∀(t:Nat) x,#[Iq kd,Iq a0,Iq a1,Iq a2,Iq a3,Iq a4,Iq a5,Iq a6,Iq a7,Iq a8,Iq a9,Iq b0,Iq b1,.string tx,.slice pk kl ckk,Iq up][t]?=some x->u.cell? (az A t)=some x):=fun u hu t x ht=>by have Cl:=(aS.1 bY).1;have:=hu.block A Cl (fun e=>by injection e with e;omega);rw[Lib.cell_of_heap (this.trans bY)];exact ht
   have HG1:Hid (U.grownBy W1 (some r)):=by rw[<-cE];exact pP H7 _
   have HM1:Hid (bu W1 r H (nn+cS kc k)):=by rw[<-cE];exact RR.alloc _
   have HR1:Hid (W1.rowIs lb 277 (m*3) (E9 a b cc k)):=by rw[<-cE];exact lL.alloc _
   have z2:W1.cell? (az A 2)=some (Iq a1):=cH W1 (ac (ag _ _)) 2 _ rfl;have z3:W1.cell? (az A 3)=some (Iq a2):=cH W1 (ac (ag _ _)) 3 _ rfl;have z4:W1.cell? (az A 4)=some (Iq a3):=cH W1 (ac (ag _ _)) 4 _ rfl;have hlU:U.heap.size<=lb:=by rw[Nk.out];exact ai _
   have gT:Hid (∀u x,W1.grownBy u (some r)->bu u r H (nn+cS kc (k+1))->x=a k->u.cell? (az A 3)=some (Iq a2)/\u.cell? (az A 4)=some (Iq a3)/\lb<u.heap.size/\(∀j,u.frozen? (az lb j)=false)/\(∃v,u.cell? (az lb (k*3))=some v)/\(∃v,u.cell? (az lb (k*3+1))=some v)/\(∃v,u.cell? (az lb (k*3+2))=some v)/\
    Hid (U.grownBy (((u.setCell (az lb (k*3)) (Iq x)).setCell (az lb (k*3+1)) (Iq a2)).setCell (az lb (k*3+2)) (Iq a3)) (some r))/\Hid (bu (((u.setCell (az lb (k*3)) (Iq x)).setCell (az lb (k*3+1)) (Iq a2)).setCell (az lb (k*3+2)) (Iq a3)) r H (nn+cS kc (k+1)))/\Hid ((((u.setCell (az lb (k*3)) (Iq x)).setCell (az lb (k*3+1)) (Iq a2)).setCell (az lb (k*3+2)) (Iq a3)).rowIs lb 277 (m*3) (E9 a b cc (k+1)))):=fun u x hu Gu hx=>by have Vh:=qe HR1 hu Ka;have UV:=HG1.trans hu;refine⟨cH u hu 3 _ rfl,cH u hu 4 _ rfl,Vh.lt,fun j=>Vh.frozen j,⟨_,Vh.cell (by omega)⟩,⟨_,Vh.cell (by omega)⟩,⟨_,Vh.cell (by omega)⟩,eG (eG (eG UV hlU _) hlU _) hlU _,((Gu.set Ka _).set Ka _).set Ka _,P4 Vh _ _ _ hx eB.symm eC.symm⟩
   have HEA:=qH<|eA;clear qB kJ hq bY uJ zk eA eB eC oW J4 hlA hgA hks;by_cases h3:a3=0
   ·subst h3;have HC:Hid (∀u,(u=W1\/u=W1.drew)->Cw f (av k) u fun e u'=>e=Rw (Iq (N k))/\u'.cell? (az A 3)=some (Iq a2)/\Hid (W1.grownBy u' (some r))/\Hid (bu u' r H (nn+cS kc (k+1)))):=fun u hu=>by
     have wN:W1.grownBy u (some r):=by
      rcases hu with rfl|rfl;·exact ac (ag _ _)
      ·exact gx (ac (ag _ _))
     have kI:bu u r H (nn+cS kc k):=by
      rcases hu with rfl|rfl;·exact HM1
      ·exact HM1.drew
     refine(NC k u hlt (HG1.trans wN) kI).mono ?_;rintro e u' ⟨rfl,q1,q2⟩;have:=wN.trans q1;exact⟨rfl,cH u' this 3 _ rfl,this,q2⟩
    have HX:Hid (max a1 (nK (N k) a2)=a k):=by show _=_;rw[HEA.out,if_pos rfl]
    obtain⟨y,hy⟩:=aj (N k);obtain⟨z,hz⟩:=aj (nK (N k) a2);have AM1:Hid (∀w,Cw 179 #[Iq y,Iq a2] w fun e w'=>e=Rw (Iq z)/\w'=w):=fun w=>by rw[<-hz,<-hy];exact AM _ _ _
    rw[hz]at HX;rw[hy]at HC;clear hy hz AM NC;go_upto_region 8 with fail;go_cut[11]from 34 to 41 (fun v wx=>v=Iq (max a1 z)/\Hid (W1.grownBy wx (some r))/\Hid (bu wx r H (nn+cS kc (k+1))));case first=>
     clear cE hA;rcases hf.out with⟨rfl,X,rfl,rfl⟩|⟨rfl,X,Y,rfl,rfl⟩<;>dsimp only at HC;all_goals go_region_held(fun W=>W.cell? (az A 3)=some (Iq a2)) (go_keep) (first|((first|go_at_call 140|go_at_call 141);refine am (HC _ (by first|exact .inl rfl|exact .inr rfl)) ?_;rintro e u ⟨rfl,hu3,xZ,YW⟩)|(go_at_call 179;refine am (AM1 _) ?_;rintro e u2 ⟨rfl,Tn⟩;obtain rfl:=Tn.symm))
     all_goals go_wp2_with fail
     all_goals go_meet
     all_goals exact⟨by first|rfl|exact congrArg (Value.int .i64) (by omega),by first|exact xZ|exact gx xZ,by first|exact YW|exact YW.drew⟩
    case rest=>
     obtain⟨rfl,xZ,YW⟩:=hcut;obtain⟨f3,f4,f5,f6,⟨v0,f7⟩,⟨v1,f8⟩,⟨v2,f9⟩,F1,F2,F3⟩:=gT wc (max a1 z) xZ YW HX;clear z2 z3 z4 cE hA HC AM1 gT;go_wp2;go_roundw;case rel=>exact⟨k+1,hlt,by go_num,F1,F2,F3⟩
     case measure=>simp[intOf];omega
   ·have e3:(a3==0)=false:=by simpa using h3
    have HX:Hid (a1=a k):=by show _=_;rw[HEA.out,if_neg h3]
    obtain⟨f3,f4,f5,f6,⟨v0,f7⟩,⟨v1,f8⟩,⟨v2,f9⟩,F1,F2,F3⟩:=gT W1 a1 (ac (ag _ _)) (HM1.mono (by show nn+cS kc k<=nn+(cS kc k+kc k);omega)) HX;clear gT NC;go_wp2;go_roundw;case rel=>exact⟨k+1,hlt,by go_num,F1,F2,F3⟩
    case measure=>simp[intOf];omega
  ·have aK:¬(k:Int)<(m:Int):=by omega
   obtain rfl:k=m:=by omega
   go_wp2;go_ret;exact⟨lb,rfl,Ub lL,by rw[Nk.out];omega,H7,RR⟩
