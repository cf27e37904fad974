import Derived.Test.YtiaimhjebnobnaaGreatDoorQ43
import Derived.Deep.CutBlock
set_option linter.all false
set_option maxRecDepth 100000
set_option maxHeartbeats 16000000
namespace Go.Proofs.YtiaimhjebnobnaaGreatDoor
open Go.RowKit Go.Sort Go.Proofs.Tryz
theorem y_(f:Nat)(ev:Array Value)(av:Nat->Array Value)(mb r g cap wb nn m:Nat)(L:List Nd)(KV:Nat->Value)(Wd:Nat->Int)(H:Nat->Int->Int)(ks:Nat->Nat)(N:Nat->Int)(kc:Nat->Nat)(p:Option Addr)(c:Nat)(U:World)
 (hf:Hid ((f=172/\∃X,ev=#[Pq X]/\av=fun j=>#[Iq (ks j:Int),Pq X])\/f=173/\∃X Y,ev=#[Pq X,Pq Y]/\av=fun j=>#[Iq (ks j:Int),Pq X,Pq Y]))
 (hV:Hid (uA U mb r g cap wb L KV Wd)) (hM:Hid (bN U r H nn)) (hm:m<=1000) (hks:Hid (∀j,j<m->ks j<L.length)) (hL:L.length<=1000000) (hK:Hid (ir U r p m (fun j=>(ks j:Int)))) (hN:Hid (∀j,j<m->0<=N j/\N j<=100000))
 (NC:Hid (∀j u,j<m->U.grownBy u (some r)->bN u r H (nn+cS kc j)->Cw f (av j) u fun e u'=>e=Rw (Iq (N j))/\Hid (u.grownBy u' (some r))/\Hid (bN u' r H (nn+cS kc (j+1))))):
 Cw 171 #[Pq mb,.slice p m c,.func (.func f) #[] ev] U fun e U'=>∃lb,e=Rw (Sq lb m m)/\Wy U U' r lb m (fun j=>wV (ae L (ks j)) (N j)) (fun j=>aF (ae L (ks j)) 2) (fun j=>aF (ae L (ks j)) 3) H (nn+cS kc m):=by
 have iU:=yW m (by omega);have AM:=qH<|atMost_any;obtain⟨a,ha⟩:∃f:Nat->Int,(fun j=>wV (ae L (ks j)) (N j))=f:=⟨_,rfl⟩;obtain⟨b,hb⟩:∃f:Nat->Int,(fun j=>aF (ae L (ks j)) 2)=f:=⟨_,rfl⟩;obtain⟨cc,hcc⟩:∃f:Nat->Int,(fun j=>aF (ae L (ks j)) 3)=f:=⟨_,rfl⟩;have HA:Hid (∀j,a j=wV (ae L (ks j)) (N j)):=fun j=>by grind
 have HB:Hid (∀j,b j=aF (ae L (ks j)) 2):=fun j=>by grind
 have Bm:Hid (∀j,cc j=aF (ae L (ks j)) 3):=fun j=>by grind
 rw[ha,hb,hcc];clear ha hb hcc;obtain⟨lb,hlb⟩:=ag U.heap.size;have Tb:=qH<|hlb;have R0:Hid ((U.alloc (.cells (madeCells #[Iq 0,Iq 0,Iq 0] (m*3)) 290)).rowIs lb 290 (m*3) (zb a b cc 0)):=by rw[<-hlb];exact JE U m a b cc _
 have G0:Hid (U.grownBy (U.alloc (.cells (madeCells #[Iq 0,Iq 0,Iq 0] (m*3)) 290)) (some r)):=ss (ac (aj _ U)) _;have M0:Hid (bN (U.alloc (.cells (madeCells #[Iq 0,Iq 0,Iq 0] (m*3)) 290)) r H (nn+cS kc 0)):=hM.alloc _;have Pa:lb≠r:=by have:=hM.lt;omega
 go_enter func171,ntmps171;go_wp2_with fail;clear hlb iU;go_loopw[17] (fun kv wr=>∃k:Nat,k<=m/\kv=Iq (k:Int)/\Hid (U.grownBy wr (some r))/\Hid (bN wr r H (nn+cS kc k))/\Hid (wr.rowIs lb 290 (m*3) (zb a b cc k))) (fun kv _=>m-(intOf kv).toNat);case atStart=>grind
 case round=>
  obtain⟨k,hk,rfl,Mw,X0,lO⟩:=hrel;clear R0 G0 M0;by_cases hlt:k<m
  ·have aN:(k:Int)<(m:Int):=by omega
   have dj:=hks k hlt;have hkI:(ks k:Int)<(L.length:Int):=by omega
   have HVR:=qH<|hV.grown Mw;have xh:=HVR.ms;have m0:wr.cell? (az mb 0)=some (Sq g L.length cap):=by unfold Ms at xh;rw[Lib.cell_of_heap xh];rfl
   obtain⟨kb,ko,rfl,_,_,OX⟩:=(hK.grown Mw).resolve_left (by omega);have ck:=OX k hlt;have pB:=nR (HVR.len _ dj) (KV (ks k));have mN:=HVR.nd _ dj;rw[pB]at mN;have Do:=hN k hlt;have eA:=HA k;have eB:=HB k;have eC:=Bm k;unfold wV at eA;generalize(ae L (ks k)).text.toArray=_g at mN;generalize((ae L (ks k)).kind:Int)=kd at mN;generalize aF (ae L (ks k)) 0=a0 at mN;generalize aF (ae L (ks k)) 1=a1 at mN eA;generalize aF (ae L (ks k)) 2=a2 at mN eA eB;generalize aF (ae L (ks k)) 3=a3 at mN eA eC;generalize aF (ae L (ks k)) 4=a4 at mN;generalize aF (ae L (ks k)) 5=a5 at mN;generalize aF (ae L (ks k)) 6=a6 at mN;generalize aF (ae L (ks k)) 7=a7 at mN;generalize aF (ae L (ks k)) 8=a8 at mN;generalize aF (ae L (ks k)) 9=a9 at mN;generalize aF (ae L (ks k)) 10=b0 at mN;generalize aF (ae L (ks k)) 11=b1 at mN;generalize(ae L (ks k)).up=up at mN;obtain⟨pk,ckk,pD,_⟩:=HVR.kid _ dj;generalize(ae L (ks k)).kids.length=kl at pD;rw[pD]at mN;obtain⟨tx,xH⟩:∃z:ByteArray,⟨_g⟩=z:=⟨_,rfl⟩;rw[xH]at mN;have hq:=mN;have q0:wr.cell? (az g (ks k*16))=some (Iq kd):=hq 0 _ rfl;have q1:=hq 1 _ rfl;have q2:=hq 2 _ rfl;have q3:=hq 3 _ rfl;have q4:=hq 4 _ rfl;have q5:=hq 5 _ rfl;have q6:=hq 6 _ rfl;have q7:=hq 7 _ rfl;have q8:=hq 8 _ rfl;have q9:=hq 9 _ rfl;have q10:=hq 10 _ rfl;have q11:=hq 11 _ rfl;have q12:=hq 12 _ rfl;have q13:=hq 13 _ rfl;have q14:=hq 14 _ rfl;have q15:=hq 15 _ rfl;obtain⟨W1,cC⟩:=ag (wr.alloc (.cells #[Iq kd,Iq a0,Iq a1,Iq a2,Iq a3,Iq a4,Iq a5,Iq a6,Iq a7,Iq a8,Iq a9,Iq b0,Iq b1,.string tx,.slice pk kl ckk,Iq up] 63));obtain⟨A,hA⟩:=ag wr.heap.size;have hlA:lb<A:=by rw[<-hA];exact lO.lt
   have b9:W1.heap[A]?=some (.cells #[Iq kd,Iq a0,Iq a1,Iq a2,Iq a3,Iq a4,Iq a5,Iq a6,Iq a7,Iq a8,Iq a9,Iq b0,Iq b1,.string tx,.slice pk kl ckk,Iq up] 63 (0,0)):=by rw[<-cC,<-hA];show(wr.heap.push _)[wr.heap.size]?=_;exact RL
   have hgA:A≠r:=by have:=X0.lt;omega
   have cZ:Hid (∀u,W1.grownBy u (some r)->∀(t:Nat) x,#[Iq kd,Iq a0,Iq a1,Iq a2,Iq a3,Iq a4,Iq a5,Iq a6,Iq a7,Iq a8,Iq a9,Iq b0,Iq b1,.string tx,.slice pk kl ckk,Iq up][t]?=some x->u.cell? (az A t)=some x):=fun u hu t x ht=>by have Gb:=(aM.1 b9).1;have:=hu.block A Gb (fun e=>by injection e with e;omega);rw[Lib.cell_of_heap (this.trans b9)];exact ht
   have HG1:Hid (U.grownBy W1 (some r)):=by rw[<-cC];exact ss Mw _
   have HM1:Hid (bN W1 r H (nn+cS kc k)):=by rw[<-cC];exact X0.alloc _
   have HR1:Hid (W1.rowIs lb 290 (m*3) (zb a b cc k)):=by rw[<-cC];exact lO.alloc _
   have z2:W1.cell? (az A 2)=some (Iq a1):=cZ W1 (ac (aj _ _)) 2 _ rfl;have z3:W1.cell? (az A 3)=some (Iq a2):=cZ W1 (ac (aj _ _)) 3 _ rfl;have z4:W1.cell? (az A 4)=some (Iq a3):=cZ W1 (ac (aj _ _)) 4 _ rfl;have hlU:U.heap.size<=lb:=by rw[Tb.out];exact ai _
   have iB:Hid (∀u x,W1.grownBy u (some r)->bN u r H (nn+cS kc (k+1))->x=a k->u.cell? (az A 3)=some (Iq a2)/\u.cell? (az A 4)=some (Iq a3)/\lb<u.heap.size/\(∀j,u.frozen? (az lb j)=false)/\(∃v,u.cell? (az lb (k*3))=some v)/\(∃v,u.cell? (az lb (k*3+1))=some v)/\(∃v,u.cell? (az lb (k*3+2))=some v)/\
    Hid (U.grownBy (((u.setCell (az lb (k*3)) (Iq x)).setCell (az lb (k*3+1)) (Iq a2)).setCell (az lb (k*3+2)) (Iq a3)) (some r))/\Hid (bN (((u.setCell (az lb (k*3)) (Iq x)).setCell (az lb (k*3+1)) (Iq a2)).setCell (az lb (k*3+2)) (Iq a3)) r H (nn+cS kc (k+1)))/\Hid ((((u.setCell (az lb (k*3)) (Iq x)).setCell (az lb (k*3+1)) (Iq a2)).setCell (az lb (k*3+2)) (Iq a3)).rowIs lb 290 (m*3) (zb a b cc (k+1)))):=fun u x hu Lc hx=>by have FB:=sQ HR1 hu Pa;have _6:=HG1.trans hu;refine⟨cZ u hu 3 _ rfl,cZ u hu 4 _ rfl,FB.lt,fun j=>FB.frozen j,⟨_,FB.cell (by omega)⟩,⟨_,FB.cell (by omega)⟩,⟨_,FB.cell (by omega)⟩,fH (fH (fH _6 hlU _) hlU _) hlU _,((Lc.set Pa _).set Pa _).set Pa _,JD FB _ _ _ hx eB.symm eC.symm⟩
   have HEA:=qH<|eA;clear pB mN hq b9 pD xH eA eB eC xh OX hlA hgA hks;by_cases h3:a3=0
   ·subst h3;have HC:Hid (∀u,(u=W1\/u=W1.drew)->Cw f (av k) u fun e u'=>e=Rw (Iq (N k))/\u'.cell? (az A 3)=some (Iq a2)/\Hid (W1.grownBy u' (some r))/\Hid (bN u' r H (nn+cS kc (k+1)))):=fun u hu=>by
     have sw:W1.grownBy u (some r):=by
      rcases hu with rfl|rfl;·exact ac (aj _ _)
      ·exact iC (ac (aj _ _))
     have og:bN u r H (nn+cS kc k):=by
      rcases hu with rfl|rfl;·exact HM1
      ·exact HM1.drew
     refine(NC k u hlt (HG1.trans sw) og).mono ?_;rintro e u' ⟨rfl,q1,q2⟩;have:=sw.trans q1;exact⟨rfl,cZ u' this 3 _ rfl,this,q2⟩
    have HX:Hid (max a1 (qh (N k) a2)=a k):=by show _=_;rw[HEA.out,if_pos rfl]
    obtain⟨y,hy⟩:=ag (N k);obtain⟨z,hz⟩:=ag (qh (N k) a2);have AM1:Hid (∀w,Cw 207 #[Iq y,Iq a2] w fun e w'=>e=Rw (Iq z)/\w'=w):=fun w=>by rw[<-hz,<-hy];exact AM _ _ _
    rw[hz]at HX;rw[hy]at HC;clear hy hz AM NC;go_upto_region 8 with fail;go_cut[11]from 34 to 41 (fun v wx=>v=Iq (max a1 z)/\Hid (W1.grownBy wx (some r))/\Hid (bN wx r H (nn+cS kc (k+1))));case first=>
     clear cC hA;rcases hf.out with⟨rfl,X,rfl,rfl⟩|⟨rfl,X,Y,rfl,rfl⟩<;>dsimp only at HC;all_goals go_region_held(fun W=>W.cell? (az A 3)=some (Iq a2)) (go_keep) (first|((first|go_at_call 172|go_at_call 173);refine ao (HC _ (by first|exact .inl rfl|exact .inr rfl)) ?_;rintro e u ⟨rfl,hu3,xq,HMu⟩)|(go_at_call 207;refine ao (AM1 _) ?_;rintro e u2 ⟨rfl,SM⟩;obtain rfl:=SM.symm))
     all_goals go_wp2_with fail
     all_goals go_meet
     all_goals exact⟨by first|rfl|exact congrArg (Value.int .i64) (by omega),by first|exact xq|exact iC xq,by first|exact HMu|exact HMu.drew⟩
    case rest=>
     obtain⟨rfl,xq,HMu⟩:=hcut;obtain⟨f3,f4,f5,f6,⟨v0,f7⟩,⟨v1,f8⟩,⟨v2,f9⟩,F1,F2,F3⟩:=iB wc (max a1 z) xq HMu HX;clear z2 z3 z4 cC hA HC AM1 iB;go_wp2;go_roundw;case rel=>exact⟨k+1,hlt,by go_num,F1,F2,F3⟩
     case measure=>simp[intOf];omega
   ·have e3:(a3==0)=false:=by simpa using h3
    have HX:Hid (a1=a k):=by show _=_;rw[HEA.out,if_neg h3]
    obtain⟨f3,f4,f5,f6,⟨v0,f7⟩,⟨v1,f8⟩,⟨v2,f9⟩,F1,F2,F3⟩:=iB W1 a1 (ac (aj _ _)) (HM1.mono (by show nn+cS kc k<=nn+(cS kc k+kc k);omega)) HX;clear iB NC;go_wp2;go_roundw;case rel=>exact⟨k+1,hlt,by go_num,F1,F2,F3⟩
    case measure=>simp[intOf];omega
  ·have aN:¬(k:Int)<(m:Int):=by omega
   obtain rfl:k=m:=by omega
   go_wp2;go_ret;exact⟨lb,rfl,Ri lO,by rw[Tb.out];omega,Mw,X0⟩
