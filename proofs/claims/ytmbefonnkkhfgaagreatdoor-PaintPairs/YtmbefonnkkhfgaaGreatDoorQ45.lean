import Derived.Test.YtmbefonnkkhfgaaGreatDoorQ00
import Derived.Test.YtmbefonnkkhfgaaGreatDoorQ44
import Derived.Deep.RegionHeld
import Derived.Deep.CutBlock
set_option linter.unusedVariables false
set_option maxRecDepth 100000
set_option maxHeartbeats 16000000
namespace Go.Proofs.YtmbefonnkkhfgaaGreatDoor
section
open Go.RowKit Go.Sort Go.Proofs.Tryz
theorem wants_any(f:Nat)(ev:Array Value)(av:Nat->Array Value)(mb r g cap wb nn m:Nat)(L:List Nd)(KV:Nat->Value)(Wd:Nat->Int)(H:Nat->Int->Int)(ks:Nat->Nat)(N:Nat->Int)(kc:Nat->Nat)(p:Option Addr)(c:Nat)(U:World)
 (hf:Hid ((f=139∧∃X,ev=#[Pq X]∧av=fun j=>#[Iq (ks j:Int),Pq X])∨f=140∧∃X Y,ev=#[Pq X,Pq Y]∧av=fun j=>#[Iq (ks j:Int),Pq X,Pq Y]))
 (hV:Hid (View U mb r g cap wb L KV Wd)) (hM:Hid (Memo U r H nn)) (hm:m≤1000) (hks:Hid (∀j,j<m->ks j<L.length)) (hL:L.length≤1000000) (hK:Hid (IntsN U r p m (fun j=>(ks j:Int)))) (hN:Hid (∀j,j<m->0≤N j∧N j≤100000))
 (NC:Hid (∀j u,j<m->U.grownBy u (some r)->Memo u r H (nn+cS kc j)->Calls prog f (av j) u fun e u'=>e=.returned (Iq (N j))∧Hid (u.grownBy u' (some r))∧Hid (Memo u' r H (nn+cS kc (j+1))))):
 Calls prog 138 #[Pq mb,.slice p m c,.func (.func f) #[] ev] U fun e U'=>∃lb,e=.returned (Sq lb m m)∧WnOut U U' r lb m (fun j=>wMn (nth L (ks j)) (N j)) (fun j=>atN (nth L (ks j)) 2) (fun j=>atN (nth L (ks j)) 3) H (nn+cS kc m):=by
 have hmk:=run_make3 m (by omega);have AM:=qH<|atMost_any;obtain⟨a,ha⟩:∃f:Nat->Int,(fun j=>wMn (nth L (ks j)) (N j))=f:=⟨_,rfl⟩;obtain⟨b,hb⟩:∃f:Nat->Int,(fun j=>atN (nth L (ks j)) 2)=f:=⟨_,rfl⟩;obtain⟨cc,hcc⟩:∃f:Nat->Int,(fun j=>atN (nth L (ks j)) 3)=f:=⟨_,rfl⟩;have HA:Hid (∀j,a j=wMn (nth L (ks j)) (N j)):=fun j=>by rw[<-ha]
 have HB:Hid (∀j,b j=atN (nth L (ks j)) 2):=fun j=>by rw[<-hb]
 have HCC:Hid (∀j,cc j=atN (nth L (ks j)) 3):=fun j=>by rw[<-hcc]
 rw[ha,hb,hcc];clear ha hb hcc;obtain⟨lb,hlb⟩:=nmd U.heap.size;have HLB:=qH<|hlb;have R0:Hid ((U.alloc (.cells (madeCells #[Iq 0,Iq 0,Iq 0] (m*3)) 246)).rowIs lb 246 (m*3) (wnF a b cc 0)):=by rw[<-hlb];exact wn_zero U m a b cc _
 have G0:Hid (U.grownBy (U.alloc (.cells (madeCells #[Iq 0,Iq 0,Iq 0] (m*3)) 246)) (some r)):=grown_alloc (grown_of_below (Below.refl _ U)) _;have M0:Hid (Memo (U.alloc (.cells (madeCells #[Iq 0,Iq 0,Iq 0] (m*3)) 246)) r H (nn+cS kc 0)):=hM.alloc _;have hlr:lb≠r:=by have:=hM.lt;omega
 go_enter func138,ntmps138;go_wp2_with fail;clear hlb hmk;go_loopw[17] (fun kv wr=>∃k:Nat,k≤m∧kv=Iq (k:Int)∧Hid (U.grownBy wr (some r))∧Hid (Memo wr r H (nn+cS kc k))∧Hid (wr.rowIs lb 246 (m*3) (wnF a b cc k))) (fun kv _=>m-(intOf kv).toNat);case atStart=>exact⟨0,Nat.zero_le _,rfl,G0,M0,R0⟩
 case round=>
  obtain⟨k,hk,rfl,HGR,HMR,HRR⟩:=hrel;clear R0 G0 M0;by_cases hlt:k<m
  ·have hlt':(k:Int)<(m:Int):=by omega
   have hkl:=hks k hlt;have hkI:(ks k:Int)<(L.length:Int):=by omega
   have HVR:=qH<|hV.grown HGR;have hms:=HVR.ms;have m0:wr.cell? ⟨mb,0,none⟩=some (Sq g L.length cap):=by unfold Ms at hms;rw[Lib.cell_of_heap hms];rfl
   obtain⟨kb,ko,rfl,_,_,hck⟩:=(hK.grown HGR).resolve_left (by omega);have ck:=hck k hlt;have hcs:=pn_list (HVR.len _ hkl) (KV (ks k));have hnv:=HVR.nd _ hkl;rw[hcs]at hnv;have hn0:=hN k hlt;have eA:=HA k;have eB:=HB k;have eC:=HCC k;unfold wMn at eA;generalize(nth L (ks k)).text.toArray=txa at hnv;generalize((nth L (ks k)).kind:Int)=kd at hnv;generalize atN (nth L (ks k)) 0=a0 at hnv;generalize atN (nth L (ks k)) 1=a1 at hnv eA;generalize atN (nth L (ks k)) 2=a2 at hnv eA eB;generalize atN (nth L (ks k)) 3=a3 at hnv eA eC;generalize atN (nth L (ks k)) 4=a4 at hnv;generalize atN (nth L (ks k)) 5=a5 at hnv;generalize atN (nth L (ks k)) 6=a6 at hnv;generalize atN (nth L (ks k)) 7=a7 at hnv;generalize atN (nth L (ks k)) 8=a8 at hnv;generalize atN (nth L (ks k)) 9=a9 at hnv;generalize atN (nth L (ks k)) 10=b0 at hnv;generalize atN (nth L (ks k)) 11=b1 at hnv;generalize(nth L (ks k)).up=up at hnv;obtain⟨pk,ckk,hkv,_⟩:=HVR.kid _ hkl;generalize(nth L (ks k)).kids.length=kl at hkv;rw[hkv]at hnv;obtain⟨tx,htx⟩:∃z:ByteArray,⟨txa⟩=z:=⟨_,rfl⟩;rw[htx]at hnv;have hq:=hnv;have q0:wr.cell? ⟨g,ks k*16,none⟩=some (Iq kd):=hq 0 _ rfl;have q1:=hq 1 _ rfl;have q2:=hq 2 _ rfl;have q3:=hq 3 _ rfl;have q4:=hq 4 _ rfl;have q5:=hq 5 _ rfl;have q6:=hq 6 _ rfl;have q7:=hq 7 _ rfl;have q8:=hq 8 _ rfl;have q9:=hq 9 _ rfl;have q10:=hq 10 _ rfl;have q11:=hq 11 _ rfl;have q12:=hq 12 _ rfl;have q13:=hq 13 _ rfl;have q14:=hq 14 _ rfl;have q15:=hq 15 _ rfl;obtain⟨W1,hW1⟩:=nmd (wr.alloc (.cells #[Iq kd,Iq a0,Iq a1,Iq a2,Iq a3,Iq a4,Iq a5,Iq a6,Iq a7,Iq a8,Iq a9,Iq b0,Iq b1,.string tx,.slice pk kl ckk,Iq up] 61));obtain⟨A,hA⟩:=nmd wr.heap.size;have hlA:lb<A:=by rw[<-hA];exact HRR.lt
   have hat:W1.heap[A]?=some (.cells #[Iq kd,Iq a0,Iq a1,Iq a2,Iq a3,Iq a4,Iq a5,Iq a6,Iq a7,Iq a8,Iq a9,Iq b0,Iq b1,.string tx,.slice pk kl ckk,Iq up] 61 (0,0)):=by rw[<-hW1,<-hA];show(wr.heap.push _)[wr.heap.size]?=_;exact Array.getElem?_push_size
   have hgA:A≠r:=by have:=HMR.lt;omega
   have HAT:Hid (∀u,W1.grownBy u (some r)->∀(t:Nat) x,#[Iq kd,Iq a0,Iq a1,Iq a2,Iq a3,Iq a4,Iq a5,Iq a6,Iq a7,Iq a8,Iq a9,Iq b0,Iq b1,.string tx,.slice pk kl ckk,Iq up][t]?=some x->u.cell? ⟨A,t,none⟩=some x):=fun u hu t x ht=>by have hAl:=(Array.getElem?_eq_some_iff.1 hat).1;have:u.heap[A]?=W1.heap[A]?:=hu.block A hAl (fun e=>by injection e with e;omega);rw[Lib.cell_of_heap (this.trans hat)];exact ht
   have HG1:Hid (U.grownBy W1 (some r)):=by rw[<-hW1];exact grown_alloc HGR _
   have HM1:Hid (Memo W1 r H (nn+cS kc k)):=by rw[<-hW1];exact HMR.alloc _
   have HR1:Hid (W1.rowIs lb 246 (m*3) (wnF a b cc k)):=by rw[<-hW1];exact HRR.alloc _
   have z2:W1.cell? ⟨A,2,none⟩=some (Iq a1):=HAT W1 (grown_of_below (Below.refl _ _)) 2 _ rfl;have z3:W1.cell? ⟨A,3,none⟩=some (Iq a2):=HAT W1 (grown_of_below (Below.refl _ _)) 3 _ rfl;have z4:W1.cell? ⟨A,4,none⟩=some (Iq a3):=HAT W1 (grown_of_below (Below.refl _ _)) 4 _ rfl;have hlU:U.heap.size≤lb:=by rw[HLB.out];exact Nat.le_refl _
   have HFIN:Hid (∀u x,W1.grownBy u (some r)->Memo u r H (nn+cS kc (k+1))->x=a k->u.cell? ⟨A,3,none⟩=some (Iq a2)∧u.cell? ⟨A,4,none⟩=some (Iq a3)∧lb<u.heap.size∧(∀j,u.frozen? ⟨lb,j,none⟩=false)∧(∃v,u.cell? ⟨lb,k*3,none⟩=some v)∧(∃v,u.cell? ⟨lb,k*3+1,none⟩=some v)∧(∃v,u.cell? ⟨lb,k*3+2,none⟩=some v)∧
    Hid (U.grownBy (((u.setCell ⟨lb,k*3,none⟩ (Iq x)).setCell ⟨lb,k*3+1,none⟩ (Iq a2)).setCell ⟨lb,k*3+2,none⟩ (Iq a3)) (some r))∧Hid (Memo (((u.setCell ⟨lb,k*3,none⟩ (Iq x)).setCell ⟨lb,k*3+1,none⟩ (Iq a2)).setCell ⟨lb,k*3+2,none⟩ (Iq a3)) r H (nn+cS kc (k+1)))∧Hid ((((u.setCell ⟨lb,k*3,none⟩ (Iq x)).setCell ⟨lb,k*3+1,none⟩ (Iq a2)).setCell ⟨lb,k*3+2,none⟩ (Iq a3)).rowIs lb 246 (m*3) (wnF a b cc (k+1)))):=fun u x hu hmu hx=>by have hru:=rowIs_grown HR1 hu hlr;have hgu:=HG1.trans hu;refine⟨HAT u hu 3 _ rfl,HAT u hu 4 _ rfl,hru.lt,fun j=>hru.frozen j,⟨_,hru.cell (by omega)⟩,⟨_,hru.cell (by omega)⟩,⟨_,hru.cell (by omega)⟩,grown_sets (grown_sets (grown_sets hgu hlU _) hlU _) hlU _,((hmu.set hlr _).set hlr _).set hlr _,wn_next hru _ _ _ hx eB.symm eC.symm⟩
   have HEA:=qH<|eA;clear hcs hnv hq hat hkv htx eA eB eC hms hck hlA hgA hks;by_cases h3:a3=0
   ·subst h3;have HC:Hid (∀u,(u=W1∨u=W1.drew)->Calls prog f (av k) u fun e u'=>e=.returned (Iq (N k))∧u'.cell? ⟨A,3,none⟩=some (Iq a2)∧Hid (W1.grownBy u' (some r))∧Hid (Memo u' r H (nn+cS kc (k+1)))):=fun u hu=>by
     have hg1:W1.grownBy u (some r):=by
      rcases hu with rfl|rfl;·exact grown_of_below (Below.refl _ _)
      ·exact grownDrew (grown_of_below (Below.refl _ _))
     have hm1:Memo u r H (nn+cS kc k):=by
      rcases hu with rfl|rfl;·exact HM1
      ·exact HM1.drew
     refine(NC k u hlt (HG1.trans hg1) hm1).mono ?_;rintro e u' ⟨rfl,q1,q2⟩;have:=hg1.trans q1;exact⟨rfl,HAT u' this 3 _ rfl,this,q2⟩
    have HX:Hid (max a1 (mostI (N k) a2)=a k):=by show _=_;rw[HEA.out,if_pos rfl]
    obtain⟨y,hy⟩:=nmd (N k);obtain⟨z,hz⟩:=nmd (mostI (N k) a2);have AM1:Hid (∀w,Calls prog 165 #[Iq y,Iq a2] w fun e w'=>e=.returned (Iq z)∧w'=w):=fun w=>by rw[<-hz,<-hy];exact AM _ _ _
    rw[hz]at HX;rw[hy]at HC;clear hy hz AM NC;go_upto_region 8 with fail;go_cut[11]from 34 to 41 (fun v wx=>v=Iq (max a1 z)∧Hid (W1.grownBy wx (some r))∧Hid (Memo wx r H (nn+cS kc (k+1))));case first=>
     clear hW1 hA;rcases hf.out with⟨rfl,X,rfl,rfl⟩|⟨rfl,X,Y,rfl,rfl⟩<;>dsimp only at HC;all_goals go_region_held(fun W=>W.cell? ⟨A,3,none⟩=some (Iq a2)) (go_keep) (first|((first|go_at_call 139|go_at_call 140);refine Calls.mono (HC _ (by first|exact .inl rfl|exact .inr rfl)) ?_;rintro e u ⟨rfl,hu3,HGu,HMu⟩)|(go_at_call 165;refine Calls.mono (AM1 _) ?_;rintro e u2 ⟨rfl,hu2⟩;obtain rfl:=hu2.symm))
     all_goals go_wp2_with fail
     all_goals go_meet
     all_goals exact⟨by first|rfl|exact congrArg (Value.int .i64) (by omega),by first|exact HGu|exact grownDrew HGu,by first|exact HMu|exact HMu.drew⟩
    case rest=>
     obtain⟨rfl,HGu,HMu⟩:=hcut;obtain⟨f3,f4,f5,f6,⟨v0,f7⟩,⟨v1,f8⟩,⟨v2,f9⟩,F1,F2,F3⟩:=HFIN wc (max a1 z) HGu HMu HX;clear z2 z3 z4 hW1 hA HC AM1 HFIN;go_wp2;go_roundw;case rel=>exact⟨k+1,hlt,by go_num,F1,F2,F3⟩
     case measure=>simp[intOf];omega
   ·have e3:(a3==0)=false:=by simpa using h3
    have HX:Hid (a1=a k):=by show _=_;rw[HEA.out,if_neg h3]
    obtain⟨f3,f4,f5,f6,⟨v0,f7⟩,⟨v1,f8⟩,⟨v2,f9⟩,F1,F2,F3⟩:=HFIN W1 a1 (grown_of_below (Below.refl _ _)) (HM1.mono (by show nn+cS kc k≤nn+(cS kc k+kc k);omega)) HX;clear HFIN NC;go_wp2;go_roundw;case rel=>exact⟨k+1,hlt,by go_num,F1,F2,F3⟩
    case measure=>simp[intOf];omega
  ·have hlt':¬(k:Int)<(m:Int):=by omega
   obtain rfl:k=m:=by omega
   go_wp2;go_ret;exact⟨lb,rfl,wn_row HRR,by rw[HLB.out];exact Nat.le_refl _,HGR,HMR⟩
end
end Go.Proofs.YtmbefonnkkhfgaaGreatDoor
