import Derived.Test.YtiaimhjebnobnaaGreatDoorQ44
import Derived.Test.YtiaimhjebnobnaaGreatDoorQ24
import Derived.Test.YtiaimhjebnobnaaGreatDoorQ05
import Derived.Test.YtiaimhjebnobnaaGreatDoorQ36
import Derived.Test.YtiaimhjebnobnaaGreatDoorQ42
import Derived.Test.YtiaimhjebnobnaaGreatDoorQ13
import Derived.Test.YtiaimhjebnobnaaGreatDoorQ45
set_option linter.all false
set_option maxRecDepth 100000
set_option maxHeartbeats 16000000
namespace Go.Proofs.YtiaimhjebnobnaaGreatDoor
open Go.RowKit Go.Sort Go.Proofs.Tryz
theorem Et(mb r g cap wb i X:Nat)(L:List Nd)(KV:Nat->Value)(Wd:Nat->Int)(U:World)(hV:uA U mb r g cap wb L KV Wd)(hX:U.cell? (az X 0)=some (Pq mb))(hi:i<L.length):
 Cw 172 #[Iq (i:Int),Pq X] U fun e U'=>e=Rw (Iq (Wd i))/\U'=U:=by
 have xh:=hV.ms;have m1:U.cell? (az mb 1)=some (Sq wb L.length L.length):=by unfold Ms at xh;rw[Lib.cell_of_heap xh];rfl
 have c1:=hV.wd i hi;have hiI:(i:Int)<(L.length:Int):=by omega
 clear hV xh;go_enter func172,ntmps172;go_wp2;go_ret;simp_all
def jv(U W:World)(r m:Nat)(L:List Nd)(ks:List Nat)(N:Nat->Int)(H:Nat->Int->Int)(n:Nat)(v:Value):Prop:=∃lb,v=Sq lb m m/\Wy U W r lb m (fun j=>wV (ae L (aP ks j)) (N j)) (fun j=>aF (ae L (aP ks j)) 2) (fun j=>aF (ae L (aP ks j)) 3) H n
theorem qw(mb r g cap wb nn:Nat)(L:List Nd)(ks:List Nat)(KV:Nat->Value)(Wd:Nat->Int)(H:Nat->Int->Int)(kd a0 a1 a2 a3 a4 a5 a6 a7 a8 a9 b0 b1 up:Int)(tx:ByteArray)(p:Option Addr)(c:Nat)(U:World)
 (hV:Hid (uA U mb r g cap wb L KV Wd)) (hM:Hid (bN U r H nn)) (hm:ks.length<=1000) (hks:Hid (∀j,j<ks.length->aP ks j<L.length)) (hL:L.length<=1000000) (hK:Hid (ir U r p ks.length (fun j=>(aP ks j:Int)))) (hN:Hid (∀i,i<L.length->0<=Wd i/\Wd i<=100000)):
 Cw 108 #[Pq mb,gY kd a0 a1 a2 a3 a4 a5 a6 a7 a8 a9 b0 b1 tx (.slice p ks.length c) up] U fun e U'=>∃v,e=Rw v/\jv U U' r ks.length L ks (fun j=>Wd (aP ks j)) H nn v:=by
 have hmf:∀(fn:Fn) (first cap:Array Value) (w:World),(Instr.makeFunc fn first cap).run prog w=.ok (.func fn first cap) w:=fun _ _ _ _=>rfl;obtain⟨m,hmm⟩:=ag ks.length;obtain⟨W1,cC⟩:=ag ((U.alloc (.cells #[Pq mb] 88)).alloc (.cells #[Iq kd,Iq a0,Iq a1,Iq a2,Iq a3,Iq a4,Iq a5,Iq a6,Iq a7,Iq a8,Iq a9,Iq b0,Iq b1,.string tx,.slice p m c,Iq up] 63));obtain⟨A,hA⟩:=ag U.heap.size;have kH:Bt U W1:=by rw[<-cC];exact(((Gr.refl U).alloc _).alloc _).below
 have KU:U.grownBy W1 (some r):=ac kH;have tG:=hM.lt;have St:W1.heap[A]?=some (.cells #[Pq mb] 88 (0,0)):=by rw[<-cC,<-hA,du _ _ _ (by simp_all)];exact heap_alloc_new _ _
 have HWN:Hid (Cw 171 #[Pq mb,.slice p m c,.func (.func 172) #[] #[Pq A]] W1 fun e U'=>∃v,e=Rw v/\jv U U' r m L ks (fun j=>Wd (aP ks j)) H nn v):=by
  have WL:=hV.grown KU;have hz:∀j,cS (fun _=>0) j=0:=fun j=>by induction j with
   |zero=>rfl
   |succ j ih=>grind[cS]
  refine(y_ _ _ _ mb r g cap wb nn m L KV Wd H (aP ks) (fun j=>Wd (aP ks j)) (fun _=>0) p c W1 (.inl ⟨rfl,A,rfl,rfl⟩) WL (hM.grown_below kH) (by omega) (by simp_all) hL (by rw[<-hmm];exact hK.grown KU) (fun j hj=>hN _ (hks j (by omega))) (fun j u hj hu Lc=>?_)).mono ?_
  ·refine(Et mb r g cap wb (aP ks j) A L KV Wd u (WL.grown hu) ?_ (hks j (by omega))).mono ?_;·have Gb:=(aM.1 St).1;rw[Lib.cell_of_heap ((hu.block A Gb (fun e=>by grind)).trans St)];rfl
   ·rintro e u' ⟨rfl,rfl⟩;exact⟨rfl,ac (aj _ _),Lc.mono (by grind)⟩
  ·rintro e U' ⟨lb,rfl,h1,h2,h3,h4⟩;refine⟨_,rfl,lb,rfl,h1,aO kH.size h2,KU.trans h3,h4.mono (by grind)⟩
 have h14:W1.cell? (az (A+1) 14)=some (.slice p m c):=by rw[<-cC,World.cell?_alloc_at _ _ _ _ (by simp_all)];rfl
 have h0:W1.cell? (az A 0)=some (Pq mb):=by rw[Lib.cell_of_heap St];rfl
 rw[hmm];unfold gY;clear kH KU tG St hV hM hks hK hN;go_enter func108,ntmps108;go_wp2_with(go_at_call 171;refine HWN.mono ?_;rintro e U' ⟨v,rfl,ho⟩);go_ret;simp_all
theorem Cp(mb r i X Y n k:Nat)(w:Int)(H:Nat->Int->Int)(U:World)(hX:U.cell? (az X 0)=some (Pq mb))(hY:U.cell? (az Y 0)=some (Iq w))
 (HC:Hid (Cw 105 #[Pq mb,Iq (i:Int),Iq w] U fun e u'=>e=Rw (Iq (H i w))/\Hid (U.grownBy u' (some r))/\Hid (bN u' r H k))):
 Cw 173 #[Iq (i:Int),Pq X,Pq Y] U fun e u'=>e=Rw (Iq (H i w))/\Hid (U.grownBy u' (some r))/\Hid (bN u' r H k):=by go_enter func173,ntmps173;go_wp2_with(go_at_call 105;refine HC.mono ?_;rintro e U' ⟨rfl,h1,h2⟩);go_ret;simp_all
theorem zV(mb r g cap wb nn:Nat)(w:Int)(L:List Nd)(ks:List Nat)(kc:Nat->Nat)(KV:Nat->Value)(Wd:Nat->Int)(H:Nat->Int->Int)(kd a0 a1 a2 a3 a4 a5 a6 a7 a8 a9 b0 b1 up:Int)(tx:ByteArray)(p:Option Addr)(c:Nat)(U:World)
 (hV:Hid (uA U mb r g cap wb L KV Wd)) (hM:Hid (bN U r H nn)) (hm:ks.length<=1000) (hks:Hid (∀j,j<ks.length->aP ks j<L.length)) (hL:L.length<=1000000) (hK:Hid (ir U r p ks.length (fun j=>(aP ks j:Int)))) (hN:Hid (∀i w,i<L.length->0<=H i w/\H i w<=100000))
 (HK:Hid (∀j u n',j<ks.length->U.grownBy u (some r)->bN u r H n'->n'<=nn+cS kc j->Cw 105 #[Pq mb,Iq (aP ks j:Int),Iq w] u fun e u'=>e=Rw (Iq (H (aP ks j) w))/\Hid (u.grownBy u' (some r))/\Hid (bN u' r H (nn+cS kc (j+1))))):
 Cw 110 #[Pq mb,gY kd a0 a1 a2 a3 a4 a5 a6 a7 a8 a9 b0 b1 tx (.slice p ks.length c) up,Iq w] U fun e U'=>∃v,e=Rw v/\jv U U' r ks.length L ks (fun j=>H (aP ks j) w) H (nn+cS kc ks.length) v:=by
 have hmf:∀(fn:Fn) (first cap:Array Value) (w:World),(Instr.makeFunc fn first cap).run prog w=.ok (.func fn first cap) w:=fun _ _ _ _=>rfl;obtain⟨m,hmm⟩:=ag ks.length;obtain⟨W1,cC⟩:=ag (((U.alloc (.cells #[Pq mb] 88)).alloc (.cells #[Iq kd,Iq a0,Iq a1,Iq a2,Iq a3,Iq a4,Iq a5,Iq a6,Iq a7,Iq a8,Iq a9,Iq b0,Iq b1,.string tx,.slice p m c,Iq up] 63)).alloc (.cells #[Iq w] 3));obtain⟨A,hA⟩:=ag U.heap.size;have kH:Bt U W1:=by rw[<-cC];exact((((Gr.refl U).alloc _).alloc _).alloc _).below
 have KU:U.grownBy W1 (some r):=ac kH;have tG:=hM.lt;have St:W1.heap[A]?=some (.cells #[Pq mb] 88 (0,0)):=by rw[<-cC,<-hA,du _ _ _ (by rw[aI,aI];omega),du _ _ _ (by simp_all)];exact heap_alloc_new _ _
 have hYc:W1.heap[A+1+1]?=some (.cells #[Iq w] 3 (0,0)):=by have:=heap_alloc_new ((U.alloc (.cells #[Pq mb] 88)).alloc (.cells #[Iq kd,Iq a0,Iq a1,Iq a2,Iq a3,Iq a4,Iq a5,Iq a6,Iq a7,Iq a8,Iq a9,Iq b0,Iq b1,.string tx,.slice p m c,Iq up] 63)) (.cells #[Iq w] 3);rw[aI,aI,hA,cC]at this;exact this
 have HWN:Hid (Cw 171 #[Pq mb,.slice p m c,.func (.func 173) #[] #[Pq A,Pq (A+1+1)]] W1 fun e U'=>∃v,e=Rw v/\jv U U' r m L ks (fun j=>H (aP ks j) w) H (nn+cS kc m) v):=by
  have WL:=hV.grown KU;refine(y_ _ _ _ mb r g cap wb nn m L KV Wd H (aP ks) (fun j=>H (aP ks j) w) kc p c W1 (.inr ⟨rfl,A,A+1+1,rfl,rfl⟩) WL (hM.grown_below kH) (by omega) (by simp_all) hL (by rw[<-hmm];exact hK.grown KU) (fun j hj=>hN _ _ (hks j (by omega))) (fun j u hj hu Lc=>?_)).mono ?_
  ·have Gb:=(aM.1 St).1;have hYl:=(aM.1 hYc).1;refine Cp mb r (aP ks j) A (A+1+1) (nn+cS kc j) (nn+cS kc (j+1)) w H u ?_ ?_ (HK j u _ (by omega) (KU.trans hu) Lc (ai _));·rw[Lib.cell_of_heap ((hu.block A Gb (fun e=>by grind)).trans St)];rfl
   ·rw[Lib.cell_of_heap ((hu.block (A+1+1) hYl (fun e=>by grind)).trans hYc)];rfl
  ·rintro e U' ⟨lb,rfl,h1,h2,h3,h4⟩;exact⟨_,rfl,lb,rfl,h1,aO kH.size h2,KU.trans h3,h4⟩
 have h14:W1.cell? (az (A+1) 14)=some (.slice p m c):=by rw[<-cC,World.cell?_alloc_past _ _ _ (by simp_all),World.cell?_alloc_at _ _ _ _ (by simp_all)];rfl
 have h0:W1.cell? (az A 0)=some (Pq mb):=by rw[Lib.cell_of_heap St];rfl
 rw[hmm];unfold gY;clear kH KU tG St hYc hV hM hks hK hN HK;go_enter func110,ntmps110;go_wp2_with(go_at_call 171;refine HWN.mono ?_;rintro e U' ⟨v,rfl,ho⟩);go_ret;simp_all
theorem EF{U u}{r m n}{L}{ks}{N}{H}{v}{w cj}(hm:ks.length=m)(hm2:m<=200)(h:jv U u r m L ks N H n v)(hr:r<U.heap.size):
 Cw 169 #[Iq w,Iq cj,v] u fun e u'=>mp U u' r m H (fun V=>(ks=[]\/ci L ks N w cj V)/\∀j,j<m->0<=V j/\V j<=100000) n e:=by
 subst hm;obtain⟨lb,rfl,h1,h2,h3,h4⟩:=h;refine(nY _ ks.length _ _ _ w cj u ⟨_,_,rfl,.inr ⟨lb,0,rfl,h1⟩⟩ (by omega)).mono ?_;rintro e u' ⟨v,rfl,hs⟩;have hb:=hs.below;rcases hs with⟨h0,rfl,hu⟩|⟨q1,q2,lb2,rfl,q3,⟨gg,q4,q5⟩,q6⟩
 ·have hk:ks=[]:=by
   rcases h0 with h0|h0;·grind
   ·omega
  refine⟨none,0,fun _=>0,⟨.inl hk,fun j hj=>by omega⟩,by grind,.inl (by omega),h3.trans (ac hb),h4.grown_below hb⟩
 ·refine⟨_,_,gg,⟨.inr q5,fun j hj=>?_⟩,rfl,.inr ⟨lb2,0,rfl,q4.1,?_,fun j hj=>(q4.2 j hj).1⟩,h3.trans (ac hb),h4.grown_below hb⟩;·have t1:=(q5.tiles (ic _ _ _)).1 j hj;have t2:=ic (fun j=>wV (ae L (aP ks j)) (N j)) (fun j=>aF (ae L (aP ks j)) 2) (fun j=>aF (ae L (aP ks j)) 3) j;grind
  ·have:=h3.size;omega
def Nw(L:List Nd)(ks:List Nat)(kd a4 a5 a6 w:Int)(Wd:Nat->Int)(V:Nat->Int):Prop:=(kd=0->ks=[]\/ci L ks (fun j=>Wd (aP ks j)) w a4 V)/\(kd≠0->∀j,j<ks.length->V j=max 0 (w-2*jC kd a5 a6))/\∀j,j<ks.length->0<=V j/\V j<=100000
theorem OG{W:World}{r b m:Nat}{x:Int}{Ls:List Value}(h:W.heap[b]?=some (.cells Ls.toArray 3 (0,0)))(hf:Fh 1 Ls m m [Iq x])(hb:b≠r):ir W r (some (az b 0)) m (fun _=>x):=by refine .inr ⟨b,0,rfl,(aM.1 h).1,hb,fun j hj=>?_⟩;have:=hf.2 j 0 _ hj rfl;rw[Nat.mul_one,w_]at this;rw[bM,Lib.cell_of_heap h];simpa using this
theorem jv.g{U W}{r m}{L}{ks}{N}{H}{n}{v}(h:jv U W r m L ks N H n v):U.grownBy W (some r):=by obtain⟨_,_,_,_,h,_⟩:=h;exact h
theorem mp.g{U W}{r m}{H}{J6}{n}{e}(h:mp U W r m H J6 n e):U.grownBy W (some r):=by obtain⟨_,_,_,_,_,_,h,_⟩:=h;exact h
theorem mp.base{U U0 W}{r m}{H}{J6}{n}{e}(h:mp U W r m H J6 n e)(h0:U0.grownBy U (some r)):mp U0 W r m H J6 n e:=by obtain⟨q,cq,V,h1,h2,h3,h4,h5⟩:=h;exact⟨q,cq,V,h1,h2,h3,h0.trans h4,h5⟩
theorem xN(mb r g cap wb nn:Nat)(w:Int)(L:List Nd)(ks:List Nat)(KV:Nat->Value)(Wd:Nat->Int)(H:Nat->Int->Int)(kd a0 a1 a2 a3 a4 a5 a6 a7 a8 a9 b0 b1 up:Int)(tx:ByteArray)(p:Option Addr)(c:Nat)(U:World)
 (hV:Hid (uA U mb r g cap wb L KV Wd)) (hM:Hid (bN U r H nn)) (hm:ks.length<=200) (hks:Hid (∀j,j<ks.length->aP ks j<L.length)) (hL:L.length<=1000000) (hK:Hid (ir U r p ks.length (fun j=>(aP ks j:Int)))) (hN:Hid (∀i,i<L.length->0<=Wd i/\Wd i<=100000))
 (hw:0<=w/\w<=100000) (h5:0<=a5/\a5<=1000000) (h6:0<=a6/\a6<=1000000):
 Cw 201 #[Pq mb,gY kd a0 a1 a2 a3 a4 a5 a6 a7 a8 a9 b0 b1 tx (.slice p ks.length c) up,Iq w] U fun e U'=>mp U U' r ks.length H (Nw L ks kd a4 a5 a6 w Wd) nn e:=by
 have kD:prog.follows .mixedOrders=true:=by kernel_rfl
 obtain⟨m,hmm⟩:=ag ks.length;obtain⟨W1,cC⟩:=ag (U.alloc (.cells #[Iq kd,Iq a0,Iq a1,Iq a2,Iq a3,Iq a4,Iq a5,Iq a6,Iq a7,Iq a8,Iq a9,Iq b0,Iq b1,.string tx,.slice p m c,Iq up] 63));obtain⟨A,hA⟩:=ag U.heap.size;have HB1:Hid (Bt U W1):=by rw[<-cC];exact((Gr.refl U).alloc _).below
 have HG1:Hid (U.grownBy W1 (some r)):=ac HB1;have b9:W1.heap[A]?=some (.cells #[Iq kd,Iq a0,Iq a1,Iq a2,Iq a3,Iq a4,Iq a5,Iq a6,Iq a7,Iq a8,Iq a9,Iq b0,Iq b1,.string tx,.slice p m c,Iq up] 63 (0,0)):=by rw[<-cC,<-hA];exact heap_alloc_new _ _
 have cZ:Hid (∀(t:Nat) x,(#[Iq kd,Iq a0,Iq a1,Iq a2,Iq a3,Iq a4,Iq a5,Iq a6,Iq a7,Iq a8,Iq a9,Iq b0,Iq b1,.string tx,.slice p m c,Iq up]:Array Value)[t]?=some x->W1.cell? (az A t)=some x):=fun t x ht=>by rw[Lib.cell_of_heap b9];exact ht
 have tG:=hM.lt;have HS:Hid (∀u,W1.grownBy u (some r)->u.cell? (az A 0)=some (Iq kd)/\u.cell? (az A 1)=some (Iq a0)/\u.cell? (az A 2)=some (Iq a1)/\u.cell? (az A 3)=some (Iq a2)/\u.cell? (az A 4)=some (Iq a3)/\u.cell? (az A 5)=some (Iq a4)/\u.cell? (az A 6)=some (Iq a5)/\u.cell? (az A 7)=some (Iq a6)/\u.cell? (az A 8)=some (Iq a7)/\u.cell? (az A 9)=some (Iq a8)/\u.cell? (az A 10)=some (Iq a9)/\u.cell? (az A 11)=some (Iq b0)/\u.cell? (az A 12)=some (Iq b1)/\u.cell? (az A 13)=some (.string tx)/\u.cell? (az A 14)=some (.slice p m c)/\u.cell? (az A 15)=some (Iq up)):=fun u hu=>by have Gb:=(aM.1 b9).1;have hb:=hu.block A Gb (fun e=>by injection e with e;omega);refine⟨?_,?_,?_,?_,?_,?_,?_,?_,?_,?_,?_,?_,?_,?_,?_,?_⟩<;>(rw[Lib.cell_of_heap (hb.trans b9)];rfl)
 have z0:W1.cell? (az A 0)=some (Iq kd):=cZ 0 _ rfl;have z1:W1.cell? (az A 1)=some (Iq a0):=cZ 1 _ rfl;have z2:W1.cell? (az A 2)=some (Iq a1):=cZ 2 _ rfl;have z3:W1.cell? (az A 3)=some (Iq a2):=cZ 3 _ rfl;have z4:W1.cell? (az A 4)=some (Iq a3):=cZ 4 _ rfl;have z5:W1.cell? (az A 5)=some (Iq a4):=cZ 5 _ rfl;have z6:W1.cell? (az A 6)=some (Iq a5):=cZ 6 _ rfl;have z7:W1.cell? (az A 7)=some (Iq a6):=cZ 7 _ rfl;have z8:W1.cell? (az A 8)=some (Iq a7):=cZ 8 _ rfl;have z9:W1.cell? (az A 9)=some (Iq a8):=cZ 9 _ rfl;have SU:W1.cell? (az A 10)=some (Iq a9):=cZ 10 _ rfl;have SV:W1.cell? (az A 11)=some (Iq b0):=cZ 11 _ rfl;have SW:W1.cell? (az A 12)=some (Iq b1):=cZ 12 _ rfl;have SX:W1.cell? (az A 13)=some (.string tx):=cZ 13 _ rfl;have VY:W1.cell? (az A 14)=some (.slice p m c):=cZ 14 _ rfl;have SY:W1.cell? (az A 15)=some (Iq up):=cZ 15 _ rfl;by_cases h0:kd=0
 ·subst h0;have RW:Hid (∀u,(u=W1\/u=W1.drew)->Cw 108 #[Pq mb,gY 0 a0 a1 a2 a3 a4 a5 a6 a7 a8 a9 b0 b1 tx (.slice p m c) up] u fun e u'=>∃v,e=Rw v/\Hid (jv W1 u' r m L ks (fun j=>Wd (aP ks j)) H nn v)):=fun u hu=>by
   have sw:W1.grownBy u (some r):=by
    rcases hu with rfl|rfl;·exact ac (aj _ _)
    ·exact iC (ac (aj _ _))
   have og:bN u r H nn:=by
    rcases hu with rfl|rfl;·exact hM.grown_below HB1
    ·exact(hM.grown_below HB1).drew
   have _6:=HG1.trans sw;have:=qw mb r g cap wb nn L ks KV Wd H 0 a0 a1 a2 a3 a4 a5 a6 a7 a8 a9 b0 b1 up tx p c u (hV.grown _6) og (by omega) hks hL (hK.grown _6) hN;rw[hmm]at this;refine this.mono ?_;rintro e u' ⟨v,rfl,lb,rfl,q1,q2,q3,q4⟩;exact⟨_,rfl,lb,rfl,q1,aO sw.size q2,sw.trans q3,q4⟩
  have SP:Hid (∀v u,jv W1 u r m L ks (fun j=>Wd (aP ks j)) H nn v->Cw 169 #[Iq w,Iq a4,v] u fun e u'=>∃q cq,e=Rw (.slice q m cq)/\Hid (mp W1 u' r m H (Nw L ks 0 a4 a5 a6 w Wd) nn (.returned (.slice q m cq)))):=fun v u h=>by refine(EF hmm (by omega) h (zz008 tG HB1.size)).mono ?_;rintro e u' ⟨q,cq,V,⟨v1,v2⟩,rfl,q1,q2,q3⟩;exact⟨q,cq,rfl,q,cq,V,⟨fun _=>v1,fun e=>absurd rfl e,by rw[hmm];exact v2⟩,rfl,q1,q2,q3⟩
  rw[hmm];unfold gY at RW⊢;clear b9 cZ hV hM hks hK hN h5 h6 HB1 tG hmm;go_enter func201,ntmps201;go_wp2_with fail;clear cC hA;go_region_held(fun W=>W.cell? (az A 0)=some (Iq 0)/\W.cell? (az A 1)=some (Iq a0)/\W.cell? (az A 2)=some (Iq a1)/\W.cell? (az A 3)=some (Iq a2)/\W.cell? (az A 4)=some (Iq a3)/\W.cell? (az A 5)=some (Iq a4)/\W.cell? (az A 6)=some (Iq a5)/\W.cell? (az A 7)=some (Iq a6)/\W.cell? (az A 8)=some (Iq a7)/\W.cell? (az A 9)=some (Iq a8)/\W.cell? (az A 10)=some (Iq a9)/\W.cell? (az A 11)=some (Iq b0)/\W.cell? (az A 12)=some (Iq b1)/\W.cell? (az A 13)=some (.string tx)/\W.cell? (az A 14)=some (.slice p m c)/\W.cell? (az A 15)=some (Iq up)) (go_keep) (first|(go_at_call 108;refine ao (RW _ (by first|exact .inl rfl|exact .inr rfl)) ?_;rintro e u1 ⟨v1,rfl,HO⟩;obtain⟨s0,s1,s2,s3,s4,s5,s6,s7,s8,s9,Xz,XA,XB,XC,XD,XE⟩:=HS u1 HO.g)|(go_at_call 169;refine ao (SP _ _ HO) ?_;rintro e u2 ⟨q,cq,rfl,HZ⟩;obtain⟨t0,t1,t2,t3,t4,t5,t6,t7,t8,t9,t10,t11,t12,t13,t14,t15⟩:=HS u2 HZ.g));all_goals go_wp2;go_ret;exact HZ.base HG1
 ·have e0:(kd==0)=false:=by simpa using h0
  have rl:=F_ (kd:=kd) h5 h6;obtain⟨f,hf⟩:=ag (jC kd a5 a6);have FA:Hid (∀u,(u=W1\/u=W1.drew)->Cw 104 #[gY kd a0 a1 a2 a3 a4 a5 a6 a7 a8 a9 b0 b1 tx (.slice p m c) up] u fun e u'=>e=Rw (Iq f)/\Hid (Bt W1 u')):=fun u hu=>by
   have iD:Bt W1 u:=by
    rcases hu with rfl|rfl;·exact aj _ _
    ·exact(aj _ _).drew
   rw[<-hf];refine(nt kd a0 a1 a2 a3 a4 a5 a6 a7 a8 a9 b0 b1 up tx p m c h5 h6 u).mono ?_;rintro e u' ⟨rfl,q⟩;exact⟨rfl,iD.trans (q.mono iD.size)⟩
  obtain⟨x,hx⟩:=ag (max 0 (w-2*f));have xI:0<=x/\x<=100000:=by rw[hf]at rl;omega
  have RP:Hid (∀u,Bt W1 u->Cw 226 #[Sq u.heap.size 1 1,Iq (m:Int)] (u.alloc (.cells #[Iq x] 3)) fun e u'=>∃q cq,e=Rw (.slice q m cq)/\Hid (mp W1 u' r m H (Nw L ks kd a4 a5 a6 w Wd) nn (.returned (.slice q m cq)))):=fun u hu=>by
   have hb2:Bt W1 (u.alloc (.cells #[Iq x] 3)):=hu.alloc hu.size _;have fin:∀u' q cq,Bt W1 u'->ir u' r q m (fun _=>x)->mp W1 u' r m H (Nw L ks kd a4 a5 a6 w Wd) nn (.returned (.slice q m cq)):=fun u' q cq hb hi=>
    ⟨q,cq,fun _=>x,⟨fun e=>absurd e h0,fun _ j hj=>by rw[hf];exact hx.symm,fun j hj=>xI⟩,rfl,hi,ac hb,(hM.grown_below HB1).grown_below hb⟩;by_cases hz:m=0;·rw[hz];refine(Ep (.inl ⟨rfl,rfl,rfl,rfl⟩) (u.alloc (.cells #[Iq x] 3)) u.heap.size).mono ?_;rintro e u' ⟨q,cq,rfl,hb⟩;have:=fin u' q cq (hb2.trans (hb.mono hb2.size)) (.inl hz);rw[hz]at this;exact⟨q,cq,rfl,this⟩
   ·refine(AQ (.inl ⟨rfl,rfl,rfl,rfl⟩) (u.alloc (.cells #[Iq x] 3)) [Iq x] rfl (fun v hv=>by rw[sZ.1 hv];rfl) u.heap.size m (by omega) (by simp) (fun k v hk=>?_)).mono ?_;·rw[World.cell?_alloc_at _ _ _ _ rfl];match k with
     |0=>exact hk
     |k+1=>cases hk
    ·rintro e u' ⟨rfl,⟨Ls,hl,hfl⟩,hb⟩;have qS:=hb2.trans (hb.mono hb2.size);refine⟨_,_,rfl,fin u' _ _ qS (OG hl hfl ?_)⟩;have:=hb2.size;have:=HB1.size;omega
  rw[hf]at rl;rw[hmm];unfold gY at FA⊢;have M9:=qH<|(aM.1 b9).1;clear b9 cZ hV hM hks hK hN h5 h6 HB1 tG hmm hf;go_enter func201,ntmps201;go_wp2_with fail;clear cC hA;have zi1:IntKind.i64.wrap (2*f)=2*f:=IntWalk.i64_in _ (by omega);have zi2:IntKind.i64.wrap (w-2*f)=w-2*f:=IntWalk.i64_in _ (by omega);have qT:(if(0:Int)<w-2*f then w-2*f else 0)=x:=by rw[<-hx];split<;>omega
  go_region_held(fun W=>W.cell? (az A 0)=some (Iq kd)/\W.cell? (az A 1)=some (Iq a0)/\W.cell? (az A 2)=some (Iq a1)/\W.cell? (az A 3)=some (Iq a2)/\W.cell? (az A 4)=some (Iq a3)/\W.cell? (az A 5)=some (Iq a4)/\W.cell? (az A 6)=some (Iq a5)/\W.cell? (az A 7)=some (Iq a6)/\W.cell? (az A 8)=some (Iq a7)/\W.cell? (az A 9)=some (Iq a8)/\W.cell? (az A 10)=some (Iq a9)/\W.cell? (az A 11)=some (Iq b0)/\W.cell? (az A 12)=some (Iq b1)/\W.cell? (az A 13)=some (.string tx)/\W.cell? (az A 14)=some (.slice p m c)/\W.cell? (az A 15)=some (Iq up)) (go_keep) (first|(go_at_call 104;refine ao (FA _ (by first|exact .inl rfl|exact .inr rfl)) ?_;rintro e u1 ⟨rfl,HO⟩;obtain⟨s0,s1,s2,s3,s4,s5,s6,s7,s8,s9,Xz,XA,XB,XC,XD,XE⟩:=HS u1 (ac HO);have bZ:¬A=u1.heap.size:=(by have:=HO.size;have:=M9.out;omega))|(go_at_call 226;refine ao (RP _ HO) ?_;rintro e u2 ⟨q,cq,rfl,HZ⟩;obtain⟨t0,t1,t2,t3,t4,t5,t6,t7,t8,t9,t10,t11,t12,t13,t14,t15⟩:=HS u2 HZ.g));all_goals go_wp2;go_ret;exact HZ.base HG1
theorem wM(w kd a0 a1 a2 a3 a4 a5 a6 a7 a8 a9 b0 b1 up:Int)(tx:ByteArray)(p:Option Addr)(m c:Nat)(U:World)(ht:cG U)(hs:tx.size<=4000)(hw:0<=w/\w<=100000):
 Cw 200 #[gY kd a0 a1 a2 a3 a4 a5 a6 a7 a8 a9 b0 b1 tx (.slice p m c) up,Iq w] U fun e U'=>e=Rw (Iq (pu a8 tx.data.toList w))/\Hid (Bt U U'):=by
 obtain⟨W1,cC⟩:=ag (U.alloc (.cells #[Iq kd,Iq a0,Iq a1,Iq a2,Iq a3,Iq a4,Iq a5,Iq a6,Iq a7,Iq a8,Iq a9,Iq b0,Iq b1,.string tx,.slice p m c,Iq up] 63));obtain⟨A,hA⟩:=ag U.heap.size;have HB1:Hid (Bt U W1):=by rw[<-cC];exact((Gr.refl U).alloc _).below
 have b9:W1.heap[A]?=some (.cells #[Iq kd,Iq a0,Iq a1,Iq a2,Iq a3,Iq a4,Iq a5,Iq a6,Iq a7,Iq a8,Iq a9,Iq b0,Iq b1,.string tx,.slice p m c,Iq up] 63 (0,0)):=by rw[<-cC,<-hA];exact heap_alloc_new _ _
 have z9:W1.cell? (az A 9)=some (Iq a8):=by rw[Lib.cell_of_heap b9];rfl
 have SX:W1.cell? (az A 13)=some (.string tx):=by rw[Lib.cell_of_heap b9];rfl
 have hle:tx.data.toList.count 10<=4000:=by
  have h1:=R_ (a:=(10:UInt8)) (l:=tx.data.toList);have h2:tx.data.toList.length=tx.size:=by rw[fV];rfl
  omega
 have CT:Hid (∀u,Bt U u->Cw 224 #[.string tx,Iq w] u fun e u'=>e=Rw (Iq ((bC (a_ (aD tx.data.toList)) w).length:Int))/\Hid (Bt U u')):=fun u hu=>by refine(Kr tx w u (ht.below hu) (by omega) (by omega) (by omega)).mono ?_;rintro e u' ⟨rfl,q⟩;exact⟨rfl,hu.trans (q.mono hu.size)⟩
 have C1:=qH<|fun u=>Ks tx 10 u;obtain⟨k,hk⟩:=ag (tx.data.toList.count 10);rw[hk]at C1 hle;unfold gY;by_cases h1:w<1
 ·have HR:Hid (pu a8 tx.data.toList w=0):=by show _=_;unfold pu;rw[if_pos h1]
  go_enter func200,ntmps200;go_wp2;go_ret;exact⟨by rw[HR.out];rfl,HB1⟩
 ·by_cases h8:a8=1
  ·subst h8;have HR:Hid (pu 1 tx.data.toList w=((bC (a_ (aD tx.data.toList)) w).length:Int)):=by show _=_;unfold pu;rw[if_neg h1,if_pos rfl]
   obtain⟨y,hy⟩:=ag ((bC (a_ (aD tx.data.toList)) w).length);rw[hy]at HR CT;go_enter func200,ntmps200;go_wp2_with(go_at_call 224;refine ao (CT _ HB1) ?_;rintro e u ⟨rfl,zv⟩);go_ret;exact⟨by rw[HR.out];rfl,zv⟩
  ·have e8:(a8==1)=false:=by simpa using h8
   have HR:Hid (pu a8 tx.data.toList w=(k:Int)+1):=by show _=_;unfold pu;rw[if_neg h1,if_neg h8,hk]
   go_enter func200,ntmps200;go_wp2_with(go_at_call 225;refine ao (C1 _) ?_;rintro e u ⟨rfl,hu⟩;obtain rfl:=hu.symm);go_ret;exact⟨by rw[HR.out];rfl,HB1⟩
theorem cG.kept{W W'}{r n}{H}(h:cG W)(hm:bN W r H n)(hg:W.grownBy W' (some r)):cG W':=by
 obtain⟨es,Cn,hmp⟩:=hm.map;have key:∀(o:Nat) v,W.cell? (az 10 o)=some v->W'.cell? (az 10 o)=some v:=fun o v hc=>by
  have bZ:10≠r:=fun e=>by subst e;simp[World.cell?,hmp]at hc
  have hlt:10<W.heap.size:=by
   by_cases q:10<W.heap.size;·exact q
   ·simp[World.cell?,RX (RY q)]at hc
  exact(bU (hg.block _ hlt (fun e=>bZ (by grind)))).trans hc
 intro i hi;obtain⟨h1,h2,h3⟩:=h i hi;grind
theorem Bj(mb:Nat)(w a0 a1 a2 a3 a4 a5 a6 a7 a8 a9 b0 b1 up:Int)(tx:ByteArray)(p:Option Addr)(m c:Nat)(U:World)(ht:cG U)(hs:tx.size<=4000)(hw:0<=w/\w<=100000):
 Cw 167 #[Pq mb,gY 5 a0 a1 a2 a3 a4 a5 a6 a7 a8 a9 b0 b1 tx (.slice p m c) up,Iq w] U fun e U'=>e=Rw (Iq (pu a8 tx.data.toList w))/\Hid (Bt U U'):=by
 have HT:Hid (∀u,Bt U u->Cw 200 #[gY 5 a0 a1 a2 a3 a4 a5 a6 a7 a8 a9 b0 b1 tx (.slice p m c) up,Iq w] u fun e u'=>e=Rw (Iq (pu a8 tx.data.toList w))/\Hid (Bt U u')):=fun u hu=>by refine(wM w 5 a0 a1 a2 a3 a4 a5 a6 a7 a8 a9 b0 b1 up tx p m c u (ht.below hu) hs hw).mono ?_;rintro e u' ⟨rfl,q⟩;exact⟨rfl,hu.trans (q.mono hu.size)⟩
 have HB1:Hid (∀o,Bt U (U.alloc o)):=fun o=>((Gr.refl U).alloc _).below;obtain⟨y,hy⟩:=ag (pu a8 tx.data.toList w);rw[hy]at HT⊢;clear hy ht;unfold gY at HT⊢;go_enter func167,ntmps167;go_wp2_with(go_at_call 200;refine ao (HT _ (HB1 _)) ?_;rintro e u ⟨rfl,zv⟩);go_ret;simp_all
def dm(L:List Nd)(i:Nat):List Nat:=(ae L i).kids
structure Hs(U:World)(mb r g cap wb:Nat)(L:List Nd)(KV:Nat->Value)(Wd:Nat->Int)(H:Nat->Int->Int)(n:Nat):Prop where
 view:uA U mb r g cap wb L KV Wd
 memo:bN U r H n
 tab:cG U
theorem Hs.grown{U U'}{mb r g cap wb}{L}{KV}{Wd}{H}{n n'}(h:Hs U mb r g cap wb L KV Wd H n)(hg:U.grownBy U' (some r))(hm:bN U' r H n'):Hs U' mb r g cap wb L KV Wd H n':=
 ⟨h.view.grown hg,hm,h.tab.kept h.memo hg⟩
theorem Hs.below{U U'}{mb r g cap wb}{L}{KV}{Wd}{H}{n}(h:Hs U mb r g cap wb L KV Wd H n)(hb:Bt U U'):Hs U' mb r g cap wb L KV Wd H n:=
 h.grown (ac hb) (h.memo.grown_below hb)
theorem Gj{s}{L}{KV}{Wd}{H}  mb r g cap wb  (hT:dZ s L) (hS:Sz L Wd H):∀  f i   w   n   U,i<L.length->L.length-i<=f->0<=w->w<=100000->Hs U mb r g cap wb L KV Wd H n->n+(un (dm L) f i).length<1000000000000->
 Cw 105 #[Pq mb,Iq (i:Int),Iq w] U fun e U'=>e=Rw (Iq (H i w))/\Hid (U.grownBy U' (some r))/\Hid (bN U' r H (n+(un (dm L) f i).length)):=by
 intro f;induction f with
 |zero=>intro i w n U hi h1;omega
 |succ f ih=>
  intro i w n U hi hf hw0 eQ hU hn;have hc:=hT.vl.cnt;have vk:=VT (dm L) f i;have hNv:=hT.vl.nv i hi;have hbd:=hNv.bd;have dj:(dm L i).length<=100:=hT.kids_le hi;obtain⟨k,hk⟩:=ag (cS (fun j=>(un (dm L) f (aP (dm L i) j)).length) (dm L i).length);rw[hk]at vk;rw[vk]at hn⊢;obtain⟨p,c,pD,ru⟩:=hU.view.kid i hi;have kC:=nR (hU.view.len i hi) (KV i);have jc:=hU.view.nd i hi;rw[kC]at jc;have hWB:tY (i:Int):=by unfold tY;omega
  have hWw:tY w:=by unfold tY;omega
  rw[show n+(k+1)=n+k+1 by omega];refine K6 mb r g i n k L.length cap w H _ ((ae L i).kind:Int) (aF (ae L i) 0) (aF (ae L i) 1) (aF (ae L i) 2) (aF (ae L i) 3) (aF (ae L i) 4) (aF (ae L i) 5) (aF (ae L i) 6) (aF (ae L i) 7) (aF (ae L i) 8) (aF (ae L i) 9) (aF (ae L i) 10) (aF (ae L i) 11) (ae L i).up ⟨(ae L i).text.toArray⟩ (KV i) U hU.view.ms hU.memo hi (by omega) hWB hWw (by omega) hU.view.gl hU.view.gr (fun t x ht=>jc t x (by grind)) (fun W hb hmW=>?_);rw[pD];have hWs:=hU.grown (ac hb) hmW;by_cases h5:(ae L i).kind=5
  ·have Ps:(⟨(ae L i).text.toArray⟩:ByteArray).size<=4000:=by have h1:=hT.vl.tl i hi;have h2:=hT.sz;show(ae L i).text.toArray.size<=4000;rw[lp];omega
   have:=Bj mb w (aF (ae L i) 0) (aF (ae L i) 1) (aF (ae L i) 2) (aF (ae L i) 3) (aF (ae L i) 4) (aF (ae L i) 5) (aF (ae L i) 6) (aF (ae L i) 7) (aF (ae L i) 8) (aF (ae L i) 9) (aF (ae L i) 10) (aF (ae L i) 11) (ae L i).up ⟨(ae L i).text.toArray⟩ p (ae L i).kids.length c W hWs.tab Ps ⟨hw0,eQ⟩;rw[h5];refine this.mono ?_;rintro e U' ⟨rfl,q⟩;exact⟨_,rfl,(hS.ht i w hi h5).symm,ac q,(hmW.grown_below q).mono (by omega)⟩
  ·have zh8:((ae L i).kind:Int)≠5:=by omega
   have:=VX mb r n (ae L i).kids.length w H (Nw L (ae L i).kids (ae L i).kind (aF (ae L i) 4) (aF (ae L i) 5) (aF (ae L i) 6) w Wd) (aP (ae L i).kids) (fun j=>(un (dm L) f (aP (dm L i) j)).length)
    ((ae L i).kind:Int) (aF (ae L i) 0) (aF (ae L i) 1) (aF (ae L i) 2) (aF (ae L i) 3) (aF (ae L i) 4) (aF (ae L i) 5) (aF (ae L i) 6) (aF (ae L i) 7) (aF (ae L i) 8) (aF (ae L i) 9) (aF (ae L i) 10) (aF (ae L i) 11) (ae L i).up ⟨(ae L i).text.toArray⟩ p c W
    zh8 (by grind[dm]) (by omega) (by omega) (by omega) (fun j v hj=>hS.hb _ v (dM hT hi hj).2) (fun j hj=>by grind[dM]) hmW.lt hmW (ru.grown (ac hb))
    (fun u hu Lc=>xN mb r g cap wb n w L (ae L i).kids KV Wd H _ _ _ _ _ _ _ _ _ _ _ _ _ _ _ p c u (hWs.view.grown (ac hu)) Lc (by grind[dm]) (fun j hj=>(dM hT hi hj).2) (by omega) ((ru.grown (ac hb)).grown (ac hu)) (fun j hj=>hS.wb j hj) ⟨hw0,eQ⟩ (by omega) (by omega))
    (fun V hV j u nn hj hu Lc hnn=>by
     have K9:=dM hT hi hj;have hVj:=hV.2.2 j hj;have hb2:cS (fun j=>(un (dm L) f (aP (dm L i) j)).length) (j+1)<=k:=by
      rw[<-hk];have mono:∀a b,a<=b->cS (fun j=>(un (dm L) f (aP (dm L i) j)).length) a<=cS (fun j=>(un (dm L) f (aP (dm L i) j)).length) b:=by
       intro a b hab;induction b with
       |zero=>grind
       |succ b ihb=>grind[cS]
      exact mono _ _ hj
     have hst:cS (fun j=>(un (dm L) f (aP (dm L i) j)).length) (j+1)=cS (fun j=>(un (dm L) f (aP (dm L i) j)).length) j+(un (dm L) f (aP (dm L i) j)).length:=rfl;have hr:=ih (aP (ae L i).kids j) (V j) nn u K9.2 (by omega) hVj.1 hVj.2 (hWs.grown hu Lc) (by grind[un,dm,aP]);refine hr.mono ?_;rintro e u' ⟨rfl,q1,q2⟩;refine⟨rfl,q1,q2.mono ?_⟩;grind[un,dm,aP]);refine this.mono ?_;rintro e U' ⟨V,hV,rfl,q1,q2⟩;refine⟨_,rfl,?_,q1,q2.mono (by rw[<-hk];exact ai _)⟩;by_cases h0:(ae L i).kind=0;·rw[hS.hr i w V hi h0 (hV.1 (by omega))];rfl
   ·rw[hS.ho i w hi h5 h0];unfold qj;rw[vT fun j hj=>?_];rw[hV.2.1 (by omega) j hj];rfl
theorem vm{s}{L}{KV}{Wd}{H}  mb r g cap wb  (hT:dZ s L) (hS:Sz L Wd H)  i   w   n   U  (hi:i<L.length) (hw0:0<=w) (eQ:w<=100000) (hU:Hs U mb r g cap wb L KV Wd H n) (hn:n<=100000000):
 Cw 105 #[Pq mb,Iq (i:Int),Iq w] U fun e U'=>e=Rw (Iq (H i w))/\Hid (U.grownBy U' (some r))/\Hid (bN U' r H (n+100)):=by have h1:=VU (kids:=dm L) hT.nest L.length i hi;have h2:=hT.vl.cnt;refine(Gj mb r g cap wb hT hS L.length i w n U hi (by omega) hw0 eQ hU (by omega)).mono ?_;rintro e U' ⟨rfl,q1,q2⟩;exact⟨rfl,q1,q2.mono (by omega)⟩
theorem xY(mb:Nat)(a0 a1 a2 a3 a4 a5 a6 a7 a8 a9 b0 b1 up:Int)(tx:ByteArray)(p:Option Addr)(m c:Nat)(U:World)(ht:cG U)(hs:tx.size<=4000):
 Cw 58 #[Pq mb,gY 5 a0 a1 a2 a3 a4 a5 a6 a7 a8 a9 b0 b1 tx (.slice p m c) up] U fun e U'=>e=Rw (Iq (xX tx.data.toList))/\Hid (Bt U U'):=by
 have HT:Hid (∀u,Bt U u->Cw 102 #[.string tx] u fun e u'=>e=Rw (Iq (xX tx.data.toList))/\Hid (Bt U u')):=fun u hu=>by refine(Ie tx u (ht.below hu) hs).mono ?_;rintro e u' ⟨rfl,q⟩;exact⟨rfl,hu.trans (q.mono hu.size)⟩
 have HB1:Hid (∀o,Bt U (U.alloc o)):=fun o=>((Gr.refl U).alloc _).below;obtain⟨y,hy⟩:=ag (xX tx.data.toList);rw[hy]at HT⊢;clear hy ht;unfold gY;go_enter func58,ntmps58;go_wp2_with(go_at_call 102;refine ao (HT _ (HB1 _)) ?_;rintro e u ⟨rfl,zv⟩);go_ret;simp_all
theorem Bk(mb r wb N m:Nat)(Wd:Nat->Int)(ks:Nat->Nat)(kd a0 a1 a2 a3 a4 a5 a6 a7 a8 a9 b0 b1 up:Int)(tx:ByteArray)(nv:Value)(p:Option Addr)(c:Nat)(U:World)
 (WX:kd≠5) (hm:m<=1000) (hN:N<=1000000) (h4:0<=a4/\a4<=1000000) (h5:0<=a5/\a5<=1000000) (h6:0<=a6/\a6<=1000000) (hh:Hid (∀j,j<m->0<=Wd (ks j)/\Wd (ks j)<=100000)) (ke:Hid (∀j,j<m->ks j<N))
 (hMs:Ms U mb nv (Sq wb N N) r) (hwl:wb<U.heap.size) (hK:Hid (ir U r p m (fun j=>(ks j:Int)))) (hW:Hid (∀j,j<m->U.cell? (az wb (ks j))=some (Iq (Wd (ks j))))):
 Cw 58 #[Pq mb,gY kd a0 a1 a2 a3 a4 a5 a6 a7 a8 a9 b0 b1 tx (.slice p m c) up] U fun e U'=>e=Rw (Iq (qr kd a4 a5 a6 (fun j=>Wd (ks j)) m))/\Hid (Bt U U'):=by
 have e5:(kd==5)=false:=by simpa using WX
 obtain⟨h,WW⟩:∃h:Nat->Int,(fun j=>Wd (ks j))=h:=⟨_,rfl⟩;have HHE:Hid (∀j,Wd (ks j)=h j):=fun j=>by grind
 have Ur:Hid (∀j,j<m->0<=h j/\h j<=100000):=fun j hj=>by rw[<-HHE j];exact hh j hj
 rw[WW];obtain⟨U1,Ua⟩:=ag (U.alloc (.cells #[Iq kd,Iq a0,Iq a1,Iq a2,Iq a3,Iq a4,Iq a5,Iq a6,Iq a7,Iq a8,Iq a9,Iq b0,Iq b1,.string tx,.slice p m c,Iq up] 63));obtain⟨A,hA⟩:=ag U.heap.size;have HB1:Hid (Bt U U1):=by rw[<-Ua];exact((Gr.refl U).alloc _).below
 have b9:U1.heap[A]?=some (.cells #[Iq kd,Iq a0,Iq a1,Iq a2,Iq a3,Iq a4,Iq a5,Iq a6,Iq a7,Iq a8,Iq a9,Iq b0,Iq b1,.string tx,.slice p m c,Iq up] 63 (0,0)):=by rw[<-Ua,<-hA];exact heap_alloc_new _ _
 have cZ:Hid (∀(t:Nat) x,(#[Iq kd,Iq a0,Iq a1,Iq a2,Iq a3,Iq a4,Iq a5,Iq a6,Iq a7,Iq a8,Iq a9,Iq b0,Iq b1,.string tx,.slice p m c,Iq up]:Array Value)[t]?=some x->U1.cell? (az A t)=some x):=fun t x ht=>by rw[Lib.cell_of_heap b9];exact ht
 have z0:U1.cell? (az A 0)=some (Iq kd):=cZ 0 _ rfl;have z1:U1.cell? (az A 1)=some (Iq a0):=cZ 1 _ rfl;have z2:U1.cell? (az A 2)=some (Iq a1):=cZ 2 _ rfl;have z3:U1.cell? (az A 3)=some (Iq a2):=cZ 3 _ rfl;have z4:U1.cell? (az A 4)=some (Iq a3):=cZ 4 _ rfl;have z5:U1.cell? (az A 5)=some (Iq a4):=cZ 5 _ rfl;have z6:U1.cell? (az A 6)=some (Iq a5):=cZ 6 _ rfl;have z7:U1.cell? (az A 7)=some (Iq a6):=cZ 7 _ rfl;have z8:U1.cell? (az A 8)=some (Iq a7):=cZ 8 _ rfl;have z9:U1.cell? (az A 9)=some (Iq a8):=cZ 9 _ rfl;have SU:U1.cell? (az A 10)=some (Iq a9):=cZ 10 _ rfl;have SV:U1.cell? (az A 11)=some (Iq b0):=cZ 11 _ rfl;have SW:U1.cell? (az A 12)=some (Iq b1):=cZ 12 _ rfl;have SX:U1.cell? (az A 13)=some (.string tx):=cZ 13 _ rfl;have VY:U1.cell? (az A 14)=some (.slice p m c):=cZ 14 _ rfl;have SY:U1.cell? (az A 15)=some (Iq up):=cZ 15 _ rfl;have m1:U1.cell? (az mb 1)=some (Sq wb N N):=by have BG:=(aM.1 hMs).1;have hb:=(HB1.block mb BG).trans hMs;rw[Lib.cell_of_heap hb];rfl
 have mh:=qH<|hK.grown (ac HB1);have J3:Hid (∀j,j<m->U1.cell? (az wb (ks j))=some (Iq (h j))):=fun j hj=>by rw[<-HHE j];exact(HB1.cell (p:=(az wb _)) hwl).trans (hW j hj)
 clear b9 WW hMs hK hW hh HHE;unfold gY;go_enter func58,ntmps58;go_wp2_with fail;generalize mN:Value.agg #[Iq kd,Iq a0,Iq a1,Iq a2,Iq a3,Iq a4,Iq a5,Iq a6,Iq a7,Iq a8,Iq a9,Iq b0,Iq b1,.string tx,.slice p m c,Iq up]=ndv;go_loopw[5,6,18] (fun sv gv kv wr=>∃k:Nat,k<=m/\kv=Iq (k:Int)/\sv=Iq (hS h k)/\gv=Iq (hG h k)/\wr=U1) (fun _ _ kv _=>m-(intOf kv).toNat);case atStart=>exact⟨0,aZ _,rfl,rfl,rfl,rfl⟩
 case round=>
  obtain⟨k,hk,rfl,rfl,rfl,hwr⟩:=hrel;subst hwr;by_cases hlt:k<m
  ·have aN:(k:Int)<(m:Int):=by omega
   have hbs:=Df Ur k hk;have hbg:=De Ur k hk;have hbh:=Ur k hlt;have MJ:=ke k hlt;have hkI:(ks k:Int)<(N:Int):=by omega
   obtain⟨kb,ko,rfl,_,_,OX⟩:=mh.resolve_left (by omega);have ck:=OX k hlt;have cv:=J3 k hlt;obtain⟨S,tB⟩:=ag (hS h k);obtain⟨G,T_⟩:=ag (hG h k);obtain⟨x,hx⟩:=ag (h k);have HS1:Hid (hS h (k+1)=S+x):=by show _=_;rw[<-tB,<-hx];rfl
   have HG1:Hid (hG h (k+1)=max G x):=by show _=_;rw[<-T_,<-hx];rfl
   rw[tB]at hbs;rw[T_]at hbg;rw[hx]at hbh cv;rw[tB,T_];clear tB T_ hx OX Ua hA mN h4 h5 h6 WX HB1;go_wp2;all_goals
    go_roundw;case rel=>exact⟨k+1,hlt,by go_num,by rw[HS1.out],by rw[HG1.out],by grind⟩
    grind[intOf]
  ·have aN:¬(k:Int)<(m:Int):=by omega
   obtain rfl:k=m:=by omega
   have hbs:=Df Ur k hk;have hbg:=De Ur k hk;have GA:=qH<|fun u=>C5 kd a0 a1 a2 a3 a4 a5 a6 a7 a8 a9 b0 b1 up tx p k c h4 (by omega) u;have FA:=qH<|fun u=>nt kd a0 a1 a2 a3 a4 a5 a6 a7 a8 a9 b0 b1 up tx p k c h5 h6 u;have nC:0<=h_ a4 k/\h_ a4 k<=1000000000000:=by
    unfold h_;have tF:0<=max 0 ((k:Int)-1)/\max 0 ((k:Int)-1)<=1000000:=by omega
    exact⟨jb h4.1 tF.1,nj h4.2 tF.2 tF.1 (by omega)⟩
   have rl:=F_ (kd:=kd) h5 h6;unfold gY at GA FA;rw[mN]at GA FA;clear Ua hA Ur ke J3 mh m1;by_cases h0:kd=0
   ·subst h0;have hraw:qr 0 a4 a5 a6 h k=hS h k+h_ a4 k:=by unfold qr;rw[if_pos rfl]
    obtain⟨S,tB⟩:=ag (hS h k);obtain⟨gg,oW⟩:=ag (h_ a4 k);rw[tB,oW]at hraw;have oN:=qH<|hraw;rw[tB]at hbs⊢;rw[oW]at nC GA;clear tB oW hraw;go_wp2_with(go_at_call 103;refine(GA _).mono ?_;rintro e wz ⟨rfl,S7⟩);go_ret;exact⟨by rw[oN.out];rfl,HB1.trans (S7.mono HB1.size)⟩
   ·have hraw:qr kd a4 a5 a6 h k=hG h k+2*jC kd a5 a6:=by unfold qr;rw[if_neg h0]
    have e1:(kd==0)=false:=by simpa using h0
    obtain⟨S,tB⟩:=ag (hG h k);obtain⟨gg,oW⟩:=ag (jC kd a5 a6);rw[tB,oW]at hraw;have oN:=qH<|hraw;rw[tB]at hbg⊢;rw[oW]at rl FA;clear tB oW hraw;go_wp2_with(go_at_call 104;refine(FA _).mono ?_;rintro e wz ⟨rfl,S7⟩);go_ret;exact⟨by rw[oN.out];rfl,HB1.trans (S7.mono HB1.size)⟩
structure Ts(U:World)(r g:Nat)(L:List Nd)(KV:Nat->Value):Prop where
 gl:g<U.heap.size
 gr:g≠r
 len:∀j,j<L.length->(ae L j).attr.length=12
 nd:∀j,j<L.length->∀(t:Nat) x,(b_ (ae L j) (KV j))[t]?=some x->U.cell? (az g (j*16+t))=some x
 kid:∀j,j<L.length->∃p c,KV j=.slice p (ae L j).kids.length c/\ir U r p (ae L j).kids.length (fun t=>(aP (ae L j).kids t:Int))
theorem Ts.grown{U U'}{r g}{L}{KV}(h:Ts U r g L KV)(hg:U.grownBy U' (some r)):Ts U' r g L KV:=by refine⟨zz008 h.gl hg.size,h.gr,h.len,fun j hj t x ht=>(bU (hg.block g h.gl (fun q=>h.gr (by grind)))).trans (h.nd j hj t x ht),fun j hj=>?_⟩;obtain⟨p,c,e,hk⟩:=h.kid j hj;exact⟨p,c,e,hk.grown hg⟩
theorem PN.ndv{W}{B g cap r}{L}{KV}(h:PN W B (Sq g L.length cap) L KV)(hr:W.heap.size<=r):Ts W r g L KV:=by
 obtain⟨xs,hx⟩:=h.nr.row;have kV:g<W.heap.size:=by
  rcases dK hx with⟨e,_⟩|⟨g',dD,e,_,hl,_⟩;·cases e
  ·grind
 refine⟨kV,by omega,h.len,fun j hj t x ht=>h.nr.cells g rfl j hj t x ht,fun j hj=>?_⟩;rcases dK (h.nr.kids j hj)with⟨e,h0⟩|⟨g',dD,e,_,hl,_⟩;·refine⟨none,0,by grind,.inl h0⟩
 ·refine⟨_,_,e,.inr ⟨g',0,rfl,hl,by omega,fun i hi=>?_⟩⟩;have hk:=h.nr.kids j hj;rw[e]at hk;rw[bM,hk.cellAt i (by omega)];grind[kX,aP]
def wdF(Wd:Nat->Int)(k j:Nat):Value:=Iq (if j<k then 0 else Wd j)
structure Nm(U W:World)(mb r g cap wb:Nat)(L:List Nd)(KV:Nat->Value)(Wd:Nat->Int)(H:Nat->Int->Int)(k:Nat):Prop where
 bel:Bt U W
 nds:Ts W r g L KV
 ms:Ms W mb (Sq g L.length cap) (Sq wb L.length L.length) r
 row:W.rowIs wb 3 L.length (wdF Wd k)
 mm:bN W r H 0
 hwb:U.heap.size<=wb
 ne:wb≠r/\wb≠mb/\wb≠g/\mb≠r
 tab:cG W
theorem Nm.below{U W W'}{mb r g cap wb}{L}{KV}{Wd}{H}{k}(h:Nm U W mb r g cap wb L KV Wd H k)(hb:Bt W W'):Nm U W' mb r g cap wb L KV Wd H k:=
 ⟨h.bel.trans (hb.mono h.bel.size),h.nds.grown (ac hb),(hb.block mb (aM.1 h.ms).1).trans h.ms,rowIs_below h.row hb,h.mm.grown_below hb,h.hwb,h.ne,h.tab.below hb⟩
theorem Nm.set{U W}{mb r g cap wb i}{L}{KV}{Wd}{H}(h:Nm U W mb r g cap wb L KV Wd H (i+1))(K_:∀j p c,j<L.length->KV j=.slice p (ae L j).kids.length c->∀b o,p=some (az b o)->b≠wb)(htw:10≠wb):Nm U (W.setCell (az wb i) (Iq (Wd i))) mb r g cap wb L KV Wd H i:=by
 have key:∀b,b≠wb->(W.setCell (az wb i) (Iq (Wd i))).heap[b]?=W.heap[b]?:=fun b hb=>cF W (az wb i) _ b hb;have hc:=fun b o hb=>bU (a:=(az b o)) (key b hb);obtain⟨n1,n2,n3,n4⟩:=h.ne;refine⟨h.bel.setCell (p:=(az wb i)) h.hwb _,⟨by simpa using h.nds.gl,h.nds.gr,h.nds.len,fun j hj t x ht=>(hc g _ (fun e=>n3 e.symm)).trans (h.nds.nd j hj t x ht),fun j hj=>?_⟩,(key mb (fun e=>n2 e.symm)).trans h.ms,(h.row.set i _).congr fun j hj=>?_,h.mm.set n1 _,h.hwb,h.ne,fun j hj=>?_⟩
 ·obtain⟨p,c,e,hk⟩:=h.nds.kid j hj;refine⟨p,c,e,?_⟩;rcases hk with hk|⟨b,o,e2,k1,k2,k3⟩;·exact .inl hk
  ·exact .inr ⟨b,o,e2,by simpa using k1,k2,fun q hq=>(hc b _ (K_ j p c hj e b o e2)).trans (k3 q hq)⟩
 ·grind[wdF]
 ·obtain⟨t1,t2,t3⟩:=h.tab j hj;grind
theorem Au(w:World)  n   Wd  :(w.alloc (.cells (madeCells #[Iq 0] n) 3)).rowIs w.heap.size 3 n (wdF Wd n):=
 (World.rowIs_made w (Iq 0) n _).congr fun j hj=>by grind[wdF]
theorem vG{s:ByteArray}{L:List Nd}{KV:Nat->Value}{Wd:Nat->Int}{H:Nat->Int->Int}(g cap:Nat)(hT:dZ s L)(hS:Sz L Wd H)(U:World)(B:Nat)(hP:PN U B (Sq g L.length cap) L KV)(ht:cG U):
 Cw 29 #[Sq g L.length cap] U fun e U'=>∃mb r wb,e=Rw (Pq mb)/\Bt U U'/\Hs U' mb r g cap wb L KV Wd H 0/\U.heap.size<=r:=by
 obtain⟨N,hN⟩:=ag L.length;have hc:=hT.vl.cnt;have fZ:=hT.pos;rw[hN]at hc fZ;obtain⟨wb,hwb⟩:=ag U.heap.size;have iU:=run_make_row' (P:=prog) 61 3 (Iq 0) 8 underlying61 iV rfl .i64 .i64 N (by omega) (by omega);obtain⟨W1,cC⟩:=ag (((U.alloc (.cells (madeCells #[Iq 0] N) 3)).alloc (.map #[] 0)).alloc (.cells #[Sq g N cap,Sq wb N N,.map (some (wb+1))] 122));have hb1:Bt U W1:=by rw[<-cC];exact(((Gr.refl U).alloc _).alloc _).alloc _|>.below
 have Ze:Ts U (wb+1) g L KV:=hP.ndv (by omega);have kV:=Ze.gl;have uf:10<U.heap.size:=by
  obtain⟨h1,_⟩:=ht 0 (by decide);by_cases q:10<U.heap.size;·exact q
  ·simp[World.cell?,RX (RY q)]at h1
 have HKW:Hid (∀j p c,j<L.length->KV j=.slice p (ae L j).kids.length c->∀b o,p=some (az b o)->b≠wb):=fun j p c hj e b o e2=>by rcases dK (hP.nr.kids j hj)with⟨e3,h0⟩|⟨g',dD,e3,_,hl,_⟩;all_goals grind
 have HNM:Hid (Nm U W1 (wb+1+1) (wb+1) g cap wb L KV Wd H N):=by
  refine⟨hb1,Ze.grown (ac hb1),?_,?_,?_,by omega,⟨by omega,by omega,by omega,by omega⟩,ht.below hb1⟩;·rw[hN,<-cC];have:=heap_alloc_new ((U.alloc (.cells (madeCells #[Iq 0] N) 3)).alloc (.map #[] 0)) (.cells #[Sq g N cap,Sq wb N N,.map (some (wb+1))] 122);rw[aI,aI,hwb]at this;exact this
  ·rw[hN,<-cC,<-hwb];exact((Au U N Wd).alloc _).alloc _
  ·rw[<-cC];have:=bN.new (U.alloc (.cells (madeCells #[Iq 0] N) 3)) H;rw[aI,hwb]at this;exact this.alloc _
 have LN:=qH<|length_any;have kD:prog.follows .mixedOrders=true:=by kernel_rfl
 have Yb:Hid (10≠wb):=fun e=>by omega
 have Sj:=qH<|hwb;have zio:∀w:World,(Instr.makeMap 120 none).run prog w=.ok (.map (some w.heap.size)) (w.alloc (.map #[] 0)):=fun _=>rfl;rw[hN];clear hb1 Ze kV uf hP ht;go_enter func29,ntmps29;go_wp2_with fail;clear cC iU hwb zio;go_loopw[4] (fun iv wr=>∃k:Nat,k<=N/\iv=Iq ((k:Int)-1)/\Hid (Nm U wr (wb+1+1) (wb+1) g cap wb L KV Wd H k)) (fun iv _=>(intOf iv+1).toNat);case atStart=>grind
 case round=>
  obtain⟨k,hk,rfl,HR⟩:=hrel;cases k with
  |zero=>
   have HV:Hid (Hs wr (wb+1+1) (wb+1) g cap wb L KV Wd H 0):=by have h:=HR.out;obtain⟨n1,n2,n3,n4⟩:=h.ne;exact⟨⟨h.ms,h.nds.gl,h.row.lt,n4,h.nds.gr,n1,h.nds.len,h.nds.nd,h.nds.kid,fun j hj=>h.row.cell hj⟩,h.mm,h.tab⟩
   go_wp2;go_ret;exact⟨_,_,wb,rfl,HR.bel,HV,by rw[Sj.out];omega⟩
  |succ i=>
   have ei:((i+1:Nat):Int)-1=(i:Int):=by omega
   rw[ei];have pC:i<L.length:=by omega
   have hiN:(i:Int)<(N:Int):=by omega
   have hR:=HR.out;obtain⟨p,c,pD,ru⟩:=hR.nds.kid i pC;have kC:=nR (hR.nds.len i pC) (KV i);have jc:=hR.nds.nd i pC;rw[kC,pD]at jc;have xh:=hR.ms;rw[hN]at xh;have hbd:=(hT.vl.nv i pC).bd;have dj:=hT.kids_le pC;have WC:Hid (∀u,Bt wr u->Cw 58 #[Pq (wb+1+1),gY (ae L i).kind (aF (ae L i) 0) (aF (ae L i) 1) (aF (ae L i) 2) (aF (ae L i) 3) (aF (ae L i) 4) (aF (ae L i) 5) (aF (ae L i) 6) (aF (ae L i) 7) (aF (ae L i) 8) (aF (ae L i) 9) (aF (ae L i) 10) (aF (ae L i) 11) ⟨(ae L i).text.toArray⟩ (.slice p (ae L i).kids.length c) (ae L i).up] u fun e u'=>∃x,e=Rw (Iq x)/\bc x=Wd i/\Hid (Bt wr u')):=fun u hu=>by
    have hRu:=hR.below hu;rw[hS.w i pC];unfold qk;by_cases h5:(ae L i).kind=5
    ·rw[if_pos h5];have Ps:(⟨(ae L i).text.toArray⟩:ByteArray).size<=4000:=by have h1:=hT.vl.tl i pC;have h2:=hT.sz;show(ae L i).text.toArray.size<=4000;rw[lp];omega
     have:=xY (wb+1+1) (aF (ae L i) 0) (aF (ae L i) 1) (aF (ae L i) 2) (aF (ae L i) 3) (aF (ae L i) 4) (aF (ae L i) 5) (aF (ae L i) 6) (aF (ae L i) 7) (aF (ae L i) 8) (aF (ae L i) 9) (aF (ae L i) 10) (aF (ae L i) 11) (ae L i).up ⟨(ae L i).text.toArray⟩ p (ae L i).kids.length c u hRu.tab Ps;rw[h5];refine this.mono ?_;rintro e u' ⟨rfl,q⟩;exact⟨_,rfl,rfl,hu.trans (q.mono hu.size)⟩
    ·rw[if_neg h5];refine(Bk (wb+1+1) (wb+1) wb L.length (ae L i).kids.length Wd (aP (ae L i).kids) (ae L i).kind (aF (ae L i) 0) (aF (ae L i) 1) (aF (ae L i) 2) (aF (ae L i) 3) (aF (ae L i) 4) (aF (ae L i) 5) (aF (ae L i) 6) (aF (ae L i) 7) (aF (ae L i) 8) (aF (ae L i) 9) (aF (ae L i) 10) (aF (ae L i) 11) (ae L i).up ⟨(ae L i).text.toArray⟩ _ p c u (by omega) (by omega) (by omega) (by omega) (by omega) (by omega) (fun j hj=>hS.wb _ (dM hT pC hj).2) (fun j hj=>(dM hT pC hj).2) hRu.ms hRu.row.lt (ru.grown (ac hu)) (fun j hj=>?_)).mono ?_;·have K9:=dM hT pC hj;rw[hRu.row.cell K9.2];grind[wdF]
     ·rintro e u' ⟨rfl,q⟩;exact⟨_,rfl,rfl,hu.trans (q.mono hu.size)⟩
   have HNX:Hid (∀u,Bt wr u->Nm U (u.setCell (az wb i) (Iq (Wd i))) (wb+1+1) (wb+1) g cap wb L KV Wd H i):=fun u hu=>(hR.below hu).set HKW Yb;have HWC:Hid (∀u,Bt wr u->u.cell? (az wb i)=some (Iq 0)/\u.frozen? (az wb i)=false/\wb<u.heap.size):=fun u hu=>by have hr:=(hR.below hu).row;refine⟨?_,hr.frozen i,hr.lt⟩;rw[hr.cell pC];grind[wdF]
   have zcP:=(aM.1 xh).1;have kV:=hR.nds.gl;have zcS:¬wb=g:=hR.ne.2.2.1;have zix:¬g=wb:=fun e=>zcS e.symm;have Pe:¬wb=wb+1+1:=by omega
   have ziy:¬wb+1+1=wb:=by omega
   generalize(ae L i).text.toArray=_g at jc WC;generalize((ae L i).kind:Int)=kd at jc WC;generalize aF (ae L i) 0=a0 at jc WC;generalize aF (ae L i) 1=a1 at jc WC;generalize aF (ae L i) 2=a2 at jc WC;generalize aF (ae L i) 3=a3 at jc WC;generalize aF (ae L i) 4=a4 at jc WC;generalize aF (ae L i) 5=a5 at jc WC;generalize aF (ae L i) 6=a6 at jc WC;generalize aF (ae L i) 7=a7 at jc WC;generalize aF (ae L i) 8=a8 at jc WC;generalize aF (ae L i) 9=a9 at jc WC;generalize aF (ae L i) 10=b0 at jc WC;generalize aF (ae L i) 11=b1 at jc WC;generalize(ae L i).up=up at jc WC;generalize(ae L i).kids.length=m at jc WC;obtain⟨tx,xH⟩:∃z:ByteArray,⟨_g⟩=z:=⟨_,rfl⟩;rw[xH]at jc WC;have HS:Hid (∀u,Bt wr u->u.cell? (az (wb+1+1) 1)=some (Sq wb N N)/\u.cell? (az g (i*16))=some (Iq kd)/\u.cell? (az g (i*16+1))=some (Iq a0)/\u.cell? (az g (i*16+2))=some (Iq a1)/\u.cell? (az g (i*16+3))=some (Iq a2)/\u.cell? (az g (i*16+4))=some (Iq a3)/\u.cell? (az g (i*16+5))=some (Iq a4)/\u.cell? (az g (i*16+6))=some (Iq a5)/\u.cell? (az g (i*16+7))=some (Iq a6)/\u.cell? (az g (i*16+8))=some (Iq a7)/\u.cell? (az g (i*16+9))=some (Iq a8)/\u.cell? (az g (i*16+10))=some (Iq a9)/\u.cell? (az g (i*16+11))=some (Iq b0)/\u.cell? (az g (i*16+12))=some (Iq b1)/\u.cell? (az g (i*16+13))=some (.string tx)/\u.cell? (az g (i*16+14))=some (.slice p m c)/\u.cell? (az g (i*16+15))=some (Iq up)):=fun u hu=>by
    have key:=fun t x hx=>(hu.cell (p:=(az g _)) kV).trans (jc t x hx);have ziq:u.cell? (az (wb+1+1) 1)=some (Sq wb N N):=by rw[Lib.cell_of_heap ((hu.block _ zcP).trans xh)];rfl
    exact⟨ziq,key 0 _ rfl,key 1 _ rfl,key 2 _ rfl,key 3 _ rfl,key 4 _ rfl,key 5 _ rfl,key 6 _ rfl,key 7 _ rfl,key 8 _ rfl,key 9 _ rfl,key 10 _ rfl,key 11 _ rfl,key 12 _ rfl,key 13 _ rfl,key 14 _ rfl,key 15 _ rfl⟩
   obtain⟨q0,q1,q2,q3,q4,q5,q6,q7,q8,q9,q10,q11,q12,q13,q14,q15,q16⟩:=HS wr (aj _ _);obtain⟨wc0,wc1,wc2⟩:=HWC wr (aj _ _);unfold gY at WC;clear hR kC jc xh hbd dj pD ru xH zcP kV HR HNM ei;go_wp2_with fail;go_region_held(fun W=>W.cell? (az (wb+1+1) 1)=some (Sq wb N N)/\W.cell? (az g (i*16))=some (Iq kd)/\W.cell? (az g (i*16+1))=some (Iq a0)/\W.cell? (az g (i*16+2))=some (Iq a1)/\W.cell? (az g (i*16+3))=some (Iq a2)/\W.cell? (az g (i*16+4))=some (Iq a3)/\W.cell? (az g (i*16+5))=some (Iq a4)/\W.cell? (az g (i*16+6))=some (Iq a5)/\W.cell? (az g (i*16+7))=some (Iq a6)/\W.cell? (az g (i*16+8))=some (Iq a7)/\W.cell? (az g (i*16+9))=some (Iq a8)/\W.cell? (az g (i*16+10))=some (Iq a9)/\W.cell? (az g (i*16+11))=some (Iq b0)/\W.cell? (az g (i*16+12))=some (Iq b1)/\W.cell? (az g (i*16+13))=some (.string tx)/\W.cell? (az g (i*16+14))=some (.slice p m c)/\W.cell? (az g (i*16+15))=some (Iq up)) (go_keep) (first|(go_at_call 58;refine ao (WC _ (by first|exact aj _ _|exact(aj _ _).drew)) ?_;rintro e u1 ⟨x,rfl,hx,zv⟩;obtain⟨s0,s1,s2,s3,s4,s5,s6,s7,s8,s9,Xz,XA,XB,XC,XD,XE,s16⟩:=HS u1 zv;obtain⟨wd0,wd1,wd2⟩:=HWC u1 zv)|(go_at_call 57;refine ao (LN _ _) ?_;rintro e u2 ⟨rfl,SM⟩;obtain rfl:=SM.symm));all_goals
    have HN2:=qH<|HNX _ zv;go_wp2;go_roundw;case rel=>exact⟨i,by omega,by go_num,HN2⟩
    case measure=>simp[intOf]<;>omega
def XF(L:List Nd):Nat->Nat->Int×Int×Int
 |0,_=>(0,0,0)
 |f+1,i=>(ov (if 0<=(ae L i).up then(XF L f (ae L i).up.toNat).1 else 0) (aF (ae L i) 9),ov (if 0<=(ae L i).up then(XF L f (ae L i).up.toNat).2.1 else 0) (aF (ae L i) 10),xn (if 0<=(ae L i).up then(XF L f (ae L i).up.toNat).2.2 else 0) (aF (ae L i) 11))
theorem wJ{L}(h:∀i,i<L.length->(ae L i).up<i):∀  f g i,i<L.length->i<f->i<g->XF L f i=XF L g i
 |0,_,_,_,h,_=>by omega
 |_+1,0,_,_,_,h=>by omega
 |f+1,g+1,i,hi,hf,hg=>by
  have hu:=h i hi;unfold XF;by_cases h0:0<=(ae L i).up;·rw[if_pos h0,if_pos h0,if_pos h0,if_pos h0,if_pos h0,if_pos h0,wJ h f g (ae L i).up.toNat (by omega) (by omega) (by omega)]
  grind
def gw(L:List Nd)(i:Nat):Int×Int×Int:=XF L (i+1) i
theorem QY{L}(h:∀i,i<L.length->(ae L i).up<i){i}(hi:i<L.length)  u0 u1 u2  (hu:(0<=(ae L i).up/\(u0,u1,u2)=gw L (ae L i).up.toNat)\/((ae L i).up<0/\u0=0/\u1=0/\u2=0)):
 ov u0 (aF (ae L i) 9)=(gw L i).1/\ov u1 (aF (ae L i) 10)=(gw L i).2.1/\xn u2 (aF (ae L i) 11)=(gw L i).2.2:=by grind[gw,XF,ae,wJ]
theorem UO:(prog.info? 37).map (fun i=>(i.zero,i.size,i.bytes))=some (some (.agg #[Iq 0,Iq 0,Iq 0]),3,24):=by kernel_rfl
theorem Be{L:List Nd}{KV:Nat->Value}(hup:∀i:Nat,i<L.length->(ae L i).up<i)(hLn:L.length<=100)(U:World)(r g cap:Nat)(hV:Ts U r g L KV):
 Calls prog 16 #[Sq g L.length cap] U fun e U'=>∃sb,e=.returned (Sq sb L.length L.length)/\fg U' sb 0 L.length (fun j=>(gw L j).1) (fun j=>(gw L j).2.1) (fun j=>(gw L j).2.2)/\U.heap.size<=sb/\Below U.heap.size U U':=by
 obtain⟨i0,hi,eG,fs,gd⟩:=info_parts UO;obtain⟨m,hm⟩:=ag L.length;have iU:(Instr.makeSlice 55 (Iq (m:Int)) (Iq (m:Int))).run prog U=.ok (Sq U.heap.size m m) (U.alloc (.cells (madeCells #[Iq 0,Iq 0,Iq 0] (m*3)) 37)):=by have:=run_make (P:=prog) U 55 37 i0 _ underlying55 hi eG .i64 .i64 m m (by omega) (li _) (by grind) (by omega);rw[fs,lY]at this;exact this
 obtain⟨sb,I7⟩:=ag U.heap.size;obtain⟨a,ha⟩:=ag (fun j=>(gw L j).1);obtain⟨b,hb⟩:=ag (fun j=>(gw L j).2.1);obtain⟨d,hd⟩:=ag (fun j=>(gw L j).2.2);have HA:Hid (∀j,a j=(gw L j).1/\b j=(gw L j).2.1/\d j=(gw L j).2.2):=fun j=>by grind
 rw[ha,hb,hd];obtain⟨W0,cK⟩:=ag (U.alloc (.cells (madeCells #[Iq 0,Iq 0,Iq 0] (m*3)) 37));have HR0:Hid (W0.rowIs sb 37 (m*3) (zb a b d 0)):=by rw[<-cK,<-I7];exact JE U m a b d _
 have HB0:Hid (Below sb U W0):=by rw[<-cK,<-I7];exact((Gr.refl U).alloc _).below
 have J1:=qH hV;have HM:=qH hm;have X':=qH I7;rw[hm];clear hV ha hb hd hi eG fs gd;go_enter func16,ntmps16;go_wp2_with fail;clear cK I7 iU;go_loopw[12] (fun kv wr=>∃k:Nat,k<=m/\kv=Iq (k:Int)/\Hid (Below sb U wr)/\Hid (wr.rowIs sb 37 (m*3) (zb a b d k))) (fun kv _=>m-(intOf kv).toNat);case atStart=>grind
 case round=>
  obtain⟨k,hk,rfl,HB,HR⟩:=hrel;by_cases hlt:k<m
  ·have aN:(k:Int)<(m:Int):=by omega
   have dj:k<L.length:=by have:=HM.out;omega
   have HND:=qH<|fun t v hv=>(bU (a:=(az g (k*16+t))) (HB.block g (by rw[<-X'.out];exact J1.gl))).trans (J1.nd k dj t v hv);rw[nR (J1.len k dj)]at HND;obtain⟨pk,ck,pD,_⟩:=J1.kid k dj;have HUP:=qH<|hup k dj;have HST:Hid (∀u0 u1 u2,(0<=(ae L k).up/\(u0,u1,u2)=gw L (ae L k).up.toNat)\/((ae L k).up<0/\u0=0/\u1=0/\u2=0)->ov u0 (aF (ae L k) 9)=a k/\ov u1 (aF (ae L k) 10)=b k/\xn u2 (aF (ae L k) 11)=d k):=fun u0 u1 u2 hu=>by obtain⟨e1,e2,e3⟩:=HA k;grind[QY]
   rw[pD]at HND;generalize(ae L k).text.toArray=_g at HND;generalize((ae L k).kind:Int)=kd at HND;generalize aF (ae L k) 0=a0 at HND;generalize aF (ae L k) 1=a1 at HND;generalize aF (ae L k) 2=a2 at HND;generalize aF (ae L k) 3=a3 at HND;generalize aF (ae L k) 4=a4 at HND;generalize aF (ae L k) 5=a5 at HND;generalize aF (ae L k) 6=a6 at HND;generalize aF (ae L k) 7=a7 at HND;generalize aF (ae L k) 8=a8 at HND;generalize aF (ae L k) 9=a9 at HND HST;generalize aF (ae L k) 10=b0 at HND HST;generalize aF (ae L k) 11=b1 at HND HST;generalize(ae L k).up=up at HND HST HUP;generalize(ae L k).kids.length=kl at HND;obtain⟨tx,xH⟩:∃z:ByteArray,⟨_g⟩=z:=⟨_,rfl⟩;rw[xH]at HND;have q0:wr.cell? (az g (k*16))=some (Iq kd):=HND 0 _ rfl;have q1:=HND 1 _ rfl;have q2:=HND 2 _ rfl;have q3:=HND 3 _ rfl;have q4:=HND 4 _ rfl;have q5:=HND 5 _ rfl;have q6:=HND 6 _ rfl;have q7:=HND 7 _ rfl;have q8:=HND 8 _ rfl;have q9:=HND 9 _ rfl;have q10:=HND 10 _ rfl;have q11:=HND 11 _ rfl;have q12:=HND 12 _ rfl;have q13:=HND 13 _ rfl;have q14:=HND 14 _ rfl;have q15:=HND 15 _ rfl;obtain⟨A,hA⟩:=ag wr.heap.size;obtain⟨W1,cC⟩:=ag ((wr.alloc (.cells #[Iq kd,Iq a0,Iq a1,Iq a2,Iq a3,Iq a4,Iq a5,Iq a6,Iq a7,Iq a8,Iq a9,Iq b0,Iq b1,.string tx,.slice pk kl ck,Iq up] 63)).alloc (.cells #[Iq 0,Iq 0,Iq 0] 37));have HG1:Hid (Gr wr W1):=by rw[<-cC];exact((Gr.refl wr).alloc _).alloc _
   have xi:W1.heap[A]?=some (.cells #[Iq kd,Iq a0,Iq a1,Iq a2,Iq a3,Iq a4,Iq a5,Iq a6,Iq a7,Iq a8,Iq a9,Iq b0,Iq b1,.string tx,.slice pk kl ck,Iq up] 63 (0,0)):=by rw[<-cC,<-hA,du _ _ _ (by simp_all)];exact heap_alloc_new _ _
   have hs1:R3 37 W1 (A+1) 0 0 0:=by rw[<-cC,<-hA,<-World.size_alloc];exact R3.new _ _ _ _ _
   have hr1:=rowIs_below HR HG1.below;have hsA:sb<A:=by rw[<-hA];exact HR.lt
   have HR1:=qH hr1;have HN1:Hid (∀u:World,u.heap[A]?=W1.heap[A]?->u.cell? (az A 10)=some (Iq a9)/\u.cell? (az A 11)=some (Iq b0)/\u.cell? (az A 12)=some (Iq b1)/\u.cell? (az A 15)=some (Iq up)):=fun u hu=>by refine⟨?_,?_,?_,?_⟩<;>(rw[Lib.cell_of_heap (hu.trans xi)];rfl)
   obtain⟨SU,SV,SW,SY⟩:=HN1 W1 rfl;have HAL:=qH<|(aM.1 xi).1;have HS1:=qH hs1;have HBA:Hid (Below A wr W1):=by rw[<-hA];exact HG1.below
   have lO:=qH<|HR;have HF:Hid (∀u v0 v1 v2,Below A wr u->v0=a k->v1=b k->v2=d k->sb<u.heap.size/\(∀j,u.frozen? (az sb j)=false)/\(∃v,u.cell? (az sb (k*3))=some v)/\(∃v,u.cell? (az sb (k*3+1))=some v)/\(∃v,u.cell? (az sb (k*3+2))=some v)/\Hid (Below sb U (((u.setCell (az sb (k*3)) (Iq v0)).setCell (az sb (k*3+1)) (Iq v1)).setCell (az sb (k*3+2)) (Iq v2)))/\Hid ((((u.setCell (az sb (k*3)) (Iq v0)).setCell (az sb (k*3+1)) (Iq v1)).setCell (az sb (k*3+2)) (Iq v2)).rowIs sb 37 (m*3) (zb a b d (k+1)))):=fun u v0 v1 v2 hu h0 h1 h2=>by have FB:=World.rowIs.of_block HR (hu.block sb (by omega));have iD:=HB.trans (hu.mono (by omega));exact⟨FB.lt,fun j=>FB.frozen j,⟨_,FB.cell (by omega)⟩,⟨_,FB.cell (by omega)⟩,⟨_,FB.cell (by omega)⟩,((iD.setCell (p:=(az sb (k*3))) (ai _) _).setCell (p:=(az sb (k*3+1))) (ai _) _).setCell (p:=(az sb (k*3+2))) (ai _) _,JD FB v0 v1 v2 h0 h1 h2⟩
   have hA1:A+1≠sb:=by omega
   have c0:=hs1.c0;have c1:=hs1.c1;have c2:=hs1.c2;have fz:=hs1.fz;clear HND xi hs1 hr1 pD xH HR;by_cases h0:0<=up;focus
    obtain⟨j,rfl⟩:∃j:Nat,up=(j:Int):=⟨up.toNat,by omega⟩;have vn:j<k:=by have:=HUP.out;omega
    have hjm:(j:Int)<(m:Int):=by omega
    obtain⟨⟨u0,u1,u2⟩,hu⟩:=ag (gw L j);have g0:W1.cell? (az sb (j*3))=some (Iq u0):=by rw[HR1.cell (by omega)];unfold zb;rw[if_pos (by omega),if_pos (by omega),show j*3/3=j by omega,(HA j).1,hu]
    have g1:W1.cell? (az sb (j*3+1))=some (Iq u1):=by rw[HR1.cell (by omega)];unfold zb;rw[if_pos (by omega),if_neg (by omega),if_pos (by omega),show(j*3+1)/3=j by omega,(HA j).2.1,hu]
    have g2:W1.cell? (az sb (j*3+2))=some (Iq u2):=by rw[HR1.cell (by omega)];unfold zb;rw[if_pos (by omega),if_neg (by omega),if_neg (by omega),show(j*3+2)/3=j by omega,(HA j).2.2,hu]
    obtain⟨e1,e2,e3⟩:=HST u0 u1 u2 (.inl ⟨h0,by rw[<-hu];rfl⟩);have OV:Hid (∀u,Calls prog 38 #[sv u0 u1 u2,sv a9 b0 b1] u fun e u'=>e=.returned (sv (a k) (b k) (d k))/\Hid (Gr u u')):=fun u=>by have:=vM u0 u1 u2 a9 b0 b1 u;rw[e1,e2,e3]at this;exact this
    obtain⟨v0,hv0⟩:=ag (a k);obtain⟨v1,oB⟩:=ag (b k);obtain⟨v2,sB⟩:=ag (d k);rw[hv0,oB,sB]at OV HF;unfold sv at OV;obtain⟨W2,pU⟩:=ag (((W1.setCell (az (A+1) 0) (Iq u0)).setCell (az (A+1) 1) (Iq u1)).setCell (az (A+1) 2) (Iq u2));have oi:R3 37 W2 (A+1) u0 u1 u2:=by rw[<-pU];exact HS1.set u0 u1 u2
    have HB2:Hid (Below A wr W2):=by rw[<-pU];exact((HBA.setCell (p:=(az (A+1) 0)) (by show A<=A+1;omega) _).setCell (p:=(az (A+1) 1)) (by show A<=A+1;omega) _).setCell (p:=(az (A+1) 2)) (by show A<=A+1;omega) _
    have Ld:W2.heap[A]?=W1.heap[A]?:=by rw[<-pU,cF _ (az (A+1) 2) _ A (by show A≠A+1;omega),cF _ (az (A+1) 1) _ A (by show A≠A+1;omega),cF _ (az (A+1) 0) _ A (by show A≠A+1;omega)]
    obtain⟨y10,y11,y12,y15⟩:=HN1 W2 Ld;have s0:=oi.c0;have s1:=oi.c1;have s2:=oi.c2;clear hu e1 e2 e3 oi Ld;go_wp2_with fail;refine(OV _).mono ?_;rintro e u ⟨rfl,xq⟩;have HU:=qH<|HB2.trans (xq.below.mono (by have:=HB2.size;omega))
   rotate_left;focus
    obtain⟨e1,e2,e3⟩:=HST 0 0 0 (.inr ⟨by omega,rfl,rfl,rfl⟩);have OV:Hid (∀u,Calls prog 38 #[sv 0 0 0,sv a9 b0 b1] u fun e u'=>e=.returned (sv (a k) (b k) (d k))/\Hid (Gr u u')):=fun u=>by have:=vM 0 0 0 a9 b0 b1 u;rw[e1,e2,e3]at this;exact this
    obtain⟨v0,hv0⟩:=ag (a k);obtain⟨v1,oB⟩:=ag (b k);obtain⟨v2,sB⟩:=ag (d k);rw[hv0,oB,sB]at OV HF;unfold sv at OV;clear e1 e2 e3;go_wp2_with fail;refine(OV _).mono ?_;rintro e u ⟨rfl,xq⟩;have HU:=qH<|HBA.trans (xq.below.mono (by have:=HBA.size;omega))
   rotate_left;all_goals
    clear OV;obtain⟨f1,f2,⟨x0,f3⟩,⟨x1,f4⟩,⟨x2,f5⟩,F1,F2⟩:=HF u v0 v1 v2 HU rfl rfl rfl;clear HF;go_wp2;go_roundw;case rel=>exact⟨k+1,hlt,by go_num,F1,F2⟩
    case measure=>simp[intOf];omega
  ·have aN:¬(k:Int)<(m:Int):=by omega
   obtain rfl:k=m:=by omega
   go_wp2;go_ret;exact⟨sb,rfl,Ri HR,by rw[X'.out];omega,by rw[X'.out];exact HB⟩
def Jq(a b c d:Nat->Int)(k:Nat)(i:Nat):Value:=Iq (if i/4<k then(if i %4=0 then a (i/4)else if i %4=1 then b (i/4)else if i %4=2 then c (i/4)else d (i/4))else 0)
theorem Vt(w:World)  m   a b c d   T  :(w.alloc (.cells (madeCells #[Iq 0,Iq 0,Iq 0,Iq 0] (m*4)) T)).rowIs w.heap.size T (m*4) (Jq a b c d 0):=by
 have:=World.rowIs_alloc w (madeCells #[Iq 0,Iq 0,Iq 0,Iq 0] (m*4)) T (Jq a b c d 0) (fun i hi=>by
  rw[size_madeCells]at hi;unfold Jq;rw[if_neg (by omega)];simp only[madeCells];have:i %4=0\/i %4=1\/i %4=2\/i %4=3:=by omega
  rcases this with e|e|e|e<;>simp[e,hi]);rw[size_madeCells]at this;omega
theorem Vs{W:World}{b}{T}{m k}{a b1 c d}(h:W.rowIs b T (m*4) (Jq a b1 c d k))  x y z u  (hx:x=a k) (hy:y=b1 k) (hz:z=c k) (hu:u=d k):
 ((((W.setCell (az b (k*4)) (Iq x)).setCell (az b (k*4+1)) (Iq y)).setCell (az b (k*4+2)) (Iq z)).setCell (az b (k*4+3)) (Iq u)).rowIs b T (m*4) (Jq a b1 c d (k+1)):=by subst hx hy hz hu;refine((((h.set (k*4) (Iq (a k))).set (k*4+1) (Iq (b1 k))).set (k*4+2) (Iq (c k))).set (k*4+3) (Iq (d k))).congr fun i hi=>?_;grind[Jq]
def rY(W:World)(lb m:Nat)(a b c d:Nat->Int):Prop:=lb<W.heap.size/\∀j,j<m->W.cell? (az lb (j*4))=some (Iq (a j))/\W.cell? (az lb (j*4+1))=some (Iq (b j))/\W.cell? (az lb (j*4+2))=some (Iq (c j))/\W.cell? (az lb (j*4+3))=some (Iq (d j))
theorem Z9{W}{lb}{T}{m}{a b c d}(h:W.rowIs lb T (m*4) (Jq a b c d m)):rY W lb m a b c d:=by
 refine⟨h.lt,fun j hj=>⟨?_,?_,?_,?_⟩⟩;·rw[h.cell (by omega)];grind[Jq]
 ·rw[h.cell (by omega)];grind[Jq]
 ·rw[h.cell (by omega)];grind[Jq]
 ·rw[h.cell (by omega)];grind[Jq]
def zbn(U W:World)(lb m:Nat)(a b c d:Nat->Int):Prop:=rY W lb m a b c d/\U.heap.size<=lb/\Bt U W
theorem VF  L   ks   N   aY cj  :∃G:Nat->Int,∀g,ci L ks N aY cj g->∀j,j<ks.length->g j=G j:=by
 by_cases e:∃g,ci L ks N aY cj g;·obtain⟨g,hg⟩:=e;exact⟨g,fun g' Ad=>Ad.uniq hg⟩
 simp_all
theorem GZ{g h}{cg}:∀k,(∀j,j<k->g j=h j)->cR g cg k=cR h cg k:=fun k e=>by grind[cR,bG]
def lP(W:World)(B:Nat)(p:Option Addr)(m:Nat)(v:Nat->Int):Prop:=m=0\/∃b o,p=some (az b o)/\b<W.heap.size/\B<=b/\∀j,j<m->W.cell? (az b (o+j))=some (Iq (v j))
theorem lP.below{W W'}{B m}{p}{v}(h:lP W B p m v)(hb:Bt W W'):lP W' B p m v:=by
 rcases h with h|⟨b,o,e,h1,h2,h3⟩;·exact .inl h
 ·exact .inr ⟨b,o,e,zz008 h1 hb.size,h2,fun j hj=>(hb.cell (p:=(az b _)) h1).trans (h3 j hj)⟩
theorem lP.low{W}{B B' m}{p}{v}(h:lP W B p m v)(hB:B'<=B):lP W B' p m v:=by
 rcases h with h|⟨b,o,e,h1,h2,h3⟩;·exact .inl h
 ·exact .inr ⟨b,o,e,h1,by omega,h3⟩
theorem rU{f g}{n}(h:∀j,j<n->f j=g j):aG f (List.range n)=aG g (List.range n):=bG fun j hj=>h j (zm.1 hj)
theorem cO.congr{n}{mn mx wt}{r}{g g'}(h:cO n mn mx wt r g)(e:∀j,j<n->g j=g' j):cO n mn mx wt r g':=by
 rcases h with⟨h1,hb⟩|⟨h1,A,S,L,V,m,hp⟩;·refine .inl ⟨h1,fun j hj=>by rw[<-e j hj];exact hb.bd j hj,by rw[<-rU e];exact hb.sum,fun i k SE hk hlt=>?_⟩;rw[<-e k hk];exact hb.behind i k SE hk (by rw[e i (by omega)];exact hlt)
 ·exact .inr ⟨h1,A,S,L,V,m,hp.perm,hp.left,hp.pos,hp.weight,hp.full,hp.open_,hp.miss,hp.none_,hp.sorted,fun j hj=>by rw[<-e j hj];exact hp.is j hj⟩
theorem ci.congr{L}{ks}{N}{aY cj}{g g'}(h:ci L ks N aY cj g)(e:∀j,j<ks.length->g j=g' j):ci L ks N aY cj g':=cO.congr h e
theorem VG{u}{m lb}{L}{ks}{N}{aY cj}{G}(hmm:ks.length=m)(hm:m<=200)(h:fg u lb 0 m (fun j=>wV (ae L (aP ks j)) (N j)) (fun j=>aF (ae L (aP ks j)) 2) (fun j=>aF (ae L (aP ks j)) 3))(hG:∀g,ci L ks N aY cj g->∀j,j<ks.length->g j=G j):
 Cw 169 #[Iq aY,Iq cj,Sq lb m m] u fun e u'=>∃q cq,e=Rw (.slice q m cq)/\lP u' u.heap.size q m G/\Bt u u'/\(ks=[]\/ci L ks N aY cj G):=by
 subst hmm;refine(nY _ ks.length _ _ _ aY cj u ⟨_,_,rfl,.inr ⟨lb,0,rfl,h⟩⟩ (by omega)).mono ?_;rintro e u' ⟨v,rfl,hs⟩;have hb:=hs.below;rcases hs with⟨h0,rfl,hu⟩|⟨q1,q2,lb2,rfl,q3,⟨gg,q4,q5⟩,q6⟩
 ·have hk:ks=[]:=by
   rcases h0 with h0|h0;·grind
   ·omega
  exact⟨none,0,by rw[hk];rfl,.inl (by rw[hk];rfl),hb,.inl hk⟩
 ·refine⟨_,_,rfl,.inr ⟨lb2,0,rfl,q4.1,q3,fun j hj=>?_⟩,hb,.inr (ci.congr q5 fun j hj=>hG gg q5 j hj)⟩;rw[<-hG gg q5 j hj];exact(q4.2 j hj).1
theorem ZV{u}{m lb}{L}{ks}{N}{aY cj}{G}(hmm:ks.length=m)(hm:m<=200)(h:fg u lb 0 m (fun j=>wV (ae L (aP ks j)) (N j)) (fun j=>aF (ae L (aP ks j)) 2) (fun j=>aF (ae L (aP ks j)) 3))(hG:∀g,ci L ks N aY cj g->∀j,j<ks.length->g j=G j):
 Cw 170 #[Iq aY,Iq cj,Sq lb m m] u fun e u'=>∃q cq,e=Rw (.slice q m cq)/\lP u' u.heap.size q m (cR G (cl cj))/\Bt u u':=by
 subst hmm;refine(D5 _ ks.length _ _ _ aY cj u ⟨_,_,rfl,.inr ⟨lb,0,rfl,h⟩⟩ (by omega)).mono ?_;rintro e u' ⟨v,rfl,hs,zih⟩;have hb:=hs.below;rcases hs with⟨h0,rfl,hu⟩|⟨q1,q2,lb2,g,rfl,q4,q5,q6⟩
 ·have hk:ks=[]:=by
   rcases h0 with h0|h0;·grind
   ·omega
  exact⟨none,0,by grind,.inl (by omega),hb⟩
 ·refine⟨_,_,rfl,.inr ⟨lb2,0,rfl,q4.1,zih _ _ _ _ rfl,fun j hj=>?_⟩,hb⟩;rw[<-GZ j (fun i hi=>hG g q5 i (by omega))];exact(q4.2 j hj).1
def lr(P:Nat->Nat->Int)(i:Nat):Value:=Iq (P (i/10) (i %10))
def bE(P:Nat->Nat->Int)(c t:Nat)(x:Int):Nat->Nat->Int:=fun q u=>if q=c/\u=t then x else P q u
theorem eh{W:World}{b N}{T}{P}(h:W.rowIs b T N (lr P))  c t  (ht:t<10)  x  :(W.setCell (az b (c*10+t)) (Iq x)).rowIs b T N (lr (bE P c t x)):=by refine(h.set (c*10+t) (Iq x)).congr fun i hi=>?_;grind[lr,bE]
theorem bf{W:World}{b n}{T}{P}(h:W.rowIs b T (n*10) (lr P)){c t}(hc:c<n)(ht:t<10):W.cell? (az b (c*10+t))=some (Iq (P c t)):=by rw[h.cell (by omega)];grind[lr]
theorem mg.kept{W W'}{r n k}{H}{p}{bi off}(h:mg W p k bi off)(hm:bN W r H n)(hg:W.grownBy W' (some r)):mg W' p k bi off:=by
 rcases h with h|⟨b,o,e,h1,h2⟩;·exact .inl h
 ·by_cases hk:k=0;·exact .inl hk
  ·obtain⟨es,Cn,hmp⟩:=hm.map;have bZ:b≠r:=fun e2=>by subst e2;have:=(h2 0 (by omega)).1;simp[World.cell?,hmp]at this
   have hb:=hg.block b h1 (fun q=>bZ (by grind));exact .inr ⟨b,o,e,zz008 h1 hg.size,fun j hj=>⟨(bU (a:=(az b (o+j*2))) hb).trans (h2 j hj).1,(bU (a:=(az b (o+j*2+1))) hb).trans (h2 j hj).2⟩⟩
structure Pw(U0 W:World)(r pb N:Nat)(P:Nat->Nat->Int)(H:Nat->Int->Int)(n:Nat):Prop where
 g:U0.grownBy W (some r)
 m:bN W r H n
 row:W.rowIs pb 65 (N*10) (lr P)
theorem Pw.below{U0 W W'}{r pb N n}{P}{H}(h:Pw U0 W r pb N P H n)(hb:Bt W W'):Pw U0 W' r pb N P H n:=
 ⟨h.g.trans (ac hb),h.m.grown_below hb,rowIs_below h.row hb⟩
theorem Pw.grown{U0 W W'}{r pb N n n'}{P}{H}(h:Pw U0 W r pb N P H n)(hg:W.grownBy W' (some r))(hm:bN W' r H n')(bZ:pb≠r):Pw U0 W' r pb N P H n':=
 ⟨h.g.trans hg,hm,sQ h.row hg bZ⟩
theorem Pw.set{U0 W}{r pb N n}{P}{H}(h:Pw U0 W r pb N P H n)(lR:U0.heap.size<=pb)(bZ:pb≠r)  c t  (ht:t<10)  x  :Pw U0 (W.setCell (az pb (c*10+t)) (Iq x)) r pb N (bE P c t x) H n:=
 ⟨fH h.g (a:=(az pb _)) lR _,h.m.set (a:=(az pb _)) bZ _,eh h.row c t ht x⟩
theorem Pw.mono{U0 W}{r pb N n n'}{P}{H}(h:Pw U0 W r pb N P H n)(hn:n<=n'):Pw U0 W r pb N P H n':=⟨h.g,h.m.mono hn,h.row⟩
def ep(hh w:Int):Int:=max 0 (hh-w)
theorem Hr(mb r pb N k kid nn:Nat)(P:Nat->Nat->Int)(H:Nat->Int->Int)(a0 a1 a2 a3 a4 a5 a6 a7 a8 a9 b0 b1 up:Int)(tx:ByteArray)(p:Option Addr)(m c:Nat)(sp:Option Addr)(sn sc:Nat)(bi off:Nat->Int)(U0 U:World)
 (hP:Hid (Pw U0 U r pb N P H nn)) (lR:U0.heap.size<=pb) (MO:pb≠r) (hk:k<N) (hN:N<=1000) (hm:0<m) (MJ:Hid (∃b o,p=some (az b o)/\b<U0.heap.size/\b≠r/\U0.cell? (az b o)=some (Iq (kid:Int)))) (hH:0<=H kid (P k 2)/\H kid (P k 2)<=100000) (h3:0<=P k 3/\P k 3<=100000)
 (HC:Hid (∀u,Pw U0 u r pb N P H nn->Cw 105 #[Pq mb,Iq (kid:Int),Iq (P k 2)] u fun e u'=>e=Rw (Iq (H kid (P k 2)))/\Hid (u.grownBy u' (some r))/\Hid (bN u' r H (nn+100))))
 (OF:Hid (∀u P' n',Pw U0 u r pb N P' H n'->Cw 106 #[Iq a0,.slice sp sn sc] u fun e u'=>e=Rw (Iq (gN a0 bi off sn))/\Hid (Bt u u'))):
 Cw 59 #[Pq mb,.pointer (some (az pb (k*10))),gY 4 a0 a1 a2 a3 a4 a5 a6 a7 a8 a9 b0 b1 tx (.slice p m c) up,.slice sp sn sc] U fun e U'=>e=Rw (.tuple #[])/\Pw U0 U' r pb N (bE (bE P k 9 (ep (H kid (P k 2)) (P k 3))) k 8 (min (max 0 (gN a0 bi off sn)) (ep (H kid (P k 2)) (P k 3)))) H (nn+100)/\Hid (∀b,b<U.heap.size->b≠r->b≠pb->U'.heap[b]?=U.heap[b]?):=by
 obtain⟨kb,ko,rfl,dj,hkr,Gm⟩:=MJ.out;obtain⟨W1,cC⟩:=ag (U.alloc (.cells #[Iq 4,Iq a0,Iq a1,Iq a2,Iq a3,Iq a4,Iq a5,Iq a6,Iq a7,Iq a8,Iq a9,Iq b0,Iq b1,.string tx,.slice (some (az kb ko)) m c,Iq up] 63));obtain⟨A,hA⟩:=ag U.heap.size;have HB1:Hid (Bt U W1):=by rw[<-cC];exact((Gr.refl U).alloc _).below
 have b9:W1.heap[A]?=some (.cells #[Iq 4,Iq a0,Iq a1,Iq a2,Iq a3,Iq a4,Iq a5,Iq a6,Iq a7,Iq a8,Iq a9,Iq b0,Iq b1,.string tx,.slice (some (az kb ko)) m c,Iq up] 63 (0,0)):=by rw[<-cC,<-hA];exact heap_alloc_new _ _
 have xr:Hid (Pw U0 W1 r pb N P H nn):=hP.below HB1;have zfw:Hid (U.heap.size=A):=hA;have hAr:A≠r:=by have:=hP.m.lt;omega
 have hpA:pb<A:=by rw[<-hA];exact hP.row.lt
 obtain⟨w,hw⟩:=ag (P k 2);obtain⟨hh,SA⟩:=ag (P k 3);obtain⟨y,hy⟩:=ag (H kid w);rw[hw]at HC hH⊢;rw[SA]at h3⊢;rw[hy]at HC hH⊢;have HS:Hid (∀u,Pw U0 u r pb N P H nn\/Pw U0 u r pb N P H (nn+100)->W1.grownBy u (some r)->u.cell? (az A 14)=some (.slice (some (az kb ko)) m c)/\u.cell? (az kb ko)=some (Iq (kid:Int))/\u.cell? (az pb (k*10+2))=some (Iq w)/\u.cell? (az pb (k*10+3))=some (Iq hh)):=fun u hu hg=>by
  have hg0:U0.grownBy u (some r)/\u.rowIs pb 65 (N*10) (lr P):=by rcases hu with q|q<;>exact⟨q.g,q.row⟩
  have Gb:=(aM.1 b9).1;have hb:u.heap[A]?=W1.heap[A]?:=hg.block A Gb (fun e=>by grind);refine⟨by rw[Lib.cell_of_heap (hb.trans b9)];rfl,(bU (a:=(az kb ko)) (hg0.1.block kb dj (fun e=>hkr (by grind)))).trans Gm,?_,?_⟩;·rw[<-hw];exact bf hg0.2 hk (by omega)
  ·rw[<-SA];exact bf hg0.2 hk (by omega)
 have HAU:Hid (∀u,W1.grownBy u (some r)->u.heap[A]?=some (.cells #[Iq 4,Iq a0,Iq a1,Iq a2,Iq a3,Iq a4,Iq a5,Iq a6,Iq a7,Iq a8,Iq a9,Iq b0,Iq b1,.string tx,.slice (some (az kb ko)) m c,Iq up] 63 (0,0))):=fun u hg=>(hg.block A (aM.1 b9).1 (fun e=>by grind)).trans b9;have kx:Hid (∀u,(u=W1\/u=W1.drew)->Cw 105 #[Pq mb,Iq (kid:Int),Iq w] u fun e u'=>e=Rw (Iq y)/\Hid (W1.grownBy u' (some r))/\Hid (Pw U0 u' r pb N P H (nn+100))):=fun u hu=>by
  have _6:W1.grownBy u (some r):=by
   rcases hu with rfl|rfl;·exact ac (aj _ _)
   ·exact iC (ac (aj _ _))
  have vp:Pw U0 u r pb N P H nn:=by
   rcases hu with rfl|rfl;·exact xr
   ·exact xr.below (aj _ _).drew
  refine(HC u vp).mono ?_;rintro e u' ⟨rfl,q1,q2⟩;exact⟨rfl,_6.trans q1,vp.grown q1 q2 MO⟩
 obtain⟨s1,s2,s3,s4⟩:=HS W1 (.inl xr) (ac (aj _ _));obtain⟨rm,Gu⟩:=ag (ep y hh);have hrv:max 0 (y-hh)=rm:=Gu;rw[Gu];have n1:¬A=pb:=by omega
 have n3:¬kb=pb:=by omega
 have n4:¬pb=kb:=by omega
 have oN:Hid (∀u n' P',Pw U0 u r pb N P' H n'->(∃v,u.cell? (az pb (k*10+9))=some v)/\u.frozen? (az pb (k*10+9))=false/\pb<u.heap.size/\(∃v,u.cell? (az pb (k*10+8))=some v)/\u.frozen? (az pb (k*10+8))=false):=fun u n' P' hu=>⟨⟨_,bf hu.row hk (by omega)⟩,hu.row.frozen _,hu.row.lt,⟨_,bf hu.row hk (by omega)⟩,hu.row.frozen _⟩;obtain⟨⟨v9,r9⟩,f9,l9,_⟩:=oN W1 nn P xr;have HSS:Hid (∀u,Pw U0 u r pb N P H (nn+100)->W1.grownBy u (some r)->(u.setCell (az pb (k*10+9)) (Iq rm)).cell? (az A 14)=some (.slice (some (az kb ko)) m c)/\(u.setCell (az pb (k*10+9)) (Iq rm)).cell? (az kb ko)=some (Iq (kid:Int))/\(u.setCell (az pb (k*10+9)) (Iq rm)).cell? (az pb (k*10+2))=some (Iq w)/\(u.setCell (az pb (k*10+9)) (Iq rm)).cell? (az pb (k*10+3))=some (Iq hh)):=fun u hu hg=>by
  obtain⟨q1,q2,q3,q4⟩:=HS u (.inr hu) hg;refine⟨?_,?_,?_,?_⟩;·rw[eu _ _ _ _ (fun e=>by grind)];exact q1
  ·rw[eu _ _ _ _ (fun e=>by grind)];exact q2
  ·rw[eu _ _ _ _ (fun e=>by grind)];exact q3
  ·rw[eu _ _ _ _ (fun e=>by grind)];exact q4
 clear b9 hP MJ hy hw SA Gu;unfold gY;go_enter func59,ntmps59;go_wp2_with fail;clear cC hA;have hwr:IntKind.i64.wrap (y-hh)=y-hh:=IntWalk.i64_in _ (by omega);go_cut[7]from 8 to 28 (fun _ wx=>Hid (Pw U0 wx r pb N (bE P k 9 rm) H (nn+100))/\Hid (∀b,b<U.heap.size->b≠r->b≠pb->wx.heap[b]?=U.heap[b]?)/\Hid (wx.heap[A]?=some (.cells #[Iq 4,Iq a0,Iq a1,Iq a2,Iq a3,Iq a4,Iq a5,Iq a6,Iq a7,Iq a8,Iq a9,Iq b0,Iq b1,.string tx,.slice (some (az kb ko)) m c,Iq up] 63 (0,0))));case first=>
  go_region_held(fun W=>W.cell? (az A 14)=some (.slice (some (az kb ko)) m c)/\W.cell? (az kb ko)=some (Iq (kid:Int))/\W.cell? (az pb (k*10+2))=some (Iq w)/\W.cell? (az pb (k*10+3))=some (Iq hh)) (go_keep) (first|(go_at_call 105;refine ao (kx _ (by grind)) ?_;rintro e u1 ⟨rfl,xq,Tj⟩;obtain⟨t1,t2,t3,t4⟩:=HS u1 (.inr Tj) xq;obtain⟨⟨v9u,r9u⟩,f9u,l9u,_⟩:=oN u1 _ _ Tj;obtain⟨o1,o2,o3,o4⟩:=HSS u1 Tj xq));all_goals go_wp2_with fail
  all_goals go_meet
  all_goals(refine⟨?_,?_,?_⟩)
  all_goals first
   |exact Tj.set lR MO k 9 (by omega) rm
   |exact fun b h1 h2 h3=>(cF u1 (az pb (k*10+9)) _ b h3).trans ((xq.block b (zz008 h1 HB1.size) (fun e=>h2 (by grind))).trans (HB1.block b h1))
   |exact(cF u1 (az pb (k*10+9)) _ A n1).trans (HAU u1 xq)
 case rest=>
  obtain⟨HPc,HFc,HAc⟩:=hcut;have a1c:wc.cell? (az A 1)=some (Iq a0):=by rw[Lib.cell_of_heap HAc.out];rfl
  have c9:wc.cell? (az pb (k*10+9))=some (Iq rm):=by rw[bf HPc.row hk (by omega)];unfold bE;rw[if_pos ⟨rfl,rfl⟩]
  obtain⟨ov,UA⟩:=ag (gN a0 bi off sn);rw[UA]at OF;have OF1:Hid (∀u,(u=wc\/u=wc.drew)->Cw 106 #[Iq a0,.slice sp sn sc] u fun e u'=>e=Rw (Iq ov)/\Hid (Bt wc u')/\u'.cell? (az A 1)=some (Iq a0)/\u'.cell? (az pb (k*10+9))=some (Iq rm)):=fun u hu=>by
   have iD:Bt wc u:=by
    rcases hu with rfl|rfl;·exact aj _ _
    ·exact(aj _ _).drew
   refine(OF u _ _ (HPc.below iD)).mono ?_;rintro e u' ⟨rfl,q⟩;have qS:=iD.trans (q.mono iD.size);exact⟨rfl,qS,(qS.cell (p:=(az A 1)) (aM.1 HAc).1).trans a1c,(qS.cell (p:=(az pb _)) HPc.row.lt).trans c9⟩
  have HOV:Hid (gN a0 bi off sn=ov):=UA;have iB:Hid (∀u x,Bt wc u->x=min (max 0 ov) rm->Pw U0 (u.setCell (az pb (k*10+8)) (Iq x)) r pb N (bE (bE P k 9 rm) k 8 (min (max 0 (gN a0 bi off sn)) rm)) H (nn+100)):=fun u x hu hx=>by rw[HOV.out,<-hx];exact(HPc.below hu).set lR MO k 8 (by omega) x
  have HUW:Hid (U.heap.size<=wc.heap.size):=by have:=(aM.1 HAc).1;show _<=_;have:=zfw.out;omega
  have HFF:Hid (∀(u:World) (x:Value),Bt wc u->∀b,b<U.heap.size->b≠r->b≠pb->(u.setCell (az pb (k*10+8)) x).heap[b]?=U.heap[b]?):=fun u x hu b h1 h2 h3=>(cF u (az pb (k*10+8)) _ b h3).trans ((hu.block b (zz008 h1 HUW)).trans (HFc b h1 h2 h3));have HR8:Hid (∀u,Bt wc u->(∃v,u.cell? (az pb (k*10+8))=some v)/\u.frozen? (az pb (k*10+8))=false/\pb<u.heap.size):=fun u hu=>by obtain⟨_,_,q3,q4,q5⟩:=oN u _ _ (HPc.below hu);exact⟨q4,q5,q3⟩
  have Tm:Hid (∀(u:World) (x:Int),u.cell? (az A 1)=some (Iq a0)->u.cell? (az pb (k*10+9))=some (Iq rm)->(u.setCell (az pb (k*10+8)) (Iq x)).cell? (az A 1)=some (Iq a0)/\(u.setCell (az pb (k*10+8)) (Iq x)).cell? (az pb (k*10+9))=some (Iq rm)):=fun u x q1 q2=>by
   refine⟨?_,?_⟩;·rw[eu _ _ _ _ (fun e=>by injection e with e _ _;omega)];exact q1
   ·rw[eu _ _ _ _ (fun e=>by injection e with _ e _;omega)];exact q2
  clear UA s1 s2 s3 s4 r9 f9 kx HS HSS oN hrv hwr;go_wp2_with fail;go_region_held(fun W=>W.cell? (az A 1)=some (Iq a0)/\W.cell? (az pb (k*10+9))=some (Iq rm)) (go_keep) (first|(go_at_call 106;refine ao (OF1 _ (by grind)) ?_;rintro e u1 ⟨rfl,zv,t1,t2⟩;obtain⟨⟨v8u,r8u⟩,f8u,l8u⟩:=HR8 u1 zv;obtain⟨o1,o2⟩:=Tm u1 (min (max 0 ov) rm) t1 t2));all_goals go_wp2;go_end0;exact⟨rfl,iB _ _ zv (by omega),HFF u1 _ zv⟩
theorem Zv:(prog.info? 58).map (fun i=>(i.zero,i.size,i.bytes))=some (some (.agg #[Iq 0,Iq 0,Iq 0,Iq 0]),4,32):=by kernel_rfl
theorem Zu(f r m:Nat)(x y a b s cj:Int)(X Y P Q G:Nat->Int)(L:List Nd)(ks:List Nat)(N:Nat->Int)(H:Nat->Int->Int)(n:Nat)(v:Value)(U0 U:World)(hG:∀g,ci L ks N s cj g->∀j,j<ks.length->g j=G j)
 (hf:Hid (f=107/\s=a/\(∀k,X k=x+cR G (cl cj) k/\Y k=y/\P k=G k/\Q k=b)\/f=109/\s=b/\∀k,X k=x/\Y k=y+cR G (cl cj) k/\P k=a/\Q k=G k))
 (hmm:ks.length=m) (hm:m<=200) (hr:r<U0.heap.size) (hx:-1000000000000<=x/\x<=1000000000000) (hy:-1000000000000<=y/\y<=1000000000000) (ha:0<=a/\a<=100000) (hb:0<=b/\b<=100000) (hv:Hid (jv U0 U r m L ks N H n v)):
 Cw f #[rv x y a b,Iq cj,v] U fun e U'=>∃lb,e=Rw (Sq lb m m)/\zbn U U' lb m X Y P Q/\(ks=[]\/ci L ks N s cj G)/\∀j,j<m->0<=G j/\G j<=100000:=by
 have kD:prog.follows .mixedOrders=true:=by kernel_rfl
 obtain⟨i0,hi,eG,fs,gd⟩:=info_parts Zv;have iU:∀W:World,(Instr.makeSlice 127 (Iq (m:Int)) (Iq (m:Int))).run prog W=.ok (Sq W.heap.size m m) (W.alloc (.cells (madeCells #[Iq 0,Iq 0,Iq 0,Iq 0] (m*4)) 58)):=fun W=>by have:=run_make (P:=prog) W 127 58 i0 _ underlying127 hi eG .i64 .i64 m m (by omega) (li _) (by grind) (by omega);rw[fs,lY]at this;exact this
 clear hi eG fs gd;obtain⟨A,hA⟩:=ag U.heap.size;obtain⟨lb,vv⟩:=hv.out;obtain⟨rfl,w1,w2,w3,w4⟩:=vv;have HVO:=qH<|w1;have tG:=zz008 hr w3.size;obtain⟨W1,cC⟩:=ag ((U.alloc (.cells #[Iq x,Iq y,Iq a,Iq b] 58)).alloc (.cells (madeCells #[Iq 0,Iq 0,Iq 0,Iq 0] (m*4)) 58));have HB1:Hid (Bt U W1):=by rw[<-cC];exact(((Gr.refl U).alloc _).alloc _).below
 have b9:W1.heap[A]?=some (.cells #[Iq x,Iq y,Iq a,Iq b] 58 (0,0)):=by rw[<-cC,<-hA,du _ _ _ (by simp_all)];exact heap_alloc_new _ _
 have hrow:W1.rowIs (A+1) 58 (m*4) (Jq X Y P Q 0):=by rw[<-cC];have:=Vt (U.alloc (.cells #[Iq x,Iq y,Iq a,Iq b] 58)) m X Y P Q 58;rw[aI,hA]at this;exact this
 have HS:Hid (∀u,Bt W1 u->u.cell? (az A 0)=some (Iq x)/\u.cell? (az A 1)=some (Iq y)/\u.cell? (az A 2)=some (Iq a)/\u.cell? (az A 3)=some (Iq b)):=fun u hu=>by have hb2:=(hu.block A (aM.1 b9).1).trans b9;refine⟨?_,?_,?_,?_⟩<;>(rw[Lib.cell_of_heap hb2];rfl)
 have SP:Hid (∀u q0,q0=s->Bt W1 u->Cw 169 #[Iq q0,Iq cj,Sq lb m m] u fun e u'=>∃q cq,e=Rw (.slice q m cq)/\Hid (lP u' W1.heap.size q m G)/\Hid (Bt W1 u')/\Hid (Bt u u')/\Hid (ks=[]\/ci L ks N s cj G)):=fun u q0 hq hu=>by have hub:Bt U u:=HB1.trans (hu.mono HB1.size);rw[hq];refine(VG hmm hm (HVO.below hub) hG).mono ?_;rintro e u' ⟨q,cq,rfl,q1,q2,q3⟩;exact⟨q,cq,rfl,q1.low hu.size,hu.trans (q2.mono hu.size),q2,q3⟩
 have OF:Hid (∀u q0,q0=s->Bt W1 u->Cw 170 #[Iq q0,Iq cj,Sq lb m m] u fun e u'=>∃q cq,e=Rw (.slice q m cq)/\Hid (lP u' W1.heap.size q m (cR G (cl cj)))/\Hid (Bt W1 u')/\Hid (Bt u u')):=fun u q0 hq hu=>by have hub:Bt U u:=HB1.trans (hu.mono HB1.size);rw[hq];refine(ZV hmm hm (HVO.below hub) hG).mono ?_;rintro e u' ⟨q,cq,rfl,q1,q2⟩;exact⟨q,cq,rfl,q1.low hu.size,hu.trans (q2.mono hu.size),q2⟩
 have HROW:=qH<|hrow;have M8:=qH<|HROW.lt;have HAL:=qH<|(aM.1 b9).1;have _D:=qH<|hA;obtain⟨z0,z1,z2,z3⟩:=HS W1 (aj _ _);clear b9 hrow w1 w2 w3 w4 hv;unfold rv;rcases hf.out with⟨rfl,hs,HX⟩|⟨rfl,hs,HX⟩;all_goals
  have HXX:=qH HX;have HQ:=qH hs.symm;clear hs HX hf;first
   |go_enter func107,ntmps107
   |go_enter func109,ntmps109
  go_wp2_with fail;clear cC hA iU;go_cut[8,9]from 14 to 23 (fun s1 s2 wx=>∃q1 c1 q2 c2,s1=.slice q1 m c1/\s2=.slice q2 m c2/\Hid (lP wx W1.heap.size q1 m G)/\Hid (lP wx W1.heap.size q2 m (cR G (cl cj)))/\Hid (Bt W1 wx)/\Hid (ks=[]\/ci L ks N s cj G));case first=>
   go_region_held(fun W=>W.cell? (az A 2)=some (Iq a)/\W.cell? (az A 3)=some (Iq b)) (go_keep) (first
    |(go_at_call 169;refine ao (SP _ _ HQ (by first|exact aj _ _|exact(aj _ _).drew|exact V8)) ?_;rintro e us ⟨qs,cqs,rfl,HIs,HBs,HXs,HKs⟩;obtain⟨s0,s1,s2,s3⟩:=HS us HBs)
    |(go_at_call 169;refine ao (SP _ _ HQ V8) ?_;rintro e us ⟨qs,cqs,rfl,HIs,HBs,HXs,HKs⟩;obtain⟨s0,s1,s2,s3⟩:=HS us HBs)
    |(go_at_call 170;refine ao (OF _ _ HQ (by first|exact HBs|exact aj _ _|exact(aj _ _).drew)) ?_;rintro e uo ⟨qo,cqo,rfl,HIo,V8,HXo⟩;obtain⟨o0,o1,o2,o3⟩:=HS uo V8));all_goals go_wp2_with fail
   all_goals go_meet
   all_goals first
    |exact⟨qs,cqs,qo,cqo,rfl,rfl,HIs.below HXo,HIo,V8,HKs⟩
    |exact⟨qs,cqs,qo,cqo,rfl,rfl,HIs,HIo.below HXs,HBs,HKs⟩
  case rest=>
   obtain⟨q1,c1,q2,c2,rfl,rfl,HI1,HI2,HBc,HKc⟩:=hcut;have BS:Hid (∀j,j<m->0<=G j/\G j<=100000):=fun j hj=>by
    rcases HKc.out with e|hg;·grind
    ·have t1:=(cO.tiles hg (ic _ _ _)).1 j (by omega);have t2:=ic (fun j=>wV (ae L (aP ks j)) (N j)) (fun j=>aF (ae L (aP ks j)) 2) (fun j=>aF (ae L (aP ks j)) 3) j;omega
   have S_:Hid (∀j,j<m->0<=cR G (cl cj) j/\cR G (cl cj) j<=40000000):=fun j hj=>by have:=nP BS (dU cj) j (by omega);omega
   have HRC:=qH<|rowIs_below HROW HBc;have My:=qH<|HS wc HBc;clear SP OF z0 z1 z2 z3 HS HROW;go_wp2_with fail;go_loopw[26] (fun kv wr=>∃k:Nat,k<=m/\kv=Iq (k:Int)/\Hid (wr.rowIs (A+1) 58 (m*4) (Jq X Y P Q k))/\Hid (Bt U wr)/\Hid (∀bq,bq≠A+1->bq<wc.heap.size->wr.heap[bq]?=wc.heap[bq]?)/\Hid (wc.heap.size<=wr.heap.size)) (fun kv _=>m-(intOf kv).toNat);case atStart=>exact⟨0,aZ _,rfl,HRC,HB1.trans (HBc.mono HB1.size),fun _ _ _=>rfl,ai _⟩
   case round=>
    obtain⟨k,hk,rfl,HR,M_,HO,HZ⟩:=hrel;by_cases hlt:k<m
    ·have aN:(k:Int)<(m:Int):=by omega
     obtain⟨b1,o1,rfl,l1,n1,d1⟩:=HI1.resolve_left (by omega);obtain⟨b2,o2,rfl,l2,n2,d2⟩:=HI2.resolve_left (by omega);have Gb:=HAL.out;have hA1:A+1<W1.heap.size\/W1.heap.size<=A+1:=by omega
     have IM:=M8.out;have c0:=(bU (HO A (by omega) (by omega))).trans My.1;have c1:=(bU (HO A (by omega) (by omega))).trans My.2.1;have c2:=(bU (HO A (by omega) (by omega))).trans My.2.2.1;have c3:=(bU (HO A (by omega) (by omega))).trans My.2.2.2;have e1:=(bU (HO b1 (by omega) l1)).trans (d1 k hlt);have e2:=(bU (HO b2 (by omega) l2)).trans (d2 k hlt);have Gk:=BS k hlt;have MM:=S_ k hlt;have Sy:=fun j=>HR.frozen j;have hv0:∃v,wr.cell? (az (A+1) (k*4))=some v:=⟨_,HR.cell (by omega)⟩;have oB:∃v,wr.cell? (az (A+1) (k*4+1))=some v:=⟨_,HR.cell (by omega)⟩;have sB:∃v,wr.cell? (az (A+1) (k*4+2))=some v:=⟨_,HR.cell (by omega)⟩;have hv3:∃v,wr.cell? (az (A+1) (k*4+3))=some v:=⟨_,HR.cell (by omega)⟩;obtain⟨v0,hv0⟩:=hv0;obtain⟨v1,oB⟩:=oB;obtain⟨v2,sB⟩:=sB;obtain⟨v3,hv3⟩:=hv3;obtain⟨gk,Ae⟩:=ag (G k);obtain⟨ok,Zg⟩:=ag (cR G (cl cj) k);have HV:=qH<|HXX k;rw[Ae,Zg]at HV;have HNX:Hid (∀p0 p1 p2 p3:Int,X k=p0/\Y k=p1/\P k=p2/\Q k=p3->Hid (((((wr.setCell (az (A+1) (k*4)) (Iq p0)).setCell (az (A+1) (k*4+1)) (Iq p1)).setCell (az (A+1) (k*4+2)) (Iq p2)).setCell (az (A+1) (k*4+3)) (Iq p3)).rowIs (A+1) 58 (m*4) (Jq X Y P Q (k+1)))):=fun p0 p1 p2 p3 h=>Vs HR p0 p1 p2 p3 h.1.symm h.2.1.symm h.2.2.1.symm h.2.2.2.symm;have HNB:Hid (∀p0 p1 p2 p3:Value,Bt U ((((wr.setCell (az (A+1) (k*4)) p0).setCell (az (A+1) (k*4+1)) p1).setCell (az (A+1) (k*4+2)) p2).setCell (az (A+1) (k*4+3)) p3)):=fun p0 p1 p2 p3=>(((M_.setCell (p:=(az (A+1) _)) (by rw[_D.out];show A<=A+1;omega) _).setCell (p:=(az (A+1) _)) (by rw[_D.out];show A<=A+1;omega) _).setCell (p:=(az (A+1) _)) (by rw[_D.out];show A<=A+1;omega) _).setCell (p:=(az (A+1) _)) (by rw[_D.out];show A<=A+1;omega) _;have HNO:Hid (∀p0 p1 p2 p3:Value,∀bq,bq≠A+1->bq<wc.heap.size->((((wr.setCell (az (A+1) (k*4)) p0).setCell (az (A+1) (k*4+1)) p1).setCell (az (A+1) (k*4+2)) p2).setCell (az (A+1) (k*4+3)) p3).heap[bq]?=wc.heap[bq]?):=fun p0 p1 p2 p3 bq h1 h2=>by rw[cF _ (az (A+1) (k*4+3)) _ _ h1,cF _ (az (A+1) (k*4+2)) _ _ h1,cF _ (az (A+1) (k*4+1)) _ _ h1,cF _ (az (A+1) (k*4)) _ _ h1];exact HO bq h1 h2
     rw[Ae]at Gk e1;rw[Zg]at MM e2;have eQ:IntKind.i64.wrap (x+ok)=x+ok:=IntWalk.i64_in _ (by omega);have vt:IntKind.i64.wrap (y+ok)=y+ok:=IntWalk.i64_in _ (by omega);have tC:=HR.lt;have zcS:¬A=A+1:=by omega
     have zix:¬A+1=A:=by omega
     have Pe:¬b1=A+1:=by omega
     have ziy:¬A+1=b1:=by omega
     have zp2:¬b2=A+1:=by omega
     have zp3:¬A+1=b2:=by omega
     clear Ae Zg Gb hA1 IM d1 d2 HR M_ HO l1 l2 n1 n2 BS S_;go_wp2_with fail;go_region_held(fun W=>W.cell? (az A 0)=some (Iq x)/\W.cell? (az A 1)=some (Iq y)/\W.cell? (az A 2)=some (Iq a)/\W.cell? (az A 3)=some (Iq b)/\W.cell? (az b1 (o1+k))=some (Iq gk)/\W.cell? (az b2 (o2+k))=some (Iq ok)) (go_keep) (fail);all_goals
      go_wp2;go_roundw;case rel=>exact⟨k+1,hlt,by go_num,HNX _ _ _ _ HV,by first|exact(HNB _ _ _ _).drew|exact HNB _ _ _ _,HNO _ _ _ _,by show _<=_;simpa using HZ.out⟩
      case measure=>simp[intOf];omega
    ·have aN:¬(k:Int)<(m:Int):=by omega
     obtain rfl:k=m:=by omega
     go_wp2;go_ret;exact⟨A+1,rfl,⟨Z9 HR,by rw[_D.out];omega,M_⟩,HKc,BS⟩
theorem sV{L:List Nd}(hup:∀i:Nat,i<L.length->(ae L i).up<i)(hLn:L.length<=100)(g cap:Nat):∀f k,k<f->k<L.length->∀U,ju U g L.length (ae L)->
 Cw 11 #[Sq g L.length cap,Iq (k:Int)] U fun e U'=>e=Rw (sv (gw L k).1 (gw L k).2.1 (gw L k).2.2)/\Hid (Bt U U')
 |0,k,h1,_,_,_=>by omega
 |f+1,k,h1,h2,U,hN=>by
  have kD:prog.follows .mixedOrders=true:=by kernel_rfl
  obtain⟨ab,kv,hn⟩:=hN.nd k h2;have hu:=hup k h2;obtain⟨kp,kc,pD,_⟩:=hn.kids;subst pD;have OV:Hid (∀f g b f2 g2 b2 u,Cw 24 #[.agg #[Iq f,Iq g,Iq b],.agg #[Iq f2,Iq g2,Iq b2]] u fun e w'=>e=Rw (.agg #[Iq (ov f f2),Iq (ov g g2),Iq (xn b b2)])/\Hid (Bt u w')):=fun f g b f2 g2 b2 u=>(LZ f g b f2 g2 b2 u).mono fun e w' q=>⟨q.1,q.2.below⟩;have Br:Hid (0<=(ae L k).up->∀u,Bt U u->Cw 11 #[Sq g L.length cap,Iq (ae L k).up] u fun e U'=>e=Rw (.agg #[Iq (gw L (ae L k).up.toNat).1,Iq (gw L (ae L k).up.toNat).2.1,Iq (gw L (ae L k).up.toNat).2.2])/\Hid (Bt u U')):=fun h0 u hu'=>by have:=sV hup hLn g cap f (ae L k).up.toNat (by omega) (by omega) u (hN.below hu');rw[Int.toNat_of_nonneg h0]at this;exact this
  have HST:=qH (QY hup h2);obtain⟨A,hA⟩:=ag U.heap.size;obtain⟨W0,cK⟩:=ag (U.alloc (.cells #[Iq 0,Iq 0,Iq 0] 39));have FC:W0.heap.size=A+1:=by rw[<-cK,aI,hA]
  have su:Bt U W0:=by rw[<-cK];exact((Gr.refl U).alloc _).below
  have c0:=aC su hn.c0;have c1:=aC su hn.c1;have c2:=aC su hn.c2;have c3:=aC su hn.c3;have c4:=aC su hn.c4;obtain⟨W1,cC⟩:=ag (W0.alloc (.cells #[Iq ((ae L k).kind:Int),Sq ab 12 12,.string ⟨(ae L k).text.toArray⟩,.slice kp (ae L k).kids.length kc,Iq (ae L k).up] 77));have b9:W1.heap[A+1]?=some (.cells #[Iq ((ae L k).kind:Int),Sq ab 12 12,.string ⟨(ae L k).text.toArray⟩,.slice kp (ae L k).kids.length kc,Iq (ae L k).up] 77 (0,0)):=by rw[<-cC,<-FC];exact heap_alloc_new _ _
  have KU:Gr U W1:=by rw[<-cC,<-cK];exact((Gr.refl U).alloc _).alloc _
  have WM:R3 39 W1 A 0 0 0:=by rw[<-cC,<-cK,<-hA];exact(R3.new U 0 0 0 _).gr ((Gr.refl _).alloc _)
  have HB1:=qH KU.below;have z1:W1.cell? (az (A+1) 1)=some (Sq ab 12 12):=by rw[Lib.cell_of_heap b9];rfl
  have z4:W1.cell? (az (A+1) 4)=some (Iq (ae L k).up):=by rw[Lib.cell_of_heap b9];rfl
  have y0:W1.cell? (az ab 9)=some (Iq (aF (ae L k) 9)):=aC HB1 (hn.att 9 (by omega));have y1:W1.cell? (az ab 10)=some (Iq (aF (ae L k) 10)):=aC HB1 (hn.att 10 (by omega));have y2:W1.cell? (az ab 11)=some (Iq (aF (ae L k) 11)):=aC HB1 (hn.att 11 (by omega));generalize aF (ae L k) 9=a9 at y0 HST;generalize aF (ae L k) 10=a10 at y1 HST;generalize aF (ae L k) 11=a11 at y2 HST;have HAR:=qH WM;have cZ:=qH b9;have Uv:(k:Int)<(L.length:Int):=by omega
  generalize(ae L k).up=up at*;generalize(ae L k).text=t at*;generalize(ae L k).kids.length=kl at*;generalize((ae L k).kind:Int)=kd at*;clear hn b9 WM hN su KU;go_enter func11,ntmps11;go_wp2_with fail;go_region_held(fun W=>W.cell? (az (A+1) 1)=some (Sq ab 12 12)/\W.cell? (az ab 9)=some (Iq a9)/\W.cell? (az ab 10)=some (Iq a10)/\W.cell? (az ab 11)=some (Iq a11)) (go_keep) (fail);obtain⟨B,hB⟩:=ag W1.heap.size;obtain⟨W2,pU⟩:=ag (W1.alloc (.cells #[Iq a9,Iq a10,Iq a11] 39)).drew;have T5:Bt W1 W2:=by rw[<-pU];exact(((Gr.refl W1).alloc _).below).drew
  have HB2:=qH<|HB1.trans (T5.mono HB1.size);have hr2:R3 39 W2 B a9 a10 a11:=by rw[<-pU,<-hB];exact R3.new W1 a9 a10 a11 _
  have S6:Hid (R3 39 W2 A 0 0 0):=(T5.block A HAR.out.lt).trans HAR.out;have x4:=aC T5 z4;have s0:=hr2.c0;have s1:=hr2.c1;have s2:=hr2.c2;have HR2:=qH hr2;rw[pU,hB];clear pU T5 hr2 z1 z4 y0 y1 y2 cC cK FC c0 c1 c2 c3 c4;have HFI:Hid (∀u v0 v1 v2,Bt W2 u->(((u.setCell (az A 0) v0).setCell (az A 1) v1).setCell (az A 2) v2).heap[A]?=some (.cells #[v0,v1,v2] 39 (0,0))/\Bt U (((u.setCell (az A 0) v0).setCell (az A 1) v1).setCell (az A 2) v2)):=fun u v0 v1 v2 hu=>by have hb:=HB2.trans (hu.mono HB2.size);exact⟨Js ((hu.block A S6.out.lt).trans S6.out),((hb.setCell (by grind) _).setCell (by grind) _).setCell (by grind) _⟩
  have lO:Hid (∀u,Bt W2 u->R3 39 u A 0 0 0/\R3 39 u B a9 a10 a11):=fun u hu=>⟨(hu.block A S6.out.lt).trans S6.out,(hu.block B HR2.out.lt).trans HR2.out⟩;by_cases h0:up<0;·have HS:=qH (HST.out 0 0 0 (.inr ⟨h0,rfl,rfl,rfl⟩));go_wp2_with(go_at_call 24;refine(OV _ _ _ _ _ _ _).mono ?_;rintro e u5 ⟨rfl,io⟩;obtain⟨Fz,_⟩:=lO u5 io;have k0:=Fz.c0;have k1:=Fz.c1;have k2:=Fz.c2;have kf:=Fz.fz);refine bodyPost_ret (results_cell_row rfl _ _ A _ _ _ _ rfl (HFI _ _ _ _ io).1 underlying39 rfl (by kernel_rfl)) rfl ?_;obtain⟨e1,e2,e3⟩:=HS.out;exact⟨by rw[e1,e2,e3];rfl,(HFI _ _ _ _ io).2⟩
  ·have YF:0<=up:=by omega
   have KI:=qH (Br.out YF);have HS:=qH (HST.out (gw L up.toNat).1 (gw L up.toNat).2.1 (gw L up.toNat).2.2 (.inl ⟨YF,rfl⟩));generalize(gw L up.toNat).1=b0 at*;generalize(gw L up.toNat).2.1=b1 at*;generalize(gw L up.toNat).2.2=b2 at*;clear Br HST;go_wp2_with(first|(go_at_call 11;refine(KI _ HB2).mono ?_;rintro e u5 ⟨rfl,io⟩;obtain⟨C,hC⟩:=ag u5.heap.size;obtain⟨W3,kT⟩:=ag (u5.alloc (.cells #[Iq b0,Iq b1,Iq b2] 39));have BJ:R3 39 W3 C b0 b1 b2:=(by grind[R3.new]);have HB3:Hid (Bt W2 W3):=(by rw[<-kT];exact io.trans ((((Gr.refl u5).alloc _).below).mono io.size));obtain⟨_,hr4⟩:=lO W3 HB3;have l0:=BJ.c0;have l1:=BJ.c1;have l2:=BJ.c2;have m0:=hr4.c0;have m1:=hr4.c1;have m2:=hr4.c2)|(go_at_call 24;refine(OV _ _ _ _ _ _ _).mono ?_;rintro e u6 ⟨rfl,kw⟩;have qY:=qH<|HB3.trans (kw.mono HB3.size);obtain⟨Fz,_⟩:=lO u6 qY;have k0:=Fz.c0;have k1:=Fz.c1;have k2:=Fz.c2;have kf:=Fz.fz));refine bodyPost_ret (results_cell_row rfl _ _ A _ _ _ _ rfl (HFI _ _ _ _ qY).1 underlying39 rfl (by kernel_rfl)) rfl ?_;obtain⟨e1,e2,e3⟩:=HS.out;exact⟨by rw[e1,e2,e3];rfl,(HFI _ _ _ _ qY).2⟩
def jh(a b:Nat->Int):Nat->List Value
 |0=>[]
 |k+1=>jh a b k++[Iq (a k),Iq (b k)]
theorem o9  a b  :∀k,(jh a b k).length=k*2
 |0=>rfl
 |k+1=>by rw[jh,bm,o9 a b k];grind
theorem yN  a b  :∀k j,j<k->(jh a b k)[j*2]?=some (Iq (a j))/\(jh a b k)[j*2+1]?=some (Iq (b j))
 |0,j,h=>by omega
 |k+1,j,h=>by
  have hl:=o9 a b k;by_cases e:j<k;·have:=yN a b k j e;grind[jh]
  grind[jh]
theorem cell_two_new(w:World)  x y   t  :∀j u,[x,y][j]?=some u->(w.alloc (.cells #[x,y] t)).cell? (((az w.heap.size 0):Addr).add j)=some u:=by
 intro j u h;have e:((az w.heap.size 0):Addr).add j=(az w.heap.size (0+j)):=by unfold Addr.add;split<;>simp_all
 simp_all
theorem Gz:(prog.info? 70).map (fun i=>(i.zero,i.size,i.bytes))=some (some (.agg #[Iq 0,Iq 0]),2,16):=by kernel_rfl
def zgO(w w':World)(n:Nat)(bi off:Nat->Int)(e:Ending):Prop:=∃p c,e=Rw (.slice p n c)/\mg w' p n bi off/\(∀a:Addr,p=some a->w.heap.size<=a.block/\a.block<w'.heap.size)/\Bt w w'
theorem Ex(p:Option Addr)(n cap:Nat)(bi off:Nat->Int)(w:World)(h:mg w p n bi off)(hn:n<=8796093022208):
 Cw 6 #[.slice p n cap] w fun e w'=>zgO w w' n bi off e:=by
 obtain⟨i0,hi,eG,fs,gd⟩:=info_parts Gz;have HW:Hid (mg w p n bi off):=h;clear h;go_enter func6,ntmps6;go_wp2;go_loopw[3,4] (fun v i wr=>∃k:Nat,i=Iq k/\k<=n/\wr.ownsRow w.heap.size 70 2 v k (jh bi off k)/\Bt w wr) (fun _ i _=>n-(intOf i).toNat);case atStart=>exact⟨0,rfl,aZ _,gF _ _ _ _,aj _ _⟩
 case round=>
  obtain⟨k,rfl,hk,bu,hbw⟩:=hrel;by_cases hlt:k<n
  ·have aN:(k:Int)<(n:Int):=by omega
   have eQ:=HW.below hbw;obtain⟨blk,o,rfl,hz,pB⟩:=eQ.resolve_left (by omega);obtain⟨c0,c1⟩:=pB k hlt;obtain⟨a1,ha1⟩:=ag (bi k);obtain⟨a2,ha2⟩:=ag (off k);rw[ha1]at c0;rw[ha2]at c1;have hzr:=hbw.size;have HS:Hid (jh bi off (k+1)=jh bi off k++[Iq a1,Iq a2]):=by show _=_;rw[jh,ha1,ha2]
   clear eQ ha1 ha2 pB;go_wp2_with fail;go_region_law(refine lV rfl (.tmp 11) (.tmp 23) 28 rfl w.heap.size 70 i0 (.agg #[Iq 0,Iq 0]) 2 16 underlying28 hi eG fs gd rfl (by decide) u3 k (jh bi off k) (by simp[Act.eval]) (td (w:=wr.drew) bu _) _ 1 1 [Iq a1,Iq a2] (by simp[Act.eval]) rfl (cell_two_new _ _ _ _) (by intro u hu;simp at hu;rcases hu with rfl|rfl<;>rfl) (by unfold maxLen;omega) (by omega) (by simp;omega) ?_;intro v' w1 bD hg);all_goals
    have hb1:=((hbw.trans (below_drewN (aj _ _) 1)).alloc (by simp;omega) _).grown hg (by simp;omega) (fun q hq=>(bu.lt q hq).1);clear hg bu hbw;go_wp2;go_roundw;case rel=>exact⟨k+1,by go_num,by omega,by rw[HS.out];omega,hb1⟩
    grind[intOf]
  ·have tD:¬(k:Int)<(n:Int):=by omega
   obtain rfl:n=k:=by omega
   have HV:Hid (∃p c,u3=.slice p n c/\mg wr p n bi off/\∀a:Addr,p=some a->w.heap.size<=a.block/\a.block<wr.heap.size):=by
    have h0:=bu;rcases bu.2 with⟨rfl,rfl⟩|⟨g,dD,ik,rfl,hb,hg,h1,h2,_⟩;·exact⟨none,0,rfl,.inl rfl,fun a e=>by cases e⟩
    ·have kV:=(aM.1 hg).1;refine⟨some (az g 0),dD,rfl,.inr ⟨g,0,rfl,kV,fun j hj=>?_⟩,fun a e=>by grind⟩;have:=yN bi off n j hj;have hl:=o9 bi off n;rw[h0.cellAt _ (by omega),h0.cellAt _ (by omega),bM];omega
   obtain⟨p',c',rfl,oB,sB⟩:=HV.out;have J1:Hid (mg wr p' n bi off/\∀a:Addr,p'=some a->w.heap.size<=a.block/\a.block<wr.heap.size):=⟨oB,sB⟩;clear bu HV oB sB;go_wp2;go_ret;exact⟨p',c',rfl,J1.1,J1.2,hbw⟩
