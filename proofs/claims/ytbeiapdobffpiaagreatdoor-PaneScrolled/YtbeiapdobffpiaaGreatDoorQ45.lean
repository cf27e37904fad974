import Derived.Test.YtbeiapdobffpiaaGreatDoorQ40
import Derived.Test.YtbeiapdobffpiaaGreatDoorQ20
import Derived.Test.YtbeiapdobffpiaaGreatDoorQ10
import Derived.Test.YtbeiapdobffpiaaGreatDoorQ36
import Derived.Test.YtbeiapdobffpiaaGreatDoorQ44
import Derived.Test.YtbeiapdobffpiaaGreatDoorQ14
set_option linter.all false
set_option maxRecDepth 100000
set_option maxHeartbeats 16000000
namespace Go.Proofs.YtbeiapdobffpiaaGreatDoor
open Go.RowKit Go.Sort Go.Proofs.Tryz
theorem Ah(mb r g al wb i X:Nat)(L:List Nd)(KV:Nat->Value)(Wd:Nat->Int)(U:World)(hV:rx U mb r g al wb L KV Wd)(hX:U.cell? (az X 0)=some (Pq mb))(hi:i<L.length):
 Cw 140 #[Iq (i:Int),Pq X] U fun e U'=>e=Rw (Iq (Wd i))/\U'=U:=by
 have oW:=hV.ms;have m1:U.cell? (az mb 1)=some (Sq wb L.length L.length):=by unfold Ms at oW;rw[Lib.cell_of_heap oW];rfl
 have c1:=hV.wd i hi;have hiI:(i:Int)<(L.length:Int):=by omega
 clear hV oW;go_enter func140,ntmps140;go_wp2;go_ret;simp_all
def iq(U W:World)(r m:Nat)(L:List Nd)(ks:List Nat)(N:Nat->Int)(H:Nat->Int->Int)(n:Nat)(v:Value):Prop:=∃lb,v=Sq lb m m/\QB U W r lb m (fun j=>ti (ae L (aP ks j)) (N j)) (fun j=>aC (ae L (aP ks j)) 2) (fun j=>aC (ae L (aP ks j)) 3) H n
theorem oa(mb r g al wb nn:Nat)(L:List Nd)(ks:List Nat)(KV:Nat->Value)(Wd:Nat->Int)(H:Nat->Int->Int)(kd a0 a1 a2 a3 a4 a5 a6 a7 a8 a9 b0 b1 up:Int)(tx:ByteArray)(p:Option Addr)(c:Nat)(U:World)
 (hV:Hid (rx U mb r g al wb L KV Wd)) (hM:Hid (bu U r H nn)) (hm:ks.length<=1000) (hks:Hid (∀j,j<ks.length->aP ks j<L.length)) (hL:L.length<=1000000) (hK:Hid (gm U r p ks.length (fun j=>(aP ks j:Int)))) (hN:Hid (∀i,i<L.length->0<=Wd i/\Wd i<=100000)):
 Cw 104 #[Pq mb,ik kd a0 a1 a2 a3 a4 a5 a6 a7 a8 a9 b0 b1 tx (.slice p ks.length c) up] U fun e U'=>∃v,e=Rw v/\iq U U' r ks.length L ks (fun j=>Wd (aP ks j)) H nn v:=by
 have hmf:∀(fn:Fn) (first al:Array Value) (w:World),(Instr.makeFunc fn first al).run prog w=.ok (.func fn first al) w:=fun _ _ _ _=>rfl;obtain⟨m,hmm⟩:=aj ks.length;obtain⟨W1,cE⟩:=aj ((U.alloc (.cells #[Pq mb] 109)).alloc (.cells #[Iq kd,Iq a0,Iq a1,Iq a2,Iq a3,Iq a4,Iq a5,Iq a6,Iq a7,Iq a8,Iq a9,Iq b0,Iq b1,.string tx,.slice p m c,Iq up] 100));obtain⟨A,hA⟩:=aj U.heap.size;have jo:Bt U W1:=by rw[<-cE];exact(((Gr.refl U).alloc _).alloc _).below
 have MQ:U.grownBy W1 (some r):=ac jo;have nx:=hM.lt;have On:W1.heap[A]?=some (.cells #[Pq mb] 109 (0,0)):=by rw[<-cE,<-hA,fC _ _ _ (by simp_all)];exact heap_alloc_new _ _
 have HWN:Hid (Cw 139 #[Pq mb,.slice p m c,.func (.func 140) #[] #[Pq A]] W1 fun e U'=>∃v,e=Rw v/\iq U U' r m L ks (fun j=>Wd (aP ks j)) H nn v):=by
  have QM:=hV.grown MQ;have hz:∀j,cS (fun _=>0) j=0:=fun j=>by induction j with
   |zero=>rfl
   |succ j ih=>grind[cS]
  refine(vn _ _ _ mb r g al wb nn m L KV Wd H (aP ks) (fun j=>Wd (aP ks j)) (fun _=>0) p c W1 (.inl ⟨rfl,A,rfl,rfl⟩) QM (hM.grown_below jo) (by omega) (by simp_all) hL (by rw[<-hmm];exact hK.grown MQ) (fun j hj=>hN _ (hks j (by omega))) (fun j u hj hu Gu=>?_)).mono ?_
  ·refine(Ah mb r g al wb (aP ks j) A L KV Wd u (QM.grown hu) ?_ (hks j (by omega))).mono ?_;·have Cl:=(aS.1 On).1;rw[Lib.cell_of_heap ((hu.block A Cl (fun e=>by grind)).trans On)];rfl
   ·rintro e u' ⟨rfl,rfl⟩;exact⟨rfl,ac (ag _ _),Gu.mono (by grind)⟩
  ·rintro e U' ⟨lb,rfl,h1,h2,h3,h4⟩;refine⟨_,rfl,lb,rfl,h1,aT jo.size h2,MQ.trans h3,h4.mono (by grind)⟩
 have h14:W1.cell? (az (A+1) 14)=some (.slice p m c):=by rw[<-cE,World.cell?_alloc_at _ _ _ _ (by simp_all)];rfl
 have h0:W1.cell? (az A 0)=some (Pq mb):=by rw[Lib.cell_of_heap On];rfl
 rw[hmm];unfold ik;clear jo MQ nx On hV hM hks hK hN;go_enter func104,ntmps104;go_wp2_with(go_at_call 139;refine HWN.mono ?_;rintro e U' ⟨v,rfl,ho⟩);go_ret;simp_all
theorem yv(mb r i X Y n k:Nat)(w:Int)(H:Nat->Int->Int)(U:World)(hX:U.cell? (az X 0)=some (Pq mb))(hY:U.cell? (az Y 0)=some (Iq w))
 (HC:Hid (Cw 101 #[Pq mb,Iq (i:Int),Iq w] U fun e u'=>e=Rw (Iq (H i w))/\Hid (U.grownBy u' (some r))/\Hid (bu u' r H k))):
 Cw 141 #[Iq (i:Int),Pq X,Pq Y] U fun e u'=>e=Rw (Iq (H i w))/\Hid (U.grownBy u' (some r))/\Hid (bu u' r H k):=by go_enter func141,ntmps141;go_wp2_with(go_at_call 101;refine HC.mono ?_;rintro e U' ⟨rfl,h1,h2⟩);go_ret;simp_all
theorem wy(mb r g al wb nn:Nat)(w:Int)(L:List Nd)(ks:List Nat)(kc:Nat->Nat)(KV:Nat->Value)(Wd:Nat->Int)(H:Nat->Int->Int)(kd a0 a1 a2 a3 a4 a5 a6 a7 a8 a9 b0 b1 up:Int)(tx:ByteArray)(p:Option Addr)(c:Nat)(U:World)
 (hV:Hid (rx U mb r g al wb L KV Wd)) (hM:Hid (bu U r H nn)) (hm:ks.length<=1000) (hks:Hid (∀j,j<ks.length->aP ks j<L.length)) (hL:L.length<=1000000) (hK:Hid (gm U r p ks.length (fun j=>(aP ks j:Int)))) (hN:Hid (∀i w,i<L.length->0<=H i w/\H i w<=100000))
 (HK:Hid (∀j u n',j<ks.length->U.grownBy u (some r)->bu u r H n'->n'<=nn+cS kc j->Cw 101 #[Pq mb,Iq (aP ks j:Int),Iq w] u fun e u'=>e=Rw (Iq (H (aP ks j) w))/\Hid (u.grownBy u' (some r))/\Hid (bu u' r H (nn+cS kc (j+1))))):
 Cw 106 #[Pq mb,ik kd a0 a1 a2 a3 a4 a5 a6 a7 a8 a9 b0 b1 tx (.slice p ks.length c) up,Iq w] U fun e U'=>∃v,e=Rw v/\iq U U' r ks.length L ks (fun j=>H (aP ks j) w) H (nn+cS kc ks.length) v:=by
 have hmf:∀(fn:Fn) (first al:Array Value) (w:World),(Instr.makeFunc fn first al).run prog w=.ok (.func fn first al) w:=fun _ _ _ _=>rfl;obtain⟨m,hmm⟩:=aj ks.length;obtain⟨W1,cE⟩:=aj (((U.alloc (.cells #[Pq mb] 109)).alloc (.cells #[Iq kd,Iq a0,Iq a1,Iq a2,Iq a3,Iq a4,Iq a5,Iq a6,Iq a7,Iq a8,Iq a9,Iq b0,Iq b1,.string tx,.slice p m c,Iq up] 100)).alloc (.cells #[Iq w] 3));obtain⟨A,hA⟩:=aj U.heap.size;have jo:Bt U W1:=by rw[<-cE];exact((((Gr.refl U).alloc _).alloc _).alloc _).below
 have MQ:U.grownBy W1 (some r):=ac jo;have nx:=hM.lt;have On:W1.heap[A]?=some (.cells #[Pq mb] 109 (0,0)):=by rw[<-cE,<-hA,fC _ _ _ (by rw[aO,aO];omega),fC _ _ _ (by simp_all)];exact heap_alloc_new _ _
 have hYc:W1.heap[A+1+1]?=some (.cells #[Iq w] 3 (0,0)):=by have:=heap_alloc_new ((U.alloc (.cells #[Pq mb] 109)).alloc (.cells #[Iq kd,Iq a0,Iq a1,Iq a2,Iq a3,Iq a4,Iq a5,Iq a6,Iq a7,Iq a8,Iq a9,Iq b0,Iq b1,.string tx,.slice p m c,Iq up] 100)) (.cells #[Iq w] 3);rw[aO,aO,hA,cE]at this;exact this
 have HWN:Hid (Cw 139 #[Pq mb,.slice p m c,.func (.func 141) #[] #[Pq A,Pq (A+1+1)]] W1 fun e U'=>∃v,e=Rw v/\iq U U' r m L ks (fun j=>H (aP ks j) w) H (nn+cS kc m) v):=by
  have QM:=hV.grown MQ;refine(vn _ _ _ mb r g al wb nn m L KV Wd H (aP ks) (fun j=>H (aP ks j) w) kc p c W1 (.inr ⟨rfl,A,A+1+1,rfl,rfl⟩) QM (hM.grown_below jo) (by omega) (by simp_all) hL (by rw[<-hmm];exact hK.grown MQ) (fun j hj=>hN _ _ (hks j (by omega))) (fun j u hj hu Gu=>?_)).mono ?_
  ·have Cl:=(aS.1 On).1;have hYl:=(aS.1 hYc).1;refine yv mb r (aP ks j) A (A+1+1) (nn+cS kc j) (nn+cS kc (j+1)) w H u ?_ ?_ (HK j u _ (by omega) (MQ.trans hu) Gu (ai _));·rw[Lib.cell_of_heap ((hu.block A Cl (fun e=>by grind)).trans On)];rfl
   ·rw[Lib.cell_of_heap ((hu.block (A+1+1) hYl (fun e=>by grind)).trans hYc)];rfl
  ·rintro e U' ⟨lb,rfl,h1,h2,h3,h4⟩;exact⟨_,rfl,lb,rfl,h1,aT jo.size h2,MQ.trans h3,h4⟩
 have h14:W1.cell? (az (A+1) 14)=some (.slice p m c):=by rw[<-cE,World.cell?_alloc_past _ _ _ (by simp_all),World.cell?_alloc_at _ _ _ _ (by simp_all)];rfl
 have h0:W1.cell? (az A 0)=some (Pq mb):=by rw[Lib.cell_of_heap On];rfl
 rw[hmm];unfold ik;clear jo MQ nx On hYc hV hM hks hK hN HK;go_enter func106,ntmps106;go_wp2_with(go_at_call 139;refine HWN.mono ?_;rintro e U' ⟨v,rfl,ho⟩);go_ret;simp_all
theorem Ay{U u}{r m n}{L}{ks}{N}{H}{v}{w bM}(hm:ks.length=m)(hm2:m<=200)(h:iq U u r m L ks N H n v)(hr:r<U.heap.size):
 Cw 137 #[Iq w,Iq bM,v] u fun e u'=>kq U u' r m H (fun V=>(ks=[]\/bL L ks N w bM V)/\∀j,j<m->0<=V j/\V j<=100000) n e:=by
 subst hm;obtain⟨lb,rfl,h1,h2,h3,h4⟩:=h;refine(lI _ ks.length _ _ _ w bM u ⟨_,_,rfl,.inr ⟨lb,0,rfl,h1⟩⟩ (by omega)).mono ?_;rintro e u' ⟨v,rfl,hs⟩;have hb:=hs.below;rcases hs with⟨h0,rfl,hu⟩|⟨q1,q2,Yh,rfl,q3,⟨gg,q4,q5⟩,q6⟩
 ·have hk:ks=[]:=by
   rcases h0 with h0|h0;·grind
   ·omega
  refine⟨none,0,fun _=>0,⟨.inl hk,fun j hj=>by omega⟩,by grind,.inl (by omega),h3.trans (ac hb),h4.grown_below hb⟩
 ·refine⟨_,_,gg,⟨.inr q5,fun j hj=>?_⟩,rfl,.inr ⟨Yh,0,rfl,q4.1,?_,fun j hj=>(q4.2 j hj).1⟩,h3.trans (ac hb),h4.grown_below hb⟩;·have t1:=(q5.tiles (fY _ _ _)).1 j hj;have t2:=fY (fun j=>ti (ae L (aP ks j)) (N j)) (fun j=>aC (ae L (aP ks j)) 2) (fun j=>aC (ae L (aP ks j)) 3) j;grind
  ·have:=h3.size;omega
def IR(L:List Nd)(ks:List Nat)(kd a4 a5 a6 w:Int)(Wd:Nat->Int)(V:Nat->Int):Prop:=(kd=0->ks=[]\/bL L ks (fun j=>Wd (aP ks j)) w a4 V)/\(kd≠0->∀j,j<ks.length->V j=max 0 (w-2*iy kd a5 a6))/\∀j,j<ks.length->0<=V j/\V j<=100000
theorem JR{W:World}{r b m:Nat}{x:Int}{Ls:List Value}(h:W.heap[b]?=some (.cells Ls.toArray 3 (0,0)))(hf:DX 1 Ls m m [Iq x])(hb:b≠r):gm W r (some (az b 0)) m (fun _=>x):=by refine .inr ⟨b,0,rfl,(aS.1 h).1,hb,fun j hj=>?_⟩;have:=hf.2 j 0 _ hj rfl;rw[Nat.mul_one,Fa]at this;rw[bC,Lib.cell_of_heap h];simpa using this
theorem iq.g{U W}{r m}{L}{ks}{N}{H}{n}{v}(h:iq U W r m L ks N H n v):U.grownBy W (some r):=by obtain⟨_,_,_,_,h,_⟩:=h;exact h
theorem kq.g{U W}{r m}{H}{FD}{n}{e}(h:kq U W r m H FD n e):U.grownBy W (some r):=by obtain⟨_,_,_,_,_,_,h,_⟩:=h;exact h
theorem kq.base{U U0 W}{r m}{H}{FD}{n}{e}(h:kq U W r m H FD n e)(h0:U0.grownBy U (some r)):kq U0 W r m H FD n e:=by obtain⟨q,cq,V,h1,h2,h3,h4,h5⟩:=h;exact⟨q,cq,V,h1,h2,h3,h0.trans h4,h5⟩
theorem tY(mb r g al wb nn:Nat)(w:Int)(L:List Nd)(ks:List Nat)(KV:Nat->Value)(Wd:Nat->Int)(H:Nat->Int->Int)(kd a0 a1 a2 a3 a4 a5 a6 a7 a8 a9 b0 b1 up:Int)(tx:ByteArray)(p:Option Addr)(c:Nat)(U:World)
 (hV:Hid (rx U mb r g al wb L KV Wd)) (hM:Hid (bu U r H nn)) (hm:ks.length<=200) (hks:Hid (∀j,j<ks.length->aP ks j<L.length)) (hL:L.length<=1000000) (hK:Hid (gm U r p ks.length (fun j=>(aP ks j:Int)))) (hN:Hid (∀i,i<L.length->0<=Wd i/\Wd i<=100000))
 (hw:0<=w/\w<=100000) (h5:0<=a5/\a5<=1000000) (h6:0<=a6/\a6<=1000000):
 Cw 173 #[Pq mb,ik kd a0 a1 a2 a3 a4 a5 a6 a7 a8 a9 b0 b1 tx (.slice p ks.length c) up,Iq w] U fun e U'=>kq U U' r ks.length H (IR L ks kd a4 a5 a6 w Wd) nn e:=by
 have oV:prog.follows .mixedOrders=true:=by kernel_rfl
 obtain⟨m,hmm⟩:=aj ks.length;obtain⟨W1,cE⟩:=aj (U.alloc (.cells #[Iq kd,Iq a0,Iq a1,Iq a2,Iq a3,Iq a4,Iq a5,Iq a6,Iq a7,Iq a8,Iq a9,Iq b0,Iq b1,.string tx,.slice p m c,Iq up] 100));obtain⟨A,hA⟩:=aj U.heap.size;have HB1:Hid (Bt U W1):=by rw[<-cE];exact((Gr.refl U).alloc _).below
 have HG1:Hid (U.grownBy W1 (some r)):=ac HB1;have bY:W1.heap[A]?=some (.cells #[Iq kd,Iq a0,Iq a1,Iq a2,Iq a3,Iq a4,Iq a5,Iq a6,Iq a7,Iq a8,Iq a9,Iq b0,Iq b1,.string tx,.slice p m c,Iq up] 100 (0,0)):=by rw[<-cE,<-hA];exact heap_alloc_new _ _
 have cH:Hid (∀(t:Nat) x,(#[Iq kd,Iq a0,Iq a1,Iq a2,Iq a3,Iq a4,Iq a5,Iq a6,Iq a7,Iq a8,Iq a9,Iq b0,Iq b1,.string tx,.slice p m c,Iq up]:Array Value)[t]?=some x->W1.cell? (az A t)=some x):=fun t x ht=>by rw[Lib.cell_of_heap bY];exact ht
 have nx:=hM.lt;have HS:Hid (∀u,W1.grownBy u (some r)->u.cell? (az A 0)=some (Iq kd)/\u.cell? (az A 1)=some (Iq a0)/\u.cell? (az A 2)=some (Iq a1)/\u.cell? (az A 3)=some (Iq a2)/\u.cell? (az A 4)=some (Iq a3)/\u.cell? (az A 5)=some (Iq a4)/\u.cell? (az A 6)=some (Iq a5)/\u.cell? (az A 7)=some (Iq a6)/\u.cell? (az A 8)=some (Iq a7)/\u.cell? (az A 9)=some (Iq a8)/\u.cell? (az A 10)=some (Iq a9)/\u.cell? (az A 11)=some (Iq b0)/\u.cell? (az A 12)=some (Iq b1)/\u.cell? (az A 13)=some (.string tx)/\u.cell? (az A 14)=some (.slice p m c)/\u.cell? (az A 15)=some (Iq up)):=fun u hu=>by have Cl:=(aS.1 bY).1;have hb:=hu.block A Cl (fun e=>by injection e with e;omega);refine⟨?_,?_,?_,?_,?_,?_,?_,?_,?_,?_,?_,?_,?_,?_,?_,?_⟩<;>(rw[Lib.cell_of_heap (hb.trans bY)];rfl)
 have z0:W1.cell? (az A 0)=some (Iq kd):=cH 0 _ rfl;have z1:W1.cell? (az A 1)=some (Iq a0):=cH 1 _ rfl;have z2:W1.cell? (az A 2)=some (Iq a1):=cH 2 _ rfl;have z3:W1.cell? (az A 3)=some (Iq a2):=cH 3 _ rfl;have z4:W1.cell? (az A 4)=some (Iq a3):=cH 4 _ rfl;have z5:W1.cell? (az A 5)=some (Iq a4):=cH 5 _ rfl;have z6:W1.cell? (az A 6)=some (Iq a5):=cH 6 _ rfl;have z7:W1.cell? (az A 7)=some (Iq a6):=cH 7 _ rfl;have z8:W1.cell? (az A 8)=some (Iq a7):=cH 8 _ rfl;have z9:W1.cell? (az A 9)=some (Iq a8):=cH 9 _ rfl;have P7:W1.cell? (az A 10)=some (Iq a9):=cH 10 _ rfl;have P8:W1.cell? (az A 11)=some (Iq b0):=cH 11 _ rfl;have P9:W1.cell? (az A 12)=some (Iq b1):=cH 12 _ rfl;have M_:W1.cell? (az A 13)=some (.string tx):=cH 13 _ rfl;have P_:W1.cell? (az A 14)=some (.slice p m c):=cH 14 _ rfl;have Qa:W1.cell? (az A 15)=some (Iq up):=cH 15 _ rfl;by_cases h0:kd=0
 ·subst h0;have RW:Hid (∀u,(u=W1\/u=W1.drew)->Cw 104 #[Pq mb,ik 0 a0 a1 a2 a3 a4 a5 a6 a7 a8 a9 b0 b1 tx (.slice p m c) up] u fun e u'=>∃v,e=Rw v/\Hid (iq W1 u' r m L ks (fun j=>Wd (aP ks j)) H nn v)):=fun u hu=>by
   have wN:W1.grownBy u (some r):=by
    rcases hu with rfl|rfl;·exact ac (ag _ _)
    ·exact gx (ac (ag _ _))
   have kI:bu u r H nn:=by
    rcases hu with rfl|rfl;·exact hM.grown_below HB1
    ·exact(hM.grown_below HB1).drew
   have UV:=HG1.trans wN;have:=oa mb r g al wb nn L ks KV Wd H 0 a0 a1 a2 a3 a4 a5 a6 a7 a8 a9 b0 b1 up tx p c u (hV.grown UV) kI (by omega) hks hL (hK.grown UV) hN;rw[hmm]at this;refine this.mono ?_;rintro e u' ⟨v,rfl,lb,rfl,q1,q2,q3,q4⟩;exact⟨_,rfl,lb,rfl,q1,aT wN.size q2,wN.trans q3,q4⟩
  have SP:Hid (∀v u,iq W1 u r m L ks (fun j=>Wd (aP ks j)) H nn v->Cw 137 #[Iq w,Iq a4,v] u fun e u'=>∃q cq,e=Rw (.slice q m cq)/\Hid (kq W1 u' r m H (IR L ks 0 a4 a5 a6 w Wd) nn (.returned (.slice q m cq)))):=fun v u h=>by refine(Ay hmm (by omega) h (bn nx HB1.size)).mono ?_;rintro e u' ⟨q,cq,V,⟨v1,v2⟩,rfl,q1,q2,q3⟩;exact⟨q,cq,rfl,q,cq,V,⟨fun _=>v1,fun e=>absurd rfl e,by rw[hmm];exact v2⟩,rfl,q1,q2,q3⟩
  rw[hmm];unfold ik at RW⊢;clear bY cH hV hM hks hK hN h5 h6 HB1 nx hmm;go_enter func173,ntmps173;go_wp2_with fail;clear cE hA;go_region_held(fun W=>W.cell? (az A 0)=some (Iq 0)/\W.cell? (az A 1)=some (Iq a0)/\W.cell? (az A 2)=some (Iq a1)/\W.cell? (az A 3)=some (Iq a2)/\W.cell? (az A 4)=some (Iq a3)/\W.cell? (az A 5)=some (Iq a4)/\W.cell? (az A 6)=some (Iq a5)/\W.cell? (az A 7)=some (Iq a6)/\W.cell? (az A 8)=some (Iq a7)/\W.cell? (az A 9)=some (Iq a8)/\W.cell? (az A 10)=some (Iq a9)/\W.cell? (az A 11)=some (Iq b0)/\W.cell? (az A 12)=some (Iq b1)/\W.cell? (az A 13)=some (.string tx)/\W.cell? (az A 14)=some (.slice p m c)/\W.cell? (az A 15)=some (Iq up)) (go_keep) (first|(go_at_call 104;refine am (RW _ (by first|exact .inl rfl|exact .inr rfl)) ?_;rintro e u1 ⟨v1,rfl,HO⟩;obtain⟨s0,s1,s2,s3,s4,s5,s6,s7,s8,s9,Ro,Rp,Rq,Rr,Rs,Rt⟩:=HS u1 HO.g)|(go_at_call 137;refine am (SP _ _ HO) ?_;rintro e u2 ⟨q,cq,rfl,HZ⟩;obtain⟨t0,t1,t2,t3,t4,t5,t6,t7,t8,t9,t10,t11,t12,t13,t14,t15⟩:=HS u2 HZ.g));all_goals go_wp2;go_ret;exact HZ.base HG1
 ·have e0:(kd==0)=false:=by simpa using h0
  have oS:=Ci (kd:=kd) h5 h6;obtain⟨f,hf⟩:=aj (iy kd a5 a6);have FA:Hid (∀u,(u=W1\/u=W1.drew)->Cw 100 #[ik kd a0 a1 a2 a3 a4 a5 a6 a7 a8 a9 b0 b1 tx (.slice p m c) up] u fun e u'=>e=Rw (Iq f)/\Hid (Bt W1 u')):=fun u hu=>by
   have iY:Bt W1 u:=by
    rcases hu with rfl|rfl;·exact ag _ _
    ·exact(ag _ _).drew
   rw[<-hf];refine(lq kd a0 a1 a2 a3 a4 a5 a6 a7 a8 a9 b0 b1 up tx p m c h5 h6 u).mono ?_;rintro e u' ⟨rfl,q⟩;exact⟨rfl,iY.trans (q.mono iY.size)⟩
  obtain⟨x,hx⟩:=aj (max 0 (w-2*f));have tS:0<=x/\x<=100000:=by rw[hf]at oS;omega
  have RP:Hid (∀u,Bt W1 u->Cw 206 #[Sq u.heap.size 1 1,Iq (m:Int)] (u.alloc (.cells #[Iq x] 3)) fun e u'=>∃q cq,e=Rw (.slice q m cq)/\Hid (kq W1 u' r m H (IR L ks kd a4 a5 a6 w Wd) nn (.returned (.slice q m cq)))):=fun u hu=>by
   have hb2:Bt W1 (u.alloc (.cells #[Iq x] 3)):=hu.alloc hu.size _;have fin:∀u' q cq,Bt W1 u'->gm u' r q m (fun _=>x)->kq W1 u' r m H (IR L ks kd a4 a5 a6 w Wd) nn (.returned (.slice q m cq)):=fun u' q cq hb hi=>
    ⟨q,cq,fun _=>x,⟨fun e=>absurd e h0,fun _ j hj=>by rw[hf];exact hx.symm,fun j hj=>tS⟩,rfl,hi,ac hb,(hM.grown_below HB1).grown_below hb⟩;by_cases hz:m=0;·rw[hz];refine(Ae (.inl ⟨rfl,rfl,rfl,rfl⟩) (u.alloc (.cells #[Iq x] 3)) u.heap.size).mono ?_;rintro e u' ⟨q,cq,rfl,hb⟩;have:=fin u' q cq (hb2.trans (hb.mono hb2.size)) (.inl hz);rw[hz]at this;exact⟨q,cq,rfl,this⟩
   ·refine(EZ (.inl ⟨rfl,rfl,rfl,rfl⟩) (u.alloc (.cells #[Iq x] 3)) [Iq x] rfl (fun v hv=>by rw[Ml.1 hv];rfl) u.heap.size m (by omega) (by simp) (fun k v hk=>?_)).mono ?_;·rw[World.cell?_alloc_at _ _ _ _ rfl];match k with
     |0=>exact hk
     |k+1=>cases hk
    ·rintro e u' ⟨rfl,⟨Ls,hl,hfl⟩,hb⟩;have qZ:=hb2.trans (hb.mono hb2.size);refine⟨_,_,rfl,fin u' _ _ qZ (JR hl hfl ?_)⟩;have:=hb2.size;have:=HB1.size;omega
  rw[hf]at oS;rw[hmm];unfold ik at FA⊢;have RE:=qH<|(aS.1 bY).1;clear bY cH hV hM hks hK hN h5 h6 HB1 nx hmm hf;go_enter func173,ntmps173;go_wp2_with fail;clear cE hA;have zcZ:IntKind.i64.wrap (2*f)=2*f:=IntWalk.i64_in _ (by omega);have zc0:IntKind.i64.wrap (w-2*f)=w-2*f:=IntWalk.i64_in _ (by omega);have mY:(if(0:Int)<w-2*f then w-2*f else 0)=x:=by rw[<-hx];split<;>omega
  go_region_held(fun W=>W.cell? (az A 0)=some (Iq kd)/\W.cell? (az A 1)=some (Iq a0)/\W.cell? (az A 2)=some (Iq a1)/\W.cell? (az A 3)=some (Iq a2)/\W.cell? (az A 4)=some (Iq a3)/\W.cell? (az A 5)=some (Iq a4)/\W.cell? (az A 6)=some (Iq a5)/\W.cell? (az A 7)=some (Iq a6)/\W.cell? (az A 8)=some (Iq a7)/\W.cell? (az A 9)=some (Iq a8)/\W.cell? (az A 10)=some (Iq a9)/\W.cell? (az A 11)=some (Iq b0)/\W.cell? (az A 12)=some (Iq b1)/\W.cell? (az A 13)=some (.string tx)/\W.cell? (az A 14)=some (.slice p m c)/\W.cell? (az A 15)=some (Iq up)) (go_keep) (first|(go_at_call 100;refine am (FA _ (by first|exact .inl rfl|exact .inr rfl)) ?_;rintro e u1 ⟨rfl,HO⟩;obtain⟨s0,s1,s2,s3,s4,s5,s6,s7,s8,s9,Ro,Rp,Rq,Rr,Rs,Rt⟩:=HS u1 (ac HO);have bG:¬A=u1.heap.size:=(by have:=HO.size;have:=RE.out;omega))|(go_at_call 206;refine am (RP _ HO) ?_;rintro e u2 ⟨q,cq,rfl,HZ⟩;obtain⟨t0,t1,t2,t3,t4,t5,t6,t7,t8,t9,t10,t11,t12,t13,t14,t15⟩:=HS u2 HZ.g));all_goals go_wp2;go_ret;exact HZ.base HG1
theorem s_(w kd a0 a1 a2 a3 a4 a5 a6 a7 a8 a9 b0 b1 up:Int)(tx:ByteArray)(p:Option Addr)(m c:Nat)(U:World)(ht:dC U)(hs:tx.size<=4000)(hw:0<=w/\w<=100000):
 Cw 172 #[ik kd a0 a1 a2 a3 a4 a5 a6 a7 a8 a9 b0 b1 tx (.slice p m c) up,Iq w] U fun e U'=>e=Rw (Iq (mS a8 tx.data.toList w))/\Hid (Bt U U'):=by
 obtain⟨W1,cE⟩:=aj (U.alloc (.cells #[Iq kd,Iq a0,Iq a1,Iq a2,Iq a3,Iq a4,Iq a5,Iq a6,Iq a7,Iq a8,Iq a9,Iq b0,Iq b1,.string tx,.slice p m c,Iq up] 100));obtain⟨A,hA⟩:=aj U.heap.size;have HB1:Hid (Bt U W1):=by rw[<-cE];exact((Gr.refl U).alloc _).below
 have bY:W1.heap[A]?=some (.cells #[Iq kd,Iq a0,Iq a1,Iq a2,Iq a3,Iq a4,Iq a5,Iq a6,Iq a7,Iq a8,Iq a9,Iq b0,Iq b1,.string tx,.slice p m c,Iq up] 100 (0,0)):=by rw[<-cE,<-hA];exact heap_alloc_new _ _
 have z9:W1.cell? (az A 9)=some (Iq a8):=by rw[Lib.cell_of_heap bY];rfl
 have M_:W1.cell? (az A 13)=some (.string tx):=by rw[Lib.cell_of_heap bY];rfl
 have hle:tx.data.toList.count 10<=4000:=by
  have h1:=MC (a:=(10:UInt8)) (l:=tx.data.toList);have h2:tx.data.toList.length=tx.size:=by rw[j9];rfl
  omega
 have CT:Hid (∀u,Bt U u->Cw 204 #[.string tx,Iq w] u fun e u'=>e=Rw (Iq ((cK (cL (aZ tx.data.toList)) w).length:Int))/\Hid (Bt U u')):=fun u hu=>by refine(FV tx w u (ht.below hu) (by omega) (by omega) (by omega)).mono ?_;rintro e u' ⟨rfl,q⟩;exact⟨rfl,hu.trans (q.mono hu.size)⟩
 have C1:=qH<|fun u=>FW tx 10 u;obtain⟨k,hk⟩:=aj (tx.data.toList.count 10);rw[hk]at C1 hle;unfold ik;by_cases h1:w<1
 ·have HR:Hid (mS a8 tx.data.toList w=0):=by show _=_;unfold mS;rw[if_pos h1]
  go_enter func172,ntmps172;go_wp2;go_ret;exact⟨by rw[HR.out];rfl,HB1⟩
 ·by_cases h8:a8=1
  ·subst h8;have HR:Hid (mS 1 tx.data.toList w=((cK (cL (aZ tx.data.toList)) w).length:Int)):=by show _=_;unfold mS;rw[if_neg h1,if_pos rfl]
   obtain⟨y,hy⟩:=aj ((cK (cL (aZ tx.data.toList)) w).length);rw[hy]at HR CT;go_enter func172,ntmps172;go_wp2_with(go_at_call 204;refine am (CT _ HB1) ?_;rintro e u ⟨rfl,vM⟩);go_ret;exact⟨by rw[HR.out];rfl,vM⟩
  ·have e8:(a8==1)=false:=by simpa using h8
   have HR:Hid (mS a8 tx.data.toList w=(k:Int)+1):=by show _=_;unfold mS;rw[if_neg h1,if_neg h8,hk]
   go_enter func172,ntmps172;go_wp2_with(go_at_call 205;refine am (C1 _) ?_;rintro e u ⟨rfl,hu⟩;obtain rfl:=hu.symm);go_ret;exact⟨by rw[HR.out];rfl,HB1⟩
theorem dC.kept{W W'}{r n}{H}(h:dC W)(hm:bu W r H n)(hg:W.grownBy W' (some r)):dC W':=by
 obtain⟨es,rL,hmp⟩:=hm.map;have key:∀(o:Nat) v,W.cell? (az 12 o)=some v->W'.cell? (az 12 o)=some v:=fun o v hc=>by
  have bG:12≠r:=fun e=>by subst e;simp[World.cell?,hmp]at hc
  have hlt:12<W.heap.size:=by
   by_cases q:12<W.heap.size;·exact q
   ·simp[World.cell?,Mw (My q)]at hc
  exact(bU (hg.block _ hlt (fun e=>bG (by grind)))).trans hc
 intro i hi;obtain⟨h1,h2,h3⟩:=h i hi;grind
theorem xE(mb:Nat)(w a0 a1 a2 a3 a4 a5 a6 a7 a8 a9 b0 b1 up:Int)(tx:ByteArray)(p:Option Addr)(m c:Nat)(U:World)(ht:dC U)(hs:tx.size<=4000)(hw:0<=w/\w<=100000):
 Cw 135 #[Pq mb,ik 5 a0 a1 a2 a3 a4 a5 a6 a7 a8 a9 b0 b1 tx (.slice p m c) up,Iq w] U fun e U'=>e=Rw (Iq (mS a8 tx.data.toList w))/\Hid (Bt U U'):=by
 have HT:Hid (∀u,Bt U u->Cw 172 #[ik 5 a0 a1 a2 a3 a4 a5 a6 a7 a8 a9 b0 b1 tx (.slice p m c) up,Iq w] u fun e u'=>e=Rw (Iq (mS a8 tx.data.toList w))/\Hid (Bt U u')):=fun u hu=>by refine(s_ w 5 a0 a1 a2 a3 a4 a5 a6 a7 a8 a9 b0 b1 up tx p m c u (ht.below hu) hs hw).mono ?_;rintro e u' ⟨rfl,q⟩;exact⟨rfl,hu.trans (q.mono hu.size)⟩
 have HB1:Hid (∀o,Bt U (U.alloc o)):=fun o=>((Gr.refl U).alloc _).below;obtain⟨y,hy⟩:=aj (mS a8 tx.data.toList w);rw[hy]at HT⊢;clear hy ht;unfold ik at HT⊢;go_enter func135,ntmps135;go_wp2_with(go_at_call 172;refine am (HT _ (HB1 _)) ?_;rintro e u ⟨rfl,vM⟩);go_ret;simp_all
def cM(L:List Nd)(i:Nat):List Nat:=(ae L i).kids
structure Hs(U:World)(mb r g al wb:Nat)(L:List Nd)(KV:Nat->Value)(Wd:Nat->Int)(H:Nat->Int->Int)(n:Nat):Prop where
 view:rx U mb r g al wb L KV Wd
 memo:bu U r H n
 tab:dC U
theorem Hs.grown{U U'}{mb r g al wb}{L}{KV}{Wd}{H}{n n'}(h:Hs U mb r g al wb L KV Wd H n)(hg:U.grownBy U' (some r))(hm:bu U' r H n'):Hs U' mb r g al wb L KV Wd H n':=
 ⟨h.view.grown hg,hm,h.tab.kept h.memo hg⟩
theorem Hs.below{U U'}{mb r g al wb}{L}{KV}{Wd}{H}{n}(h:Hs U mb r g al wb L KV Wd H n)(hb:Bt U U'):Hs U' mb r g al wb L KV Wd H n:=
 h.grown (ac hb) (h.memo.grown_below hb)
theorem Cs{s}{L}{KV}{Wd}{H}  mb r g al wb  (hT:dk s L) (hS:Sz L Wd H):∀  f i   w   n   U,i<L.length->L.length-i<=f->0<=w->w<=100000->Hs U mb r g al wb L KV Wd H n->n+(rh (cM L) f i).length<1000000000000->
 Cw 101 #[Pq mb,Iq (i:Int),Iq w] U fun e U'=>e=Rw (Iq (H i w))/\Hid (U.grownBy U' (some r))/\Hid (bu U' r H (n+(rh (cM L) f i).length)):=by
 intro f;induction f with
 |zero=>intro i w n U hi h1;omega
 |succ f ih=>
  intro i w n U hi hf hw0 eu hU hn;have hc:=hT.vl.cnt;have kH:=PW (cM L) f i;have hNv:=hT.vl.nv i hi;have hbd:=hNv.bd;have dD:(cM L i).length<=100:=hT.kids_le hi;obtain⟨k,hk⟩:=aj (cS (fun j=>(rh (cM L) f (aP (cM L i) j)).length) (cM L i).length);rw[hk]at kH;rw[kH]at hn⊢;obtain⟨p,c,uJ,oU⟩:=hU.view.kid i hi;have jk:=nU (hU.view.len i hi) (KV i);have gS:=hU.view.nd i hi;rw[jk]at gS;have hWB:iX (i:Int):=by unfold iX;omega
  have hWw:iX w:=by unfold iX;omega
  rw[show n+(k+1)=n+k+1 by omega];refine Gh mb r g i n k L.length al w H _ ((ae L i).kind:Int) (aC (ae L i) 0) (aC (ae L i) 1) (aC (ae L i) 2) (aC (ae L i) 3) (aC (ae L i) 4) (aC (ae L i) 5) (aC (ae L i) 6) (aC (ae L i) 7) (aC (ae L i) 8) (aC (ae L i) 9) (aC (ae L i) 10) (aC (ae L i) 11) (ae L i).up ⟨(ae L i).text.toArray⟩ (KV i) U hU.view.ms hU.memo hi (by omega) hWB hWw (by omega) hU.view.gl hU.view.gr (fun t x ht=>gS t x (by grind)) (fun W hb ZP=>?_);rw[uJ];have hWs:=hU.grown (ac hb) ZP;by_cases h5:(ae L i).kind=5
  ·have X3:(⟨(ae L i).text.toArray⟩:ByteArray).size<=4000:=by have h1:=hT.vl.tl i hi;have h2:=hT.sz;show(ae L i).text.toArray.size<=4000;rw[qm];omega
   have:=xE mb w (aC (ae L i) 0) (aC (ae L i) 1) (aC (ae L i) 2) (aC (ae L i) 3) (aC (ae L i) 4) (aC (ae L i) 5) (aC (ae L i) 6) (aC (ae L i) 7) (aC (ae L i) 8) (aC (ae L i) 9) (aC (ae L i) 10) (aC (ae L i) 11) (ae L i).up ⟨(ae L i).text.toArray⟩ p (ae L i).kids.length c W hWs.tab X3 ⟨hw0,eu⟩;rw[h5];refine this.mono ?_;rintro e U' ⟨rfl,q⟩;exact⟨_,rfl,(hS.ht i w hi h5).symm,ac q,(ZP.grown_below q).mono (by omega)⟩
  ·have zb8:((ae L i).kind:Int)≠5:=by omega
   have:=P6 mb r n (ae L i).kids.length w H (IR L (ae L i).kids (ae L i).kind (aC (ae L i) 4) (aC (ae L i) 5) (aC (ae L i) 6) w Wd) (aP (ae L i).kids) (fun j=>(rh (cM L) f (aP (cM L i) j)).length)
    ((ae L i).kind:Int) (aC (ae L i) 0) (aC (ae L i) 1) (aC (ae L i) 2) (aC (ae L i) 3) (aC (ae L i) 4) (aC (ae L i) 5) (aC (ae L i) 6) (aC (ae L i) 7) (aC (ae L i) 8) (aC (ae L i) 9) (aC (ae L i) 10) (aC (ae L i) 11) (ae L i).up ⟨(ae L i).text.toArray⟩ p c W
    zb8 (by grind[cM]) (by omega) (by omega) (by omega) (fun j v hj=>hS.hb _ v (de hT hi hj).2) (fun j hj=>by grind[de]) ZP.lt ZP (oU.grown (ac hb))
    (fun u hu Gu=>tY mb r g al wb n w L (ae L i).kids KV Wd H _ _ _ _ _ _ _ _ _ _ _ _ _ _ _ p c u (hWs.view.grown (ac hu)) Gu (by grind[cM]) (fun j hj=>(de hT hi hj).2) (by omega) ((oU.grown (ac hb)).grown (ac hu)) (fun j hj=>hS.wb j hj) ⟨hw0,eu⟩ (by omega) (by omega))
    (fun V hV j u nn hj hu Gu Td=>by
     have Gm:=de hT hi hj;have hVj:=hV.2.2 j hj;have hb2:cS (fun j=>(rh (cM L) f (aP (cM L i) j)).length) (j+1)<=k:=by
      rw[<-hk];have mono:∀a b,a<=b->cS (fun j=>(rh (cM L) f (aP (cM L i) j)).length) a<=cS (fun j=>(rh (cM L) f (aP (cM L i) j)).length) b:=by
       intro a b hab;induction b with
       |zero=>grind
       |succ b ihb=>grind[cS]
      exact mono _ _ hj
     have hst:cS (fun j=>(rh (cM L) f (aP (cM L i) j)).length) (j+1)=cS (fun j=>(rh (cM L) f (aP (cM L i) j)).length) j+(rh (cM L) f (aP (cM L i) j)).length:=rfl;have hr:=ih (aP (ae L i).kids j) (V j) nn u Gm.2 (by omega) hVj.1 hVj.2 (hWs.grown hu Gu) (by grind[rh,cM,aP]);refine hr.mono ?_;rintro e u' ⟨rfl,q1,q2⟩;refine⟨rfl,q1,q2.mono ?_⟩;grind[rh,cM,aP]);refine this.mono ?_;rintro e U' ⟨V,hV,rfl,q1,q2⟩;refine⟨_,rfl,?_,q1,q2.mono (by rw[<-hk];exact ai _)⟩;by_cases h0:(ae L i).kind=0;·rw[hS.hr i w V hi h0 (hV.1 (by omega))];rfl
   ·rw[hS.ho i w hi h5 h0];unfold nO;rw[sM fun j hj=>?_];rw[hV.2.1 (by omega) j hj];rfl
theorem rY{s}{L}{KV}{Wd}{H}  mb r g al wb  (hT:dk s L) (hS:Sz L Wd H)  i   w   n   U  (hi:i<L.length) (hw0:0<=w) (eu:w<=100000) (hU:Hs U mb r g al wb L KV Wd H n) (hn:n<=100000000):
 Cw 101 #[Pq mb,Iq (i:Int),Iq w] U fun e U'=>e=Rw (Iq (H i w))/\Hid (U.grownBy U' (some r))/\Hid (bu U' r H (n+100)):=by have h1:=PX (kids:=cM L) hT.nest L.length i hi;have h2:=hT.vl.cnt;refine(Cs mb r g al wb hT hS L.length i w n U hi (by omega) hw0 eu hU (by omega)).mono ?_;rintro e U' ⟨rfl,q1,q2⟩;exact⟨rfl,q1,q2.mono (by omega)⟩
theorem uf(mb:Nat)(a0 a1 a2 a3 a4 a5 a6 a7 a8 a9 b0 b1 up:Int)(tx:ByteArray)(p:Option Addr)(m c:Nat)(U:World)(ht:dC U)(hs:tx.size<=4000):
 Cw 56 #[Pq mb,ik 5 a0 a1 a2 a3 a4 a5 a6 a7 a8 a9 b0 b1 tx (.slice p m c) up] U fun e U'=>e=Rw (Iq (ue tx.data.toList))/\Hid (Bt U U'):=by
 have HT:Hid (∀u,Bt U u->Cw 98 #[.string tx] u fun e u'=>e=Rw (Iq (ue tx.data.toList))/\Hid (Bt U u')):=fun u hu=>by refine(DV tx u (ht.below hu) hs).mono ?_;rintro e u' ⟨rfl,q⟩;exact⟨rfl,hu.trans (q.mono hu.size)⟩
 have HB1:Hid (∀o,Bt U (U.alloc o)):=fun o=>((Gr.refl U).alloc _).below;obtain⟨y,hy⟩:=aj (ue tx.data.toList);rw[hy]at HT⊢;clear hy ht;unfold ik;go_enter func56,ntmps56;go_wp2_with(go_at_call 98;refine am (HT _ (HB1 _)) ?_;rintro e u ⟨rfl,vM⟩);go_ret;simp_all
theorem xF(mb r wb N m:Nat)(Wd:Nat->Int)(ks:Nat->Nat)(kd a0 a1 a2 a3 a4 a5 a6 a7 a8 a9 b0 b1 up:Int)(tx:ByteArray)(nv:Value)(p:Option Addr)(c:Nat)(U:World)
 (XC:kd≠5) (hm:m<=1000) (hN:N<=1000000) (h4:0<=a4/\a4<=1000000) (h5:0<=a5/\a5<=1000000) (h6:0<=a6/\a6<=1000000) (hh:Hid (∀j,j<m->0<=Wd (ks j)/\Wd (ks j)<=100000)) (oE:Hid (∀j,j<m->ks j<N))
 (hMs:Ms U mb nv (Sq wb N N) r) (Z4:wb<U.heap.size) (hK:Hid (gm U r p m (fun j=>(ks j:Int)))) (hW:Hid (∀j,j<m->U.cell? (az wb (ks j))=some (Iq (Wd (ks j))))):
 Cw 56 #[Pq mb,ik kd a0 a1 a2 a3 a4 a5 a6 a7 a8 a9 b0 b1 tx (.slice p m c) up] U fun e U'=>e=Rw (Iq (nW kd a4 a5 a6 (fun j=>Wd (ks j)) m))/\Hid (Bt U U'):=by
 have e5:(kd==5)=false:=by simpa using XC
 obtain⟨h,QS⟩:∃h:Nat->Int,(fun j=>Wd (ks j))=h:=⟨_,rfl⟩;have _D:Hid (∀j,Wd (ks j)=h j):=fun j=>by grind
 have UX:Hid (∀j,j<m->0<=h j/\h j<=100000):=fun j hj=>by rw[<-_D j];exact hh j hj
 rw[QS];obtain⟨U1,tM⟩:=aj (U.alloc (.cells #[Iq kd,Iq a0,Iq a1,Iq a2,Iq a3,Iq a4,Iq a5,Iq a6,Iq a7,Iq a8,Iq a9,Iq b0,Iq b1,.string tx,.slice p m c,Iq up] 100));obtain⟨A,hA⟩:=aj U.heap.size;have HB1:Hid (Bt U U1):=by rw[<-tM];exact((Gr.refl U).alloc _).below
 have bY:U1.heap[A]?=some (.cells #[Iq kd,Iq a0,Iq a1,Iq a2,Iq a3,Iq a4,Iq a5,Iq a6,Iq a7,Iq a8,Iq a9,Iq b0,Iq b1,.string tx,.slice p m c,Iq up] 100 (0,0)):=by rw[<-tM,<-hA];exact heap_alloc_new _ _
 have cH:Hid (∀(t:Nat) x,(#[Iq kd,Iq a0,Iq a1,Iq a2,Iq a3,Iq a4,Iq a5,Iq a6,Iq a7,Iq a8,Iq a9,Iq b0,Iq b1,.string tx,.slice p m c,Iq up]:Array Value)[t]?=some x->U1.cell? (az A t)=some x):=fun t x ht=>by rw[Lib.cell_of_heap bY];exact ht
 have z0:U1.cell? (az A 0)=some (Iq kd):=cH 0 _ rfl;have z1:U1.cell? (az A 1)=some (Iq a0):=cH 1 _ rfl;have z2:U1.cell? (az A 2)=some (Iq a1):=cH 2 _ rfl;have z3:U1.cell? (az A 3)=some (Iq a2):=cH 3 _ rfl;have z4:U1.cell? (az A 4)=some (Iq a3):=cH 4 _ rfl;have z5:U1.cell? (az A 5)=some (Iq a4):=cH 5 _ rfl;have z6:U1.cell? (az A 6)=some (Iq a5):=cH 6 _ rfl;have z7:U1.cell? (az A 7)=some (Iq a6):=cH 7 _ rfl;have z8:U1.cell? (az A 8)=some (Iq a7):=cH 8 _ rfl;have z9:U1.cell? (az A 9)=some (Iq a8):=cH 9 _ rfl;have P7:U1.cell? (az A 10)=some (Iq a9):=cH 10 _ rfl;have P8:U1.cell? (az A 11)=some (Iq b0):=cH 11 _ rfl;have P9:U1.cell? (az A 12)=some (Iq b1):=cH 12 _ rfl;have M_:U1.cell? (az A 13)=some (.string tx):=cH 13 _ rfl;have P_:U1.cell? (az A 14)=some (.slice p m c):=cH 14 _ rfl;have Qa:U1.cell? (az A 15)=some (Iq up):=cH 15 _ rfl;have m1:U1.cell? (az mb 1)=some (Sq wb N N):=by have Gt:=(aS.1 hMs).1;have hb:=(HB1.block mb Gt).trans hMs;rw[Lib.cell_of_heap hb];rfl
 have km:=qH<|hK.grown (ac HB1);have IM:Hid (∀j,j<m->U1.cell? (az wb (ks j))=some (Iq (h j))):=fun j hj=>by rw[<-_D j];exact(HB1.cell (p:=(az wb _)) Z4).trans (hW j hj)
 clear bY QS hMs hK hW hh _D;unfold ik;go_enter func56,ntmps56;go_wp2_with fail;generalize kJ:Value.agg #[Iq kd,Iq a0,Iq a1,Iq a2,Iq a3,Iq a4,Iq a5,Iq a6,Iq a7,Iq a8,Iq a9,Iq b0,Iq b1,.string tx,.slice p m c,Iq up]=ndv;go_loopw[5,6,18] (fun sv gv kv wr=>∃k:Nat,k<=m/\kv=Iq (k:Int)/\sv=Iq (hS h k)/\gv=Iq (hG h k)/\wr=U1) (fun _ _ kv _=>m-(intOf kv).toNat);case atStart=>exact⟨0,bc _,rfl,rfl,rfl,rfl⟩
 case round=>
  obtain⟨k,hk,rfl,rfl,rfl,Z5⟩:=hrel;subst Z5;by_cases hlt:k<m
  ·have aK:(k:Int)<(m:Int):=by omega
   have hbs:=yR UX k hk;have hbg:=yQ UX k hk;have hbh:=UX k hlt;have XD:=oE k hlt;have hkI:(ks k:Int)<(N:Int):=by omega
   obtain⟨kb,ko,rfl,_,_,J4⟩:=km.resolve_left (by omega);have ck:=J4 k hlt;have cv:=IM k hlt;obtain⟨S,qA⟩:=aj (hS h k);obtain⟨G,Oj⟩:=aj (hG h k);obtain⟨x,hx⟩:=aj (h k);have H':Hid (hS h (k+1)=S+x):=by show _=_;rw[<-qA,<-hx];rfl
   have HG1:Hid (hG h (k+1)=max G x):=by show _=_;rw[<-Oj,<-hx];rfl
   rw[qA]at hbs;rw[Oj]at hbg;rw[hx]at hbh cv;rw[qA,Oj];clear qA Oj hx J4 tM hA kJ h4 h5 h6 XC HB1;go_wp2;all_goals
    go_roundw;case rel=>exact⟨k+1,hlt,by go_num,by rw[H'.out],by rw[HG1.out],by grind⟩
    grind[intOf]
  ·have aK:¬(k:Int)<(m:Int):=by omega
   obtain rfl:k=m:=by omega
   have hbs:=yR UX k hk;have hbg:=yQ UX k hk;have GA:=qH<|fun u=>yG kd a0 a1 a2 a3 a4 a5 a6 a7 a8 a9 b0 b1 up tx p k c h4 (by omega) u;have FA:=qH<|fun u=>lq kd a0 a1 a2 a3 a4 a5 a6 a7 a8 a9 b0 b1 up tx p k c h5 h6 u;have lz:0<=fW a4 k/\fW a4 k<=1000000000000:=by
    unfold fW;have tR:0<=max 0 ((k:Int)-1)/\max 0 ((k:Int)-1)<=1000000:=by omega
    exact⟨gQ h4.1 tR.1,lm h4.2 tR.2 tR.1 (by omega)⟩
   have oS:=Ci (kd:=kd) h5 h6;unfold ik at GA FA;rw[kJ]at GA FA;clear tM hA UX oE IM km m1;by_cases h0:kd=0
   ·subst h0;have hraw:nW 0 a4 a5 a6 h k=hS h k+fW a4 k:=by unfold nW;rw[if_pos rfl]
    obtain⟨S,qA⟩:=aj (hS h k);obtain⟨gg,mw⟩:=aj (fW a4 k);rw[qA,mw]at hraw;have qr:=qH<|hraw;rw[qA]at hbs⊢;rw[mw]at lz GA;clear qA mw hraw;go_wp2_with(go_at_call 99;refine(GA _).mono ?_;rintro e wz ⟨rfl,Nf⟩);go_ret;exact⟨by rw[qr.out];rfl,HB1.trans (Nf.mono HB1.size)⟩
   ·have hraw:nW kd a4 a5 a6 h k=hG h k+2*iy kd a5 a6:=by unfold nW;rw[if_neg h0]
    have e1:(kd==0)=false:=by simpa using h0
    obtain⟨S,qA⟩:=aj (hG h k);obtain⟨gg,mw⟩:=aj (iy kd a5 a6);rw[qA,mw]at hraw;have qr:=qH<|hraw;rw[qA]at hbg⊢;rw[mw]at oS FA;clear qA mw hraw;go_wp2_with(go_at_call 100;refine(FA _).mono ?_;rintro e wz ⟨rfl,Nf⟩);go_ret;exact⟨by rw[qr.out];rfl,HB1.trans (Nf.mono HB1.size)⟩
structure UF(U:World)(r g:Nat)(L:List Nd)(KV:Nat->Value):Prop where
 gl:g<U.heap.size
 gr:g≠r
 len:∀j,j<L.length->(ae L j).attr.length=12
 nd:∀j,j<L.length->∀(t:Nat) x,(bE (ae L j) (KV j))[t]?=some x->U.cell? (az g (j*16+t))=some x
 kid:∀j,j<L.length->∃p c,KV j=.slice p (ae L j).kids.length c/\gm U r p (ae L j).kids.length (fun t=>(aP (ae L j).kids t:Int))
theorem UF.grown{U U'}{r g}{L}{KV}(h:UF U r g L KV)(hg:U.grownBy U' (some r)):UF U' r g L KV:=by refine⟨bn h.gl hg.size,h.gr,h.len,fun j hj t x ht=>(bU (hg.block g h.gl (fun q=>h.gr (by grind)))).trans (h.nd j hj t x ht),fun j hj=>?_⟩;obtain⟨p,c,e,hk⟩:=h.kid j hj;exact⟨p,c,e,hk.grown hg⟩
theorem PN.ndv{W}{B g al r}{L}{KV}(h:PN W B (Sq g L.length al) L KV)(hr:W.heap.size<=r):UF W r g L KV:=by
 obtain⟨xs,hx⟩:=h.nr.row;have iU:g<W.heap.size:=by
  rcases cD hx with⟨e,_⟩|⟨g',mg,e,_,hl,_⟩;·cases e
  ·grind
 refine⟨iU,by omega,h.len,fun j hj t x ht=>h.nr.cells g rfl j hj t x ht,fun j hj=>?_⟩;rcases cD (h.nr.kids j hj)with⟨e,h0⟩|⟨g',mg,e,_,hl,_⟩;·refine⟨none,0,by grind,.inl h0⟩
 ·refine⟨_,_,e,.inr ⟨g',0,rfl,hl,by omega,fun i hi=>?_⟩⟩;have hk:=h.nr.kids j hj;rw[e]at hk;rw[bC,hk.cellAt i (by omega)];grind[jD,aP]
def Vt(Wd:Nat->Int)(k j:Nat):Value:=Iq (if j<k then 0 else Wd j)
structure Nm(U W:World)(mb r g al wb:Nat)(L:List Nd)(KV:Nat->Value)(Wd:Nat->Int)(H:Nat->Int->Int)(k:Nat):Prop where
 bel:Bt U W
 nds:UF W r g L KV
 ms:Ms W mb (Sq g L.length al) (Sq wb L.length L.length) r
 row:W.rowIs wb 3 L.length (Vt Wd k)
 mm:bu W r H 0
 hwb:U.heap.size<=wb
 ne:wb≠r/\wb≠mb/\wb≠g/\mb≠r
 tab:dC W
theorem Nm.below{U W W'}{mb r g al wb}{L}{KV}{Wd}{H}{k}(h:Nm U W mb r g al wb L KV Wd H k)(hb:Bt W W'):Nm U W' mb r g al wb L KV Wd H k:=
 ⟨h.bel.trans (hb.mono h.bel.size),h.nds.grown (ac hb),(hb.block mb (aS.1 h.ms).1).trans h.ms,rowIs_below h.row hb,h.mm.grown_below hb,h.hwb,h.ne,h.tab.below hb⟩
theorem Nm.set{U W}{mb r g al wb i}{L}{KV}{Wd}{H}(h:Nm U W mb r g al wb L KV Wd H (i+1))(Gn:∀j p c,j<L.length->KV j=.slice p (ae L j).kids.length c->∀b o,p=some (az b o)->b≠wb)(htw:12≠wb):Nm U (W.setCell (az wb i) (Iq (Wd i))) mb r g al wb L KV Wd H i:=by
 have key:∀b,b≠wb->(W.setCell (az wb i) (Iq (Wd i))).heap[b]?=W.heap[b]?:=fun b hb=>cF W (az wb i) _ b hb;have hc:=fun b o hb=>bU (a:=(az b o)) (key b hb);obtain⟨n1,n2,n3,n4⟩:=h.ne;refine⟨h.bel.setCell (p:=(az wb i)) h.hwb _,⟨by simpa using h.nds.gl,h.nds.gr,h.nds.len,fun j hj t x ht=>(hc g _ (fun e=>n3 e.symm)).trans (h.nds.nd j hj t x ht),fun j hj=>?_⟩,(key mb (fun e=>n2 e.symm)).trans h.ms,(h.row.set i _).congr fun j hj=>?_,h.mm.set n1 _,h.hwb,h.ne,fun j hj=>?_⟩
 ·obtain⟨p,c,e,hk⟩:=h.nds.kid j hj;refine⟨p,c,e,?_⟩;rcases hk with hk|⟨b,o,e2,k1,k2,k3⟩;·exact .inl hk
  ·exact .inr ⟨b,o,e2,by simpa using k1,k2,fun q hq=>(hc b _ (Gn j p c hj e b o e2)).trans (k3 q hq)⟩
 ·grind[Vt]
 ·obtain⟨t1,t2,t3⟩:=h.tab j hj;grind
theorem xc(w:World)  n   Wd  :(w.alloc (.cells (madeCells #[Iq 0] n) 3)).rowIs w.heap.size 3 n (Vt Wd n):=
 (World.rowIs_made w (Iq 0) n _).congr fun j hj=>by grind[Vt]
theorem sE{s:ByteArray}{L:List Nd}{KV:Nat->Value}{Wd:Nat->Int}{H:Nat->Int->Int}(g al:Nat)(hT:dk s L)(hS:Sz L Wd H)(U:World)(B:Nat)(hP:PN U B (Sq g L.length al) L KV)(ht:dC U):
 Cw 35 #[Sq g L.length al] U fun e U'=>∃mb r wb,e=Rw (Pq mb)/\Bt U U'/\Hs U' mb r g al wb L KV Wd H 0/\U.heap.size<=r:=by
 obtain⟨N,hN⟩:=aj L.length;have hc:=hT.vl.cnt;have dL:=hT.pos;rw[hN]at hc dL;obtain⟨wb,hwb⟩:=aj U.heap.size;have gR:=run_make_row' (P:=prog) 98 3 (Iq 0) 8 underlying98 gI rfl .i64 .i64 N (by omega) (by omega);obtain⟨W1,cE⟩:=aj (((U.alloc (.cells (madeCells #[Iq 0] N) 3)).alloc (.map #[] 0)).alloc (.cells #[Sq g N al,Sq wb N N,.map (some (wb+1))] 141));have hb1:Bt U W1:=by rw[<-cE];exact(((Gr.refl U).alloc _).alloc _).alloc _|>.below
 have Tc:UF U (wb+1) g L KV:=hP.ndv (by omega);have iU:=Tc.gl;have zj:12<U.heap.size:=by
  obtain⟨h1,_⟩:=ht 0 (by decide);by_cases q:12<U.heap.size;·exact q
  ·simp[World.cell?,Mw (My q)]at h1
 have YS:Hid (∀j p c,j<L.length->KV j=.slice p (ae L j).kids.length c->∀b o,p=some (az b o)->b≠wb):=fun j p c hj e b o e2=>by rcases cD (hP.nr.kids j hj)with⟨e3,h0⟩|⟨g',mg,e3,_,hl,_⟩;all_goals grind
 have HNM:Hid (Nm U W1 (wb+1+1) (wb+1) g al wb L KV Wd H N):=by
  refine⟨hb1,Tc.grown (ac hb1),?_,?_,?_,by omega,⟨by omega,by omega,by omega,by omega⟩,ht.below hb1⟩;·rw[hN,<-cE];have:=heap_alloc_new ((U.alloc (.cells (madeCells #[Iq 0] N) 3)).alloc (.map #[] 0)) (.cells #[Sq g N al,Sq wb N N,.map (some (wb+1))] 141);rw[aO,aO,hwb]at this;exact this
  ·rw[hN,<-cE,<-hwb];exact((xc U N Wd).alloc _).alloc _
  ·rw[<-cE];have:=bu.new (U.alloc (.cells (madeCells #[Iq 0] N) 3)) H;rw[aO,hwb]at this;exact this.alloc _
 have LN:=qH<|length_any;have oV:prog.follows .mixedOrders=true:=by kernel_rfl
 have HTW:Hid (12≠wb):=fun e=>by omega
 have MJ:=qH<|hwb;have Tb:∀w:World,(Instr.makeMap 139 none).run prog w=.ok (.map (some w.heap.size)) (w.alloc (.map #[] 0)):=fun _=>rfl;rw[hN];clear hb1 Tc iU zj hP ht;go_enter func35,ntmps35;go_wp2_with fail;clear cE gR hwb Tb;go_loopw[4] (fun iv wr=>∃k:Nat,k<=N/\iv=Iq ((k:Int)-1)/\Hid (Nm U wr (wb+1+1) (wb+1) g al wb L KV Wd H k)) (fun iv _=>(intOf iv+1).toNat);case atStart=>grind
 case round=>
  obtain⟨k,hk,rfl,HR⟩:=hrel;cases k with
  |zero=>
   have HV:Hid (Hs wr (wb+1+1) (wb+1) g al wb L KV Wd H 0):=by have h:=HR.out;obtain⟨n1,n2,n3,n4⟩:=h.ne;exact⟨⟨h.ms,h.nds.gl,h.row.lt,n4,h.nds.gr,n1,h.nds.len,h.nds.nd,h.nds.kid,fun j hj=>h.row.cell hj⟩,h.mm,h.tab⟩
   go_wp2;go_ret;exact⟨_,_,wb,rfl,HR.bel,HV,by rw[MJ.out];omega⟩
  |succ i=>
   have ei:((i+1:Nat):Int)-1=(i:Int):=by omega
   rw[ei];have mW:i<L.length:=by omega
   have hiN:(i:Int)<(N:Int):=by omega
   have hR:=HR.out;obtain⟨p,c,uJ,oU⟩:=hR.nds.kid i mW;have jk:=nU (hR.nds.len i mW) (KV i);have gS:=hR.nds.nd i mW;rw[jk,uJ]at gS;have oW:=hR.ms;rw[hN]at oW;have hbd:=(hT.vl.nv i mW).bd;have dD:=hT.kids_le mW;have WC:Hid (∀u,Bt wr u->Cw 56 #[Pq (wb+1+1),ik (ae L i).kind (aC (ae L i) 0) (aC (ae L i) 1) (aC (ae L i) 2) (aC (ae L i) 3) (aC (ae L i) 4) (aC (ae L i) 5) (aC (ae L i) 6) (aC (ae L i) 7) (aC (ae L i) 8) (aC (ae L i) 9) (aC (ae L i) 10) (aC (ae L i) 11) ⟨(ae L i).text.toArray⟩ (.slice p (ae L i).kids.length c) (ae L i).up] u fun e u'=>∃x,e=Rw (Iq x)/\bT x=Wd i/\Hid (Bt wr u')):=fun u hu=>by
    have Zt:=hR.below hu;rw[hS.w i mW];unfold nP;by_cases h5:(ae L i).kind=5
    ·rw[if_pos h5];have X3:(⟨(ae L i).text.toArray⟩:ByteArray).size<=4000:=by have h1:=hT.vl.tl i mW;have h2:=hT.sz;show(ae L i).text.toArray.size<=4000;rw[qm];omega
     have:=uf (wb+1+1) (aC (ae L i) 0) (aC (ae L i) 1) (aC (ae L i) 2) (aC (ae L i) 3) (aC (ae L i) 4) (aC (ae L i) 5) (aC (ae L i) 6) (aC (ae L i) 7) (aC (ae L i) 8) (aC (ae L i) 9) (aC (ae L i) 10) (aC (ae L i) 11) (ae L i).up ⟨(ae L i).text.toArray⟩ p (ae L i).kids.length c u Zt.tab X3;rw[h5];refine this.mono ?_;rintro e u' ⟨rfl,q⟩;exact⟨_,rfl,rfl,hu.trans (q.mono hu.size)⟩
    ·rw[if_neg h5];refine(xF (wb+1+1) (wb+1) wb L.length (ae L i).kids.length Wd (aP (ae L i).kids) (ae L i).kind (aC (ae L i) 0) (aC (ae L i) 1) (aC (ae L i) 2) (aC (ae L i) 3) (aC (ae L i) 4) (aC (ae L i) 5) (aC (ae L i) 6) (aC (ae L i) 7) (aC (ae L i) 8) (aC (ae L i) 9) (aC (ae L i) 10) (aC (ae L i) 11) (ae L i).up ⟨(ae L i).text.toArray⟩ _ p c u (by omega) (by omega) (by omega) (by omega) (by omega) (by omega) (fun j hj=>hS.wb _ (de hT mW hj).2) (fun j hj=>(de hT mW hj).2) Zt.ms Zt.row.lt (oU.grown (ac hu)) (fun j hj=>?_)).mono ?_;·have Gm:=de hT mW hj;rw[Zt.row.cell Gm.2];grind[Vt]
     ·rintro e u' ⟨rfl,q⟩;exact⟨_,rfl,rfl,hu.trans (q.mono hu.size)⟩
   have HNX:Hid (∀u,Bt wr u->Nm U (u.setCell (az wb i) (Iq (Wd i))) (wb+1+1) (wb+1) g al wb L KV Wd H i):=fun u hu=>(hR.below hu).set YS HTW;have V0:Hid (∀u,Bt wr u->u.cell? (az wb i)=some (Iq 0)/\u.frozen? (az wb i)=false/\wb<u.heap.size):=fun u hu=>by have hr:=(hR.below hu).row;refine⟨?_,hr.frozen i,hr.lt⟩;rw[hr.cell mW];grind[Vt]
   have XI:=(aS.1 oW).1;have iU:=hR.nds.gl;have XL:¬wb=g:=hR.ne.2.2.1;have zcw:¬g=wb:=fun e=>XL e.symm;have Kf:¬wb=wb+1+1:=by omega
   have zcx:¬wb+1+1=wb:=by omega
   generalize(ae L i).text.toArray=Yw at gS WC;generalize((ae L i).kind:Int)=kd at gS WC;generalize aC (ae L i) 0=a0 at gS WC;generalize aC (ae L i) 1=a1 at gS WC;generalize aC (ae L i) 2=a2 at gS WC;generalize aC (ae L i) 3=a3 at gS WC;generalize aC (ae L i) 4=a4 at gS WC;generalize aC (ae L i) 5=a5 at gS WC;generalize aC (ae L i) 6=a6 at gS WC;generalize aC (ae L i) 7=a7 at gS WC;generalize aC (ae L i) 8=a8 at gS WC;generalize aC (ae L i) 9=a9 at gS WC;generalize aC (ae L i) 10=b0 at gS WC;generalize aC (ae L i) 11=b1 at gS WC;generalize(ae L i).up=up at gS WC;generalize(ae L i).kids.length=m at gS WC;obtain⟨tx,zk⟩:∃z:ByteArray,⟨Yw⟩=z:=⟨_,rfl⟩;rw[zk]at gS WC;have HS:Hid (∀u,Bt wr u->u.cell? (az (wb+1+1) 1)=some (Sq wb N N)/\u.cell? (az g (i*16))=some (Iq kd)/\u.cell? (az g (i*16+1))=some (Iq a0)/\u.cell? (az g (i*16+2))=some (Iq a1)/\u.cell? (az g (i*16+3))=some (Iq a2)/\u.cell? (az g (i*16+4))=some (Iq a3)/\u.cell? (az g (i*16+5))=some (Iq a4)/\u.cell? (az g (i*16+6))=some (Iq a5)/\u.cell? (az g (i*16+7))=some (Iq a6)/\u.cell? (az g (i*16+8))=some (Iq a7)/\u.cell? (az g (i*16+9))=some (Iq a8)/\u.cell? (az g (i*16+10))=some (Iq a9)/\u.cell? (az g (i*16+11))=some (Iq b0)/\u.cell? (az g (i*16+12))=some (Iq b1)/\u.cell? (az g (i*16+13))=some (.string tx)/\u.cell? (az g (i*16+14))=some (.slice p m c)/\u.cell? (az g (i*16+15))=some (Iq up)):=fun u hu=>by
    have key:=fun t x hx=>(hu.cell (p:=(az g _)) iU).trans (gS t x hx);have zcr:u.cell? (az (wb+1+1) 1)=some (Sq wb N N):=by rw[Lib.cell_of_heap ((hu.block _ XI).trans oW)];rfl
    exact⟨zcr,key 0 _ rfl,key 1 _ rfl,key 2 _ rfl,key 3 _ rfl,key 4 _ rfl,key 5 _ rfl,key 6 _ rfl,key 7 _ rfl,key 8 _ rfl,key 9 _ rfl,key 10 _ rfl,key 11 _ rfl,key 12 _ rfl,key 13 _ rfl,key 14 _ rfl,key 15 _ rfl⟩
   obtain⟨q0,q1,q2,q3,q4,q5,q6,q7,q8,q9,q10,q11,q12,q13,q14,q15,q16⟩:=HS wr (ag _ _);obtain⟨wc0,wc1,wc2⟩:=V0 wr (ag _ _);unfold ik at WC;clear hR jk gS oW hbd dD uJ oU zk XI iU HR HNM ei;go_wp2_with fail;go_region_held(fun W=>W.cell? (az (wb+1+1) 1)=some (Sq wb N N)/\W.cell? (az g (i*16))=some (Iq kd)/\W.cell? (az g (i*16+1))=some (Iq a0)/\W.cell? (az g (i*16+2))=some (Iq a1)/\W.cell? (az g (i*16+3))=some (Iq a2)/\W.cell? (az g (i*16+4))=some (Iq a3)/\W.cell? (az g (i*16+5))=some (Iq a4)/\W.cell? (az g (i*16+6))=some (Iq a5)/\W.cell? (az g (i*16+7))=some (Iq a6)/\W.cell? (az g (i*16+8))=some (Iq a7)/\W.cell? (az g (i*16+9))=some (Iq a8)/\W.cell? (az g (i*16+10))=some (Iq a9)/\W.cell? (az g (i*16+11))=some (Iq b0)/\W.cell? (az g (i*16+12))=some (Iq b1)/\W.cell? (az g (i*16+13))=some (.string tx)/\W.cell? (az g (i*16+14))=some (.slice p m c)/\W.cell? (az g (i*16+15))=some (Iq up)) (go_keep) (first|(go_at_call 56;refine am (WC _ (by first|exact ag _ _|exact(ag _ _).drew)) ?_;rintro e u1 ⟨x,rfl,hx,vM⟩;obtain⟨s0,s1,s2,s3,s4,s5,s6,s7,s8,s9,Ro,Rp,Rq,Rr,Rs,Rt,s16⟩:=HS u1 vM;obtain⟨wd0,wd1,Yy⟩:=V0 u1 vM)|(go_at_call 55;refine am (LN _ _) ?_;rintro e u2 ⟨rfl,Tn⟩;obtain rfl:=Tn.symm));all_goals
    have oC:=qH<|HNX _ vM;go_wp2;go_roundw;case rel=>exact⟨i,by omega,by go_num,oC⟩
    case measure=>simp[intOf]<;>omega
def EY(a b c d:Nat->Int)(k:Nat)(i:Nat):Value:=Iq (if i/4<k then(if i %4=0 then a (i/4)else if i %4=1 then b (i/4)else if i %4=2 then c (i/4)else d (i/4))else 0)
theorem Ps(w:World)  m   a b c d   T  :(w.alloc (.cells (madeCells #[Iq 0,Iq 0,Iq 0,Iq 0] (m*4)) T)).rowIs w.heap.size T (m*4) (EY a b c d 0):=by
 have:=World.rowIs_alloc w (madeCells #[Iq 0,Iq 0,Iq 0,Iq 0] (m*4)) T (EY a b c d 0) (fun i hi=>by
  rw[size_madeCells]at hi;unfold EY;rw[if_neg (by omega)];simp only[madeCells];have:i %4=0\/i %4=1\/i %4=2\/i %4=3:=by omega
  rcases this with e|e|e|e<;>simp[e,hi]);rw[size_madeCells]at this;omega
theorem Pr{W:World}{b}{T}{m k}{a b1 c d}(h:W.rowIs b T (m*4) (EY a b1 c d k))  x y z u  (hx:x=a k) (hy:y=b1 k) (hz:z=c k) (hu:u=d k):
 ((((W.setCell (az b (k*4)) (Iq x)).setCell (az b (k*4+1)) (Iq y)).setCell (az b (k*4+2)) (Iq z)).setCell (az b (k*4+3)) (Iq u)).rowIs b T (m*4) (EY a b1 c d (k+1)):=by subst hx hy hz hu;refine((((h.set (k*4) (Iq (a k))).set (k*4+1) (Iq (b1 k))).set (k*4+2) (Iq (c k))).set (k*4+3) (Iq (d k))).congr fun i hi=>?_;grind[EY]
def pG(W:World)(lb m:Nat)(a b c d:Nat->Int):Prop:=lb<W.heap.size/\∀j,j<m->W.cell? (az lb (j*4))=some (Iq (a j))/\W.cell? (az lb (j*4+1))=some (Iq (b j))/\W.cell? (az lb (j*4+2))=some (Iq (c j))/\W.cell? (az lb (j*4+3))=some (Iq (d j))
theorem T4{W}{lb}{T}{m}{a b c d}(h:W.rowIs lb T (m*4) (EY a b c d m)):pG W lb m a b c d:=by
 refine⟨h.lt,fun j hj=>⟨?_,?_,?_,?_⟩⟩;·rw[h.cell (by omega)];grind[EY]
 ·rw[h.cell (by omega)];grind[EY]
 ·rw[h.cell (by omega)];grind[EY]
 ·rw[h.cell (by omega)];grind[EY]
def Wi(U W:World)(lb m:Nat)(a b c d:Nat->Int):Prop:=pG W lb m a b c d/\U.heap.size<=lb/\Bt U W
theorem PH  L   ks   N   aD bM  :∃G:Nat->Int,∀g,bL L ks N aD bM g->∀j,j<ks.length->g j=G j:=by
 by_cases e:∃g,bL L ks N aD bM g;·obtain⟨g,hg⟩:=e;exact⟨g,fun g' wM=>wM.uniq hg⟩
 simp_all
theorem Dk{g h}{cg}:∀k,(∀j,j<k->g j=h j)->cm g cg k=cm h cg k:=fun k e=>by grind[cm,bo]
def j3(W:World)(B:Nat)(p:Option Addr)(m:Nat)(v:Nat->Int):Prop:=m=0\/∃b o,p=some (az b o)/\b<W.heap.size/\B<=b/\∀j,j<m->W.cell? (az b (o+j))=some (Iq (v j))
theorem j3.below{W W'}{B m}{p}{v}(h:j3 W B p m v)(hb:Bt W W'):j3 W' B p m v:=by
 rcases h with h|⟨b,o,e,h1,h2,h3⟩;·exact .inl h
 ·exact .inr ⟨b,o,e,bn h1 hb.size,h2,fun j hj=>(hb.cell (p:=(az b _)) h1).trans (h3 j hj)⟩
theorem j3.low{W}{B B' m}{p}{v}(h:j3 W B p m v)(hB:B'<=B):j3 W B' p m v:=by
 rcases h with h|⟨b,o,e,h1,h2,h3⟩;·exact .inl h
 ·exact .inr ⟨b,o,e,h1,by omega,h3⟩
theorem pC{f g}{n}(h:∀j,j<n->f j=g j):aA f (List.range n)=aA g (List.range n):=bo fun j hj=>h j (vB.1 hj)
theorem ci.congr{n}{mn mx wt}{r}{g g'}(h:ci n mn mx wt r g)(e:∀j,j<n->g j=g' j):ci n mn mx wt r g':=by
 rcases h with⟨h1,hb⟩|⟨h1,A,S,L,V,m,hp⟩;·refine .inl ⟨h1,fun j hj=>by rw[<-e j hj];exact hb.bd j hj,by rw[<-pC e];exact hb.sum,fun i k MY hk hlt=>?_⟩;rw[<-e k hk];exact hb.behind i k MY hk (by rw[e i (by omega)];exact hlt)
 ·exact .inr ⟨h1,A,S,L,V,m,hp.perm,hp.left,hp.pos,hp.weight,hp.full,hp.open_,hp.miss,hp.none_,hp.sorted,fun j hj=>by rw[<-e j hj];exact hp.is j hj⟩
theorem bL.congr{L}{ks}{N}{aD bM}{g g'}(h:bL L ks N aD bM g)(e:∀j,j<ks.length->g j=g' j):bL L ks N aD bM g':=ci.congr h e
theorem PI{u}{m lb}{L}{ks}{N}{aD bM}{G}(hmm:ks.length=m)(hm:m<=200)(h:eD u lb 0 m (fun j=>ti (ae L (aP ks j)) (N j)) (fun j=>aC (ae L (aP ks j)) 2) (fun j=>aC (ae L (aP ks j)) 3))(hG:∀g,bL L ks N aD bM g->∀j,j<ks.length->g j=G j):
 Cw 137 #[Iq aD,Iq bM,Sq lb m m] u fun e u'=>∃q cq,e=Rw (.slice q m cq)/\j3 u' u.heap.size q m G/\Bt u u'/\(ks=[]\/bL L ks N aD bM G):=by
 subst hmm;refine(lI _ ks.length _ _ _ aD bM u ⟨_,_,rfl,.inr ⟨lb,0,rfl,h⟩⟩ (by omega)).mono ?_;rintro e u' ⟨v,rfl,hs⟩;have hb:=hs.below;rcases hs with⟨h0,rfl,hu⟩|⟨q1,q2,Yh,rfl,q3,⟨gg,q4,q5⟩,q6⟩
 ·have hk:ks=[]:=by
   rcases h0 with h0|h0;·grind
   ·omega
  exact⟨none,0,by rw[hk];rfl,.inl (by rw[hk];rfl),hb,.inl hk⟩
 ·refine⟨_,_,rfl,.inr ⟨Yh,0,rfl,q4.1,q3,fun j hj=>?_⟩,hb,.inr (bL.congr q5 fun j hj=>hG gg q5 j hj)⟩;rw[<-hG gg q5 j hj];exact(q4.2 j hj).1
theorem TS{u}{m lb}{L}{ks}{N}{aD bM}{G}(hmm:ks.length=m)(hm:m<=200)(h:eD u lb 0 m (fun j=>ti (ae L (aP ks j)) (N j)) (fun j=>aC (ae L (aP ks j)) 2) (fun j=>aC (ae L (aP ks j)) 3))(hG:∀g,bL L ks N aD bM g->∀j,j<ks.length->g j=G j):
 Cw 138 #[Iq aD,Iq bM,Sq lb m m] u fun e u'=>∃q cq,e=Rw (.slice q m cq)/\j3 u' u.heap.size q m (cm G (cl bM))/\Bt u u':=by
 subst hmm;refine(zQ _ ks.length _ _ _ aD bM u ⟨_,_,rfl,.inr ⟨lb,0,rfl,h⟩⟩ (by omega)).mono ?_;rintro e u' ⟨v,rfl,hs,zck⟩;have hb:=hs.below;rcases hs with⟨h0,rfl,hu⟩|⟨q1,q2,Yh,g,rfl,q4,q5,q6⟩
 ·have hk:ks=[]:=by
   rcases h0 with h0|h0;·grind
   ·omega
  exact⟨none,0,by grind,.inl (by omega),hb⟩
 ·refine⟨_,_,rfl,.inr ⟨Yh,0,rfl,q4.1,zck _ _ _ _ rfl,fun j hj=>?_⟩,hb⟩;rw[<-Dk j (fun i hi=>hG g q5 i (by omega))];exact(q4.2 j hj).1
def j6(P:Nat->Nat->Int)(i:Nat):Value:=Iq (P (i/10) (i %10))
def bj(P:Nat->Nat->Int)(c t:Nat)(x:Int):Nat->Nat->Int:=fun q u=>if q=c/\u=t then x else P q u
theorem dB{W:World}{b N}{T}{P}(h:W.rowIs b T N (j6 P))  c t  (ht:t<10)  x  :(W.setCell (az b (c*10+t)) (Iq x)).rowIs b T N (j6 (bj P c t x)):=by refine(h.set (c*10+t) (Iq x)).congr fun i hi=>?_;grind[j6,bj]
theorem aW{W:World}{b n}{T}{P}(h:W.rowIs b T (n*10) (j6 P)){c t}(hc:c<n)(ht:t<10):W.cell? (az b (c*10+t))=some (Iq (P c t)):=by rw[h.cell (by omega)];grind[j6]
theorem pH.kept{W W'}{r n k}{H}{p}{aX off}(h:pH W p k aX off)(hm:bu W r H n)(hg:W.grownBy W' (some r)):pH W' p k aX off:=by
 rcases h with h|⟨b,o,e,h1,h2⟩;·exact .inl h
 ·by_cases hk:k=0;·exact .inl hk
  ·obtain⟨es,rL,hmp⟩:=hm.map;have bG:b≠r:=fun e2=>by subst e2;have:=(h2 0 (by omega)).1;simp[World.cell?,hmp]at this
   have hb:=hg.block b h1 (fun q=>bG (by grind));exact .inr ⟨b,o,e,bn h1 hg.size,fun j hj=>⟨(bU (a:=(az b (o+j*2))) hb).trans (h2 j hj).1,(bU (a:=(az b (o+j*2+1))) hb).trans (h2 j hj).2⟩⟩
structure Pw(U0 W:World)(r pb N:Nat)(P:Nat->Nat->Int)(H:Nat->Int->Int)(n:Nat):Prop where
 g:U0.grownBy W (some r)
 m:bu W r H n
 row:W.rowIs pb 76 (N*10) (j6 P)
theorem Pw.below{U0 W W'}{r pb N n}{P}{H}(h:Pw U0 W r pb N P H n)(hb:Bt W W'):Pw U0 W' r pb N P H n:=
 ⟨h.g.trans (ac hb),h.m.grown_below hb,rowIs_below h.row hb⟩
theorem Pw.grown{U0 W W'}{r pb N n n'}{P}{H}(h:Pw U0 W r pb N P H n)(hg:W.grownBy W' (some r))(hm:bu W' r H n')(bG:pb≠r):Pw U0 W' r pb N P H n':=
 ⟨h.g.trans hg,hm,qe h.row hg bG⟩
theorem Pw.set{U0 W}{r pb N n}{P}{H}(h:Pw U0 W r pb N P H n)(j5:U0.heap.size<=pb)(bG:pb≠r)  c t  (ht:t<10)  x  :Pw U0 (W.setCell (az pb (c*10+t)) (Iq x)) r pb N (bj P c t x) H n:=
 ⟨eG h.g (a:=(az pb _)) j5 _,h.m.set (a:=(az pb _)) bG _,dB h.row c t ht x⟩
theorem Pw.mono{U0 W}{r pb N n n'}{P}{H}(h:Pw U0 W r pb N P H n)(hn:n<=n'):Pw U0 W r pb N P H n':=⟨h.g,h.m.mono hn,h.row⟩
def dt(hh w:Int):Int:=max 0 (hh-w)
theorem DE(mb r pb N k kid nn:Nat)(P:Nat->Nat->Int)(H:Nat->Int->Int)(a0 a1 a2 a3 a4 a5 a6 a7 a8 a9 b0 b1 up:Int)(tx:ByteArray)(p:Option Addr)(m c:Nat)(sp:Option Addr)(sn sc:Nat)(aX off:Nat->Int)(U0 U:World)
 (hP:Hid (Pw U0 U r pb N P H nn)) (j5:U0.heap.size<=pb) (Ij:pb≠r) (hk:k<N) (hN:N<=1000) (hm:0<m) (XD:Hid (∃b o,p=some (az b o)/\b<U0.heap.size/\b≠r/\U0.cell? (az b o)=some (Iq (kid:Int)))) (hH:0<=H kid (P k 2)/\H kid (P k 2)<=100000) (h3:0<=P k 3/\P k 3<=100000)
 (HC:Hid (∀u,Pw U0 u r pb N P H nn->Cw 101 #[Pq mb,Iq (kid:Int),Iq (P k 2)] u fun e u'=>e=Rw (Iq (H kid (P k 2)))/\Hid (u.grownBy u' (some r))/\Hid (bu u' r H (nn+100))))
 (OF:Hid (∀u P' n',Pw U0 u r pb N P' H n'->Cw 102 #[Iq a0,.slice sp sn sc] u fun e u'=>e=Rw (Iq (fw a0 aX off sn))/\Hid (Bt u u'))):
 Cw 57 #[Pq mb,.pointer (some (az pb (k*10))),ik 4 a0 a1 a2 a3 a4 a5 a6 a7 a8 a9 b0 b1 tx (.slice p m c) up,.slice sp sn sc] U fun e U'=>e=Rw (.tuple #[])/\Pw U0 U' r pb N (bj (bj P k 9 (dt (H kid (P k 2)) (P k 3))) k 8 (min (max 0 (fw a0 aX off sn)) (dt (H kid (P k 2)) (P k 3)))) H (nn+100)/\Hid (∀b,b<U.heap.size->b≠r->b≠pb->U'.heap[b]?=U.heap[b]?):=by
 obtain⟨kb,ko,rfl,dD,hkr,Cx⟩:=XD.out;obtain⟨W1,cE⟩:=aj (U.alloc (.cells #[Iq 4,Iq a0,Iq a1,Iq a2,Iq a3,Iq a4,Iq a5,Iq a6,Iq a7,Iq a8,Iq a9,Iq b0,Iq b1,.string tx,.slice (some (az kb ko)) m c,Iq up] 100));obtain⟨A,hA⟩:=aj U.heap.size;have HB1:Hid (Bt U W1):=by rw[<-cE];exact((Gr.refl U).alloc _).below
 have bY:W1.heap[A]?=some (.cells #[Iq 4,Iq a0,Iq a1,Iq a2,Iq a3,Iq a4,Iq a5,Iq a6,Iq a7,Iq a8,Iq a9,Iq b0,Iq b1,.string tx,.slice (some (az kb ko)) m c,Iq up] 100 (0,0)):=by rw[<-cE,<-hA];exact heap_alloc_new _ _
 have Bo:Hid (Pw U0 W1 r pb N P H nn):=hP.below HB1;have _m:Hid (U.heap.size=A):=hA;have WU:A≠r:=by have:=hP.m.lt;omega
 have hpA:pb<A:=by rw[<-hA];exact hP.row.lt
 obtain⟨w,hw⟩:=aj (P k 2);obtain⟨hh,MX⟩:=aj (P k 3);obtain⟨y,hy⟩:=aj (H kid w);rw[hw]at HC hH⊢;rw[MX]at h3⊢;rw[hy]at HC hH⊢;have HS:Hid (∀u,Pw U0 u r pb N P H nn\/Pw U0 u r pb N P H (nn+100)->W1.grownBy u (some r)->u.cell? (az A 14)=some (.slice (some (az kb ko)) m c)/\u.cell? (az kb ko)=some (Iq (kid:Int))/\u.cell? (az pb (k*10+2))=some (Iq w)/\u.cell? (az pb (k*10+3))=some (Iq hh)):=fun u hu hg=>by
  have Xr:U0.grownBy u (some r)/\u.rowIs pb 76 (N*10) (j6 P):=by rcases hu with q|q<;>exact⟨q.g,q.row⟩
  have Cl:=(aS.1 bY).1;have hb:u.heap[A]?=W1.heap[A]?:=hg.block A Cl (fun e=>by grind);refine⟨by rw[Lib.cell_of_heap (hb.trans bY)];rfl,(bU (a:=(az kb ko)) (Xr.1.block kb dD (fun e=>hkr (by grind)))).trans Cx,?_,?_⟩;·rw[<-hw];exact aW Xr.2 hk (by omega)
  ·rw[<-MX];exact aW Xr.2 hk (by omega)
 have HAU:Hid (∀u,W1.grownBy u (some r)->u.heap[A]?=some (.cells #[Iq 4,Iq a0,Iq a1,Iq a2,Iq a3,Iq a4,Iq a5,Iq a6,Iq a7,Iq a8,Iq a9,Iq b0,Iq b1,.string tx,.slice (some (az kb ko)) m c,Iq up] 100 (0,0))):=fun u hg=>(hg.block A (aS.1 bY).1 (fun e=>by grind)).trans bY;have lp:Hid (∀u,(u=W1\/u=W1.drew)->Cw 101 #[Pq mb,Iq (kid:Int),Iq w] u fun e u'=>e=Rw (Iq y)/\Hid (W1.grownBy u' (some r))/\Hid (Pw U0 u' r pb N P H (nn+100))):=fun u hu=>by
  have UV:W1.grownBy u (some r):=by
   rcases hu with rfl|rfl;·exact ac (ag _ _)
   ·exact gx (ac (ag _ _))
  have sa:Pw U0 u r pb N P H nn:=by
   rcases hu with rfl|rfl;·exact Bo
   ·exact Bo.below (ag _ _).drew
  refine(HC u sa).mono ?_;rintro e u' ⟨rfl,q1,q2⟩;exact⟨rfl,UV.trans q1,sa.grown q1 q2 Ij⟩
 obtain⟨s1,s2,s3,s4⟩:=HS W1 (.inl Bo) (ac (ag _ _));obtain⟨rm,CU⟩:=aj (dt y hh);have hrv:max 0 (y-hh)=rm:=CU;rw[CU];have n1:¬A=pb:=by omega
 have n3:¬kb=pb:=by omega
 have n4:¬pb=kb:=by omega
 have qr:Hid (∀u n' P',Pw U0 u r pb N P' H n'->(∃v,u.cell? (az pb (k*10+9))=some v)/\u.frozen? (az pb (k*10+9))=false/\pb<u.heap.size/\(∃v,u.cell? (az pb (k*10+8))=some v)/\u.frozen? (az pb (k*10+8))=false):=fun u n' P' hu=>⟨⟨_,aW hu.row hk (by omega)⟩,hu.row.frozen _,hu.row.lt,⟨_,aW hu.row hk (by omega)⟩,hu.row.frozen _⟩;obtain⟨⟨v9,r9⟩,f9,l9,_⟩:=qr W1 nn P Bo;have xJ:Hid (∀u,Pw U0 u r pb N P H (nn+100)->W1.grownBy u (some r)->(u.setCell (az pb (k*10+9)) (Iq rm)).cell? (az A 14)=some (.slice (some (az kb ko)) m c)/\(u.setCell (az pb (k*10+9)) (Iq rm)).cell? (az kb ko)=some (Iq (kid:Int))/\(u.setCell (az pb (k*10+9)) (Iq rm)).cell? (az pb (k*10+2))=some (Iq w)/\(u.setCell (az pb (k*10+9)) (Iq rm)).cell? (az pb (k*10+3))=some (Iq hh)):=fun u hu hg=>by
  obtain⟨q1,q2,q3,q4⟩:=HS u (.inr hu) hg;refine⟨?_,?_,?_,?_⟩;·rw[dX _ _ _ _ (fun e=>by grind)];exact q1
  ·rw[dX _ _ _ _ (fun e=>by grind)];exact q2
  ·rw[dX _ _ _ _ (fun e=>by grind)];exact q3
  ·rw[dX _ _ _ _ (fun e=>by grind)];exact q4
 clear bY hP XD hy hw MX CU;unfold ik;go_enter func57,ntmps57;go_wp2_with fail;clear cE hA;have Z5:IntKind.i64.wrap (y-hh)=y-hh:=IntWalk.i64_in _ (by omega);go_cut[7]from 8 to 28 (fun _ wx=>Hid (Pw U0 wx r pb N (bj P k 9 rm) H (nn+100))/\Hid (∀b,b<U.heap.size->b≠r->b≠pb->wx.heap[b]?=U.heap[b]?)/\Hid (wx.heap[A]?=some (.cells #[Iq 4,Iq a0,Iq a1,Iq a2,Iq a3,Iq a4,Iq a5,Iq a6,Iq a7,Iq a8,Iq a9,Iq b0,Iq b1,.string tx,.slice (some (az kb ko)) m c,Iq up] 100 (0,0))));case first=>
  go_region_held(fun W=>W.cell? (az A 14)=some (.slice (some (az kb ko)) m c)/\W.cell? (az kb ko)=some (Iq (kid:Int))/\W.cell? (az pb (k*10+2))=some (Iq w)/\W.cell? (az pb (k*10+3))=some (Iq hh)) (go_keep) (first|(go_at_call 101;refine am (lp _ (by grind)) ?_;rintro e u1 ⟨rfl,xZ,Nt⟩;obtain⟨t1,t2,t3,t4⟩:=HS u1 (.inr Nt) xZ;obtain⟨⟨v9u,r9u⟩,f9u,l9u,_⟩:=qr u1 _ _ Nt;obtain⟨o1,o2,o3,o4⟩:=xJ u1 Nt xZ));all_goals go_wp2_with fail
  all_goals go_meet
  all_goals(refine⟨?_,?_,?_⟩)
  all_goals first
   |exact Nt.set j5 Ij k 9 (by omega) rm
   |exact fun b h1 h2 h3=>(cF u1 (az pb (k*10+9)) _ b h3).trans ((xZ.block b (bn h1 HB1.size) (fun e=>h2 (by grind))).trans (HB1.block b h1))
   |exact(cF u1 (az pb (k*10+9)) _ A n1).trans (HAU u1 xZ)
 case rest=>
  obtain⟨VP,HFc,_n⟩:=hcut;have a1c:wc.cell? (az A 1)=some (Iq a0):=by rw[Lib.cell_of_heap _n.out];rfl
  have c9:wc.cell? (az pb (k*10+9))=some (Iq rm):=by rw[aW VP.row hk (by omega)];unfold bj;rw[if_pos ⟨rfl,rfl⟩]
  obtain⟨ov,OR⟩:=aj (fw a0 aX off sn);rw[OR]at OF;have Sb:Hid (∀u,(u=wc\/u=wc.drew)->Cw 102 #[Iq a0,.slice sp sn sc] u fun e u'=>e=Rw (Iq ov)/\Hid (Bt wc u')/\u'.cell? (az A 1)=some (Iq a0)/\u'.cell? (az pb (k*10+9))=some (Iq rm)):=fun u hu=>by
   have iY:Bt wc u:=by
    rcases hu with rfl|rfl;·exact ag _ _
    ·exact(ag _ _).drew
   refine(OF u _ _ (VP.below iY)).mono ?_;rintro e u' ⟨rfl,q⟩;have qZ:=iY.trans (q.mono iY.size);exact⟨rfl,qZ,(qZ.cell (p:=(az A 1)) (aS.1 _n).1).trans a1c,(qZ.cell (p:=(az pb _)) VP.row.lt).trans c9⟩
  have HOV:Hid (fw a0 aX off sn=ov):=OR;have gT:Hid (∀u x,Bt wc u->x=min (max 0 ov) rm->Pw U0 (u.setCell (az pb (k*10+8)) (Iq x)) r pb N (bj (bj P k 9 rm) k 8 (min (max 0 (fw a0 aX off sn)) rm)) H (nn+100)):=fun u x hu hx=>by rw[HOV.out,<-hx];exact(VP.below hu).set j5 Ij k 8 (by omega) x
  have HUW:Hid (U.heap.size<=wc.heap.size):=by have:=(aS.1 _n).1;show _<=_;have:=_m.out;omega
  have HFF:Hid (∀(u:World) (x:Value),Bt wc u->∀b,b<U.heap.size->b≠r->b≠pb->(u.setCell (az pb (k*10+8)) x).heap[b]?=U.heap[b]?):=fun u x hu b h1 h2 h3=>(cF u (az pb (k*10+8)) _ b h3).trans ((hu.block b (bn h1 HUW)).trans (HFc b h1 h2 h3));have HR8:Hid (∀u,Bt wc u->(∃v,u.cell? (az pb (k*10+8))=some v)/\u.frozen? (az pb (k*10+8))=false/\pb<u.heap.size):=fun u hu=>by obtain⟨_,_,q3,q4,q5⟩:=qr u _ _ (VP.below hu);exact⟨q4,q5,q3⟩
  have Nx:Hid (∀(u:World) (x:Int),u.cell? (az A 1)=some (Iq a0)->u.cell? (az pb (k*10+9))=some (Iq rm)->(u.setCell (az pb (k*10+8)) (Iq x)).cell? (az A 1)=some (Iq a0)/\(u.setCell (az pb (k*10+8)) (Iq x)).cell? (az pb (k*10+9))=some (Iq rm)):=fun u x q1 q2=>by
   refine⟨?_,?_⟩;·rw[dX _ _ _ _ (fun e=>by injection e with e _ _;omega)];exact q1
   ·rw[dX _ _ _ _ (fun e=>by injection e with _ e _;omega)];exact q2
  clear OR s1 s2 s3 s4 r9 f9 lp HS xJ qr hrv Z5;go_wp2_with fail;go_region_held(fun W=>W.cell? (az A 1)=some (Iq a0)/\W.cell? (az pb (k*10+9))=some (Iq rm)) (go_keep) (first|(go_at_call 102;refine am (Sb _ (by grind)) ?_;rintro e u1 ⟨rfl,vM,t1,t2⟩;obtain⟨⟨v8u,r8u⟩,f8u,l8u⟩:=HR8 u1 vM;obtain⟨o1,o2⟩:=Nx u1 (min (max 0 ov) rm) t1 t2));all_goals go_wp2;go_end0;exact⟨rfl,gT _ _ vM (by omega),HFF u1 _ vM⟩
def iG(a b:Nat->Int):Nat->List Value
 |0=>[]
 |k+1=>iG a b k++[Iq (a k),Iq (b k)]
theorem mJ  a b  :∀k,(iG a b k).length=k*2
 |0=>rfl
 |k+1=>by rw[iG,bf,mJ a b k];grind
theorem uW  a b  :∀k j,j<k->(iG a b k)[j*2]?=some (Iq (a j))/\(iG a b k)[j*2+1]?=some (Iq (b j))
 |0,j,h=>by omega
 |k+1,j,h=>by
  have hl:=mJ a b k;by_cases e:j<k;·have:=uW a b k j e;grind[iG]
  grind[iG]
theorem cell_two_new(w:World)  x y   t  :∀j u,[x,y][j]?=some u->(w.alloc (.cells #[x,y] t)).cell? (((az w.heap.size 0):Addr).add j)=some u:=by
 intro j u h;have e:((az w.heap.size 0):Addr).add j=(az w.heap.size (0+j)):=by unfold Addr.add;split<;>simp_all
 simp_all
theorem C5:(prog.info? 116).map (fun i=>(i.zero,i.size,i.bytes))=some (some (.agg #[Iq 0,Iq 0]),2,16):=by kernel_rfl
theorem Tx:(prog.info? 74).map (fun i=>(i.zero,i.size,i.bytes))=some (some (.agg #[Iq 0,Iq 0,Iq 0,Iq 0]),4,32):=by kernel_rfl
theorem Tw(f r m:Nat)(x y a b s bM:Int)(X Y P Q G:Nat->Int)(L:List Nd)(ks:List Nat)(N:Nat->Int)(H:Nat->Int->Int)(n:Nat)(v:Value)(U0 U:World)(hG:∀g,bL L ks N s bM g->∀j,j<ks.length->g j=G j)
 (hf:Hid (f=103/\s=a/\(∀k,X k=x+cm G (cl bM) k/\Y k=y/\P k=G k/\Q k=b)\/f=105/\s=b/\∀k,X k=x/\Y k=y+cm G (cl bM) k/\P k=a/\Q k=G k))
 (hmm:ks.length=m) (hm:m<=200) (hr:r<U0.heap.size) (hx:-1000000000000<=x/\x<=1000000000000) (hy:-1000000000000<=y/\y<=1000000000000) (ha:0<=a/\a<=100000) (hb:0<=b/\b<=100000) (hv:Hid (iq U0 U r m L ks N H n v)):
 Cw f #[rv x y a b,Iq bM,v] U fun e U'=>∃lb,e=Rw (Sq lb m m)/\Wi U U' lb m X Y P Q/\(ks=[]\/bL L ks N s bM G)/\∀j,j<m->0<=G j/\G j<=100000:=by
 have oV:prog.follows .mixedOrders=true:=by kernel_rfl
 obtain⟨i0,hi,eK,fZ,iD⟩:=info_parts Tx;have gR:∀W:World,(Instr.makeSlice 146 (Iq (m:Int)) (Iq (m:Int))).run prog W=.ok (Sq W.heap.size m m) (W.alloc (.cells (madeCells #[Iq 0,Iq 0,Iq 0,Iq 0] (m*4)) 74)):=fun W=>by have:=run_make (P:=prog) W 146 74 i0 _ underlying146 hi eK .i64 .i64 m m (by omega) (jL _) (by grind) (by omega);rw[fZ,oy]at this;exact this
 clear hi eK fZ iD;obtain⟨A,hA⟩:=aj U.heap.size;obtain⟨lb,vv⟩:=hv.out;obtain⟨rfl,w1,w2,w3,w4⟩:=vv;have HVO:=qH<|w1;have nx:=bn hr w3.size;obtain⟨W1,cE⟩:=aj ((U.alloc (.cells #[Iq x,Iq y,Iq a,Iq b] 74)).alloc (.cells (madeCells #[Iq 0,Iq 0,Iq 0,Iq 0] (m*4)) 74));have HB1:Hid (Bt U W1):=by rw[<-cE];exact(((Gr.refl U).alloc _).alloc _).below
 have bY:W1.heap[A]?=some (.cells #[Iq x,Iq y,Iq a,Iq b] 74 (0,0)):=by rw[<-cE,<-hA,fC _ _ _ (by simp_all)];exact heap_alloc_new _ _
 have hrow:W1.rowIs (A+1) 74 (m*4) (EY X Y P Q 0):=by rw[<-cE];have:=Ps (U.alloc (.cells #[Iq x,Iq y,Iq a,Iq b] 74)) m X Y P Q 74;rw[aO,hA]at this;exact this
 have HS:Hid (∀u,Bt W1 u->u.cell? (az A 0)=some (Iq x)/\u.cell? (az A 1)=some (Iq y)/\u.cell? (az A 2)=some (Iq a)/\u.cell? (az A 3)=some (Iq b)):=fun u hu=>by have hb2:=(hu.block A (aS.1 bY).1).trans bY;refine⟨?_,?_,?_,?_⟩<;>(rw[Lib.cell_of_heap hb2];rfl)
 have SP:Hid (∀u q0,q0=s->Bt W1 u->Cw 137 #[Iq q0,Iq bM,Sq lb m m] u fun e u'=>∃q cq,e=Rw (.slice q m cq)/\Hid (j3 u' W1.heap.size q m G)/\Hid (Bt W1 u')/\Hid (Bt u u')/\Hid (ks=[]\/bL L ks N s bM G)):=fun u q0 hq hu=>by have X4:Bt U u:=HB1.trans (hu.mono HB1.size);rw[hq];refine(PI hmm hm (HVO.below X4) hG).mono ?_;rintro e u' ⟨q,cq,rfl,q1,q2,q3⟩;exact⟨q,cq,rfl,q1.low hu.size,hu.trans (q2.mono hu.size),q2,q3⟩
 have OF:Hid (∀u q0,q0=s->Bt W1 u->Cw 138 #[Iq q0,Iq bM,Sq lb m m] u fun e u'=>∃q cq,e=Rw (.slice q m cq)/\Hid (j3 u' W1.heap.size q m (cm G (cl bM)))/\Hid (Bt W1 u')/\Hid (Bt u u')):=fun u q0 hq hu=>by have X4:Bt U u:=HB1.trans (hu.mono HB1.size);rw[hq];refine(TS hmm hm (HVO.below X4) hG).mono ?_;rintro e u' ⟨q,cq,rfl,q1,q2⟩;exact⟨q,cq,rfl,q1.low hu.size,hu.trans (q2.mono hu.size),q2⟩
 have HROW:=qH<|hrow;have Iw:=qH<|HROW.lt;have HAL:=qH<|(aS.1 bY).1;have Ux:=qH<|hA;obtain⟨z0,z1,z2,z3⟩:=HS W1 (ag _ _);clear bY hrow w1 w2 w3 w4 hv;unfold rv;rcases hf.out with⟨rfl,hs,HX⟩|⟨rfl,hs,HX⟩;all_goals
  have HXX:=qH HX;have HQ:=qH hs.symm;clear hs HX hf;first
   |go_enter func103,ntmps103
   |go_enter func105,ntmps105
  go_wp2_with fail;clear cE hA gR;go_cut[8,9]from 14 to 23 (fun s1 s2 wx=>∃q1 c1 q2 c2,s1=.slice q1 m c1/\s2=.slice q2 m c2/\Hid (j3 wx W1.heap.size q1 m G)/\Hid (j3 wx W1.heap.size q2 m (cm G (cl bM)))/\Hid (Bt W1 wx)/\Hid (ks=[]\/bL L ks N s bM G));case first=>
   go_region_held(fun W=>W.cell? (az A 2)=some (Iq a)/\W.cell? (az A 3)=some (Iq b)) (go_keep) (first
    |(go_at_call 137;refine am (SP _ _ HQ (by first|exact ag _ _|exact(ag _ _).drew|exact YJ)) ?_;rintro e us ⟨qs,cqs,rfl,_J,VB,HXs,_Q⟩;obtain⟨s0,s1,s2,s3⟩:=HS us VB)
    |(go_at_call 137;refine am (SP _ _ HQ YJ) ?_;rintro e us ⟨qs,cqs,rfl,_J,VB,HXs,_Q⟩;obtain⟨s0,s1,s2,s3⟩:=HS us VB)
    |(go_at_call 138;refine am (OF _ _ HQ (by first|exact VB|exact ag _ _|exact(ag _ _).drew)) ?_;rintro e uo ⟨qo,cqo,rfl,HIo,YJ,HXo⟩;obtain⟨o0,o1,o2,o3⟩:=HS uo YJ));all_goals go_wp2_with fail
   all_goals go_meet
   all_goals first
    |exact⟨qs,cqs,qo,cqo,rfl,rfl,_J.below HXo,HIo,YJ,_Q⟩
    |exact⟨qs,cqs,qo,cqo,rfl,rfl,_J,HIo.below HXs,VB,_Q⟩
  case rest=>
   obtain⟨q1,c1,q2,c2,rfl,rfl,HI1,HI2,_r,HKc⟩:=hcut;have x_:Hid (∀j,j<m->0<=G j/\G j<=100000):=fun j hj=>by
    rcases HKc.out with e|hg;·grind
    ·have t1:=(ci.tiles hg (fY _ _ _)).1 j (by omega);have t2:=fY (fun j=>ti (ae L (aP ks j)) (N j)) (fun j=>aC (ae L (aP ks j)) 2) (fun j=>aC (ae L (aP ks j)) 3) j;omega
   have Ni:Hid (∀j,j<m->0<=cm G (cl bM) j/\cm G (cl bM) j<=40000000):=fun j hj=>by have:=lG x_ (dm bM) j (by omega);omega
   have HRC:=qH<|rowIs_below HROW _r;have BO:=qH<|HS wc _r;clear SP OF z0 z1 z2 z3 HS HROW;go_wp2_with fail;go_loopw[26] (fun kv wr=>∃k:Nat,k<=m/\kv=Iq (k:Int)/\Hid (wr.rowIs (A+1) 74 (m*4) (EY X Y P Q k))/\Hid (Bt U wr)/\Hid (∀bq,bq≠A+1->bq<wc.heap.size->wr.heap[bq]?=wc.heap[bq]?)/\Hid (wc.heap.size<=wr.heap.size)) (fun kv _=>m-(intOf kv).toNat);case atStart=>exact⟨0,bc _,rfl,HRC,HB1.trans (_r.mono HB1.size),fun _ _ _=>rfl,ai _⟩
   case round=>
    obtain⟨k,hk,rfl,HR,Ix,HO,HZ⟩:=hrel;by_cases hlt:k<m
    ·have aK:(k:Int)<(m:Int):=by omega
     obtain⟨b1,o1,rfl,l1,n1,d1⟩:=HI1.resolve_left (by omega);obtain⟨b2,o2,rfl,l2,n2,d2⟩:=HI2.resolve_left (by omega);have Cl:=HAL.out;have hA1:A+1<W1.heap.size\/W1.heap.size<=A+1:=by omega
     have Et:=Iw.out;have c0:=(bU (HO A (by omega) (by omega))).trans BO.1;have c1:=(bU (HO A (by omega) (by omega))).trans BO.2.1;have c2:=(bU (HO A (by omega) (by omega))).trans BO.2.2.1;have c3:=(bU (HO A (by omega) (by omega))).trans BO.2.2.2;have e1:=(bU (HO b1 (by omega) l1)).trans (d1 k hlt);have e2:=(bU (HO b2 (by omega) l2)).trans (d2 k hlt);have Cu:=x_ k hlt;have OQ:=Ni k hlt;have MW:=fun j=>HR.frozen j;have hv0:∃v,wr.cell? (az (A+1) (k*4))=some v:=⟨_,HR.cell (by omega)⟩;have zl:∃v,wr.cell? (az (A+1) (k*4+1))=some v:=⟨_,HR.cell (by omega)⟩;have CZ:∃v,wr.cell? (az (A+1) (k*4+2))=some v:=⟨_,HR.cell (by omega)⟩;have X7:∃v,wr.cell? (az (A+1) (k*4+3))=some v:=⟨_,HR.cell (by omega)⟩;obtain⟨v0,hv0⟩:=hv0;obtain⟨v1,zl⟩:=zl;obtain⟨v2,CZ⟩:=CZ;obtain⟨v3,X7⟩:=X7;obtain⟨gk,wO⟩:=aj (G k);obtain⟨ok,Tf⟩:=aj (cm G (cl bM) k);have HV:=qH<|HXX k;rw[wO,Tf]at HV;have HNX:Hid (∀p0 p1 p2 p3:Int,X k=p0/\Y k=p1/\P k=p2/\Q k=p3->Hid (((((wr.setCell (az (A+1) (k*4)) (Iq p0)).setCell (az (A+1) (k*4+1)) (Iq p1)).setCell (az (A+1) (k*4+2)) (Iq p2)).setCell (az (A+1) (k*4+3)) (Iq p3)).rowIs (A+1) 74 (m*4) (EY X Y P Q (k+1)))):=fun p0 p1 p2 p3 h=>Pr HR p0 p1 p2 p3 h.1.symm h.2.1.symm h.2.2.1.symm h.2.2.2.symm;have YX:Hid (∀p0 p1 p2 p3:Value,Bt U ((((wr.setCell (az (A+1) (k*4)) p0).setCell (az (A+1) (k*4+1)) p1).setCell (az (A+1) (k*4+2)) p2).setCell (az (A+1) (k*4+3)) p3)):=fun p0 p1 p2 p3=>(((Ix.setCell (p:=(az (A+1) _)) (by rw[Ux.out];show A<=A+1;omega) _).setCell (p:=(az (A+1) _)) (by rw[Ux.out];show A<=A+1;omega) _).setCell (p:=(az (A+1) _)) (by rw[Ux.out];show A<=A+1;omega) _).setCell (p:=(az (A+1) _)) (by rw[Ux.out];show A<=A+1;omega) _;have VL:Hid (∀p0 p1 p2 p3:Value,∀bq,bq≠A+1->bq<wc.heap.size->((((wr.setCell (az (A+1) (k*4)) p0).setCell (az (A+1) (k*4+1)) p1).setCell (az (A+1) (k*4+2)) p2).setCell (az (A+1) (k*4+3)) p3).heap[bq]?=wc.heap[bq]?):=fun p0 p1 p2 p3 bq h1 h2=>by rw[cF _ (az (A+1) (k*4+3)) _ _ h1,cF _ (az (A+1) (k*4+2)) _ _ h1,cF _ (az (A+1) (k*4+1)) _ _ h1,cF _ (az (A+1) (k*4)) _ _ h1];exact HO bq h1 h2
     rw[wO]at Cu e1;rw[Tf]at OQ e2;have eu:IntKind.i64.wrap (x+ok)=x+ok:=IntWalk.i64_in _ (by omega);have xR:IntKind.i64.wrap (y+ok)=y+ok:=IntWalk.i64_in _ (by omega);have xM:=HR.lt;have XL:¬A=A+1:=by omega
     have zcw:¬A+1=A:=by omega
     have Kf:¬b1=A+1:=by omega
     have zcx:¬A+1=b1:=by omega
     have zjP:¬b2=A+1:=by omega
     have zjQ:¬A+1=b2:=by omega
     clear wO Tf Cl hA1 Et d1 d2 HR Ix HO l1 l2 n1 n2 x_ Ni;go_wp2_with fail;go_region_held(fun W=>W.cell? (az A 0)=some (Iq x)/\W.cell? (az A 1)=some (Iq y)/\W.cell? (az A 2)=some (Iq a)/\W.cell? (az A 3)=some (Iq b)/\W.cell? (az b1 (o1+k))=some (Iq gk)/\W.cell? (az b2 (o2+k))=some (Iq ok)) (go_keep) (fail);all_goals
      go_wp2;go_roundw;case rel=>exact⟨k+1,hlt,by go_num,HNX _ _ _ _ HV,by first|exact(YX _ _ _ _).drew|exact YX _ _ _ _,VL _ _ _ _,by show _<=_;simpa using HZ.out⟩
      case measure=>simp[intOf];omega
    ·have aK:¬(k:Int)<(m:Int):=by omega
     obtain rfl:k=m:=by omega
     go_wp2;go_ret;exact⟨A+1,rfl,⟨T4 HR,by rw[Ux.out];omega,Ix⟩,HKc,x_⟩
