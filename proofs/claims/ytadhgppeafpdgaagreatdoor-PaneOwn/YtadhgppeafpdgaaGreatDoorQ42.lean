import Derived.Test.YtadhgppeafpdgaaGreatDoorQ40
import Derived.Test.YtadhgppeafpdgaaGreatDoorQ26
import Derived.Test.YtadhgppeafpdgaaGreatDoorQ04
import Derived.Test.YtadhgppeafpdgaaGreatDoorQ35
import Derived.Test.YtadhgppeafpdgaaGreatDoorQ41
set_option linter.all false
set_option maxRecDepth 100000
set_option maxHeartbeats 16000000
namespace Go.Proofs.YtadhgppeafpdgaaGreatDoor
open Go.RowKit Go.Sort Go.Proofs.Tryz
theorem Dv(mb r g cap wb i X:Nat)(L:List Nd)(KV:Nat->Value)(Wd:Nat->Int)(U:World)(hV:tD U mb r g cap wb L KV Wd)(hX:U.cell? (aq X 0)=some (Pq mb))(hi:i<L.length):
 Cw 202 #[Iq (i:Int),Pq X] U fun e U'=>e=Rw (Iq (Wd i))/\U'=U:=by
 have qk:=hV.ms;have m1:U.cell? (aq mb 1)=some (Sq wb L.length L.length):=by unfold Ms at qk;rw[Lib.cell_of_heap qk];rfl
 have c1:=hV.wd i hi;have hiI:(i:Int)<(L.length:Int):=by omega
 clear hV qk;go_enter func202,ntmps202;go_wp2;go_ret;simp_all
def iG(U W:World)(r m:Nat)(L:List Nd)(ks:List Nat)(N:Nat->Int)(H:Nat->Int->Int)(n:Nat)(v:Value):Prop:=∃lb,v=Sq lb m m/\VZ U W r lb m (fun j=>LG (ac L (bf ks j)) (N j)) (fun j=>aC (ac L (bf ks j)) 2) (fun j=>aC (ac L (bf ks j)) 3) H n
theorem pm(mb r g cap wb nn:Nat)(L:List Nd)(ks:List Nat)(KV:Nat->Value)(Wd:Nat->Int)(H:Nat->Int->Int)(kd a0 a1 a2 a3 a4 a5 a6 a7 a8 a9 b0 b1 up:Int)(tx:ByteArray)(p:Option Addr)(c:Nat)(U:World)
 (hV:Hid (tD U mb r g cap wb L KV Wd)) (hM:Hid (aW U r H nn)) (hm:ks.length<=1000) (hks:Hid (∀j,j<ks.length->bf ks j<L.length)) (hL:L.length<=1000000) (hK:Hid (gm U r p ks.length (fun j=>(bf ks j:Int)))) (hN:Hid (∀i,i<L.length->0<=Wd i/\Wd i<=100000)):
 Cw 161 #[Pq mb,fO kd a0 a1 a2 a3 a4 a5 a6 a7 a8 a9 b0 b1 tx (.slice p ks.length c) up] U fun e U'=>∃v,e=Rw v/\iG U U' r ks.length L ks (fun j=>Wd (bf ks j)) H nn v:=by
 have hmf:∀(fn:Fn) (first cap:Array Value) (w:World),(Instr.makeFunc fn first cap).run prog w=.ok (.func fn first cap) w:=fun _ _ _ _=>rfl;obtain⟨m,hmm⟩:=af ks.length;obtain⟨W1,bZ⟩:=af ((U.alloc (.cells #[Pq mb] 147)).alloc (.cells #[Iq kd,Iq a0,Iq a1,Iq a2,Iq a3,Iq a4,Iq a5,Iq a6,Iq a7,Iq a8,Iq a9,Iq b0,Iq b1,.string tx,.slice p m c,Iq up] 94));obtain⟨A,hA⟩:=af U.heap.size;have oi:Bt U W1:=by rw[<-bZ];exact(((Gr.refl U).alloc _).alloc _).below
 have RJ:U.grownBy W1 (some r):=aa oi;have oj:=hM.lt;have Tk:W1.heap[A]?=some (.cells #[Pq mb] 147 (0,0)):=by rw[<-bZ,<-hA,cG _ _ _ (by simp_all)];exact heap_alloc_new _ _
 have HWN:Hid (Cw 201 #[Pq mb,.slice p m c,.func (.func 202) #[] #[Pq A]] W1 fun e U'=>∃v,e=Rw v/\iG U U' r m L ks (fun j=>Wd (bf ks j)) H nn v):=by
  have On:=hV.grown RJ;have hz:∀j,cS (fun _=>0) j=0:=fun j=>by induction j with
   |zero=>rfl
   |succ j ih=>grind[cS]
  refine(yb _ _ _ mb r g cap wb nn m L KV Wd H (bf ks) (fun j=>Wd (bf ks j)) (fun _=>0) p c W1 (.inl ⟨rfl,A,rfl,rfl⟩) On (hM.grown_below oi) (by omega) (by simp_all) hL (by rw[<-hmm];exact hK.grown RJ) (fun j hj=>hN _ (hks j (by omega))) (fun j u hj hu KF=>?_)).mono ?_
  ·refine(Dv mb r g cap wb (bf ks j) A L KV Wd u (On.grown hu) ?_ (hks j (by omega))).mono ?_;·have EY:=(az.1 Tk).1;rw[Lib.cell_of_heap ((hu.block A EY (fun e=>by grind)).trans Tk)];rfl
   ·rintro e u' ⟨rfl,rfl⟩;exact⟨rfl,aa (ag _ _),KF.mono (by grind)⟩
  ·rintro e U' ⟨lb,rfl,h1,h2,h3,h4⟩;refine⟨_,rfl,lb,rfl,h1,aH oi.size h2,RJ.trans h3,h4.mono (by grind)⟩
 have h14:W1.cell? (aq (A+1) 14)=some (.slice p m c):=by rw[<-bZ,World.cell?_alloc_at _ _ _ _ (by simp_all)];rfl
 have h0:W1.cell? (aq A 0)=some (Pq mb):=by rw[Lib.cell_of_heap Tk];rfl
 rw[hmm];unfold fO;clear oi RJ oj Tk hV hM hks hK hN;go_enter func161,ntmps161;go_wp2_with(go_at_call 201;refine HWN.mono ?_;rintro e U' ⟨v,rfl,ho⟩);go_ret;simp_all
theorem Bg(mb r i X Y n k:Nat)(w:Int)(H:Nat->Int->Int)(U:World)(hX:U.cell? (aq X 0)=some (Pq mb))(hY:U.cell? (aq Y 0)=some (Iq w))
 (HC:Hid (Cw 158 #[Pq mb,Iq (i:Int),Iq w] U fun e u'=>e=Rw (Iq (H i w))/\Hid (U.grownBy u' (some r))/\Hid (aW u' r H k))):
 Cw 203 #[Iq (i:Int),Pq X,Pq Y] U fun e u'=>e=Rw (Iq (H i w))/\Hid (U.grownBy u' (some r))/\Hid (aW u' r H k):=by go_enter func203,ntmps203;go_wp2_with(go_at_call 158;refine HC.mono ?_;rintro e U' ⟨rfl,h1,h2⟩);go_ret;simp_all
theorem yY(mb r g cap wb nn:Nat)(w:Int)(L:List Nd)(ks:List Nat)(kc:Nat->Nat)(KV:Nat->Value)(Wd:Nat->Int)(H:Nat->Int->Int)(kd a0 a1 a2 a3 a4 a5 a6 a7 a8 a9 b0 b1 up:Int)(tx:ByteArray)(p:Option Addr)(c:Nat)(U:World)
 (hV:Hid (tD U mb r g cap wb L KV Wd)) (hM:Hid (aW U r H nn)) (hm:ks.length<=1000) (hks:Hid (∀j,j<ks.length->bf ks j<L.length)) (hL:L.length<=1000000) (hK:Hid (gm U r p ks.length (fun j=>(bf ks j:Int)))) (hN:Hid (∀i w,i<L.length->0<=H i w/\H i w<=100000))
 (HK:Hid (∀j u n',j<ks.length->U.grownBy u (some r)->aW u r H n'->n'<=nn+cS kc j->Cw 158 #[Pq mb,Iq (bf ks j:Int),Iq w] u fun e u'=>e=Rw (Iq (H (bf ks j) w))/\Hid (u.grownBy u' (some r))/\Hid (aW u' r H (nn+cS kc (j+1))))):
 Cw 163 #[Pq mb,fO kd a0 a1 a2 a3 a4 a5 a6 a7 a8 a9 b0 b1 tx (.slice p ks.length c) up,Iq w] U fun e U'=>∃v,e=Rw v/\iG U U' r ks.length L ks (fun j=>H (bf ks j) w) H (nn+cS kc ks.length) v:=by
 have hmf:∀(fn:Fn) (first cap:Array Value) (w:World),(Instr.makeFunc fn first cap).run prog w=.ok (.func fn first cap) w:=fun _ _ _ _=>rfl;obtain⟨m,hmm⟩:=af ks.length;obtain⟨W1,bZ⟩:=af (((U.alloc (.cells #[Pq mb] 147)).alloc (.cells #[Iq kd,Iq a0,Iq a1,Iq a2,Iq a3,Iq a4,Iq a5,Iq a6,Iq a7,Iq a8,Iq a9,Iq b0,Iq b1,.string tx,.slice p m c,Iq up] 94)).alloc (.cells #[Iq w] 3));obtain⟨A,hA⟩:=af U.heap.size;have oi:Bt U W1:=by rw[<-bZ];exact((((Gr.refl U).alloc _).alloc _).alloc _).below
 have RJ:U.grownBy W1 (some r):=aa oi;have oj:=hM.lt;have Tk:W1.heap[A]?=some (.cells #[Pq mb] 147 (0,0)):=by rw[<-bZ,<-hA,cG _ _ _ (by rw[aA,aA];omega),cG _ _ _ (by simp_all)];exact heap_alloc_new _ _
 have hYc:W1.heap[A+1+1]?=some (.cells #[Iq w] 3 (0,0)):=by have:=heap_alloc_new ((U.alloc (.cells #[Pq mb] 147)).alloc (.cells #[Iq kd,Iq a0,Iq a1,Iq a2,Iq a3,Iq a4,Iq a5,Iq a6,Iq a7,Iq a8,Iq a9,Iq b0,Iq b1,.string tx,.slice p m c,Iq up] 94)) (.cells #[Iq w] 3);rw[aA,aA,hA,bZ]at this;exact this
 have HWN:Hid (Cw 201 #[Pq mb,.slice p m c,.func (.func 203) #[] #[Pq A,Pq (A+1+1)]] W1 fun e U'=>∃v,e=Rw v/\iG U U' r m L ks (fun j=>H (bf ks j) w) H (nn+cS kc m) v):=by
  have On:=hV.grown RJ;refine(yb _ _ _ mb r g cap wb nn m L KV Wd H (bf ks) (fun j=>H (bf ks j) w) kc p c W1 (.inr ⟨rfl,A,A+1+1,rfl,rfl⟩) On (hM.grown_below oi) (by omega) (by simp_all) hL (by rw[<-hmm];exact hK.grown RJ) (fun j hj=>hN _ _ (hks j (by omega))) (fun j u hj hu KF=>?_)).mono ?_
  ·have EY:=(az.1 Tk).1;have hYl:=(az.1 hYc).1;refine Bg mb r (bf ks j) A (A+1+1) (nn+cS kc j) (nn+cS kc (j+1)) w H u ?_ ?_ (HK j u _ (by omega) (RJ.trans hu) KF (ae _));·rw[Lib.cell_of_heap ((hu.block A EY (fun e=>by grind)).trans Tk)];rfl
   ·rw[Lib.cell_of_heap ((hu.block (A+1+1) hYl (fun e=>by grind)).trans hYc)];rfl
  ·rintro e U' ⟨lb,rfl,h1,h2,h3,h4⟩;exact⟨_,rfl,lb,rfl,h1,aH oi.size h2,RJ.trans h3,h4⟩
 have h14:W1.cell? (aq (A+1) 14)=some (.slice p m c):=by rw[<-bZ,World.cell?_alloc_past _ _ _ (by simp_all),World.cell?_alloc_at _ _ _ _ (by simp_all)];rfl
 have h0:W1.cell? (aq A 0)=some (Pq mb):=by rw[Lib.cell_of_heap Tk];rfl
 rw[hmm];unfold fO;clear oi RJ oj Tk hYc hV hM hks hK hN HK;go_enter func163,ntmps163;go_wp2_with(go_at_call 201;refine HWN.mono ?_;rintro e U' ⟨v,rfl,ho⟩);go_ret;simp_all
theorem DI{U u}{r m n}{L}{ks}{N}{H}{v}{w cR}(hm:ks.length=m)(hm2:m<=200)(h:iG U u r m L ks N H n v)(hr:r<U.heap.size):
 Cw 199 #[Iq w,Iq cR,v] u fun e u'=>lh U u' r m H (fun V=>(ks=[]\/bQ L ks N w cR V)/\∀j,j<m->0<=V j/\V j<=100000) n e:=by
 subst hm;obtain⟨lb,rfl,h1,h2,h3,h4⟩:=h;refine(qO _ ks.length _ _ _ w cR u ⟨_,_,rfl,.inr ⟨lb,0,rfl,h1⟩⟩ (by omega)).mono ?_;rintro e u' ⟨v,rfl,hs⟩;have hb:=hs.below;rcases hs with⟨h0,rfl,hu⟩|⟨q1,q2,lb2,rfl,q3,⟨gg,q4,q5⟩,q6⟩
 ·have hk:ks=[]:=by
   rcases h0 with h0|h0;·grind
   ·omega
  refine⟨none,0,fun _=>0,⟨.inl hk,fun j hj=>by omega⟩,by grind,.inl (by omega),h3.trans (aa hb),h4.grown_below hb⟩
 ·refine⟨_,_,gg,⟨.inr q5,fun j hj=>?_⟩,rfl,.inr ⟨lb2,0,rfl,q4.1,?_,fun j hj=>(q4.2 j hj).1⟩,h3.trans (aa hb),h4.grown_below hb⟩;·have t1:=(q5.tiles (iN _ _ _)).1 j hj;have t2:=iN (fun j=>LG (ac L (bf ks j)) (N j)) (fun j=>aC (ac L (bf ks j)) 2) (fun j=>aC (ac L (bf ks j)) 3) j;grind
  ·have:=h3.size;omega
def MD(L:List Nd)(ks:List Nat)(kd a4 a5 a6 w:Int)(Wd:Nat->Int)(V:Nat->Int):Prop:=(kd=0->ks=[]\/bQ L ks (fun j=>Wd (bf ks j)) w a4 V)/\(kd≠0->∀j,j<ks.length->V j=max 0 (w-2*kT kd a5 a6))/\∀j,j<ks.length->0<=V j/\V j<=100000
theorem Oa{W:World}{r b m:Nat}{x:Int}{Ls:List Value}(h:W.heap[b]?=some (.cells Ls.toArray 3 (0,0)))(hf:Eg 1 Ls m m [Iq x])(hb:b≠r):gm W r (some (aq b 0)) m (fun _=>x):=by refine .inr ⟨b,0,rfl,(az.1 h).1,hb,fun j hj=>?_⟩;have:=hf.2 j 0 _ hj rfl;rw[Ea,vJ]at this;rw[cB,Lib.cell_of_heap h];simpa using this
theorem iG.g{U W}{r m}{L}{ks}{N}{H}{n}{v}(h:iG U W r m L ks N H n v):U.grownBy W (some r):=by obtain⟨_,_,_,_,h,_⟩:=h;exact h
theorem lh.g{U W}{r m}{H}{Jy}{n}{e}(h:lh U W r m H Jy n e):U.grownBy W (some r):=by obtain⟨_,_,_,_,_,_,h,_⟩:=h;exact h
theorem lh.base{U U0 W}{r m}{H}{Jy}{n}{e}(h:lh U W r m H Jy n e)(h0:U0.grownBy U (some r)):lh U0 W r m H Jy n e:=by obtain⟨q,cq,V,h1,h2,h3,h4,h5⟩:=h;exact⟨q,cq,V,h1,h2,h3,h0.trans h4,h5⟩
theorem wM(mb r g cap wb nn:Nat)(w:Int)(L:List Nd)(ks:List Nat)(KV:Nat->Value)(Wd:Nat->Int)(H:Nat->Int->Int)(kd a0 a1 a2 a3 a4 a5 a6 a7 a8 a9 b0 b1 up:Int)(tx:ByteArray)(p:Option Addr)(c:Nat)(U:World)
 (hV:Hid (tD U mb r g cap wb L KV Wd)) (hM:Hid (aW U r H nn)) (hm:ks.length<=200) (hks:Hid (∀j,j<ks.length->bf ks j<L.length)) (hL:L.length<=1000000) (hK:Hid (gm U r p ks.length (fun j=>(bf ks j:Int)))) (hN:Hid (∀i,i<L.length->0<=Wd i/\Wd i<=100000))
 (hw:0<=w/\w<=100000) (h5:0<=a5/\a5<=1000000) (h6:0<=a6/\a6<=1000000):
 Cw 228 #[Pq mb,fO kd a0 a1 a2 a3 a4 a5 a6 a7 a8 a9 b0 b1 tx (.slice p ks.length c) up,Iq w] U fun e U'=>lh U U' r ks.length H (MD L ks kd a4 a5 a6 w Wd) nn e:=by
 have kU:prog.follows .mixedOrders=true:=by kernel_rfl
 obtain⟨m,hmm⟩:=af ks.length;obtain⟨W1,bZ⟩:=af (U.alloc (.cells #[Iq kd,Iq a0,Iq a1,Iq a2,Iq a3,Iq a4,Iq a5,Iq a6,Iq a7,Iq a8,Iq a9,Iq b0,Iq b1,.string tx,.slice p m c,Iq up] 94));obtain⟨A,hA⟩:=af U.heap.size;have HB1:Hid (Bt U W1):=by rw[<-bZ];exact((Gr.refl U).alloc _).below
 have HG1:Hid (U.grownBy W1 (some r)):=aa HB1;have dm:W1.heap[A]?=some (.cells #[Iq kd,Iq a0,Iq a1,Iq a2,Iq a3,Iq a4,Iq a5,Iq a6,Iq a7,Iq a8,Iq a9,Iq b0,Iq b1,.string tx,.slice p m c,Iq up] 94 (0,0)):=by rw[<-bZ,<-hA];exact heap_alloc_new _ _
 have dj:Hid (∀(t:Nat) x,(#[Iq kd,Iq a0,Iq a1,Iq a2,Iq a3,Iq a4,Iq a5,Iq a6,Iq a7,Iq a8,Iq a9,Iq b0,Iq b1,.string tx,.slice p m c,Iq up]:Array Value)[t]?=some x->W1.cell? (aq A t)=some x):=fun t x ht=>by rw[Lib.cell_of_heap dm];exact ht
 have oj:=hM.lt;have HS:Hid (∀u,W1.grownBy u (some r)->u.cell? (aq A 0)=some (Iq kd)/\u.cell? (aq A 1)=some (Iq a0)/\u.cell? (aq A 2)=some (Iq a1)/\u.cell? (aq A 3)=some (Iq a2)/\u.cell? (aq A 4)=some (Iq a3)/\u.cell? (aq A 5)=some (Iq a4)/\u.cell? (aq A 6)=some (Iq a5)/\u.cell? (aq A 7)=some (Iq a6)/\u.cell? (aq A 8)=some (Iq a7)/\u.cell? (aq A 9)=some (Iq a8)/\u.cell? (aq A 10)=some (Iq a9)/\u.cell? (aq A 11)=some (Iq b0)/\u.cell? (aq A 12)=some (Iq b1)/\u.cell? (aq A 13)=some (.string tx)/\u.cell? (aq A 14)=some (.slice p m c)/\u.cell? (aq A 15)=some (Iq up)):=fun u hu=>by have EY:=(az.1 dm).1;have hb:=hu.block A EY (fun e=>by injection e with e;omega);refine⟨?_,?_,?_,?_,?_,?_,?_,?_,?_,?_,?_,?_,?_,?_,?_,?_⟩<;>(rw[Lib.cell_of_heap (hb.trans dm)];rfl)
 have z0:W1.cell? (aq A 0)=some (Iq kd):=dj 0 _ rfl;have z1:W1.cell? (aq A 1)=some (Iq a0):=dj 1 _ rfl;have z2:W1.cell? (aq A 2)=some (Iq a1):=dj 2 _ rfl;have z3:W1.cell? (aq A 3)=some (Iq a2):=dj 3 _ rfl;have z4:W1.cell? (aq A 4)=some (Iq a3):=dj 4 _ rfl;have z5:W1.cell? (aq A 5)=some (Iq a4):=dj 5 _ rfl;have z6:W1.cell? (aq A 6)=some (Iq a5):=dj 6 _ rfl;have z7:W1.cell? (aq A 7)=some (Iq a6):=dj 7 _ rfl;have z8:W1.cell? (aq A 8)=some (Iq a7):=dj 8 _ rfl;have z9:W1.cell? (aq A 9)=some (Iq a8):=dj 9 _ rfl;have Sd:W1.cell? (aq A 10)=some (Iq a9):=dj 10 _ rfl;have Se:W1.cell? (aq A 11)=some (Iq b0):=dj 11 _ rfl;have Sf:W1.cell? (aq A 12)=some (Iq b1):=dj 12 _ rfl;have Sg:W1.cell? (aq A 13)=some (.string tx):=dj 13 _ rfl;have Vw:W1.cell? (aq A 14)=some (.slice p m c):=dj 14 _ rfl;have Sh:W1.cell? (aq A 15)=some (Iq up):=dj 15 _ rfl;by_cases h0:kd=0
 ·subst h0;have RW:Hid (∀u,(u=W1\/u=W1.drew)->Cw 161 #[Pq mb,fO 0 a0 a1 a2 a3 a4 a5 a6 a7 a8 a9 b0 b1 tx (.slice p m c) up] u fun e u'=>∃v,e=Rw v/\Hid (iG W1 u' r m L ks (fun j=>Wd (bf ks j)) H nn v)):=fun u hu=>by
   have Ap:W1.grownBy u (some r):=by
    rcases hu with rfl|rfl;·exact aa (ag _ _)
    ·exact mh (aa (ag _ _))
   have rj:aW u r H nn:=by
    rcases hu with rfl|rfl;·exact hM.grown_below HB1
    ·exact(hM.grown_below HB1).drew
   have _a:=HG1.trans Ap;have:=pm mb r g cap wb nn L ks KV Wd H 0 a0 a1 a2 a3 a4 a5 a6 a7 a8 a9 b0 b1 up tx p c u (hV.grown _a) rj (by omega) hks hL (hK.grown _a) hN;rw[hmm]at this;refine this.mono ?_;rintro e u' ⟨v,rfl,lb,rfl,q1,q2,q3,q4⟩;exact⟨_,rfl,lb,rfl,q1,aH Ap.size q2,Ap.trans q3,q4⟩
  have SP:Hid (∀v u,iG W1 u r m L ks (fun j=>Wd (bf ks j)) H nn v->Cw 199 #[Iq w,Iq a4,v] u fun e u'=>∃q cq,e=Rw (.slice q m cq)/\Hid (lh W1 u' r m H (MD L ks 0 a4 a5 a6 w Wd) nn (.returned (.slice q m cq)))):=fun v u h=>by refine(DI hmm (by omega) h (zz007 oj HB1.size)).mono ?_;rintro e u' ⟨q,cq,V,⟨v1,v2⟩,rfl,q1,q2,q3⟩;exact⟨q,cq,rfl,q,cq,V,⟨fun _=>v1,fun e=>absurd rfl e,by rw[hmm];exact v2⟩,rfl,q1,q2,q3⟩
  rw[hmm];unfold fO at RW⊢;clear dm dj hV hM hks hK hN h5 h6 HB1 oj hmm;go_enter func228,ntmps228;go_wp2_with fail;clear bZ hA;go_region_held(fun W=>W.cell? (aq A 0)=some (Iq 0)/\W.cell? (aq A 1)=some (Iq a0)/\W.cell? (aq A 2)=some (Iq a1)/\W.cell? (aq A 3)=some (Iq a2)/\W.cell? (aq A 4)=some (Iq a3)/\W.cell? (aq A 5)=some (Iq a4)/\W.cell? (aq A 6)=some (Iq a5)/\W.cell? (aq A 7)=some (Iq a6)/\W.cell? (aq A 8)=some (Iq a7)/\W.cell? (aq A 9)=some (Iq a8)/\W.cell? (aq A 10)=some (Iq a9)/\W.cell? (aq A 11)=some (Iq b0)/\W.cell? (aq A 12)=some (Iq b1)/\W.cell? (aq A 13)=some (.string tx)/\W.cell? (aq A 14)=some (.slice p m c)/\W.cell? (aq A 15)=some (Iq up)) (go_keep) (first|(go_at_call 161;refine ai (RW _ (by first|exact .inl rfl|exact .inr rfl)) ?_;rintro e u1 ⟨v1,rfl,HO⟩;obtain⟨s0,s1,s2,s3,s4,s5,s6,s7,s8,s9,WQ,WS,WU,WV,WW,WX⟩:=HS u1 HO.g)|(go_at_call 199;refine ai (SP _ _ HO) ?_;rintro e u2 ⟨q,cq,rfl,HZ⟩;obtain⟨t0,t1,t2,t3,t4,t5,t6,t7,t8,t9,t10,t11,t12,t13,t14,t15⟩:=HS u2 HZ.g));all_goals go_wp2;go_ret;exact HZ.base HG1
 ·have e0:(kd==0)=false:=by simpa using h0
  have Ao:=EU (kd:=kd) h5 h6;obtain⟨f,hf⟩:=af (kT kd a5 a6);have FA:Hid (∀u,(u=W1\/u=W1.drew)->Cw 157 #[fO kd a0 a1 a2 a3 a4 a5 a6 a7 a8 a9 b0 b1 tx (.slice p m c) up] u fun e u'=>e=Rw (Iq f)/\Hid (Bt W1 u')):=fun u hu=>by
   have jj:Bt W1 u:=by
    rcases hu with rfl|rfl;·exact ag _ _
    ·exact(ag _ _).drew
   rw[<-hf];refine(mg kd a0 a1 a2 a3 a4 a5 a6 a7 a8 a9 b0 b1 up tx p m c h5 h6 u).mono ?_;rintro e u' ⟨rfl,q⟩;exact⟨rfl,jj.trans (q.mono jj.size)⟩
  obtain⟨x,hx⟩:=af (max 0 (w-2*f));have sX:0<=x/\x<=100000:=by rw[hf]at Ao;omega
  have RP:Hid (∀u,Bt W1 u->Cw 253 #[Sq u.heap.size 1 1,Iq (m:Int)] (u.alloc (.cells #[Iq x] 3)) fun e u'=>∃q cq,e=Rw (.slice q m cq)/\Hid (lh W1 u' r m H (MD L ks kd a4 a5 a6 w Wd) nn (.returned (.slice q m cq)))):=fun u hu=>by
   have dE:Bt W1 (u.alloc (.cells #[Iq x] 3)):=hu.alloc hu.size _;have fin:∀u' q cq,Bt W1 u'->gm u' r q m (fun _=>x)->lh W1 u' r m H (MD L ks kd a4 a5 a6 w Wd) nn (.returned (.slice q m cq)):=fun u' q cq hb hi=>
    ⟨q,cq,fun _=>x,⟨fun e=>absurd e h0,fun _ j hj=>by rw[hf];exact hx.symm,fun j hj=>sX⟩,rfl,hi,aa hb,(hM.grown_below HB1).grown_below hb⟩;by_cases hz:m=0;·rw[hz];refine(Ds (.inl ⟨rfl,rfl,rfl,rfl⟩) (u.alloc (.cells #[Iq x] 3)) u.heap.size).mono ?_;rintro e u' ⟨q,cq,rfl,hb⟩;have:=fin u' q cq (dE.trans (hb.mono dE.size)) (.inl hz);rw[hz]at this;exact⟨q,cq,rfl,this⟩
   ·refine(zS (.inl ⟨rfl,rfl,rfl,rfl⟩) (u.alloc (.cells #[Iq x] 3)) [Iq x] rfl (fun v hv=>by rw[pI.1 hv];rfl) u.heap.size m (by omega) (by simp) (fun k v hk=>?_)).mono ?_;·rw[World.cell?_alloc_at _ _ _ _ rfl];match k with
     |0=>exact hk
     |k+1=>cases hk
    ·rintro e u' ⟨rfl,⟨Ls,hl,RQ⟩,hb⟩;have qe:=dE.trans (hb.mono dE.size);refine⟨_,_,rfl,fin u' _ _ qe (Oa hl RQ ?_)⟩;have:=dE.size;have:=HB1.size;omega
  rw[hf]at Ao;rw[hmm];unfold fO at FA⊢;have Mk:=qH<|(az.1 dm).1;clear dm dj hV hM hks hK hN h5 h6 HB1 oj hmm hf;go_enter func228,ntmps228;go_wp2_with fail;clear bZ hA;have zpn:IntKind.i64.wrap (2*f)=2*f:=IntWalk.i64_in _ (by omega);have zpo:IntKind.i64.wrap (w-2*f)=w-2*f:=IntWalk.i64_in _ (by omega);have sV:(if(0:Int)<w-2*f then w-2*f else 0)=x:=by rw[<-hx];split<;>omega
  go_region_held(fun W=>W.cell? (aq A 0)=some (Iq kd)/\W.cell? (aq A 1)=some (Iq a0)/\W.cell? (aq A 2)=some (Iq a1)/\W.cell? (aq A 3)=some (Iq a2)/\W.cell? (aq A 4)=some (Iq a3)/\W.cell? (aq A 5)=some (Iq a4)/\W.cell? (aq A 6)=some (Iq a5)/\W.cell? (aq A 7)=some (Iq a6)/\W.cell? (aq A 8)=some (Iq a7)/\W.cell? (aq A 9)=some (Iq a8)/\W.cell? (aq A 10)=some (Iq a9)/\W.cell? (aq A 11)=some (Iq b0)/\W.cell? (aq A 12)=some (Iq b1)/\W.cell? (aq A 13)=some (.string tx)/\W.cell? (aq A 14)=some (.slice p m c)/\W.cell? (aq A 15)=some (Iq up)) (go_keep) (first|(go_at_call 157;refine ai (FA _ (by first|exact .inl rfl|exact .inr rfl)) ?_;rintro e u1 ⟨rfl,HO⟩;obtain⟨s0,s1,s2,s3,s4,s5,s6,s7,s8,s9,WQ,WS,WU,WV,WW,WX⟩:=HS u1 (aa HO);have bj:¬A=u1.heap.size:=(by have:=HO.size;have:=Mk.out;omega))|(go_at_call 253;refine ai (RP _ HO) ?_;rintro e u2 ⟨q,cq,rfl,HZ⟩;obtain⟨t0,t1,t2,t3,t4,t5,t6,t7,t8,t9,t10,t11,t12,t13,t14,t15⟩:=HS u2 HZ.g));all_goals go_wp2;go_ret;exact HZ.base HG1
theorem vy(w kd a0 a1 a2 a3 a4 a5 a6 a7 a8 a9 b0 b1 up:Int)(tx:ByteArray)(p:Option Addr)(m c:Nat)(U:World)(ht:aL U)(hs:tx.size<=4000)(hw:0<=w/\w<=100000):
 Cw 227 #[fO kd a0 a1 a2 a3 a4 a5 a6 a7 a8 a9 b0 b1 tx (.slice p m c) up,Iq w] U fun e U'=>e=Rw (Iq (sJ a8 tx.data.toList w))/\Hid (Bt U U'):=by
 obtain⟨W1,bZ⟩:=af (U.alloc (.cells #[Iq kd,Iq a0,Iq a1,Iq a2,Iq a3,Iq a4,Iq a5,Iq a6,Iq a7,Iq a8,Iq a9,Iq b0,Iq b1,.string tx,.slice p m c,Iq up] 94));obtain⟨A,hA⟩:=af U.heap.size;have HB1:Hid (Bt U W1):=by rw[<-bZ];exact((Gr.refl U).alloc _).below
 have dm:W1.heap[A]?=some (.cells #[Iq kd,Iq a0,Iq a1,Iq a2,Iq a3,Iq a4,Iq a5,Iq a6,Iq a7,Iq a8,Iq a9,Iq b0,Iq b1,.string tx,.slice p m c,Iq up] 94 (0,0)):=by rw[<-bZ,<-hA];exact heap_alloc_new _ _
 have z9:W1.cell? (aq A 9)=some (Iq a8):=by rw[Lib.cell_of_heap dm];rfl
 have Sg:W1.cell? (aq A 13)=some (.string tx):=by rw[Lib.cell_of_heap dm];rfl
 have qj:tx.data.toList.count 10<=4000:=by
  have h1:=List.count_le_length (a:=(10:UInt8)) (l:=tx.data.toList);have h2:tx.data.toList.length=tx.size:=by rw[gc];rfl
  omega
 have CT:Hid (∀u,Bt U u->Cw 251 #[.string tx,Iq w] u fun e u'=>e=Rw (Iq ((bG (bi (ap tx.data.toList)) w).length:Int))/\Hid (Bt U u')):=fun u hu=>by refine(JW tx w u (ht.below hu) (by omega) (by omega) (by omega)).mono ?_;rintro e u' ⟨rfl,q⟩;exact⟨rfl,hu.trans (q.mono hu.size)⟩
 have C1:=qH<|fun u=>JX tx 10 u;obtain⟨k,hk⟩:=af (tx.data.toList.count 10);rw[hk]at C1 qj;unfold fO;by_cases h1:w<1
 ·have HR:Hid (sJ a8 tx.data.toList w=0):=by show _=_;unfold sJ;rw[if_pos h1]
  go_enter func227,ntmps227;go_wp2;go_ret;exact⟨by rw[HR.out];rfl,HB1⟩
 ·by_cases h8:a8=1
  ·subst h8;have HR:Hid (sJ 1 tx.data.toList w=((bG (bi (ap tx.data.toList)) w).length:Int)):=by show _=_;unfold sJ;rw[if_neg h1,if_pos rfl]
   obtain⟨y,hy⟩:=af ((bG (bi (ap tx.data.toList)) w).length);rw[hy]at HR CT;go_enter func227,ntmps227;go_wp2_with(go_at_call 251;refine ai (CT _ HB1) ?_;rintro e u ⟨rfl,yB⟩);go_ret;exact⟨by rw[HR.out];rfl,yB⟩
  ·have e8:(a8==1)=false:=by simpa using h8
   have HR:Hid (sJ a8 tx.data.toList w=(k:Int)+1):=by show _=_;unfold sJ;rw[if_neg h1,if_neg h8,hk]
   go_enter func227,ntmps227;go_wp2_with(go_at_call 252;refine ai (C1 _) ?_;rintro e u ⟨rfl,hu⟩;obtain rfl:=hu.symm);go_ret;exact⟨by rw[HR.out];rfl,HB1⟩
theorem aL.kept{W W'}{r n}{H}(h:aL W)(hm:aW W r H n)(hg:W.grownBy W' (some r)):aL W':=by
 obtain⟨es,tS,hmp⟩:=hm.map;have key:∀(o:Nat) v,W.cell? (aq 10 o)=some v->W'.cell? (aq 10 o)=some v:=fun o v hc=>by
  have bj:10≠r:=fun e=>by subst e;simp[World.cell?,hmp]at hc
  have hlt:10<W.heap.size:=by
   by_cases q:10<W.heap.size;·exact q
   ·simp[World.cell?,Je (Jf q)]at hc
  exact(ba (hg.block _ hlt (fun e=>bj (by grind)))).trans hc
 intro i hi;obtain⟨h1,h2,h3⟩:=h i hi;grind
theorem Ae(mb:Nat)(w a0 a1 a2 a3 a4 a5 a6 a7 a8 a9 b0 b1 up:Int)(tx:ByteArray)(p:Option Addr)(m c:Nat)(U:World)(ht:aL U)(hs:tx.size<=4000)(hw:0<=w/\w<=100000):
 Cw 197 #[Pq mb,fO 5 a0 a1 a2 a3 a4 a5 a6 a7 a8 a9 b0 b1 tx (.slice p m c) up,Iq w] U fun e U'=>e=Rw (Iq (sJ a8 tx.data.toList w))/\Hid (Bt U U'):=by
 have HT:Hid (∀u,Bt U u->Cw 227 #[fO 5 a0 a1 a2 a3 a4 a5 a6 a7 a8 a9 b0 b1 tx (.slice p m c) up,Iq w] u fun e u'=>e=Rw (Iq (sJ a8 tx.data.toList w))/\Hid (Bt U u')):=fun u hu=>by refine(vy w 5 a0 a1 a2 a3 a4 a5 a6 a7 a8 a9 b0 b1 up tx p m c u (ht.below hu) hs hw).mono ?_;rintro e u' ⟨rfl,q⟩;exact⟨rfl,hu.trans (q.mono hu.size)⟩
 have HB1:Hid (∀o,Bt U (U.alloc o)):=fun o=>((Gr.refl U).alloc _).below;obtain⟨y,hy⟩:=af (sJ a8 tx.data.toList w);rw[hy]at HT⊢;clear hy ht;unfold fO at HT⊢;go_enter func197,ntmps197;go_wp2_with(go_at_call 227;refine ai (HT _ (HB1 _)) ?_;rintro e u ⟨rfl,yB⟩);go_ret;simp_all
def cA(L:List Nd)(i:Nat):List Nat:=(ac L i).kids
structure Hs(U:World)(mb r g cap wb:Nat)(L:List Nd)(KV:Nat->Value)(Wd:Nat->Int)(H:Nat->Int->Int)(n:Nat):Prop where
 view:tD U mb r g cap wb L KV Wd
 memo:aW U r H n
 tab:aL U
theorem Hs.grown{U U'}{mb r g cap wb}{L}{KV}{Wd}{H}{n n'}(h:Hs U mb r g cap wb L KV Wd H n)(hg:U.grownBy U' (some r))(hm:aW U' r H n'):Hs U' mb r g cap wb L KV Wd H n':=
 ⟨h.view.grown hg,hm,h.tab.kept h.memo hg⟩
theorem Hs.below{U U'}{mb r g cap wb}{L}{KV}{Wd}{H}{n}(h:Hs U mb r g cap wb L KV Wd H n)(hb:Bt U U'):Hs U' mb r g cap wb L KV Wd H n:=
 h.grown (aa hb) (h.memo.grown_below hb)
theorem E7{s}{L}{KV}{Wd}{H}  mb r g cap wb  (hT:gA s L) (hS:Sz L Wd H):∀  f i   w   n   U,i<L.length->L.length-i<=f->0<=w->w<=100000->Hs U mb r g cap wb L KV Wd H n->n+(tj (cA L) f i).length<1000000000000->
 Cw 158 #[Pq mb,Iq (i:Int),Iq w] U fun e U'=>e=Rw (Iq (H i w))/\Hid (U.grownBy U' (some r))/\Hid (aW U' r H (n+(tj (cA L) f i).length)):=by
 intro f;induction f with
 |zero=>intro i w n U hi h1;omega
 |succ f ih=>
  intro i w n U hi hf hw0 iO hU hn;have hc:=hT.vl.cnt;have nQ:=Vq (cA L) f i;have hNv:=hT.vl.nv i hi;have hbd:=hNv.bd;have cZ:(cA L i).length<=100:=hT.kids_le hi;obtain⟨k,hk⟩:=af (cS (fun j=>(tj (cA L) f (bf (cA L i) j)).length) (cA L i).length);rw[hk]at nQ;rw[nQ]at hn⊢;obtain⟨p,c,xH,zt⟩:=hU.view.kid i hi;have kx:=kF (hU.view.len i hi) (KV i);have gC:=hU.view.nd i hi;rw[kx]at gC;have hWB:iI (i:Int):=by unfold iI;omega
  have hWw:iI w:=by unfold iI;omega
  rw[show n+(k+1)=n+k+1 by omega];refine Kw mb r g i n k L.length cap w H _ ((ac L i).kind:Int) (aC (ac L i) 0) (aC (ac L i) 1) (aC (ac L i) 2) (aC (ac L i) 3) (aC (ac L i) 4) (aC (ac L i) 5) (aC (ac L i) 6) (aC (ac L i) 7) (aC (ac L i) 8) (aC (ac L i) 9) (aC (ac L i) 10) (aC (ac L i) 11) (ac L i).up ⟨(ac L i).text.toArray⟩ (KV i) U hU.view.ms hU.memo hi (by omega) hWB hWw (by omega) hU.view.gl hU.view.gr (fun t x ht=>gC t x (by grind)) (fun W hb hmW=>?_);rw[xH];have hWs:=hU.grown (aa hb) hmW;by_cases h5:(ac L i).kind=5
  ·have As:(⟨(ac L i).text.toArray⟩:ByteArray).size<=4000:=by have h1:=hT.vl.tl i hi;have h2:=hT.sz;show(ac L i).text.toArray.size<=4000;rw[kQ];omega
   have:=Ae mb w (aC (ac L i) 0) (aC (ac L i) 1) (aC (ac L i) 2) (aC (ac L i) 3) (aC (ac L i) 4) (aC (ac L i) 5) (aC (ac L i) 6) (aC (ac L i) 7) (aC (ac L i) 8) (aC (ac L i) 9) (aC (ac L i) 10) (aC (ac L i) 11) (ac L i).up ⟨(ac L i).text.toArray⟩ p (ac L i).kids.length c W hWs.tab As ⟨hw0,iO⟩;rw[h5];refine this.mono ?_;rintro e U' ⟨rfl,q⟩;exact⟨_,rfl,(hS.ht i w hi h5).symm,aa q,(hmW.grown_below q).mono (by omega)⟩
  ·have zgP:((ac L i).kind:Int)≠5:=by omega
   have:=Vu mb r n (ac L i).kids.length w H (MD L (ac L i).kids (ac L i).kind (aC (ac L i) 4) (aC (ac L i) 5) (aC (ac L i) 6) w Wd) (bf (ac L i).kids) (fun j=>(tj (cA L) f (bf (cA L i) j)).length)
    ((ac L i).kind:Int) (aC (ac L i) 0) (aC (ac L i) 1) (aC (ac L i) 2) (aC (ac L i) 3) (aC (ac L i) 4) (aC (ac L i) 5) (aC (ac L i) 6) (aC (ac L i) 7) (aC (ac L i) 8) (aC (ac L i) 9) (aC (ac L i) 10) (aC (ac L i) 11) (ac L i).up ⟨(ac L i).text.toArray⟩ p c W
    zgP (by grind[cA]) (by omega) (by omega) (by omega) (fun j v hj=>hS.hb _ v (gD hT hi hj).2) (fun j hj=>by grind[gD]) hmW.lt hmW (zt.grown (aa hb))
    (fun u hu KF=>wM mb r g cap wb n w L (ac L i).kids KV Wd H _ _ _ _ _ _ _ _ _ _ _ _ _ _ _ p c u (hWs.view.grown (aa hu)) KF (by grind[cA]) (fun j hj=>(gD hT hi hj).2) (by omega) ((zt.grown (aa hb)).grown (aa hu)) (fun j hj=>hS.wb j hj) ⟨hw0,iO⟩ (by omega) (by omega))
    (fun V hV j u nn hj hu KF L7=>by
     have hkj:=gD hT hi hj;have hVj:=hV.2.2 j hj;have dE:cS (fun j=>(tj (cA L) f (bf (cA L i) j)).length) (j+1)<=k:=by
      rw[<-hk];have mono:∀a b,a<=b->cS (fun j=>(tj (cA L) f (bf (cA L i) j)).length) a<=cS (fun j=>(tj (cA L) f (bf (cA L i) j)).length) b:=by
       intro a b Hn;induction b with
       |zero=>grind
       |succ b ihb=>grind[cS]
      exact mono _ _ hj
     have uy:cS (fun j=>(tj (cA L) f (bf (cA L i) j)).length) (j+1)=cS (fun j=>(tj (cA L) f (bf (cA L i) j)).length) j+(tj (cA L) f (bf (cA L i) j)).length:=rfl;have hr:=ih (bf (ac L i).kids j) (V j) nn u hkj.2 (by omega) hVj.1 hVj.2 (hWs.grown hu KF) (by grind[tj,cA,bf]);refine hr.mono ?_;rintro e u' ⟨rfl,q1,q2⟩;refine⟨rfl,q1,q2.mono ?_⟩;grind[tj,cA,bf]);refine this.mono ?_;rintro e U' ⟨V,hV,rfl,q1,q2⟩;refine⟨_,rfl,?_,q1,q2.mono (by rw[<-hk];exact ae _)⟩;by_cases h0:(ac L i).kind=0;·rw[hS.hr i w V hi h0 (hV.1 (by omega))];rfl
   ·rw[hS.ho i w hi h5 h0];unfold rA;rw[vd fun j hj=>?_];rw[hV.2.1 (by omega) j hj];rfl
theorem uq{s}{L}{KV}{Wd}{H}  mb r g cap wb  (hT:gA s L) (hS:Sz L Wd H)  i   w   n   U  (hi:i<L.length) (hw0:0<=w) (iO:w<=100000) (hU:Hs U mb r g cap wb L KV Wd H n) (hn:n<=100000000):
 Cw 158 #[Pq mb,Iq (i:Int),Iq w] U fun e U'=>e=Rw (Iq (H i w))/\Hid (U.grownBy U' (some r))/\Hid (aW U' r H (n+100)):=by have h1:=Vr (kids:=cA L) hT.nest L.length i hi;have h2:=hT.vl.cnt;refine(E7 mb r g cap wb hT hS L.length i w n U hi (by omega) hw0 iO hU (by omega)).mono ?_;rintro e U' ⟨rfl,q1,q2⟩;exact⟨rfl,q1,q2.mono (by omega)⟩
theorem xa(mb:Nat)(a0 a1 a2 a3 a4 a5 a6 a7 a8 a9 b0 b1 up:Int)(tx:ByteArray)(p:Option Addr)(m c:Nat)(U:World)(ht:aL U)(hs:tx.size<=4000):
 Cw 119 #[Pq mb,fO 5 a0 a1 a2 a3 a4 a5 a6 a7 a8 a9 b0 b1 tx (.slice p m c) up] U fun e U'=>e=Rw (Iq (QH tx.data.toList))/\Hid (Bt U U'):=by
 have HT:Hid (∀u,Bt U u->Cw 155 #[.string tx] u fun e u'=>e=Rw (Iq (QH tx.data.toList))/\Hid (Bt U u')):=fun u hu=>by refine(Gs tx u (ht.below hu) hs).mono ?_;rintro e u' ⟨rfl,q⟩;exact⟨rfl,hu.trans (q.mono hu.size)⟩
 have HB1:Hid (∀o,Bt U (U.alloc o)):=fun o=>((Gr.refl U).alloc _).below;obtain⟨y,hy⟩:=af (QH tx.data.toList);rw[hy]at HT⊢;clear hy ht;unfold fO;go_enter func119,ntmps119;go_wp2_with(go_at_call 155;refine ai (HT _ (HB1 _)) ?_;rintro e u ⟨rfl,yB⟩);go_ret;simp_all
theorem Af(mb r wb N m:Nat)(Wd:Nat->Int)(ks:Nat->Nat)(kd a0 a1 a2 a3 a4 a5 a6 a7 a8 a9 b0 b1 up:Int)(tx:ByteArray)(nv:Value)(p:Option Addr)(c:Nat)(U:World)
 (Ws:kd≠5) (hm:m<=1000) (hN:N<=1000000) (h4:0<=a4/\a4<=1000000) (h5:0<=a5/\a5<=1000000) (h6:0<=a6/\a6<=1000000) (hh:Hid (∀j,j<m->0<=Wd (ks j)/\Wd (ks j)<=100000)) (jd:Hid (∀j,j<m->ks j<N))
 (hMs:Ms U mb nv (Sq wb N N) r) (_C:wb<U.heap.size) (hK:Hid (gm U r p m (fun j=>(ks j:Int)))) (hW:Hid (∀j,j<m->U.cell? (aq wb (ks j))=some (Iq (Wd (ks j))))):
 Cw 119 #[Pq mb,fO kd a0 a1 a2 a3 a4 a5 a6 a7 a8 a9 b0 b1 tx (.slice p m c) up] U fun e U'=>e=Rw (Iq (zQ kd a4 a5 a6 (fun j=>Wd (ks j)) m))/\Hid (Bt U U'):=by
 have e5:(kd==5)=false:=by simpa using Ws
 obtain⟨h,Wq⟩:∃h:Nat->Int,(fun j=>Wd (ks j))=h:=⟨_,rfl⟩;have HHE:Hid (∀j,Wd (ks j)=h j):=fun j=>by grind
 have _c:Hid (∀j,j<m->0<=h j/\h j<=100000):=fun j hj=>by rw[<-HHE j];exact hh j hj
 rw[Wq];obtain⟨U1,wA⟩:=af (U.alloc (.cells #[Iq kd,Iq a0,Iq a1,Iq a2,Iq a3,Iq a4,Iq a5,Iq a6,Iq a7,Iq a8,Iq a9,Iq b0,Iq b1,.string tx,.slice p m c,Iq up] 94));obtain⟨A,hA⟩:=af U.heap.size;have HB1:Hid (Bt U U1):=by rw[<-wA];exact((Gr.refl U).alloc _).below
 have dm:U1.heap[A]?=some (.cells #[Iq kd,Iq a0,Iq a1,Iq a2,Iq a3,Iq a4,Iq a5,Iq a6,Iq a7,Iq a8,Iq a9,Iq b0,Iq b1,.string tx,.slice p m c,Iq up] 94 (0,0)):=by rw[<-wA,<-hA];exact heap_alloc_new _ _
 have dj:Hid (∀(t:Nat) x,(#[Iq kd,Iq a0,Iq a1,Iq a2,Iq a3,Iq a4,Iq a5,Iq a6,Iq a7,Iq a8,Iq a9,Iq b0,Iq b1,.string tx,.slice p m c,Iq up]:Array Value)[t]?=some x->U1.cell? (aq A t)=some x):=fun t x ht=>by rw[Lib.cell_of_heap dm];exact ht
 have z0:U1.cell? (aq A 0)=some (Iq kd):=dj 0 _ rfl;have z1:U1.cell? (aq A 1)=some (Iq a0):=dj 1 _ rfl;have z2:U1.cell? (aq A 2)=some (Iq a1):=dj 2 _ rfl;have z3:U1.cell? (aq A 3)=some (Iq a2):=dj 3 _ rfl;have z4:U1.cell? (aq A 4)=some (Iq a3):=dj 4 _ rfl;have z5:U1.cell? (aq A 5)=some (Iq a4):=dj 5 _ rfl;have z6:U1.cell? (aq A 6)=some (Iq a5):=dj 6 _ rfl;have z7:U1.cell? (aq A 7)=some (Iq a6):=dj 7 _ rfl;have z8:U1.cell? (aq A 8)=some (Iq a7):=dj 8 _ rfl;have z9:U1.cell? (aq A 9)=some (Iq a8):=dj 9 _ rfl;have Sd:U1.cell? (aq A 10)=some (Iq a9):=dj 10 _ rfl;have Se:U1.cell? (aq A 11)=some (Iq b0):=dj 11 _ rfl;have Sf:U1.cell? (aq A 12)=some (Iq b1):=dj 12 _ rfl;have Sg:U1.cell? (aq A 13)=some (.string tx):=dj 13 _ rfl;have Vw:U1.cell? (aq A 14)=some (.slice p m c):=dj 14 _ rfl;have Sh:U1.cell? (aq A 15)=some (Iq up):=dj 15 _ rfl;have m1:U1.cell? (aq mb 1)=some (Sq wb N N):=by have OK:=(az.1 hMs).1;have hb:=(HB1.block mb OK).trans hMs;rw[Lib.cell_of_heap hb];rfl
 have Gz:=qH<|hK.grown (aa HB1);have Jt:Hid (∀j,j<m->U1.cell? (aq wb (ks j))=some (Iq (h j))):=fun j hj=>by rw[<-HHE j];exact(HB1.cell (p:=(aq wb _)) _C).trans (hW j hj)
 clear dm Wq hMs hK hW hh HHE;unfold fO;go_enter func119,ntmps119;go_wp2_with fail;generalize pQ:Value.agg #[Iq kd,Iq a0,Iq a1,Iq a2,Iq a3,Iq a4,Iq a5,Iq a6,Iq a7,Iq a8,Iq a9,Iq b0,Iq b1,.string tx,.slice p m c,Iq up]=ndv;go_loopw[5,6,18] (fun sv gv kv wr=>∃k:Nat,k<=m/\kv=Iq (k:Int)/\sv=Iq (hS h k)/\gv=Iq (hG h k)/\wr=U1) (fun _ _ kv _=>m-(intOf kv).toNat);case atStart=>exact⟨0,bm _,rfl,rfl,rfl,rfl⟩
 case round=>
  obtain⟨k,hk,rfl,rfl,rfl,hwr⟩:=hrel;subst hwr;by_cases hlt:k<m
  ·have aR:(k:Int)<(m:Int):=by omega
   have hbs:=BP _c k hk;have hbg:=BM _c k hk;have hbh:=_c k hlt;have L6:=jd k hlt;have hkI:(ks k:Int)<(N:Int):=by omega
   obtain⟨kb,ko,rfl,_,_,Wk⟩:=Gz.resolve_left (by omega);have ck:=Wk k hlt;have cv:=Jt k hlt;obtain⟨S,sj⟩:=af (hS h k);obtain⟨G,Th⟩:=af (hG h k);obtain⟨x,hx⟩:=af (h k);have Mr:Hid (hS h (k+1)=S+x):=by show _=_;rw[<-sj,<-hx];rfl
   have HG1:Hid (hG h (k+1)=max G x):=by show _=_;rw[<-Th,<-hx];rfl
   rw[sj]at hbs;rw[Th]at hbg;rw[hx]at hbh cv;rw[sj,Th];clear sj Th hx Wk wA hA pQ h4 h5 h6 Ws HB1;go_wp2;all_goals
    go_roundw;case rel=>exact⟨k+1,hlt,by go_num,by rw[Mr.out],by rw[HG1.out],by grind⟩
    grind[intOf]
  ·have aR:¬(k:Int)<(m:Int):=by omega
   obtain rfl:k=m:=by omega
   have hbs:=BP _c k hk;have hbg:=BM _c k hk;have GA:=qH<|fun u=>BF kd a0 a1 a2 a3 a4 a5 a6 a7 a8 a9 b0 b1 up tx p k c h4 (by omega) u;have FA:=qH<|fun u=>mg kd a0 a1 a2 a3 a4 a5 a6 a7 a8 a9 b0 b1 up tx p k c h5 h6 u;have Ek:0<=nP a4 k/\nP a4 k<=1000000000000:=by
    unfold nP;have lA:0<=max 0 ((k:Int)-1)/\max 0 ((k:Int)-1)<=1000000:=by omega
    exact⟨kh h4.1 lA.1,nu h4.2 lA.2 lA.1 (by omega)⟩
   have Ao:=EU (kd:=kd) h5 h6;unfold fO at GA FA;rw[pQ]at GA FA;clear wA hA _c jd Jt Gz m1;by_cases h0:kd=0
   ·subst h0;have hraw:zQ 0 a4 a5 a6 h k=hS h k+nP a4 k:=by unfold zQ;rw[if_pos rfl]
    obtain⟨S,sj⟩:=af (hS h k);obtain⟨gg,rh⟩:=af (nP a4 k);rw[sj,rh]at hraw;have vW:=qH<|hraw;rw[sj]at hbs⊢;rw[rh]at Ek GA;clear sj rh hraw;go_wp2_with(go_at_call 156;refine(GA _).mono ?_;rintro e wz ⟨rfl,Sm⟩);go_ret;exact⟨by rw[vW.out];rfl,HB1.trans (Sm.mono HB1.size)⟩
   ·have hraw:zQ kd a4 a5 a6 h k=hG h k+2*kT kd a5 a6:=by unfold zQ;rw[if_neg h0]
    have e1:(kd==0)=false:=by simpa using h0
    obtain⟨S,sj⟩:=af (hG h k);obtain⟨gg,rh⟩:=af (kT kd a5 a6);rw[sj,rh]at hraw;have vW:=qH<|hraw;rw[sj]at hbg⊢;rw[rh]at Ao FA;clear sj rh hraw;go_wp2_with(go_at_call 157;refine(FA _).mono ?_;rintro e wz ⟨rfl,Sm⟩);go_ret;exact⟨by rw[vW.out];rfl,HB1.trans (Sm.mono HB1.size)⟩
structure Sw(U:World)(r g:Nat)(L:List Nd)(KV:Nat->Value):Prop where
 gl:g<U.heap.size
 gr:g≠r
 len:∀j,j<L.length->(ac L j).attr.length=12
 nd:∀j,j<L.length->∀(t:Nat) x,(aZ (ac L j) (KV j))[t]?=some x->U.cell? (aq g (j*16+t))=some x
 kid:∀j,j<L.length->∃p c,KV j=.slice p (ac L j).kids.length c/\gm U r p (ac L j).kids.length (fun t=>(bf (ac L j).kids t:Int))
theorem Sw.grown{U U'}{r g}{L}{KV}(h:Sw U r g L KV)(hg:U.grownBy U' (some r)):Sw U' r g L KV:=by refine⟨zz007 h.gl hg.size,h.gr,h.len,fun j hj t x ht=>(ba (hg.block g h.gl (fun q=>h.gr (by grind)))).trans (h.nd j hj t x ht),fun j hj=>?_⟩;obtain⟨p,c,e,hk⟩:=h.kid j hj;exact⟨p,c,e,hk.grown hg⟩
theorem PN.ndv{W}{B g cap r}{L}{KV}(h:PN W B (Sq g L.length cap) L KV)(hr:W.heap.size<=r):Sw W r g L KV:=by
 obtain⟨xs,hx⟩:=h.nr.row;have kM:g<W.heap.size:=by
  rcases de hx with⟨e,_⟩|⟨g',cH,e,_,hl,_⟩;·cases e
  ·grind
 refine⟨kM,by omega,h.len,fun j hj t x ht=>h.nr.cells g rfl j hj t x ht,fun j hj=>?_⟩;rcases de (h.nr.kids j hj)with⟨e,h0⟩|⟨g',cH,e,_,hl,_⟩;·refine⟨none,0,by grind,.inl h0⟩
 ·refine⟨_,_,e,.inr ⟨g',0,rfl,hl,by omega,fun i hi=>?_⟩⟩;have hk:=h.nr.kids j hj;rw[e]at hk;rw[cB,hk.cellAt i (by omega)];grind[uJ,bf]
def _P(Wd:Nat->Int)(k j:Nat):Value:=Iq (if j<k then 0 else Wd j)
structure Nm(U W:World)(mb r g cap wb:Nat)(L:List Nd)(KV:Nat->Value)(Wd:Nat->Int)(H:Nat->Int->Int)(k:Nat):Prop where
 bel:Bt U W
 nds:Sw W r g L KV
 ms:Ms W mb (Sq g L.length cap) (Sq wb L.length L.length) r
 row:W.rowIs wb 3 L.length (_P Wd k)
 mm:aW W r H 0
 hwb:U.heap.size<=wb
 ne:wb≠r/\wb≠mb/\wb≠g/\mb≠r
 tab:aL W
theorem Nm.below{U W W'}{mb r g cap wb}{L}{KV}{Wd}{H}{k}(h:Nm U W mb r g cap wb L KV Wd H k)(hb:Bt W W'):Nm U W' mb r g cap wb L KV Wd H k:=
 ⟨h.bel.trans (hb.mono h.bel.size),h.nds.grown (aa hb),(hb.block mb (az.1 h.ms).1).trans h.ms,rowIs_below h.row hb,h.mm.grown_below hb,h.hwb,h.ne,h.tab.below hb⟩
theorem Nm.set{U W}{mb r g cap wb i}{L}{KV}{Wd}{H}(h:Nm U W mb r g cap wb L KV Wd H (i+1))(Wv:∀j p c,j<L.length->KV j=.slice p (ac L j).kids.length c->∀b o,p=some (aq b o)->b≠wb)(htw:10≠wb):Nm U (W.setCell (aq wb i) (Iq (Wd i))) mb r g cap wb L KV Wd H i:=by
 have key:∀b,b≠wb->(W.setCell (aq wb i) (Iq (Wd i))).heap[b]?=W.heap[b]?:=fun b hb=>bv W (aq wb i) _ b hb;have hc:=fun b o hb=>ba (a:=(aq b o)) (key b hb);obtain⟨n1,n2,n3,n4⟩:=h.ne;refine⟨h.bel.setCell (p:=(aq wb i)) h.hwb _,⟨by simpa using h.nds.gl,h.nds.gr,h.nds.len,fun j hj t x ht=>(hc g _ (fun e=>n3 e.symm)).trans (h.nds.nd j hj t x ht),fun j hj=>?_⟩,(key mb (fun e=>n2 e.symm)).trans h.ms,(h.row.set i _).congr fun j hj=>?_,h.mm.set n1 _,h.hwb,h.ne,fun j hj=>?_⟩
 ·obtain⟨p,c,e,hk⟩:=h.nds.kid j hj;refine⟨p,c,e,?_⟩;rcases hk with hk|⟨b,o,e2,k1,k2,k3⟩;·exact .inl hk
  ·exact .inr ⟨b,o,e2,by simpa using k1,k2,fun q hq=>(hc b _ (Wv j p c hj e b o e2)).trans (k3 q hq)⟩
 ·grind[_P]
 ·obtain⟨t1,t2,t3⟩:=h.tab j hj;grind
theorem zH(w:World)  n   Wd  :(w.alloc (.cells (madeCells #[Iq 0] n) 3)).rowIs w.heap.size 3 n (_P Wd n):=
 (World.rowIs_made w (Iq 0) n _).congr fun j hj=>by grind[_P]
theorem uP{s:ByteArray}{L:List Nd}{KV:Nat->Value}{Wd:Nat->Int}{H:Nat->Int->Int}(g cap:Nat)(hT:gA s L)(hS:Sz L Wd H)(U:World)(B:Nat)(hP:PN U B (Sq g L.length cap) L KV)(ht:aL U):
 Cw 63 #[Sq g L.length cap] U fun e U'=>∃mb r wb,e=Rw (Pq mb)/\Bt U U'/\Hs U' mb r g cap wb L KV Wd H 0/\U.heap.size<=r:=by
 obtain⟨N,hN⟩:=af L.length;have hc:=hT.vl.cnt;have fW:=hT.pos;rw[hN]at hc fW;obtain⟨wb,hwb⟩:=af U.heap.size;have mw:=run_make_row' (P:=prog) 34 3 (Iq 0) 8 underlying34 uB rfl .i64 .i64 N (by omega) (by omega);obtain⟨W1,bZ⟩:=af (((U.alloc (.cells (madeCells #[Iq 0] N) 3)).alloc (.map #[] 0)).alloc (.cells #[Sq g N cap,Sq wb N N,.map (some (wb+1))] 208));have hb1:Bt U W1:=by rw[<-bZ];exact(((Gr.refl U).alloc _).alloc _).alloc _|>.below
 have YC:Sw U (wb+1) g L KV:=hP.ndv (by omega);have kM:=YC.gl;have OQ:10<U.heap.size:=by
  obtain⟨h1,_⟩:=ht 0 (by decide);by_cases q:10<U.heap.size;·exact q
  ·simp[World.cell?,Je (Jf q)]at h1
 have HKW:Hid (∀j p c,j<L.length->KV j=.slice p (ac L j).kids.length c->∀b o,p=some (aq b o)->b≠wb):=fun j p c hj e b o e2=>by rcases de (hP.nr.kids j hj)with⟨e3,h0⟩|⟨g',cH,e3,_,hl,_⟩;all_goals grind
 have HNM:Hid (Nm U W1 (wb+1+1) (wb+1) g cap wb L KV Wd H N):=by
  refine⟨hb1,YC.grown (aa hb1),?_,?_,?_,by omega,⟨by omega,by omega,by omega,by omega⟩,ht.below hb1⟩;·rw[hN,<-bZ];have:=heap_alloc_new ((U.alloc (.cells (madeCells #[Iq 0] N) 3)).alloc (.map #[] 0)) (.cells #[Sq g N cap,Sq wb N N,.map (some (wb+1))] 208);rw[aA,aA,hwb]at this;exact this
  ·rw[hN,<-bZ,<-hwb];exact((zH U N Wd).alloc _).alloc _
  ·rw[<-bZ];have:=aW.new (U.alloc (.cells (madeCells #[Iq 0] N) 3)) H;rw[aA,hwb]at this;exact this.alloc _
 have LN:=qH<|length_any;have kU:prog.follows .mixedOrders=true:=by kernel_rfl
 have Xv:Hid (10≠wb):=fun e=>by omega
 have HWB:=qH<|hwb;have Yz:∀w:World,(Instr.makeMap 206 none).run prog w=.ok (.map (some w.heap.size)) (w.alloc (.map #[] 0)):=fun _=>rfl;rw[hN];clear hb1 YC kM OQ hP ht;go_enter func63,ntmps63;go_wp2_with fail;clear bZ mw hwb Yz;go_loopw[4] (fun iv wr=>∃k:Nat,k<=N/\iv=Iq ((k:Int)-1)/\Hid (Nm U wr (wb+1+1) (wb+1) g cap wb L KV Wd H k)) (fun iv _=>(intOf iv+1).toNat);case atStart=>grind
 case round=>
  obtain⟨k,hk,rfl,HR⟩:=hrel;cases k with
  |zero=>
   have HV:Hid (Hs wr (wb+1+1) (wb+1) g cap wb L KV Wd H 0):=by have h:=HR.out;obtain⟨n1,n2,n3,n4⟩:=h.ne;exact⟨⟨h.ms,h.nds.gl,h.row.lt,n4,h.nds.gr,n1,h.nds.len,h.nds.nd,h.nds.kid,fun j hj=>h.row.cell hj⟩,h.mm,h.tab⟩
   go_wp2;go_ret;exact⟨_,_,wb,rfl,HR.bel,HV,by rw[HWB.out];omega⟩
  |succ i=>
   have ei:((i+1:Nat):Int)-1=(i:Int):=by omega
   rw[ei];have sw:i<L.length:=by omega
   have hiN:(i:Int)<(N:Int):=by omega
   have hR:=HR.out;obtain⟨p,c,xH,zt⟩:=hR.nds.kid i sw;have kx:=kF (hR.nds.len i sw) (KV i);have gC:=hR.nds.nd i sw;rw[kx,xH]at gC;have qk:=hR.ms;rw[hN]at qk;have hbd:=(hT.vl.nv i sw).bd;have cZ:=hT.kids_le sw;have WC:Hid (∀u,Bt wr u->Cw 119 #[Pq (wb+1+1),fO (ac L i).kind (aC (ac L i) 0) (aC (ac L i) 1) (aC (ac L i) 2) (aC (ac L i) 3) (aC (ac L i) 4) (aC (ac L i) 5) (aC (ac L i) 6) (aC (ac L i) 7) (aC (ac L i) 8) (aC (ac L i) 9) (aC (ac L i) 10) (aC (ac L i) 11) ⟨(ac L i).text.toArray⟩ (.slice p (ac L i).kids.length c) (ac L i).up] u fun e u'=>∃x,e=Rw (Iq x)/\bD x=Wd i/\Hid (Bt wr u')):=fun u hu=>by
    have hRu:=hR.below hu;rw[hS.w i sw];unfold uQ;by_cases h5:(ac L i).kind=5
    ·rw[if_pos h5];have As:(⟨(ac L i).text.toArray⟩:ByteArray).size<=4000:=by have h1:=hT.vl.tl i sw;have h2:=hT.sz;show(ac L i).text.toArray.size<=4000;rw[kQ];omega
     have:=xa (wb+1+1) (aC (ac L i) 0) (aC (ac L i) 1) (aC (ac L i) 2) (aC (ac L i) 3) (aC (ac L i) 4) (aC (ac L i) 5) (aC (ac L i) 6) (aC (ac L i) 7) (aC (ac L i) 8) (aC (ac L i) 9) (aC (ac L i) 10) (aC (ac L i) 11) (ac L i).up ⟨(ac L i).text.toArray⟩ p (ac L i).kids.length c u hRu.tab As;rw[h5];refine this.mono ?_;rintro e u' ⟨rfl,q⟩;exact⟨_,rfl,rfl,hu.trans (q.mono hu.size)⟩
    ·rw[if_neg h5];refine(Af (wb+1+1) (wb+1) wb L.length (ac L i).kids.length Wd (bf (ac L i).kids) (ac L i).kind (aC (ac L i) 0) (aC (ac L i) 1) (aC (ac L i) 2) (aC (ac L i) 3) (aC (ac L i) 4) (aC (ac L i) 5) (aC (ac L i) 6) (aC (ac L i) 7) (aC (ac L i) 8) (aC (ac L i) 9) (aC (ac L i) 10) (aC (ac L i) 11) (ac L i).up ⟨(ac L i).text.toArray⟩ _ p c u (by omega) (by omega) (by omega) (by omega) (by omega) (by omega) (fun j hj=>hS.wb _ (gD hT sw hj).2) (fun j hj=>(gD hT sw hj).2) hRu.ms hRu.row.lt (zt.grown (aa hu)) (fun j hj=>?_)).mono ?_;·have hkj:=gD hT sw hj;rw[hRu.row.cell hkj.2];grind[_P]
     ·rintro e u' ⟨rfl,q⟩;exact⟨_,rfl,rfl,hu.trans (q.mono hu.size)⟩
   have HNX:Hid (∀u,Bt wr u->Nm U (u.setCell (aq wb i) (Iq (Wd i))) (wb+1+1) (wb+1) g cap wb L KV Wd H i):=fun u hu=>(hR.below hu).set HKW Xv;have HWC:Hid (∀u,Bt wr u->u.cell? (aq wb i)=some (Iq 0)/\u.frozen? (aq wb i)=false/\wb<u.heap.size):=fun u hu=>by have hr:=(hR.below hu).row;refine⟨?_,hr.frozen i,hr.lt⟩;rw[hr.cell sw];grind[_P]
   have zbP:=(az.1 qk).1;have kM:=hR.nds.gl;have zbV:¬wb=g:=hR.ne.2.2.1;have zg':¬g=wb:=fun e=>zbV e.symm;have OL:¬wb=wb+1+1:=by omega
   have zha:¬wb+1+1=wb:=by omega
   generalize(ac L i).text.toArray=Zq at gC WC;generalize((ac L i).kind:Int)=kd at gC WC;generalize aC (ac L i) 0=a0 at gC WC;generalize aC (ac L i) 1=a1 at gC WC;generalize aC (ac L i) 2=a2 at gC WC;generalize aC (ac L i) 3=a3 at gC WC;generalize aC (ac L i) 4=a4 at gC WC;generalize aC (ac L i) 5=a5 at gC WC;generalize aC (ac L i) 6=a6 at gC WC;generalize aC (ac L i) 7=a7 at gC WC;generalize aC (ac L i) 8=a8 at gC WC;generalize aC (ac L i) 9=a9 at gC WC;generalize aC (ac L i) 10=b0 at gC WC;generalize aC (ac L i) 11=b1 at gC WC;generalize(ac L i).up=up at gC WC;generalize(ac L i).kids.length=m at gC WC;obtain⟨tx,oM⟩:∃z:ByteArray,⟨Zq⟩=z:=⟨_,rfl⟩;rw[oM]at gC WC;have HS:Hid (∀u,Bt wr u->u.cell? (aq (wb+1+1) 1)=some (Sq wb N N)/\u.cell? (aq g (i*16))=some (Iq kd)/\u.cell? (aq g (i*16+1))=some (Iq a0)/\u.cell? (aq g (i*16+2))=some (Iq a1)/\u.cell? (aq g (i*16+3))=some (Iq a2)/\u.cell? (aq g (i*16+4))=some (Iq a3)/\u.cell? (aq g (i*16+5))=some (Iq a4)/\u.cell? (aq g (i*16+6))=some (Iq a5)/\u.cell? (aq g (i*16+7))=some (Iq a6)/\u.cell? (aq g (i*16+8))=some (Iq a7)/\u.cell? (aq g (i*16+9))=some (Iq a8)/\u.cell? (aq g (i*16+10))=some (Iq a9)/\u.cell? (aq g (i*16+11))=some (Iq b0)/\u.cell? (aq g (i*16+12))=some (Iq b1)/\u.cell? (aq g (i*16+13))=some (.string tx)/\u.cell? (aq g (i*16+14))=some (.slice p m c)/\u.cell? (aq g (i*16+15))=some (Iq up)):=fun u hu=>by
    have key:=fun t x hx=>(hu.cell (p:=(aq g _)) kM).trans (gC t x hx);have zg6:u.cell? (aq (wb+1+1) 1)=some (Sq wb N N):=by rw[Lib.cell_of_heap ((hu.block _ zbP).trans qk)];rfl
    exact⟨zg6,key 0 _ rfl,key 1 _ rfl,key 2 _ rfl,key 3 _ rfl,key 4 _ rfl,key 5 _ rfl,key 6 _ rfl,key 7 _ rfl,key 8 _ rfl,key 9 _ rfl,key 10 _ rfl,key 11 _ rfl,key 12 _ rfl,key 13 _ rfl,key 14 _ rfl,key 15 _ rfl⟩
   obtain⟨q0,q1,q2,q3,q4,q5,q6,q7,q8,q9,_G,_H,_I,_J,_K,_L,q16⟩:=HS wr (ag _ _);obtain⟨wc0,wc1,wc2⟩:=HWC wr (ag _ _);unfold fO at WC;clear hR kx gC qk hbd cZ xH zt oM zbP kM HR HNM ei;go_wp2_with fail;go_region_held(fun W=>W.cell? (aq (wb+1+1) 1)=some (Sq wb N N)/\W.cell? (aq g (i*16))=some (Iq kd)/\W.cell? (aq g (i*16+1))=some (Iq a0)/\W.cell? (aq g (i*16+2))=some (Iq a1)/\W.cell? (aq g (i*16+3))=some (Iq a2)/\W.cell? (aq g (i*16+4))=some (Iq a3)/\W.cell? (aq g (i*16+5))=some (Iq a4)/\W.cell? (aq g (i*16+6))=some (Iq a5)/\W.cell? (aq g (i*16+7))=some (Iq a6)/\W.cell? (aq g (i*16+8))=some (Iq a7)/\W.cell? (aq g (i*16+9))=some (Iq a8)/\W.cell? (aq g (i*16+10))=some (Iq a9)/\W.cell? (aq g (i*16+11))=some (Iq b0)/\W.cell? (aq g (i*16+12))=some (Iq b1)/\W.cell? (aq g (i*16+13))=some (.string tx)/\W.cell? (aq g (i*16+14))=some (.slice p m c)/\W.cell? (aq g (i*16+15))=some (Iq up)) (go_keep) (first|(go_at_call 119;refine ai (WC _ (by first|exact ag _ _|exact(ag _ _).drew)) ?_;rintro e u1 ⟨x,rfl,hx,yB⟩;obtain⟨s0,s1,s2,s3,s4,s5,s6,s7,s8,s9,WQ,WS,WU,WV,WW,WX,s16⟩:=HS u1 yB;obtain⟨wd0,wd1,wd2⟩:=HWC u1 yB)|(go_at_call 118;refine ai (LN _ _) ?_;rintro e u2 ⟨rfl,OS⟩;obtain rfl:=OS.symm));all_goals
    have HN2:=qH<|HNX _ yB;go_wp2;go_roundw;case rel=>exact⟨i,by omega,by go_num,HN2⟩
    case measure=>simp[intOf]<;>omega
def WZ(L:List Nd):Nat->Nat->Int×Int×Int
 |0,_=>(0,0,0)
 |f+1,i=>(ov (if 0<=(ac L i).up then(WZ L f (ac L i).up.toNat).1 else 0) (aC (ac L i) 9),ov (if 0<=(ac L i).up then(WZ L f (ac L i).up.toNat).2.1 else 0) (aC (ac L i) 10),PI (if 0<=(ac L i).up then(WZ L f (ac L i).up.toNat).2.2 else 0) (aC (ac L i) 11))
theorem vu{L}(h:∀i,i<L.length->(ac L i).up<i):∀  f g i,i<L.length->i<f->i<g->WZ L f i=WZ L g i
 |0,_,_,_,h,_=>by omega
 |_+1,0,_,_,_,h=>by omega
 |f+1,g+1,i,hi,hf,hg=>by
  have hu:=h i hi;unfold WZ;by_cases h0:0<=(ac L i).up;·rw[if_pos h0,if_pos h0,if_pos h0,if_pos h0,if_pos h0,if_pos h0,vu h f g (ac L i).up.toNat (by omega) (by omega) (by omega)]
  grind
def sty(L:List Nd)(i:Nat):Int×Int×Int:=WZ L (i+1) i
theorem Zn{L}(h:∀i,i<L.length->(ac L i).up<i){i}(hi:i<L.length)  u0 u1 u2  (hu:(0<=(ac L i).up/\(u0,u1,u2)=sty L (ac L i).up.toNat)\/((ac L i).up<0/\u0=0/\u1=0/\u2=0)):
 ov u0 (aC (ac L i) 9)=(sty L i).1/\ov u1 (aC (ac L i) 10)=(sty L i).2.1/\PI u2 (aC (ac L i) 11)=(sty L i).2.2:=by grind[sty,WZ,ac,vu]
theorem TX:(prog.info? 45).map (fun i=>(i.zero,i.size,i.bytes))=some (some (.agg #[Iq 0,Iq 0,Iq 0]),3,24):=by kernel_rfl
theorem Aa{L:List Nd}{KV:Nat->Value}(hup:∀i:Nat,i<L.length->(ac L i).up<i)(hLn:L.length<=100)(U:World)(r g cap:Nat)(hV:Sw U r g L KV):
 Calls prog 45 #[Sq g L.length cap] U fun e U'=>∃sb,e=.returned (Sq sb L.length L.length)/\ib U' sb 0 L.length (fun j=>(sty L j).1) (fun j=>(sty L j).2.1) (fun j=>(sty L j).2.2)/\U.heap.size<=sb/\Below U.heap.size U U':=by
 obtain⟨i0,hi,dJ,fy,fB⟩:=info_parts TX;obtain⟨m,hm⟩:=af L.length;have mw:(Instr.makeSlice 114 (Iq (m:Int)) (Iq (m:Int))).run prog U=.ok (Sq U.heap.size m m) (U.alloc (.cells (madeCells #[Iq 0,Iq 0,Iq 0] (m*3)) 45)):=by have:=run_make (P:=prog) U 114 45 i0 _ underlying114 hi dJ .i64 .i64 m m (by omega) (lV _) (by grind) (by omega);rw[fy,lW]at this;exact this
 obtain⟨sb,Ma⟩:=af U.heap.size;obtain⟨a,ha⟩:=af (fun j=>(sty L j).1);obtain⟨b,hb⟩:=af (fun j=>(sty L j).2.1);obtain⟨d,hd⟩:=af (fun j=>(sty L j).2.2);have HA:Hid (∀j,a j=(sty L j).1/\b j=(sty L j).2.1/\d j=(sty L j).2.2):=fun j=>by grind
 rw[ha,hb,hd];obtain⟨W0,bc⟩:=af (U.alloc (.cells (madeCells #[Iq 0,Iq 0,Iq 0] (m*3)) 45));have ZG:Hid (W0.rowIs sb 45 (m*3) (yc a b d 0)):=by rw[<-bc,<-Ma];exact IU U m a b d _
 have Gv:Hid (Below sb U W0):=by rw[<-bc,<-Ma];exact((Gr.refl U).alloc _).below
 have Js:=qH hV;have HM:=qH hm;have HSB:=qH Ma;rw[hm];clear hV ha hb hd hi dJ fy fB;go_enter func45,ntmps45;go_wp2_with fail;clear bc Ma mw;go_loopw[12] (fun kv wr=>∃k:Nat,k<=m/\kv=Iq (k:Int)/\Hid (Below sb U wr)/\Hid (wr.rowIs sb 45 (m*3) (yc a b d k))) (fun kv _=>m-(intOf kv).toNat);case atStart=>grind
 case round=>
  obtain⟨k,hk,rfl,HB,HR⟩:=hrel;by_cases hlt:k<m
  ·have aR:(k:Int)<(m:Int):=by omega
   have cZ:k<L.length:=by have:=HM.out;omega
   have dU:=qH<|fun t v hv=>(ba (a:=(aq g (k*16+t))) (HB.block g (by rw[<-HSB.out];exact Js.gl))).trans (Js.nd k cZ t v hv);rw[kF (Js.len k cZ)]at dU;obtain⟨pk,ck,xH,_⟩:=Js.kid k cZ;have HUP:=qH<|hup k cZ;have HST:Hid (∀u0 u1 u2,(0<=(ac L k).up/\(u0,u1,u2)=sty L (ac L k).up.toNat)\/((ac L k).up<0/\u0=0/\u1=0/\u2=0)->ov u0 (aC (ac L k) 9)=a k/\ov u1 (aC (ac L k) 10)=b k/\PI u2 (aC (ac L k) 11)=d k):=fun u0 u1 u2 hu=>by obtain⟨e1,e2,e3⟩:=HA k;grind[Zn]
   rw[xH]at dU;generalize(ac L k).text.toArray=Zq at dU;generalize((ac L k).kind:Int)=kd at dU;generalize aC (ac L k) 0=a0 at dU;generalize aC (ac L k) 1=a1 at dU;generalize aC (ac L k) 2=a2 at dU;generalize aC (ac L k) 3=a3 at dU;generalize aC (ac L k) 4=a4 at dU;generalize aC (ac L k) 5=a5 at dU;generalize aC (ac L k) 6=a6 at dU;generalize aC (ac L k) 7=a7 at dU;generalize aC (ac L k) 8=a8 at dU;generalize aC (ac L k) 9=a9 at dU HST;generalize aC (ac L k) 10=b0 at dU HST;generalize aC (ac L k) 11=b1 at dU HST;generalize(ac L k).up=up at dU HST HUP;generalize(ac L k).kids.length=kl at dU;obtain⟨tx,oM⟩:∃z:ByteArray,⟨Zq⟩=z:=⟨_,rfl⟩;rw[oM]at dU;have q0:wr.cell? (aq g (k*16))=some (Iq kd):=dU 0 _ rfl;have q1:=dU 1 _ rfl;have q2:=dU 2 _ rfl;have q3:=dU 3 _ rfl;have q4:=dU 4 _ rfl;have q5:=dU 5 _ rfl;have q6:=dU 6 _ rfl;have q7:=dU 7 _ rfl;have q8:=dU 8 _ rfl;have q9:=dU 9 _ rfl;have _G:=dU 10 _ rfl;have _H:=dU 11 _ rfl;have _I:=dU 12 _ rfl;have _J:=dU 13 _ rfl;have _K:=dU 14 _ rfl;have _L:=dU 15 _ rfl;obtain⟨A,hA⟩:=af wr.heap.size;obtain⟨W1,bZ⟩:=af ((wr.alloc (.cells #[Iq kd,Iq a0,Iq a1,Iq a2,Iq a3,Iq a4,Iq a5,Iq a6,Iq a7,Iq a8,Iq a9,Iq b0,Iq b1,.string tx,.slice pk kl ck,Iq up] 94)).alloc (.cells #[Iq 0,Iq 0,Iq 0] 45));have HG1:Hid (Gr wr W1):=by rw[<-bZ];exact((Gr.refl wr).alloc _).alloc _
   have zv:W1.heap[A]?=some (.cells #[Iq kd,Iq a0,Iq a1,Iq a2,Iq a3,Iq a4,Iq a5,Iq a6,Iq a7,Iq a8,Iq a9,Iq b0,Iq b1,.string tx,.slice pk kl ck,Iq up] 94 (0,0)):=by rw[<-bZ,<-hA,cG _ _ _ (by simp_all)];exact heap_alloc_new _ _
   have hs1:R3 45 W1 (A+1) 0 0 0:=by rw[<-bZ,<-hA,<-World.size_alloc];exact R3.new _ _ _ _ _
   have hr1:=rowIs_below HR HG1.below;have hsA:sb<A:=by rw[<-hA];exact HR.lt
   have HR1:=qH hr1;have HN1:Hid (∀u:World,u.heap[A]?=W1.heap[A]?->u.cell? (aq A 10)=some (Iq a9)/\u.cell? (aq A 11)=some (Iq b0)/\u.cell? (aq A 12)=some (Iq b1)/\u.cell? (aq A 15)=some (Iq up)):=fun u hu=>by refine⟨?_,?_,?_,?_⟩<;>(rw[Lib.cell_of_heap (hu.trans zv)];rfl)
   obtain⟨Sd,Se,Sf,Sh⟩:=HN1 W1 rfl;have Zu:=qH<|(az.1 zv).1;have Mr:=qH hs1;have HBA:Hid (Below A wr W1):=by rw[<-hA];exact HG1.below
   have qU:=qH<|HR;have HF:Hid (∀u v0 v1 v2,Below A wr u->v0=a k->v1=b k->v2=d k->sb<u.heap.size/\(∀j,u.frozen? (aq sb j)=false)/\(∃v,u.cell? (aq sb (k*3))=some v)/\(∃v,u.cell? (aq sb (k*3+1))=some v)/\(∃v,u.cell? (aq sb (k*3+2))=some v)/\Hid (Below sb U (((u.setCell (aq sb (k*3)) (Iq v0)).setCell (aq sb (k*3+1)) (Iq v1)).setCell (aq sb (k*3+2)) (Iq v2)))/\Hid ((((u.setCell (aq sb (k*3)) (Iq v0)).setCell (aq sb (k*3+1)) (Iq v1)).setCell (aq sb (k*3+2)) (Iq v2)).rowIs sb 45 (m*3) (yc a b d (k+1)))):=fun u v0 v1 v2 hu h0 h1 h2=>by have Eo:=World.rowIs.of_block HR (hu.block sb (by omega));have jj:=HB.trans (hu.mono (by omega));exact⟨Eo.lt,fun j=>Eo.frozen j,⟨_,Eo.cell (by omega)⟩,⟨_,Eo.cell (by omega)⟩,⟨_,Eo.cell (by omega)⟩,((jj.setCell (p:=(aq sb (k*3))) (ae _) _).setCell (p:=(aq sb (k*3+1))) (ae _) _).setCell (p:=(aq sb (k*3+2))) (ae _) _,IQ Eo v0 v1 v2 h0 h1 h2⟩
   have hA1:A+1≠sb:=by omega
   have c0:=hs1.c0;have c1:=hs1.c1;have c2:=hs1.c2;have fz:=hs1.fz;clear dU zv hs1 hr1 xH oM HR;by_cases h0:0<=up;focus
    obtain⟨j,rfl⟩:∃j:Nat,up=(j:Int):=⟨up.toNat,by omega⟩;have xG:j<k:=by have:=HUP.out;omega
    have hjm:(j:Int)<(m:Int):=by omega
    obtain⟨⟨u0,u1,u2⟩,hu⟩:=af (sty L j);have g0:W1.cell? (aq sb (j*3))=some (Iq u0):=by rw[HR1.cell (by omega)];unfold yc;rw[if_pos (by omega),if_pos (by omega),show j*3/3=j by omega,(HA j).1,hu]
    have g1:W1.cell? (aq sb (j*3+1))=some (Iq u1):=by rw[HR1.cell (by omega)];unfold yc;rw[if_pos (by omega),if_neg (by omega),if_pos (by omega),show(j*3+1)/3=j by omega,(HA j).2.1,hu]
    have g2:W1.cell? (aq sb (j*3+2))=some (Iq u2):=by rw[HR1.cell (by omega)];unfold yc;rw[if_pos (by omega),if_neg (by omega),if_neg (by omega),show(j*3+2)/3=j by omega,(HA j).2.2,hu]
    obtain⟨e1,e2,e3⟩:=HST u0 u1 u2 (.inl ⟨h0,by rw[<-hu];rfl⟩);have OV:Hid (∀u,Calls prog 71 #[sv u0 u1 u2,sv a9 b0 b1] u fun e u'=>e=.returned (sv (a k) (b k) (d k))/\Hid (Gr u u')):=fun u=>by have:=oZ u0 u1 u2 a9 b0 b1 u;rw[e1,e2,e3]at this;exact this
    obtain⟨v0,_z⟩:=af (a k);obtain⟨v1,fj⟩:=af (b k);obtain⟨v2,my⟩:=af (d k);rw[_z,fj,my]at OV HF;unfold sv at OV;obtain⟨W2,qd⟩:=af (((W1.setCell (aq (A+1) 0) (Iq u0)).setCell (aq (A+1) 1) (Iq u1)).setCell (aq (A+1) 2) (Iq u2));have jD:R3 45 W2 (A+1) u0 u1 u2:=by rw[<-qd];exact Mr.set u0 u1 u2
    have HB2:Hid (Below A wr W2):=by rw[<-qd];exact((HBA.setCell (p:=(aq (A+1) 0)) (by show A<=A+1;omega) _).setCell (p:=(aq (A+1) 1)) (by show A<=A+1;omega) _).setCell (p:=(aq (A+1) 2)) (by show A<=A+1;omega) _
    have hn2:W2.heap[A]?=W1.heap[A]?:=by rw[<-qd,bv _ (aq (A+1) 2) _ A (by show A≠A+1;omega),bv _ (aq (A+1) 1) _ A (by show A≠A+1;omega),bv _ (aq (A+1) 0) _ A (by show A≠A+1;omega)]
    obtain⟨y10,y11,y12,y15⟩:=HN1 W2 hn2;have s0:=jD.c0;have s1:=jD.c1;have s2:=jD.c2;clear hu e1 e2 e3 jD hn2;go_wp2_with fail;refine(OV _).mono ?_;rintro e u ⟨rfl,Jm⟩;have HU:=qH<|HB2.trans (Jm.below.mono (by have:=HB2.size;omega))
   rotate_left;focus
    obtain⟨e1,e2,e3⟩:=HST 0 0 0 (.inr ⟨by omega,rfl,rfl,rfl⟩);have OV:Hid (∀u,Calls prog 71 #[sv 0 0 0,sv a9 b0 b1] u fun e u'=>e=.returned (sv (a k) (b k) (d k))/\Hid (Gr u u')):=fun u=>by have:=oZ 0 0 0 a9 b0 b1 u;rw[e1,e2,e3]at this;exact this
    obtain⟨v0,_z⟩:=af (a k);obtain⟨v1,fj⟩:=af (b k);obtain⟨v2,my⟩:=af (d k);rw[_z,fj,my]at OV HF;unfold sv at OV;clear e1 e2 e3;go_wp2_with fail;refine(OV _).mono ?_;rintro e u ⟨rfl,Jm⟩;have HU:=qH<|HBA.trans (Jm.below.mono (by have:=HBA.size;omega))
   rotate_left;all_goals
    clear OV;obtain⟨f1,f2,⟨x0,f3⟩,⟨x1,f4⟩,⟨x2,f5⟩,F1,F2⟩:=HF u v0 v1 v2 HU rfl rfl rfl;clear HF;go_wp2;go_roundw;case rel=>exact⟨k+1,hlt,by go_num,F1,F2⟩
    case measure=>simp[intOf];omega
  ·have aR:¬(k:Int)<(m:Int):=by omega
   obtain rfl:k=m:=by omega
   go_wp2;go_ret;exact⟨sb,rfl,QP HR,by rw[HSB.out];omega,by rw[HSB.out];exact HB⟩
def Ix(a b c d:Nat->Int)(k:Nat)(i:Nat):Value:=Iq (if i/4<k then(if i %4=0 then a (i/4)else if i %4=1 then b (i/4)else if i %4=2 then c (i/4)else d (i/4))else 0)
theorem UR(w:World)  m   a b c d   T  :(w.alloc (.cells (madeCells #[Iq 0,Iq 0,Iq 0,Iq 0] (m*4)) T)).rowIs w.heap.size T (m*4) (Ix a b c d 0):=by
 have:=World.rowIs_alloc w (madeCells #[Iq 0,Iq 0,Iq 0,Iq 0] (m*4)) T (Ix a b c d 0) (fun i hi=>by
  rw[size_madeCells]at hi;unfold Ix;rw[if_neg (by omega)];simp only[madeCells];have:i %4=0\/i %4=1\/i %4=2\/i %4=3:=by omega
  rcases this with e|e|e|e<;>simp[e,hi]);rw[size_madeCells]at this;omega
theorem UQ{W:World}{b}{T}{m k}{a b1 c d}(h:W.rowIs b T (m*4) (Ix a b1 c d k))  x y z u  (hx:x=a k) (hy:y=b1 k) (hz:z=c k) (hu:u=d k):
 ((((W.setCell (aq b (k*4)) (Iq x)).setCell (aq b (k*4+1)) (Iq y)).setCell (aq b (k*4+2)) (Iq z)).setCell (aq b (k*4+3)) (Iq u)).rowIs b T (m*4) (Ix a b1 c d (k+1)):=by subst hx hy hz hu;refine((((h.set (k*4) (Iq (a k))).set (k*4+1) (Iq (b1 k))).set (k*4+2) (Iq (c k))).set (k*4+3) (Iq (d k))).congr fun i hi=>?_;grind[Ix]
def qW(W:World)(lb m:Nat)(a b c d:Nat->Int):Prop:=lb<W.heap.size/\∀j,j<m->W.cell? (aq lb (j*4))=some (Iq (a j))/\W.cell? (aq lb (j*4+1))=some (Iq (b j))/\W.cell? (aq lb (j*4+2))=some (Iq (c j))/\W.cell? (aq lb (j*4+3))=some (Iq (d j))
theorem Zj{W}{lb}{T}{m}{a b c d}(h:W.rowIs lb T (m*4) (Ix a b c d m)):qW W lb m a b c d:=by
 refine⟨h.lt,fun j hj=>⟨?_,?_,?_,?_⟩⟩;·rw[h.cell (by omega)];grind[Ix]
 ·rw[h.cell (by omega)];grind[Ix]
 ·rw[h.cell (by omega)];grind[Ix]
 ·rw[h.cell (by omega)];grind[Ix]
def zaD(U W:World)(lb m:Nat)(a b c d:Nat->Int):Prop:=qW W lb m a b c d/\U.heap.size<=lb/\Bt U W
theorem Va  L   ks   N   aM cR  :∃G:Nat->Int,∀g,bQ L ks N aM cR g->∀j,j<ks.length->g j=G j:=by
 by_cases e:∃g,bQ L ks N aM cR g;·obtain⟨g,hg⟩:=e;exact⟨g,fun g' ur=>ur.uniq hg⟩
 simp_all
theorem FF{g h}{cg}:∀k,(∀j,j<k->g j=h j)->offs g cg k=offs h cg k:=fun k e=>by grind[offs,bg]
def kK(W:World)(B:Nat)(p:Option Addr)(m:Nat)(v:Nat->Int):Prop:=m=0\/∃b o,p=some (aq b o)/\b<W.heap.size/\B<=b/\∀j,j<m->W.cell? (aq b (o+j))=some (Iq (v j))
theorem kK.below{W W'}{B m}{p}{v}(h:kK W B p m v)(hb:Bt W W'):kK W' B p m v:=by
 rcases h with h|⟨b,o,e,h1,h2,h3⟩;·exact .inl h
 ·exact .inr ⟨b,o,e,zz007 h1 hb.size,h2,fun j hj=>(hb.cell (p:=(aq b _)) h1).trans (h3 j hj)⟩
theorem kK.low{W}{B B' m}{p}{v}(h:kK W B p m v)(hB:B'<=B):kK W B' p m v:=by
 rcases h with h|⟨b,o,e,h1,h2,h3⟩;·exact .inl h
 ·exact .inr ⟨b,o,e,h1,by omega,h3⟩
theorem qP{f g}{n}(h:∀j,j<n->f j=g j):ar f (List.range n)=ar g (List.range n):=bg fun j hj=>h j (Ed.1 hj)
theorem cV.congr{n}{mn mx wt}{r}{g g'}(h:cV n mn mx wt r g)(e:∀j,j<n->g j=g' j):cV n mn mx wt r g':=by
 rcases h with⟨h1,hb⟩|⟨h1,A,S,L,V,m,hp⟩;·refine .inl ⟨h1,fun j hj=>by rw[<-e j hj];exact hb.bd j hj,by rw[<-qP e];exact hb.sum,fun i k Tz hk hlt=>?_⟩;rw[<-e k hk];exact hb.behind i k Tz hk (by rw[e i (by omega)];exact hlt)
 ·exact .inr ⟨h1,A,S,L,V,m,hp.perm,hp.left,hp.pos,hp.weight,hp.full,hp.open_,hp.miss,hp.none_,hp.sorted,fun j hj=>by rw[<-e j hj];exact hp.is j hj⟩
theorem bQ.congr{L}{ks}{N}{aM cR}{g g'}(h:bQ L ks N aM cR g)(e:∀j,j<ks.length->g j=g' j):bQ L ks N aM cR g':=cV.congr h e
theorem Vb{u}{m lb}{L}{ks}{N}{aM cR}{G}(hmm:ks.length=m)(hm:m<=200)(h:ib u lb 0 m (fun j=>LG (ac L (bf ks j)) (N j)) (fun j=>aC (ac L (bf ks j)) 2) (fun j=>aC (ac L (bf ks j)) 3))(hG:∀g,bQ L ks N aM cR g->∀j,j<ks.length->g j=G j):
 Cw 199 #[Iq aM,Iq cR,Sq lb m m] u fun e u'=>∃q cq,e=Rw (.slice q m cq)/\kK u' u.heap.size q m G/\Bt u u'/\(ks=[]\/bQ L ks N aM cR G):=by
 subst hmm;refine(qO _ ks.length _ _ _ aM cR u ⟨_,_,rfl,.inr ⟨lb,0,rfl,h⟩⟩ (by omega)).mono ?_;rintro e u' ⟨v,rfl,hs⟩;have hb:=hs.below;rcases hs with⟨h0,rfl,hu⟩|⟨q1,q2,lb2,rfl,q3,⟨gg,q4,q5⟩,q6⟩
 ·have hk:ks=[]:=by
   rcases h0 with h0|h0;·grind
   ·omega
  exact⟨none,0,by rw[hk];rfl,.inl (by rw[hk];rfl),hb,.inl hk⟩
 ·refine⟨_,_,rfl,.inr ⟨lb2,0,rfl,q4.1,q3,fun j hj=>?_⟩,hb,.inr (bQ.congr q5 fun j hj=>hG gg q5 j hj)⟩;rw[<-hG gg q5 j hj];exact(q4.2 j hj).1
theorem Y'{u}{m lb}{L}{ks}{N}{aM cR}{G}(hmm:ks.length=m)(hm:m<=200)(h:ib u lb 0 m (fun j=>LG (ac L (bf ks j)) (N j)) (fun j=>aC (ac L (bf ks j)) 2) (fun j=>aC (ac L (bf ks j)) 3))(hG:∀g,bQ L ks N aM cR g->∀j,j<ks.length->g j=G j):
 Cw 200 #[Iq aM,Iq cR,Sq lb m m] u fun e u'=>∃q cq,e=Rw (.slice q m cq)/\kK u' u.heap.size q m (offs G (cl cR))/\Bt u u':=by
 subst hmm;refine(C8 _ ks.length _ _ _ aM cR u ⟨_,_,rfl,.inr ⟨lb,0,rfl,h⟩⟩ (by omega)).mono ?_;rintro e u' ⟨v,rfl,hs,zgZ⟩;have hb:=hs.below;rcases hs with⟨h0,rfl,hu⟩|⟨q1,q2,lb2,g,rfl,q4,q5,q6⟩
 ·have hk:ks=[]:=by
   rcases h0 with h0|h0;·grind
   ·omega
  exact⟨none,0,by grind,.inl (by omega),hb⟩
 ·refine⟨_,_,rfl,.inr ⟨lb2,0,rfl,q4.1,zgZ _ _ _ _ rfl,fun j hj=>?_⟩,hb⟩;rw[<-FF j (fun i hi=>hG g q5 i (by omega))];exact(q4.2 j hj).1
def zM(P:Nat->Nat->Int)(i:Nat):Value:=Iq (P (i/10) (i %10))
def gt(P:Nat->Nat->Int)(c t:Nat)(x:Int):Nat->Nat->Int:=fun q u=>if q=c/\u=t then x else P q u
theorem Ze{W:World}{b N}{T}{P}(h:W.rowIs b T N (zM P))  c t  (ht:t<10)  x  :(W.setCell (aq b (c*10+t)) (Iq x)).rowIs b T N (zM (gt P c t x)):=by refine(h.set (c*10+t) (Iq x)).congr fun i hi=>?_;grind[zM,gt]
theorem bu{W:World}{b n}{T}{P}(h:W.rowIs b T (n*10) (zM P)){c t}(hc:c<n)(ht:t<10):W.cell? (aq b (c*10+t))=some (Iq (P c t)):=by rw[h.cell (by omega)];grind[zM]
theorem sN.kept{W W'}{r n k}{H}{p}{aX off}(h:sN W p k aX off)(hm:aW W r H n)(hg:W.grownBy W' (some r)):sN W' p k aX off:=by
 rcases h with h|⟨b,o,e,h1,h2⟩;·exact .inl h
 ·by_cases hk:k=0;·exact .inl hk
  ·obtain⟨es,tS,hmp⟩:=hm.map;have bj:b≠r:=fun e2=>by subst e2;have:=(h2 0 (by omega)).1;simp[World.cell?,hmp]at this
   have hb:=hg.block b h1 (fun q=>bj (by grind));exact .inr ⟨b,o,e,zz007 h1 hg.size,fun j hj=>⟨(ba (a:=(aq b (o+j*2))) hb).trans (h2 j hj).1,(ba (a:=(aq b (o+j*2+1))) hb).trans (h2 j hj).2⟩⟩
structure Pw(U0 W:World)(r pb N:Nat)(P:Nat->Nat->Int)(H:Nat->Int->Int)(n:Nat):Prop where
 g:U0.grownBy W (some r)
 m:aW W r H n
 row:W.rowIs pb 102 (N*10) (zM P)
theorem Pw.below{U0 W W'}{r pb N n}{P}{H}(h:Pw U0 W r pb N P H n)(hb:Bt W W'):Pw U0 W' r pb N P H n:=
 ⟨h.g.trans (aa hb),h.m.grown_below hb,rowIs_below h.row hb⟩
theorem Pw.grown{U0 W W'}{r pb N n n'}{P}{H}(h:Pw U0 W r pb N P H n)(hg:W.grownBy W' (some r))(hm:aW W' r H n')(bj:pb≠r):Pw U0 W' r pb N P H n':=
 ⟨h.g.trans hg,hm,rJ h.row hg bj⟩
theorem Pw.set{U0 W}{r pb N n}{P}{H}(h:Pw U0 W r pb N P H n)(ql:U0.heap.size<=pb)(bj:pb≠r)  c t  (ht:t<10)  x  :Pw U0 (W.setCell (aq pb (c*10+t)) (Iq x)) r pb N (gt P c t x) H n:=
 ⟨kw h.g (a:=(aq pb _)) ql _,h.m.set (a:=(aq pb _)) bj _,Ze h.row c t ht x⟩
theorem Pw.mono{U0 W}{r pb N n n'}{P}{H}(h:Pw U0 W r pb N P H n)(hn:n<=n'):Pw U0 W r pb N P H n':=⟨h.g,h.m.mono hn,h.row⟩
def gu(hh w:Int):Int:=max 0 (hh-w)
theorem F7(mb r pb N k kid nn:Nat)(P:Nat->Nat->Int)(H:Nat->Int->Int)(a0 a1 a2 a3 a4 a5 a6 a7 a8 a9 b0 b1 up:Int)(tx:ByteArray)(p:Option Addr)(m c:Nat)(sp:Option Addr)(sn sc:Nat)(aX off:Nat->Int)(U0 U:World)
 (hP:Hid (Pw U0 U r pb N P H nn)) (ql:U0.heap.size<=pb) (L_:pb≠r) (hk:k<N) (hN:N<=1000) (hm:0<m) (L6:Hid (∃b o,p=some (aq b o)/\b<U0.heap.size/\b≠r/\U0.cell? (aq b o)=some (Iq (kid:Int)))) (hH:0<=H kid (P k 2)/\H kid (P k 2)<=100000) (h3:0<=P k 3/\P k 3<=100000)
 (HC:Hid (∀u,Pw U0 u r pb N P H nn->Cw 158 #[Pq mb,Iq (kid:Int),Iq (P k 2)] u fun e u'=>e=Rw (Iq (H kid (P k 2)))/\Hid (u.grownBy u' (some r))/\Hid (aW u' r H (nn+100))))
 (OF:Hid (∀u P' n',Pw U0 u r pb N P' H n'->Cw 159 #[Iq a0,.slice sp sn sc] u fun e u'=>e=Rw (Iq (jE a0 aX off sn))/\Hid (Bt u u'))):
 Cw 120 #[Pq mb,.pointer (some (aq pb (k*10))),fO 4 a0 a1 a2 a3 a4 a5 a6 a7 a8 a9 b0 b1 tx (.slice p m c) up,.slice sp sn sc] U fun e U'=>e=Rw (.tuple #[])/\Pw U0 U' r pb N (gt (gt P k 9 (gu (H kid (P k 2)) (P k 3))) k 8 (min (max 0 (jE a0 aX off sn)) (gu (H kid (P k 2)) (P k 3)))) H (nn+100)/\Hid (∀b,b<U.heap.size->b≠r->b≠pb->U'.heap[b]?=U.heap[b]?):=by
 obtain⟨kb,ko,rfl,cZ,hkr,hkc⟩:=L6.out;obtain⟨W1,bZ⟩:=af (U.alloc (.cells #[Iq 4,Iq a0,Iq a1,Iq a2,Iq a3,Iq a4,Iq a5,Iq a6,Iq a7,Iq a8,Iq a9,Iq b0,Iq b1,.string tx,.slice (some (aq kb ko)) m c,Iq up] 94));obtain⟨A,hA⟩:=af U.heap.size;have HB1:Hid (Bt U W1):=by rw[<-bZ];exact((Gr.refl U).alloc _).below
 have dm:W1.heap[A]?=some (.cells #[Iq 4,Iq a0,Iq a1,Iq a2,Iq a3,Iq a4,Iq a5,Iq a6,Iq a7,Iq a8,Iq a9,Iq b0,Iq b1,.string tx,.slice (some (aq kb ko)) m c,Iq up] 94 (0,0)):=by rw[<-bZ,<-hA];exact heap_alloc_new _ _
 have tn:Hid (Pw U0 W1 r pb N P H nn):=hP.below HB1;have zel:Hid (U.heap.size=A):=hA;have hAr:A≠r:=by have:=hP.m.lt;omega
 have hpA:pb<A:=by rw[<-hA];exact hP.row.lt
 obtain⟨w,hw⟩:=af (P k 2);obtain⟨hh,hhe⟩:=af (P k 3);obtain⟨y,hy⟩:=af (H kid w);rw[hw]at HC hH⊢;rw[hhe]at h3⊢;rw[hy]at HC hH⊢;have HS:Hid (∀u,Pw U0 u r pb N P H nn\/Pw U0 u r pb N P H (nn+100)->W1.grownBy u (some r)->u.cell? (aq A 14)=some (.slice (some (aq kb ko)) m c)/\u.cell? (aq kb ko)=some (Iq (kid:Int))/\u.cell? (aq pb (k*10+2))=some (Iq w)/\u.cell? (aq pb (k*10+3))=some (Iq hh)):=fun u hu hg=>by
  have hg0:U0.grownBy u (some r)/\u.rowIs pb 102 (N*10) (zM P):=by rcases hu with q|q<;>exact⟨q.g,q.row⟩
  have EY:=(az.1 dm).1;have hb:u.heap[A]?=W1.heap[A]?:=hg.block A EY (fun e=>by grind);refine⟨by rw[Lib.cell_of_heap (hb.trans dm)];rfl,(ba (a:=(aq kb ko)) (hg0.1.block kb cZ (fun e=>hkr (by grind)))).trans hkc,?_,?_⟩;·rw[<-hw];exact bu hg0.2 hk (by omega)
  ·rw[<-hhe];exact bu hg0.2 hk (by omega)
 have HAU:Hid (∀u,W1.grownBy u (some r)->u.heap[A]?=some (.cells #[Iq 4,Iq a0,Iq a1,Iq a2,Iq a3,Iq a4,Iq a5,Iq a6,Iq a7,Iq a8,Iq a9,Iq b0,Iq b1,.string tx,.slice (some (aq kb ko)) m c,Iq up] 94 (0,0))):=fun u hg=>(hg.block A (az.1 dm).1 (fun e=>by grind)).trans dm;have ii:Hid (∀u,(u=W1\/u=W1.drew)->Cw 158 #[Pq mb,Iq (kid:Int),Iq w] u fun e u'=>e=Rw (Iq y)/\Hid (W1.grownBy u' (some r))/\Hid (Pw U0 u' r pb N P H (nn+100))):=fun u hu=>by
  have _a:W1.grownBy u (some r):=by
   rcases hu with rfl|rfl;·exact aa (ag _ _)
   ·exact mh (aa (ag _ _))
  have vT:Pw U0 u r pb N P H nn:=by
   rcases hu with rfl|rfl;·exact tn
   ·exact tn.below (ag _ _).drew
  refine(HC u vT).mono ?_;rintro e u' ⟨rfl,q1,q2⟩;exact⟨rfl,_a.trans q1,vT.grown q1 q2 L_⟩
 obtain⟨s1,s2,s3,s4⟩:=HS W1 (.inl tn) (aa (ag _ _));obtain⟨rm,RY⟩:=af (gu y hh);have hrv:max 0 (y-hh)=rm:=RY;rw[RY];have n1:¬A=pb:=by omega
 have n3:¬kb=pb:=by omega
 have n4:¬pb=kb:=by omega
 have vW:Hid (∀u n' P',Pw U0 u r pb N P' H n'->(∃v,u.cell? (aq pb (k*10+9))=some v)/\u.frozen? (aq pb (k*10+9))=false/\pb<u.heap.size/\(∃v,u.cell? (aq pb (k*10+8))=some v)/\u.frozen? (aq pb (k*10+8))=false):=fun u n' P' hu=>⟨⟨_,bu hu.row hk (by omega)⟩,hu.row.frozen _,hu.row.lt,⟨_,bu hu.row hk (by omega)⟩,hu.row.frozen _⟩;obtain⟨⟨v9,r9⟩,f9,l9,_⟩:=vW W1 nn P tn;have vO:Hid (∀u,Pw U0 u r pb N P H (nn+100)->W1.grownBy u (some r)->(u.setCell (aq pb (k*10+9)) (Iq rm)).cell? (aq A 14)=some (.slice (some (aq kb ko)) m c)/\(u.setCell (aq pb (k*10+9)) (Iq rm)).cell? (aq kb ko)=some (Iq (kid:Int))/\(u.setCell (aq pb (k*10+9)) (Iq rm)).cell? (aq pb (k*10+2))=some (Iq w)/\(u.setCell (aq pb (k*10+9)) (Iq rm)).cell? (aq pb (k*10+3))=some (Iq hh)):=fun u hu hg=>by
  obtain⟨q1,q2,q3,q4⟩:=HS u (.inr hu) hg;refine⟨?_,?_,?_,?_⟩;·rw[dy _ _ _ _ (fun e=>by grind)];exact q1
  ·rw[dy _ _ _ _ (fun e=>by grind)];exact q2
  ·rw[dy _ _ _ _ (fun e=>by grind)];exact q3
  ·rw[dy _ _ _ _ (fun e=>by grind)];exact q4
 clear dm hP L6 hy hw hhe RY;unfold fO;go_enter func120,ntmps120;go_wp2_with fail;clear bZ hA;have hwr:IntKind.i64.wrap (y-hh)=y-hh:=IntWalk.i64_in _ (by omega);go_cut[7]from 8 to 28 (fun _ wx=>Hid (Pw U0 wx r pb N (gt P k 9 rm) H (nn+100))/\Hid (∀b,b<U.heap.size->b≠r->b≠pb->wx.heap[b]?=U.heap[b]?)/\Hid (wx.heap[A]?=some (.cells #[Iq 4,Iq a0,Iq a1,Iq a2,Iq a3,Iq a4,Iq a5,Iq a6,Iq a7,Iq a8,Iq a9,Iq b0,Iq b1,.string tx,.slice (some (aq kb ko)) m c,Iq up] 94 (0,0))));case first=>
  go_region_held(fun W=>W.cell? (aq A 14)=some (.slice (some (aq kb ko)) m c)/\W.cell? (aq kb ko)=some (Iq (kid:Int))/\W.cell? (aq pb (k*10+2))=some (Iq w)/\W.cell? (aq pb (k*10+3))=some (Iq hh)) (go_keep) (first|(go_at_call 158;refine ai (ii _ (by grind)) ?_;rintro e u1 ⟨rfl,Jm,Su⟩;obtain⟨t1,t2,t3,t4⟩:=HS u1 (.inr Su) Jm;obtain⟨⟨v9u,r9u⟩,f9u,l9u,_⟩:=vW u1 _ _ Su;obtain⟨o1,o2,o3,o4⟩:=vO u1 Su Jm));all_goals go_wp2_with fail
  all_goals go_meet
  all_goals(refine⟨?_,?_,?_⟩)
  all_goals first
   |exact Su.set ql L_ k 9 (by omega) rm
   |exact fun b h1 h2 h3=>(bv u1 (aq pb (k*10+9)) _ b h3).trans ((Jm.block b (zz007 h1 HB1.size) (fun e=>h2 (by grind))).trans (HB1.block b h1))
   |exact(bv u1 (aq pb (k*10+9)) _ A n1).trans (HAU u1 Jm)
 case rest=>
  obtain⟨HPc,HFc,HAc⟩:=hcut;have a1c:wc.cell? (aq A 1)=some (Iq a0):=by rw[Lib.cell_of_heap HAc.out];rfl
  have c9:wc.cell? (aq pb (k*10+9))=some (Iq rm):=by rw[bu HPc.row hk (by omega)];unfold gt;rw[if_pos ⟨rfl,rfl⟩]
  obtain⟨ov,TG⟩:=af (jE a0 aX off sn);rw[TG]at OF;have OF1:Hid (∀u,(u=wc\/u=wc.drew)->Cw 159 #[Iq a0,.slice sp sn sc] u fun e u'=>e=Rw (Iq ov)/\Hid (Bt wc u')/\u'.cell? (aq A 1)=some (Iq a0)/\u'.cell? (aq pb (k*10+9))=some (Iq rm)):=fun u hu=>by
   have jj:Bt wc u:=by
    rcases hu with rfl|rfl;·exact ag _ _
    ·exact(ag _ _).drew
   refine(OF u _ _ (HPc.below jj)).mono ?_;rintro e u' ⟨rfl,q⟩;have qe:=jj.trans (q.mono jj.size);exact⟨rfl,qe,(qe.cell (p:=(aq A 1)) (az.1 HAc).1).trans a1c,(qe.cell (p:=(aq pb _)) HPc.row.lt).trans c9⟩
  have HOV:Hid (jE a0 aX off sn=ov):=TG;have om:Hid (∀u x,Bt wc u->x=min (max 0 ov) rm->Pw U0 (u.setCell (aq pb (k*10+8)) (Iq x)) r pb N (gt (gt P k 9 rm) k 8 (min (max 0 (jE a0 aX off sn)) rm)) H (nn+100)):=fun u x hu hx=>by rw[HOV.out,<-hx];exact(HPc.below hu).set ql L_ k 8 (by omega) x
  have HUW:Hid (U.heap.size<=wc.heap.size):=by have:=(az.1 HAc).1;show _<=_;have:=zel.out;omega
  have HFF:Hid (∀(u:World) (x:Value),Bt wc u->∀b,b<U.heap.size->b≠r->b≠pb->(u.setCell (aq pb (k*10+8)) x).heap[b]?=U.heap[b]?):=fun u x hu b h1 h2 h3=>(bv u (aq pb (k*10+8)) _ b h3).trans ((hu.block b (zz007 h1 HUW)).trans (HFc b h1 h2 h3));have HR8:Hid (∀u,Bt wc u->(∃v,u.cell? (aq pb (k*10+8))=some v)/\u.frozen? (aq pb (k*10+8))=false/\pb<u.heap.size):=fun u hu=>by obtain⟨_,_,q3,q4,q5⟩:=vW u _ _ (HPc.below hu);exact⟨q4,q5,q3⟩
  have Sv:Hid (∀(u:World) (x:Int),u.cell? (aq A 1)=some (Iq a0)->u.cell? (aq pb (k*10+9))=some (Iq rm)->(u.setCell (aq pb (k*10+8)) (Iq x)).cell? (aq A 1)=some (Iq a0)/\(u.setCell (aq pb (k*10+8)) (Iq x)).cell? (aq pb (k*10+9))=some (Iq rm)):=fun u x q1 q2=>by
   refine⟨?_,?_⟩;·rw[dy _ _ _ _ (fun e=>by injection e with e _ _;omega)];exact q1
   ·rw[dy _ _ _ _ (fun e=>by injection e with _ e _;omega)];exact q2
  clear TG s1 s2 s3 s4 r9 f9 ii HS vO vW hrv hwr;go_wp2_with fail;go_region_held(fun W=>W.cell? (aq A 1)=some (Iq a0)/\W.cell? (aq pb (k*10+9))=some (Iq rm)) (go_keep) (first|(go_at_call 159;refine ai (OF1 _ (by grind)) ?_;rintro e u1 ⟨rfl,yB,t1,t2⟩;obtain⟨⟨v8u,r8u⟩,f8u,l8u⟩:=HR8 u1 yB;obtain⟨o1,o2⟩:=Sv u1 (min (max 0 ov) rm) t1 t2));all_goals go_wp2;go_end0;exact⟨rfl,om _ _ yB (by omega),HFF u1 _ yB⟩
theorem YS:(prog.info? 100).map (fun i=>(i.zero,i.size,i.bytes))=some (some (.agg #[Iq 0,Iq 0,Iq 0,Iq 0]),4,32):=by kernel_rfl
theorem YR(f r m:Nat)(x y a b s cR:Int)(X Y P Q G:Nat->Int)(L:List Nd)(ks:List Nat)(N:Nat->Int)(H:Nat->Int->Int)(n:Nat)(v:Value)(U0 U:World)(hG:∀g,bQ L ks N s cR g->∀j,j<ks.length->g j=G j)
 (hf:Hid (f=160/\s=a/\(∀k,X k=x+offs G (cl cR) k/\Y k=y/\P k=G k/\Q k=b)\/f=162/\s=b/\∀k,X k=x/\Y k=y+offs G (cl cR) k/\P k=a/\Q k=G k))
 (hmm:ks.length=m) (hm:m<=200) (hr:r<U0.heap.size) (hx:-1000000000000<=x/\x<=1000000000000) (hy:-1000000000000<=y/\y<=1000000000000) (ha:0<=a/\a<=100000) (hb:0<=b/\b<=100000) (hv:Hid (iG U0 U r m L ks N H n v)):
 Cw f #[rv x y a b,Iq cR,v] U fun e U'=>∃lb,e=Rw (Sq lb m m)/\zaD U U' lb m X Y P Q/\(ks=[]\/bQ L ks N s cR G)/\∀j,j<m->0<=G j/\G j<=100000:=by
 have kU:prog.follows .mixedOrders=true:=by kernel_rfl
 obtain⟨i0,hi,dJ,fy,fB⟩:=info_parts YS;have mw:∀W:World,(Instr.makeSlice 212 (Iq (m:Int)) (Iq (m:Int))).run prog W=.ok (Sq W.heap.size m m) (W.alloc (.cells (madeCells #[Iq 0,Iq 0,Iq 0,Iq 0] (m*4)) 100)):=fun W=>by have:=run_make (P:=prog) W 212 100 i0 _ underlying212 hi dJ .i64 .i64 m m (by omega) (lV _) (by grind) (by omega);rw[fy,lW]at this;exact this
 clear hi dJ fy fB;obtain⟨A,hA⟩:=af U.heap.size;obtain⟨lb,vv⟩:=hv.out;obtain⟨rfl,w1,w2,w3,w4⟩:=vv;have HVO:=qH<|w1;have oj:=zz007 hr w3.size;obtain⟨W1,bZ⟩:=af ((U.alloc (.cells #[Iq x,Iq y,Iq a,Iq b] 100)).alloc (.cells (madeCells #[Iq 0,Iq 0,Iq 0,Iq 0] (m*4)) 100));have HB1:Hid (Bt U W1):=by rw[<-bZ];exact(((Gr.refl U).alloc _).alloc _).below
 have dm:W1.heap[A]?=some (.cells #[Iq x,Iq y,Iq a,Iq b] 100 (0,0)):=by rw[<-bZ,<-hA,cG _ _ _ (by simp_all)];exact heap_alloc_new _ _
 have hrow:W1.rowIs (A+1) 100 (m*4) (Ix X Y P Q 0):=by rw[<-bZ];have:=UR (U.alloc (.cells #[Iq x,Iq y,Iq a,Iq b] 100)) m X Y P Q 100;rw[aA,hA]at this;exact this
 have HS:Hid (∀u,Bt W1 u->u.cell? (aq A 0)=some (Iq x)/\u.cell? (aq A 1)=some (Iq y)/\u.cell? (aq A 2)=some (Iq a)/\u.cell? (aq A 3)=some (Iq b)):=fun u hu=>by have dE:=(hu.block A (az.1 dm).1).trans dm;refine⟨?_,?_,?_,?_⟩<;>(rw[Lib.cell_of_heap dE];rfl)
 have SP:Hid (∀u q0,q0=s->Bt W1 u->Cw 199 #[Iq q0,Iq cR,Sq lb m m] u fun e u'=>∃q cq,e=Rw (.slice q m cq)/\Hid (kK u' W1.heap.size q m G)/\Hid (Bt W1 u')/\Hid (Bt u u')/\Hid (ks=[]\/bQ L ks N s cR G)):=fun u q0 hq hu=>by have hub:Bt U u:=HB1.trans (hu.mono HB1.size);rw[hq];refine(Vb hmm hm (HVO.below hub) hG).mono ?_;rintro e u' ⟨q,cq,rfl,q1,q2,q3⟩;exact⟨q,cq,rfl,q1.low hu.size,hu.trans (q2.mono hu.size),q2,q3⟩
 have OF:Hid (∀u q0,q0=s->Bt W1 u->Cw 200 #[Iq q0,Iq cR,Sq lb m m] u fun e u'=>∃q cq,e=Rw (.slice q m cq)/\Hid (kK u' W1.heap.size q m (offs G (cl cR)))/\Hid (Bt W1 u')/\Hid (Bt u u')):=fun u q0 hq hu=>by have hub:Bt U u:=HB1.trans (hu.mono HB1.size);rw[hq];refine(Y' hmm hm (HVO.below hub) hG).mono ?_;rintro e u' ⟨q,cq,rfl,q1,q2⟩;exact⟨q,cq,rfl,q1.low hu.size,hu.trans (q2.mono hu.size),q2⟩
 have HROW:=qH<|hrow;have Sl:=qH<|HROW.lt;have Zu:=qH<|(az.1 dm).1;have ZI:=qH<|hA;obtain⟨z0,z1,z2,z3⟩:=HS W1 (ag _ _);clear dm hrow w1 w2 w3 w4 hv;unfold rv;rcases hf.out with⟨rfl,hs,HX⟩|⟨rfl,hs,HX⟩;all_goals
  have HXX:=qH HX;have HQ:=qH hs.symm;clear hs HX hf;first
   |go_enter func160,ntmps160
   |go_enter func162,ntmps162
  go_wp2_with fail;clear bZ hA mw;go_cut[8,9]from 14 to 23 (fun s1 s2 wx=>∃q1 c1 q2 c2,s1=.slice q1 m c1/\s2=.slice q2 m c2/\Hid (kK wx W1.heap.size q1 m G)/\Hid (kK wx W1.heap.size q2 m (offs G (cl cR)))/\Hid (Bt W1 wx)/\Hid (ks=[]\/bQ L ks N s cR G));case first=>
   go_region_held(fun W=>W.cell? (aq A 2)=some (Iq a)/\W.cell? (aq A 3)=some (Iq b)) (go_keep) (first
    |(go_at_call 199;refine ai (SP _ _ HQ (by first|exact ag _ _|exact(ag _ _).drew|exact HBo)) ?_;rintro e us ⟨qs,cqs,rfl,HIs,_Z,HXs,HKs⟩;obtain⟨s0,s1,s2,s3⟩:=HS us _Z)
    |(go_at_call 199;refine ai (SP _ _ HQ HBo) ?_;rintro e us ⟨qs,cqs,rfl,HIs,_Z,HXs,HKs⟩;obtain⟨s0,s1,s2,s3⟩:=HS us _Z)
    |(go_at_call 200;refine ai (OF _ _ HQ (by first|exact _Z|exact ag _ _|exact(ag _ _).drew)) ?_;rintro e uo ⟨qo,cqo,rfl,HIo,HBo,HXo⟩;obtain⟨o0,o1,o2,o3⟩:=HS uo HBo));all_goals go_wp2_with fail
   all_goals go_meet
   all_goals first
    |exact⟨qs,cqs,qo,cqo,rfl,rfl,HIs.below HXo,HIo,HBo,HKs⟩
    |exact⟨qs,cqs,qo,cqo,rfl,rfl,HIs,HIo.below HXs,_Z,HKs⟩
  case rest=>
   obtain⟨q1,c1,q2,c2,rfl,rfl,HI1,HI2,HBc,HKc⟩:=hcut;have HKG:Hid (∀j,j<m->0<=G j/\G j<=100000):=fun j hj=>by
    rcases HKc.out with e|hg;·grind
    ·have t1:=(cV.tiles hg (iN _ _ _)).1 j (by omega);have t2:=iN (fun j=>LG (ac L (bf ks j)) (N j)) (fun j=>aC (ac L (bf ks j)) 2) (fun j=>aC (ac L (bf ks j)) 3) j;omega
   have _7:Hid (∀j,j<m->0<=offs G (cl cR) j/\offs G (cl cR) j<=40000000):=fun j hj=>by have:=tc HKG (gq cR) j (by omega);omega
   have HRC:=qH<|rowIs_below HROW HBc;have Mu:=qH<|HS wc HBc;clear SP OF z0 z1 z2 z3 HS HROW;go_wp2_with fail;go_loopw[26] (fun kv wr=>∃k:Nat,k<=m/\kv=Iq (k:Int)/\Hid (wr.rowIs (A+1) 100 (m*4) (Ix X Y P Q k))/\Hid (Bt U wr)/\Hid (∀bq,bq≠A+1->bq<wc.heap.size->wr.heap[bq]?=wc.heap[bq]?)/\Hid (wc.heap.size<=wr.heap.size)) (fun kv _=>m-(intOf kv).toNat);case atStart=>exact⟨0,bm _,rfl,HRC,HB1.trans (HBc.mono HB1.size),fun _ _ _=>rfl,ae _⟩
   case round=>
    obtain⟨k,hk,rfl,HR,HBU,HO,HZ⟩:=hrel;by_cases hlt:k<m
    ·have aR:(k:Int)<(m:Int):=by omega
     obtain⟨b1,o1,rfl,l1,n1,d1⟩:=HI1.resolve_left (by omega);obtain⟨b2,o2,rfl,l2,n2,d2⟩:=HI2.resolve_left (by omega);have EY:=Zu.out;have hA1:A+1<W1.heap.size\/W1.heap.size<=A+1:=by omega
     have LX:=Sl.out;have c0:=(ba (HO A (by omega) (by omega))).trans Mu.1;have c1:=(ba (HO A (by omega) (by omega))).trans Mu.2.1;have c2:=(ba (HO A (by omega) (by omega))).trans Mu.2.2.1;have c3:=(ba (HO A (by omega) (by omega))).trans Mu.2.2.2;have e1:=(ba (HO b1 (by omega) l1)).trans (d1 k hlt);have e2:=(ba (HO b2 (by omega) l2)).trans (d2 k hlt);have hgk:=HKG k hlt;have Aq:=_7 k hlt;have Yr:=fun j=>HR.frozen j;have _z:∃v,wr.cell? (aq (A+1) (k*4))=some v:=⟨_,HR.cell (by omega)⟩;have fj:∃v,wr.cell? (aq (A+1) (k*4+1))=some v:=⟨_,HR.cell (by omega)⟩;have my:∃v,wr.cell? (aq (A+1) (k*4+2))=some v:=⟨_,HR.cell (by omega)⟩;have hv3:∃v,wr.cell? (aq (A+1) (k*4+3))=some v:=⟨_,HR.cell (by omega)⟩;obtain⟨v0,_z⟩:=_z;obtain⟨v1,fj⟩:=fj;obtain⟨v2,my⟩:=my;obtain⟨v3,hv3⟩:=hv3;obtain⟨gk,Kz⟩:=af (G k);obtain⟨ok,YD⟩:=af (offs G (cl cR) k);have HV:=qH<|HXX k;rw[Kz,YD]at HV;have HNX:Hid (∀p0 p1 p2 p3:Int,X k=p0/\Y k=p1/\P k=p2/\Q k=p3->Hid (((((wr.setCell (aq (A+1) (k*4)) (Iq p0)).setCell (aq (A+1) (k*4+1)) (Iq p1)).setCell (aq (A+1) (k*4+2)) (Iq p2)).setCell (aq (A+1) (k*4+3)) (Iq p3)).rowIs (A+1) 100 (m*4) (Ix X Y P Q (k+1)))):=fun p0 p1 p2 p3 h=>UQ HR p0 p1 p2 p3 h.1.symm h.2.1.symm h.2.2.1.symm h.2.2.2.symm;have HNB:Hid (∀p0 p1 p2 p3:Value,Bt U ((((wr.setCell (aq (A+1) (k*4)) p0).setCell (aq (A+1) (k*4+1)) p1).setCell (aq (A+1) (k*4+2)) p2).setCell (aq (A+1) (k*4+3)) p3)):=fun p0 p1 p2 p3=>(((HBU.setCell (p:=(aq (A+1) _)) (by rw[ZI.out];show A<=A+1;omega) _).setCell (p:=(aq (A+1) _)) (by rw[ZI.out];show A<=A+1;omega) _).setCell (p:=(aq (A+1) _)) (by rw[ZI.out];show A<=A+1;omega) _).setCell (p:=(aq (A+1) _)) (by rw[ZI.out];show A<=A+1;omega) _;have Xr:Hid (∀p0 p1 p2 p3:Value,∀bq,bq≠A+1->bq<wc.heap.size->((((wr.setCell (aq (A+1) (k*4)) p0).setCell (aq (A+1) (k*4+1)) p1).setCell (aq (A+1) (k*4+2)) p2).setCell (aq (A+1) (k*4+3)) p3).heap[bq]?=wc.heap[bq]?):=fun p0 p1 p2 p3 bq h1 h2=>by rw[bv _ (aq (A+1) (k*4+3)) _ _ h1,bv _ (aq (A+1) (k*4+2)) _ _ h1,bv _ (aq (A+1) (k*4+1)) _ _ h1,bv _ (aq (A+1) (k*4)) _ _ h1];exact HO bq h1 h2
     rw[Kz]at hgk e1;rw[YD]at Aq e2;have iO:IntKind.i64.wrap (x+ok)=x+ok:=IntWalk.i64_in _ (by omega);have sW:IntKind.i64.wrap (y+ok)=y+ok:=IntWalk.i64_in _ (by omega);have zq:=HR.lt;have zbV:¬A=A+1:=by omega
     have zg':¬A+1=A:=by omega
     have OL:¬b1=A+1:=by omega
     have zha:¬A+1=b1:=by omega
     have zoE:¬b2=A+1:=by omega
     have zoF:¬A+1=b2:=by omega
     clear Kz YD EY hA1 LX d1 d2 HR HBU HO l1 l2 n1 n2 HKG _7;go_wp2_with fail;go_region_held(fun W=>W.cell? (aq A 0)=some (Iq x)/\W.cell? (aq A 1)=some (Iq y)/\W.cell? (aq A 2)=some (Iq a)/\W.cell? (aq A 3)=some (Iq b)/\W.cell? (aq b1 (o1+k))=some (Iq gk)/\W.cell? (aq b2 (o2+k))=some (Iq ok)) (go_keep) (fail);all_goals
      go_wp2;go_roundw;case rel=>exact⟨k+1,hlt,by go_num,HNX _ _ _ _ HV,by first|exact(HNB _ _ _ _).drew|exact HNB _ _ _ _,Xr _ _ _ _,by show _<=_;simpa using HZ.out⟩
      case measure=>simp[intOf];omega
    ·have aR:¬(k:Int)<(m:Int):=by omega
     obtain rfl:k=m:=by omega
     go_wp2;go_ret;exact⟨A+1,rfl,⟨Zj HR,by rw[ZI.out];omega,HBU⟩,HKc,HKG⟩
def iV(a b:Nat->Int):Nat->List Value
 |0=>[]
 |k+1=>iV a b k++[Iq (a k),Iq (b k)]
theorem nY  a b  :∀k,(iV a b k).length=k*2
 |0=>rfl
 |k+1=>by rw[iV,aI,nY a b k];grind
theorem xP  a b  :∀k j,j<k->(iV a b k)[j*2]?=some (Iq (a j))/\(iV a b k)[j*2+1]?=some (Iq (b j))
 |0,j,h=>by omega
 |k+1,j,h=>by
  have hl:=nY a b k;by_cases e:j<k;·have:=xP a b k j e;grind[iV]
  grind[iV]
theorem cell_two_new(w:World)  x y   t  :∀j u,[x,y][j]?=some u->(w.alloc (.cells #[x,y] t)).cell? (((aq w.heap.size 0):Addr).add j)=some u:=by
 intro j u h;have e:((aq w.heap.size 0):Addr).add j=(aq w.heap.size (0+j)):=by unfold Addr.add;split<;>simp_all
 simp_all
theorem Ff:(prog.info? 124).map (fun i=>(i.zero,i.size,i.bytes))=some (some (.agg #[Iq 0,Iq 0]),2,16):=by kernel_rfl
