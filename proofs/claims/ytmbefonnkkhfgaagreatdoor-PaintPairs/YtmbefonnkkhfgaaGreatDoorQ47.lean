import Derived.Test.YtmbefonnkkhfgaaGreatDoorQ45
import Derived.Test.YtmbefonnkkhfgaaGreatDoorQ23
import Derived.Test.YtmbefonnkkhfgaaGreatDoorQ20
import Derived.Test.YtmbefonnkkhfgaaGreatDoorQ11
import Derived.Test.YtmbefonnkkhfgaaGreatDoorQ42
import Derived.Test.YtmbefonnkkhfgaaGreatDoorQ40
import Derived.Test.YtmbefonnkkhfgaaGreatDoorQ00
import Derived.Test.YtmbefonnkkhfgaaGreatDoorQ44
import Derived.Test.YtmbefonnkkhfgaaGreatDoorQ46
import Derived.Deep.RegionHeld
import Derived.Test.YtmbefonnkkhfgaaGreatDoorQ17
import Derived.Test.YtmbefonnkkhfgaaGreatDoorQ28
set_option linter.unusedVariables false
set_option maxRecDepth 100000
set_option maxHeartbeats 16000000
namespace Go.Proofs.YtmbefonnkkhfgaaGreatDoor
section
open Go.RowKit Go.Sort Go.Proofs.Tryz
theorem rowNeed_any(mb r g cap wb i X:Nat)(L:List Nd)(KV:Nat->Value)(Wd:Nat->Int)(U:World)(hV:View U mb r g cap wb L KV Wd)(hX:U.cell? ⟨X,0,none⟩=some (Pq mb))(hi:i<L.length):
 Calls prog 139 #[Iq (i:Int),Pq X] U fun e U'=>e=.returned (Iq (Wd i))∧U'=U:=by
 have hms:=hV.ms;have m1:U.cell? ⟨mb,1,none⟩=some (Sq wb L.length L.length):=by unfold Ms at hms;rw[Lib.cell_of_heap hms];rfl
 have c1:=hV.wd i hi;have hiI:(i:Int)<(L.length:Int):=by omega
 clear hV hms;go_enter func139,ntmps139;go_wp2;go_ret;exact⟨rfl,rfl⟩
def RwOut(U W:World)(r m:Nat)(L:List Nd)(ks:List Nat)(N:Nat->Int)(H:Nat->Int->Int)(n:Nat)(v:Value):Prop:=∃lb,v=Sq lb m m∧WnOut U W r lb m (fun j=>wMn (nth L (kdn ks j)) (N j)) (fun j=>atN (nth L (kdn ks j)) 2) (fun j=>atN (nth L (kdn ks j)) 3) H n
theorem rowWants_any(mb r g cap wb nn:Nat)(L:List Nd)(ks:List Nat)(KV:Nat->Value)(Wd:Nat->Int)(H:Nat->Int->Int)(kd a0 a1 a2 a3 a4 a5 a6 a7 a8 a9 b0 b1 up:Int)(tx:ByteArray)(p:Option Addr)(c:Nat)(U:World)
 (hV:Hid (View U mb r g cap wb L KV Wd)) (hM:Hid (Memo U r H nn)) (hm:ks.length≤1000) (hks:Hid (∀j,j<ks.length->kdn ks j<L.length)) (hL:L.length≤1000000) (hK:Hid (IntsN U r p ks.length (fun j=>(kdn ks j:Int)))) (hN:Hid (∀i,i<L.length->0≤Wd i∧Wd i≤100000)):
 Calls prog 84 #[Pq mb,ndA kd a0 a1 a2 a3 a4 a5 a6 a7 a8 a9 b0 b1 tx (.slice p ks.length c) up] U fun e U'=>∃v,e=.returned v∧RwOut U U' r ks.length L ks (fun j=>Wd (kdn ks j)) H nn v:=by
 have hmf:∀(fn:Fn) (first cap:Array Value) (w:World),(Instr.makeFunc fn first cap).run prog w=.ok (.func fn first cap) w:=fun _ _ _ _=>rfl;obtain⟨m,hmm⟩:=nmd ks.length;obtain⟨W1,hW1⟩:=nmd ((U.alloc (.cells #[Pq mb] 77)).alloc (.cells #[Iq kd,Iq a0,Iq a1,Iq a2,Iq a3,Iq a4,Iq a5,Iq a6,Iq a7,Iq a8,Iq a9,Iq b0,Iq b1,.string tx,.slice p m c,Iq up] 61));obtain⟨A,hA⟩:=nmd U.heap.size;have hB1:Below U.heap.size U W1:=by rw[<-hW1];exact(((Gr.refl U).alloc _).alloc _).below
 have hG1:U.grownBy W1 (some r):=grown_of_below hB1;have hrl:=hM.lt;have hXc:W1.heap[A]?=some (.cells #[Pq mb] 77 (0,0)):=by rw[<-hW1,<-hA,Below.heap_alloc _ _ _ (by rw[World.size_alloc];omega)];exact heap_alloc_new _ _
 have HWN:Hid (Calls prog 138 #[Pq mb,.slice p m c,.func (.func 139) #[] #[Pq A]] W1 fun e U'=>∃v,e=.returned v∧RwOut U U' r m L ks (fun j=>Wd (kdn ks j)) H nn v):=by
  have hV1:=hV.grown hG1;have hz:∀j,cS (fun _=>0) j=0:=fun j=>by induction j with
   |zero=>rfl
   |succ j ih=>show cS (fun _=>0) j+0=0;rw[ih]
  refine(wants_any _ _ _ mb r g cap wb nn m L KV Wd H (kdn ks) (fun j=>Wd (kdn ks j)) (fun _=>0) p c W1 (.inl ⟨rfl,A,rfl,rfl⟩) hV1 (hM.grown_below hB1) (by omega) (by rw[<-hmm];exact hks) hL (by rw[<-hmm];exact hK.grown hG1) (fun j hj=>hN _ (hks j (by omega))) (fun j u hj hu hmu=>?_)).mono ?_
  ·refine(rowNeed_any mb r g cap wb (kdn ks j) A L KV Wd u (hV1.grown hu) ?_ (hks j (by omega))).mono ?_;·have hAl:=(Array.getElem?_eq_some_iff.1 hXc).1;rw[Lib.cell_of_heap ((hu.block A hAl (fun e=>by injection e with e;omega)).trans hXc)];rfl
   ·rintro e u' ⟨rfl,rfl⟩;exact⟨rfl,grown_of_below (Below.refl _ _),hmu.mono (by rw[hz,hz];omega)⟩
  ·rintro e U' ⟨lb,rfl,h1,h2,h3,h4⟩;refine⟨_,rfl,lb,rfl,h1,Nat.le_trans hB1.size h2,hG1.trans h3,h4.mono (by rw[hz];omega)⟩
 have h14:W1.cell? ⟨A+1,14,none⟩=some (.slice p m c):=by rw[<-hW1,World.cell?_alloc_at _ _ _ _ (by rw[World.size_alloc,hA])];rfl
 have h0:W1.cell? ⟨A,0,none⟩=some (Pq mb):=by rw[Lib.cell_of_heap hXc];rfl
 rw[hmm];unfold ndA;clear hB1 hG1 hrl hXc hV hM hks hK hN;go_enter func84,ntmps84;go_wp2_with(go_at_call 138;refine HWN.mono ?_;rintro e U' ⟨v,rfl,ho⟩);go_ret;exact⟨_,rfl,ho⟩
theorem colNeed_any(mb r i X Y n k:Nat)(w:Int)(H:Nat->Int->Int)(U:World)(hX:U.cell? ⟨X,0,none⟩=some (Pq mb))(hY:U.cell? ⟨Y,0,none⟩=some (Iq w))
 (HC:Hid (Calls prog 81 #[Pq mb,Iq (i:Int),Iq w] U fun e u'=>e=.returned (Iq (H i w))∧Hid (U.grownBy u' (some r))∧Hid (Memo u' r H k))):
 Calls prog 140 #[Iq (i:Int),Pq X,Pq Y] U fun e u'=>e=.returned (Iq (H i w))∧Hid (U.grownBy u' (some r))∧Hid (Memo u' r H k):=by go_enter func140,ntmps140;go_wp2_with(go_at_call 81;refine HC.mono ?_;rintro e U' ⟨rfl,h1,h2⟩);go_ret;exact⟨rfl,h1,h2⟩
theorem colWants_any(mb r g cap wb nn:Nat)(w:Int)(L:List Nd)(ks:List Nat)(kc:Nat->Nat)(KV:Nat->Value)(Wd:Nat->Int)(H:Nat->Int->Int)(kd a0 a1 a2 a3 a4 a5 a6 a7 a8 a9 b0 b1 up:Int)(tx:ByteArray)(p:Option Addr)(c:Nat)(U:World)
 (hV:Hid (View U mb r g cap wb L KV Wd)) (hM:Hid (Memo U r H nn)) (hm:ks.length≤1000) (hks:Hid (∀j,j<ks.length->kdn ks j<L.length)) (hL:L.length≤1000000) (hK:Hid (IntsN U r p ks.length (fun j=>(kdn ks j:Int)))) (hN:Hid (∀i w,i<L.length->0≤H i w∧H i w≤100000))
 (HK:Hid (∀j u n',j<ks.length->U.grownBy u (some r)->Memo u r H n'->n'≤nn+cS kc j->Calls prog 81 #[Pq mb,Iq (kdn ks j:Int),Iq w] u fun e u'=>e=.returned (Iq (H (kdn ks j) w))∧Hid (u.grownBy u' (some r))∧Hid (Memo u' r H (nn+cS kc (j+1))))):
 Calls prog 86 #[Pq mb,ndA kd a0 a1 a2 a3 a4 a5 a6 a7 a8 a9 b0 b1 tx (.slice p ks.length c) up,Iq w] U fun e U'=>∃v,e=.returned v∧RwOut U U' r ks.length L ks (fun j=>H (kdn ks j) w) H (nn+cS kc ks.length) v:=by
 have hmf:∀(fn:Fn) (first cap:Array Value) (w:World),(Instr.makeFunc fn first cap).run prog w=.ok (.func fn first cap) w:=fun _ _ _ _=>rfl;obtain⟨m,hmm⟩:=nmd ks.length;obtain⟨W1,hW1⟩:=nmd (((U.alloc (.cells #[Pq mb] 77)).alloc (.cells #[Iq kd,Iq a0,Iq a1,Iq a2,Iq a3,Iq a4,Iq a5,Iq a6,Iq a7,Iq a8,Iq a9,Iq b0,Iq b1,.string tx,.slice p m c,Iq up] 61)).alloc (.cells #[Iq w] 3));obtain⟨A,hA⟩:=nmd U.heap.size;have hB1:Below U.heap.size U W1:=by rw[<-hW1];exact((((Gr.refl U).alloc _).alloc _).alloc _).below
 have hG1:U.grownBy W1 (some r):=grown_of_below hB1;have hrl:=hM.lt;have hXc:W1.heap[A]?=some (.cells #[Pq mb] 77 (0,0)):=by rw[<-hW1,<-hA,Below.heap_alloc _ _ _ (by rw[World.size_alloc,World.size_alloc];omega),Below.heap_alloc _ _ _ (by rw[World.size_alloc];omega)];exact heap_alloc_new _ _
 have hYc:W1.heap[A+1+1]?=some (.cells #[Iq w] 3 (0,0)):=by have:=heap_alloc_new ((U.alloc (.cells #[Pq mb] 77)).alloc (.cells #[Iq kd,Iq a0,Iq a1,Iq a2,Iq a3,Iq a4,Iq a5,Iq a6,Iq a7,Iq a8,Iq a9,Iq b0,Iq b1,.string tx,.slice p m c,Iq up] 61)) (.cells #[Iq w] 3);rw[World.size_alloc,World.size_alloc,hA,hW1]at this;exact this
 have HWN:Hid (Calls prog 138 #[Pq mb,.slice p m c,.func (.func 140) #[] #[Pq A,Pq (A+1+1)]] W1 fun e U'=>∃v,e=.returned v∧RwOut U U' r m L ks (fun j=>H (kdn ks j) w) H (nn+cS kc m) v):=by
  have hV1:=hV.grown hG1;refine(wants_any _ _ _ mb r g cap wb nn m L KV Wd H (kdn ks) (fun j=>H (kdn ks j) w) kc p c W1 (.inr ⟨rfl,A,A+1+1,rfl,rfl⟩) hV1 (hM.grown_below hB1) (by omega) (by rw[<-hmm];exact hks) hL (by rw[<-hmm];exact hK.grown hG1) (fun j hj=>hN _ _ (hks j (by omega))) (fun j u hj hu hmu=>?_)).mono ?_
  ·have hAl:=(Array.getElem?_eq_some_iff.1 hXc).1;have hYl:=(Array.getElem?_eq_some_iff.1 hYc).1;refine colNeed_any mb r (kdn ks j) A (A+1+1) (nn+cS kc j) (nn+cS kc (j+1)) w H u ?_ ?_ (HK j u _ (by omega) (hG1.trans hu) hmu (Nat.le_refl _));·rw[Lib.cell_of_heap ((hu.block A hAl (fun e=>by injection e with e;omega)).trans hXc)];rfl
   ·rw[Lib.cell_of_heap ((hu.block (A+1+1) hYl (fun e=>by injection e with e;omega)).trans hYc)];rfl
  ·rintro e U' ⟨lb,rfl,h1,h2,h3,h4⟩;exact⟨_,rfl,lb,rfl,h1,Nat.le_trans hB1.size h2,hG1.trans h3,h4⟩
 have h14:W1.cell? ⟨A+1,14,none⟩=some (.slice p m c):=by rw[<-hW1,World.cell?_alloc_past _ _ _ (by rw[World.size_alloc,World.size_alloc];show A+1<_;omega),World.cell?_alloc_at _ _ _ _ (by rw[World.size_alloc,hA])];rfl
 have h0:W1.cell? ⟨A,0,none⟩=some (Pq mb):=by rw[Lib.cell_of_heap hXc];rfl
 rw[hmm];unfold ndA;clear hB1 hG1 hrl hXc hYc hV hM hks hK hN HK;go_enter func86,ntmps86;go_wp2_with(go_at_call 138;refine HWN.mono ?_;rintro e U' ⟨v,rfl,ho⟩);go_ret;exact⟨_,rfl,ho⟩
theorem split_wants{U u:World}{r m n:Nat}{L:List Nd}{ks:List Nat}{N:Nat->Int}{H:Nat->Int->Int}{v:Value}{w gap:Int}(hm:ks.length=m)(hm2:m≤200)(h:RwOut U u r m L ks N H n v)(hr:r<U.heap.size):
 Calls prog 136 #[Iq w,Iq gap,v] u fun e u'=>KwOut U u' r m H (fun V=>(ks=[]∨KidSpl L ks N w gap V)∧∀j,j<m->0≤V j∧V j≤100000) n e:=by
 subst hm;obtain⟨lb,rfl,h1,h2,h3,h4⟩:=h;refine(split_all _ ks.length _ _ _ w gap u ⟨_,_,rfl,.inr ⟨lb,0,rfl,h1⟩⟩ (by omega)).mono ?_;rintro e u' ⟨v,rfl,hs⟩;have hb:=hs.below;rcases hs with⟨h0,rfl,hu⟩|⟨q1,q2,lb2,rfl,q3,⟨gg,q4,q5⟩,q6⟩
 ·have hk:ks=[]:=by
   rcases h0 with h0|h0;·exact List.eq_nil_of_length_eq_zero h0
   ·omega
  refine⟨none,0,fun _=>0,⟨.inl hk,fun j hj=>by omega⟩,by rw[hk];rfl,.inl (by rw[hk];rfl),h3.trans (grown_of_below hb),h4.grown_below hb⟩
 ·refine⟨_,_,gg,⟨.inr q5,fun j hj=>?_⟩,rfl,.inr ⟨lb2,0,rfl,q4.1,?_,fun j hj=>(q4.2 j hj).1⟩,h3.trans (grown_of_below hb),h4.grown_below hb⟩;·have t1:=(q5.tiles (held_bds _ _ _)).1 j hj;have t2:=held_bds (fun j=>wMn (nth L (kdn ks j)) (N j)) (fun j=>atN (nth L (kdn ks j)) 2) (fun j=>atN (nth L (kdn ks j)) 3) j;dsimp only at t1 t2;omega
  ·have:=h3.size;omega
end
section
open Go.RowKit Go.Sort Go.Proofs.Tryz
def KidV(L:List Nd)(ks:List Nat)(kd a4 a5 a6 w:Int)(Wd:Nat->Int)(V:Nat->Int):Prop:=(kd=0->ks=[]∨KidSpl L ks (fun j=>Wd (kdn ks j)) w a4 V)∧(kd≠0->∀j,j<ks.length->V j=max 0 (w-2*frmI kd a5 a6))∧∀j,j<ks.length->0≤V j∧V j≤100000
theorem fl1_ints{W:World}{r b m:Nat}{x:Int}{Ls:List Value}(h:W.heap[b]?=some (.cells Ls.toArray 3 (0,0)))(hf:Fl1 Ls m m [Iq x])(hb:b≠r):IntsN W r (some ⟨b,0,none⟩) m (fun _=>x):=by refine .inr ⟨b,0,rfl,(Array.getElem?_eq_some_iff.1 h).1,hb,fun j hj=>?_⟩;have:=hf.2 j 0 _ hj rfl;rw[Nat.mul_one,Nat.add_zero]at this;rw[Nat.zero_add,Lib.cell_of_heap h];simpa using this
theorem RwOut.g{U W:World}{r m:Nat}{L:List Nd}{ks:List Nat}{N:Nat->Int}{H:Nat->Int->Int}{n:Nat}{v:Value}(h:RwOut U W r m L ks N H n v):U.grownBy W (some r):=by obtain⟨_,_,_,_,h,_⟩:=h;exact h
theorem KwOut.g{U W:World}{r m:Nat}{H:Nat->Int->Int}{VOk:(Nat->Int)->Prop}{n:Nat}{e:Ending}(h:KwOut U W r m H VOk n e):U.grownBy W (some r):=by obtain⟨_,_,_,_,_,_,h,_⟩:=h;exact h
theorem KwOut.base{U U0 W:World}{r m:Nat}{H:Nat->Int->Int}{VOk:(Nat->Int)->Prop}{n:Nat}{e:Ending}(h:KwOut U W r m H VOk n e)(h0:U0.grownBy U (some r)):KwOut U0 W r m H VOk n e:=by obtain⟨q,cq,V,h1,h2,h3,h4,h5⟩:=h;exact⟨q,cq,V,h1,h2,h3,h0.trans h4,h5⟩
theorem kidWidths_any(mb r g cap wb nn:Nat)(w:Int)(L:List Nd)(ks:List Nat)(KV:Nat->Value)(Wd:Nat->Int)(H:Nat->Int->Int)(kd a0 a1 a2 a3 a4 a5 a6 a7 a8 a9 b0 b1 up:Int)(tx:ByteArray)(p:Option Addr)(c:Nat)(U:World)
 (hV:Hid (View U mb r g cap wb L KV Wd)) (hM:Hid (Memo U r H nn)) (hm:ks.length≤200) (hks:Hid (∀j,j<ks.length->kdn ks j<L.length)) (hL:L.length≤1000000) (hK:Hid (IntsN U r p ks.length (fun j=>(kdn ks j:Int)))) (hN:Hid (∀i,i<L.length->0≤Wd i∧Wd i≤100000))
 (hw:0≤w∧w≤100000) (h5:0≤a5∧a5≤1000000) (h6:0≤a6∧a6≤1000000):
 Calls prog 159 #[Pq mb,ndA kd a0 a1 a2 a3 a4 a5 a6 a7 a8 a9 b0 b1 tx (.slice p ks.length c) up,Iq w] U fun e U'=>KwOut U U' r ks.length H (KidV L ks kd a4 a5 a6 w Wd) nn e:=by
 have hmix:prog.follows .mixedOrders=true:=by kernel_rfl
 obtain⟨m,hmm⟩:=nmd ks.length;obtain⟨W1,hW1⟩:=nmd (U.alloc (.cells #[Iq kd,Iq a0,Iq a1,Iq a2,Iq a3,Iq a4,Iq a5,Iq a6,Iq a7,Iq a8,Iq a9,Iq b0,Iq b1,.string tx,.slice p m c,Iq up] 61));obtain⟨A,hA⟩:=nmd U.heap.size;have HB1:Hid (Below U.heap.size U W1):=by rw[<-hW1];exact((Gr.refl U).alloc _).below
 have HG1:Hid (U.grownBy W1 (some r)):=grown_of_below HB1;have hat:W1.heap[A]?=some (.cells #[Iq kd,Iq a0,Iq a1,Iq a2,Iq a3,Iq a4,Iq a5,Iq a6,Iq a7,Iq a8,Iq a9,Iq b0,Iq b1,.string tx,.slice p m c,Iq up] 61 (0,0)):=by rw[<-hW1,<-hA];exact heap_alloc_new _ _
 have HAT:Hid (∀(t:Nat) x,(#[Iq kd,Iq a0,Iq a1,Iq a2,Iq a3,Iq a4,Iq a5,Iq a6,Iq a7,Iq a8,Iq a9,Iq b0,Iq b1,.string tx,.slice p m c,Iq up]:Array Value)[t]?=some x->W1.cell? ⟨A,t,none⟩=some x):=fun t x ht=>by rw[Lib.cell_of_heap hat];exact ht
 have hrl:=hM.lt;have HS:Hid (∀u,W1.grownBy u (some r)->u.cell? ⟨A,0,none⟩=some (Iq kd)∧u.cell? ⟨A,1,none⟩=some (Iq a0)∧u.cell? ⟨A,2,none⟩=some (Iq a1)∧u.cell? ⟨A,3,none⟩=some (Iq a2)∧u.cell? ⟨A,4,none⟩=some (Iq a3)∧u.cell? ⟨A,5,none⟩=some (Iq a4)∧u.cell? ⟨A,6,none⟩=some (Iq a5)∧u.cell? ⟨A,7,none⟩=some (Iq a6)∧u.cell? ⟨A,8,none⟩=some (Iq a7)∧u.cell? ⟨A,9,none⟩=some (Iq a8)∧u.cell? ⟨A,10,none⟩=some (Iq a9)∧u.cell? ⟨A,11,none⟩=some (Iq b0)∧u.cell? ⟨A,12,none⟩=some (Iq b1)∧u.cell? ⟨A,13,none⟩=some (.string tx)∧u.cell? ⟨A,14,none⟩=some (.slice p m c)∧u.cell? ⟨A,15,none⟩=some (Iq up)):=fun u hu=>by have hAl:=(Array.getElem?_eq_some_iff.1 hat).1;have hb:=hu.block A hAl (fun e=>by injection e with e;omega);refine⟨?_,?_,?_,?_,?_,?_,?_,?_,?_,?_,?_,?_,?_,?_,?_,?_⟩<;>(rw[Lib.cell_of_heap (hb.trans hat)];rfl)
 have z0:W1.cell? ⟨A,0,none⟩=some (Iq kd):=HAT 0 _ rfl;have z1:W1.cell? ⟨A,1,none⟩=some (Iq a0):=HAT 1 _ rfl;have z2:W1.cell? ⟨A,2,none⟩=some (Iq a1):=HAT 2 _ rfl;have z3:W1.cell? ⟨A,3,none⟩=some (Iq a2):=HAT 3 _ rfl;have z4:W1.cell? ⟨A,4,none⟩=some (Iq a3):=HAT 4 _ rfl;have z5:W1.cell? ⟨A,5,none⟩=some (Iq a4):=HAT 5 _ rfl;have z6:W1.cell? ⟨A,6,none⟩=some (Iq a5):=HAT 6 _ rfl;have z7:W1.cell? ⟨A,7,none⟩=some (Iq a6):=HAT 7 _ rfl;have z8:W1.cell? ⟨A,8,none⟩=some (Iq a7):=HAT 8 _ rfl;have z9:W1.cell? ⟨A,9,none⟩=some (Iq a8):=HAT 9 _ rfl;have z10:W1.cell? ⟨A,10,none⟩=some (Iq a9):=HAT 10 _ rfl;have z11:W1.cell? ⟨A,11,none⟩=some (Iq b0):=HAT 11 _ rfl;have z12:W1.cell? ⟨A,12,none⟩=some (Iq b1):=HAT 12 _ rfl;have z13:W1.cell? ⟨A,13,none⟩=some (.string tx):=HAT 13 _ rfl;have z14:W1.cell? ⟨A,14,none⟩=some (.slice p m c):=HAT 14 _ rfl;have z15:W1.cell? ⟨A,15,none⟩=some (Iq up):=HAT 15 _ rfl;by_cases h0:kd=0
 ·subst h0;have RW:Hid (∀u,(u=W1∨u=W1.drew)->Calls prog 84 #[Pq mb,ndA 0 a0 a1 a2 a3 a4 a5 a6 a7 a8 a9 b0 b1 tx (.slice p m c) up] u fun e u'=>∃v,e=.returned v∧Hid (RwOut W1 u' r m L ks (fun j=>Wd (kdn ks j)) H nn v)):=fun u hu=>by
   have hg1:W1.grownBy u (some r):=by
    rcases hu with rfl|rfl;·exact grown_of_below (Below.refl _ _)
    ·exact grownDrew (grown_of_below (Below.refl _ _))
   have hm1:Memo u r H nn:=by
    rcases hu with rfl|rfl;·exact hM.grown_below HB1
    ·exact(hM.grown_below HB1).drew
   have hgu:=HG1.trans hg1;have:=rowWants_any mb r g cap wb nn L ks KV Wd H 0 a0 a1 a2 a3 a4 a5 a6 a7 a8 a9 b0 b1 up tx p c u (hV.grown hgu) hm1 (by omega) hks hL (hK.grown hgu) hN;rw[hmm]at this;refine this.mono ?_;rintro e u' ⟨v,rfl,lb,rfl,q1,q2,q3,q4⟩;exact⟨_,rfl,lb,rfl,q1,Nat.le_trans hg1.size q2,hg1.trans q3,q4⟩
  have SP:Hid (∀v u,RwOut W1 u r m L ks (fun j=>Wd (kdn ks j)) H nn v->Calls prog 136 #[Iq w,Iq a4,v] u fun e u'=>∃q cq,e=.returned (.slice q m cq)∧Hid (KwOut W1 u' r m H (KidV L ks 0 a4 a5 a6 w Wd) nn (.returned (.slice q m cq)))):=fun v u h=>by refine(split_wants hmm (by omega) h (Nat.lt_of_lt_of_le hrl HB1.size)).mono ?_;rintro e u' ⟨q,cq,V,⟨v1,v2⟩,rfl,q1,q2,q3⟩;exact⟨q,cq,rfl,q,cq,V,⟨fun _=>v1,fun e=>absurd rfl e,by rw[hmm];exact v2⟩,rfl,q1,q2,q3⟩
  rw[hmm];unfold ndA at RW⊢;clear hat HAT hV hM hks hK hN h5 h6 HB1 hrl hmm;go_enter func159,ntmps159;go_wp2_with fail;clear hW1 hA;go_region_held(fun W=>W.cell? ⟨A,0,none⟩=some (Iq 0)∧W.cell? ⟨A,1,none⟩=some (Iq a0)∧W.cell? ⟨A,2,none⟩=some (Iq a1)∧W.cell? ⟨A,3,none⟩=some (Iq a2)∧W.cell? ⟨A,4,none⟩=some (Iq a3)∧W.cell? ⟨A,5,none⟩=some (Iq a4)∧W.cell? ⟨A,6,none⟩=some (Iq a5)∧W.cell? ⟨A,7,none⟩=some (Iq a6)∧W.cell? ⟨A,8,none⟩=some (Iq a7)∧W.cell? ⟨A,9,none⟩=some (Iq a8)∧W.cell? ⟨A,10,none⟩=some (Iq a9)∧W.cell? ⟨A,11,none⟩=some (Iq b0)∧W.cell? ⟨A,12,none⟩=some (Iq b1)∧W.cell? ⟨A,13,none⟩=some (.string tx)∧W.cell? ⟨A,14,none⟩=some (.slice p m c)∧W.cell? ⟨A,15,none⟩=some (Iq up)) (go_keep) (first|(go_at_call 84;refine Calls.mono (RW _ (by first|exact .inl rfl|exact .inr rfl)) ?_;rintro e u1 ⟨v1,rfl,HO⟩;obtain⟨s0,s1,s2,s3,s4,s5,s6,s7,s8,s9,s10,s11,s12,s13,s14,s15⟩:=HS u1 HO.g)|(go_at_call 136;refine Calls.mono (SP _ _ HO) ?_;rintro e u2 ⟨q,cq,rfl,HZ⟩;obtain⟨t0,t1,t2,t3,t4,t5,t6,t7,t8,t9,t10,t11,t12,t13,t14,t15⟩:=HS u2 HZ.g));all_goals go_wp2;go_ret;exact HZ.base HG1
 ·have e0:(kd==0)=false:=by simpa using h0
  have hfb:=frm_bd (kd:=kd) h5 h6;obtain⟨f,hf⟩:=nmd (frmI kd a5 a6);have FA:Hid (∀u,(u=W1∨u=W1.drew)->Calls prog 80 #[ndA kd a0 a1 a2 a3 a4 a5 a6 a7 a8 a9 b0 b1 tx (.slice p m c) up] u fun e u'=>e=.returned (Iq f)∧Hid (Below W1.heap.size W1 u')):=fun u hu=>by
   have hbu:Below W1.heap.size W1 u:=by
    rcases hu with rfl|rfl;·exact Below.refl _ _
    ·exact(Below.refl _ _).drew
   rw[<-hf];refine(frame_any kd a0 a1 a2 a3 a4 a5 a6 a7 a8 a9 b0 b1 up tx p m c h5 h6 u).mono ?_;rintro e u' ⟨rfl,q⟩;exact⟨rfl,hbu.trans (q.mono hbu.size)⟩
  obtain⟨x,hx⟩:=nmd (max 0 (w-2*f));have hxb:0≤x∧x≤100000:=by rw[hf]at hfb;omega
  have RP:Hid (∀u,Below W1.heap.size W1 u->Calls prog 179 #[Sq u.heap.size 1 1,Iq (m:Int)] (u.alloc (.cells #[Iq x] 3)) fun e u'=>∃q cq,e=.returned (.slice q m cq)∧Hid (KwOut W1 u' r m H (KidV L ks kd a4 a5 a6 w Wd) nn (.returned (.slice q m cq)))):=fun u hu=>by
   have hb2:Below W1.heap.size W1 (u.alloc (.cells #[Iq x] 3)):=hu.alloc hu.size _;have fin:∀u' q cq,Below W1.heap.size W1 u'->IntsN u' r q m (fun _=>x)->KwOut W1 u' r m H (KidV L ks kd a4 a5 a6 w Wd) nn (.returned (.slice q m cq)):=fun u' q cq hb hi=>
    ⟨q,cq,fun _=>x,⟨fun e=>absurd e h0,fun _ j hj=>by rw[hf];exact hx.symm,fun j hj=>hxb⟩,rfl,hi,grown_of_below hb,(hM.grown_below HB1).grown_below hb⟩;by_cases hz:m=0;·rw[hz];refine(rep1_zero (u.alloc (.cells #[Iq x] 3)) u.heap.size).mono ?_;rintro e u' ⟨q,cq,rfl,hb⟩;have:=fin u' q cq (hb2.trans (hb.mono hb2.size)) (.inl hz);rw[hz]at this;exact⟨q,cq,rfl,this⟩
   ·refine(rep1_any (u.alloc (.cells #[Iq x] 3)) x u.heap.size m (by omega) (by simp) (fun k v hk=>?_)).mono ?_;·rw[World.cell?_alloc_at _ _ _ _ rfl];match k with
     |0=>exact hk
     |k+1=>cases hk
    ·rintro e u' ⟨rfl,⟨Ls,hl,hfl⟩,hb⟩;have hbb:=hb2.trans (hb.mono hb2.size);refine⟨_,_,rfl,fin u' _ _ hbb (fl1_ints hl hfl ?_)⟩;have:=hb2.size;have:=HB1.size;omega
  rw[hf]at hfb;rw[hmm];unfold ndA at FA⊢;have HAl:=qH<|(Array.getElem?_eq_some_iff.1 hat).1;clear hat HAT hV hM hks hK hN h5 h6 HB1 hrl hmm hf;go_enter func159,ntmps159;go_wp2_with fail;clear hW1 hA;have hwr1:IntKind.i64.wrap (2*f)=2*f:=IntWalk.i64_in _ (by omega);have hwr2:IntKind.i64.wrap (w-2*f)=w-2*f:=IntWalk.i64_in _ (by omega);have hmx:(if(0:Int)<w-2*f then w-2*f else 0)=x:=by rw[<-hx];split<;>omega
  go_region_held(fun W=>W.cell? ⟨A,0,none⟩=some (Iq kd)∧W.cell? ⟨A,1,none⟩=some (Iq a0)∧W.cell? ⟨A,2,none⟩=some (Iq a1)∧W.cell? ⟨A,3,none⟩=some (Iq a2)∧W.cell? ⟨A,4,none⟩=some (Iq a3)∧W.cell? ⟨A,5,none⟩=some (Iq a4)∧W.cell? ⟨A,6,none⟩=some (Iq a5)∧W.cell? ⟨A,7,none⟩=some (Iq a6)∧W.cell? ⟨A,8,none⟩=some (Iq a7)∧W.cell? ⟨A,9,none⟩=some (Iq a8)∧W.cell? ⟨A,10,none⟩=some (Iq a9)∧W.cell? ⟨A,11,none⟩=some (Iq b0)∧W.cell? ⟨A,12,none⟩=some (Iq b1)∧W.cell? ⟨A,13,none⟩=some (.string tx)∧W.cell? ⟨A,14,none⟩=some (.slice p m c)∧W.cell? ⟨A,15,none⟩=some (Iq up)) (go_keep) (first|(go_at_call 80;refine Calls.mono (FA _ (by first|exact .inl rfl|exact .inr rfl)) ?_;rintro e u1 ⟨rfl,HO⟩;obtain⟨s0,s1,s2,s3,s4,s5,s6,s7,s8,s9,s10,s11,s12,s13,s14,s15⟩:=HS u1 (grown_of_below HO);have hne:¬A=u1.heap.size:=(by have:=HO.size;have:=HAl.out;omega))|(go_at_call 179;refine Calls.mono (RP _ HO) ?_;rintro e u2 ⟨q,cq,rfl,HZ⟩;obtain⟨t0,t1,t2,t3,t4,t5,t6,t7,t8,t9,t10,t11,t12,t13,t14,t15⟩:=HS u2 HZ.g));all_goals go_wp2;go_ret;exact HZ.base HG1
theorem textHeight_any(w kd a0 a1 a2 a3 a4 a5 a6 a7 a8 a9 b0 b1 up:Int)(tx:ByteArray)(p:Option Addr)(m c:Nat)(U:World)(ht:TabAt U)(hs:tx.size≤4000)(hw:0≤w∧w≤100000):
 Calls prog 158 #[ndA kd a0 a1 a2 a3 a4 a5 a6 a7 a8 a9 b0 b1 tx (.slice p m c) up,Iq w] U fun e U'=>e=.returned (Iq (txtH a8 tx.data.toList w))∧Hid (Below U.heap.size U U'):=by
 obtain⟨W1,hW1⟩:=nmd (U.alloc (.cells #[Iq kd,Iq a0,Iq a1,Iq a2,Iq a3,Iq a4,Iq a5,Iq a6,Iq a7,Iq a8,Iq a9,Iq b0,Iq b1,.string tx,.slice p m c,Iq up] 61));obtain⟨A,hA⟩:=nmd U.heap.size;have HB1:Hid (Below U.heap.size U W1):=by rw[<-hW1];exact((Gr.refl U).alloc _).below
 have hat:W1.heap[A]?=some (.cells #[Iq kd,Iq a0,Iq a1,Iq a2,Iq a3,Iq a4,Iq a5,Iq a6,Iq a7,Iq a8,Iq a9,Iq b0,Iq b1,.string tx,.slice p m c,Iq up] 61 (0,0)):=by rw[<-hW1,<-hA];exact heap_alloc_new _ _
 have z9:W1.cell? ⟨A,9,none⟩=some (Iq a8):=by rw[Lib.cell_of_heap hat];rfl
 have z13:W1.cell? ⟨A,13,none⟩=some (.string tx):=by rw[Lib.cell_of_heap hat];rfl
 have hle:tx.data.toList.count 10≤4000:=by
  have h1:=List.count_le_length (a:=(10:UInt8)) (l:=tx.data.toList);have h2:tx.data.toList.length=tx.size:=by rw[Array.length_toList];rfl
  omega
 have CT:Hid (∀u,Below U.heap.size U u->Calls prog 177 #[.string tx,Iq w] u fun e u'=>e=.returned (Iq ((linesOf (clus (runes tx.data.toList)) w).length:Int))∧Hid (Below U.heap.size U u')):=fun u hu=>by refine(count_any tx w u (ht.below hu) (by omega) (by omega) (by omega)).mono ?_;rintro e u' ⟨rfl,q⟩;exact⟨rfl,hu.trans (q.mono hu.size)⟩
 have C1:=qH<|fun u=>count_one tx 10 u;obtain⟨k,hk⟩:=nmd (tx.data.toList.count 10);rw[hk]at C1 hle;unfold ndA;by_cases h1:w<1
 ·have HR:Hid (txtH a8 tx.data.toList w=0):=by show _=_;unfold txtH;rw[if_pos h1]
  go_enter func158,ntmps158;go_wp2;go_ret;exact⟨by rw[HR.out];rfl,HB1⟩
 ·by_cases h8:a8=1
  ·subst h8;have HR:Hid (txtH 1 tx.data.toList w=((linesOf (clus (runes tx.data.toList)) w).length:Int)):=by show _=_;unfold txtH;rw[if_neg h1,if_pos rfl]
   obtain⟨y,hy⟩:=nmd ((linesOf (clus (runes tx.data.toList)) w).length);rw[hy]at HR CT;go_enter func158,ntmps158;go_wp2_with(go_at_call 177;refine Calls.mono (CT _ HB1) ?_;rintro e u ⟨rfl,HBu⟩);go_ret;exact⟨by rw[HR.out];rfl,HBu⟩
  ·have e8:(a8==1)=false:=by simpa using h8
   have HR:Hid (txtH a8 tx.data.toList w=(k:Int)+1):=by show _=_;unfold txtH;rw[if_neg h1,if_neg h8,hk]
   go_enter func158,ntmps158;go_wp2_with(go_at_call 178;refine Calls.mono (C1 _) ?_;rintro e u ⟨rfl,hu⟩;obtain rfl:=hu.symm);go_ret;exact⟨by rw[HR.out];rfl,HB1⟩
end
section
open Go.RowKit Go.Sort Go.Proofs.Tryz
theorem TabAt.kept{W W':World}{r n:Nat}{H:Nat->Int->Int}(h:TabAt W)(hm:Memo W r H n)(hg:W.grownBy W' (some r)):TabAt W':=by
 obtain⟨es,clock,hmp⟩:=hm.map;have key:∀(o:Nat) v,W.cell? ⟨6,o,none⟩=some v->W'.cell? ⟨6,o,none⟩=some v:=fun o v hc=>by
  have hne:6≠r:=fun e=>by subst e;simp[World.cell?,hmp]at hc
  have hlt:6<W.heap.size:=by
   by_cases q:6<W.heap.size;·exact q
   ·simp[World.cell?,Array.getElem?_eq_none (Nat.le_of_not_lt q)]at hc
  exact(World.cell?_of_block (hg.block _ hlt (fun e=>hne (by injection e)))).trans hc
 intro i hi;obtain⟨h1,h2,h3⟩:=h i hi;exact⟨key _ _ h1,key _ _ h2,key _ _ h3⟩
theorem workText_any(mb:Nat)(w a0 a1 a2 a3 a4 a5 a6 a7 a8 a9 b0 b1 up:Int)(tx:ByteArray)(p:Option Addr)(m c:Nat)(U:World)(ht:TabAt U)(hs:tx.size≤4000)(hw:0≤w∧w≤100000):
 Calls prog 134 #[Pq mb,ndA 5 a0 a1 a2 a3 a4 a5 a6 a7 a8 a9 b0 b1 tx (.slice p m c) up,Iq w] U fun e U'=>e=.returned (Iq (txtH a8 tx.data.toList w))∧Hid (Below U.heap.size U U'):=by
 have HT:Hid (∀u,Below U.heap.size U u->Calls prog 158 #[ndA 5 a0 a1 a2 a3 a4 a5 a6 a7 a8 a9 b0 b1 tx (.slice p m c) up,Iq w] u fun e u'=>e=.returned (Iq (txtH a8 tx.data.toList w))∧Hid (Below U.heap.size U u')):=fun u hu=>by refine(textHeight_any w 5 a0 a1 a2 a3 a4 a5 a6 a7 a8 a9 b0 b1 up tx p m c u (ht.below hu) hs hw).mono ?_;rintro e u' ⟨rfl,q⟩;exact⟨rfl,hu.trans (q.mono hu.size)⟩
 have HB1:Hid (∀o,Below U.heap.size U (U.alloc o)):=fun o=>((Gr.refl U).alloc _).below;obtain⟨y,hy⟩:=nmd (txtH a8 tx.data.toList w);rw[hy]at HT⊢;clear hy ht;unfold ndA at HT⊢;go_enter func134,ntmps134;go_wp2_with(go_at_call 158;refine Calls.mono (HT _ (HB1 _)) ?_;rintro e u ⟨rfl,HBu⟩);go_ret;exact⟨rfl,HBu⟩
def kidsOf(L:List Nd)(i:Nat):List Nat:=(nth L i).kids
structure Hs(U:World)(mb r g cap wb:Nat)(L:List Nd)(KV:Nat->Value)(Wd:Nat->Int)(H:Nat->Int->Int)(n:Nat):Prop where
 view:View U mb r g cap wb L KV Wd
 memo:Memo U r H n
 tab:TabAt U
theorem Hs.grown{U U':World}{mb r g cap wb:Nat}{L:List Nd}{KV:Nat->Value}{Wd:Nat->Int}{H:Nat->Int->Int}{n n':Nat}(h:Hs U mb r g cap wb L KV Wd H n)(hg:U.grownBy U' (some r))(hm:Memo U' r H n'):Hs U' mb r g cap wb L KV Wd H n':=
 ⟨h.view.grown hg,hm,h.tab.kept h.memo hg⟩
theorem Hs.below{U U':World}{mb r g cap wb:Nat}{L:List Nd}{KV:Nat->Value}{Wd:Nat->Int}{H:Nat->Int->Int}{n:Nat}(h:Hs U mb r g cap wb L KV Wd H n)(hb:Below U.heap.size U U'):Hs U' mb r g cap wb L KV Wd H n:=
 h.grown (grown_of_below hb) (h.memo.grown_below hb)
theorem height_all{s:ByteArray}{L:List Nd}{KV:Nat->Value}{Wd:Nat->Int}{H:Nat->Int->Int}(mb r g cap wb:Nat)(hT:Tree s L)(hS:Sz L Wd H):∀(f i:Nat) (w:Int) (n:Nat) (U:World),i<L.length->L.length-i≤f->0≤w->w≤100000->Hs U mb r g cap wb L KV Wd H n->n+(vis (kidsOf L) f i).length<1000000000000->
    Calls prog 81 #[Pq mb,Iq (i:Int),Iq w] U fun e U'=>e=.returned (Iq (H i w))∧Hid (U.grownBy U' (some r))∧Hid (Memo U' r H (n+(vis (kidsOf L) f i).length)):=by
  intro f;induction f with
  |zero=>intro i w n U hi h1;omega
  |succ f ih=>
    intro i w n U hi hf hw0 hw1 hU hn;have hc:=hT.vl.cnt;have hcnt:=vis_cnt (kidsOf L) f i;have hNv:=hT.vl.nv i hi;have hbd:=hNv.bd;have hkl:(kidsOf L i).length≤100:=hT.kids_le hi;obtain⟨k,hk⟩:=nmd (cS (fun j=>(vis (kidsOf L) f (kdn (kidsOf L i) j)).length) (kidsOf L i).length);rw[hk]at hcnt;rw[hcnt]at hn⊢;obtain⟨p,c,hkv,hki⟩:=hU.view.kid i hi;have hcells:=pn_list (hU.view.len i hi) (KV i);have hnd:=hU.view.nd i hi;rw[hcells]at hnd;have hWB:W64 (i:Int):=by unfold W64;omega
    have hWw:W64 w:=by unfold W64;omega
    rw[show n+(k+1)=n+k+1 by omega];refine height_of mb r g i n k L.length cap w H _ ((nth L i).kind:Int) (atN (nth L i) 0) (atN (nth L i) 1) (atN (nth L i) 2) (atN (nth L i) 3) (atN (nth L i) 4) (atN (nth L i) 5) (atN (nth L i) 6) (atN (nth L i) 7) (atN (nth L i) 8) (atN (nth L i) 9) (atN (nth L i) 10) (atN (nth L i) 11) (nth L i).up ⟨(nth L i).text.toArray⟩ (KV i) U hU.view.ms hU.memo hi (by omega) hWB hWw (by omega) hU.view.gl hU.view.gr (fun t x ht=>hnd t x (by simpa using ht)) (fun W hb hmW=>?_);rw[hkv];have hWs:=hU.grown (grown_of_below hb) hmW;by_cases h5:(nth L i).kind=5
    · have hts:(⟨(nth L i).text.toArray⟩:ByteArray).size≤4000:=by have h1:=hT.vl.tl i hi;have h2:=hT.sz;show(nth L i).text.toArray.size≤4000;rw[List.size_toArray];omega
      have:=workText_any mb w (atN (nth L i) 0) (atN (nth L i) 1) (atN (nth L i) 2) (atN (nth L i) 3) (atN (nth L i) 4) (atN (nth L i) 5) (atN (nth L i) 6) (atN (nth L i) 7) (atN (nth L i) 8) (atN (nth L i) 9) (atN (nth L i) 10) (atN (nth L i) 11) (nth L i).up ⟨(nth L i).text.toArray⟩ p (nth L i).kids.length c W hWs.tab hts ⟨hw0,hw1⟩;rw[h5];refine this.mono ?_;rintro e U' ⟨rfl,q⟩;exact⟨_,rfl,(hS.ht i w hi h5).symm,grown_of_below q,(hmW.grown_below q).mono (by omega)⟩
    · have hkd5:((nth L i).kind:Int)≠5:=by omega
      have:=work_of mb r n (nth L i).kids.length w H (KidV L (nth L i).kids (nth L i).kind (atN (nth L i) 4) (atN (nth L i) 5) (atN (nth L i) 6) w Wd) (kdn (nth L i).kids) (fun j=>(vis (kidsOf L) f (kdn (kidsOf L i) j)).length)
        ((nth L i).kind:Int) (atN (nth L i) 0) (atN (nth L i) 1) (atN (nth L i) 2) (atN (nth L i) 3) (atN (nth L i) 4) (atN (nth L i) 5) (atN (nth L i) 6) (atN (nth L i) 7) (atN (nth L i) 8) (atN (nth L i) 9) (atN (nth L i) 10) (atN (nth L i) 11) (nth L i).up ⟨(nth L i).text.toArray⟩ p c W
        hkd5 (by show(kidsOf L i).length≤1000;omega) (by omega) (by omega) (by omega) (fun j v hj=>hS.hb _ v (kid_lt hT hi hj).2) (fun j hj=>by have:=(kid_lt hT hi hj).2;omega) hmW.lt hmW (hki.grown (grown_of_below hb))
        (fun u hu hmu=>kidWidths_any mb r g cap wb n w L (nth L i).kids KV Wd H _ _ _ _ _ _ _ _ _ _ _ _ _ _ _ p c u (hWs.view.grown (grown_of_below hu)) hmu (by show(kidsOf L i).length≤200;omega) (fun j hj=>(kid_lt hT hi hj).2) (by omega) ((hki.grown (grown_of_below hb)).grown (grown_of_below hu)) (fun j hj=>hS.wb j hj) ⟨hw0,hw1⟩ (by omega) (by omega))
        (fun V hV j u nn hj hu hmu hnn=>by
          have hkj:=kid_lt hT hi hj;have hVj:=hV.2.2 j hj;have hb2:cS (fun j=>(vis (kidsOf L) f (kdn (kidsOf L i) j)).length) (j+1)≤k:=by
            rw[<-hk];have mono:∀a b,a≤b->cS (fun j=>(vis (kidsOf L) f (kdn (kidsOf L i) j)).length) a≤cS (fun j=>(vis (kidsOf L) f (kdn (kidsOf L i) j)).length) b:=by
              intro a b hab;induction b with
              | zero => obtain rfl:a=0:=by omega
                        exact Nat.le_refl _
              |succ b ihb=>
                by_cases e:a=b+1;·subst e;exact Nat.le_refl _
                ·have:=ihb (by omega);show _≤cS _ b+_;omega
            exact mono _ _ hj
          have hst:cS (fun j=>(vis (kidsOf L) f (kdn (kidsOf L i) j)).length) (j+1)=cS (fun j=>(vis (kidsOf L) f (kdn (kidsOf L i) j)).length) j+(vis (kidsOf L) f (kdn (kidsOf L i) j)).length:=rfl;have hr:=ih (kdn (nth L i).kids j) (V j) nn u hkj.2 (by omega) hVj.1 hVj.2 (hWs.grown hu hmu) (by show nn+(vis (kidsOf L) f (kdn (kidsOf L i) j)).length<_;omega);refine hr.mono ?_;rintro e u' ⟨rfl,q1,q2⟩;refine⟨rfl,q1,q2.mono ?_⟩;show nn+(vis (kidsOf L) f (kdn (kidsOf L i) j)).length≤_;omega);refine this.mono ?_;rintro e U' ⟨V,hV,rfl,q1,q2⟩;refine⟨_,rfl,?_,q1,q2.mono (by rw[<-hk];exact Nat.le_refl _)⟩;by_cases h0:(nth L i).kind=0;·rw[hS.hr i w V hi h0 (hV.1 (by omega))];rfl
      ·rw[hS.ho i w hi h5 h0];unfold nodeH;rw[rawH_congr fun j hj=>?_];rw[hV.2.1 (by omega) j hj];rfl
theorem height_any{s:ByteArray}{L:List Nd}{KV:Nat->Value}{Wd:Nat->Int}{H:Nat->Int->Int}(mb r g cap wb:Nat)(hT:Tree s L)(hS:Sz L Wd H)(i:Nat)(w:Int)(n:Nat)(U:World)(hi:i<L.length)(hw0:0≤w)(hw1:w≤100000)(hU:Hs U mb r g cap wb L KV Wd H n)(hn:n≤100000000):
 Calls prog 81 #[Pq mb,Iq (i:Int),Iq w] U fun e U'=>e=.returned (Iq (H i w))∧Hid (U.grownBy U' (some r))∧Hid (Memo U' r H (n+100)):=by have h1:=vis_len (kids:=kidsOf L) hT.nest L.length i hi;have h2:=hT.vl.cnt;refine(height_all mb r g cap wb hT hS L.length i w n U hi (by omega) hw0 hw1 hU (by omega)).mono ?_;rintro e U' ⟨rfl,q1,q2⟩;exact⟨rfl,q1,q2.mono (by omega)⟩
end
section
open Go.RowKit Go.Sort Go.Proofs.Tryz
theorem widthText_any(mb:Nat)(a0 a1 a2 a3 a4 a5 a6 a7 a8 a9 b0 b1 up:Int)(tx:ByteArray)(p:Option Addr)(m c:Nat)(U:World)(ht:TabAt U)(hs:tx.size≤4000):
 Calls prog 51 #[Pq mb,ndA 5 a0 a1 a2 a3 a4 a5 a6 a7 a8 a9 b0 b1 tx (.slice p m c) up] U fun e U'=>e=.returned (Iq (txtW tx.data.toList))∧Hid (Below U.heap.size U U'):=by
 have HT:Hid (∀u,Below U.heap.size U u->Calls prog 78 #[.string tx] u fun e u'=>e=.returned (Iq (txtW tx.data.toList))∧Hid (Below U.heap.size U u')):=fun u hu=>by refine(widest_any tx u (ht.below hu) hs).mono ?_;rintro e u' ⟨rfl,q⟩;exact⟨rfl,hu.trans (q.mono hu.size)⟩
 have HB1:Hid (∀o,Below U.heap.size U (U.alloc o)):=fun o=>((Gr.refl U).alloc _).below;obtain⟨y,hy⟩:=nmd (txtW tx.data.toList);rw[hy]at HT⊢;clear hy ht;unfold ndA;go_enter func51,ntmps51;go_wp2_with(go_at_call 78;refine Calls.mono (HT _ (HB1 _)) ?_;rintro e u ⟨rfl,HBu⟩);go_ret;exact⟨rfl,HBu⟩
theorem workWidth_of(mb r wb N m:Nat)(Wd:Nat->Int)(ks:Nat->Nat)(kd a0 a1 a2 a3 a4 a5 a6 a7 a8 a9 b0 b1 up:Int)(tx:ByteArray)(nv:Value)(p:Option Addr)(c:Nat)(U:World)
 (hk5:kd≠5) (hm:m≤1000) (hN:N≤1000000) (h4:0≤a4∧a4≤1000000) (h5:0≤a5∧a5≤1000000) (h6:0≤a6∧a6≤1000000) (hh:Hid (∀j,j<m->0≤Wd (ks j)∧Wd (ks j)≤100000)) (hkk:Hid (∀j,j<m->ks j<N))
 (hMs:Ms U mb nv (Sq wb N N) r) (hwl:wb<U.heap.size) (hK:Hid (IntsN U r p m (fun j=>(ks j:Int)))) (hW:Hid (∀j,j<m->U.cell? ⟨wb,ks j,none⟩=some (Iq (Wd (ks j))))):
 Calls prog 51 #[Pq mb,ndA kd a0 a1 a2 a3 a4 a5 a6 a7 a8 a9 b0 b1 tx (.slice p m c) up] U fun e U'=>e=.returned (Iq (rawW kd a4 a5 a6 (fun j=>Wd (ks j)) m))∧Hid (Below U.heap.size U U'):=by
 have e5:(kd==5)=false:=by simpa using hk5
 obtain⟨h,hh'⟩:∃h:Nat->Int,(fun j=>Wd (ks j))=h:=⟨_,rfl⟩;have HHE:Hid (∀j,Wd (ks j)=h j):=fun j=>by rw[<-hh']
 have hh2:Hid (∀j,j<m->0≤h j∧h j≤100000):=fun j hj=>by rw[<-HHE j];exact hh j hj
 rw[hh'];obtain⟨U1,hU1⟩:=nmd (U.alloc (.cells #[Iq kd,Iq a0,Iq a1,Iq a2,Iq a3,Iq a4,Iq a5,Iq a6,Iq a7,Iq a8,Iq a9,Iq b0,Iq b1,.string tx,.slice p m c,Iq up] 61));obtain⟨A,hA⟩:=nmd U.heap.size;have HB1:Hid (Below U.heap.size U U1):=by rw[<-hU1];exact((Gr.refl U).alloc _).below
 have hat:U1.heap[A]?=some (.cells #[Iq kd,Iq a0,Iq a1,Iq a2,Iq a3,Iq a4,Iq a5,Iq a6,Iq a7,Iq a8,Iq a9,Iq b0,Iq b1,.string tx,.slice p m c,Iq up] 61 (0,0)):=by rw[<-hU1,<-hA];exact heap_alloc_new _ _
 have HAT:Hid (∀(t:Nat) x,(#[Iq kd,Iq a0,Iq a1,Iq a2,Iq a3,Iq a4,Iq a5,Iq a6,Iq a7,Iq a8,Iq a9,Iq b0,Iq b1,.string tx,.slice p m c,Iq up]:Array Value)[t]?=some x->U1.cell? ⟨A,t,none⟩=some x):=fun t x ht=>by rw[Lib.cell_of_heap hat];exact ht
 have z0:U1.cell? ⟨A,0,none⟩=some (Iq kd):=HAT 0 _ rfl;have z1:U1.cell? ⟨A,1,none⟩=some (Iq a0):=HAT 1 _ rfl;have z2:U1.cell? ⟨A,2,none⟩=some (Iq a1):=HAT 2 _ rfl;have z3:U1.cell? ⟨A,3,none⟩=some (Iq a2):=HAT 3 _ rfl;have z4:U1.cell? ⟨A,4,none⟩=some (Iq a3):=HAT 4 _ rfl;have z5:U1.cell? ⟨A,5,none⟩=some (Iq a4):=HAT 5 _ rfl;have z6:U1.cell? ⟨A,6,none⟩=some (Iq a5):=HAT 6 _ rfl;have z7:U1.cell? ⟨A,7,none⟩=some (Iq a6):=HAT 7 _ rfl;have z8:U1.cell? ⟨A,8,none⟩=some (Iq a7):=HAT 8 _ rfl;have z9:U1.cell? ⟨A,9,none⟩=some (Iq a8):=HAT 9 _ rfl;have z10:U1.cell? ⟨A,10,none⟩=some (Iq a9):=HAT 10 _ rfl;have z11:U1.cell? ⟨A,11,none⟩=some (Iq b0):=HAT 11 _ rfl;have z12:U1.cell? ⟨A,12,none⟩=some (Iq b1):=HAT 12 _ rfl;have z13:U1.cell? ⟨A,13,none⟩=some (.string tx):=HAT 13 _ rfl;have z14:U1.cell? ⟨A,14,none⟩=some (.slice p m c):=HAT 14 _ rfl;have z15:U1.cell? ⟨A,15,none⟩=some (Iq up):=HAT 15 _ rfl;have m1:U1.cell? ⟨mb,1,none⟩=some (Sq wb N N):=by have hml:=(Array.getElem?_eq_some_iff.1 hMs).1;have hb:=(HB1.block mb hml).trans hMs;rw[Lib.cell_of_heap hb];rfl
 have HK2:=qH<|hK.grown (grown_of_below HB1);have HW1:Hid (∀j,j<m->U1.cell? ⟨wb,ks j,none⟩=some (Iq (h j))):=fun j hj=>by rw[<-HHE j];exact(HB1.cell (p:=⟨wb,_,none⟩) hwl).trans (hW j hj)
 clear hat hh' hMs hK hW hh HHE;unfold ndA;go_enter func51,ntmps51;go_wp2_with fail;generalize hnv:Value.agg #[Iq kd,Iq a0,Iq a1,Iq a2,Iq a3,Iq a4,Iq a5,Iq a6,Iq a7,Iq a8,Iq a9,Iq b0,Iq b1,.string tx,.slice p m c,Iq up]=ndv;go_loopw[5,6,18] (fun sv gv kv wr=>∃k:Nat,k≤m∧kv=Iq (k:Int)∧sv=Iq (hS h k)∧gv=Iq (hG h k)∧wr=U1) (fun _ _ kv _=>m-(intOf kv).toNat);case atStart=>exact⟨0,Nat.zero_le _,rfl,rfl,rfl,rfl⟩
 case round=>
  obtain⟨k,hk,rfl,rfl,rfl,hwr⟩:=hrel;subst hwr;by_cases hlt:k<m
  ·have hlt':(k:Int)<(m:Int):=by omega
   have hbs:=hS_bd hh2 k hk;have hbg:=hG_bd hh2 k hk;have hbh:=hh2 k hlt;have hkb:=hkk k hlt;have hkI:(ks k:Int)<(N:Int):=by omega
   obtain⟨kb,ko,rfl,_,_,hck⟩:=HK2.resolve_left (by omega);have ck:=hck k hlt;have cv:=HW1 k hlt;obtain⟨S,hS'⟩:=nmd (hS h k);obtain⟨G,hG'⟩:=nmd (hG h k);obtain⟨x,hx⟩:=nmd (h k);have HS1:Hid (hS h (k+1)=S+x):=by show _=_;rw[<-hS',<-hx];rfl
   have HG1:Hid (hG h (k+1)=max G x):=by show _=_;rw[<-hG',<-hx];rfl
   rw[hS']at hbs;rw[hG']at hbg;rw[hx]at hbh cv;rw[hS',hG'];clear hS' hG' hx hck hU1 hA hnv h4 h5 h6 hk5 HB1;go_wp2;all_goals
    go_roundw;case rel=>exact⟨k+1,hlt,by go_num,by rw[HS1.out],by rw[HG1.out],by first|trivial|rfl⟩
    case measure=>simp[intOf];omega
  ·have hlt':¬(k:Int)<(m:Int):=by omega
   obtain rfl:k=m:=by omega
   have hbs:=hS_bd hh2 k hk;have hbg:=hG_bd hh2 k hk;have GA:=qH<|fun u=>gaps_any kd a0 a1 a2 a3 a4 a5 a6 a7 a8 a9 b0 b1 up tx p k c h4 (by omega) u;have FA:=qH<|fun u=>frame_any kd a0 a1 a2 a3 a4 a5 a6 a7 a8 a9 b0 b1 up tx p k c h5 h6 u;have hgb:0≤gapI a4 k∧gapI a4 k≤1000000000000:=by
    unfold gapI;have hq1:0≤max 0 ((k:Int)-1)∧max 0 ((k:Int)-1)≤1000000:=by omega
    exact⟨Int.mul_nonneg h4.1 hq1.1,Int.mul_le_mul h4.2 hq1.2 hq1.1 (by omega)⟩
   have hfb:=frm_bd (kd:=kd) h5 h6;unfold ndA at GA FA;rw[hnv]at GA FA;clear hU1 hA hh2 hkk HW1 HK2 m1;by_cases h0:kd=0
   ·subst h0;have hraw:rawW 0 a4 a5 a6 h k=hS h k+gapI a4 k:=by unfold rawW;rw[if_pos rfl]
    obtain⟨S,hS'⟩:=nmd (hS h k);obtain⟨gg,hgg⟩:=nmd (gapI a4 k);rw[hS',hgg]at hraw;have HRW:=qH<|hraw;rw[hS']at hbs⊢;rw[hgg]at hgb GA;clear hS' hgg hraw;go_wp2_with(go_at_call 79;refine(GA _).mono ?_;rintro e wz ⟨rfl,HBz⟩);go_ret;exact⟨by rw[HRW.out];rfl,HB1.trans (HBz.mono HB1.size)⟩
   ·have hraw:rawW kd a4 a5 a6 h k=hG h k+2*frmI kd a5 a6:=by unfold rawW;rw[if_neg h0]
    have e1:(kd==0)=false:=by simpa using h0
    obtain⟨S,hS'⟩:=nmd (hG h k);obtain⟨gg,hgg⟩:=nmd (frmI kd a5 a6);rw[hS',hgg]at hraw;have HRW:=qH<|hraw;rw[hS']at hbg⊢;rw[hgg]at hfb FA;clear hS' hgg hraw;go_wp2_with(go_at_call 80;refine(FA _).mono ?_;rintro e wz ⟨rfl,HBz⟩);go_ret;exact⟨by rw[HRW.out];rfl,HB1.trans (HBz.mono HB1.size)⟩
end
section
open Go.RowKit Go.Sort Go.Proofs.Tryz
structure NdV(U:World)(r g:Nat)(L:List Nd)(KV:Nat->Value):Prop where
 gl:g<U.heap.size
 gr:g≠r
 len:∀j,j<L.length->(nth L j).attr.length=12
 nd:∀j,j<L.length->∀(t:Nat) x,(pnCells (nth L j) (KV j))[t]?=some x->U.cell? ⟨g,j*16+t,none⟩=some x
 kid:∀j,j<L.length->∃p c,KV j=.slice p (nth L j).kids.length c∧IntsN U r p (nth L j).kids.length (fun t=>(kdn (nth L j).kids t:Int))
theorem NdV.grown{U U':World}{r g:Nat}{L:List Nd}{KV:Nat->Value}(h:NdV U r g L KV)(hg:U.grownBy U' (some r)):NdV U' r g L KV:=by refine⟨Nat.lt_of_lt_of_le h.gl hg.size,h.gr,h.len,fun j hj t x ht=>(World.cell?_of_block (hg.block g h.gl (fun q=>h.gr (by simpa using q)))).trans (h.nd j hj t x ht),fun j hj=>?_⟩;obtain⟨p,c,e,hk⟩:=h.kid j hj;exact⟨p,c,e,hk.grown hg⟩
theorem PN.ndv{W:World}{B g cap r:Nat}{L:List Nd}{KV:Nat->Value}(h:PN W B (Sq g L.length cap) L KV)(hr:W.heap.size≤r):NdV W r g L KV:=by
 obtain⟨xs,hx⟩:=h.nr.row;have hgl:g<W.heap.size:=by
  rcases own_form hx with⟨e,_⟩|⟨g',cap',e,_,hl,_⟩;·cases e
  ·injection e with e1 e2 e3;injection e1 with e1;injection e1 with e1;omega
 refine⟨hgl,by omega,h.len,fun j hj t x ht=>h.nr.cells g rfl j hj t x ht,fun j hj=>?_⟩;rcases own_form (h.nr.kids j hj)with⟨e,h0⟩|⟨g',cap',e,_,hl,_⟩;·refine⟨none,0,by rw[e,h0],.inl h0⟩
 ·refine⟨_,_,e,.inr ⟨g',0,rfl,hl,by omega,fun i hi=>?_⟩⟩;have hk:=h.nr.kids j hj;rw[e]at hk;rw[Nat.zero_add,hk.cellAt i (by omega)];unfold kInts kdn;rw[List.getElem?_map];simp[hi]
def wdF(Wd:Nat->Int)(k j:Nat):Value:=Iq (if j<k then 0 else Wd j)
structure Nm(U W:World)(mb r g cap wb:Nat)(L:List Nd)(KV:Nat->Value)(Wd:Nat->Int)(H:Nat->Int->Int)(k:Nat):Prop where
 bel:Below U.heap.size U W
 nds:NdV W r g L KV
 ms:Ms W mb (Sq g L.length cap) (Sq wb L.length L.length) r
 row:W.rowIs wb 3 L.length (wdF Wd k)
 mm:Memo W r H 0
 hwb:U.heap.size≤wb
 ne:wb≠r∧wb≠mb∧wb≠g∧mb≠r
 tab:TabAt W
theorem Nm.below{U W W':World}{mb r g cap wb:Nat}{L:List Nd}{KV:Nat->Value}{Wd:Nat->Int}{H:Nat->Int->Int}{k:Nat}(h:Nm U W mb r g cap wb L KV Wd H k)(hb:Below W.heap.size W W'):Nm U W' mb r g cap wb L KV Wd H k:=
 ⟨h.bel.trans (hb.mono h.bel.size),h.nds.grown (grown_of_below hb),(hb.block mb (Array.getElem?_eq_some_iff.1 h.ms).1).trans h.ms,rowIs_below h.row hb,h.mm.grown_below hb,h.hwb,h.ne,h.tab.below hb⟩
theorem Nm.set{U W:World}{mb r g cap wb i:Nat}{L:List Nd}{KV:Nat->Value}{Wd:Nat->Int}{H:Nat->Int->Int}(h:Nm U W mb r g cap wb L KV Wd H (i+1))(hkw:∀j p c,j<L.length->KV j=.slice p (nth L j).kids.length c->∀b o,p=some ⟨b,o,none⟩->b≠wb)(htw:6≠wb):Nm U (W.setCell ⟨wb,i,none⟩ (Iq (Wd i))) mb r g cap wb L KV Wd H i:=by
 have key:∀b,b≠wb->(W.setCell ⟨wb,i,none⟩ (Iq (Wd i))).heap[b]?=W.heap[b]?:=fun b hb=>Below.heap_setCell W ⟨wb,i,none⟩ _ b hb;have hc:=fun b o hb=>World.cell?_of_block (a:=⟨b,o,none⟩) (key b hb);obtain⟨n1,n2,n3,n4⟩:=h.ne;refine⟨h.bel.setCell (p:=⟨wb,i,none⟩) h.hwb _,⟨by simpa using h.nds.gl,h.nds.gr,h.nds.len,fun j hj t x ht=>(hc g _ (fun e=>n3 e.symm)).trans (h.nds.nd j hj t x ht),fun j hj=>?_⟩,(key mb (fun e=>n2 e.symm)).trans h.ms,(h.row.set i _).congr fun j hj=>?_,h.mm.set n1 _,h.hwb,h.ne,fun j hj=>?_⟩
 ·obtain⟨p,c,e,hk⟩:=h.nds.kid j hj;refine⟨p,c,e,?_⟩;rcases hk with hk|⟨b,o,e2,k1,k2,k3⟩;·exact .inl hk
  ·exact .inr ⟨b,o,e2,by simpa using k1,k2,fun q hq=>(hc b _ (hkw j p c hj e b o e2)).trans (k3 q hq)⟩
 ·unfold wdF;by_cases e:j=i;·rw[if_pos e,e,if_neg (by omega)]
  ·rw[if_neg e];by_cases l:j<i;·rw[if_pos l,if_pos (by omega)]
   ·rw[if_neg l,if_neg (by omega)]
 ·obtain⟨t1,t2,t3⟩:=h.tab j hj;exact⟨(hc _ _ htw).trans t1,(hc _ _ htw).trans t2,(hc _ _ htw).trans t3⟩
theorem madeInts_row(w:World)(n:Nat)(Wd:Nat->Int):(w.alloc (.cells (madeCells #[Iq 0] n) 3)).rowIs w.heap.size 3 n (wdF Wd n):=
 (World.rowIs_made w (Iq 0) n _).congr fun j hj=>by unfold wdF;rw[if_pos hj]
theorem newMeasure_any{s:ByteArray}{L:List Nd}{KV:Nat->Value}{Wd:Nat->Int}{H:Nat->Int->Int}(g cap:Nat)(hT:Tree s L)(hS:Sz L Wd H)(U:World)(B:Nat)(hP:PN U B (Sq g L.length cap) L KV)(ht:TabAt U):
 Calls prog 24 #[Sq g L.length cap] U fun e U'=>∃mb r wb,e=.returned (Pq mb)∧Below U.heap.size U U'∧Hs U' mb r g cap wb L KV Wd H 0∧U.heap.size≤r:=by
 obtain⟨N,hN⟩:=nmd L.length;have hc:=hT.vl.cnt;have hpos:=hT.pos;rw[hN]at hc hpos;obtain⟨wb,hwb⟩:=nmd U.heap.size;have hmk:=run_make_row' (P:=prog) 59 3 (Iq 0) 8 underlying59 info3row rfl .i64 .i64 N (by omega) (by omega);obtain⟨W1,hW1⟩:=nmd (((U.alloc (.cells (madeCells #[Iq 0] N) 3)).alloc (.map #[] 0)).alloc (.cells #[Sq g N cap,Sq wb N N,.map (some (wb+1))] 108));have hb1:Below U.heap.size U W1:=by rw[<-hW1];exact(((Gr.refl U).alloc _).alloc _).alloc _|>.below
 have hnd0:NdV U (wb+1) g L KV:=hP.ndv (by omega);have hgl:=hnd0.gl;have htl:6<U.heap.size:=by
  obtain⟨h1,_⟩:=ht 0 (by decide);by_cases q:6<U.heap.size;·exact q
  ·simp[World.cell?,Array.getElem?_eq_none (Nat.le_of_not_lt q)]at h1
 have HKW:Hid (∀j p c,j<L.length->KV j=.slice p (nth L j).kids.length c->∀b o,p=some ⟨b,o,none⟩->b≠wb):=fun j p c hj e b o e2=>by
  rcases own_form (hP.nr.kids j hj)with⟨e3,h0⟩|⟨g',cap',e3,_,hl,_⟩;·rw[e]at e3;injection e3 with e4;rw[e2]at e4;cases e4
  ·rw[e]at e3;injection e3 with e4;rw[e2]at e4;injection e4 with e4;injection e4 with e4;omega
 have HNM:Hid (Nm U W1 (wb+1+1) (wb+1) g cap wb L KV Wd H N):=by
  refine⟨hb1,hnd0.grown (grown_of_below hb1),?_,?_,?_,by omega,⟨by omega,by omega,by omega,by omega⟩,ht.below hb1⟩;·rw[hN,<-hW1];have:=heap_alloc_new ((U.alloc (.cells (madeCells #[Iq 0] N) 3)).alloc (.map #[] 0)) (.cells #[Sq g N cap,Sq wb N N,.map (some (wb+1))] 108);rw[World.size_alloc,World.size_alloc,hwb]at this;exact this
  ·rw[hN,<-hW1,<-hwb];exact((madeInts_row U N Wd).alloc _).alloc _
  ·rw[<-hW1];have:=Memo.new (U.alloc (.cells (madeCells #[Iq 0] N) 3)) H;rw[World.size_alloc,hwb]at this;exact this.alloc _
 have LN:=qH<|length_any;have hmix:prog.follows .mixedOrders=true:=by kernel_rfl
 have HTW:Hid (6≠wb):=fun e=>by omega
 have HWB:=qH<|hwb;have hmap:∀w:World,(Instr.makeMap 106 none).run prog w=.ok (.map (some w.heap.size)) (w.alloc (.map #[] 0)):=fun _=>rfl;rw[hN];clear hb1 hnd0 hgl htl hP ht;go_enter func24,ntmps24;go_wp2_with fail;clear hW1 hmk hwb hmap;go_loopw[4] (fun iv wr=>∃k:Nat,k≤N∧iv=Iq ((k:Int)-1)∧Hid (Nm U wr (wb+1+1) (wb+1) g cap wb L KV Wd H k)) (fun iv _=>(intOf iv+1).toNat);case atStart=>exact⟨N,Nat.le_refl _,by go_num,HNM⟩
 case round=>
  obtain⟨k,hk,rfl,HR⟩:=hrel;cases k with
  |zero=>
   have HV:Hid (Hs wr (wb+1+1) (wb+1) g cap wb L KV Wd H 0):=by have h:=HR.out;obtain⟨n1,n2,n3,n4⟩:=h.ne;exact⟨⟨h.ms,h.nds.gl,h.row.lt,n4,h.nds.gr,n1,h.nds.len,h.nds.nd,h.nds.kid,fun j hj=>h.row.cell hj⟩,h.mm,h.tab⟩
   go_wp2;go_ret;exact⟨_,_,wb,rfl,HR.bel,HV,by rw[HWB.out];omega⟩
  |succ i=>
   have ei:((i+1:Nat):Int)-1=(i:Int):=by omega
   rw[ei];have hiL:i<L.length:=by omega
   have hiN:(i:Int)<(N:Int):=by omega
   have hR:=HR.out;obtain⟨p,c,hkv,hki⟩:=hR.nds.kid i hiL;have hcells:=pn_list (hR.nds.len i hiL) (KV i);have hnd:=hR.nds.nd i hiL;rw[hcells,hkv]at hnd;have hms:=hR.ms;rw[hN]at hms;have hbd:=(hT.vl.nv i hiL).bd;have hkl:=hT.kids_le hiL;have WC:Hid (∀u,Below wr.heap.size wr u->Calls prog 51 #[Pq (wb+1+1),ndA (nth L i).kind (atN (nth L i) 0) (atN (nth L i) 1) (atN (nth L i) 2) (atN (nth L i) 3) (atN (nth L i) 4) (atN (nth L i) 5) (atN (nth L i) 6) (atN (nth L i) 7) (atN (nth L i) 8) (atN (nth L i) 9) (atN (nth L i) 10) (atN (nth L i) 11) ⟨(nth L i).text.toArray⟩ (.slice p (nth L i).kids.length c) (nth L i).up] u fun e u'=>∃x,e=.returned (Iq x)∧lenI x=Wd i∧Hid (Below wr.heap.size wr u')):=fun u hu=>by
    have hRu:=hR.below hu;rw[hS.w i hiL];unfold nodeW;by_cases h5:(nth L i).kind=5
    ·rw[if_pos h5];have hts:(⟨(nth L i).text.toArray⟩:ByteArray).size≤4000:=by have h1:=hT.vl.tl i hiL;have h2:=hT.sz;show(nth L i).text.toArray.size≤4000;rw[List.size_toArray];omega
     have:=widthText_any (wb+1+1) (atN (nth L i) 0) (atN (nth L i) 1) (atN (nth L i) 2) (atN (nth L i) 3) (atN (nth L i) 4) (atN (nth L i) 5) (atN (nth L i) 6) (atN (nth L i) 7) (atN (nth L i) 8) (atN (nth L i) 9) (atN (nth L i) 10) (atN (nth L i) 11) (nth L i).up ⟨(nth L i).text.toArray⟩ p (nth L i).kids.length c u hRu.tab hts;rw[h5];refine this.mono ?_;rintro e u' ⟨rfl,q⟩;exact⟨_,rfl,rfl,hu.trans (q.mono hu.size)⟩
    ·rw[if_neg h5];refine(workWidth_of (wb+1+1) (wb+1) wb L.length (nth L i).kids.length Wd (kdn (nth L i).kids) (nth L i).kind (atN (nth L i) 0) (atN (nth L i) 1) (atN (nth L i) 2) (atN (nth L i) 3) (atN (nth L i) 4) (atN (nth L i) 5) (atN (nth L i) 6) (atN (nth L i) 7) (atN (nth L i) 8) (atN (nth L i) 9) (atN (nth L i) 10) (atN (nth L i) 11) (nth L i).up ⟨(nth L i).text.toArray⟩ _ p c u (by omega) (by omega) (by omega) (by omega) (by omega) (by omega) (fun j hj=>hS.wb _ (kid_lt hT hiL hj).2) (fun j hj=>(kid_lt hT hiL hj).2) hRu.ms hRu.row.lt (hki.grown (grown_of_below hu)) (fun j hj=>?_)).mono ?_;·have hkj:=kid_lt hT hiL hj;rw[hRu.row.cell hkj.2];unfold wdF;rw[if_neg (by omega)]
     ·rintro e u' ⟨rfl,q⟩;exact⟨_,rfl,rfl,hu.trans (q.mono hu.size)⟩
   have HNX:Hid (∀u,Below wr.heap.size wr u->Nm U (u.setCell ⟨wb,i,none⟩ (Iq (Wd i))) (wb+1+1) (wb+1) g cap wb L KV Wd H i):=fun u hu=>(hR.below hu).set HKW HTW;have HWC:Hid (∀u,Below wr.heap.size wr u->u.cell? ⟨wb,i,none⟩=some (Iq 0)∧u.frozen? ⟨wb,i,none⟩=false∧wb<u.heap.size):=fun u hu=>by have hr:=(hR.below hu).row;refine⟨?_,hr.frozen i,hr.lt⟩;rw[hr.cell hiL];unfold wdF;rw[if_pos (by omega)]
   have hmbl:=(Array.getElem?_eq_some_iff.1 hms).1;have hgl:=hR.nds.gl;have hne1:¬wb=g:=hR.ne.2.2.1;have hne2:¬g=wb:=fun e=>hne1 e.symm;have hne3:¬wb=wb+1+1:=by omega
   have hne4:¬wb+1+1=wb:=by omega
   generalize(nth L i).text.toArray=txa at hnd WC;generalize((nth L i).kind:Int)=kd at hnd WC;generalize atN (nth L i) 0=a0 at hnd WC;generalize atN (nth L i) 1=a1 at hnd WC;generalize atN (nth L i) 2=a2 at hnd WC;generalize atN (nth L i) 3=a3 at hnd WC;generalize atN (nth L i) 4=a4 at hnd WC;generalize atN (nth L i) 5=a5 at hnd WC;generalize atN (nth L i) 6=a6 at hnd WC;generalize atN (nth L i) 7=a7 at hnd WC;generalize atN (nth L i) 8=a8 at hnd WC;generalize atN (nth L i) 9=a9 at hnd WC;generalize atN (nth L i) 10=b0 at hnd WC;generalize atN (nth L i) 11=b1 at hnd WC;generalize(nth L i).up=up at hnd WC;generalize(nth L i).kids.length=m at hnd WC;obtain⟨tx,htx⟩:∃z:ByteArray,⟨txa⟩=z:=⟨_,rfl⟩;rw[htx]at hnd WC;have HS:Hid (∀u,Below wr.heap.size wr u->u.cell? ⟨wb+1+1,1,none⟩=some (Sq wb N N)∧u.cell? ⟨g,i*16,none⟩=some (Iq kd)∧u.cell? ⟨g,i*16+1,none⟩=some (Iq a0)∧u.cell? ⟨g,i*16+2,none⟩=some (Iq a1)∧u.cell? ⟨g,i*16+3,none⟩=some (Iq a2)∧u.cell? ⟨g,i*16+4,none⟩=some (Iq a3)∧u.cell? ⟨g,i*16+5,none⟩=some (Iq a4)∧u.cell? ⟨g,i*16+6,none⟩=some (Iq a5)∧u.cell? ⟨g,i*16+7,none⟩=some (Iq a6)∧u.cell? ⟨g,i*16+8,none⟩=some (Iq a7)∧u.cell? ⟨g,i*16+9,none⟩=some (Iq a8)∧u.cell? ⟨g,i*16+10,none⟩=some (Iq a9)∧u.cell? ⟨g,i*16+11,none⟩=some (Iq b0)∧u.cell? ⟨g,i*16+12,none⟩=some (Iq b1)∧u.cell? ⟨g,i*16+13,none⟩=some (.string tx)∧u.cell? ⟨g,i*16+14,none⟩=some (.slice p m c)∧u.cell? ⟨g,i*16+15,none⟩=some (Iq up)):=fun u hu=>by
    have key:=fun t x hx=>(hu.cell (p:=⟨g,_,none⟩) hgl).trans (hnd t x hx);have hmb2:u.cell? ⟨wb+1+1,1,none⟩=some (Sq wb N N):=by rw[Lib.cell_of_heap ((hu.block _ hmbl).trans hms)];rfl
    exact⟨hmb2,key 0 _ rfl,key 1 _ rfl,key 2 _ rfl,key 3 _ rfl,key 4 _ rfl,key 5 _ rfl,key 6 _ rfl,key 7 _ rfl,key 8 _ rfl,key 9 _ rfl,key 10 _ rfl,key 11 _ rfl,key 12 _ rfl,key 13 _ rfl,key 14 _ rfl,key 15 _ rfl⟩
   obtain⟨q0,q1,q2,q3,q4,q5,q6,q7,q8,q9,q10,q11,q12,q13,q14,q15,q16⟩:=HS wr (Below.refl _ _);obtain⟨wc0,wc1,wc2⟩:=HWC wr (Below.refl _ _);unfold ndA at WC;clear hR hcells hnd hms hbd hkl hkv hki htx hmbl hgl HR HNM ei;go_wp2_with fail;go_region_held(fun W=>W.cell? ⟨wb+1+1,1,none⟩=some (Sq wb N N)∧W.cell? ⟨g,i*16,none⟩=some (Iq kd)∧W.cell? ⟨g,i*16+1,none⟩=some (Iq a0)∧W.cell? ⟨g,i*16+2,none⟩=some (Iq a1)∧W.cell? ⟨g,i*16+3,none⟩=some (Iq a2)∧W.cell? ⟨g,i*16+4,none⟩=some (Iq a3)∧W.cell? ⟨g,i*16+5,none⟩=some (Iq a4)∧W.cell? ⟨g,i*16+6,none⟩=some (Iq a5)∧W.cell? ⟨g,i*16+7,none⟩=some (Iq a6)∧W.cell? ⟨g,i*16+8,none⟩=some (Iq a7)∧W.cell? ⟨g,i*16+9,none⟩=some (Iq a8)∧W.cell? ⟨g,i*16+10,none⟩=some (Iq a9)∧W.cell? ⟨g,i*16+11,none⟩=some (Iq b0)∧W.cell? ⟨g,i*16+12,none⟩=some (Iq b1)∧W.cell? ⟨g,i*16+13,none⟩=some (.string tx)∧W.cell? ⟨g,i*16+14,none⟩=some (.slice p m c)∧W.cell? ⟨g,i*16+15,none⟩=some (Iq up)) (go_keep) (first|(go_at_call 51;refine Calls.mono (WC _ (by first|exact Below.refl _ _|exact(Below.refl _ _).drew)) ?_;rintro e u1 ⟨x,rfl,hx,HBu⟩;obtain⟨s0,s1,s2,s3,s4,s5,s6,s7,s8,s9,s10,s11,s12,s13,s14,s15,s16⟩:=HS u1 HBu;obtain⟨wd0,wd1,wd2⟩:=HWC u1 HBu)|(go_at_call 50;refine Calls.mono (LN _ _) ?_;rintro e u2 ⟨rfl,hu2⟩;obtain rfl:=hu2.symm));all_goals
    have HN2:=qH<|HNX _ HBu;go_wp2;go_roundw;case rel=>exact⟨i,by omega,by go_num,HN2⟩
    case measure=>simp[intOf]<;>omega
end
section
open Go.RowKit Go.Sort Go.Proofs.Tryz
def stA(L:List Nd):Nat->Nat->Int×Int×Int
 |0,_=>(0,0,0)
 |f+1,i=>(ov (if 0≤(nth L i).up then(stA L f (nth L i).up.toNat).1 else 0) (atN (nth L i) 9),ov (if 0≤(nth L i).up then(stA L f (nth L i).up.toNat).2.1 else 0) (atN (nth L i) 10),obo (if 0≤(nth L i).up then(stA L f (nth L i).up.toNat).2.2 else 0) (atN (nth L i) 11))
theorem stA_enough{L:List Nd}(h:∀i:Nat,i<L.length->(nth L i).up<i):∀(f g i:Nat),i<L.length->i<f->i<g->stA L f i=stA L g i
 |0,_,_,_,h,_=>by omega
 |_+1,0,_,_,_,h=>by omega
 |f+1,g+1,i,hi,hf,hg=>by
  have hu:=h i hi;unfold stA;by_cases h0:0≤(nth L i).up;·rw[if_pos h0,if_pos h0,if_pos h0,if_pos h0,if_pos h0,if_pos h0,stA_enough h f g (nth L i).up.toNat (by omega) (by omega) (by omega)]
  ·rw[if_neg h0,if_neg h0,if_neg h0,if_neg h0,if_neg h0,if_neg h0]
def sty(L:List Nd)(i:Nat):Int×Int×Int:=stA L (i+1) i
theorem sty_at{L:List Nd}(h:∀i:Nat,i<L.length->(nth L i).up<i){i:Nat}(hi:i<L.length)(u0 u1 u2:Int)(hu:(0≤(nth L i).up∧(u0,u1,u2)=sty L (nth L i).up.toNat)∨((nth L i).up<0∧u0=0∧u1=0∧u2=0)):
 ov u0 (atN (nth L i) 9)=(sty L i).1∧ov u1 (atN (nth L i) 10)=(sty L i).2.1∧obo u2 (atN (nth L i) 11)=(sty L i).2.2:=by
 unfold sty stA;rcases hu with⟨h0,e⟩|⟨h0,rfl,rfl,rfl⟩
 ·have hl:=h i hi;have:stA L i (nth L i).up.toNat=(u0,u1,u2):=by rw[e];exact stA_enough h _ _ _ (by omega) (by omega) (by omega)
  rw[if_pos h0,if_pos h0,if_pos h0,this];exact⟨rfl,rfl,rfl⟩
 ·rw[if_neg (by omega),if_neg (by omega),if_neg (by omega)];exact⟨rfl,rfl,rfl⟩
theorem infoSty:(prog.info? 32).map (fun i=>(i.zero,i.size,i.bytes))=some (some (.agg #[Iq 0,Iq 0,Iq 0]),3,24):=by kernel_rfl
theorem stylesOf_any{L:List Nd}{KV:Nat->Value}(hup:∀i:Nat,i<L.length->(nth L i).up<i)(hLn:L.length≤100)(U:World)(r g cap:Nat)(hV:NdV U r g L KV):
 Calls prog 15 #[Sq g L.length cap] U fun e U'=>∃sb,e=.returned (Sq sb L.length L.length)∧WRow U' sb 0 L.length (fun j=>(sty L j).1) (fun j=>(sty L j).2.1) (fun j=>(sty L j).2.2)∧U.heap.size≤sb∧Below U.heap.size U U':=by
 obtain⟨i0,hi,hz0,hz1,hz2⟩:=info_parts infoSty;obtain⟨m,hm⟩:=nmd L.length;have hmk:(Instr.makeSlice 53 (Iq (m:Int)) (Iq (m:Int))).run prog U=.ok (Sq U.heap.size m m) (U.alloc (.cells (madeCells #[Iq 0,Iq 0,Iq 0] (m*3)) 32)):=by have:=run_make (P:=prog) U 53 32 i0 _ underlying53 hi hz0 .i64 .i64 m m (by omega) (Int.le_refl _) (by rw[hz2];omega) (by omega);rw[hz1,Int.toNat_natCast]at this;exact this
 obtain⟨sb,hsb⟩:=nmd U.heap.size;obtain⟨a,ha⟩:=nmd (fun j=>(sty L j).1);obtain⟨b,hb⟩:=nmd (fun j=>(sty L j).2.1);obtain⟨d,hd⟩:=nmd (fun j=>(sty L j).2.2);have HA:Hid (∀j,a j=(sty L j).1∧b j=(sty L j).2.1∧d j=(sty L j).2.2):=fun j=>by rw[<-ha,<-hb,<-hd];exact⟨rfl,rfl,rfl⟩
 rw[ha,hb,hd];obtain⟨W0,hW0⟩:=nmd (U.alloc (.cells (madeCells #[Iq 0,Iq 0,Iq 0] (m*3)) 32));have HR0:Hid (W0.rowIs sb 32 (m*3) (wnF a b d 0)):=by rw[<-hW0,<-hsb];exact wn_zero U m a b d _
 have HB0:Hid (Below sb U W0):=by rw[<-hW0,<-hsb];exact((Gr.refl U).alloc _).below
 have HVV:=qH hV;have HM:=qH hm;have HSB:=qH hsb;rw[hm];clear hV ha hb hd hi hz0 hz1 hz2;go_enter func15,ntmps15;go_wp2_with fail;clear hW0 hsb hmk;go_loopw[12] (fun kv wr=>∃k:Nat,k≤m∧kv=Iq (k:Int)∧Hid (Below sb U wr)∧Hid (wr.rowIs sb 32 (m*3) (wnF a b d k))) (fun kv _=>m-(intOf kv).toNat);case atStart=>exact⟨0,Nat.zero_le _,rfl,HB0,HR0⟩
 case round=>
  obtain⟨k,hk,rfl,HB,HR⟩:=hrel;by_cases hlt:k<m
  ·have hlt':(k:Int)<(m:Int):=by omega
   have hkl:k<L.length:=by have:=HM.out;omega
   have HND:Hid (∀(t:Nat) v,(pnCells (nth L k) (KV k))[t]?=some v->wr.cell? ⟨g,k*16+t,none⟩=some v):=fun t v hv=>(World.cell?_of_block (a:=⟨g,k*16+t,none⟩) (HB.block g (by rw[<-HSB.out];exact HVV.gl))).trans (HVV.nd k hkl t v hv);rw[pn_list (HVV.len k hkl)]at HND;obtain⟨pk,ck,hkv,_⟩:=HVV.kid k hkl;have HUP:=qH<|hup k hkl;have HST:Hid (∀u0 u1 u2,(0≤(nth L k).up∧(u0,u1,u2)=sty L (nth L k).up.toNat)∨((nth L k).up<0∧u0=0∧u1=0∧u2=0)->ov u0 (atN (nth L k) 9)=a k∧ov u1 (atN (nth L k) 10)=b k∧obo u2 (atN (nth L k) 11)=d k):=fun u0 u1 u2 hu=>by obtain⟨e1,e2,e3⟩:=HA k;rw[e1,e2,e3];exact sty_at hup hkl u0 u1 u2 hu
   rw[hkv]at HND;generalize(nth L k).text.toArray=txa at HND;generalize((nth L k).kind:Int)=kd at HND;generalize atN (nth L k) 0=a0 at HND;generalize atN (nth L k) 1=a1 at HND;generalize atN (nth L k) 2=a2 at HND;generalize atN (nth L k) 3=a3 at HND;generalize atN (nth L k) 4=a4 at HND;generalize atN (nth L k) 5=a5 at HND;generalize atN (nth L k) 6=a6 at HND;generalize atN (nth L k) 7=a7 at HND;generalize atN (nth L k) 8=a8 at HND;generalize atN (nth L k) 9=a9 at HND HST;generalize atN (nth L k) 10=b0 at HND HST;generalize atN (nth L k) 11=b1 at HND HST;generalize(nth L k).up=up at HND HST HUP;generalize(nth L k).kids.length=kl at HND;obtain⟨tx,htx⟩:∃z:ByteArray,⟨txa⟩=z:=⟨_,rfl⟩;rw[htx]at HND;have q0:wr.cell? ⟨g,k*16,none⟩=some (Iq kd):=HND 0 _ rfl;have q1:=HND 1 _ rfl;have q2:=HND 2 _ rfl;have q3:=HND 3 _ rfl;have q4:=HND 4 _ rfl;have q5:=HND 5 _ rfl;have q6:=HND 6 _ rfl;have q7:=HND 7 _ rfl;have q8:=HND 8 _ rfl;have q9:=HND 9 _ rfl;have q10:=HND 10 _ rfl;have q11:=HND 11 _ rfl;have q12:=HND 12 _ rfl;have q13:=HND 13 _ rfl;have q14:=HND 14 _ rfl;have q15:=HND 15 _ rfl;obtain⟨A,hA⟩:=nmd wr.heap.size;obtain⟨W1,hW1⟩:=nmd ((wr.alloc (.cells #[Iq kd,Iq a0,Iq a1,Iq a2,Iq a3,Iq a4,Iq a5,Iq a6,Iq a7,Iq a8,Iq a9,Iq b0,Iq b1,.string tx,.slice pk kl ck,Iq up] 61)).alloc (.cells #[Iq 0,Iq 0,Iq 0] 32));have HG1:Hid (Gr wr W1):=by rw[<-hW1];exact((Gr.refl wr).alloc _).alloc _
   have hn1:W1.heap[A]?=some (.cells #[Iq kd,Iq a0,Iq a1,Iq a2,Iq a3,Iq a4,Iq a5,Iq a6,Iq a7,Iq a8,Iq a9,Iq b0,Iq b1,.string tx,.slice pk kl ck,Iq up] 61 (0,0)):=by rw[<-hW1,<-hA,Below.heap_alloc _ _ _ (by rw[World.size_alloc];omega)];exact heap_alloc_new _ _
   have hs1:R3 32 W1 (A+1) 0 0 0:=by rw[<-hW1,<-hA,<-World.size_alloc];exact R3.new _ _ _ _ _
   have hr1:W1.rowIs sb 32 (m*3) (wnF a b d k):=rowIs_below HR HG1.below;have hsA:sb<A:=by rw[<-hA];exact HR.lt
   have HR1:=qH hr1;have HN1:Hid (∀u:World,u.heap[A]?=W1.heap[A]?->u.cell? ⟨A,10,none⟩=some (Iq a9)∧u.cell? ⟨A,11,none⟩=some (Iq b0)∧u.cell? ⟨A,12,none⟩=some (Iq b1)∧u.cell? ⟨A,15,none⟩=some (Iq up)):=fun u hu=>by refine⟨?_,?_,?_,?_⟩<;>(rw[Lib.cell_of_heap (hu.trans hn1)];rfl)
   obtain⟨z10,z11,z12,z15⟩:=HN1 W1 rfl;have HAL:Hid (A<W1.heap.size):=(Array.getElem?_eq_some_iff.1 hn1).1;have HS1:=qH hs1;have HBA:Hid (Below A wr W1):=by rw[<-hA];exact HG1.below
   have HRR:=qH<|HR;have HF:Hid (∀u v0 v1 v2,Below A wr u->v0=a k->v1=b k->v2=d k->sb<u.heap.size∧(∀j,u.frozen? ⟨sb,j,none⟩=false)∧(∃v,u.cell? ⟨sb,k*3,none⟩=some v)∧(∃v,u.cell? ⟨sb,k*3+1,none⟩=some v)∧(∃v,u.cell? ⟨sb,k*3+2,none⟩=some v)∧Hid (Below sb U (((u.setCell ⟨sb,k*3,none⟩ (Iq v0)).setCell ⟨sb,k*3+1,none⟩ (Iq v1)).setCell ⟨sb,k*3+2,none⟩ (Iq v2)))∧Hid ((((u.setCell ⟨sb,k*3,none⟩ (Iq v0)).setCell ⟨sb,k*3+1,none⟩ (Iq v1)).setCell ⟨sb,k*3+2,none⟩ (Iq v2)).rowIs sb 32 (m*3) (wnF a b d (k+1)))):=fun u v0 v1 v2 hu h0 h1 h2=>by have hru:u.rowIs sb 32 (m*3) (wnF a b d k):=World.rowIs.of_block HR (hu.block sb (by omega));have hbu:Below sb U u:=HB.trans (hu.mono (by omega));exact⟨hru.lt,fun j=>hru.frozen j,⟨_,hru.cell (by omega)⟩,⟨_,hru.cell (by omega)⟩,⟨_,hru.cell (by omega)⟩,((hbu.setCell (p:=⟨sb,k*3,none⟩) (Nat.le_refl _) _).setCell (p:=⟨sb,k*3+1,none⟩) (Nat.le_refl _) _).setCell (p:=⟨sb,k*3+2,none⟩) (Nat.le_refl _) _,wn_next hru v0 v1 v2 h0 h1 h2⟩
   have hA1:A+1≠sb:=by omega
   have c0:=hs1.c0;have c1:=hs1.c1;have c2:=hs1.c2;have fz:=hs1.fz;clear HND hn1 hs1 hr1 hkv htx HR;by_cases h0:0≤up
   ·obtain⟨j,rfl⟩:∃j:Nat,up=(j:Int):=⟨up.toNat,by omega⟩;have hjk:j<k:=by have:=HUP.out;omega
    have hjm:(j:Int)<(m:Int):=by omega
    obtain⟨⟨u0,u1,u2⟩,hu⟩:=nmd (sty L j);have g0:W1.cell? ⟨sb,j*3,none⟩=some (Iq u0):=by rw[HR1.cell (by omega)];unfold wnF;rw[if_pos (by omega),if_pos (by omega),show j*3/3=j by omega,(HA j).1,hu]
    have g1:W1.cell? ⟨sb,j*3+1,none⟩=some (Iq u1):=by rw[HR1.cell (by omega)];unfold wnF;rw[if_pos (by omega),if_neg (by omega),if_pos (by omega),show(j*3+1)/3=j by omega,(HA j).2.1,hu]
    have g2:W1.cell? ⟨sb,j*3+2,none⟩=some (Iq u2):=by rw[HR1.cell (by omega)];unfold wnF;rw[if_pos (by omega),if_neg (by omega),if_neg (by omega),show(j*3+2)/3=j by omega,(HA j).2.2,hu]
    obtain⟨e1,e2,e3⟩:=HST u0 u1 u2 (.inl ⟨h0,by rw[<-hu];rfl⟩);have OV:Hid (∀u,Calls prog 33 #[sv u0 u1 u2,sv a9 b0 b1] u fun e u'=>e=.returned (sv (a k) (b k) (d k))∧Hid (Gr u u')):=fun u=>by have:=over_any u0 u1 u2 a9 b0 b1 u;rw[e1,e2,e3]at this;exact this
    obtain⟨v0,hv0⟩:=nmd (a k);obtain⟨v1,hv1⟩:=nmd (b k);obtain⟨v2,hv2⟩:=nmd (d k);rw[hv0,hv1,hv2]at OV HF;unfold sv at OV;obtain⟨W2,hW2⟩:=nmd (((W1.setCell ⟨A+1,0,none⟩ (Iq u0)).setCell ⟨A+1,1,none⟩ (Iq u1)).setCell ⟨A+1,2,none⟩ (Iq u2));have hs2:R3 32 W2 (A+1) u0 u1 u2:=by rw[<-hW2];exact HS1.set u0 u1 u2
    have HB2:Hid (Below A wr W2):=by rw[<-hW2];exact((HBA.setCell (p:=⟨A+1,0,none⟩) (by show A≤A+1;omega) _).setCell (p:=⟨A+1,1,none⟩) (by show A≤A+1;omega) _).setCell (p:=⟨A+1,2,none⟩) (by show A≤A+1;omega) _
    have hn2:W2.heap[A]?=W1.heap[A]?:=by rw[<-hW2,Below.heap_setCell _ ⟨A+1,2,none⟩ _ A (by show A≠A+1;omega),Below.heap_setCell _ ⟨A+1,1,none⟩ _ A (by show A≠A+1;omega),Below.heap_setCell _ ⟨A+1,0,none⟩ _ A (by show A≠A+1;omega)]
    obtain⟨y10,y11,y12,y15⟩:=HN1 W2 hn2;have s0:=hs2.c0;have s1:=hs2.c1;have s2:=hs2.c2;clear hu e1 e2 e3 hs2 hn2;go_wp2_with fail;refine(OV _).mono ?_;rintro e u ⟨rfl,HGu⟩;have HU:Hid (Below A wr u):=HB2.trans (HGu.below.mono (by have:=HB2.size;omega));clear OV;obtain⟨f1,f2,⟨x0,f3⟩,⟨x1,f4⟩,⟨x2,f5⟩,F1,F2⟩:=HF u v0 v1 v2 HU rfl rfl rfl;clear HF;go_wp2;go_roundw;case rel=>exact⟨k+1,hlt,by go_num,F1,F2⟩
    case measure=>simp[intOf];omega
   ·obtain⟨e1,e2,e3⟩:=HST 0 0 0 (.inr ⟨by omega,rfl,rfl,rfl⟩);have OV:Hid (∀u,Calls prog 33 #[sv 0 0 0,sv a9 b0 b1] u fun e u'=>e=.returned (sv (a k) (b k) (d k))∧Hid (Gr u u')):=fun u=>by have:=over_any 0 0 0 a9 b0 b1 u;rw[e1,e2,e3]at this;exact this
    obtain⟨v0,hv0⟩:=nmd (a k);obtain⟨v1,hv1⟩:=nmd (b k);obtain⟨v2,hv2⟩:=nmd (d k);rw[hv0,hv1,hv2]at OV HF;unfold sv at OV;clear e1 e2 e3;go_wp2_with fail;refine(OV _).mono ?_;rintro e u ⟨rfl,HGu⟩;have HU:Hid (Below A wr u):=HBA.trans (HGu.below.mono (by have:=HBA.size;omega));clear OV;obtain⟨f1,f2,⟨x0,f3⟩,⟨x1,f4⟩,⟨x2,f5⟩,F1,F2⟩:=HF u v0 v1 v2 HU rfl rfl rfl;clear HF;go_wp2;go_roundw;case rel=>exact⟨k+1,hlt,by go_num,F1,F2⟩
    case measure=>simp[intOf];omega
  ·have hlt':¬(k:Int)<(m:Int):=by omega
   obtain rfl:k=m:=by omega
   go_wp2;go_ret;exact⟨sb,rfl,wn_row HR,by rw[HSB.out];exact Nat.le_refl _,by rw[HSB.out];exact HB⟩
end
section
open Go.RowKit Go.Sort Go.Proofs.Tryz
def rcF(a b c d:Nat->Int)(k:Nat)(i:Nat):Value:=Iq (if i/4<k then(if i %4=0 then a (i/4)else if i %4=1 then b (i/4)else if i %4=2 then c (i/4)else d (i/4))else 0)
theorem rc_zero(w:World)(m:Nat)(a b c d:Nat->Int)(T:TypeId):(w.alloc (.cells (madeCells #[Iq 0,Iq 0,Iq 0,Iq 0] (m*4)) T)).rowIs w.heap.size T (m*4) (rcF a b c d 0):=by
 have:=World.rowIs_alloc w (madeCells #[Iq 0,Iq 0,Iq 0,Iq 0] (m*4)) T (rcF a b c d 0) (fun i hi=>by
  rw[size_madeCells]at hi;unfold rcF;rw[if_neg (by omega)];simp only[madeCells];have:i %4=0∨i %4=1∨i %4=2∨i %4=3:=by omega
  rcases this with e|e|e|e<;>simp[e,hi]);rw[size_madeCells]at this;exact this
theorem rc_next{W:World}{b:Nat}{T:TypeId}{m k:Nat}{a b1 c d:Nat->Int}(h:W.rowIs b T (m*4) (rcF a b1 c d k))(x y z u:Int)(hx:x=a k)(hy:y=b1 k)(hz:z=c k)(hu:u=d k):
 ((((W.setCell ⟨b,k*4,none⟩ (Iq x)).setCell ⟨b,k*4+1,none⟩ (Iq y)).setCell ⟨b,k*4+2,none⟩ (Iq z)).setCell ⟨b,k*4+3,none⟩ (Iq u)).rowIs b T (m*4) (rcF a b1 c d (k+1)):=by
 subst hx hy hz hu;refine((((h.set (k*4) (Iq (a k))).set (k*4+1) (Iq (b1 k))).set (k*4+2) (Iq (c k))).set (k*4+3) (Iq (d k))).congr fun i hi=>?_;unfold rcF;by_cases e3:i=k*4+3;·rw[if_pos e3,if_pos (by omega),if_neg (by omega),if_neg (by omega),if_neg (by omega),show i/4=k by omega]
 ·rw[if_neg e3];by_cases e2:i=k*4+2;·rw[if_pos e2,if_pos (by omega),if_neg (by omega),if_neg (by omega),if_pos (by omega),show i/4=k by omega]
  ·rw[if_neg e2];by_cases e1:i=k*4+1;·rw[if_pos e1,if_pos (by omega),if_neg (by omega),if_pos (by omega),show i/4=k by omega]
   ·rw[if_neg e1];by_cases e0:i=k*4;·rw[if_pos e0,if_pos (by omega),if_pos (by omega),show i/4=k by omega]
    ·rw[if_neg e0];by_cases l:i/4<k;·rw[if_pos l,if_pos (show i/4<k+1 by omega)]
     ·rw[if_neg l,if_neg (show¬i/4<k+1 by omega)]
def RcRow(W:World)(lb m:Nat)(a b c d:Nat->Int):Prop:=lb<W.heap.size∧∀j,j<m->W.cell? ⟨lb,j*4,none⟩=some (Iq (a j))∧W.cell? ⟨lb,j*4+1,none⟩=some (Iq (b j))∧W.cell? ⟨lb,j*4+2,none⟩=some (Iq (c j))∧W.cell? ⟨lb,j*4+3,none⟩=some (Iq (d j))
theorem rc_row{W:World}{lb:Nat}{T:TypeId}{m:Nat}{a b c d:Nat->Int}(h:W.rowIs lb T (m*4) (rcF a b c d m)):RcRow W lb m a b c d:=by
 refine⟨h.lt,fun j hj=>⟨?_,?_,?_,?_⟩⟩;·rw[h.cell (by omega)];unfold rcF;rw[if_pos (by omega),if_pos (by omega),show j*4/4=j by omega]
 ·rw[h.cell (by omega)];unfold rcF;rw[if_pos (by omega),if_neg (by omega),if_pos (by omega),show(j*4+1)/4=j by omega]
 ·rw[h.cell (by omega)];unfold rcF;rw[if_pos (by omega),if_neg (by omega),if_neg (by omega),if_pos (by omega),show(j*4+2)/4=j by omega]
 ·rw[h.cell (by omega)];unfold rcF;rw[if_pos (by omega),if_neg (by omega),if_neg (by omega),if_neg (by omega),show(j*4+3)/4=j by omega]
def RcOut(U W:World)(lb m:Nat)(a b c d:Nat->Int):Prop:=RcRow W lb m a b c d∧U.heap.size≤lb∧Below U.heap.size U W
theorem spl_one(L:List Nd)(ks:List Nat)(N:Nat->Int)(room gap:Int):∃G:Nat->Int,∀g,KidSpl L ks N room gap g->∀j,j<ks.length->g j=G j:=by
 by_cases e:∃g,KidSpl L ks N room gap g;·obtain⟨g,hg⟩:=e;exact⟨g,fun g' hg'=>hg'.uniq hg⟩
 ·exact⟨fun _=>0,fun g hg=>absurd ⟨g,hg⟩ e⟩
theorem offs_congr{g h:Nat->Int}{cg:Int}:∀k,(∀j,j<k->g j=h j)->offs g cg k=offs h cg k:=fun k e=>by unfold offs;exact sumL_congr fun j hj=>by rw[e j (List.mem_range.1 hj)]
def IntsB(W:World)(B:Nat)(p:Option Addr)(m:Nat)(v:Nat->Int):Prop:=m=0∨∃b o,p=some ⟨b,o,none⟩∧b<W.heap.size∧B≤b∧∀j,j<m->W.cell? ⟨b,o+j,none⟩=some (Iq (v j))
theorem IntsB.below{W W':World}{B m:Nat}{p:Option Addr}{v:Nat->Int}(h:IntsB W B p m v)(hb:Below W.heap.size W W'):IntsB W' B p m v:=by
 rcases h with h|⟨b,o,e,h1,h2,h3⟩;·exact .inl h
 ·exact .inr ⟨b,o,e,Nat.lt_of_lt_of_le h1 hb.size,h2,fun j hj=>(hb.cell (p:=⟨b,_,none⟩) h1).trans (h3 j hj)⟩
theorem IntsB.low{W:World}{B B' m:Nat}{p:Option Addr}{v:Nat->Int}(h:IntsB W B p m v)(hB:B'≤B):IntsB W B' p m v:=by
 rcases h with h|⟨b,o,e,h1,h2,h3⟩;·exact .inl h
 ·exact .inr ⟨b,o,e,h1,by omega,h3⟩
theorem sumL_range_congr{f g:Nat->Int}{n:Nat}(h:∀j,j<n->f j=g j):sumL f (List.range n)=sumL g (List.range n):=sumL_congr fun j hj=>h j (List.mem_range.1 hj)
theorem SplitIs.congr{n:Nat}{mn mx wt:Nat->Int}{r:Int}{g g':Nat->Int}(h:SplitIs n mn mx wt r g)(e:∀j,j<n->g j=g' j):SplitIs n mn mx wt r g':=by
 rcases h with⟨h1,hb⟩|⟨h1,A,S,L,V,m,hp⟩;·refine .inl ⟨h1,fun j hj=>by rw[<-e j hj];exact hb.bd j hj,by rw[<-sumL_range_congr e];exact hb.sum,fun i k hik hk hlt=>?_⟩;rw[<-e k hk];exact hb.behind i k hik hk (by rw[e i (by omega)];exact hlt)
 ·exact .inr ⟨h1,A,S,L,V,m,hp.perm,hp.left,hp.pos,hp.weight,hp.full,hp.open_,hp.miss,hp.none_,hp.sorted,fun j hj=>by rw[<-e j hj];exact hp.is j hj⟩
theorem KidSpl.congr{L:List Nd}{ks:List Nat}{N:Nat->Int}{room gap:Int}{g g':Nat->Int}(h:KidSpl L ks N room gap g)(e:∀j,j<ks.length->g j=g' j):KidSpl L ks N room gap g':=SplitIs.congr h e
theorem split_g{u:World}{m lb:Nat}{L:List Nd}{ks:List Nat}{N:Nat->Int}{room gap:Int}{G:Nat->Int}(hmm:ks.length=m)(hm:m≤200)(h:WRow u lb 0 m (fun j=>wMn (nth L (kdn ks j)) (N j)) (fun j=>atN (nth L (kdn ks j)) 2) (fun j=>atN (nth L (kdn ks j)) 3))(hG:∀g,KidSpl L ks N room gap g->∀j,j<ks.length->g j=G j):
 Calls prog 136 #[Iq room,Iq gap,Sq lb m m] u fun e u'=>∃q cq,e=.returned (.slice q m cq)∧IntsB u' u.heap.size q m G∧Below u.heap.size u u'∧(ks=[]∨KidSpl L ks N room gap G):=by
 subst hmm;refine(split_all _ ks.length _ _ _ room gap u ⟨_,_,rfl,.inr ⟨lb,0,rfl,h⟩⟩ (by omega)).mono ?_;rintro e u' ⟨v,rfl,hs⟩;have hb:=hs.below;rcases hs with⟨h0,rfl,hu⟩|⟨q1,q2,lb2,rfl,q3,⟨gg,q4,q5⟩,q6⟩
 ·have hk:ks=[]:=by
   rcases h0 with h0|h0;·exact List.eq_nil_of_length_eq_zero h0
   ·omega
  exact⟨none,0,by rw[hk];rfl,.inl (by rw[hk];rfl),hb,.inl hk⟩
 ·refine⟨_,_,rfl,.inr ⟨lb2,0,rfl,q4.1,q3,fun j hj=>?_⟩,hb,.inr (KidSpl.congr q5 fun j hj=>hG gg q5 j hj)⟩;rw[<-hG gg q5 j hj];exact(q4.2 j hj).1
theorem offs_g{u:World}{m lb:Nat}{L:List Nd}{ks:List Nat}{N:Nat->Int}{room gap:Int}{G:Nat->Int}(hmm:ks.length=m)(hm:m≤200)(h:WRow u lb 0 m (fun j=>wMn (nth L (kdn ks j)) (N j)) (fun j=>atN (nth L (kdn ks j)) 2) (fun j=>atN (nth L (kdn ks j)) 3))(hG:∀g,KidSpl L ks N room gap g->∀j,j<ks.length->g j=G j):
 Calls prog 137 #[Iq room,Iq gap,Sq lb m m] u fun e u'=>∃q cq,e=.returned (.slice q m cq)∧IntsB u' u.heap.size q m (offs G (cl gap))∧Below u.heap.size u u':=by
 subst hmm;refine(offsets_low _ ks.length _ _ _ room gap u ⟨_,_,rfl,.inr ⟨lb,0,rfl,h⟩⟩ (by omega)).mono ?_;rintro e u' ⟨v,rfl,hs,hlow⟩;have hb:=hs.below;rcases hs with⟨h0,rfl,hu⟩|⟨q1,q2,lb2,g,rfl,q4,q5,q6⟩
 ·have hk:ks=[]:=by
   rcases h0 with h0|h0;·exact List.eq_nil_of_length_eq_zero h0
   ·omega
  exact⟨none,0,by rw[hk];rfl,.inl (by rw[hk];rfl),hb⟩
 ·refine⟨_,_,rfl,.inr ⟨lb2,0,rfl,q4.1,hlow _ _ _ _ rfl,fun j hj=>?_⟩,hb⟩;rw[<-offs_congr j (fun i hi=>hG g q5 i (by omega))];exact(q4.2 j hj).1
end
end Go.Proofs.YtmbefonnkkhfgaaGreatDoor
