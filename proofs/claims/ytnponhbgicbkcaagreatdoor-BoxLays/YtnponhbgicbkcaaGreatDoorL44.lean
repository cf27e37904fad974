import Derived.Test.YtnponhbgicbkcaaGreatDoorL39
import Derived.Test.YtnponhbgicbkcaaGreatDoorL19
import Derived.Test.YtnponhbgicbkcaaGreatDoorL09
import Derived.Test.YtnponhbgicbkcaaGreatDoorL34
import Derived.Test.YtnponhbgicbkcaaGreatDoorL43
import Derived.Test.YtnponhbgicbkcaaGreatDoorL14
set_option linter.unusedVariables false
set_option maxRecDepth 100000
set_option maxHeartbeats 16000000
namespace Go.Proofs.YtnponhbgicbkcaaGreatDoor
section
open Go.RowKit Go.Sort Go.Proofs.Tryz
theorem rowNeed_any mb r g cap wb i X  L  KV  Wd  U (hV:View U mb r g cap wb L KV Wd)(hX:U.cell? ⟨X,0,none⟩=some (Pq mb))(hi:i<L.length):
 Calls prog 149 #[Iq (i:Int),Pq X] U fun e U'=>e=.returned (Iq (Wd i))∧U'=U:=by
 have hms:=hV.ms;have m1:U.cell? ⟨mb,1,none⟩=some (Sq wb L.length L.length):=by unfold Ms at hms;rw[Lib.cell_of_heap hms];rfl
 have c1:=hV.wd i hi;have hiI:(i:Int)<(L.length:Int):=by omega
 clear hV hms;go_enter func149,ntmps149;go_wp2;go_ret;exact⟨rfl,rfl⟩
def RwOut(U W:World)(r m:Nat)(L:List Nd)(ks:List Nat)(N:Nat->Int)(H:Nat->Int->Int)(n:Nat)(v:Value):Prop:=∃lb,v=Sq lb m m∧WnOut U W r lb m (fun j=>wMn (nth L (kdn ks j)) (N j)) (fun j=>atN (nth L (kdn ks j)) 2) (fun j=>atN (nth L (kdn ks j)) 3) H n
theorem rowWants_any mb r g cap wb nn  L  ks  KV  Wd  H  kd a0 a1 a2 a3 a4 a5 a6 a7 a8 a9 b0 b1 up  tx  p  c  U 
 (hV:Hid (View U mb r g cap wb L KV Wd)) (hM:Hid (Memo U r H nn)) (hm:ks.length≤1000) (hks:Hid (∀j,j<ks.length->kdn ks j<L.length)) (hL:L.length≤1000000) (hK:Hid (IntsN U r p ks.length (fun j=>(kdn ks j:Int)))) (hN:Hid (∀i,i<L.length->0≤Wd i∧Wd i≤100000)):
 Calls prog 98 #[Pq mb,ndA kd a0 a1 a2 a3 a4 a5 a6 a7 a8 a9 b0 b1 tx (.slice p ks.length c) up] U fun e U'=>∃v,e=.returned v∧RwOut U U' r ks.length L ks (fun j=>Wd (kdn ks j)) H nn v:=by
 have hmf:∀(fn:Fn) (first cap:Array Value) (w:World),(Instr.makeFunc fn first cap).run prog w=.ok (.func fn first cap) w:=fun _ _ _ _=>rfl;obtain⟨m,hmm⟩:=nmd ks.length;obtain⟨W1,hW1⟩:=nmd ((U.alloc (.cells #[Pq mb] 65)).alloc (.cells #[Iq kd,Iq a0,Iq a1,Iq a2,Iq a3,Iq a4,Iq a5,Iq a6,Iq a7,Iq a8,Iq a9,Iq b0,Iq b1,.string tx,.slice p m c,Iq up] 101));obtain⟨A,hA⟩:=nmd U.heap.size;have hB1:Below U.heap.size U W1:=by rw[<-hW1];exact(((Gr.refl U).alloc _).alloc _).below
 have hG1:U.grownBy W1 (some r):=grown_of_below hB1;have hrl:=hM.lt;have hXc:W1.heap[A]?=some (.cells #[Pq mb] 65 (0,0)):=by rw[<-hW1,<-hA,Below.heap_alloc _ _ _ (by rw[World.size_alloc];omega)];exact heap_alloc_new _ _
 have HWN:Hid (Calls prog 148 #[Pq mb,.slice p m c,.func (.func 149) #[] #[Pq A]] W1 fun e U'=>∃v,e=.returned v∧RwOut U U' r m L ks (fun j=>Wd (kdn ks j)) H nn v):=by
  have hV1:=hV.grown hG1;have hz:∀j,cS (fun _=>0) j=0:=fun j=>by induction j with
   |zero=>rfl
   |succ j ih=>show cS (fun _=>0) j+0=0;rw[ih]
  refine(wants_any _ _ _ mb r g cap wb nn m L KV Wd H (kdn ks) (fun j=>Wd (kdn ks j)) (fun _=>0) p c W1 (.inl ⟨rfl,A,rfl,rfl⟩) hV1 (hM.grown_below hB1) (by omega) (by rw[<-hmm];exact hks) hL (by rw[<-hmm];exact hK.grown hG1) (fun j hj=>hN _ (hks j (by omega))) (fun j u hj hu hmu=>?_)).mono ?_
  ·refine(rowNeed_any mb r g cap wb (kdn ks j) A L KV Wd u (hV1.grown hu) ?_ (hks j (by omega))).mono ?_;·have hAl:=(Array.getElem?_eq_some_iff.1 hXc).1;rw[Lib.cell_of_heap ((hu.block A hAl (fun e=>by injection e with e;omega)).trans hXc)];rfl
   ·rintro e u' ⟨rfl,rfl⟩;exact⟨rfl,grown_of_below (Below.refl _ _),hmu.mono (by rw[hz,hz];omega)⟩
  ·rintro e U' ⟨lb,rfl,h1,h2,h3,h4⟩;refine⟨_,rfl,lb,rfl,h1,Nat.le_trans hB1.size h2,hG1.trans h3,h4.mono (by rw[hz];omega)⟩
 have h14:W1.cell? ⟨A+1,14,none⟩=some (.slice p m c):=by rw[<-hW1,World.cell?_alloc_at _ _ _ _ (by rw[World.size_alloc,hA])];rfl
 have h0:W1.cell? ⟨A,0,none⟩=some (Pq mb):=by rw[Lib.cell_of_heap hXc];rfl
 rw[hmm];unfold ndA;clear hB1 hG1 hrl hXc hV hM hks hK hN;go_enter func98,ntmps98;go_wp2_with(go_at_call 148;refine HWN.mono ?_;rintro e U' ⟨v,rfl,ho⟩);go_ret;exact⟨_,rfl,ho⟩
theorem colNeed_any(mb r i X Y n k:Nat) w  H  U (hX:U.cell? ⟨X,0,none⟩=some (Pq mb))(hY:U.cell? ⟨Y,0,none⟩=some (Iq w))
 (HC:Hid (Calls prog 23 #[Pq mb,Iq (i:Int),Iq w] U fun e u'=>e=.returned (Iq (H i w))∧Hid (U.grownBy u' (some r))∧Hid (Memo u' r H k))):
 Calls prog 150 #[Iq (i:Int),Pq X,Pq Y] U fun e u'=>e=.returned (Iq (H i w))∧Hid (U.grownBy u' (some r))∧Hid (Memo u' r H k):=by go_enter func150,ntmps150;go_wp2_with(go_at_call 23;refine HC.mono ?_;rintro e U' ⟨rfl,h1,h2⟩);go_ret;exact⟨rfl,h1,h2⟩
theorem colWants_any mb r g cap wb nn  w  L  ks  kc  KV  Wd  H  kd a0 a1 a2 a3 a4 a5 a6 a7 a8 a9 b0 b1 up  tx  p  c  U 
 (hV:Hid (View U mb r g cap wb L KV Wd)) (hM:Hid (Memo U r H nn)) (hm:ks.length≤1000) (hks:Hid (∀j,j<ks.length->kdn ks j<L.length)) (hL:L.length≤1000000) (hK:Hid (IntsN U r p ks.length (fun j=>(kdn ks j:Int)))) (hN:Hid (∀i w,i<L.length->0≤H i w∧H i w≤100000))
 (HK:Hid (∀j u n',j<ks.length->U.grownBy u (some r)->Memo u r H n'->n'≤nn+cS kc j->Calls prog 23 #[Pq mb,Iq (kdn ks j:Int),Iq w] u fun e u'=>e=.returned (Iq (H (kdn ks j) w))∧Hid (u.grownBy u' (some r))∧Hid (Memo u' r H (nn+cS kc (j+1))))):
 Calls prog 100 #[Pq mb,ndA kd a0 a1 a2 a3 a4 a5 a6 a7 a8 a9 b0 b1 tx (.slice p ks.length c) up,Iq w] U fun e U'=>∃v,e=.returned v∧RwOut U U' r ks.length L ks (fun j=>H (kdn ks j) w) H (nn+cS kc ks.length) v:=by
 have hmf:∀(fn:Fn) (first cap:Array Value) (w:World),(Instr.makeFunc fn first cap).run prog w=.ok (.func fn first cap) w:=fun _ _ _ _=>rfl;obtain⟨m,hmm⟩:=nmd ks.length;obtain⟨W1,hW1⟩:=nmd (((U.alloc (.cells #[Pq mb] 65)).alloc (.cells #[Iq kd,Iq a0,Iq a1,Iq a2,Iq a3,Iq a4,Iq a5,Iq a6,Iq a7,Iq a8,Iq a9,Iq b0,Iq b1,.string tx,.slice p m c,Iq up] 101)).alloc (.cells #[Iq w] 3));obtain⟨A,hA⟩:=nmd U.heap.size;have hB1:Below U.heap.size U W1:=by rw[<-hW1];exact((((Gr.refl U).alloc _).alloc _).alloc _).below
 have hG1:U.grownBy W1 (some r):=grown_of_below hB1;have hrl:=hM.lt;have hXc:W1.heap[A]?=some (.cells #[Pq mb] 65 (0,0)):=by rw[<-hW1,<-hA,Below.heap_alloc _ _ _ (by rw[World.size_alloc,World.size_alloc];omega),Below.heap_alloc _ _ _ (by rw[World.size_alloc];omega)];exact heap_alloc_new _ _
 have hYc:W1.heap[A+1+1]?=some (.cells #[Iq w] 3 (0,0)):=by have:=heap_alloc_new ((U.alloc (.cells #[Pq mb] 65)).alloc (.cells #[Iq kd,Iq a0,Iq a1,Iq a2,Iq a3,Iq a4,Iq a5,Iq a6,Iq a7,Iq a8,Iq a9,Iq b0,Iq b1,.string tx,.slice p m c,Iq up] 101)) (.cells #[Iq w] 3);rw[World.size_alloc,World.size_alloc,hA,hW1]at this;exact this
 have HWN:Hid (Calls prog 148 #[Pq mb,.slice p m c,.func (.func 150) #[] #[Pq A,Pq (A+1+1)]] W1 fun e U'=>∃v,e=.returned v∧RwOut U U' r m L ks (fun j=>H (kdn ks j) w) H (nn+cS kc m) v):=by
  have hV1:=hV.grown hG1;refine(wants_any _ _ _ mb r g cap wb nn m L KV Wd H (kdn ks) (fun j=>H (kdn ks j) w) kc p c W1 (.inr ⟨rfl,A,A+1+1,rfl,rfl⟩) hV1 (hM.grown_below hB1) (by omega) (by rw[<-hmm];exact hks) hL (by rw[<-hmm];exact hK.grown hG1) (fun j hj=>hN _ _ (hks j (by omega))) (fun j u hj hu hmu=>?_)).mono ?_
  ·have hAl:=(Array.getElem?_eq_some_iff.1 hXc).1;have hYl:=(Array.getElem?_eq_some_iff.1 hYc).1;refine colNeed_any mb r (kdn ks j) A (A+1+1) (nn+cS kc j) (nn+cS kc (j+1)) w H u ?_ ?_ (HK j u _ (by omega) (hG1.trans hu) hmu (Nat.le_refl _));·rw[Lib.cell_of_heap ((hu.block A hAl (fun e=>by injection e with e;omega)).trans hXc)];rfl
   ·rw[Lib.cell_of_heap ((hu.block (A+1+1) hYl (fun e=>by injection e with e;omega)).trans hYc)];rfl
  ·rintro e U' ⟨lb,rfl,h1,h2,h3,h4⟩;exact⟨_,rfl,lb,rfl,h1,Nat.le_trans hB1.size h2,hG1.trans h3,h4⟩
 have h14:W1.cell? ⟨A+1,14,none⟩=some (.slice p m c):=by rw[<-hW1,World.cell?_alloc_past _ _ _ (by rw[World.size_alloc,World.size_alloc];show A+1<_;omega),World.cell?_alloc_at _ _ _ _ (by rw[World.size_alloc,hA])];rfl
 have h0:W1.cell? ⟨A,0,none⟩=some (Pq mb):=by rw[Lib.cell_of_heap hXc];rfl
 rw[hmm];unfold ndA;clear hB1 hG1 hrl hXc hYc hV hM hks hK hN HK;go_enter func100,ntmps100;go_wp2_with(go_at_call 148;refine HWN.mono ?_;rintro e U' ⟨v,rfl,ho⟩);go_ret;exact⟨_,rfl,ho⟩
theorem split_wants{U u}{r m n}{L}{ks}{N}{H}{v}{w gap}(hm:ks.length=m)(hm2:m≤200)(h:RwOut U u r m L ks N H n v)(hr:r<U.heap.size):
 Calls prog 140 #[Iq w,Iq gap,v] u fun e u'=>KwOut U u' r m H (fun V=>(ks=[]∨KidSpl L ks N w gap V)∧∀j,j<m->0≤V j∧V j≤100000) n e:=by
 subst hm;obtain⟨lb,rfl,h1,h2,h3,h4⟩:=h;refine(split_all _ ks.length _ _ _ w gap u ⟨_,_,rfl,.inr ⟨lb,0,rfl,h1⟩⟩ (by omega)).mono ?_;rintro e u' ⟨v,rfl,hs⟩;have hb:=hs.below;rcases hs with⟨h0,rfl,hu⟩|⟨q1,q2,lb2,rfl,q3,⟨gg,q4,q5⟩,q6⟩
 ·have hk:ks=[]:=by
   rcases h0 with h0|h0;·exact List.eq_nil_of_length_eq_zero h0
   ·omega
  refine⟨none,0,fun _=>0,⟨.inl hk,fun j hj=>by omega⟩,by rw[hk];rfl,.inl (by rw[hk];rfl),h3.trans (grown_of_below hb),h4.grown_below hb⟩
 ·refine⟨_,_,gg,⟨.inr q5,fun j hj=>?_⟩,rfl,.inr ⟨lb2,0,rfl,q4.1,?_,fun j hj=>(q4.2 j hj).1⟩,h3.trans (grown_of_below hb),h4.grown_below hb⟩;·have t1:=(q5.tiles (held_bds _ _ _)).1 j hj;have t2:=held_bds (fun j=>wMn (nth L (kdn ks j)) (N j)) (fun j=>atN (nth L (kdn ks j)) 2) (fun j=>atN (nth L (kdn ks j)) 3) j;dsimp only at t1 t2;omega
  ·have:=h3.size;omega
def KidV(L:List Nd)(ks:List Nat)(kd a4 a5 a6 w:Int)(Wd:Nat->Int)(V:Nat->Int):Prop:=(kd=0->ks=[]∨KidSpl L ks (fun j=>Wd (kdn ks j)) w a4 V)∧(kd≠0->∀j,j<ks.length->V j=max 0 (w-2*frmI kd a5 a6))∧∀j,j<ks.length->0≤V j∧V j≤100000
theorem fl1_ints{W}{r b m}{x}{Ls}(h:W.heap[b]?=some (.cells Ls.toArray 3 (0,0)))(hf:Fl1 Ls m m [Iq x])(hb:b≠r):IntsN W r (some ⟨b,0,none⟩) m (fun _=>x):=by refine .inr ⟨b,0,rfl,(Array.getElem?_eq_some_iff.1 h).1,hb,fun j hj=>?_⟩;have:=hf.2 j 0 _ hj rfl;rw[Nat.mul_one,Nat.add_zero]at this;rw[Nat.zero_add,Lib.cell_of_heap h];simpa using this
theorem RwOut.g{U W}{r m}{L}{ks}{N}{H}{n}{v}(h:RwOut U W r m L ks N H n v):U.grownBy W (some r):=by obtain⟨_,_,_,_,h,_⟩:=h;exact h
theorem KwOut.g{U W}{r m}{H}{VOk}{n}{e}(h:KwOut U W r m H VOk n e):U.grownBy W (some r):=by obtain⟨_,_,_,_,_,_,h,_⟩:=h;exact h
theorem KwOut.base{U U0 W}{r m}{H}{VOk}{n}{e}(h:KwOut U W r m H VOk n e)(h0:U0.grownBy U (some r)):KwOut U0 W r m H VOk n e:=by obtain⟨q,cq,V,h1,h2,h3,h4,h5⟩:=h;exact⟨q,cq,V,h1,h2,h3,h0.trans h4,h5⟩
theorem kidWidths_any mb r g cap wb nn  w  L  ks  KV  Wd  H  kd a0 a1 a2 a3 a4 a5 a6 a7 a8 a9 b0 b1 up  tx  p  c  U 
 (hV:Hid (View U mb r g cap wb L KV Wd)) (hM:Hid (Memo U r H nn)) (hm:ks.length≤200) (hks:Hid (∀j,j<ks.length->kdn ks j<L.length)) (hL:L.length≤1000000) (hK:Hid (IntsN U r p ks.length (fun j=>(kdn ks j:Int)))) (hN:Hid (∀i,i<L.length->0≤Wd i∧Wd i≤100000))
 (hw:0≤w∧w≤100000) (h5:0≤a5∧a5≤1000000) (h6:0≤a6∧a6≤1000000):
 Calls prog 80 #[Pq mb,ndA kd a0 a1 a2 a3 a4 a5 a6 a7 a8 a9 b0 b1 tx (.slice p ks.length c) up,Iq w] U fun e U'=>KwOut U U' r ks.length H (KidV L ks kd a4 a5 a6 w Wd) nn e:=by
 have hmix:prog.follows .mixedOrders=true:=by kernel_rfl
 obtain⟨m,hmm⟩:=nmd ks.length;obtain⟨W1,hW1⟩:=nmd (U.alloc (.cells #[Iq kd,Iq a0,Iq a1,Iq a2,Iq a3,Iq a4,Iq a5,Iq a6,Iq a7,Iq a8,Iq a9,Iq b0,Iq b1,.string tx,.slice p m c,Iq up] 101));obtain⟨A,hA⟩:=nmd U.heap.size;have HB1:Hid (Below U.heap.size U W1):=by rw[<-hW1];exact((Gr.refl U).alloc _).below
 have HG1:Hid (U.grownBy W1 (some r)):=grown_of_below HB1;have hat:W1.heap[A]?=some (.cells #[Iq kd,Iq a0,Iq a1,Iq a2,Iq a3,Iq a4,Iq a5,Iq a6,Iq a7,Iq a8,Iq a9,Iq b0,Iq b1,.string tx,.slice p m c,Iq up] 101 (0,0)):=by rw[<-hW1,<-hA];exact heap_alloc_new _ _
 have HAT:Hid (∀(t:Nat) x,(#[Iq kd,Iq a0,Iq a1,Iq a2,Iq a3,Iq a4,Iq a5,Iq a6,Iq a7,Iq a8,Iq a9,Iq b0,Iq b1,.string tx,.slice p m c,Iq up]:Array Value)[t]?=some x->W1.cell? ⟨A,t,none⟩=some x):=fun t x ht=>by rw[Lib.cell_of_heap hat];exact ht
 have hrl:=hM.lt;have HS:Hid (∀u,W1.grownBy u (some r)->u.cell? ⟨A,0,none⟩=some (Iq kd)∧u.cell? ⟨A,1,none⟩=some (Iq a0)∧u.cell? ⟨A,2,none⟩=some (Iq a1)∧u.cell? ⟨A,3,none⟩=some (Iq a2)∧u.cell? ⟨A,4,none⟩=some (Iq a3)∧u.cell? ⟨A,5,none⟩=some (Iq a4)∧u.cell? ⟨A,6,none⟩=some (Iq a5)∧u.cell? ⟨A,7,none⟩=some (Iq a6)∧u.cell? ⟨A,8,none⟩=some (Iq a7)∧u.cell? ⟨A,9,none⟩=some (Iq a8)∧u.cell? ⟨A,10,none⟩=some (Iq a9)∧u.cell? ⟨A,11,none⟩=some (Iq b0)∧u.cell? ⟨A,12,none⟩=some (Iq b1)∧u.cell? ⟨A,13,none⟩=some (.string tx)∧u.cell? ⟨A,14,none⟩=some (.slice p m c)∧u.cell? ⟨A,15,none⟩=some (Iq up)):=fun u hu=>by have hAl:=(Array.getElem?_eq_some_iff.1 hat).1;have hb:=hu.block A hAl (fun e=>by injection e with e;omega);refine⟨?_,?_,?_,?_,?_,?_,?_,?_,?_,?_,?_,?_,?_,?_,?_,?_⟩<;>(rw[Lib.cell_of_heap (hb.trans hat)];rfl)
 have z0:W1.cell? ⟨A,0,none⟩=some (Iq kd):=HAT 0 _ rfl;have z1:W1.cell? ⟨A,1,none⟩=some (Iq a0):=HAT 1 _ rfl;have z2:W1.cell? ⟨A,2,none⟩=some (Iq a1):=HAT 2 _ rfl;have z3:W1.cell? ⟨A,3,none⟩=some (Iq a2):=HAT 3 _ rfl;have z4:W1.cell? ⟨A,4,none⟩=some (Iq a3):=HAT 4 _ rfl;have z5:W1.cell? ⟨A,5,none⟩=some (Iq a4):=HAT 5 _ rfl;have z6:W1.cell? ⟨A,6,none⟩=some (Iq a5):=HAT 6 _ rfl;have z7:W1.cell? ⟨A,7,none⟩=some (Iq a6):=HAT 7 _ rfl;have z8:W1.cell? ⟨A,8,none⟩=some (Iq a7):=HAT 8 _ rfl;have z9:W1.cell? ⟨A,9,none⟩=some (Iq a8):=HAT 9 _ rfl;have z10:W1.cell? ⟨A,10,none⟩=some (Iq a9):=HAT 10 _ rfl;have z11:W1.cell? ⟨A,11,none⟩=some (Iq b0):=HAT 11 _ rfl;have z12:W1.cell? ⟨A,12,none⟩=some (Iq b1):=HAT 12 _ rfl;have z13:W1.cell? ⟨A,13,none⟩=some (.string tx):=HAT 13 _ rfl;have z14:W1.cell? ⟨A,14,none⟩=some (.slice p m c):=HAT 14 _ rfl;have z15:W1.cell? ⟨A,15,none⟩=some (Iq up):=HAT 15 _ rfl;by_cases h0:kd=0
 ·subst h0;have RW:Hid (∀u,(u=W1∨u=W1.drew)->Calls prog 98 #[Pq mb,ndA 0 a0 a1 a2 a3 a4 a5 a6 a7 a8 a9 b0 b1 tx (.slice p m c) up] u fun e u'=>∃v,e=.returned v∧Hid (RwOut W1 u' r m L ks (fun j=>Wd (kdn ks j)) H nn v)):=fun u hu=>by
   have hg1:W1.grownBy u (some r):=by
    rcases hu with rfl|rfl;·exact grown_of_below (Below.refl _ _)
    ·exact grownDrew (grown_of_below (Below.refl _ _))
   have hm1:Memo u r H nn:=by
    rcases hu with rfl|rfl;·exact hM.grown_below HB1
    ·exact(hM.grown_below HB1).drew
   have hgu:=HG1.trans hg1;have:=rowWants_any mb r g cap wb nn L ks KV Wd H 0 a0 a1 a2 a3 a4 a5 a6 a7 a8 a9 b0 b1 up tx p c u (hV.grown hgu) hm1 (by omega) hks hL (hK.grown hgu) hN;rw[hmm]at this;refine this.mono ?_;rintro e u' ⟨v,rfl,lb,rfl,q1,q2,q3,q4⟩;exact⟨_,rfl,lb,rfl,q1,Nat.le_trans hg1.size q2,hg1.trans q3,q4⟩
  have SP:Hid (∀v u,RwOut W1 u r m L ks (fun j=>Wd (kdn ks j)) H nn v->Calls prog 140 #[Iq w,Iq a4,v] u fun e u'=>∃q cq,e=.returned (.slice q m cq)∧Hid (KwOut W1 u' r m H (KidV L ks 0 a4 a5 a6 w Wd) nn (.returned (.slice q m cq)))):=fun v u h=>by refine(split_wants hmm (by omega) h (Nat.lt_of_lt_of_le hrl HB1.size)).mono ?_;rintro e u' ⟨q,cq,V,⟨v1,v2⟩,rfl,q1,q2,q3⟩;exact⟨q,cq,rfl,q,cq,V,⟨fun _=>v1,fun e=>absurd rfl e,by rw[hmm];exact v2⟩,rfl,q1,q2,q3⟩
  rw[hmm];unfold ndA at RW⊢;clear hat HAT hV hM hks hK hN h5 h6 HB1 hrl hmm;go_enter func80,ntmps80;go_wp2_with fail;clear hW1 hA;go_region_held(fun W=>W.cell? ⟨A,0,none⟩=some (Iq 0)∧W.cell? ⟨A,1,none⟩=some (Iq a0)∧W.cell? ⟨A,2,none⟩=some (Iq a1)∧W.cell? ⟨A,3,none⟩=some (Iq a2)∧W.cell? ⟨A,4,none⟩=some (Iq a3)∧W.cell? ⟨A,5,none⟩=some (Iq a4)∧W.cell? ⟨A,6,none⟩=some (Iq a5)∧W.cell? ⟨A,7,none⟩=some (Iq a6)∧W.cell? ⟨A,8,none⟩=some (Iq a7)∧W.cell? ⟨A,9,none⟩=some (Iq a8)∧W.cell? ⟨A,10,none⟩=some (Iq a9)∧W.cell? ⟨A,11,none⟩=some (Iq b0)∧W.cell? ⟨A,12,none⟩=some (Iq b1)∧W.cell? ⟨A,13,none⟩=some (.string tx)∧W.cell? ⟨A,14,none⟩=some (.slice p m c)∧W.cell? ⟨A,15,none⟩=some (Iq up)) (go_keep) (first|(go_at_call 98;refine Calls.mono (RW _ (by first|exact .inl rfl|exact .inr rfl)) ?_;rintro e u1 ⟨v1,rfl,HO⟩;obtain⟨s0,s1,s2,s3,s4,s5,s6,s7,s8,s9,s10,s11,s12,s13,s14,s15⟩:=HS u1 HO.g)|(go_at_call 140;refine Calls.mono (SP _ _ HO) ?_;rintro e u2 ⟨q,cq,rfl,HZ⟩;obtain⟨t0,t1,t2,t3,t4,t5,t6,t7,t8,t9,t10,t11,t12,t13,t14,t15⟩:=HS u2 HZ.g));all_goals go_wp2;go_ret;exact HZ.base HG1
 ·have e0:(kd==0)=false:=by simpa using h0
  have hfb:=frm_bd (kd:=kd) h5 h6;obtain⟨f,hf⟩:=nmd (frmI kd a5 a6);have FA:Hid (∀u,(u=W1∨u=W1.drew)->Calls prog 78 #[ndA kd a0 a1 a2 a3 a4 a5 a6 a7 a8 a9 b0 b1 tx (.slice p m c) up] u fun e u'=>e=.returned (Iq f)∧Hid (Below W1.heap.size W1 u')):=fun u hu=>by
   have hbu:Below W1.heap.size W1 u:=by
    rcases hu with rfl|rfl;·exact Below.refl _ _
    ·exact(Below.refl _ _).drew
   rw[<-hf];refine(frame_any kd a0 a1 a2 a3 a4 a5 a6 a7 a8 a9 b0 b1 up tx p m c h5 h6 u).mono ?_;rintro e u' ⟨rfl,q⟩;exact⟨rfl,hbu.trans (q.mono hbu.size)⟩
  obtain⟨x,hx⟩:=nmd (max 0 (w-2*f));have hxb:0≤x∧x≤100000:=by rw[hf]at hfb;omega
  have RP:Hid (∀u,Below W1.heap.size W1 u->Calls prog 141 #[Sq u.heap.size 1 1,Iq (m:Int)] (u.alloc (.cells #[Iq x] 3)) fun e u'=>∃q cq,e=.returned (.slice q m cq)∧Hid (KwOut W1 u' r m H (KidV L ks kd a4 a5 a6 w Wd) nn (.returned (.slice q m cq)))):=fun u hu=>by
   have hb2:Below W1.heap.size W1 (u.alloc (.cells #[Iq x] 3)):=hu.alloc hu.size _;have fin:∀u' q cq,Below W1.heap.size W1 u'->IntsN u' r q m (fun _=>x)->KwOut W1 u' r m H (KidV L ks kd a4 a5 a6 w Wd) nn (.returned (.slice q m cq)):=fun u' q cq hb hi=>
    ⟨q,cq,fun _=>x,⟨fun e=>absurd e h0,fun _ j hj=>by rw[hf];exact hx.symm,fun j hj=>hxb⟩,rfl,hi,grown_of_below hb,(hM.grown_below HB1).grown_below hb⟩;by_cases hz:m=0;·rw[hz];refine(rep1_zero (u.alloc (.cells #[Iq x] 3)) u.heap.size).mono ?_;rintro e u' ⟨q,cq,rfl,hb⟩;have:=fin u' q cq (hb2.trans (hb.mono hb2.size)) (.inl hz);rw[hz]at this;exact⟨q,cq,rfl,this⟩
   ·refine(rep1_any (u.alloc (.cells #[Iq x] 3)) x u.heap.size m (by omega) (by simp) (fun k v hk=>?_)).mono ?_;·rw[World.cell?_alloc_at _ _ _ _ rfl];match k with
     |0=>exact hk
     |k+1=>cases hk
    ·rintro e u' ⟨rfl,⟨Ls,hl,hfl⟩,hb⟩;have hbb:=hb2.trans (hb.mono hb2.size);refine⟨_,_,rfl,fin u' _ _ hbb (fl1_ints hl hfl ?_)⟩;have:=hb2.size;have:=HB1.size;omega
  rw[hf]at hfb;rw[hmm];unfold ndA at FA⊢;have HAl:=qH<|(Array.getElem?_eq_some_iff.1 hat).1;clear hat HAT hV hM hks hK hN h5 h6 HB1 hrl hmm hf;go_enter func80,ntmps80;go_wp2_with fail;clear hW1 hA;have hwr1:IntKind.i64.wrap (2*f)=2*f:=IntWalk.i64_in _ (by omega);have hwr2:IntKind.i64.wrap (w-2*f)=w-2*f:=IntWalk.i64_in _ (by omega);have hmx:(if(0:Int)<w-2*f then w-2*f else 0)=x:=by rw[<-hx];split<;>omega
  go_region_held(fun W=>W.cell? ⟨A,0,none⟩=some (Iq kd)∧W.cell? ⟨A,1,none⟩=some (Iq a0)∧W.cell? ⟨A,2,none⟩=some (Iq a1)∧W.cell? ⟨A,3,none⟩=some (Iq a2)∧W.cell? ⟨A,4,none⟩=some (Iq a3)∧W.cell? ⟨A,5,none⟩=some (Iq a4)∧W.cell? ⟨A,6,none⟩=some (Iq a5)∧W.cell? ⟨A,7,none⟩=some (Iq a6)∧W.cell? ⟨A,8,none⟩=some (Iq a7)∧W.cell? ⟨A,9,none⟩=some (Iq a8)∧W.cell? ⟨A,10,none⟩=some (Iq a9)∧W.cell? ⟨A,11,none⟩=some (Iq b0)∧W.cell? ⟨A,12,none⟩=some (Iq b1)∧W.cell? ⟨A,13,none⟩=some (.string tx)∧W.cell? ⟨A,14,none⟩=some (.slice p m c)∧W.cell? ⟨A,15,none⟩=some (Iq up)) (go_keep) (first|(go_at_call 78;refine Calls.mono (FA _ (by first|exact .inl rfl|exact .inr rfl)) ?_;rintro e u1 ⟨rfl,HO⟩;obtain⟨s0,s1,s2,s3,s4,s5,s6,s7,s8,s9,s10,s11,s12,s13,s14,s15⟩:=HS u1 (grown_of_below HO);have hne:¬A=u1.heap.size:=(by have:=HO.size;have:=HAl.out;omega))|(go_at_call 141;refine Calls.mono (RP _ HO) ?_;rintro e u2 ⟨q,cq,rfl,HZ⟩;obtain⟨t0,t1,t2,t3,t4,t5,t6,t7,t8,t9,t10,t11,t12,t13,t14,t15⟩:=HS u2 HZ.g));all_goals go_wp2;go_ret;exact HZ.base HG1
theorem textHeight_any w kd a0 a1 a2 a3 a4 a5 a6 a7 a8 a9 b0 b1 up  tx  p  m c  U (ht:TabAt U)(hs:tx.size≤4000)(hw:0≤w∧w≤100000):
 Calls prog 79 #[ndA kd a0 a1 a2 a3 a4 a5 a6 a7 a8 a9 b0 b1 tx (.slice p m c) up,Iq w] U fun e U'=>e=.returned (Iq (txtH a8 tx.data.toList w))∧Hid (Below U.heap.size U U'):=by
 obtain⟨W1,hW1⟩:=nmd (U.alloc (.cells #[Iq kd,Iq a0,Iq a1,Iq a2,Iq a3,Iq a4,Iq a5,Iq a6,Iq a7,Iq a8,Iq a9,Iq b0,Iq b1,.string tx,.slice p m c,Iq up] 101));obtain⟨A,hA⟩:=nmd U.heap.size;have HB1:Hid (Below U.heap.size U W1):=by rw[<-hW1];exact((Gr.refl U).alloc _).below
 have hat:W1.heap[A]?=some (.cells #[Iq kd,Iq a0,Iq a1,Iq a2,Iq a3,Iq a4,Iq a5,Iq a6,Iq a7,Iq a8,Iq a9,Iq b0,Iq b1,.string tx,.slice p m c,Iq up] 101 (0,0)):=by rw[<-hW1,<-hA];exact heap_alloc_new _ _
 have z9:W1.cell? ⟨A,9,none⟩=some (Iq a8):=by rw[Lib.cell_of_heap hat];rfl
 have z13:W1.cell? ⟨A,13,none⟩=some (.string tx):=by rw[Lib.cell_of_heap hat];rfl
 have hle:tx.data.toList.count 10≤4000:=by
  have h1:=List.count_le_length (a:=(10:UInt8)) (l:=tx.data.toList);have h2:tx.data.toList.length=tx.size:=by rw[Array.length_toList];rfl
  omega
 have CT:Hid (∀u,Below U.heap.size U u->Calls prog 138 #[.string tx,Iq w] u fun e u'=>e=.returned (Iq ((linesOf (clus (runes tx.data.toList)) w).length:Int))∧Hid (Below U.heap.size U u')):=fun u hu=>by refine(count_any tx w u (ht.below hu) (by omega) (by omega) (by omega)).mono ?_;rintro e u' ⟨rfl,q⟩;exact⟨rfl,hu.trans (q.mono hu.size)⟩
 have C1:=qH<|fun u=>count_one tx 10 u;obtain⟨k,hk⟩:=nmd (tx.data.toList.count 10);rw[hk]at C1 hle;unfold ndA;by_cases h1:w<1
 ·have HR:Hid (txtH a8 tx.data.toList w=0):=by show _=_;unfold txtH;rw[if_pos h1]
  go_enter func79,ntmps79;go_wp2;go_ret;exact⟨by rw[HR.out];rfl,HB1⟩
 ·by_cases h8:a8=1
  ·subst h8;have HR:Hid (txtH 1 tx.data.toList w=((linesOf (clus (runes tx.data.toList)) w).length:Int)):=by show _=_;unfold txtH;rw[if_neg h1,if_pos rfl]
   obtain⟨y,hy⟩:=nmd ((linesOf (clus (runes tx.data.toList)) w).length);rw[hy]at HR CT;go_enter func79,ntmps79;go_wp2_with(go_at_call 138;refine Calls.mono (CT _ HB1) ?_;rintro e u ⟨rfl,HBu⟩);go_ret;exact⟨by rw[HR.out];rfl,HBu⟩
  ·have e8:(a8==1)=false:=by simpa using h8
   have HR:Hid (txtH a8 tx.data.toList w=(k:Int)+1):=by show _=_;unfold txtH;rw[if_neg h1,if_neg h8,hk]
   go_enter func79,ntmps79;go_wp2_with(go_at_call 139;refine Calls.mono (C1 _) ?_;rintro e u ⟨rfl,hu⟩;obtain rfl:=hu.symm);go_ret;exact⟨by rw[HR.out];rfl,HB1⟩
theorem TabAt.kept{W W'}{r n}{H}(h:TabAt W)(hm:Memo W r H n)(hg:W.grownBy W' (some r)):TabAt W':=by
 obtain⟨es,clock,hmp⟩:=hm.map;have key:∀(o:Nat) v,W.cell? ⟨12,o,none⟩=some v->W'.cell? ⟨12,o,none⟩=some v:=fun o v hc=>by
  have hne:12≠r:=fun e=>by subst e;simp[World.cell?,hmp]at hc
  have hlt:12<W.heap.size:=by
   by_cases q:12<W.heap.size;·exact q
   ·simp[World.cell?,Array.getElem?_eq_none (Nat.le_of_not_lt q)]at hc
  exact(World.cell?_of_block (hg.block _ hlt (fun e=>hne (by injection e)))).trans hc
 intro i hi;obtain⟨h1,h2,h3⟩:=h i hi;exact⟨key _ _ h1,key _ _ h2,key _ _ h3⟩
theorem workText_any mb  w a0 a1 a2 a3 a4 a5 a6 a7 a8 a9 b0 b1 up  tx  p  m c  U (ht:TabAt U)(hs:tx.size≤4000)(hw:0≤w∧w≤100000):
 Calls prog 46 #[Pq mb,ndA 5 a0 a1 a2 a3 a4 a5 a6 a7 a8 a9 b0 b1 tx (.slice p m c) up,Iq w] U fun e U'=>e=.returned (Iq (txtH a8 tx.data.toList w))∧Hid (Below U.heap.size U U'):=by
 have HT:Hid (∀u,Below U.heap.size U u->Calls prog 79 #[ndA 5 a0 a1 a2 a3 a4 a5 a6 a7 a8 a9 b0 b1 tx (.slice p m c) up,Iq w] u fun e u'=>e=.returned (Iq (txtH a8 tx.data.toList w))∧Hid (Below U.heap.size U u')):=fun u hu=>by refine(textHeight_any w 5 a0 a1 a2 a3 a4 a5 a6 a7 a8 a9 b0 b1 up tx p m c u (ht.below hu) hs hw).mono ?_;rintro e u' ⟨rfl,q⟩;exact⟨rfl,hu.trans (q.mono hu.size)⟩
 have HB1:Hid (∀o,Below U.heap.size U (U.alloc o)):=fun o=>((Gr.refl U).alloc _).below;obtain⟨y,hy⟩:=nmd (txtH a8 tx.data.toList w);rw[hy]at HT⊢;clear hy ht;unfold ndA at HT⊢;go_enter func46,ntmps46;go_wp2_with(go_at_call 79;refine Calls.mono (HT _ (HB1 _)) ?_;rintro e u ⟨rfl,HBu⟩);go_ret;exact⟨rfl,HBu⟩
def kidsOf(L:List Nd)(i:Nat):List Nat:=(nth L i).kids
structure Hs(U:World)(mb r g cap wb:Nat)(L:List Nd)(KV:Nat->Value)(Wd:Nat->Int)(H:Nat->Int->Int)(n:Nat):Prop where
 view:View U mb r g cap wb L KV Wd
 memo:Memo U r H n
 tab:TabAt U
theorem Hs.grown{U U'}{mb r g cap wb}{L}{KV}{Wd}{H}{n n'}(h:Hs U mb r g cap wb L KV Wd H n)(hg:U.grownBy U' (some r))(hm:Memo U' r H n'):Hs U' mb r g cap wb L KV Wd H n':=
 ⟨h.view.grown hg,hm,h.tab.kept h.memo hg⟩
theorem Hs.below{U U'}{mb r g cap wb}{L}{KV}{Wd}{H}{n}(h:Hs U mb r g cap wb L KV Wd H n)(hb:Below U.heap.size U U'):Hs U' mb r g cap wb L KV Wd H n:=
 h.grown (grown_of_below hb) (h.memo.grown_below hb)
theorem height_all{s}{L}{KV}{Wd}{H} mb r g cap wb (hT:Tree s L)(hS:Sz L Wd H):∀ f i   w   n   U ,i<L.length->L.length-i≤f->0≤w->w≤100000->Hs U mb r g cap wb L KV Wd H n->n+(vis (kidsOf L) f i).length<1000000000000->
    Calls prog 23 #[Pq mb,Iq (i:Int),Iq w] U fun e U'=>e=.returned (Iq (H i w))∧Hid (U.grownBy U' (some r))∧Hid (Memo U' r H (n+(vis (kidsOf L) f i).length)):=by
  intro f;induction f with
  |zero=>intro i w n U hi h1;omega
  |succ f ih=>
    intro i w n U hi hf hw0 hw1 hU hn;have hc:=hT.vl.cnt;have hcnt:=vis_cnt (kidsOf L) f i;have hNv:=hT.vl.nv i hi;have hbd:=hNv.bd;have hkl:(kidsOf L i).length≤100:=hT.kids_le hi;obtain⟨k,hk⟩:=nmd (cS (fun j=>(vis (kidsOf L) f (kdn (kidsOf L i) j)).length) (kidsOf L i).length);rw[hk]at hcnt;rw[hcnt]at hn⊢;obtain⟨p,c,hkv,hki⟩:=hU.view.kid i hi;have hcells:=pn_list (hU.view.len i hi) (KV i);have hnd:=hU.view.nd i hi;rw[hcells]at hnd;have hWB:W64 (i:Int):=by unfold W64;omega
    have hWw:W64 w:=by unfold W64;omega
    rw[show n+(k+1)=n+k+1 by omega];refine height_of mb r g i n k L.length cap w H _ ((nth L i).kind:Int) (atN (nth L i) 0) (atN (nth L i) 1) (atN (nth L i) 2) (atN (nth L i) 3) (atN (nth L i) 4) (atN (nth L i) 5) (atN (nth L i) 6) (atN (nth L i) 7) (atN (nth L i) 8) (atN (nth L i) 9) (atN (nth L i) 10) (atN (nth L i) 11) (nth L i).up ⟨(nth L i).text.toArray⟩ (KV i) U hU.view.ms hU.memo hi (by omega) hWB hWw (by omega) hU.view.gl hU.view.gr (fun t x ht=>hnd t x (by simpa using ht)) (fun W hb hmW=>?_);rw[hkv];have hWs:=hU.grown (grown_of_below hb) hmW;by_cases h5:(nth L i).kind=5
    · have hts:(⟨(nth L i).text.toArray⟩:ByteArray).size≤4000:=by have h1:=hT.vl.tl i hi;have h2:=hT.sz;show(nth L i).text.toArray.size≤4000;rw[List.size_toArray];omega
      have:=workText_any mb w (atN (nth L i) 0) (atN (nth L i) 1) (atN (nth L i) 2) (atN (nth L i) 3) (atN (nth L i) 4) (atN (nth L i) 5) (atN (nth L i) 6) (atN (nth L i) 7) (atN (nth L i) 8) (atN (nth L i) 9) (atN (nth L i) 10) (atN (nth L i) 11) (nth L i).up ⟨(nth L i).text.toArray⟩ p (nth L i).kids.length c W hWs.tab hts ⟨hw0,hw1⟩;rw[h5];refine this.mono ?_;rintro e U' ⟨rfl,q⟩;exact⟨_,rfl,(hS.ht i w hi h5).symm,grown_of_below q,(hmW.grown_below q).mono (by omega)⟩
    · have hkd5:((nth L i).kind:Int)≠5:=by omega
      have:=work_of mb r n (nth L i).kids.length w H (KidV L (nth L i).kids (nth L i).kind (atN (nth L i) 4) (atN (nth L i) 5) (atN (nth L i) 6) w Wd) (kdn (nth L i).kids) (fun j=>(vis (kidsOf L) f (kdn (kidsOf L i) j)).length)
        ((nth L i).kind:Int) (atN (nth L i) 0) (atN (nth L i) 1) (atN (nth L i) 2) (atN (nth L i) 3) (atN (nth L i) 4) (atN (nth L i) 5) (atN (nth L i) 6) (atN (nth L i) 7) (atN (nth L i) 8) (atN (nth L i) 9) (atN (nth L i) 10) (atN (nth L i) 11) (nth L i).up ⟨(nth L i).text.toArray⟩ p c W
        hkd5 (by show(kidsOf L i).length≤1000;omega) (by omega) (by omega) (by omega) (fun j v hj=>hS.hb _ v (kid_lt hT hi hj).2) (fun j hj=>by have:=(kid_lt hT hi hj).2;omega) hmW.lt hmW (hki.grown (grown_of_below hb))
        (fun u hu hmu=>kidWidths_any mb r g cap wb n w L (nth L i).kids KV Wd H _ _ _ _ _ _ _ _ _ _ _ _ _ _ _ p c u (hWs.view.grown (grown_of_below hu)) hmu (by show(kidsOf L i).length≤200;omega) (fun j hj=>(kid_lt hT hi hj).2) (by omega) ((hki.grown (grown_of_below hb)).grown (grown_of_below hu)) (fun j hj=>hS.wb j hj) ⟨hw0,hw1⟩ (by omega) (by omega))
        (fun V hV j u nn hj hu hmu hnn=>by
          have hkj:=kid_lt hT hi hj;have hVj:=hV.2.2 j hj;have hb2:cS (fun j=>(vis (kidsOf L) f (kdn (kidsOf L i) j)).length) (j+1)≤k:=by
            rw[<-hk];have mono:∀a b,a≤b->cS (fun j=>(vis (kidsOf L) f (kdn (kidsOf L i) j)).length) a≤cS (fun j=>(vis (kidsOf L) f (kdn (kidsOf L i) j)).length) b:=by
              intro a b hab;induction b with
              | zero => obtain rfl:a=0:=by omega
                        exact Nat.le_refl _
              |succ b ihb=>
                by_cases e:a=b+1;·subst e;exact Nat.le_refl _
                ·have:=ihb (by omega);show _≤cS _ b+_;omega
            exact mono _ _ hj
          have hst:cS (fun j=>(vis (kidsOf L) f (kdn (kidsOf L i) j)).length) (j+1)=cS (fun j=>(vis (kidsOf L) f (kdn (kidsOf L i) j)).length) j+(vis (kidsOf L) f (kdn (kidsOf L i) j)).length:=rfl;have hr:=ih (kdn (nth L i).kids j) (V j) nn u hkj.2 (by omega) hVj.1 hVj.2 (hWs.grown hu hmu) (by show nn+(vis (kidsOf L) f (kdn (kidsOf L i) j)).length<_;omega);refine hr.mono ?_;rintro e u' ⟨rfl,q1,q2⟩;refine⟨rfl,q1,q2.mono ?_⟩;show nn+(vis (kidsOf L) f (kdn (kidsOf L i) j)).length≤_;omega);refine this.mono ?_;rintro e U' ⟨V,hV,rfl,q1,q2⟩;refine⟨_,rfl,?_,q1,q2.mono (by rw[<-hk];exact Nat.le_refl _)⟩;by_cases h0:(nth L i).kind=0;·rw[hS.hr i w V hi h0 (hV.1 (by omega))];rfl
      ·rw[hS.ho i w hi h5 h0];unfold nodeH;rw[rawH_congr fun j hj=>?_];rw[hV.2.1 (by omega) j hj];rfl
theorem height_any{s}{L}{KV}{Wd}{H} mb r g cap wb (hT:Tree s L)(hS:Sz L Wd H) i  w  n  U (hi:i<L.length)(hw0:0≤w)(hw1:w≤100000)(hU:Hs U mb r g cap wb L KV Wd H n)(hn:n≤100000000):
 Calls prog 23 #[Pq mb,Iq (i:Int),Iq w] U fun e U'=>e=.returned (Iq (H i w))∧Hid (U.grownBy U' (some r))∧Hid (Memo U' r H (n+100)):=by have h1:=vis_len (kids:=kidsOf L) hT.nest L.length i hi;have h2:=hT.vl.cnt;refine(height_all mb r g cap wb hT hS L.length i w n U hi (by omega) hw0 hw1 hU (by omega)).mono ?_;rintro e U' ⟨rfl,q1,q2⟩;exact⟨rfl,q1,q2.mono (by omega)⟩
theorem widthText_any mb  a0 a1 a2 a3 a4 a5 a6 a7 a8 a9 b0 b1 up  tx  p  m c  U (ht:TabAt U)(hs:tx.size≤4000):
 Calls prog 45 #[Pq mb,ndA 5 a0 a1 a2 a3 a4 a5 a6 a7 a8 a9 b0 b1 tx (.slice p m c) up] U fun e U'=>e=.returned (Iq (txtW tx.data.toList))∧Hid (Below U.heap.size U U'):=by
 have HT:Hid (∀u,Below U.heap.size U u->Calls prog 76 #[.string tx] u fun e u'=>e=.returned (Iq (txtW tx.data.toList))∧Hid (Below U.heap.size U u')):=fun u hu=>by refine(widest_any tx u (ht.below hu) hs).mono ?_;rintro e u' ⟨rfl,q⟩;exact⟨rfl,hu.trans (q.mono hu.size)⟩
 have HB1:Hid (∀o,Below U.heap.size U (U.alloc o)):=fun o=>((Gr.refl U).alloc _).below;obtain⟨y,hy⟩:=nmd (txtW tx.data.toList);rw[hy]at HT⊢;clear hy ht;unfold ndA;go_enter func45,ntmps45;go_wp2_with(go_at_call 76;refine Calls.mono (HT _ (HB1 _)) ?_;rintro e u ⟨rfl,HBu⟩);go_ret;exact⟨rfl,HBu⟩
theorem workWidth_of mb r wb N m (Wd:Nat->Int)(ks:Nat->Nat) kd a0 a1 a2 a3 a4 a5 a6 a7 a8 a9 b0 b1 up  tx  nv  p  c  U 
 (hk5:kd≠5) (hm:m≤1000) (hN:N≤1000000) (h4:0≤a4∧a4≤1000000) (h5:0≤a5∧a5≤1000000) (h6:0≤a6∧a6≤1000000) (hh:Hid (∀j,j<m->0≤Wd (ks j)∧Wd (ks j)≤100000)) (hkk:Hid (∀j,j<m->ks j<N))
 (hMs:Ms U mb nv (Sq wb N N) r) (hwl:wb<U.heap.size) (hK:Hid (IntsN U r p m (fun j=>(ks j:Int)))) (hW:Hid (∀j,j<m->U.cell? ⟨wb,ks j,none⟩=some (Iq (Wd (ks j))))):
 Calls prog 45 #[Pq mb,ndA kd a0 a1 a2 a3 a4 a5 a6 a7 a8 a9 b0 b1 tx (.slice p m c) up] U fun e U'=>e=.returned (Iq (rawW kd a4 a5 a6 (fun j=>Wd (ks j)) m))∧Hid (Below U.heap.size U U'):=by
 have e5:(kd==5)=false:=by simpa using hk5
 obtain⟨h,hh'⟩:∃h:Nat->Int,(fun j=>Wd (ks j))=h:=⟨_,rfl⟩;have HHE:Hid (∀j,Wd (ks j)=h j):=fun j=>by rw[<-hh']
 have hh2:Hid (∀j,j<m->0≤h j∧h j≤100000):=fun j hj=>by rw[<-HHE j];exact hh j hj
 rw[hh'];obtain⟨U1,hU1⟩:=nmd (U.alloc (.cells #[Iq kd,Iq a0,Iq a1,Iq a2,Iq a3,Iq a4,Iq a5,Iq a6,Iq a7,Iq a8,Iq a9,Iq b0,Iq b1,.string tx,.slice p m c,Iq up] 101));obtain⟨A,hA⟩:=nmd U.heap.size;have HB1:Hid (Below U.heap.size U U1):=by rw[<-hU1];exact((Gr.refl U).alloc _).below
 have hat:U1.heap[A]?=some (.cells #[Iq kd,Iq a0,Iq a1,Iq a2,Iq a3,Iq a4,Iq a5,Iq a6,Iq a7,Iq a8,Iq a9,Iq b0,Iq b1,.string tx,.slice p m c,Iq up] 101 (0,0)):=by rw[<-hU1,<-hA];exact heap_alloc_new _ _
 have HAT:Hid (∀(t:Nat) x,(#[Iq kd,Iq a0,Iq a1,Iq a2,Iq a3,Iq a4,Iq a5,Iq a6,Iq a7,Iq a8,Iq a9,Iq b0,Iq b1,.string tx,.slice p m c,Iq up]:Array Value)[t]?=some x->U1.cell? ⟨A,t,none⟩=some x):=fun t x ht=>by rw[Lib.cell_of_heap hat];exact ht
 have z0:U1.cell? ⟨A,0,none⟩=some (Iq kd):=HAT 0 _ rfl;have z1:U1.cell? ⟨A,1,none⟩=some (Iq a0):=HAT 1 _ rfl;have z2:U1.cell? ⟨A,2,none⟩=some (Iq a1):=HAT 2 _ rfl;have z3:U1.cell? ⟨A,3,none⟩=some (Iq a2):=HAT 3 _ rfl;have z4:U1.cell? ⟨A,4,none⟩=some (Iq a3):=HAT 4 _ rfl;have z5:U1.cell? ⟨A,5,none⟩=some (Iq a4):=HAT 5 _ rfl;have z6:U1.cell? ⟨A,6,none⟩=some (Iq a5):=HAT 6 _ rfl;have z7:U1.cell? ⟨A,7,none⟩=some (Iq a6):=HAT 7 _ rfl;have z8:U1.cell? ⟨A,8,none⟩=some (Iq a7):=HAT 8 _ rfl;have z9:U1.cell? ⟨A,9,none⟩=some (Iq a8):=HAT 9 _ rfl;have z10:U1.cell? ⟨A,10,none⟩=some (Iq a9):=HAT 10 _ rfl;have z11:U1.cell? ⟨A,11,none⟩=some (Iq b0):=HAT 11 _ rfl;have z12:U1.cell? ⟨A,12,none⟩=some (Iq b1):=HAT 12 _ rfl;have z13:U1.cell? ⟨A,13,none⟩=some (.string tx):=HAT 13 _ rfl;have z14:U1.cell? ⟨A,14,none⟩=some (.slice p m c):=HAT 14 _ rfl;have z15:U1.cell? ⟨A,15,none⟩=some (Iq up):=HAT 15 _ rfl;have m1:U1.cell? ⟨mb,1,none⟩=some (Sq wb N N):=by have hml:=(Array.getElem?_eq_some_iff.1 hMs).1;have hb:=(HB1.block mb hml).trans hMs;rw[Lib.cell_of_heap hb];rfl
 have HK2:=qH<|hK.grown (grown_of_below HB1);have HW1:Hid (∀j,j<m->U1.cell? ⟨wb,ks j,none⟩=some (Iq (h j))):=fun j hj=>by rw[<-HHE j];exact(HB1.cell (p:=⟨wb,_,none⟩) hwl).trans (hW j hj)
 clear hat hh' hMs hK hW hh HHE;unfold ndA;go_enter func45,ntmps45;go_wp2_with fail;generalize hnv:Value.agg #[Iq kd,Iq a0,Iq a1,Iq a2,Iq a3,Iq a4,Iq a5,Iq a6,Iq a7,Iq a8,Iq a9,Iq b0,Iq b1,.string tx,.slice p m c,Iq up]=ndv;go_loopw[5,6,18] (fun sv gv kv wr=>∃k:Nat,k≤m∧kv=Iq (k:Int)∧sv=Iq (hS h k)∧gv=Iq (hG h k)∧wr=U1) (fun _ _ kv _=>m-(intOf kv).toNat);case atStart=>exact⟨0,Nat.zero_le _,rfl,rfl,rfl,rfl⟩
 case round=>
  obtain⟨k,hk,rfl,rfl,rfl,hwr⟩:=hrel;subst hwr;by_cases hlt:k<m
  ·have hlt':(k:Int)<(m:Int):=by omega
   have hbs:=hS_bd hh2 k hk;have hbg:=hG_bd hh2 k hk;have hbh:=hh2 k hlt;have hkb:=hkk k hlt;have hkI:(ks k:Int)<(N:Int):=by omega
   obtain⟨kb,ko,rfl,_,_,hck⟩:=HK2.resolve_left (by omega);have ck:=hck k hlt;have cv:=HW1 k hlt;obtain⟨S,hS'⟩:=nmd (hS h k);obtain⟨G,hG'⟩:=nmd (hG h k);obtain⟨x,hx⟩:=nmd (h k);have HS1:Hid (hS h (k+1)=S+x):=by show _=_;rw[<-hS',<-hx];rfl
   have HG1:Hid (hG h (k+1)=max G x):=by show _=_;rw[<-hG',<-hx];rfl
   rw[hS']at hbs;rw[hG']at hbg;rw[hx]at hbh cv;rw[hS',hG'];clear hS' hG' hx hck hU1 hA hnv h4 h5 h6 hk5 HB1;go_wp2;all_goals
    go_roundw;case rel=>exact⟨k+1,hlt,by go_num,by rw[HS1.out],by rw[HG1.out],by first|trivial|rfl⟩
    case measure=>simp[intOf];omega
  ·have hlt':¬(k:Int)<(m:Int):=by omega
   obtain rfl:k=m:=by omega
   have hbs:=hS_bd hh2 k hk;have hbg:=hG_bd hh2 k hk;have GA:=qH<|fun u=>gaps_any kd a0 a1 a2 a3 a4 a5 a6 a7 a8 a9 b0 b1 up tx p k c h4 (by omega) u;have FA:=qH<|fun u=>frame_any kd a0 a1 a2 a3 a4 a5 a6 a7 a8 a9 b0 b1 up tx p k c h5 h6 u;have hgb:0≤gapI a4 k∧gapI a4 k≤1000000000000:=by
    unfold gapI;have hq1:0≤max 0 ((k:Int)-1)∧max 0 ((k:Int)-1)≤1000000:=by omega
    exact⟨Int.mul_nonneg h4.1 hq1.1,Int.mul_le_mul h4.2 hq1.2 hq1.1 (by omega)⟩
   have hfb:=frm_bd (kd:=kd) h5 h6;unfold ndA at GA FA;rw[hnv]at GA FA;clear hU1 hA hh2 hkk HW1 HK2 m1;by_cases h0:kd=0
   ·subst h0;have hraw:rawW 0 a4 a5 a6 h k=hS h k+gapI a4 k:=by unfold rawW;rw[if_pos rfl]
    obtain⟨S,hS'⟩:=nmd (hS h k);obtain⟨gg,hgg⟩:=nmd (gapI a4 k);rw[hS',hgg]at hraw;have HRW:=qH<|hraw;rw[hS']at hbs⊢;rw[hgg]at hgb GA;clear hS' hgg hraw;go_wp2_with(go_at_call 77;refine(GA _).mono ?_;rintro e wz ⟨rfl,HBz⟩);go_ret;exact⟨by rw[HRW.out];rfl,HB1.trans (HBz.mono HB1.size)⟩
   ·have hraw:rawW kd a4 a5 a6 h k=hG h k+2*frmI kd a5 a6:=by unfold rawW;rw[if_neg h0]
    have e1:(kd==0)=false:=by simpa using h0
    obtain⟨S,hS'⟩:=nmd (hG h k);obtain⟨gg,hgg⟩:=nmd (frmI kd a5 a6);rw[hS',hgg]at hraw;have HRW:=qH<|hraw;rw[hS']at hbg⊢;rw[hgg]at hfb FA;clear hS' hgg hraw;go_wp2_with(go_at_call 78;refine(FA _).mono ?_;rintro e wz ⟨rfl,HBz⟩);go_ret;exact⟨by rw[HRW.out];rfl,HB1.trans (HBz.mono HB1.size)⟩
structure NdV(U:World)(r g:Nat)(L:List Nd)(KV:Nat->Value):Prop where
 gl:g<U.heap.size
 gr:g≠r
 len:∀j,j<L.length->(nth L j).attr.length=12
 nd:∀j,j<L.length->∀(t:Nat) x,(pnCells (nth L j) (KV j))[t]?=some x->U.cell? ⟨g,j*16+t,none⟩=some x
 kid:∀j,j<L.length->∃p c,KV j=.slice p (nth L j).kids.length c∧IntsN U r p (nth L j).kids.length (fun t=>(kdn (nth L j).kids t:Int))
theorem NdV.grown{U U'}{r g}{L}{KV}(h:NdV U r g L KV)(hg:U.grownBy U' (some r)):NdV U' r g L KV:=by refine⟨Nat.lt_of_lt_of_le h.gl hg.size,h.gr,h.len,fun j hj t x ht=>(World.cell?_of_block (hg.block g h.gl (fun q=>h.gr (by simpa using q)))).trans (h.nd j hj t x ht),fun j hj=>?_⟩;obtain⟨p,c,e,hk⟩:=h.kid j hj;exact⟨p,c,e,hk.grown hg⟩
theorem PN.ndv{W}{B g cap r}{L}{KV}(h:PN W B (Sq g L.length cap) L KV)(hr:W.heap.size≤r):NdV W r g L KV:=by
 obtain⟨xs,hx⟩:=h.nr.row;have hgl:g<W.heap.size:=by
  rcases own_form hx with⟨e,_⟩|⟨g',cap',e,_,hl,_⟩;·cases e
  ·injection e with e1 e2 e3;injection e1 with e1;injection e1 with e1;omega
 refine⟨hgl,by omega,h.len,fun j hj t x ht=>h.nr.cells g rfl j hj t x ht,fun j hj=>?_⟩;rcases own_form (h.nr.kids j hj)with⟨e,h0⟩|⟨g',cap',e,_,hl,_⟩;·refine⟨none,0,by rw[e,h0],.inl h0⟩
 ·refine⟨_,_,e,.inr ⟨g',0,rfl,hl,by omega,fun i hi=>?_⟩⟩;have hk:=h.nr.kids j hj;rw[e]at hk;rw[Nat.zero_add,hk.cellAt i (by omega)];unfold kInts kdn;rw[List.getElem?_map];simp[hi]
def wdF(Wd:Nat->Int)(k j:Nat):Value:=Iq (if j<k then 0 else Wd j)
structure Nm(U W:World)(mb r g cap wb:Nat)(L:List Nd)(KV:Nat->Value)(Wd:Nat->Int)(H:Nat->Int->Int)(k:Nat):Prop where
 bel:Below U.heap.size U W
 nds:NdV W r g L KV
 ms:Ms W mb (Sq g L.length cap) (Sq wb L.length L.length) r
 row:W.rowIs wb 3 L.length (wdF Wd k)
 mm:Memo W r H 0
 hwb:U.heap.size≤wb
 ne:wb≠r∧wb≠mb∧wb≠g∧mb≠r
 tab:TabAt W
theorem Nm.below{U W W'}{mb r g cap wb}{L}{KV}{Wd}{H}{k}(h:Nm U W mb r g cap wb L KV Wd H k)(hb:Below W.heap.size W W'):Nm U W' mb r g cap wb L KV Wd H k:=
 ⟨h.bel.trans (hb.mono h.bel.size),h.nds.grown (grown_of_below hb),(hb.block mb (Array.getElem?_eq_some_iff.1 h.ms).1).trans h.ms,rowIs_below h.row hb,h.mm.grown_below hb,h.hwb,h.ne,h.tab.below hb⟩
theorem Nm.set{U W}{mb r g cap wb i}{L}{KV}{Wd}{H}(h:Nm U W mb r g cap wb L KV Wd H (i+1))(hkw:∀j p c,j<L.length->KV j=.slice p (nth L j).kids.length c->∀b o,p=some ⟨b,o,none⟩->b≠wb)(htw:12≠wb):Nm U (W.setCell ⟨wb,i,none⟩ (Iq (Wd i))) mb r g cap wb L KV Wd H i:=by
 have key:∀b,b≠wb->(W.setCell ⟨wb,i,none⟩ (Iq (Wd i))).heap[b]?=W.heap[b]?:=fun b hb=>Below.heap_setCell W ⟨wb,i,none⟩ _ b hb;have hc:=fun b o hb=>World.cell?_of_block (a:=⟨b,o,none⟩) (key b hb);obtain⟨n1,n2,n3,n4⟩:=h.ne;refine⟨h.bel.setCell (p:=⟨wb,i,none⟩) h.hwb _,⟨by simpa using h.nds.gl,h.nds.gr,h.nds.len,fun j hj t x ht=>(hc g _ (fun e=>n3 e.symm)).trans (h.nds.nd j hj t x ht),fun j hj=>?_⟩,(key mb (fun e=>n2 e.symm)).trans h.ms,(h.row.set i _).congr fun j hj=>?_,h.mm.set n1 _,h.hwb,h.ne,fun j hj=>?_⟩
 ·obtain⟨p,c,e,hk⟩:=h.nds.kid j hj;refine⟨p,c,e,?_⟩;rcases hk with hk|⟨b,o,e2,k1,k2,k3⟩;·exact .inl hk
  ·exact .inr ⟨b,o,e2,by simpa using k1,k2,fun q hq=>(hc b _ (hkw j p c hj e b o e2)).trans (k3 q hq)⟩
 ·unfold wdF;by_cases e:j=i;·rw[if_pos e,e,if_neg (by omega)]
  ·rw[if_neg e];by_cases l:j<i;·rw[if_pos l,if_pos (by omega)]
   ·rw[if_neg l,if_neg (by omega)]
 ·obtain⟨t1,t2,t3⟩:=h.tab j hj;exact⟨(hc _ _ htw).trans t1,(hc _ _ htw).trans t2,(hc _ _ htw).trans t3⟩
theorem madeInts_row(w:World) n  Wd :(w.alloc (.cells (madeCells #[Iq 0] n) 3)).rowIs w.heap.size 3 n (wdF Wd n):=
 (World.rowIs_made w (Iq 0) n _).congr fun j hj=>by unfold wdF;rw[if_pos hj]
theorem newMeasure_any{s}{L}{KV}{Wd}{H} g cap (hT:Tree s L)(hS:Sz L Wd H) U  B (hP:PN U B (Sq g L.length cap) L KV)(ht:TabAt U):
 Calls prog 22 #[Sq g L.length cap] U fun e U'=>∃mb r wb,e=.returned (Pq mb)∧Below U.heap.size U U'∧Hs U' mb r g cap wb L KV Wd H 0∧U.heap.size≤r:=by
 obtain⟨N,hN⟩:=nmd L.length;have hc:=hT.vl.cnt;have hpos:=hT.pos;rw[hN]at hc hpos;obtain⟨wb,hwb⟩:=nmd U.heap.size;have hmk:=run_make_row' (P:=prog) 67 3 (Iq 0) 8 underlying67 info3row rfl .i64 .i64 N (by omega) (by omega);obtain⟨W1,hW1⟩:=nmd (((U.alloc (.cells (madeCells #[Iq 0] N) 3)).alloc (.map #[] 0)).alloc (.cells #[Sq g N cap,Sq wb N N,.map (some (wb+1))] 70));have hb1:Below U.heap.size U W1:=by rw[<-hW1];exact(((Gr.refl U).alloc _).alloc _).alloc _|>.below
 have hnd0:NdV U (wb+1) g L KV:=hP.ndv (by omega);have hgl:=hnd0.gl;have htl:12<U.heap.size:=by
  obtain⟨h1,_⟩:=ht 0 (by decide);by_cases q:12<U.heap.size;·exact q
  ·simp[World.cell?,Array.getElem?_eq_none (Nat.le_of_not_lt q)]at h1
 have HKW:Hid (∀j p c,j<L.length->KV j=.slice p (nth L j).kids.length c->∀b o,p=some ⟨b,o,none⟩->b≠wb):=fun j p c hj e b o e2=>by
  rcases own_form (hP.nr.kids j hj)with⟨e3,h0⟩|⟨g',cap',e3,_,hl,_⟩;·rw[e]at e3;injection e3 with e4;rw[e2]at e4;cases e4
  ·rw[e]at e3;injection e3 with e4;rw[e2]at e4;injection e4 with e4;injection e4 with e4;omega
 have HNM:Hid (Nm U W1 (wb+1+1) (wb+1) g cap wb L KV Wd H N):=by
  refine⟨hb1,hnd0.grown (grown_of_below hb1),?_,?_,?_,by omega,⟨by omega,by omega,by omega,by omega⟩,ht.below hb1⟩;·rw[hN,<-hW1];have:=heap_alloc_new ((U.alloc (.cells (madeCells #[Iq 0] N) 3)).alloc (.map #[] 0)) (.cells #[Sq g N cap,Sq wb N N,.map (some (wb+1))] 70);rw[World.size_alloc,World.size_alloc,hwb]at this;exact this
  ·rw[hN,<-hW1,<-hwb];exact((madeInts_row U N Wd).alloc _).alloc _
  ·rw[<-hW1];have:=Memo.new (U.alloc (.cells (madeCells #[Iq 0] N) 3)) H;rw[World.size_alloc,hwb]at this;exact this.alloc _
 have LN:=qH<|length_any;have hmix:prog.follows .mixedOrders=true:=by kernel_rfl
 have HTW:Hid (12≠wb):=fun e=>by omega
 have HWB:=qH<|hwb;have hmap:∀w:World,(Instr.makeMap 68 none).run prog w=.ok (.map (some w.heap.size)) (w.alloc (.map #[] 0)):=fun _=>rfl;rw[hN];clear hb1 hnd0 hgl htl hP ht;go_enter func22,ntmps22;go_wp2_with fail;clear hW1 hmk hwb hmap;go_loopw[4] (fun iv wr=>∃k:Nat,k≤N∧iv=Iq ((k:Int)-1)∧Hid (Nm U wr (wb+1+1) (wb+1) g cap wb L KV Wd H k)) (fun iv _=>(intOf iv+1).toNat);case atStart=>exact⟨N,Nat.le_refl _,by go_num,HNM⟩
 case round=>
  obtain⟨k,hk,rfl,HR⟩:=hrel;cases k with
  |zero=>
   have HV:Hid (Hs wr (wb+1+1) (wb+1) g cap wb L KV Wd H 0):=by have h:=HR.out;obtain⟨n1,n2,n3,n4⟩:=h.ne;exact⟨⟨h.ms,h.nds.gl,h.row.lt,n4,h.nds.gr,n1,h.nds.len,h.nds.nd,h.nds.kid,fun j hj=>h.row.cell hj⟩,h.mm,h.tab⟩
   go_wp2;go_ret;exact⟨_,_,wb,rfl,HR.bel,HV,by rw[HWB.out];omega⟩
  |succ i=>
   have ei:((i+1:Nat):Int)-1=(i:Int):=by omega
   rw[ei];have hiL:i<L.length:=by omega
   have hiN:(i:Int)<(N:Int):=by omega
   have hR:=HR.out;obtain⟨p,c,hkv,hki⟩:=hR.nds.kid i hiL;have hcells:=pn_list (hR.nds.len i hiL) (KV i);have hnd:=hR.nds.nd i hiL;rw[hcells,hkv]at hnd;have hms:=hR.ms;rw[hN]at hms;have hbd:=(hT.vl.nv i hiL).bd;have hkl:=hT.kids_le hiL;have WC:Hid (∀u,Below wr.heap.size wr u->Calls prog 45 #[Pq (wb+1+1),ndA (nth L i).kind (atN (nth L i) 0) (atN (nth L i) 1) (atN (nth L i) 2) (atN (nth L i) 3) (atN (nth L i) 4) (atN (nth L i) 5) (atN (nth L i) 6) (atN (nth L i) 7) (atN (nth L i) 8) (atN (nth L i) 9) (atN (nth L i) 10) (atN (nth L i) 11) ⟨(nth L i).text.toArray⟩ (.slice p (nth L i).kids.length c) (nth L i).up] u fun e u'=>∃x,e=.returned (Iq x)∧lenI x=Wd i∧Hid (Below wr.heap.size wr u')):=fun u hu=>by
    have hRu:=hR.below hu;rw[hS.w i hiL];unfold nodeW;by_cases h5:(nth L i).kind=5
    ·rw[if_pos h5];have hts:(⟨(nth L i).text.toArray⟩:ByteArray).size≤4000:=by have h1:=hT.vl.tl i hiL;have h2:=hT.sz;show(nth L i).text.toArray.size≤4000;rw[List.size_toArray];omega
     have:=widthText_any (wb+1+1) (atN (nth L i) 0) (atN (nth L i) 1) (atN (nth L i) 2) (atN (nth L i) 3) (atN (nth L i) 4) (atN (nth L i) 5) (atN (nth L i) 6) (atN (nth L i) 7) (atN (nth L i) 8) (atN (nth L i) 9) (atN (nth L i) 10) (atN (nth L i) 11) (nth L i).up ⟨(nth L i).text.toArray⟩ p (nth L i).kids.length c u hRu.tab hts;rw[h5];refine this.mono ?_;rintro e u' ⟨rfl,q⟩;exact⟨_,rfl,rfl,hu.trans (q.mono hu.size)⟩
    ·rw[if_neg h5];refine(workWidth_of (wb+1+1) (wb+1) wb L.length (nth L i).kids.length Wd (kdn (nth L i).kids) (nth L i).kind (atN (nth L i) 0) (atN (nth L i) 1) (atN (nth L i) 2) (atN (nth L i) 3) (atN (nth L i) 4) (atN (nth L i) 5) (atN (nth L i) 6) (atN (nth L i) 7) (atN (nth L i) 8) (atN (nth L i) 9) (atN (nth L i) 10) (atN (nth L i) 11) (nth L i).up ⟨(nth L i).text.toArray⟩ _ p c u (by omega) (by omega) (by omega) (by omega) (by omega) (by omega) (fun j hj=>hS.wb _ (kid_lt hT hiL hj).2) (fun j hj=>(kid_lt hT hiL hj).2) hRu.ms hRu.row.lt (hki.grown (grown_of_below hu)) (fun j hj=>?_)).mono ?_;·have hkj:=kid_lt hT hiL hj;rw[hRu.row.cell hkj.2];unfold wdF;rw[if_neg (by omega)]
     ·rintro e u' ⟨rfl,q⟩;exact⟨_,rfl,rfl,hu.trans (q.mono hu.size)⟩
   have HNX:Hid (∀u,Below wr.heap.size wr u->Nm U (u.setCell ⟨wb,i,none⟩ (Iq (Wd i))) (wb+1+1) (wb+1) g cap wb L KV Wd H i):=fun u hu=>(hR.below hu).set HKW HTW;have HWC:Hid (∀u,Below wr.heap.size wr u->u.cell? ⟨wb,i,none⟩=some (Iq 0)∧u.frozen? ⟨wb,i,none⟩=false∧wb<u.heap.size):=fun u hu=>by have hr:=(hR.below hu).row;refine⟨?_,hr.frozen i,hr.lt⟩;rw[hr.cell hiL];unfold wdF;rw[if_pos (by omega)]
   have hmbl:=(Array.getElem?_eq_some_iff.1 hms).1;have hgl:=hR.nds.gl;have hne1:¬wb=g:=hR.ne.2.2.1;have hne2:¬g=wb:=fun e=>hne1 e.symm;have hne3:¬wb=wb+1+1:=by omega
   have hne4:¬wb+1+1=wb:=by omega
   generalize(nth L i).text.toArray=txa at hnd WC;generalize((nth L i).kind:Int)=kd at hnd WC;generalize atN (nth L i) 0=a0 at hnd WC;generalize atN (nth L i) 1=a1 at hnd WC;generalize atN (nth L i) 2=a2 at hnd WC;generalize atN (nth L i) 3=a3 at hnd WC;generalize atN (nth L i) 4=a4 at hnd WC;generalize atN (nth L i) 5=a5 at hnd WC;generalize atN (nth L i) 6=a6 at hnd WC;generalize atN (nth L i) 7=a7 at hnd WC;generalize atN (nth L i) 8=a8 at hnd WC;generalize atN (nth L i) 9=a9 at hnd WC;generalize atN (nth L i) 10=b0 at hnd WC;generalize atN (nth L i) 11=b1 at hnd WC;generalize(nth L i).up=up at hnd WC;generalize(nth L i).kids.length=m at hnd WC;obtain⟨tx,htx⟩:∃z:ByteArray,⟨txa⟩=z:=⟨_,rfl⟩;rw[htx]at hnd WC;have HS:Hid (∀u,Below wr.heap.size wr u->u.cell? ⟨wb+1+1,1,none⟩=some (Sq wb N N)∧u.cell? ⟨g,i*16,none⟩=some (Iq kd)∧u.cell? ⟨g,i*16+1,none⟩=some (Iq a0)∧u.cell? ⟨g,i*16+2,none⟩=some (Iq a1)∧u.cell? ⟨g,i*16+3,none⟩=some (Iq a2)∧u.cell? ⟨g,i*16+4,none⟩=some (Iq a3)∧u.cell? ⟨g,i*16+5,none⟩=some (Iq a4)∧u.cell? ⟨g,i*16+6,none⟩=some (Iq a5)∧u.cell? ⟨g,i*16+7,none⟩=some (Iq a6)∧u.cell? ⟨g,i*16+8,none⟩=some (Iq a7)∧u.cell? ⟨g,i*16+9,none⟩=some (Iq a8)∧u.cell? ⟨g,i*16+10,none⟩=some (Iq a9)∧u.cell? ⟨g,i*16+11,none⟩=some (Iq b0)∧u.cell? ⟨g,i*16+12,none⟩=some (Iq b1)∧u.cell? ⟨g,i*16+13,none⟩=some (.string tx)∧u.cell? ⟨g,i*16+14,none⟩=some (.slice p m c)∧u.cell? ⟨g,i*16+15,none⟩=some (Iq up)):=fun u hu=>by
    have key:=fun t x hx=>(hu.cell (p:=⟨g,_,none⟩) hgl).trans (hnd t x hx);have hmb2:u.cell? ⟨wb+1+1,1,none⟩=some (Sq wb N N):=by rw[Lib.cell_of_heap ((hu.block _ hmbl).trans hms)];rfl
    exact⟨hmb2,key 0 _ rfl,key 1 _ rfl,key 2 _ rfl,key 3 _ rfl,key 4 _ rfl,key 5 _ rfl,key 6 _ rfl,key 7 _ rfl,key 8 _ rfl,key 9 _ rfl,key 10 _ rfl,key 11 _ rfl,key 12 _ rfl,key 13 _ rfl,key 14 _ rfl,key 15 _ rfl⟩
   obtain⟨q0,q1,q2,q3,q4,q5,q6,q7,q8,q9,q10,q11,q12,q13,q14,q15,q16⟩:=HS wr (Below.refl _ _);obtain⟨wc0,wc1,wc2⟩:=HWC wr (Below.refl _ _);unfold ndA at WC;clear hR hcells hnd hms hbd hkl hkv hki htx hmbl hgl HR HNM ei;go_wp2_with fail;go_region_held(fun W=>W.cell? ⟨wb+1+1,1,none⟩=some (Sq wb N N)∧W.cell? ⟨g,i*16,none⟩=some (Iq kd)∧W.cell? ⟨g,i*16+1,none⟩=some (Iq a0)∧W.cell? ⟨g,i*16+2,none⟩=some (Iq a1)∧W.cell? ⟨g,i*16+3,none⟩=some (Iq a2)∧W.cell? ⟨g,i*16+4,none⟩=some (Iq a3)∧W.cell? ⟨g,i*16+5,none⟩=some (Iq a4)∧W.cell? ⟨g,i*16+6,none⟩=some (Iq a5)∧W.cell? ⟨g,i*16+7,none⟩=some (Iq a6)∧W.cell? ⟨g,i*16+8,none⟩=some (Iq a7)∧W.cell? ⟨g,i*16+9,none⟩=some (Iq a8)∧W.cell? ⟨g,i*16+10,none⟩=some (Iq a9)∧W.cell? ⟨g,i*16+11,none⟩=some (Iq b0)∧W.cell? ⟨g,i*16+12,none⟩=some (Iq b1)∧W.cell? ⟨g,i*16+13,none⟩=some (.string tx)∧W.cell? ⟨g,i*16+14,none⟩=some (.slice p m c)∧W.cell? ⟨g,i*16+15,none⟩=some (Iq up)) (go_keep) (first|(go_at_call 45;refine Calls.mono (WC _ (by first|exact Below.refl _ _|exact(Below.refl _ _).drew)) ?_;rintro e u1 ⟨x,rfl,hx,HBu⟩;obtain⟨s0,s1,s2,s3,s4,s5,s6,s7,s8,s9,s10,s11,s12,s13,s14,s15,s16⟩:=HS u1 HBu;obtain⟨wd0,wd1,wd2⟩:=HWC u1 HBu)|(go_at_call 44;refine Calls.mono (LN _ _) ?_;rintro e u2 ⟨rfl,hu2⟩;obtain rfl:=hu2.symm));all_goals
    have HN2:=qH<|HNX _ HBu;go_wp2;go_roundw;case rel=>exact⟨i,by omega,by go_num,HN2⟩
    case measure=>simp[intOf]<;>omega
def rcF(a b c d:Nat->Int)(k:Nat)(i:Nat):Value:=Iq (if i/4<k then(if i %4=0 then a (i/4)else if i %4=1 then b (i/4)else if i %4=2 then c (i/4)else d (i/4))else 0)
theorem rc_zero(w:World) m  a b c d  T :(w.alloc (.cells (madeCells #[Iq 0,Iq 0,Iq 0,Iq 0] (m*4)) T)).rowIs w.heap.size T (m*4) (rcF a b c d 0):=by
 have:=World.rowIs_alloc w (madeCells #[Iq 0,Iq 0,Iq 0,Iq 0] (m*4)) T (rcF a b c d 0) (fun i hi=>by
  rw[size_madeCells]at hi;unfold rcF;rw[if_neg (by omega)];simp only[madeCells];have:i %4=0∨i %4=1∨i %4=2∨i %4=3:=by omega
  rcases this with e|e|e|e<;>simp[e,hi]);rw[size_madeCells]at this;exact this
theorem rc_next{W:World}{b}{T}{m k}{a b1 c d}(h:W.rowIs b T (m*4) (rcF a b1 c d k)) x y z u (hx:x=a k)(hy:y=b1 k)(hz:z=c k)(hu:u=d k):
 ((((W.setCell ⟨b,k*4,none⟩ (Iq x)).setCell ⟨b,k*4+1,none⟩ (Iq y)).setCell ⟨b,k*4+2,none⟩ (Iq z)).setCell ⟨b,k*4+3,none⟩ (Iq u)).rowIs b T (m*4) (rcF a b1 c d (k+1)):=by
 subst hx hy hz hu;refine((((h.set (k*4) (Iq (a k))).set (k*4+1) (Iq (b1 k))).set (k*4+2) (Iq (c k))).set (k*4+3) (Iq (d k))).congr fun i hi=>?_;unfold rcF;by_cases e3:i=k*4+3;·rw[if_pos e3,if_pos (by omega),if_neg (by omega),if_neg (by omega),if_neg (by omega),show i/4=k by omega]
 ·rw[if_neg e3];by_cases e2:i=k*4+2;·rw[if_pos e2,if_pos (by omega),if_neg (by omega),if_neg (by omega),if_pos (by omega),show i/4=k by omega]
  ·rw[if_neg e2];by_cases e1:i=k*4+1;·rw[if_pos e1,if_pos (by omega),if_neg (by omega),if_pos (by omega),show i/4=k by omega]
   ·rw[if_neg e1];by_cases e0:i=k*4;·rw[if_pos e0,if_pos (by omega),if_pos (by omega),show i/4=k by omega]
    ·rw[if_neg e0];by_cases l:i/4<k;·rw[if_pos l,if_pos (show i/4<k+1 by omega)]
     ·rw[if_neg l,if_neg (show¬i/4<k+1 by omega)]
def RcRow(W:World)(lb m:Nat)(a b c d:Nat->Int):Prop:=lb<W.heap.size∧∀j,j<m->W.cell? ⟨lb,j*4,none⟩=some (Iq (a j))∧W.cell? ⟨lb,j*4+1,none⟩=some (Iq (b j))∧W.cell? ⟨lb,j*4+2,none⟩=some (Iq (c j))∧W.cell? ⟨lb,j*4+3,none⟩=some (Iq (d j))
theorem rc_row{W}{lb}{T}{m}{a b c d}(h:W.rowIs lb T (m*4) (rcF a b c d m)):RcRow W lb m a b c d:=by
 refine⟨h.lt,fun j hj=>⟨?_,?_,?_,?_⟩⟩;·rw[h.cell (by omega)];unfold rcF;rw[if_pos (by omega),if_pos (by omega),show j*4/4=j by omega]
 ·rw[h.cell (by omega)];unfold rcF;rw[if_pos (by omega),if_neg (by omega),if_pos (by omega),show(j*4+1)/4=j by omega]
 ·rw[h.cell (by omega)];unfold rcF;rw[if_pos (by omega),if_neg (by omega),if_neg (by omega),if_pos (by omega),show(j*4+2)/4=j by omega]
 ·rw[h.cell (by omega)];unfold rcF;rw[if_pos (by omega),if_neg (by omega),if_neg (by omega),if_neg (by omega),show(j*4+3)/4=j by omega]
def RcOut(U W:World)(lb m:Nat)(a b c d:Nat->Int):Prop:=RcRow W lb m a b c d∧U.heap.size≤lb∧Below U.heap.size U W
theorem spl_one L  ks  N  room gap :∃G:Nat->Int,∀g,KidSpl L ks N room gap g->∀j,j<ks.length->g j=G j:=by
 by_cases e:∃g,KidSpl L ks N room gap g;·obtain⟨g,hg⟩:=e;exact⟨g,fun g' hg'=>hg'.uniq hg⟩
 ·exact⟨fun _=>0,fun g hg=>absurd ⟨g,hg⟩ e⟩
theorem offs_congr{g h}{cg}:∀k,(∀j,j<k->g j=h j)->offs g cg k=offs h cg k:=fun k e=>by unfold offs;exact sumL_congr fun j hj=>by rw[e j (List.mem_range.1 hj)]
def IntsB(W:World)(B:Nat)(p:Option Addr)(m:Nat)(v:Nat->Int):Prop:=m=0∨∃b o,p=some ⟨b,o,none⟩∧b<W.heap.size∧B≤b∧∀j,j<m->W.cell? ⟨b,o+j,none⟩=some (Iq (v j))
theorem IntsB.below{W W'}{B m}{p}{v}(h:IntsB W B p m v)(hb:Below W.heap.size W W'):IntsB W' B p m v:=by
 rcases h with h|⟨b,o,e,h1,h2,h3⟩;·exact .inl h
 ·exact .inr ⟨b,o,e,Nat.lt_of_lt_of_le h1 hb.size,h2,fun j hj=>(hb.cell (p:=⟨b,_,none⟩) h1).trans (h3 j hj)⟩
theorem IntsB.low{W}{B B' m}{p}{v}(h:IntsB W B p m v)(hB:B'≤B):IntsB W B' p m v:=by
 rcases h with h|⟨b,o,e,h1,h2,h3⟩;·exact .inl h
 ·exact .inr ⟨b,o,e,h1,by omega,h3⟩
theorem sumL_range_congr{f g}{n}(h:∀j,j<n->f j=g j):sumL f (List.range n)=sumL g (List.range n):=sumL_congr fun j hj=>h j (List.mem_range.1 hj)
theorem SplitIs.congr{n}{mn mx wt}{r}{g g'}(h:SplitIs n mn mx wt r g)(e:∀j,j<n->g j=g' j):SplitIs n mn mx wt r g':=by
 rcases h with⟨h1,hb⟩|⟨h1,A,S,L,V,m,hp⟩;·refine .inl ⟨h1,fun j hj=>by rw[<-e j hj];exact hb.bd j hj,by rw[<-sumL_range_congr e];exact hb.sum,fun i k hik hk hlt=>?_⟩;rw[<-e k hk];exact hb.behind i k hik hk (by rw[e i (by omega)];exact hlt)
 ·exact .inr ⟨h1,A,S,L,V,m,hp.perm,hp.left,hp.pos,hp.weight,hp.full,hp.open_,hp.miss,hp.none_,hp.sorted,fun j hj=>by rw[<-e j hj];exact hp.is j hj⟩
theorem KidSpl.congr{L}{ks}{N}{room gap}{g g'}(h:KidSpl L ks N room gap g)(e:∀j,j<ks.length->g j=g' j):KidSpl L ks N room gap g':=SplitIs.congr h e
theorem split_g{u}{m lb}{L}{ks}{N}{room gap}{G}(hmm:ks.length=m)(hm:m≤200)(h:WRow u lb 0 m (fun j=>wMn (nth L (kdn ks j)) (N j)) (fun j=>atN (nth L (kdn ks j)) 2) (fun j=>atN (nth L (kdn ks j)) 3))(hG:∀g,KidSpl L ks N room gap g->∀j,j<ks.length->g j=G j):
 Calls prog 140 #[Iq room,Iq gap,Sq lb m m] u fun e u'=>∃q cq,e=.returned (.slice q m cq)∧IntsB u' u.heap.size q m G∧Below u.heap.size u u'∧(ks=[]∨KidSpl L ks N room gap G):=by
 subst hmm;refine(split_all _ ks.length _ _ _ room gap u ⟨_,_,rfl,.inr ⟨lb,0,rfl,h⟩⟩ (by omega)).mono ?_;rintro e u' ⟨v,rfl,hs⟩;have hb:=hs.below;rcases hs with⟨h0,rfl,hu⟩|⟨q1,q2,lb2,rfl,q3,⟨gg,q4,q5⟩,q6⟩
 ·have hk:ks=[]:=by
   rcases h0 with h0|h0;·exact List.eq_nil_of_length_eq_zero h0
   ·omega
  exact⟨none,0,by rw[hk];rfl,.inl (by rw[hk];rfl),hb,.inl hk⟩
 ·refine⟨_,_,rfl,.inr ⟨lb2,0,rfl,q4.1,q3,fun j hj=>?_⟩,hb,.inr (KidSpl.congr q5 fun j hj=>hG gg q5 j hj)⟩;rw[<-hG gg q5 j hj];exact(q4.2 j hj).1
theorem offs_g{u}{m lb}{L}{ks}{N}{room gap}{G}(hmm:ks.length=m)(hm:m≤200)(h:WRow u lb 0 m (fun j=>wMn (nth L (kdn ks j)) (N j)) (fun j=>atN (nth L (kdn ks j)) 2) (fun j=>atN (nth L (kdn ks j)) 3))(hG:∀g,KidSpl L ks N room gap g->∀j,j<ks.length->g j=G j):
 Calls prog 147 #[Iq room,Iq gap,Sq lb m m] u fun e u'=>∃q cq,e=.returned (.slice q m cq)∧IntsB u' u.heap.size q m (offs G (cl gap))∧Below u.heap.size u u':=by
 subst hmm;refine(offsets_low _ ks.length _ _ _ room gap u ⟨_,_,rfl,.inr ⟨lb,0,rfl,h⟩⟩ (by omega)).mono ?_;rintro e u' ⟨v,rfl,hs,hlow⟩;have hb:=hs.below;rcases hs with⟨h0,rfl,hu⟩|⟨q1,q2,lb2,g,rfl,q4,q5,q6⟩
 ·have hk:ks=[]:=by
   rcases h0 with h0|h0;·exact List.eq_nil_of_length_eq_zero h0
   ·omega
  exact⟨none,0,by rw[hk];rfl,.inl (by rw[hk];rfl),hb⟩
 ·refine⟨_,_,rfl,.inr ⟨lb2,0,rfl,q4.1,hlow _ _ _ _ rfl,fun j hj=>?_⟩,hb⟩;rw[<-offs_congr j (fun i hi=>hG g q5 i (by omega))];exact(q4.2 j hj).1
def pcF(P:Nat->Nat->Int)(i:Nat):Value:=Iq (P (i/10) (i %10))
def putAt(P:Nat->Nat->Int)(c t:Nat)(x:Int):Nat->Nat->Int:=fun q u=>if q=c∧u=t then x else P q u
theorem pc_set{W:World}{b N}{T}{P}(h:W.rowIs b T N (pcF P)) c t (ht:t<10) x :(W.setCell ⟨b,c*10+t,none⟩ (Iq x)).rowIs b T N (pcF (putAt P c t x)):=by
 refine(h.set (c*10+t) (Iq x)).congr fun i hi=>?_;unfold pcF putAt;by_cases e:i=c*10+t;·rw[if_pos e,if_pos (by omega)]
 ·rw[if_neg e,if_neg (by omega)]
theorem pc_cell{W:World}{b n}{T}{P}(h:W.rowIs b T (n*10) (pcF P)){c t}(hc:c<n)(ht:t<10):W.cell? ⟨b,c*10+t,none⟩=some (Iq (P c t)):=by rw[h.cell (by omega)];unfold pcF;rw[show(c*10+t)/10=c by omega,show(c*10+t) %10=t by omega]
theorem Scr.kept{W W'}{r n k}{H}{p}{idf off}(h:Scr W p k idf off)(hm:Memo W r H n)(hg:W.grownBy W' (some r)):Scr W' p k idf off:=by
 rcases h with h|⟨b,o,e,h1,h2⟩;·exact .inl h
 ·by_cases hk:k=0;·exact .inl hk
  ·obtain⟨es,clock,hmp⟩:=hm.map;have hne:b≠r:=fun e2=>by subst e2;have:=(h2 0 (by omega)).1;simp[World.cell?,hmp]at this
   have hb:W'.heap[b]?=W.heap[b]?:=hg.block b h1 (fun q=>hne (by injection q));exact .inr ⟨b,o,e,Nat.lt_of_lt_of_le h1 hg.size,fun j hj=>⟨(World.cell?_of_block (a:=⟨b,o+j*2,none⟩) hb).trans (h2 j hj).1,(World.cell?_of_block (a:=⟨b,o+j*2+1,none⟩) hb).trans (h2 j hj).2⟩⟩
structure Pw(U0 W:World)(r pb N:Nat)(P:Nat->Nat->Int)(H:Nat->Int->Int)(n:Nat):Prop where
 g:U0.grownBy W (some r)
 m:Memo W r H n
 row:W.rowIs pb 50 (N*10) (pcF P)
theorem Pw.below{U0 W W'}{r pb N n}{P}{H}(h:Pw U0 W r pb N P H n)(hb:Below W.heap.size W W'):Pw U0 W' r pb N P H n:=
 ⟨h.g.trans (grown_of_below hb),h.m.grown_below hb,rowIs_below h.row hb⟩
theorem Pw.grown{U0 W W'}{r pb N n n'}{P}{H}(h:Pw U0 W r pb N P H n)(hg:W.grownBy W' (some r))(hm:Memo W' r H n')(hne:pb≠r):Pw U0 W' r pb N P H n':=
 ⟨h.g.trans hg,hm,rowIs_grown h.row hg hne⟩
theorem Pw.set{U0 W}{r pb N n}{P}{H}(h:Pw U0 W r pb N P H n)(hpb:U0.heap.size≤pb)(hne:pb≠r) c t (ht:t<10) x :Pw U0 (W.setCell ⟨pb,c*10+t,none⟩ (Iq x)) r pb N (putAt P c t x) H n:=
 ⟨grown_sets h.g (a:=⟨pb,_,none⟩) hpb _,h.m.set (a:=⟨pb,_,none⟩) hne _,pc_set h.row c t ht x⟩
theorem Pw.mono{U0 W}{r pb N n n'}{P}{H}(h:Pw U0 W r pb N P H n)(hn:n≤n'):Pw U0 W r pb N P H n':=⟨h.g,h.m.mono hn,h.row⟩
def roomI(hh w:Int):Int:=max 0 (hh-w)
theorem scroll_any(mb r pb N k kid nn:Nat) P  H  a0 a1 a2 a3 a4 a5 a6 a7 a8 a9 b0 b1 up  tx  p  m c  sp  sn sc  idf off  U0 U 
 (hP:Hid (Pw U0 U r pb N P H nn)) (hpb:U0.heap.size≤pb) (hpr:pb≠r) (hk:k<N) (hN:N≤1000) (hm:0<m) (hkb:Hid (∃b o,p=some ⟨b,o,none⟩∧b<U0.heap.size∧b≠r∧U0.cell? ⟨b,o,none⟩=some (Iq (kid:Int)))) (hH:0≤H kid (P k 2)∧H kid (P k 2)≤100000) (h3:0≤P k 3∧P k 3≤100000)
 (HC:Hid (∀u,Pw U0 u r pb N P H nn->Calls prog 23 #[Pq mb,Iq (kid:Int),Iq (P k 2)] u fun e u'=>e=.returned (Iq (H kid (P k 2)))∧Hid (u.grownBy u' (some r))∧Hid (Memo u' r H (nn+100))))
 (OF:Hid (∀u P' n',Pw U0 u r pb N P' H n'->Calls prog 96 #[Iq a0,.slice sp sn sc] u fun e u'=>e=.returned (Iq (offI a0 idf off sn))∧Hid (Below u.heap.size u u'))):
 Calls prog 64 #[Pq mb,.pointer (some ⟨pb,k*10,none⟩),ndA 4 a0 a1 a2 a3 a4 a5 a6 a7 a8 a9 b0 b1 tx (.slice p m c) up,.slice sp sn sc] U fun e U'=>e=.returned (.tuple #[])∧Pw U0 U' r pb N (putAt (putAt P k 9 (roomI (H kid (P k 2)) (P k 3))) k 8 (min (max 0 (offI a0 idf off sn)) (roomI (H kid (P k 2)) (P k 3)))) H (nn+100)∧Hid (∀b,b<U.heap.size->b≠r->b≠pb->U'.heap[b]?=U.heap[b]?):=by
 obtain⟨kb,ko,rfl,hkl,hkr,hkc⟩:=hkb.out;obtain⟨W1,hW1⟩:=nmd (U.alloc (.cells #[Iq 4,Iq a0,Iq a1,Iq a2,Iq a3,Iq a4,Iq a5,Iq a6,Iq a7,Iq a8,Iq a9,Iq b0,Iq b1,.string tx,.slice (some ⟨kb,ko,none⟩) m c,Iq up] 101));obtain⟨A,hA⟩:=nmd U.heap.size;have HB1:Hid (Below U.heap.size U W1):=by rw[<-hW1];exact((Gr.refl U).alloc _).below
 have hat:W1.heap[A]?=some (.cells #[Iq 4,Iq a0,Iq a1,Iq a2,Iq a3,Iq a4,Iq a5,Iq a6,Iq a7,Iq a8,Iq a9,Iq b0,Iq b1,.string tx,.slice (some ⟨kb,ko,none⟩) m c,Iq up] 101 (0,0)):=by rw[<-hW1,<-hA];exact heap_alloc_new _ _
 have HP1:Hid (Pw U0 W1 r pb N P H nn):=hP.below HB1;have HAU2:Hid (U.heap.size=A):=hA;have hAr:A≠r:=by have:=hP.m.lt;omega
 have hpA:pb<A:=by rw[<-hA];exact hP.row.lt
 obtain⟨w,hw⟩:=nmd (P k 2);obtain⟨hh,hhe⟩:=nmd (P k 3);obtain⟨y,hy⟩:=nmd (H kid w);rw[hw]at HC hH⊢;rw[hhe]at h3⊢;rw[hy]at HC hH⊢;have HS:Hid (∀u,Pw U0 u r pb N P H nn∨Pw U0 u r pb N P H (nn+100)->W1.grownBy u (some r)->u.cell? ⟨A,14,none⟩=some (.slice (some ⟨kb,ko,none⟩) m c)∧u.cell? ⟨kb,ko,none⟩=some (Iq (kid:Int))∧u.cell? ⟨pb,k*10+2,none⟩=some (Iq w)∧u.cell? ⟨pb,k*10+3,none⟩=some (Iq hh)):=fun u hu hg=>by
  have hg0:U0.grownBy u (some r)∧u.rowIs pb 50 (N*10) (pcF P):=by rcases hu with q|q<;>exact⟨q.g,q.row⟩
  have hAl:A<W1.heap.size:=(Array.getElem?_eq_some_iff.1 hat).1;have hb:u.heap[A]?=W1.heap[A]?:=hg.block A hAl (fun e=>by injection e with e;omega);refine⟨by rw[Lib.cell_of_heap (hb.trans hat)];rfl,(World.cell?_of_block (a:=⟨kb,ko,none⟩) (hg0.1.block kb hkl (fun e=>hkr (by injection e)))).trans hkc,?_,?_⟩;·rw[<-hw];exact pc_cell hg0.2 hk (by omega)
  ·rw[<-hhe];exact pc_cell hg0.2 hk (by omega)
 have HAU:Hid (∀u,W1.grownBy u (some r)->u.heap[A]?=some (.cells #[Iq 4,Iq a0,Iq a1,Iq a2,Iq a3,Iq a4,Iq a5,Iq a6,Iq a7,Iq a8,Iq a9,Iq b0,Iq b1,.string tx,.slice (some ⟨kb,ko,none⟩) m c,Iq up] 101 (0,0))):=fun u hg=>(hg.block A (Array.getElem?_eq_some_iff.1 hat).1 (fun e=>by injection e with e;omega)).trans hat;have HC1:Hid (∀u,(u=W1∨u=W1.drew)->Calls prog 23 #[Pq mb,Iq (kid:Int),Iq w] u fun e u'=>e=.returned (Iq y)∧Hid (W1.grownBy u' (some r))∧Hid (Pw U0 u' r pb N P H (nn+100))):=fun u hu=>by
  have hgu:W1.grownBy u (some r):=by
   rcases hu with rfl|rfl;·exact grown_of_below (Below.refl _ _)
   ·exact grownDrew (grown_of_below (Below.refl _ _))
  have hpu:Pw U0 u r pb N P H nn:=by
   rcases hu with rfl|rfl;·exact HP1
   ·exact HP1.below (Below.refl _ _).drew
  refine(HC u hpu).mono ?_;rintro e u' ⟨rfl,q1,q2⟩;exact⟨rfl,hgu.trans q1,hpu.grown q1 q2 hpr⟩
 obtain⟨s1,s2,s3,s4⟩:=HS W1 (.inl HP1) (grown_of_below (Below.refl _ _));obtain⟨rm,hrm⟩:=nmd (roomI y hh);have hrv:max 0 (y-hh)=rm:=hrm;rw[hrm];have n1:¬A=pb:=by omega
 have n3:¬kb=pb:=by omega
 have n4:¬pb=kb:=by omega
 have HRW:Hid (∀u n' P',Pw U0 u r pb N P' H n'->(∃v,u.cell? ⟨pb,k*10+9,none⟩=some v)∧u.frozen? ⟨pb,k*10+9,none⟩=false∧pb<u.heap.size∧(∃v,u.cell? ⟨pb,k*10+8,none⟩=some v)∧u.frozen? ⟨pb,k*10+8,none⟩=false):=fun u n' P' hu=>⟨⟨_,pc_cell hu.row hk (by omega)⟩,hu.row.frozen _,hu.row.lt,⟨_,pc_cell hu.row hk (by omega)⟩,hu.row.frozen _⟩;obtain⟨⟨v9,r9⟩,f9,l9,_⟩:=HRW W1 nn P HP1;have HSS:Hid (∀u,Pw U0 u r pb N P H (nn+100)->W1.grownBy u (some r)->(u.setCell ⟨pb,k*10+9,none⟩ (Iq rm)).cell? ⟨A,14,none⟩=some (.slice (some ⟨kb,ko,none⟩) m c)∧(u.setCell ⟨pb,k*10+9,none⟩ (Iq rm)).cell? ⟨kb,ko,none⟩=some (Iq (kid:Int))∧(u.setCell ⟨pb,k*10+9,none⟩ (Iq rm)).cell? ⟨pb,k*10+2,none⟩=some (Iq w)∧(u.setCell ⟨pb,k*10+9,none⟩ (Iq rm)).cell? ⟨pb,k*10+3,none⟩=some (Iq hh)):=fun u hu hg=>by
  obtain⟨q1,q2,q3,q4⟩:=HS u (.inr hu) hg;refine⟨?_,?_,?_,?_⟩;·rw[World.cell?_setCell_other _ _ _ _ (fun e=>by injection e with e _ _;omega)];exact q1
  ·rw[World.cell?_setCell_other _ _ _ _ (fun e=>by injection e with e _ _;omega)];exact q2
  ·rw[World.cell?_setCell_other _ _ _ _ (fun e=>by injection e with _ e _;omega)];exact q3
  ·rw[World.cell?_setCell_other _ _ _ _ (fun e=>by injection e with _ e _;omega)];exact q4
 clear hat hP hkb hy hw hhe hrm;unfold ndA;go_enter func64,ntmps64;go_wp2_with fail;clear hW1 hA;have hwr:IntKind.i64.wrap (y-hh)=y-hh:=IntWalk.i64_in _ (by omega);go_cut[7]from 8 to 28 (fun _ wx=>Hid (Pw U0 wx r pb N (putAt P k 9 rm) H (nn+100))∧Hid (∀b,b<U.heap.size->b≠r->b≠pb->wx.heap[b]?=U.heap[b]?)∧Hid (wx.heap[A]?=some (.cells #[Iq 4,Iq a0,Iq a1,Iq a2,Iq a3,Iq a4,Iq a5,Iq a6,Iq a7,Iq a8,Iq a9,Iq b0,Iq b1,.string tx,.slice (some ⟨kb,ko,none⟩) m c,Iq up] 101 (0,0))));case first=>
  go_region_held(fun W=>W.cell? ⟨A,14,none⟩=some (.slice (some ⟨kb,ko,none⟩) m c)∧W.cell? ⟨kb,ko,none⟩=some (Iq (kid:Int))∧W.cell? ⟨pb,k*10+2,none⟩=some (Iq w)∧W.cell? ⟨pb,k*10+3,none⟩=some (Iq hh)) (go_keep) (first|(go_at_call 23;refine Calls.mono (HC1 _ (by first|exact .inl rfl|exact .inr rfl)) ?_;rintro e u1 ⟨rfl,HGu,HPu⟩;obtain⟨t1,t2,t3,t4⟩:=HS u1 (.inr HPu) HGu;obtain⟨⟨v9u,r9u⟩,f9u,l9u,_⟩:=HRW u1 _ _ HPu;obtain⟨o1,o2,o3,o4⟩:=HSS u1 HPu HGu));all_goals go_wp2_with fail
  all_goals go_meet
  all_goals(refine⟨?_,?_,?_⟩)
  all_goals first
   |exact HPu.set hpb hpr k 9 (by omega) rm
   |exact fun b h1 h2 h3=>(Below.heap_setCell u1 ⟨pb,k*10+9,none⟩ _ b h3).trans ((HGu.block b (Nat.lt_of_lt_of_le h1 HB1.size) (fun e=>h2 (by injection e))).trans (HB1.block b h1))
   |exact(Below.heap_setCell u1 ⟨pb,k*10+9,none⟩ _ A n1).trans (HAU u1 HGu)
 case rest=>
  obtain⟨HPc,HFc,HAc⟩:=hcut;have a1c:wc.cell? ⟨A,1,none⟩=some (Iq a0):=by rw[Lib.cell_of_heap HAc.out];rfl
  have c9:wc.cell? ⟨pb,k*10+9,none⟩=some (Iq rm):=by rw[pc_cell HPc.row hk (by omega)];unfold putAt;rw[if_pos ⟨rfl,rfl⟩]
  obtain⟨ov,hov⟩:=nmd (offI a0 idf off sn);rw[hov]at OF;have OF1:Hid (∀u,(u=wc∨u=wc.drew)->Calls prog 96 #[Iq a0,.slice sp sn sc] u fun e u'=>e=.returned (Iq ov)∧Hid (Below wc.heap.size wc u')∧u'.cell? ⟨A,1,none⟩=some (Iq a0)∧u'.cell? ⟨pb,k*10+9,none⟩=some (Iq rm)):=fun u hu=>by
   have hbu:Below wc.heap.size wc u:=by
    rcases hu with rfl|rfl;·exact Below.refl _ _
    ·exact(Below.refl _ _).drew
   refine(OF u _ _ (HPc.below hbu)).mono ?_;rintro e u' ⟨rfl,q⟩;have hbb:=hbu.trans (q.mono hbu.size);exact⟨rfl,hbb,(hbb.cell (p:=⟨A,1,none⟩) (Array.getElem?_eq_some_iff.1 HAc).1).trans a1c,(hbb.cell (p:=⟨pb,_,none⟩) HPc.row.lt).trans c9⟩
  have HOV:Hid (offI a0 idf off sn=ov):=hov;have HFIN:Hid (∀u x,Below wc.heap.size wc u->x=min (max 0 ov) rm->Pw U0 (u.setCell ⟨pb,k*10+8,none⟩ (Iq x)) r pb N (putAt (putAt P k 9 rm) k 8 (min (max 0 (offI a0 idf off sn)) rm)) H (nn+100)):=fun u x hu hx=>by rw[HOV.out,<-hx];exact(HPc.below hu).set hpb hpr k 8 (by omega) x
  have HUW:Hid (U.heap.size≤wc.heap.size):=by have:=(Array.getElem?_eq_some_iff.1 HAc).1;show _≤_;have:=HAU2.out;omega
  have HFF:Hid (∀(u:World) (x:Value),Below wc.heap.size wc u->∀b,b<U.heap.size->b≠r->b≠pb->(u.setCell ⟨pb,k*10+8,none⟩ x).heap[b]?=U.heap[b]?):=fun u x hu b h1 h2 h3=>(Below.heap_setCell u ⟨pb,k*10+8,none⟩ _ b h3).trans ((hu.block b (Nat.lt_of_lt_of_le h1 HUW)).trans (HFc b h1 h2 h3));have HR8:Hid (∀u,Below wc.heap.size wc u->(∃v,u.cell? ⟨pb,k*10+8,none⟩=some v)∧u.frozen? ⟨pb,k*10+8,none⟩=false∧pb<u.heap.size):=fun u hu=>by obtain⟨_,_,q3,q4,q5⟩:=HRW u _ _ (HPc.below hu);exact⟨q4,q5,q3⟩
  have HS3:Hid (∀(u:World) (x:Int),u.cell? ⟨A,1,none⟩=some (Iq a0)->u.cell? ⟨pb,k*10+9,none⟩=some (Iq rm)->(u.setCell ⟨pb,k*10+8,none⟩ (Iq x)).cell? ⟨A,1,none⟩=some (Iq a0)∧(u.setCell ⟨pb,k*10+8,none⟩ (Iq x)).cell? ⟨pb,k*10+9,none⟩=some (Iq rm)):=fun u x q1 q2=>by
   refine⟨?_,?_⟩;·rw[World.cell?_setCell_other _ _ _ _ (fun e=>by injection e with e _ _;omega)];exact q1
   ·rw[World.cell?_setCell_other _ _ _ _ (fun e=>by injection e with _ e _;omega)];exact q2
  clear hov s1 s2 s3 s4 r9 f9 HC1 HS HSS HRW hrv hwr;go_wp2_with fail;go_region_held(fun W=>W.cell? ⟨A,1,none⟩=some (Iq a0)∧W.cell? ⟨pb,k*10+9,none⟩=some (Iq rm)) (go_keep) (first|(go_at_call 96;refine Calls.mono (OF1 _ (by first|exact .inl rfl|exact .inr rfl)) ?_;rintro e u1 ⟨rfl,HBu,t1,t2⟩;obtain⟨⟨v8u,r8u⟩,f8u,l8u⟩:=HR8 u1 HBu;obtain⟨o1,o2⟩:=HS3 u1 (min (max 0 ov) rm) t1 t2));all_goals go_wp2;go_end0;exact⟨rfl,HFIN _ _ HBu (by first|rfl|omega),HFF u1 _ HBu⟩
theorem in_any(f r m:Nat) x y a b s gap  X Y P Q G  L  ks  N  H  n  v  U0 U (hG:∀g,KidSpl L ks N s gap g->∀j,j<ks.length->g j=G j)
 (hf:Hid (f=97∧s=a∧(∀k,X k=x+offs G (cl gap) k∧Y k=y∧P k=G k∧Q k=b)∨f=99∧s=b∧∀k,X k=x∧Y k=y+offs G (cl gap) k∧P k=a∧Q k=G k))
 (hmm:ks.length=m) (hm:m≤200) (hr:r<U0.heap.size) (hx:-1000000000000≤x∧x≤1000000000000) (hy:-1000000000000≤y∧y≤1000000000000) (ha:0≤a∧a≤100000) (hb:0≤b∧b≤100000) (hv:Hid (RwOut U0 U r m L ks N H n v)):
 Calls prog f #[rv x y a b,Iq gap,v] U fun e U'=>∃lb,e=.returned (Sq lb m m)∧RcOut U U' lb m X Y P Q∧(ks=[]∨KidSpl L ks N s gap G)∧∀j,j<m->0≤G j∧G j≤100000:=by
 have hmix:prog.follows .mixedOrders=true:=by kernel_rfl
 obtain⟨i0,hi,hz0,hz1,hz2⟩:=info_parts infoE4;have hmk:∀W:World,(Instr.makeSlice 130 (Iq (m:Int)) (Iq (m:Int))).run prog W=.ok (Sq W.heap.size m m) (W.alloc (.cells (madeCells #[Iq 0,Iq 0,Iq 0,Iq 0] (m*4)) 48)):=fun W=>by have:=run_make (P:=prog) W 130 48 i0 _ underlying130 hi hz0 .i64 .i64 m m (by omega) (Int.le_refl _) (by rw[hz2];omega) (by omega);rw[hz1,Int.toNat_natCast]at this;exact this
 clear hi hz0 hz1 hz2;obtain⟨A,hA⟩:=nmd U.heap.size;obtain⟨lb,vv⟩:=hv.out;obtain⟨rfl,w1,w2,w3,w4⟩:=vv;have HVO:Hid (WRow U lb 0 m (fun j=>wMn (nth L (kdn ks j)) (N j)) (fun j=>atN (nth L (kdn ks j)) 2) (fun j=>atN (nth L (kdn ks j)) 3)):=w1;have hrl:r<U.heap.size:=Nat.lt_of_lt_of_le hr w3.size;obtain⟨W1,hW1⟩:=nmd ((U.alloc (.cells #[Iq x,Iq y,Iq a,Iq b] 48)).alloc (.cells (madeCells #[Iq 0,Iq 0,Iq 0,Iq 0] (m*4)) 48));have HB1:Hid (Below U.heap.size U W1):=by rw[<-hW1];exact(((Gr.refl U).alloc _).alloc _).below
 have hat:W1.heap[A]?=some (.cells #[Iq x,Iq y,Iq a,Iq b] 48 (0,0)):=by rw[<-hW1,<-hA,Below.heap_alloc _ _ _ (by rw[World.size_alloc];omega)];exact heap_alloc_new _ _
 have hrow:W1.rowIs (A+1) 48 (m*4) (rcF X Y P Q 0):=by rw[<-hW1];have:=rc_zero (U.alloc (.cells #[Iq x,Iq y,Iq a,Iq b] 48)) m X Y P Q 48;rw[World.size_alloc,hA]at this;exact this
 have HS:Hid (∀u,Below W1.heap.size W1 u->u.cell? ⟨A,0,none⟩=some (Iq x)∧u.cell? ⟨A,1,none⟩=some (Iq y)∧u.cell? ⟨A,2,none⟩=some (Iq a)∧u.cell? ⟨A,3,none⟩=some (Iq b)):=fun u hu=>by have hb2:=(hu.block A (Array.getElem?_eq_some_iff.1 hat).1).trans hat;refine⟨?_,?_,?_,?_⟩<;>(rw[Lib.cell_of_heap hb2];rfl)
 have SP:Hid (∀u q0,q0=s->Below W1.heap.size W1 u->Calls prog 140 #[Iq q0,Iq gap,Sq lb m m] u fun e u'=>∃q cq,e=.returned (.slice q m cq)∧Hid (IntsB u' W1.heap.size q m G)∧Hid (Below W1.heap.size W1 u')∧Hid (Below u.heap.size u u')∧Hid (ks=[]∨KidSpl L ks N s gap G)):=fun u q0 hq hu=>by have hub:Below U.heap.size U u:=HB1.trans (hu.mono HB1.size);rw[hq];refine(split_g hmm hm (HVO.below hub) hG).mono ?_;rintro e u' ⟨q,cq,rfl,q1,q2,q3⟩;exact⟨q,cq,rfl,q1.low hu.size,hu.trans (q2.mono hu.size),q2,q3⟩
 have OF:Hid (∀u q0,q0=s->Below W1.heap.size W1 u->Calls prog 147 #[Iq q0,Iq gap,Sq lb m m] u fun e u'=>∃q cq,e=.returned (.slice q m cq)∧Hid (IntsB u' W1.heap.size q m (offs G (cl gap)))∧Hid (Below W1.heap.size W1 u')∧Hid (Below u.heap.size u u')):=fun u q0 hq hu=>by have hub:Below U.heap.size U u:=HB1.trans (hu.mono HB1.size);rw[hq];refine(offs_g hmm hm (HVO.below hub) hG).mono ?_;rintro e u' ⟨q,cq,rfl,q1,q2⟩;exact⟨q,cq,rfl,q1.low hu.size,hu.trans (q2.mono hu.size),q2⟩
 have HROW:Hid (W1.rowIs (A+1) 48 (m*4) (rcF X Y P Q 0)):=hrow;have HA1:Hid (A+1<W1.heap.size):=HROW.lt;have HAL:Hid (A<W1.heap.size):=(Array.getElem?_eq_some_iff.1 hat).1;have HUA:Hid (U.heap.size=A):=hA;obtain⟨z0,z1,z2,z3⟩:=HS W1 (Below.refl _ _);clear hat hrow w1 w2 w3 w4 hv;unfold rv;rcases hf.out with⟨rfl,hs,HX⟩|⟨rfl,hs,HX⟩;all_goals
  have HXX:=qH HX;have HQ:=qH hs.symm;clear hs HX hf;first
   |go_enter func97,ntmps97
   |go_enter func99,ntmps99
  go_wp2_with fail;clear hW1 hA hmk;go_cut[8,9]from 14 to 23 (fun s1 s2 wx=>∃q1 c1 q2 c2,s1=.slice q1 m c1∧s2=.slice q2 m c2∧Hid (IntsB wx W1.heap.size q1 m G)∧Hid (IntsB wx W1.heap.size q2 m (offs G (cl gap)))∧Hid (Below W1.heap.size W1 wx)∧Hid (ks=[]∨KidSpl L ks N s gap G));case first=>
   go_region_held(fun W=>W.cell? ⟨A,2,none⟩=some (Iq a)∧W.cell? ⟨A,3,none⟩=some (Iq b)) (go_keep) (first
    |(go_at_call 140;refine Calls.mono (SP _ _ HQ (by first|exact Below.refl _ _|exact(Below.refl _ _).drew|exact HBo)) ?_;rintro e us ⟨qs,cqs,rfl,HIs,HBs,HXs,HKs⟩;obtain⟨s0,s1,s2,s3⟩:=HS us HBs)
    |(go_at_call 140;refine Calls.mono (SP _ _ HQ HBo) ?_;rintro e us ⟨qs,cqs,rfl,HIs,HBs,HXs,HKs⟩;obtain⟨s0,s1,s2,s3⟩:=HS us HBs)
    |(go_at_call 147;refine Calls.mono (OF _ _ HQ (by first|exact HBs|exact Below.refl _ _|exact(Below.refl _ _).drew)) ?_;rintro e uo ⟨qo,cqo,rfl,HIo,HBo,HXo⟩;obtain⟨o0,o1,o2,o3⟩:=HS uo HBo));all_goals go_wp2_with fail
   all_goals go_meet
   all_goals first
    |exact⟨qs,cqs,qo,cqo,rfl,rfl,HIs.below HXo,HIo,HBo,HKs⟩
    |exact⟨qs,cqs,qo,cqo,rfl,rfl,HIs,HIo.below HXs,HBs,HKs⟩
  case rest=>
   obtain⟨q1,c1,q2,c2,rfl,rfl,HI1,HI2,HBc,HKc⟩:=hcut;have HKG:Hid (∀j,j<m->0≤G j∧G j≤100000):=fun j hj=>by
    rcases HKc.out with e|hg;·rw[e]at hmm;simp at hmm;omega
    ·have t1:=(SplitIs.tiles hg (held_bds _ _ _)).1 j (by omega);have t2:=held_bds (fun j=>wMn (nth L (kdn ks j)) (N j)) (fun j=>atN (nth L (kdn ks j)) 2) (fun j=>atN (nth L (kdn ks j)) 3) j;(try dsimp only at t1 t2);omega
   have HKO:Hid (∀j,j<m->0≤offs G (cl gap) j∧offs G (cl gap) j≤40000000):=fun j hj=>by have:=offs_bd HKG (cl_bd gap) j (by omega);omega
   have HRC:Hid (wc.rowIs (A+1) 48 (m*4) (rcF X Y P Q 0)):=rowIs_below HROW HBc;have HSC:Hid (wc.cell? ⟨A,0,none⟩=some (Iq x)∧wc.cell? ⟨A,1,none⟩=some (Iq y)∧wc.cell? ⟨A,2,none⟩=some (Iq a)∧wc.cell? ⟨A,3,none⟩=some (Iq b)):=HS wc HBc;clear SP OF z0 z1 z2 z3 HS HROW;go_wp2_with fail;go_loopw[26] (fun kv wr=>∃k:Nat,k≤m∧kv=Iq (k:Int)∧Hid (wr.rowIs (A+1) 48 (m*4) (rcF X Y P Q k))∧Hid (Below U.heap.size U wr)∧Hid (∀bq,bq≠A+1->bq<wc.heap.size->wr.heap[bq]?=wc.heap[bq]?)∧Hid (wc.heap.size≤wr.heap.size)) (fun kv _=>m-(intOf kv).toNat);case atStart=>exact⟨0,Nat.zero_le _,rfl,HRC,HB1.trans (HBc.mono HB1.size),fun _ _ _=>rfl,Nat.le_refl _⟩
   case round=>
    obtain⟨k,hk,rfl,HR,HBU,HO,HZ⟩:=hrel;by_cases hlt:k<m
    ·have hlt':(k:Int)<(m:Int):=by omega
     obtain⟨b1,o1,rfl,l1,n1,d1⟩:=HI1.resolve_left (by omega);obtain⟨b2,o2,rfl,l2,n2,d2⟩:=HI2.resolve_left (by omega);have hAl:=HAL.out;have hA1:A+1<W1.heap.size∨W1.heap.size≤A+1:=by omega
     have hA2:A+1<W1.heap.size:=HA1.out;have c0:wr.cell? ⟨A,0,none⟩=some (Iq x):=(World.cell?_of_block (HO A (by omega) (by have:=HBc.size;omega))).trans HSC.1;have c1:wr.cell? ⟨A,1,none⟩=some (Iq y):=(World.cell?_of_block (HO A (by omega) (by have:=HBc.size;omega))).trans HSC.2.1;have c2:wr.cell? ⟨A,2,none⟩=some (Iq a):=(World.cell?_of_block (HO A (by omega) (by have:=HBc.size;omega))).trans HSC.2.2.1;have c3:wr.cell? ⟨A,3,none⟩=some (Iq b):=(World.cell?_of_block (HO A (by omega) (by have:=HBc.size;omega))).trans HSC.2.2.2;have e1:wr.cell? ⟨b1,o1+k,none⟩=some (Iq (G k)):=(World.cell?_of_block (HO b1 (by omega) l1)).trans (d1 k hlt);have e2:wr.cell? ⟨b2,o2+k,none⟩=some (Iq (offs G (cl gap) k)):=(World.cell?_of_block (HO b2 (by omega) l2)).trans (d2 k hlt);have hgk:=HKG k hlt;have hok:=HKO k hlt;have hfr:∀j,wr.frozen? ⟨A+1,j,none⟩=false:=fun j=>HR.frozen j;have hv0:∃v,wr.cell? ⟨A+1,k*4,none⟩=some v:=⟨_,HR.cell (by omega)⟩;have hv1:∃v,wr.cell? ⟨A+1,k*4+1,none⟩=some v:=⟨_,HR.cell (by omega)⟩;have hv2:∃v,wr.cell? ⟨A+1,k*4+2,none⟩=some v:=⟨_,HR.cell (by omega)⟩;have hv3:∃v,wr.cell? ⟨A+1,k*4+3,none⟩=some v:=⟨_,HR.cell (by omega)⟩;obtain⟨v0,hv0⟩:=hv0;obtain⟨v1,hv1⟩:=hv1;obtain⟨v2,hv2⟩:=hv2;obtain⟨v3,hv3⟩:=hv3;obtain⟨gk,hgke⟩:=nmd (G k);obtain⟨ok,hoke⟩:=nmd (offs G (cl gap) k);have HV:=qH<|HXX k;rw[hgke,hoke]at HV;have HNX:Hid (∀p0 p1 p2 p3:Int,X k=p0∧Y k=p1∧P k=p2∧Q k=p3->Hid (((((wr.setCell ⟨A+1,k*4,none⟩ (Iq p0)).setCell ⟨A+1,k*4+1,none⟩ (Iq p1)).setCell ⟨A+1,k*4+2,none⟩ (Iq p2)).setCell ⟨A+1,k*4+3,none⟩ (Iq p3)).rowIs (A+1) 48 (m*4) (rcF X Y P Q (k+1)))):=fun p0 p1 p2 p3 h=>rc_next HR p0 p1 p2 p3 h.1.symm h.2.1.symm h.2.2.1.symm h.2.2.2.symm;have HNB:Hid (∀p0 p1 p2 p3:Value,Below U.heap.size U ((((wr.setCell ⟨A+1,k*4,none⟩ p0).setCell ⟨A+1,k*4+1,none⟩ p1).setCell ⟨A+1,k*4+2,none⟩ p2).setCell ⟨A+1,k*4+3,none⟩ p3)):=fun p0 p1 p2 p3=>(((HBU.setCell (p:=⟨A+1,_,none⟩) (by rw[HUA.out];show A≤A+1;omega) _).setCell (p:=⟨A+1,_,none⟩) (by rw[HUA.out];show A≤A+1;omega) _).setCell (p:=⟨A+1,_,none⟩) (by rw[HUA.out];show A≤A+1;omega) _).setCell (p:=⟨A+1,_,none⟩) (by rw[HUA.out];show A≤A+1;omega) _;have HNO:Hid (∀p0 p1 p2 p3:Value,∀bq,bq≠A+1->bq<wc.heap.size->((((wr.setCell ⟨A+1,k*4,none⟩ p0).setCell ⟨A+1,k*4+1,none⟩ p1).setCell ⟨A+1,k*4+2,none⟩ p2).setCell ⟨A+1,k*4+3,none⟩ p3).heap[bq]?=wc.heap[bq]?):=fun p0 p1 p2 p3 bq h1 h2=>by rw[Below.heap_setCell _ ⟨A+1,k*4+3,none⟩ _ _ h1,Below.heap_setCell _ ⟨A+1,k*4+2,none⟩ _ _ h1,Below.heap_setCell _ ⟨A+1,k*4+1,none⟩ _ _ h1,Below.heap_setCell _ ⟨A+1,k*4,none⟩ _ _ h1];exact HO bq h1 h2
     rw[hgke]at hgk e1;rw[hoke]at hok e2;have hw1:IntKind.i64.wrap (x+ok)=x+ok:=IntWalk.i64_in _ (by omega);have hw2:IntKind.i64.wrap (y+ok)=y+ok:=IntWalk.i64_in _ (by omega);have hal:A+1<wr.heap.size:=HR.lt;have hne1:¬A=A+1:=by omega
     have hne2:¬A+1=A:=by omega
     have hne3:¬b1=A+1:=by omega
     have hne4:¬A+1=b1:=by omega
     have hne5:¬b2=A+1:=by omega
     have hne6:¬A+1=b2:=by omega
     clear hgke hoke hAl hA1 hA2 d1 d2 HR HBU HO l1 l2 n1 n2 HKG HKO;go_wp2_with fail;go_region_held(fun W=>W.cell? ⟨A,0,none⟩=some (Iq x)∧W.cell? ⟨A,1,none⟩=some (Iq y)∧W.cell? ⟨A,2,none⟩=some (Iq a)∧W.cell? ⟨A,3,none⟩=some (Iq b)∧W.cell? ⟨b1,o1+k,none⟩=some (Iq gk)∧W.cell? ⟨b2,o2+k,none⟩=some (Iq ok)) (go_keep) (fail);all_goals
      go_wp2;go_roundw;case rel=>exact⟨k+1,hlt,by go_num,HNX _ _ _ _ HV,by first|exact(HNB _ _ _ _).drew|exact HNB _ _ _ _,HNO _ _ _ _,by show _≤_;simpa using HZ.out⟩
      case measure=>simp[intOf];omega
    ·have hlt':¬(k:Int)<(m:Int):=by omega
     obtain rfl:k=m:=by omega
     go_wp2;go_ret;exact⟨A+1,rfl,⟨rc_row HR,by rw[HUA.out];omega,HBU⟩,HKc,HKG⟩
end
section
open Go.RowKit Go.Proofs.Tryz
def oCells(a b:Nat->Int):Nat->List Value
 |0=>[]
 |k+1=>oCells a b k++[Iq (a k),Iq (b k)]
theorem oCells_len a b :∀k,(oCells a b k).length=k*2
 |0=>rfl
 |k+1=>by rw[oCells,List.length_append,oCells_len a b k];simp;omega
theorem oCells_at a b :∀k j,j<k->(oCells a b k)[j*2]?=some (Iq (a j))∧(oCells a b k)[j*2+1]?=some (Iq (b j))
 |0,j,h=>by omega
 |k+1,j,h=>by
  have hl:=oCells_len a b k;by_cases e:j<k;·have:=oCells_at a b k j e;simp only[oCells];rw[List.getElem?_append_left (by omega),List.getElem?_append_left (by omega)];exact this
  ·obtain rfl:j=k:=by omega
   simp only[oCells];rw[List.getElem?_append_right (by omega),List.getElem?_append_right (by omega),hl,Nat.sub_self,show j*2+1-j*2=1 by omega];exact⟨rfl,rfl⟩
theorem cell_two_new(w:World) x y  t :∀j u,[x,y][j]?=some u->(w.alloc (.cells #[x,y] t)).cell? ((⟨w.heap.size,0,none⟩:Addr).add j)=some u:=by
 intro j u h;have e:(⟨w.heap.size,0,none⟩:Addr).add j=⟨w.heap.size,0+j,none⟩:=by unfold Addr.add;split<;>simp_all
 rw[e,Nat.zero_add,World.cell?_alloc_at _ _ _ _ rfl];rw[<-h];match j with
 |0=>rfl
 |1=>rfl
 |_+2=>rfl
theorem infoScroll:(prog.info? 42).map (fun i=>(i.zero,i.size,i.bytes))=some (some (.agg #[Iq 0,Iq 0]),2,16):=by kernel_rfl
def ScrO(w w':World)(n:Nat)(idf off:Nat->Int)(e:Ending):Prop:=∃p c,e=.returned (.slice p n c)∧Scr w' p n idf off∧(∀a:Addr,p=some a->w.heap.size≤a.block∧a.block<w'.heap.size)∧Below w.heap.size w w'
theorem scrolls_any p  n cap  idf off  w (h:Scr w p n idf off)(hn:n≤8796093022208):
 Calls prog 12 #[.slice p n cap] w fun e w'=>ScrO w w' n idf off e:=by
 obtain⟨i0,hi,hz0,hz1,hz2⟩:=info_parts infoScroll;have HW:Hid (Scr w p n idf off):=h;clear h;go_enter func12,ntmps12;go_wp2;go_loopw[3,4] (fun v i wr=>∃k:Nat,i=Iq k∧k≤n∧wr.ownsRow w.heap.size 42 2 v k (oCells idf off k)∧Below w.heap.size w wr) (fun _ i _=>n-(intOf i).toNat);case atStart=>exact⟨0,rfl,Nat.zero_le _,World.ownsRow_nil _ _ _ _,Below.refl _ _⟩
 case round=>
  obtain⟨k,rfl,hk,hown,hbw⟩:=hrel;by_cases hlt:k<n
  ·have hlt':(k:Int)<(n:Int):=by omega
   have hw1:=HW.below hbw;obtain⟨blk,o,rfl,hz,hcs⟩:=hw1.resolve_left (by omega);obtain⟨c0,c1⟩:=hcs k hlt;obtain⟨a1,ha1⟩:=nmd (idf k);obtain⟨a2,ha2⟩:=nmd (off k);rw[ha1]at c0;rw[ha2]at c1;have hzr:=hbw.size;have HS:Hid (oCells idf off (k+1)=oCells idf off k++[Iq a1,Iq a2]):=by show _=_;rw[oCells,ha1,ha2]
   clear hw1 ha1 ha2 hcs;go_wp2_with fail;go_region_law(refine step_append_own rfl (.tmp 11) (.tmp 23) 33 rfl w.heap.size 42 i0 (.agg #[Iq 0,Iq 0]) 2 16 underlying33 hi hz0 hz1 hz2 rfl (by decide) u3 k (oCells idf off k) (by simp[Act.eval]) (World.ownsRow.alloc (w:=wr.drew) hown _) _ 1 1 [Iq a1,Iq a2] (by simp[Act.eval]) rfl (cell_two_new _ _ _ _) (by intro u hu;simp at hu;rcases hu with rfl|rfl<;>rfl) (by unfold maxLen;omega) (by omega) (by simp;omega) ?_;intro v' w1 hown' hg);all_goals
    have hb1:Below w.heap.size w w1:=((hbw.trans (below_drewN (Below.refl _ _) 1)).alloc (by simp;omega) _).grown hg (by simp;omega) (fun q hq=>(hown.lt q hq).1);clear hg hown hbw;go_wp2;go_roundw;case rel=>exact⟨k+1,by go_num,by omega,by rw[HS.out];exact hown',hb1⟩
    case measure=>simp[intOf];omega
  ·have hge:¬(k:Int)<(n:Int):=by omega
   obtain rfl:n=k:=by omega
   have HV:Hid (∃p c,u3=.slice p n c∧Scr wr p n idf off∧∀a:Addr,p=some a->w.heap.size≤a.block∧a.block<wr.heap.size):=by
    have h0:=hown;rcases hown.2 with⟨rfl,rfl⟩|⟨g,cap',cur,rfl,hb,hg,h1,h2,_⟩;·exact⟨none,0,rfl,.inl rfl,fun a e=>by cases e⟩
    ·have hgl:=(Array.getElem?_eq_some_iff.1 hg).1;refine⟨some ⟨g,0,none⟩,cap',rfl,.inr ⟨g,0,rfl,hgl,fun j hj=>?_⟩,fun a e=>by cases e;exact⟨hb,hgl⟩⟩;have:=oCells_at idf off n j hj;have hl:=oCells_len idf off n;rw[h0.cellAt _ (by omega),h0.cellAt _ (by omega),Nat.zero_add];exact this
   obtain⟨p',c',rfl,hv1,hv2⟩:=HV.out;have HVV:Hid (Scr wr p' n idf off∧∀a:Addr,p'=some a->w.heap.size≤a.block∧a.block<wr.heap.size):=⟨hv1,hv2⟩;clear hown HV hv1 hv2;go_wp2;go_ret;exact⟨p',c',rfl,HVV.1,HVV.2,hbw⟩
