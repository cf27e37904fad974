import Derived.Test.YtnponhbgicbkcaaGreatDoorC45
import Derived.Test.YtnponhbgicbkcaaGreatDoorC23
import Derived.Test.YtnponhbgicbkcaaGreatDoorC21
import Derived.Test.YtnponhbgicbkcaaGreatDoorC12
import Derived.Test.YtnponhbgicbkcaaGreatDoorC42
import Derived.Test.YtnponhbgicbkcaaGreatDoorC39
import Derived.Test.YtnponhbgicbkcaaGreatDoorC46
import Derived.Deep.RegionHeld
import Derived.BigRegion
import Derived.Test.YtnponhbgicbkcaaGreatDoorC17
set_option linter.unusedVariables false
set_option maxRecDepth 100000
set_option maxHeartbeats 16000000
namespace Go.Proofs.YtnponhbgicbkcaaGreatDoor
section
open Go.RowKit Go.Sort
theorem zfn(mb r g cap wb i X:Nat)(L:List Nd)(KV:Nat->Value)(Wd:Nat->Int)(U:World)(hV:View U mb r g cap wb L KV Wd)(hX:U.cell? ⟨X,0,none⟩=some (.pointer (some ⟨mb,0,none⟩)))(hi:i<L.length) :
 Calls Tryz.prog 149 #[.int .i64 (i:Int),.pointer (some ⟨X,0,none⟩)] U fun e U'=>e=.returned (.int .i64 (Wd i))∧U'=U:=by
 have hms:=hV.ms
 have m1:U.cell? ⟨mb,1,none⟩=some (.slice (some ⟨wb,0,none⟩) L.length L.length):=by unfold Ms at hms;rw[Lib.cell_of_heap hms];rfl
 have c1:=hV.wd i hi
 have hiI:(i:Int)<(L.length:Int):=by omega
 clear hV hms
 go_enter Tryz.func149,Tryz.ntmps149
 go_wp2
 go_ret
 exact⟨rfl,rfl⟩
def z4s(U W:World)(r m:Nat)(L:List Nd)(ks:List Nat)(N:Nat->Int)(H:Nat->Int->Int)(n:Nat)(v:Value):Prop:=∃lb,v=.slice (some ⟨lb,0,none⟩) m m∧zrd U W r lb m (fun j=>wMn (nth L (kdn ks j)) (N j)) (fun j=>atN (nth L (kdn ks j)) 2) (fun j=>atN (nth L (kdn ks j)) 3) H n
theorem z89(mb r g cap wb nn:Nat)(L:List Nd)(ks:List Nat)(KV:Nat->Value)(Wd:Nat->Int)(H:Nat->Int->Int)(kd a0 a1 a2 a3 a4 a5 a6 a7 a8 a9 b0 b1 up:Int)(tx:ByteArray)(p:Option Addr)(c:Nat)(U:World)
 (hV:Hid (View U mb r g cap wb L KV Wd)) (hM:Hid (Memo U r H nn)) (hm:ks.length≤1000) (hks:Hid (∀j,j<ks.length->kdn ks j<L.length)) (hL:L.length≤1000000) (hK:Hid (z3j U r p ks.length (fun j=>(kdn ks j:Int)))) (hN:Hid (∀i,i<L.length->0≤Wd i∧Wd i≤100000)) :
 Calls Tryz.prog 98 #[.pointer (some ⟨mb,0,none⟩),ndA kd a0 a1 a2 a3 a4 a5 a6 a7 a8 a9 b0 b1 tx (.slice p ks.length c) up] U fun e U'=>∃v,e=.returned v∧z4s U U' r ks.length L ks (fun j=>Wd (kdn ks j)) H nn v:=by
 have hmf:∀ (fn:Fn) (first cap:Array Value) (w:World),(Instr.makeFunc fn first cap).run Tryz.prog w=.ok (.func fn first cap) w:=fun _ _ _ _=>rfl
 obtain⟨m,hmm⟩:∃z,ks.length=z:=⟨_,rfl⟩
 obtain⟨W1,hW1⟩:∃z,(U.alloc (.cells #[.pointer (some ⟨mb,0,none⟩)] 65)).alloc (.cells #[.int .i64 kd,.int .i64 a0,.int .i64 a1,.int .i64 a2,.int .i64 a3,.int .i64 a4,.int .i64 a5,.int .i64 a6,.int .i64 a7,.int .i64 a8,.int .i64 a9,.int .i64 b0,.int .i64 b1,.string tx,.slice p m c,.int .i64 up] 101)=z:=⟨_,rfl⟩
 obtain⟨A,hA⟩:∃z,U.heap.size=z:=⟨_,rfl⟩
 have hB1:Below U.heap.size U W1:=by rw[<-hW1];exact (((Gr.refl U).alloc _).alloc _).below
 have hG1:U.grownBy W1 (some r):=z00 hB1
 have hrl:=hM.out.lt
 have hXc:W1.heap[A]?=some (.cells #[.pointer (some ⟨mb,0,none⟩)] 65 (0,0)):=by
  rw[<-hW1,<-hA,Below.heap_alloc _ _ _ (by rw[World.size_alloc];omega)];exact heap_alloc_new _ _
 have HWN:Hid (Calls Tryz.prog 148 #[.pointer (some ⟨mb,0,none⟩),.slice p m c,.func (.func 149) #[] #[.pointer (some ⟨A,0,none⟩)]] W1 fun e U'=>∃v,e=.returned v∧z4s U U' r m L ks (fun j=>Wd (kdn ks j)) H nn v):=by
  have hV1:=hV.out.grown hG1
  have hz:∀j,cS (fun _=>0) j=0:=fun j=>by induction j with
   | zero=>rfl
   | succ j ih=>show cS (fun _=>0) j+0=0;rw[ih]
  refine (znl mb r g cap wb nn m L KV Wd H (kdn ks) (fun j=>Wd (kdn ks j)) (fun _=>0) p c A W1 hV1 (hM.out.grown_below hB1) (by omega) (by rw[<-hmm];exact hks) hL (by rw[<-hmm];exact hK.out.grown hG1) (fun j hj=>hN.out _ (hks.out j (by omega))) (fun j u hj hu hmu=>?_)).mono ?_
  ·refine (zfn mb r g cap wb (kdn ks j) A L KV Wd u (hV1.grown hu) ?_ (hks.out j (by omega))).mono ?_
   ·have hAl:=(Array.getElem?_eq_some_iff.1 hXc).1
    rw[Lib.cell_of_heap ((hu.block A hAl (fun e=>by injection e with e;omega)).trans hXc)];rfl
   ·rintro e u' ⟨rfl,rfl⟩
    exact⟨rfl,z00 (Below.refl _ _),hmu.mono (by rw[hz,hz];omega)⟩
  ·rintro e U' ⟨lb,rfl,h1,h2,h3,h4⟩
   refine⟨_,rfl,lb,rfl,h1,Nat.le_trans hB1.size h2,hG1.trans h3,h4.mono (by rw[hz];omega)⟩
 have h14:W1.cell? ⟨A+1,14,none⟩=some (.slice p m c):=by
  rw[<-hW1,World.cell?_alloc_at _ _ _ _ (by rw[World.size_alloc,hA])]
  rfl
 have h0:W1.cell? ⟨A,0,none⟩=some (.pointer (some ⟨mb,0,none⟩)):=by rw[Lib.cell_of_heap hXc];rfl
 rw[hmm]
 unfold ndA
 clear hB1 hG1 hrl hXc hV hM hks hK hN
 go_enter Tryz.func98,Tryz.ntmps98
 go_wp2_with (go_at_call 148;refine HWN.out.mono ?_;rintro e U' ⟨v,rfl,ho⟩)
 go_ret
 exact⟨_,rfl,ho⟩
theorem zeo(mb r i X Y n k:Nat)(w:Int)(H:Nat->Int->Int)(U:World)(hX:U.cell? ⟨X,0,none⟩=some (.pointer (some ⟨mb,0,none⟩)))(hY:U.cell? ⟨Y,0,none⟩=some (.int .i64 w))
 (HC:Hid (Calls Tryz.prog 23 #[.pointer (some ⟨mb,0,none⟩),.int .i64 (i:Int),.int .i64 w] U fun e u'=>e=.returned (.int .i64 (H i w))∧Hid (U.grownBy u' (some r))∧Hid (Memo u' r H k))) :
 Calls Tryz.prog 150 #[.int .i64 (i:Int),.pointer (some ⟨X,0,none⟩),.pointer (some ⟨Y,0,none⟩)] U fun e u'=>e=.returned (.int .i64 (H i w))∧Hid (U.grownBy u' (some r))∧Hid (Memo u' r H k):=by
 go_enter Tryz.func150,Tryz.ntmps150
 go_wp2_with (go_at_call 23;refine HC.out.mono ?_;rintro e U' ⟨rfl,h1,h2⟩)
 go_ret
 exact⟨rfl,h1,h2⟩
theorem zd4(mb r g cap wb nn:Nat)(w:Int)(L:List Nd)(ks:List Nat)(kc:Nat->Nat)(KV:Nat->Value)(Wd:Nat->Int)(H:Nat->Int->Int)(kd a0 a1 a2 a3 a4 a5 a6 a7 a8 a9 b0 b1 up:Int)(tx:ByteArray)(p:Option Addr)(c:Nat)(U:World)
 (hV:Hid (View U mb r g cap wb L KV Wd)) (hM:Hid (Memo U r H nn)) (hm:ks.length≤1000) (hks:Hid (∀j,j<ks.length->kdn ks j<L.length)) (hL:L.length≤1000000) (hK:Hid (z3j U r p ks.length (fun j=>(kdn ks j:Int)))) (hN:Hid (∀i w,i<L.length->0≤H i w∧H i w≤100000))
 (HK:Hid (∀j u n',j<ks.length->U.grownBy u (some r)->Memo u r H n'->n'≤nn+cS kc j->Calls Tryz.prog 23 #[.pointer (some ⟨mb,0,none⟩),.int .i64 (kdn ks j:Int),.int .i64 w] u fun e u'=>e=.returned (.int .i64 (H (kdn ks j) w))∧Hid (u.grownBy u' (some r))∧Hid (Memo u' r H (nn+cS kc (j+1))))) :
 Calls Tryz.prog 100 #[.pointer (some ⟨mb,0,none⟩),ndA kd a0 a1 a2 a3 a4 a5 a6 a7 a8 a9 b0 b1 tx (.slice p ks.length c) up,.int .i64 w] U fun e U'=>∃v,e=.returned v∧z4s U U' r ks.length L ks (fun j=>H (kdn ks j) w) H (nn+cS kc ks.length) v:=by
 have hmf:∀ (fn:Fn) (first cap:Array Value) (w:World),(Instr.makeFunc fn first cap).run Tryz.prog w=.ok (.func fn first cap) w:=fun _ _ _ _=>rfl
 obtain⟨m,hmm⟩:∃z,ks.length=z:=⟨_,rfl⟩
 obtain⟨W1,hW1⟩:∃z,((U.alloc (.cells #[.pointer (some ⟨mb,0,none⟩)] 65)).alloc (.cells #[.int .i64 kd,.int .i64 a0,.int .i64 a1,.int .i64 a2,.int .i64 a3,.int .i64 a4,.int .i64 a5,.int .i64 a6,.int .i64 a7,.int .i64 a8,.int .i64 a9,.int .i64 b0,.int .i64 b1,.string tx,.slice p m c,.int .i64 up] 101)).alloc (.cells #[.int .i64 w] 3)=z:=⟨_,rfl⟩
 obtain⟨A,hA⟩:∃z,U.heap.size=z:=⟨_,rfl⟩
 have hB1:Below U.heap.size U W1:=by rw[<-hW1];exact ((((Gr.refl U).alloc _).alloc _).alloc _).below
 have hG1:U.grownBy W1 (some r):=z00 hB1
 have hrl:=hM.out.lt
 have hXc:W1.heap[A]?=some (.cells #[.pointer (some ⟨mb,0,none⟩)] 65 (0,0)):=by
  rw[<-hW1,<-hA,Below.heap_alloc _ _ _ (by rw[World.size_alloc,World.size_alloc];omega),Below.heap_alloc _ _ _ (by rw[World.size_alloc];omega)];exact heap_alloc_new _ _
 have hYc:W1.heap[A+1+1]?=some (.cells #[.int .i64 w] 3 (0,0)):=by
  have:=heap_alloc_new ((U.alloc (.cells #[.pointer (some ⟨mb,0,none⟩)] 65)).alloc (.cells #[.int .i64 kd,.int .i64 a0,.int .i64 a1,.int .i64 a2,.int .i64 a3,.int .i64 a4,.int .i64 a5,.int .i64 a6,.int .i64 a7,.int .i64 a8,.int .i64 a9,.int .i64 b0,.int .i64 b1,.string tx,.slice p m c,.int .i64 up] 101)) (.cells #[.int .i64 w] 3)
  rw[World.size_alloc,World.size_alloc,hA,hW1] at this
  exact this
 have HWN:Hid (Calls Tryz.prog 148 #[.pointer (some ⟨mb,0,none⟩),.slice p m c,.func (.func 150) #[] #[.pointer (some ⟨A,0,none⟩),.pointer (some ⟨A+1+1,0,none⟩)]] W1 fun e U'=>∃v,e=.returned v∧z4s U U' r m L ks (fun j=>H (kdn ks j) w) H (nn+cS kc m) v):=by
  have hV1:=hV.out.grown hG1
  refine (znk mb r g cap wb nn m L KV Wd H (kdn ks) (fun j=>H (kdn ks j) w) kc p c A (A+1+1) W1 hV1 (hM.out.grown_below hB1) (by omega) (by rw[<-hmm];exact hks) hL (by rw[<-hmm];exact hK.out.grown hG1) (fun j hj=>hN.out _ _ (hks.out j (by omega))) (fun j u hj hu hmu=>?_)).mono ?_
  ·have hAl:=(Array.getElem?_eq_some_iff.1 hXc).1
   have hYl:=(Array.getElem?_eq_some_iff.1 hYc).1
   refine zeo mb r (kdn ks j) A (A+1+1) (nn+cS kc j) (nn+cS kc (j+1)) w H u ?_ ?_ (HK.out j u _ (by omega) (hG1.trans hu) hmu (Nat.le_refl _))
   ·rw[Lib.cell_of_heap ((hu.block A hAl (fun e=>by injection e with e;omega)).trans hXc)];rfl
   ·rw[Lib.cell_of_heap ((hu.block (A+1+1) hYl (fun e=>by injection e with e;omega)).trans hYc)];rfl
  ·rintro e U' ⟨lb,rfl,h1,h2,h3,h4⟩
   exact⟨_,rfl,lb,rfl,h1,Nat.le_trans hB1.size h2,hG1.trans h3,h4⟩
 have h14:W1.cell? ⟨A+1,14,none⟩=some (.slice p m c):=by
  rw[<-hW1,World.cell?_alloc_past _ _ _ (by rw[World.size_alloc,World.size_alloc];show A+1<_;omega),World.cell?_alloc_at _ _ _ _ (by rw[World.size_alloc,hA])]
  rfl
 have h0:W1.cell? ⟨A,0,none⟩=some (.pointer (some ⟨mb,0,none⟩)):=by rw[Lib.cell_of_heap hXc];rfl
 rw[hmm]
 unfold ndA
 clear hB1 hG1 hrl hXc hYc hV hM hks hK hN HK
 go_enter Tryz.func100,Tryz.ntmps100
 go_wp2_with (go_at_call 148;refine HWN.out.mono ?_;rintro e U' ⟨v,rfl,ho⟩)
 go_ret
 exact⟨_,rfl,ho⟩
theorem zfr{U u:World}{r m n:Nat}{L:List Nd}{ks:List Nat}{N:Nat->Int}{H:Nat->Int->Int}{v:Value}{w gap:Int}(hm:ks.length=m)(hm2:m≤200)(h:z4s U u r m L ks N H n v)(hr:r<U.heap.size) :
 Calls Tryz.prog 140 #[.int .i64 w,.int .i64 gap,v] u fun e u'=>z8r U u' r m H (fun V=>(ks=[]∨z1a L ks N w gap V)∧∀j,j<m->0≤V j∧V j≤100000) n e:=by
 subst hm
 obtain⟨lb,rfl,h1,h2,h3,h4⟩:=h
 refine (za3 _ ks.length _ _ _ w gap u ⟨_,_,rfl,.inr ⟨lb,0,rfl,h1⟩⟩ (by omega)).mono ?_
 rintro e u' ⟨v,rfl,hs⟩
 have hb:=hs.below
 rcases hs with ⟨h0,rfl,hu⟩|⟨q1,q2,lb2,rfl,q3,⟨gg,q4,q5⟩,q6⟩
 ·have hk:ks=[]:=by
   rcases h0 with h0|h0
   ·exact List.eq_nil_of_length_eq_zero h0
   ·omega
  refine⟨none,0,fun _=>0,⟨.inl hk,fun j hj=>by omega⟩,by rw[hk];rfl,.inl (by rw[hk];rfl),h3.trans (z00 hb),h4.grown_below hb⟩
 ·refine⟨_,_,gg,⟨.inr q5,fun j hj=>?_⟩,rfl,.inr ⟨lb2,0,rfl,q4.1,?_,fun j hj=>(q4.2 j hj).1⟩,h3.trans (z00 hb),h4.grown_below hb⟩
  ·have t1:=(q5.tiles (z36 _ _ _)).1 j hj
   have t2:=z36 (fun j=>wMn (nth L (kdn ks j)) (N j)) (fun j=>atN (nth L (kdn ks j)) 2) (fun j=>atN (nth L (kdn ks j)) 3) j
   dsimp only at t1 t2
   omega
  ·have:=h3.size;omega
end
section
open Go.RowKit Go.Sort
def KidV(L:List Nd)(ks:List Nat)(kd a4 a5 a6 w:Int)(Wd:Nat->Int)(V:Nat->Int):Prop:=(kd=0->ks=[]∨z1a L ks (fun j=>Wd (kdn ks j)) w a4 V)∧(kd≠0->∀j,j<ks.length->V j=max 0 (w - 2*frmI kd a5 a6))∧∀j,j<ks.length->0≤V j∧V j≤100000
theorem zos{W:World}{r b m:Nat}{x:Int}{Ls:List Value}(h:W.heap[b]?=some (.cells Ls.toArray 3 (0,0)))(hf:Fl1 Ls m m [.int .i64 x])(hb:b≠r):z3j W r (some ⟨b,0,none⟩) m (fun _=>x):=by
 refine .inr ⟨b,0,rfl,(Array.getElem?_eq_some_iff.1 h).1,hb,fun j hj=>?_⟩
 have:=hf.2 j 0 _ hj rfl
 rw[Nat.mul_one,Nat.add_zero] at this
 rw[Nat.zero_add,Lib.cell_of_heap h]
 simpa using this
theorem z4s.g{U W:World}{r m:Nat}{L:List Nd}{ks:List Nat}{N:Nat->Int}{H:Nat->Int->Int}{n:Nat}{v:Value}(h:z4s U W r m L ks N H n v):U.grownBy W (some r):=by
 obtain⟨_,_,_,_,h,_⟩:=h
 exact h
theorem z8r.g{U W:World}{r m:Nat}{H:Nat->Int->Int}{VOk:(Nat->Int)->Prop}{n:Nat}{e:Ending}(h:z8r U W r m H VOk n e):U.grownBy W (some r):=by
 obtain⟨_,_,_,_,_,_,h,_⟩:=h
 exact h
theorem z8r.base{U U0 W:World}{r m:Nat}{H:Nat->Int->Int}{VOk:(Nat->Int)->Prop}{n:Nat}{e:Ending}(h:z8r U W r m H VOk n e)(h0:U0.grownBy U (some r)):z8r U0 W r m H VOk n e:=by
 obtain⟨q,cq,V,h1,h2,h3,h4,h5⟩:=h
 exact⟨q,cq,V,h1,h2,h3,h0.trans h4,h5⟩
theorem zbv(mb r g cap wb nn:Nat)(w:Int)(L:List Nd)(ks:List Nat)(KV:Nat->Value)(Wd:Nat->Int)(H:Nat->Int->Int)(kd a0 a1 a2 a3 a4 a5 a6 a7 a8 a9 b0 b1 up:Int)(tx:ByteArray)(p:Option Addr)(c:Nat)(U:World)
 (hV:Hid (View U mb r g cap wb L KV Wd)) (hM:Hid (Memo U r H nn)) (hm:ks.length≤200) (hks:Hid (∀j,j<ks.length->kdn ks j<L.length)) (hL:L.length≤1000000) (hK:Hid (z3j U r p ks.length (fun j=>(kdn ks j:Int)))) (hN:Hid (∀i,i<L.length->0≤Wd i∧Wd i≤100000))
 (hw:0≤w∧w≤100000) (h5:0≤a5∧a5≤1000000) (h6:0≤a6∧a6≤1000000) :
 Calls Tryz.prog 80 #[.pointer (some ⟨mb,0,none⟩),ndA kd a0 a1 a2 a3 a4 a5 a6 a7 a8 a9 b0 b1 tx (.slice p ks.length c) up,.int .i64 w] U fun e U'=>z8r U U' r ks.length H (KidV L ks kd a4 a5 a6 w Wd) nn e:=by
 have hmix:Tryz.prog.follows .mixedOrders=true:=by kernel_rfl
 obtain⟨m,hmm⟩:∃z,ks.length=z:=⟨_,rfl⟩
 obtain⟨W1,hW1⟩:∃z,U.alloc (.cells #[.int .i64 kd,.int .i64 a0,.int .i64 a1,.int .i64 a2,.int .i64 a3,.int .i64 a4,.int .i64 a5,.int .i64 a6,.int .i64 a7,.int .i64 a8,.int .i64 a9,.int .i64 b0,.int .i64 b1,.string tx,.slice p m c,.int .i64 up] 101)=z:=⟨_,rfl⟩
 obtain⟨A,hA⟩:∃z,U.heap.size=z:=⟨_,rfl⟩
 have HB1:Hid (Below U.heap.size U W1):=by rw[<-hW1];exact ((Gr.refl U).alloc _).below
 have HG1:Hid (U.grownBy W1 (some r)):=z00 HB1.out
 have hat:W1.heap[A]?=some (.cells #[.int .i64 kd,.int .i64 a0,.int .i64 a1,.int .i64 a2,.int .i64 a3,.int .i64 a4,.int .i64 a5,.int .i64 a6,.int .i64 a7,.int .i64 a8,.int .i64 a9,.int .i64 b0,.int .i64 b1,.string tx,.slice p m c,.int .i64 up] 101 (0,0)):=by rw[<-hW1,<-hA];exact heap_alloc_new _ _
 have HAT:Hid (∀ (t:Nat) x,(#[.int .i64 kd,.int .i64 a0,.int .i64 a1,.int .i64 a2,.int .i64 a3,.int .i64 a4,.int .i64 a5,.int .i64 a6,.int .i64 a7,.int .i64 a8,.int .i64 a9,.int .i64 b0,.int .i64 b1,.string tx,.slice p m c,.int .i64 up]:Array Value)[t]?=some x->W1.cell? ⟨A,t,none⟩=some x):=fun t x ht=>by rw[Lib.cell_of_heap hat];exact ht
 have hrl:=hM.out.lt
 have HS:Hid (∀u,W1.grownBy u (some r)->u.cell? ⟨A,0,none⟩=some (.int .i64 kd)∧u.cell? ⟨A,1,none⟩=some (.int .i64 a0)∧u.cell? ⟨A,2,none⟩=some (.int .i64 a1)∧u.cell? ⟨A,3,none⟩=some (.int .i64 a2)∧u.cell? ⟨A,4,none⟩=some (.int .i64 a3)∧u.cell? ⟨A,5,none⟩=some (.int .i64 a4)∧u.cell? ⟨A,6,none⟩=some (.int .i64 a5)∧u.cell? ⟨A,7,none⟩=some (.int .i64 a6)∧u.cell? ⟨A,8,none⟩=some (.int .i64 a7)∧u.cell? ⟨A,9,none⟩=some (.int .i64 a8)∧u.cell? ⟨A,10,none⟩=some (.int .i64 a9)∧u.cell? ⟨A,11,none⟩=some (.int .i64 b0)∧u.cell? ⟨A,12,none⟩=some (.int .i64 b1)∧u.cell? ⟨A,13,none⟩=some (.string tx)∧u.cell? ⟨A,14,none⟩=some (.slice p m c)∧u.cell? ⟨A,15,none⟩=some (.int .i64 up)):=fun u hu=>by
  have hAl:A<W1.heap.size:=(Array.getElem?_eq_some_iff.1 hat).1
  have hb:u.heap[A]?=W1.heap[A]?:=hu.block A hAl (fun e=>by injection e with e;omega)
  refine⟨?_,?_,?_,?_,?_,?_,?_,?_,?_,?_,?_,?_,?_,?_,?_,?_⟩ <;> (rw[Lib.cell_of_heap (hb.trans hat)];rfl)
 have z0:W1.cell? ⟨A,0,none⟩=some (.int .i64 kd):=HAT.out 0 _ rfl
 have z1:W1.cell? ⟨A,1,none⟩=some (.int .i64 a0):=HAT.out 1 _ rfl
 have z2:W1.cell? ⟨A,2,none⟩=some (.int .i64 a1):=HAT.out 2 _ rfl
 have z3:W1.cell? ⟨A,3,none⟩=some (.int .i64 a2):=HAT.out 3 _ rfl
 have z4:W1.cell? ⟨A,4,none⟩=some (.int .i64 a3):=HAT.out 4 _ rfl
 have z5:W1.cell? ⟨A,5,none⟩=some (.int .i64 a4):=HAT.out 5 _ rfl
 have z6:W1.cell? ⟨A,6,none⟩=some (.int .i64 a5):=HAT.out 6 _ rfl
 have z7:W1.cell? ⟨A,7,none⟩=some (.int .i64 a6):=HAT.out 7 _ rfl
 have z8:W1.cell? ⟨A,8,none⟩=some (.int .i64 a7):=HAT.out 8 _ rfl
 have z9:W1.cell? ⟨A,9,none⟩=some (.int .i64 a8):=HAT.out 9 _ rfl
 have z10:W1.cell? ⟨A,10,none⟩=some (.int .i64 a9):=HAT.out 10 _ rfl
 have z11:W1.cell? ⟨A,11,none⟩=some (.int .i64 b0):=HAT.out 11 _ rfl
 have z12:W1.cell? ⟨A,12,none⟩=some (.int .i64 b1):=HAT.out 12 _ rfl
 have z13:W1.cell? ⟨A,13,none⟩=some (.string tx):=HAT.out 13 _ rfl
 have z14:W1.cell? ⟨A,14,none⟩=some (.slice p m c):=HAT.out 14 _ rfl
 have z15:W1.cell? ⟨A,15,none⟩=some (.int .i64 up):=HAT.out 15 _ rfl
 by_cases h0:kd=0
 ·subst h0
  have RW:Hid (∀u,(u=W1∨u=W1.drew)->Calls Tryz.prog 98 #[.pointer (some ⟨mb,0,none⟩),ndA 0 a0 a1 a2 a3 a4 a5 a6 a7 a8 a9 b0 b1 tx (.slice p m c) up] u fun e u'=>∃v,e=.returned v∧Hid (z4s W1 u' r m L ks (fun j=>Wd (kdn ks j)) H nn v)):=fun u hu=>by
   have hg1:W1.grownBy u (some r):=by
    rcases hu with rfl|rfl
    ·exact z00 (Below.refl _ _)
    ·exact z40 (z00 (Below.refl _ _))
   have hm1:Memo u r H nn:=by
    rcases hu with rfl|rfl
    ·exact hM.out.grown_below HB1.out
    ·exact (hM.out.grown_below HB1.out).drew
   have hgu:=HG1.out.trans hg1
   have:=z89 mb r g cap wb nn L ks KV Wd H 0 a0 a1 a2 a3 a4 a5 a6 a7 a8 a9 b0 b1 up tx p c u (hV.out.grown hgu) hm1 (by omega) hks hL (hK.out.grown hgu) hN
   rw[hmm] at this
   refine this.mono ?_
   rintro e u' ⟨v,rfl,lb,rfl,q1,q2,q3,q4⟩
   exact⟨_,rfl,lb,rfl,q1,Nat.le_trans hg1.size q2,hg1.trans q3,q4⟩
  have SP:Hid (∀v u,z4s W1 u r m L ks (fun j=>Wd (kdn ks j)) H nn v->Calls Tryz.prog 140 #[.int .i64 w,.int .i64 a4,v] u fun e u'=>∃q cq,e=.returned (.slice q m cq)∧Hid (z8r W1 u' r m H (KidV L ks 0 a4 a5 a6 w Wd) nn (.returned (.slice q m cq)))):=fun v u h=>by
   refine (zfr hmm (by omega) h (Nat.lt_of_lt_of_le hrl HB1.out.size)).mono ?_
   rintro e u' ⟨q,cq,V,⟨v1,v2⟩,rfl,q1,q2,q3⟩
   exact⟨q,cq,rfl,q,cq,V,⟨fun _=>v1,fun e=>absurd rfl e,by rw[hmm];exact v2⟩,rfl,q1,q2,q3⟩
  rw[hmm]
  unfold ndA at RW ⊢
  clear hat HAT hV hM hks hK hN h5 h6 HB1 hrl hmm
  go_enter Tryz.func80,Tryz.ntmps80
  go_wp2_with fail
  clear hW1 hA
  go_region_held (fun W=>W.cell? ⟨A,0,none⟩=some (.int .i64 0)∧W.cell? ⟨A,1,none⟩=some (.int .i64 a0)∧W.cell? ⟨A,2,none⟩=some (.int .i64 a1)∧W.cell? ⟨A,3,none⟩=some (.int .i64 a2)∧W.cell? ⟨A,4,none⟩=some (.int .i64 a3)∧W.cell? ⟨A,5,none⟩=some (.int .i64 a4)∧W.cell? ⟨A,6,none⟩=some (.int .i64 a5)∧W.cell? ⟨A,7,none⟩=some (.int .i64 a6)∧W.cell? ⟨A,8,none⟩=some (.int .i64 a7)∧W.cell? ⟨A,9,none⟩=some (.int .i64 a8)∧W.cell? ⟨A,10,none⟩=some (.int .i64 a9)∧W.cell? ⟨A,11,none⟩=some (.int .i64 b0)∧W.cell? ⟨A,12,none⟩=some (.int .i64 b1)∧W.cell? ⟨A,13,none⟩=some (.string tx)∧W.cell? ⟨A,14,none⟩=some (.slice p m c)∧W.cell? ⟨A,15,none⟩=some (.int .i64 up)) (go_keep) (first|(go_at_call 98;refine Calls.mono (RW.out _ (by first|exact .inl rfl|exact .inr rfl)) ?_;rintro e u1 ⟨v1,rfl,HO⟩;obtain⟨s0,s1,s2,s3,s4,s5,s6,s7,s8,s9,s10,s11,s12,s13,s14,s15⟩:=HS.out u1 HO.out.g)|(go_at_call 140;refine Calls.mono (SP.out _ _ HO.out) ?_;rintro e u2 ⟨q,cq,rfl,HZ⟩;obtain⟨t0,t1,t2,t3,t4,t5,t6,t7,t8,t9,t10,t11,t12,t13,t14,t15⟩:=HS.out u2 HZ.out.g))
  all_goals
   go_wp2
   go_ret
   exact HZ.out.base HG1.out
 ·have e0:(kd==0)=false:=by simpa using h0
  have hfb:=zky (kd:=kd) h5 h6
  obtain⟨f,hf⟩:∃z,frmI kd a5 a6=z:=⟨_,rfl⟩
  have FA:Hid (∀u,(u=W1∨u=W1.drew)->Calls Tryz.prog 78 #[ndA kd a0 a1 a2 a3 a4 a5 a6 a7 a8 a9 b0 b1 tx (.slice p m c) up] u fun e u'=>e=.returned (.int .i64 f)∧Hid (Below W1.heap.size W1 u')):=fun u hu=>by
   have hbu:Below W1.heap.size W1 u:=by
    rcases hu with rfl|rfl
    ·exact Below.refl _ _
    ·exact (Below.refl _ _).drew
   rw[<-hf]
   refine (z6k kd a0 a1 a2 a3 a4 a5 a6 a7 a8 a9 b0 b1 up tx p m c h5 h6 u).mono ?_
   rintro e u' ⟨rfl,q⟩
   exact⟨rfl,hbu.trans (q.out.mono hbu.size)⟩
  obtain⟨x,hx⟩:∃z,max 0 (w - 2*f)=z:=⟨_,rfl⟩
  have hxb:0≤x∧x≤100000:=by rw[hf] at hfb;omega
  have RP:Hid (∀u,Below W1.heap.size W1 u->Calls Tryz.prog 141 #[.slice (some ⟨u.heap.size,0,none⟩) 1 1,.int .i64 (m:Int)] (u.alloc (.cells #[.int .i64 x] 3)) fun e u'=>∃q cq,e=.returned (.slice q m cq)∧Hid (z8r W1 u' r m H (KidV L ks kd a4 a5 a6 w Wd) nn (.returned (.slice q m cq)))):=fun u hu=>by
   have hb2:Below W1.heap.size W1 (u.alloc (.cells #[.int .i64 x] 3)):=hu.alloc hu.size _
   have fin:∀u' q cq,Below W1.heap.size W1 u'->z3j u' r q m (fun _=>x)->z8r W1 u' r m H (KidV L ks kd a4 a5 a6 w Wd) nn (.returned (.slice q m cq)):=fun u' q cq hb hi =>
    ⟨q,cq,fun _=>x,⟨fun e=>absurd e h0,fun _ j hj=>by rw[hf];exact hx.symm,fun j hj=>hxb⟩,rfl,hi,z00 hb,(hM.out.grown_below HB1.out).grown_below hb⟩
   by_cases hz:m=0
   ·rw[hz]
    refine (zmr (u.alloc (.cells #[.int .i64 x] 3)) u.heap.size).mono ?_
    rintro e u' ⟨q,cq,rfl,hb⟩
    have:=fin u' q cq (hb2.trans (hb.mono hb2.size)) (.inl hz)
    rw[hz] at this
    exact⟨q,cq,rfl,this⟩
   ·refine (zpx (u.alloc (.cells #[.int .i64 x] 3)) x u.heap.size m (by omega) (by simp) (fun k v hk=>?_)).mono ?_
    ·rw[World.cell?_alloc_at _ _ _ _ rfl]
     match k with
     | 0=>exact hk
     | k+1=>cases hk
    ·rintro e u' ⟨rfl,⟨Ls,hl,hfl⟩,hb⟩
     have hbb:=hb2.trans (hb.mono hb2.size)
     refine⟨_,_,rfl,fin u' _ _ hbb (zos hl hfl ?_)⟩
     have:=hb2.size
     have:=HB1.out.size
     omega
  rw[hf] at hfb
  rw[hmm]
  unfold ndA at FA ⊢
  have HAl:Hid (A<W1.heap.size):=(Array.getElem?_eq_some_iff.1 hat).1
  clear hat HAT hV hM hks hK hN h5 h6 HB1 hrl hmm hf
  go_enter Tryz.func80,Tryz.ntmps80
  go_wp2_with fail
  clear hW1 hA
  have hwr1:IntKind.i64.wrap (2*f)=2*f:=IntWalk.i64_in _ (by omega)
  have hwr2:IntKind.i64.wrap (w - 2*f)=w - 2*f:=IntWalk.i64_in _ (by omega)
  have hmx:(if (0:Int)<w - 2*f then w - 2*f else 0)=x:=by rw[<-hx];split <;> omega
  go_region_held (fun W=>W.cell? ⟨A,0,none⟩=some (.int .i64 kd)∧W.cell? ⟨A,1,none⟩=some (.int .i64 a0)∧W.cell? ⟨A,2,none⟩=some (.int .i64 a1)∧W.cell? ⟨A,3,none⟩=some (.int .i64 a2)∧W.cell? ⟨A,4,none⟩=some (.int .i64 a3)∧W.cell? ⟨A,5,none⟩=some (.int .i64 a4)∧W.cell? ⟨A,6,none⟩=some (.int .i64 a5)∧W.cell? ⟨A,7,none⟩=some (.int .i64 a6)∧W.cell? ⟨A,8,none⟩=some (.int .i64 a7)∧W.cell? ⟨A,9,none⟩=some (.int .i64 a8)∧W.cell? ⟨A,10,none⟩=some (.int .i64 a9)∧W.cell? ⟨A,11,none⟩=some (.int .i64 b0)∧W.cell? ⟨A,12,none⟩=some (.int .i64 b1)∧W.cell? ⟨A,13,none⟩=some (.string tx)∧W.cell? ⟨A,14,none⟩=some (.slice p m c)∧W.cell? ⟨A,15,none⟩=some (.int .i64 up)) (go_keep) (first|(go_at_call 78;refine Calls.mono (FA.out _ (by first|exact .inl rfl|exact .inr rfl)) ?_;rintro e u1 ⟨rfl,HO⟩;obtain⟨s0,s1,s2,s3,s4,s5,s6,s7,s8,s9,s10,s11,s12,s13,s14,s15⟩:=HS.out u1 (z00 HO.out);have hne:¬A=u1.heap.size:=(by have:=HO.out.size;have:=HAl.out;omega))|(go_at_call 141;refine Calls.mono (RP.out _ HO.out) ?_;rintro e u2 ⟨q,cq,rfl,HZ⟩;obtain⟨t0,t1,t2,t3,t4,t5,t6,t7,t8,t9,t10,t11,t12,t13,t14,t15⟩:=HS.out u2 HZ.out.g))
  all_goals
   go_wp2
   go_ret
   exact HZ.out.base HG1.out
theorem zak(w kd a0 a1 a2 a3 a4 a5 a6 a7 a8 a9 b0 b1 up:Int)(tx:ByteArray)(p:Option Addr)(m c:Nat)(U:World)(ht:z0y U)(hs:tx.size≤4000)(hw:0≤w∧w≤100000) :
 Calls Tryz.prog 79 #[ndA kd a0 a1 a2 a3 a4 a5 a6 a7 a8 a9 b0 b1 tx (.slice p m c) up,.int .i64 w] U fun e U'=>e=.returned (.int .i64 (txtH a8 tx.data.toList w))∧Hid (Below U.heap.size U U'):=by
 obtain⟨W1,hW1⟩:∃z,U.alloc (.cells #[.int .i64 kd,.int .i64 a0,.int .i64 a1,.int .i64 a2,.int .i64 a3,.int .i64 a4,.int .i64 a5,.int .i64 a6,.int .i64 a7,.int .i64 a8,.int .i64 a9,.int .i64 b0,.int .i64 b1,.string tx,.slice p m c,.int .i64 up] 101)=z:=⟨_,rfl⟩
 obtain⟨A,hA⟩:∃z,U.heap.size=z:=⟨_,rfl⟩
 have HB1:Hid (Below U.heap.size U W1):=by rw[<-hW1];exact ((Gr.refl U).alloc _).below
 have hat:W1.heap[A]?=some (.cells #[.int .i64 kd,.int .i64 a0,.int .i64 a1,.int .i64 a2,.int .i64 a3,.int .i64 a4,.int .i64 a5,.int .i64 a6,.int .i64 a7,.int .i64 a8,.int .i64 a9,.int .i64 b0,.int .i64 b1,.string tx,.slice p m c,.int .i64 up] 101 (0,0)):=by rw[<-hW1,<-hA];exact heap_alloc_new _ _
 have z9:W1.cell? ⟨A,9,none⟩=some (.int .i64 a8):=by rw[Lib.cell_of_heap hat];rfl
 have z13:W1.cell? ⟨A,13,none⟩=some (.string tx):=by rw[Lib.cell_of_heap hat];rfl
 have hle:tx.data.toList.count 10≤4000:=by
  have h1:=List.count_le_length (a:=(10:UInt8)) (l:=tx.data.toList)
  have h2:tx.data.toList.length=tx.size:=by rw[Array.length_toList];rfl
  omega
 have CT:Hid (∀u,Below U.heap.size U u->Calls Tryz.prog 138 #[.string tx,.int .i64 w] u fun e u'=>e=.returned (.int .i64 ((z2j (clus (z0p tx.data.toList)) w).length:Int))∧Hid (Below U.heap.size U u')):=fun u hu=>by
  refine (zkg tx w u (ht.below hu) (by omega) (by omega) (by omega)).mono ?_
  rintro e u' ⟨rfl,q⟩
  exact⟨rfl,hu.trans (q.mono hu.size)⟩
 have C1:Hid (∀u,Calls Tryz.prog 139 #[.string tx,.string ⟨#[10]⟩] u fun e u'=>e=.returned (.int .i64 ((tx.data.toList.count 10:Nat):Int))∧u'=u):=fun u=>zkh tx 10 u
 obtain⟨k,hk⟩:∃z,tx.data.toList.count 10=z:=⟨_,rfl⟩
 rw[hk] at C1 hle
 unfold ndA
 by_cases h1:w<1
 ·have HR:Hid (txtH a8 tx.data.toList w=0):=by show _=_;unfold txtH;rw[if_pos h1]
  clear hat CT C1
  go_enter Tryz.func79,Tryz.ntmps79
  go_wp2
  go_ret
  exact⟨by rw[HR.out];rfl,HB1⟩
 ·by_cases h8:a8=1
  ·subst h8
   have HR:Hid (txtH 1 tx.data.toList w=((z2j (clus (z0p tx.data.toList)) w).length:Int)):=by show _=_;unfold txtH;rw[if_neg h1,if_pos rfl]
   obtain⟨y,hy⟩:∃z,(z2j (clus (z0p tx.data.toList)) w).length=z:=⟨_,rfl⟩
   rw[hy] at HR CT
   clear hat C1 hy
   go_enter Tryz.func79,Tryz.ntmps79
   go_wp2_with (go_at_call 138;refine Calls.mono (CT.out _ HB1.out) ?_;rintro e u ⟨rfl,HBu⟩)
   go_ret
   exact⟨by rw[HR.out];rfl,HBu⟩
  ·have e8:(a8==1)=false:=by simpa using h8
   have HR:Hid (txtH a8 tx.data.toList w=(k:Int)+1):=by show _=_;unfold txtH;rw[if_neg h1,if_neg h8,hk]
   clear hat CT hk
   go_enter Tryz.func79,Tryz.ntmps79
   go_wp2_with (go_at_call 139;refine Calls.mono (C1.out _) ?_;rintro e u ⟨rfl,hu⟩;obtain rfl:=hu.symm)
   go_ret
   exact⟨by rw[HR.out];rfl,HB1⟩
end
section
open Go.RowKit Go.Sort
theorem z0y.kept{W W':World}{r n:Nat}{H:Nat->Int->Int}(h:z0y W)(hm:Memo W r H n)(hg:W.grownBy W' (some r)):z0y W':=by
 obtain⟨es,clock,hmp⟩:=hm.map
 have key:∀ (o:Nat) v,W.cell? ⟨12,o,none⟩=some v->W'.cell? ⟨12,o,none⟩=some v:=fun o v hc=>by
  have hne:12≠r:=fun e=>by
   subst e
   simp[World.cell?,hmp] at hc
  have hlt:12<W.heap.size:=by
   by_cases q:12<W.heap.size
   ·exact q
   ·simp[World.cell?,Array.getElem?_eq_none (Nat.le_of_not_lt q)] at hc
  exact (World.cell?_of_block (hg.block _ hlt (fun e=>hne (by injection e)))).trans hc
 intro i hi
 obtain⟨h1,h2,h3⟩:=h i hi
 exact⟨key _ _ h1,key _ _ h2,key _ _ h3⟩
theorem zee(mb:Nat)(w a0 a1 a2 a3 a4 a5 a6 a7 a8 a9 b0 b1 up:Int)(tx:ByteArray)(p:Option Addr)(m c:Nat)(U:World)(ht:z0y U)(hs:tx.size≤4000)(hw:0≤w∧w≤100000) :
 Calls Tryz.prog 46 #[.pointer (some ⟨mb,0,none⟩),ndA 5 a0 a1 a2 a3 a4 a5 a6 a7 a8 a9 b0 b1 tx (.slice p m c) up,.int .i64 w] U fun e U'=>e=.returned (.int .i64 (txtH a8 tx.data.toList w))∧Hid (Below U.heap.size U U'):=by
 have HT:Hid (∀u,Below U.heap.size U u->Calls Tryz.prog 79 #[ndA 5 a0 a1 a2 a3 a4 a5 a6 a7 a8 a9 b0 b1 tx (.slice p m c) up,.int .i64 w] u fun e u'=>e=.returned (.int .i64 (txtH a8 tx.data.toList w))∧Hid (Below U.heap.size U u')):=fun u hu=>by
  refine (zak w 5 a0 a1 a2 a3 a4 a5 a6 a7 a8 a9 b0 b1 up tx p m c u (ht.below hu) hs hw).mono ?_
  rintro e u' ⟨rfl,q⟩
  exact⟨rfl,hu.trans (q.out.mono hu.size)⟩
 have HB1:Hid (∀o,Below U.heap.size U (U.alloc o)):=fun o=>((Gr.refl U).alloc _).below
 obtain⟨y,hy⟩:∃z,txtH a8 tx.data.toList w=z:=⟨_,rfl⟩
 rw[hy] at HT ⊢
 clear hy ht
 unfold ndA at HT ⊢
 go_enter Tryz.func46,Tryz.ntmps46
 go_wp2_with (go_at_call 79;refine Calls.mono (HT.out _ (HB1.out _)) ?_;rintro e u ⟨rfl,HBu⟩)
 go_ret
 exact⟨rfl,HBu⟩
def z1b(L:List Nd)(i:Nat):List Nat:=(nth L i).kids
theorem z4m{s:ByteArray}{L:List Nd}(hT:Tree s L){i j:Nat}(hi:i<L.length)(hj:j<(nth L i).kids.length):i<kdn (nth L i).kids j∧kdn (nth L i).kids j<L.length:=by
 have:=hT.nest.kid i _ hi (z7m hj)
 exact⟨this.1,this.2.1⟩
theorem Tree.kids_le{s:ByteArray}{L:List Nd}(hT:Tree s L){i:Nat}(hi:i<L.length):(nth L i).kids.length≤100:=by
 have h1:=z6t L.length (nth L i).kids (hT.nest.nd i hi) (fun x hx=>(hT.nest.kid i x hi hx).2.1)
 have:=hT.vl.cnt
 omega
structure Hs(U:World)(mb r g cap wb:Nat)(L:List Nd)(KV:Nat->Value)(Wd:Nat->Int)(H:Nat->Int->Int)(n:Nat):Prop where
 view:View U mb r g cap wb L KV Wd
 memo:Memo U r H n
 tab:z0y U
theorem Hs.grown{U U':World}{mb r g cap wb:Nat}{L:List Nd}{KV:Nat->Value}{Wd:Nat->Int}{H:Nat->Int->Int}{n n':Nat}(h:Hs U mb r g cap wb L KV Wd H n)(hg:U.grownBy U' (some r))(hm:Memo U' r H n'):Hs U' mb r g cap wb L KV Wd H n' :=
 ⟨h.view.grown hg,hm,h.tab.kept h.memo hg⟩
theorem Hs.below{U U':World}{mb r g cap wb:Nat}{L:List Nd}{KV:Nat->Value}{Wd:Nat->Int}{H:Nat->Int->Int}{n:Nat}(h:Hs U mb r g cap wb L KV Wd H n)(hb:Below U.heap.size U U'):Hs U' mb r g cap wb L KV Wd H n :=
 h.grown (z00 hb) (h.memo.grown_below hb)
theorem zid{s:ByteArray}{L:List Nd}{KV:Nat->Value}{Wd:Nat->Int}{H:Nat->Int->Int}(mb r g cap wb:Nat)(hT:Tree s L)(hS:Sz L Wd H):∀ (f i:Nat) (w:Int) (n:Nat) (U:World),i<L.length->L.length - i≤f->0≤w->w≤100000->Hs U mb r g cap wb L KV Wd H n->n+(vis (z1b L) f i).length<1000000000000 ->
    Calls Tryz.prog 23 #[.pointer (some ⟨mb,0,none⟩),.int .i64 (i:Int),.int .i64 w] U fun e U'=>e=.returned (.int .i64 (H i w))∧Hid (U.grownBy U' (some r))∧Hid (Memo U' r H (n+(vis (z1b L) f i).length)):=by
  intro f
  induction f with
  | zero=>intro i w n U hi h1;omega
  | succ f ih =>
    intro i w n U hi hf hw0 hw1 hU hn
    have hc:=hT.vl.cnt
    have hcnt:=ztb (z1b L) f i
    have hNv:=hT.vl.nv i hi
    have hbd:=hNv.bd
    have hkl:(z1b L i).length≤100:=hT.kids_le hi
    obtain⟨k,hk⟩:∃z,cS (fun j=>(vis (z1b L) f (kdn (z1b L i) j)).length) (z1b L i).length=z:=⟨_,rfl⟩
    rw[hk] at hcnt
    rw[hcnt] at hn ⊢
    obtain⟨p,c,hkv,hki⟩:=hU.view.kid i hi
    have hcells:=z7s (hU.view.len i hi) (KV i)
    have hnd:=hU.view.nd i hi
    rw[hcells] at hnd
    have hWB:W64 (i:Int):=by unfold W64;omega
    have hWw:W64 w:=by unfold W64;omega
    rw[show n+(k+1)=n+k+1 by omega]
    refine zld mb r g i n k L.length cap w H _ ((nth L i).kind:Int) (atN (nth L i) 0) (atN (nth L i) 1) (atN (nth L i) 2) (atN (nth L i) 3) (atN (nth L i) 4) (atN (nth L i) 5) (atN (nth L i) 6) (atN (nth L i) 7) (atN (nth L i) 8) (atN (nth L i) 9) (atN (nth L i) 10) (atN (nth L i) 11) (nth L i).up ⟨(nth L i).text.toArray⟩ (KV i) U hU.view.ms hU.memo hi (by omega) hWB hWw (by omega) hU.view.gl hU.view.gr (fun t x ht=>hnd t x (by simpa using ht)) (fun W hb hmW=>?_)
    rw[hkv]
    have hWs:Hs W mb r g cap wb L KV Wd H n:=hU.grown (z00 hb) hmW
    by_cases h5:(nth L i).kind=5
    · have hts:(⟨(nth L i).text.toArray⟩:ByteArray).size≤4000:=by
        have h1:=hT.vl.tl i hi
        have h2:=hT.sz
        show (nth L i).text.toArray.size≤4000
        rw[List.size_toArray];omega
      have:=zee mb w (atN (nth L i) 0) (atN (nth L i) 1) (atN (nth L i) 2) (atN (nth L i) 3) (atN (nth L i) 4) (atN (nth L i) 5) (atN (nth L i) 6) (atN (nth L i) 7) (atN (nth L i) 8) (atN (nth L i) 9) (atN (nth L i) 10) (atN (nth L i) 11) (nth L i).up ⟨(nth L i).text.toArray⟩ p (nth L i).kids.length c W hWs.tab hts ⟨hw0,hw1⟩
      rw[h5]
      refine this.mono ?_
      rintro e U' ⟨rfl,q⟩
      exact⟨_,rfl,(hS.ht i w hi h5).symm,z00 q.out,(hmW.grown_below q.out).mono (by omega)⟩
    · have hkd5:((nth L i).kind:Int)≠5:=by omega
      have:=zte mb r n (nth L i).kids.length w H (KidV L (nth L i).kids (nth L i).kind (atN (nth L i) 4) (atN (nth L i) 5) (atN (nth L i) 6) w Wd) (kdn (nth L i).kids) (fun j=>(vis (z1b L) f (kdn (z1b L i) j)).length)
        ((nth L i).kind:Int) (atN (nth L i) 0) (atN (nth L i) 1) (atN (nth L i) 2) (atN (nth L i) 3) (atN (nth L i) 4) (atN (nth L i) 5) (atN (nth L i) 6) (atN (nth L i) 7) (atN (nth L i) 8) (atN (nth L i) 9) (atN (nth L i) 10) (atN (nth L i) 11) (nth L i).up ⟨(nth L i).text.toArray⟩ p c W
        hkd5 (by show (z1b L i).length≤1000;omega) (by omega) (by omega) (by omega) (fun j v hj=>hS.hb _ v (z4m hT hi hj).2) (fun j hj=>by have:=(z4m hT hi hj).2;omega) hmW.lt hmW (hki.grown (z00 hb))
        (fun u hu hmu=>zbv mb r g cap wb n w L (nth L i).kids KV Wd H _ _ _ _ _ _ _ _ _ _ _ _ _ _ _ p c u (hWs.view.grown (z00 hu)) hmu (by show (z1b L i).length≤200;omega) (fun j hj=>(z4m hT hi hj).2) (by omega) ((hki.grown (z00 hb)).grown (z00 hu)) (fun j hj=>hS.wb j hj) ⟨hw0,hw1⟩ (by omega) (by omega))
        (fun V hV j u nn hj hu hmu hnn=>by
          have hkj:=z4m hT hi hj
          have hVj:=hV.2.2 j hj
          have hb2:cS (fun j=>(vis (z1b L) f (kdn (z1b L i) j)).length) (j+1)≤k:=by
            rw[<-hk]
            have mono:∀a b,a≤b->cS (fun j=>(vis (z1b L) f (kdn (z1b L i) j)).length) a≤cS (fun j=>(vis (z1b L) f (kdn (z1b L i) j)).length) b:=by
              intro a b hab
              induction b with
              | zero => obtain rfl : a = 0 := by omega
                        exact Nat.le_refl _
              | succ b ihb =>
                by_cases e:a=b+1
                · subst e;exact Nat.le_refl _
                · have:=ihb (by omega)
                  show _≤cS _ b+_
                  omega
            exact mono _ _ hj
          have hst:cS (fun j=>(vis (z1b L) f (kdn (z1b L i) j)).length) (j+1)=cS (fun j=>(vis (z1b L) f (kdn (z1b L i) j)).length) j+(vis (z1b L) f (kdn (z1b L i) j)).length:=rfl
          have hr:=ih (kdn (nth L i).kids j) (V j) nn u hkj.2 (by omega) hVj.1 hVj.2 (hWs.grown hu hmu) (by
            show nn+(vis (z1b L) f (kdn (z1b L i) j)).length<_
            omega)
          refine hr.mono ?_
          rintro e u' ⟨rfl,q1,q2⟩
          refine⟨rfl,q1,q2.out.mono ?_⟩
          show nn+(vis (z1b L) f (kdn (z1b L i) j)).length≤_
          omega)
      refine this.mono ?_
      rintro e U' ⟨V,hV,rfl,q1,q2⟩
      refine⟨_,rfl,?_,q1,q2.mono (by rw[<-hk];exact Nat.le_refl _)⟩
      by_cases h0:(nth L i).kind=0
      · rw[hS.hr i w V hi h0 (hV.1 (by omega))];rfl
      · rw[hS.ho i w hi h5 h0]
        unfold zdu
        rw[zb2 fun j hj=>?_]
        rw[hV.2.1 (by omega) j hj]
        rfl
theorem zav{s:ByteArray}{L:List Nd}{KV:Nat->Value}{Wd:Nat->Int}{H:Nat->Int->Int}(mb r g cap wb:Nat)(hT:Tree s L)(hS:Sz L Wd H)(i:Nat)(w:Int)(n:Nat)(U:World)(hi:i<L.length)(hw0:0≤w)(hw1:w≤100000)(hU:Hs U mb r g cap wb L KV Wd H n)(hn:n≤100000000) :
 Calls Tryz.prog 23 #[.pointer (some ⟨mb,0,none⟩),.int .i64 (i:Int),.int .i64 w] U fun e U'=>e=.returned (.int .i64 (H i w))∧Hid (U.grownBy U' (some r))∧Hid (Memo U' r H (n+100)):=by
 have h1:=ztc (kids:=z1b L) hT.nest L.length i hi
 have h2:=hT.vl.cnt
 refine (zid mb r g cap wb hT hS L.length i w n U hi (by omega) hw0 hw1 hU (by omega)).mono ?_
 rintro e U' ⟨rfl,q1,q2⟩
 exact⟨rfl,q1,q2.out.mono (by omega)⟩
end
section
open Go.RowKit Go.Sort
theorem zck(mb:Nat)(a0 a1 a2 a3 a4 a5 a6 a7 a8 a9 b0 b1 up:Int)(tx:ByteArray)(p:Option Addr)(m c:Nat)(U:World)(ht:z0y U)(hs:tx.size≤4000) :
 Calls Tryz.prog 45 #[.pointer (some ⟨mb,0,none⟩),ndA 5 a0 a1 a2 a3 a4 a5 a6 a7 a8 a9 b0 b1 tx (.slice p m c) up] U fun e U'=>e=.returned (.int .i64 (txtW tx.data.toList))∧Hid (Below U.heap.size U U'):=by
 have HT:Hid (∀u,Below U.heap.size U u->Calls Tryz.prog 76 #[.string tx] u fun e u'=>e=.returned (.int .i64 (txtW tx.data.toList))∧Hid (Below U.heap.size U u')):=fun u hu=>by
  refine (zjn tx u (ht.below hu) hs).mono ?_
  rintro e u' ⟨rfl,q⟩
  exact⟨rfl,hu.trans (q.mono hu.size)⟩
 have HB1:Hid (∀o,Below U.heap.size U (U.alloc o)):=fun o=>((Gr.refl U).alloc _).below
 obtain⟨y,hy⟩:∃z,txtW tx.data.toList=z:=⟨_,rfl⟩
 rw[hy] at HT ⊢
 clear hy ht
 unfold ndA
 go_enter Tryz.func45,Tryz.ntmps45
 go_wp2_with (go_at_call 76;refine Calls.mono (HT.out _ (HB1.out _)) ?_;rintro e u ⟨rfl,HBu⟩)
 go_ret
 exact⟨rfl,HBu⟩
theorem zef(mb r wb N m:Nat)(Wd:Nat->Int)(ks:Nat->Nat)(kd a0 a1 a2 a3 a4 a5 a6 a7 a8 a9 b0 b1 up:Int)(tx:ByteArray)(nv:Value)(p:Option Addr)(c:Nat)(U:World)
 (hk5:kd≠5) (hm:m≤1000) (hN:N≤1000000) (h4:0≤a4∧a4≤1000000) (h5:0≤a5∧a5≤1000000) (h6:0≤a6∧a6≤1000000) (hh:Hid (∀j,j<m->0≤Wd (ks j)∧Wd (ks j)≤100000)) (hkk:Hid (∀j,j<m->ks j<N))
 (hMs:Ms U mb nv (.slice (some ⟨wb,0,none⟩) N N) r) (hwl:wb<U.heap.size) (hK:Hid (z3j U r p m (fun j=>(ks j:Int)))) (hW:Hid (∀j,j<m->U.cell? ⟨wb,ks j,none⟩=some (.int .i64 (Wd (ks j))))) :
 Calls Tryz.prog 45 #[.pointer (some ⟨mb,0,none⟩),ndA kd a0 a1 a2 a3 a4 a5 a6 a7 a8 a9 b0 b1 tx (.slice p m c) up] U fun e U'=>e=.returned (.int .i64 (rawW kd a4 a5 a6 (fun j=>Wd (ks j)) m))∧Hid (Below U.heap.size U U'):=by
 have e5:(kd==5)=false:=by simpa using hk5
 obtain⟨h,hh'⟩:∃h:Nat->Int,(fun j=>Wd (ks j))=h:=⟨_,rfl⟩
 have HHE:Hid (∀j,Wd (ks j)=h j):=fun j=>by rw[<-hh']
 have hh2:Hid (∀j,j<m->0≤h j∧h j≤100000):=fun j hj=>by rw[<-HHE.out j];exact hh.out j hj
 rw[hh']
 obtain⟨U1,hU1⟩:∃z,U.alloc (.cells #[.int .i64 kd,.int .i64 a0,.int .i64 a1,.int .i64 a2,.int .i64 a3,.int .i64 a4,.int .i64 a5,.int .i64 a6,.int .i64 a7,.int .i64 a8,.int .i64 a9,.int .i64 b0,.int .i64 b1,.string tx,.slice p m c,.int .i64 up] 101)=z:=⟨_,rfl⟩
 obtain⟨A,hA⟩:∃z,U.heap.size=z:=⟨_,rfl⟩
 have HB1:Hid (Below U.heap.size U U1):=by rw[<-hU1];exact ((Gr.refl U).alloc _).below
 have hat:U1.heap[A]?=some (.cells #[.int .i64 kd,.int .i64 a0,.int .i64 a1,.int .i64 a2,.int .i64 a3,.int .i64 a4,.int .i64 a5,.int .i64 a6,.int .i64 a7,.int .i64 a8,.int .i64 a9,.int .i64 b0,.int .i64 b1,.string tx,.slice p m c,.int .i64 up] 101 (0,0)):=by rw[<-hU1,<-hA];exact heap_alloc_new _ _
 have HAT:Hid (∀ (t:Nat) x,(#[.int .i64 kd,.int .i64 a0,.int .i64 a1,.int .i64 a2,.int .i64 a3,.int .i64 a4,.int .i64 a5,.int .i64 a6,.int .i64 a7,.int .i64 a8,.int .i64 a9,.int .i64 b0,.int .i64 b1,.string tx,.slice p m c,.int .i64 up]:Array Value)[t]?=some x->U1.cell? ⟨A,t,none⟩=some x):=fun t x ht=>by rw[Lib.cell_of_heap hat];exact ht
 have z0:U1.cell? ⟨A,0,none⟩=some (.int .i64 kd):=HAT.out 0 _ rfl
 have z1:U1.cell? ⟨A,1,none⟩=some (.int .i64 a0):=HAT.out 1 _ rfl
 have z2:U1.cell? ⟨A,2,none⟩=some (.int .i64 a1):=HAT.out 2 _ rfl
 have z3:U1.cell? ⟨A,3,none⟩=some (.int .i64 a2):=HAT.out 3 _ rfl
 have z4:U1.cell? ⟨A,4,none⟩=some (.int .i64 a3):=HAT.out 4 _ rfl
 have z5:U1.cell? ⟨A,5,none⟩=some (.int .i64 a4):=HAT.out 5 _ rfl
 have z6:U1.cell? ⟨A,6,none⟩=some (.int .i64 a5):=HAT.out 6 _ rfl
 have z7:U1.cell? ⟨A,7,none⟩=some (.int .i64 a6):=HAT.out 7 _ rfl
 have z8:U1.cell? ⟨A,8,none⟩=some (.int .i64 a7):=HAT.out 8 _ rfl
 have z9:U1.cell? ⟨A,9,none⟩=some (.int .i64 a8):=HAT.out 9 _ rfl
 have z10:U1.cell? ⟨A,10,none⟩=some (.int .i64 a9):=HAT.out 10 _ rfl
 have z11:U1.cell? ⟨A,11,none⟩=some (.int .i64 b0):=HAT.out 11 _ rfl
 have z12:U1.cell? ⟨A,12,none⟩=some (.int .i64 b1):=HAT.out 12 _ rfl
 have z13:U1.cell? ⟨A,13,none⟩=some (.string tx):=HAT.out 13 _ rfl
 have z14:U1.cell? ⟨A,14,none⟩=some (.slice p m c):=HAT.out 14 _ rfl
 have z15:U1.cell? ⟨A,15,none⟩=some (.int .i64 up):=HAT.out 15 _ rfl
 have m1:U1.cell? ⟨mb,1,none⟩=some (.slice (some ⟨wb,0,none⟩) N N):=by
  have hml:mb<U.heap.size:=(Array.getElem?_eq_some_iff.1 hMs).1
  have hb:U1.heap[mb]?=_:=(HB1.out.block mb hml).trans hMs
  rw[Lib.cell_of_heap hb];rfl
 have HK2:Hid (z3j U1 r p m (fun j=>(ks j:Int))):=hK.out.grown (z00 HB1.out)
 have HW1:Hid (∀j,j<m->U1.cell? ⟨wb,ks j,none⟩=some (.int .i64 (h j))):=fun j hj=>by rw[<-HHE.out j];exact (HB1.out.cell (p:=⟨wb,_,none⟩) hwl).trans (hW.out j hj)
 clear hat hh' hMs hK hW hh HHE
 unfold ndA
 go_enter Tryz.func45,Tryz.ntmps45
 go_wp2_with fail
 generalize hnv:Value.agg #[.int .i64 kd,.int .i64 a0,.int .i64 a1,.int .i64 a2,.int .i64 a3,.int .i64 a4,.int .i64 a5,.int .i64 a6,.int .i64 a7,.int .i64 a8,.int .i64 a9,.int .i64 b0,.int .i64 b1,.string tx,.slice p m c,.int .i64 up]=ndv
 go_loopw [5,6,18] (fun sv gv kv wr=>∃k:Nat,k≤m∧kv=.int .i64 (k:Int)∧sv=.int .i64 (hS h k)∧gv=.int .i64 (hG h k)∧wr=U1) (fun _ _ kv _=>m - (intOf kv).toNat)
 case atStart=>exact⟨0,Nat.zero_le _,rfl,rfl,rfl,rfl⟩
 case round =>
  obtain⟨k,hk,rfl,rfl,rfl,hwr⟩:=hrel
  subst hwr
  by_cases hlt:k<m
  ·have hlt':(k:Int)<(m:Int):=by omega
   have hbs:=zl9 hh2.out k hk
   have hbg:=zl8 hh2.out k hk
   have hbh:=hh2.out k hlt
   have hkb:=hkk.out k hlt
   have hkI:(ks k:Int)<(N:Int):=by omega
   obtain⟨kb,ko,rfl,_,_,hck⟩:=HK2.out.resolve_left (by omega)
   have ck:=hck k hlt
   have cv:=HW1.out k hlt
   obtain⟨S,hS'⟩:∃z,hS h k=z:=⟨_,rfl⟩
   obtain⟨G,hG'⟩:∃z,hG h k=z:=⟨_,rfl⟩
   obtain⟨x,hx⟩:∃z,h k=z:=⟨_,rfl⟩
   have HS1:Hid (hS h (k+1)=S+x):=by show _=_;rw[<-hS',<-hx];rfl
   have HG1:Hid (hG h (k+1)=max G x):=by show _=_;rw[<-hG',<-hx];rfl
   rw[hS'] at hbs
   rw[hG'] at hbg
   rw[hx] at hbh cv
   rw[hS',hG']
   clear hS' hG' hx hck hU1 hA hnv h4 h5 h6 hk5 HB1
   go_wp2
   all_goals
    go_roundw
    case rel=>exact⟨k+1,hlt,by go_num,by rw[HS1.out],by rw[HG1.out],by first|trivial|rfl⟩
    case measure=>simp[intOf];omega
  ·have hlt':¬(k:Int)<(m:Int):=by omega
   obtain rfl:k=m:=by omega
   have hbs:=zl9 hh2.out k hk
   have hbg:=zl8 hh2.out k hk
   have GA:Hid (∀u,Calls Tryz.prog 77 #[ndA kd a0 a1 a2 a3 a4 a5 a6 a7 a8 a9 b0 b1 tx (.slice p k c) up] u fun e w'=>e=.returned (.int .i64 (gapI a4 k))∧Hid (Below u.heap.size u w')):=fun u=>zgd kd a0 a1 a2 a3 a4 a5 a6 a7 a8 a9 b0 b1 up tx p k c h4 (by omega) u
   have FA:Hid (∀u,Calls Tryz.prog 78 #[ndA kd a0 a1 a2 a3 a4 a5 a6 a7 a8 a9 b0 b1 tx (.slice p k c) up] u fun e w'=>e=.returned (.int .i64 (frmI kd a5 a6))∧Hid (Below u.heap.size u w')):=fun u=>z6k kd a0 a1 a2 a3 a4 a5 a6 a7 a8 a9 b0 b1 up tx p k c h5 h6 u
   have hgb:0≤gapI a4 k∧gapI a4 k≤1000000000000:=by
    unfold gapI
    have hq1:0≤max 0 ((k:Int) - 1)∧max 0 ((k:Int) - 1)≤1000000:=by omega
    exact⟨Int.mul_nonneg h4.1 hq1.1,Int.mul_le_mul h4.2 hq1.2 hq1.1 (by omega)⟩
   have hfb:=zky (kd:=kd) h5 h6
   unfold ndA at GA FA
   rw[hnv] at GA FA
   clear hU1 hA hh2 hkk HW1 HK2 m1
   by_cases h0:kd=0
   ·subst h0
    have hraw:rawW 0 a4 a5 a6 h k=hS h k+gapI a4 k:=by unfold rawW;rw[if_pos rfl]
    obtain⟨S,hS'⟩:∃z,hS h k=z:=⟨_,rfl⟩
    obtain⟨gg,hgg⟩:∃z,gapI a4 k=z:=⟨_,rfl⟩
    rw[hS',hgg] at hraw
    have HRW:Hid (rawW 0 a4 a5 a6 h k=S+gg):=hraw
    rw[hS'] at hbs ⊢
    rw[hgg] at hgb GA
    clear hS' hgg hraw
    go_wp2_with (go_at_call 77;refine (GA.out _).mono ?_;rintro e wz ⟨rfl,HBz⟩)
    go_ret
    exact⟨by rw[HRW.out];rfl,HB1.out.trans (HBz.out.mono HB1.out.size)⟩
   ·have hraw:rawW kd a4 a5 a6 h k=hG h k+2*frmI kd a5 a6:=by unfold rawW;rw[if_neg h0]
    have e1:(kd==0)=false:=by simpa using h0
    obtain⟨S,hS'⟩:∃z,hG h k=z:=⟨_,rfl⟩
    obtain⟨gg,hgg⟩:∃z,frmI kd a5 a6=z:=⟨_,rfl⟩
    rw[hS',hgg] at hraw
    have HRW:Hid (rawW kd a4 a5 a6 h k=S+2*gg):=hraw
    rw[hS'] at hbg ⊢
    rw[hgg] at hfb FA
    clear hS' hgg hraw
    go_wp2_with (go_at_call 78;refine (FA.out _).mono ?_;rintro e wz ⟨rfl,HBz⟩)
    go_ret
    exact⟨by rw[HRW.out];rfl,HB1.out.trans (HBz.out.mono HB1.out.size)⟩
end
section
open Go.RowKit Go.Sort
structure NdV(U:World)(r g:Nat)(L:List Nd)(KV:Nat->Value):Prop where
 gl:g<U.heap.size
 gr:g≠r
 len:∀j,j<L.length->(nth L j).attr.length=12
 nd:∀j,j<L.length->∀ (t:Nat) x,(z0k (nth L j) (KV j))[t]?=some x->U.cell? ⟨g,j*16+t,none⟩=some x
 kid:∀j,j<L.length->∃p c,KV j=.slice p (nth L j).kids.length c∧z3j U r p (nth L j).kids.length (fun t=>(kdn (nth L j).kids t:Int))
theorem NdV.grown{U U':World}{r g:Nat}{L:List Nd}{KV:Nat->Value}(h:NdV U r g L KV)(hg:U.grownBy U' (some r)):NdV U' r g L KV:=by
 refine⟨Nat.lt_of_lt_of_le h.gl hg.size,h.gr,h.len,fun j hj t x ht=>(World.cell?_of_block (hg.block g h.gl (fun q=>h.gr (by simpa using q)))).trans (h.nd j hj t x ht),fun j hj=>?_⟩
 obtain⟨p,c,e,hk⟩:=h.kid j hj
 exact⟨p,c,e,hk.grown hg⟩
theorem PN.ndv{W:World}{B g cap r:Nat}{L:List Nd}{KV:Nat->Value}(h:PN W B (.slice (some ⟨g,0,none⟩) L.length cap) L KV)(hr:W.heap.size≤r):NdV W r g L KV:=by
 obtain⟨xs,hx⟩:=h.nr.row
 have hgl:g<W.heap.size:=by
  rcases z2q hx with ⟨e,_⟩|⟨g',cap',e,_,hl,_⟩
  ·cases e
  ·injection e with e1 e2 e3
   injection e1 with e1
   injection e1 with e1
   omega
 refine⟨hgl,by omega,h.len,fun j hj t x ht=>h.nr.cells g rfl j hj t x ht,fun j hj=>?_⟩
 rcases z2q (h.nr.kids j hj) with ⟨e,h0⟩|⟨g',cap',e,_,hl,_⟩
 ·refine⟨none,0,by rw[e,h0],.inl h0⟩
 ·refine⟨_,_,e,.inr ⟨g',0,rfl,hl,by omega,fun i hi=>?_⟩⟩
  have hk:=h.nr.kids j hj
  rw[e] at hk
  rw[Nat.zero_add,hk.cellAt i (by omega)]
  unfold z6o kdn
  rw[List.getElem?_map]
  simp[hi]
def wdF(Wd:Nat->Int)(k j:Nat):Value:=.int .i64 (if j<k then 0 else Wd j)
structure Nm(U W:World)(mb r g cap wb:Nat)(L:List Nd)(KV:Nat->Value)(Wd:Nat->Int)(H:Nat->Int->Int)(k:Nat):Prop where
 bel:Below U.heap.size U W
 nds:NdV W r g L KV
 ms:Ms W mb (.slice (some ⟨g,0,none⟩) L.length cap) (.slice (some ⟨wb,0,none⟩) L.length L.length) r
 row:W.rowIs wb 3 L.length (wdF Wd k)
 mm:Memo W r H 0
 hwb:U.heap.size≤wb
 ne:wb≠r∧wb≠mb∧wb≠g∧mb≠r
 tab:z0y W
theorem Nm.below{U W W':World}{mb r g cap wb:Nat}{L:List Nd}{KV:Nat->Value}{Wd:Nat->Int}{H:Nat->Int->Int}{k:Nat}(h:Nm U W mb r g cap wb L KV Wd H k)(hb:Below W.heap.size W W'):Nm U W' mb r g cap wb L KV Wd H k :=
 ⟨h.bel.trans (hb.mono h.bel.size),h.nds.grown (z00 hb),(hb.block mb (Array.getElem?_eq_some_iff.1 h.ms).1).trans h.ms,z4h h.row hb,h.mm.grown_below hb,h.hwb,h.ne,h.tab.below hb⟩
theorem Nm.set{U W:World}{mb r g cap wb i:Nat}{L:List Nd}{KV:Nat->Value}{Wd:Nat->Int}{H:Nat->Int->Int}(h:Nm U W mb r g cap wb L KV Wd H (i+1))(hkw:∀j p c,j<L.length->KV j=.slice p (nth L j).kids.length c->∀b o,p=some ⟨b,o,none⟩->b≠wb)(htw:12≠wb):Nm U (W.setCell ⟨wb,i,none⟩ (.int .i64 (Wd i))) mb r g cap wb L KV Wd H i:=by
 have key:∀b,b≠wb->(W.setCell ⟨wb,i,none⟩ (.int .i64 (Wd i))).heap[b]?=W.heap[b]?:=fun b hb=>Below.heap_setCell W ⟨wb,i,none⟩ _ b hb
 have hc:∀b o,b≠wb->(W.setCell ⟨wb,i,none⟩ (.int .i64 (Wd i))).cell? ⟨b,o,none⟩=W.cell? ⟨b,o,none⟩:=fun b o hb=>World.cell?_of_block (a:=⟨b,o,none⟩) (key b hb)
 obtain⟨n1,n2,n3,n4⟩:=h.ne
 refine⟨h.bel.setCell (p:=⟨wb,i,none⟩) h.hwb _,⟨by simpa using h.nds.gl,h.nds.gr,h.nds.len,fun j hj t x ht=>(hc g _ (fun e=>n3 e.symm)).trans (h.nds.nd j hj t x ht),fun j hj=>?_⟩,(key mb (fun e=>n2 e.symm)).trans h.ms,(h.row.set i _).congr fun j hj=>?_,h.mm.set n1 _,h.hwb,h.ne,fun j hj=>?_⟩
 ·obtain⟨p,c,e,hk⟩:=h.nds.kid j hj
  refine⟨p,c,e,?_⟩
  rcases hk with hk|⟨b,o,e2,k1,k2,k3⟩
  ·exact .inl hk
  ·exact .inr ⟨b,o,e2,by simpa using k1,k2,fun q hq=>(hc b _ (hkw j p c hj e b o e2)).trans (k3 q hq)⟩
 ·unfold wdF
  by_cases e:j=i
  ·rw[if_pos e,e,if_neg (by omega)]
  ·rw[if_neg e]
   by_cases l:j<i
   ·rw[if_pos l,if_pos (by omega)]
   ·rw[if_neg l,if_neg (by omega)]
 ·obtain⟨t1,t2,t3⟩:=h.tab j hj
  exact⟨(hc _ _ htw).trans t1,(hc _ _ htw).trans t2,(hc _ _ htw).trans t3⟩
theorem zds(w:World)(n:Nat)(Wd:Nat->Int):(w.alloc (.cells (madeCells #[.int .i64 0] n) 3)).rowIs w.heap.size 3 n (wdF Wd n) :=
 (World.rowIs_made w (.int .i64 0) n _).congr fun j hj=>by unfold wdF;rw[if_pos hj]
theorem zag{s:ByteArray}{L:List Nd}{KV:Nat->Value}{Wd:Nat->Int}{H:Nat->Int->Int}(g cap:Nat)(hT:Tree s L)(hS:Sz L Wd H)(U:World)(B:Nat)(hP:PN U B (.slice (some ⟨g,0,none⟩) L.length cap) L KV)(ht:z0y U) :
 Calls Tryz.prog 22 #[.slice (some ⟨g,0,none⟩) L.length cap] U fun e U'=>∃mb r wb,e=.returned (.pointer (some ⟨mb,0,none⟩))∧Below U.heap.size U U'∧Hs U' mb r g cap wb L KV Wd H 0∧U.heap.size≤r:=by
 obtain⟨N,hN⟩:∃z,L.length=z:=⟨_,rfl⟩
 have hc:=hT.vl.cnt
 have hpos:=hT.pos
 rw[hN] at hc hpos
 obtain⟨wb,hwb⟩:∃z,U.heap.size=z:=⟨_,rfl⟩
 have hmk:=run_make_row' (P:=Tryz.prog) 67 3 (.int .i64 0) 8 Tryz.underlying67 zbq rfl .i64 .i64 N (by omega) (by omega)
 obtain⟨W1,hW1⟩:∃z,((U.alloc (.cells (madeCells #[.int .i64 0] N) 3)).alloc (.map #[] 0)).alloc (.cells #[.slice (some ⟨g,0,none⟩) N cap,.slice (some ⟨wb,0,none⟩) N N,.map (some (wb+1))] 70)=z:=⟨_,rfl⟩
 have hb1:Below U.heap.size U W1:=by rw[<-hW1];exact (((Gr.refl U).alloc _).alloc _).alloc _ |>.below
 have hnd0:NdV U (wb+1) g L KV:=hP.ndv (by omega)
 have hgl:=hnd0.gl
 have htl:12<U.heap.size:=by
  obtain⟨h1,_⟩:=ht 0 (by decide)
  by_cases q:12<U.heap.size
  ·exact q
  ·simp[World.cell?,Array.getElem?_eq_none (Nat.le_of_not_lt q)] at h1
 have HKW:Hid (∀j p c,j<L.length->KV j=.slice p (nth L j).kids.length c->∀b o,p=some ⟨b,o,none⟩->b≠wb):=fun j p c hj e b o e2=>by
  rcases z2q (hP.nr.kids j hj) with ⟨e3,h0⟩|⟨g',cap',e3,_,hl,_⟩
  ·rw[e] at e3
   injection e3 with e4
   rw[e2] at e4
   cases e4
  ·rw[e] at e3
   injection e3 with e4
   rw[e2] at e4
   injection e4 with e4
   injection e4 with e4
   omega
 have HNM:Hid (Nm U W1 (wb+1+1) (wb+1) g cap wb L KV Wd H N):=by
  refine⟨hb1,hnd0.grown (z00 hb1),?_,?_,?_,by omega,⟨by omega,by omega,by omega,by omega⟩,ht.below hb1⟩
  ·rw[hN,<-hW1]
   have:=heap_alloc_new ((U.alloc (.cells (madeCells #[.int .i64 0] N) 3)).alloc (.map #[] 0)) (.cells #[.slice (some ⟨g,0,none⟩) N cap,.slice (some ⟨wb,0,none⟩) N N,.map (some (wb+1))] 70)
   rw[World.size_alloc,World.size_alloc,hwb] at this
   exact this
  ·rw[hN,<-hW1,<-hwb]
   exact ((zds U N Wd).alloc _).alloc _
  ·rw[<-hW1]
   have:=Memo.new (U.alloc (.cells (madeCells #[.int .i64 0] N) 3)) H
   rw[World.size_alloc,hwb] at this
   exact this.alloc _
 have LN:Hid (∀n w,Calls Tryz.prog 44 #[.int .i64 n] w fun e w'=>e=.returned (.int .i64 (lenI n))∧w'=w):=z5j
 have hmix:Tryz.prog.follows .mixedOrders=true:=by kernel_rfl
 have HTW:Hid (12≠wb):=fun e=>by omega
 have HWB:Hid (U.heap.size=wb):=hwb
 have hmap:∀w:World,(Instr.makeMap 68 none).run Tryz.prog w=.ok (.map (some w.heap.size)) (w.alloc (.map #[] 0)):=fun _=>rfl
 rw[hN]
 clear hb1 hnd0 hgl htl hP ht
 go_enter Tryz.func22,Tryz.ntmps22
 go_wp2_with fail
 clear hW1 hmk hwb hmap
 go_loopw [4] (fun iv wr=>∃k:Nat,k≤N∧iv=.int .i64 ((k:Int) - 1)∧Hid (Nm U wr (wb+1+1) (wb+1) g cap wb L KV Wd H k)) (fun iv _=>(intOf iv+1).toNat)
 case atStart=>exact⟨N,Nat.le_refl _,by go_num,HNM⟩
 case round =>
  obtain⟨k,hk,rfl,HR⟩:=hrel
  cases k with
  | zero =>
   have HV:Hid (Hs wr (wb+1+1) (wb+1) g cap wb L KV Wd H 0):=by
    have h:=HR.out
    obtain⟨n1,n2,n3,n4⟩:=h.ne
    exact⟨⟨h.ms,h.nds.gl,h.row.lt,n4,h.nds.gr,n1,h.nds.len,h.nds.nd,h.nds.kid,fun j hj=>h.row.cell hj⟩,h.mm,h.tab⟩
   go_wp2
   go_ret
   exact⟨_,_,wb,rfl,HR.out.bel,HV.out,by rw[HWB.out];omega⟩
  | succ i =>
   have ei:((i+1:Nat):Int) - 1=(i:Int):=by omega
   rw[ei]
   have hiL:i<L.length:=by omega
   have hiN:(i:Int)<(N:Int):=by omega
   have hR:=HR.out
   obtain⟨p,c,hkv,hki⟩:=hR.nds.kid i hiL
   have hcells:=z7s (hR.nds.len i hiL) (KV i)
   have hnd:=hR.nds.nd i hiL
   rw[hcells,hkv] at hnd
   have hms:=hR.ms
   rw[hN] at hms
   have hbd:=(hT.vl.nv i hiL).bd
   have hkl:(nth L i).kids.length≤100:=hT.kids_le hiL
   have WC:Hid (∀u,Below wr.heap.size wr u->Calls Tryz.prog 45 #[.pointer (some ⟨wb+1+1,0,none⟩),ndA (nth L i).kind (atN (nth L i) 0) (atN (nth L i) 1) (atN (nth L i) 2) (atN (nth L i) 3) (atN (nth L i) 4) (atN (nth L i) 5) (atN (nth L i) 6) (atN (nth L i) 7) (atN (nth L i) 8) (atN (nth L i) 9) (atN (nth L i) 10) (atN (nth L i) 11) ⟨(nth L i).text.toArray⟩ (.slice p (nth L i).kids.length c) (nth L i).up] u fun e u'=>∃x,e=.returned (.int .i64 x)∧lenI x=Wd i∧Hid (Below wr.heap.size wr u')):=fun u hu=>by
    have hRu:=hR.below hu
    rw[hS.w i hiL]
    unfold zfb
    by_cases h5:(nth L i).kind=5
    ·rw[if_pos h5]
     have hts:(⟨(nth L i).text.toArray⟩:ByteArray).size≤4000:=by
      have h1:=hT.vl.tl i hiL
      have h2:=hT.sz
      show (nth L i).text.toArray.size≤4000
      rw[List.size_toArray];omega
     have:=zck (wb+1+1) (atN (nth L i) 0) (atN (nth L i) 1) (atN (nth L i) 2) (atN (nth L i) 3) (atN (nth L i) 4) (atN (nth L i) 5) (atN (nth L i) 6) (atN (nth L i) 7) (atN (nth L i) 8) (atN (nth L i) 9) (atN (nth L i) 10) (atN (nth L i) 11) (nth L i).up ⟨(nth L i).text.toArray⟩ p (nth L i).kids.length c u hRu.tab hts
     rw[h5]
     refine this.mono ?_
     rintro e u' ⟨rfl,q⟩
     exact⟨_,rfl,rfl,hu.trans (q.out.mono hu.size)⟩
    ·rw[if_neg h5]
     refine (zef (wb+1+1) (wb+1) wb L.length (nth L i).kids.length Wd (kdn (nth L i).kids) (nth L i).kind (atN (nth L i) 0) (atN (nth L i) 1) (atN (nth L i) 2) (atN (nth L i) 3) (atN (nth L i) 4) (atN (nth L i) 5) (atN (nth L i) 6) (atN (nth L i) 7) (atN (nth L i) 8) (atN (nth L i) 9) (atN (nth L i) 10) (atN (nth L i) 11) (nth L i).up ⟨(nth L i).text.toArray⟩ _ p c u (by omega) (by omega) (by omega) (by omega) (by omega) (by omega) (fun j hj=>hS.wb _ (z4m hT hiL hj).2) (fun j hj=>(z4m hT hiL hj).2) hRu.ms hRu.row.lt (hki.grown (z00 hu)) (fun j hj=>?_)).mono ?_
     ·have hkj:=z4m hT hiL hj
      rw[hRu.row.cell hkj.2]
      unfold wdF
      rw[if_neg (by omega)]
     ·rintro e u' ⟨rfl,q⟩
      exact⟨_,rfl,rfl,hu.trans (q.out.mono hu.size)⟩
   have HNX:Hid (∀u,Below wr.heap.size wr u->Nm U (u.setCell ⟨wb,i,none⟩ (.int .i64 (Wd i))) (wb+1+1) (wb+1) g cap wb L KV Wd H i):=fun u hu=>(hR.below hu).set HKW.out HTW.out
   have HWC:Hid (∀u,Below wr.heap.size wr u->u.cell? ⟨wb,i,none⟩=some (.int .i64 0)∧u.frozen? ⟨wb,i,none⟩=false∧wb<u.heap.size):=fun u hu=>by
    have hr:=(hR.below hu).row
    refine⟨?_,hr.frozen i,hr.lt⟩
    rw[hr.cell hiL]
    unfold wdF
    rw[if_pos (by omega)]
   have hmbl:wb+1+1<wr.heap.size:=(Array.getElem?_eq_some_iff.1 hms).1
   have hgl:=hR.nds.gl
   have hne1:¬wb=g:=hR.ne.2.2.1
   have hne2:¬g=wb:=fun e=>hne1 e.symm
   have hne3:¬wb=wb+1+1:=by omega
   have hne4:¬wb+1+1=wb:=by omega
   generalize (nth L i).text.toArray=txa at hnd WC
   generalize ((nth L i).kind:Int)=kd at hnd WC
   generalize atN (nth L i) 0=a0 at hnd WC
   generalize atN (nth L i) 1=a1 at hnd WC
   generalize atN (nth L i) 2=a2 at hnd WC
   generalize atN (nth L i) 3=a3 at hnd WC
   generalize atN (nth L i) 4=a4 at hnd WC
   generalize atN (nth L i) 5=a5 at hnd WC
   generalize atN (nth L i) 6=a6 at hnd WC
   generalize atN (nth L i) 7=a7 at hnd WC
   generalize atN (nth L i) 8=a8 at hnd WC
   generalize atN (nth L i) 9=a9 at hnd WC
   generalize atN (nth L i) 10=b0 at hnd WC
   generalize atN (nth L i) 11=b1 at hnd WC
   generalize (nth L i).up=up at hnd WC
   generalize (nth L i).kids.length=m at hnd WC
   obtain⟨tx,htx⟩:∃z:ByteArray,⟨txa⟩=z:=⟨_,rfl⟩
   rw[htx] at hnd WC
   have HS:Hid (∀u,Below wr.heap.size wr u->u.cell? ⟨wb+1+1,1,none⟩=some (.slice (some ⟨wb,0,none⟩) N N)∧u.cell? ⟨g,i*16,none⟩=some (.int .i64 kd)∧u.cell? ⟨g,i*16+1,none⟩=some (.int .i64 a0)∧u.cell? ⟨g,i*16+2,none⟩=some (.int .i64 a1)∧u.cell? ⟨g,i*16+3,none⟩=some (.int .i64 a2)∧u.cell? ⟨g,i*16+4,none⟩=some (.int .i64 a3)∧u.cell? ⟨g,i*16+5,none⟩=some (.int .i64 a4)∧u.cell? ⟨g,i*16+6,none⟩=some (.int .i64 a5)∧u.cell? ⟨g,i*16+7,none⟩=some (.int .i64 a6)∧u.cell? ⟨g,i*16+8,none⟩=some (.int .i64 a7)∧u.cell? ⟨g,i*16+9,none⟩=some (.int .i64 a8)∧u.cell? ⟨g,i*16+10,none⟩=some (.int .i64 a9)∧u.cell? ⟨g,i*16+11,none⟩=some (.int .i64 b0)∧u.cell? ⟨g,i*16+12,none⟩=some (.int .i64 b1)∧u.cell? ⟨g,i*16+13,none⟩=some (.string tx)∧u.cell? ⟨g,i*16+14,none⟩=some (.slice p m c)∧u.cell? ⟨g,i*16+15,none⟩=some (.int .i64 up)):=fun u hu=>by
    have key:∀ (t:Nat) x,[.int .i64 kd,.int .i64 a0,.int .i64 a1,.int .i64 a2,.int .i64 a3,.int .i64 a4,.int .i64 a5,.int .i64 a6,.int .i64 a7,.int .i64 a8,.int .i64 a9,.int .i64 b0,.int .i64 b1,.string tx,.slice p m c,.int .i64 up][t]?=some x->u.cell? ⟨g,i*16+t,none⟩=some x:=fun t x hx=>(hu.cell (p:=⟨g,_,none⟩) hgl).trans (hnd t x hx)
    have hmb2:u.cell? ⟨wb+1+1,1,none⟩=some (.slice (some ⟨wb,0,none⟩) N N):=by
     rw[Lib.cell_of_heap ((hu.block _ hmbl).trans hms)];rfl
    exact⟨hmb2,key 0 _ rfl,key 1 _ rfl,key 2 _ rfl,key 3 _ rfl,key 4 _ rfl,key 5 _ rfl,key 6 _ rfl,key 7 _ rfl,key 8 _ rfl,key 9 _ rfl,key 10 _ rfl,key 11 _ rfl,key 12 _ rfl,key 13 _ rfl,key 14 _ rfl,key 15 _ rfl⟩
   obtain⟨q0,q1,q2,q3,q4,q5,q6,q7,q8,q9,q10,q11,q12,q13,q14,q15,q16⟩:=HS.out wr (Below.refl _ _)
   obtain⟨wc0,wc1,wc2⟩:=HWC.out wr (Below.refl _ _)
   unfold ndA at WC
   clear hR hcells hnd hms hbd hkl hkv hki htx hmbl hgl HR HNM ei
   go_wp2_with fail
   go_region_held (fun W=>W.cell? ⟨wb+1+1,1,none⟩=some (.slice (some ⟨wb,0,none⟩) N N)∧W.cell? ⟨g,i*16,none⟩=some (.int .i64 kd)∧W.cell? ⟨g,i*16+1,none⟩=some (.int .i64 a0)∧W.cell? ⟨g,i*16+2,none⟩=some (.int .i64 a1)∧W.cell? ⟨g,i*16+3,none⟩=some (.int .i64 a2)∧W.cell? ⟨g,i*16+4,none⟩=some (.int .i64 a3)∧W.cell? ⟨g,i*16+5,none⟩=some (.int .i64 a4)∧W.cell? ⟨g,i*16+6,none⟩=some (.int .i64 a5)∧W.cell? ⟨g,i*16+7,none⟩=some (.int .i64 a6)∧W.cell? ⟨g,i*16+8,none⟩=some (.int .i64 a7)∧W.cell? ⟨g,i*16+9,none⟩=some (.int .i64 a8)∧W.cell? ⟨g,i*16+10,none⟩=some (.int .i64 a9)∧W.cell? ⟨g,i*16+11,none⟩=some (.int .i64 b0)∧W.cell? ⟨g,i*16+12,none⟩=some (.int .i64 b1)∧W.cell? ⟨g,i*16+13,none⟩=some (.string tx)∧W.cell? ⟨g,i*16+14,none⟩=some (.slice p m c)∧W.cell? ⟨g,i*16+15,none⟩=some (.int .i64 up)) (go_keep) (first|(go_at_call 45;refine Calls.mono (WC.out _ (by first|exact Below.refl _ _|exact (Below.refl _ _).drew)) ?_;rintro e u1 ⟨x,rfl,hx,HBu⟩;obtain⟨s0,s1,s2,s3,s4,s5,s6,s7,s8,s9,s10,s11,s12,s13,s14,s15,s16⟩:=HS.out u1 HBu.out;obtain⟨wd0,wd1,wd2⟩:=HWC.out u1 HBu.out)|(go_at_call 44;refine Calls.mono (LN.out _ _) ?_;rintro e u2 ⟨rfl,hu2⟩;obtain rfl:=hu2.symm))
   all_goals
    have HN2:Hid (Nm U (u1.setCell ⟨wb,i,none⟩ (.int .i64 (Wd i))) (wb+1+1) (wb+1) g cap wb L KV Wd H i):=HNX.out _ HBu.out
    go_wp2
    go_roundw
    case rel=>exact⟨i,by omega,by go_num,HN2⟩
    case measure=>simp[intOf] <;> omega
end
section
open Go.RowKit Go.Sort
def rcF(a b c d:Nat->Int)(k:Nat)(i:Nat):Value:=.int .i64 (if i / 4<k then (if i % 4=0 then a (i / 4) else if i % 4=1 then b (i / 4) else if i % 4=2 then c (i / 4) else d (i / 4)) else 0)
theorem zmq(w:World)(m:Nat)(a b c d:Nat->Int)(T:TypeId):(w.alloc (.cells (madeCells #[.int .i64 0,.int .i64 0,.int .i64 0,.int .i64 0] (m*4)) T)).rowIs w.heap.size T (m*4) (rcF a b c d 0):=by
 have:=World.rowIs_alloc w (madeCells #[.int .i64 0,.int .i64 0,.int .i64 0,.int .i64 0] (m*4)) T (rcF a b c d 0) (fun i hi=>by
  rw[size_madeCells] at hi
  unfold rcF
  rw[if_neg (by omega)]
  simp only[madeCells]
  have:i % 4=0∨i % 4=1∨i % 4=2∨i % 4=3:=by omega
  rcases this with e|e|e|e <;> simp[e,hi])
 rw[size_madeCells] at this
 exact this
theorem zmp{W:World}{b:Nat}{T:TypeId}{m k:Nat}{a b1 c d:Nat->Int}(h:W.rowIs b T (m*4) (rcF a b1 c d k))(x y z u:Int)(hx:x=a k)(hy:y=b1 k)(hz:z=c k)(hu:u=d k) :
 ((((W.setCell ⟨b,k*4,none⟩ (.int .i64 x)).setCell ⟨b,k*4+1,none⟩ (.int .i64 y)).setCell ⟨b,k*4+2,none⟩ (.int .i64 z)).setCell ⟨b,k*4+3,none⟩ (.int .i64 u)).rowIs b T (m*4) (rcF a b1 c d (k+1)):=by
 subst hx hy hz hu
 refine ((((h.set (k*4) (.int .i64 (a k))).set (k*4+1) (.int .i64 (b1 k))).set (k*4+2) (.int .i64 (c k))).set (k*4+3) (.int .i64 (d k))).congr fun i hi=>?_
 unfold rcF
 by_cases e3:i=k*4+3
 ·rw[if_pos e3,if_pos (by omega),if_neg (by omega),if_neg (by omega),if_neg (by omega),show i / 4=k by omega]
 ·rw[if_neg e3]
  by_cases e2:i=k*4+2
  ·rw[if_pos e2,if_pos (by omega),if_neg (by omega),if_neg (by omega),if_pos (by omega),show i / 4=k by omega]
  ·rw[if_neg e2]
   by_cases e1:i=k*4+1
   ·rw[if_pos e1,if_pos (by omega),if_neg (by omega),if_pos (by omega),show i / 4=k by omega]
   ·rw[if_neg e1]
    by_cases e0:i=k*4
    ·rw[if_pos e0,if_pos (by omega),if_pos (by omega),show i / 4=k by omega]
    ·rw[if_neg e0]
     by_cases l:i / 4<k
     ·rw[if_pos l,if_pos (show i / 4<k+1 by omega)]
     ·rw[if_neg l,if_neg (show ¬i / 4<k+1 by omega)]
def zco(W:World)(lb m:Nat)(a b c d:Nat->Int):Prop:=lb<W.heap.size∧∀j,j<m->W.cell? ⟨lb,j*4,none⟩=some (.int .i64 (a j))∧W.cell? ⟨lb,j*4+1,none⟩=some (.int .i64 (b j))∧W.cell? ⟨lb,j*4+2,none⟩=some (.int .i64 (c j))∧W.cell? ⟨lb,j*4+3,none⟩=some (.int .i64 (d j))
theorem zr5{W:World}{lb:Nat}{T:TypeId}{m:Nat}{a b c d:Nat->Int}(h:W.rowIs lb T (m*4) (rcF a b c d m)):zco W lb m a b c d:=by
 refine⟨h.lt,fun j hj=>⟨?_,?_,?_,?_⟩⟩
 ·rw[h.cell (by omega)];unfold rcF;rw[if_pos (by omega),if_pos (by omega),show j*4 / 4=j by omega]
 ·rw[h.cell (by omega)];unfold rcF;rw[if_pos (by omega),if_neg (by omega),if_pos (by omega),show (j*4+1) / 4=j by omega]
 ·rw[h.cell (by omega)];unfold rcF;rw[if_pos (by omega),if_neg (by omega),if_neg (by omega),if_pos (by omega),show (j*4+2) / 4=j by omega]
 ·rw[h.cell (by omega)];unfold rcF;rw[if_pos (by omega),if_neg (by omega),if_neg (by omega),if_neg (by omega),show (j*4+3) / 4=j by omega]
def zto(U W:World)(lb m:Nat)(a b c d:Nat->Int):Prop:=zco W lb m a b c d∧U.heap.size≤lb∧Below U.heap.size U W
theorem zn8(L:List Nd)(ks:List Nat)(N:Nat->Int)(room gap:Int):∃G:Nat->Int,∀g,z1a L ks N room gap g->∀j,j<ks.length->g j=G j:=by
 by_cases e:∃g,z1a L ks N room gap g
 ·obtain⟨g,hg⟩:=e
  exact⟨g,fun g' hg'=>hg'.uniq hg⟩
 ·exact⟨fun _=>0,fun g hg=>absurd ⟨g,hg⟩ e⟩
theorem zis{g h:Nat->Int}{cg:Int}:∀k,(∀j,j<k->g j=h j)->offs g cg k=offs h cg k:=fun k e=>by
 unfold offs
 exact z0i fun j hj=>by rw[e j (List.mem_range.1 hj)]
def z5o(W:World)(B:Nat)(p:Option Addr)(m:Nat)(v:Nat->Int):Prop:=m=0∨∃b o,p=some ⟨b,o,none⟩∧b<W.heap.size∧B≤b∧∀j,j<m->W.cell? ⟨b,o+j,none⟩=some (.int .i64 (v j))
theorem z5o.below{W W':World}{B m:Nat}{p:Option Addr}{v:Nat->Int}(h:z5o W B p m v)(hb:Below W.heap.size W W'):z5o W' B p m v:=by
 rcases h with h|⟨b,o,e,h1,h2,h3⟩
 ·exact .inl h
 ·exact .inr ⟨b,o,e,Nat.lt_of_lt_of_le h1 hb.size,h2,fun j hj=>(hb.cell (p:=⟨b,_,none⟩) h1).trans (h3 j hj)⟩
theorem z5o.low{W:World}{B B' m:Nat}{p:Option Addr}{v:Nat->Int}(h:z5o W B p m v)(hB:B'≤B):z5o W B' p m v:=by
 rcases h with h|⟨b,o,e,h1,h2,h3⟩
 ·exact .inl h
 ·exact .inr ⟨b,o,e,h1,by omega,h3⟩
theorem z8e{f g:Nat->Int}{n:Nat}(h:∀j,j<n->f j=g j):sumL f (List.range n)=sumL g (List.range n):=z0i fun j hj=>h j (List.mem_range.1 hj)
theorem z1k.congr{n:Nat}{mn mx wt:Nat->Int}{r:Int}{g g':Nat->Int}(h:z1k n mn mx wt r g)(e:∀j,j<n->g j=g' j):z1k n mn mx wt r g':=by
 rcases h with ⟨h1,hb⟩|⟨h1,A,S,L,V,m,hp⟩
 ·refine .inl ⟨h1,fun j hj=>by rw[<-e j hj];exact hb.bd j hj,by rw[<-z8e e];exact hb.sum,fun i k hik hk hlt=>?_⟩
  rw[<-e k hk]
  exact hb.behind i k hik hk (by rw[e i (by omega)];exact hlt)
 ·exact .inr ⟨h1,A,S,L,V,m,hp.perm,hp.left,hp.pos,hp.weight,hp.full,hp.open_,hp.miss,hp.none_,hp.sorted,fun j hj=>by rw[<-e j hj];exact hp.is j hj⟩
theorem z1a.congr{L:List Nd}{ks:List Nat}{N:Nat->Int}{room gap:Int}{g g':Nat->Int}(h:z1a L ks N room gap g)(e:∀j,j<ks.length->g j=g' j):z1a L ks N room gap g':=z1k.congr h e
theorem zna{u:World}{m lb:Nat}{L:List Nd}{ks:List Nat}{N:Nat->Int}{room gap:Int}{G:Nat->Int}(hmm:ks.length=m)(hm:m≤200)(h:WRow u lb 0 m (fun j=>wMn (nth L (kdn ks j)) (N j)) (fun j=>atN (nth L (kdn ks j)) 2) (fun j=>atN (nth L (kdn ks j)) 3))(hG:∀g,z1a L ks N room gap g->∀j,j<ks.length->g j=G j) :
 Calls Tryz.prog 140 #[.int .i64 room,.int .i64 gap,.slice (some ⟨lb,0,none⟩) m m] u fun e u'=>∃q cq,e=.returned (.slice q m cq)∧z5o u' u.heap.size q m G∧Below u.heap.size u u'∧(ks=[]∨z1a L ks N room gap G):=by
 subst hmm
 refine (za3 _ ks.length _ _ _ room gap u ⟨_,_,rfl,.inr ⟨lb,0,rfl,h⟩⟩ (by omega)).mono ?_
 rintro e u' ⟨v,rfl,hs⟩
 have hb:=hs.below
 rcases hs with ⟨h0,rfl,hu⟩|⟨q1,q2,lb2,rfl,q3,⟨gg,q4,q5⟩,q6⟩
 ·have hk:ks=[]:=by
   rcases h0 with h0|h0
   ·exact List.eq_nil_of_length_eq_zero h0
   ·omega
  exact⟨none,0,by rw[hk];rfl,.inl (by rw[hk];rfl),hb,.inl hk⟩
 ·refine⟨_,_,rfl,.inr ⟨lb2,0,rfl,q4.1,q3,fun j hj=>?_⟩,hb,.inr (z1a.congr q5 fun j hj=>hG gg q5 j hj)⟩
  rw[<-hG gg q5 j hj];exact (q4.2 j hj).1
theorem zqz{u:World}{m lb:Nat}{L:List Nd}{ks:List Nat}{N:Nat->Int}{room gap:Int}{G:Nat->Int}(hmm:ks.length=m)(hm:m≤200)(h:WRow u lb 0 m (fun j=>wMn (nth L (kdn ks j)) (N j)) (fun j=>atN (nth L (kdn ks j)) 2) (fun j=>atN (nth L (kdn ks j)) 3))(hG:∀g,z1a L ks N room gap g->∀j,j<ks.length->g j=G j) :
 Calls Tryz.prog 147 #[.int .i64 room,.int .i64 gap,.slice (some ⟨lb,0,none⟩) m m] u fun e u'=>∃q cq,e=.returned (.slice q m cq)∧z5o u' u.heap.size q m (offs G (cl gap))∧Below u.heap.size u u':=by
 subst hmm
 refine (z9k _ ks.length _ _ _ room gap u ⟨_,_,rfl,.inr ⟨lb,0,rfl,h⟩⟩ (by omega)).mono ?_
 rintro e u' ⟨v,rfl,hs,hlow⟩
 have hb:=hs.below
 rcases hs with ⟨h0,rfl,hu⟩|⟨q1,q2,lb2,g,rfl,q4,q5,q6⟩
 ·have hk:ks=[]:=by
   rcases h0 with h0|h0
   ·exact List.eq_nil_of_length_eq_zero h0
   ·omega
  exact⟨none,0,by rw[hk];rfl,.inl (by rw[hk];rfl),hb⟩
 ·refine⟨_,_,rfl,.inr ⟨lb2,0,rfl,q4.1,hlow _ _ _ _ rfl,fun j hj=>?_⟩,hb⟩
  rw[<-zis j (fun i hi=>hG g q5 i (by omega))];exact (q4.2 j hj).1
end
section
open Go.RowKit Go.Sort
def pcF(P:Nat->Nat->Int)(i:Nat):Value:=.int .i64 (P (i / 10) (i % 10))
def z4q(P:Nat->Nat->Int)(c t:Nat)(x:Int):Nat->Nat->Int:=fun q u=>if q=c∧u=t then x else P q u
theorem zur{W:World}{b N:Nat}{T:TypeId}{P:Nat->Nat->Int}(h:W.rowIs b T N (pcF P))(c t:Nat)(ht:t<10)(x:Int):(W.setCell ⟨b,c*10+t,none⟩ (.int .i64 x)).rowIs b T N (pcF (z4q P c t x)):=by
 refine (h.set (c*10+t) (.int .i64 x)).congr fun i hi=>?_
 unfold pcF z4q
 by_cases e:i=c*10+t
 ·rw[if_pos e,if_pos (by omega)]
 ·rw[if_neg e,if_neg (by omega)]
theorem z0t{W:World}{b n:Nat}{T:TypeId}{P:Nat->Nat->Int}(h:W.rowIs b T (n*10) (pcF P)){c t:Nat}(hc:c<n)(ht:t<10):W.cell? ⟨b,c*10+t,none⟩=some (.int .i64 (P c t)):=by
 rw[h.cell (by omega)]
 unfold pcF
 rw[show (c*10+t) / 10=c by omega,show (c*10+t) % 10=t by omega]
theorem Scr.kept{W W':World}{r n k:Nat}{H:Nat->Int->Int}{p:Option Addr}{idf off:Nat->Int}(h:Scr W p k idf off)(hm:Memo W r H n)(hg:W.grownBy W' (some r)):Scr W' p k idf off:=by
 rcases h with h|⟨b,o,e,h1,h2⟩
 ·exact .inl h
 ·by_cases hk:k=0
  ·exact .inl hk
  ·obtain⟨es,clock,hmp⟩:=hm.map
   have hne:b≠r:=fun e2=>by
    subst e2
    have:=(h2 0 (by omega)).1
    simp[World.cell?,hmp] at this
   have hb:W'.heap[b]?=W.heap[b]?:=hg.block b h1 (fun q=>hne (by injection q))
   exact .inr ⟨b,o,e,Nat.lt_of_lt_of_le h1 hg.size,fun j hj=>⟨(World.cell?_of_block (a:=⟨b,o+j*2,none⟩) hb).trans (h2 j hj).1,(World.cell?_of_block (a:=⟨b,o+j*2+1,none⟩) hb).trans (h2 j hj).2⟩⟩
structure Pw(U0 W:World)(r pb N:Nat)(P:Nat->Nat->Int)(H:Nat->Int->Int)(n:Nat):Prop where
 g:U0.grownBy W (some r)
 m:Memo W r H n
 row:W.rowIs pb 50 (N*10) (pcF P)
theorem Pw.below{U0 W W':World}{r pb N n:Nat}{P:Nat->Nat->Int}{H:Nat->Int->Int}(h:Pw U0 W r pb N P H n)(hb:Below W.heap.size W W'):Pw U0 W' r pb N P H n :=
 ⟨h.g.trans (z00 hb),h.m.grown_below hb,z4h h.row hb⟩
theorem Pw.grown{U0 W W':World}{r pb N n n':Nat}{P:Nat->Nat->Int}{H:Nat->Int->Int}(h:Pw U0 W r pb N P H n)(hg:W.grownBy W' (some r))(hm:Memo W' r H n')(hne:pb≠r):Pw U0 W' r pb N P H n' :=
 ⟨h.g.trans hg,hm,z67 h.row hg hne⟩
theorem Pw.set{U0 W:World}{r pb N n:Nat}{P:Nat->Nat->Int}{H:Nat->Int->Int}(h:Pw U0 W r pb N P H n)(hpb:U0.heap.size≤pb)(hne:pb≠r)(c t:Nat)(ht:t<10)(x:Int):Pw U0 (W.setCell ⟨pb,c*10+t,none⟩ (.int .i64 x)) r pb N (z4q P c t x) H n :=
 ⟨z2i h.g (a:=⟨pb,_,none⟩) hpb _,h.m.set (a:=⟨pb,_,none⟩) hne _,zur h.row c t ht x⟩
theorem Pw.mono{U0 W:World}{r pb N n n':Nat}{P:Nat->Nat->Int}{H:Nat->Int->Int}(h:Pw U0 W r pb N P H n)(hn:n≤n'):Pw U0 W r pb N P H n':=⟨h.g,h.m.mono hn,h.row⟩
def z4r(hh w:Int):Int:=max 0 (hh - w)
theorem zja(mb r pb N k kid nn:Nat)(P:Nat->Nat->Int)(H:Nat->Int->Int)(a0 a1 a2 a3 a4 a5 a6 a7 a8 a9 b0 b1 up:Int)(tx:ByteArray)(p:Option Addr)(m c:Nat)(sp:Option Addr)(sn sc:Nat)(idf off:Nat->Int)(U0 U:World)
 (hP:Hid (Pw U0 U r pb N P H nn)) (hpb:U0.heap.size≤pb) (hpr:pb≠r) (hk:k<N) (hN:N≤1000) (hm:0<m) (hkb:Hid (∃b o,p=some ⟨b,o,none⟩∧b<U0.heap.size∧b≠r∧U0.cell? ⟨b,o,none⟩=some (.int .i64 (kid:Int)))) (hH:0≤H kid (P k 2)∧H kid (P k 2)≤100000) (h3:0≤P k 3∧P k 3≤100000)
 (HC:Hid (∀u,Pw U0 u r pb N P H nn->Calls Tryz.prog 23 #[.pointer (some ⟨mb,0,none⟩),.int .i64 (kid:Int),.int .i64 (P k 2)] u fun e u'=>e=.returned (.int .i64 (H kid (P k 2)))∧Hid (u.grownBy u' (some r))∧Hid (Memo u' r H (nn+100))))
 (OF:Hid (∀u P' n',Pw U0 u r pb N P' H n'->Calls Tryz.prog 96 #[.int .i64 a0,.slice sp sn sc] u fun e u'=>e=.returned (.int .i64 (offI a0 idf off sn))∧Hid (Below u.heap.size u u'))) :
 Calls Tryz.prog 64 #[.pointer (some ⟨mb,0,none⟩),.pointer (some ⟨pb,k*10,none⟩),ndA 4 a0 a1 a2 a3 a4 a5 a6 a7 a8 a9 b0 b1 tx (.slice p m c) up,.slice sp sn sc] U fun e U'=>e=.returned (.tuple #[])∧Pw U0 U' r pb N (z4q (z4q P k 9 (z4r (H kid (P k 2)) (P k 3))) k 8 (min (max 0 (offI a0 idf off sn)) (z4r (H kid (P k 2)) (P k 3)))) H (nn+100)∧Hid (∀b,b<U.heap.size->b≠r->b≠pb->U'.heap[b]?=U.heap[b]?):=by
 have hmix:Tryz.prog.follows .mixedOrders=true:=by kernel_rfl
 obtain⟨kb,ko,rfl,hkl,hkr,hkc⟩:=hkb.out
 obtain⟨W1,hW1⟩:∃z,U.alloc (.cells #[.int .i64 4,.int .i64 a0,.int .i64 a1,.int .i64 a2,.int .i64 a3,.int .i64 a4,.int .i64 a5,.int .i64 a6,.int .i64 a7,.int .i64 a8,.int .i64 a9,.int .i64 b0,.int .i64 b1,.string tx,.slice (some ⟨kb,ko,none⟩) m c,.int .i64 up] 101)=z:=⟨_,rfl⟩
 obtain⟨A,hA⟩:∃z,U.heap.size=z:=⟨_,rfl⟩
 have HB1:Hid (Below U.heap.size U W1):=by rw[<-hW1];exact ((Gr.refl U).alloc _).below
 have hat:W1.heap[A]?=some (.cells #[.int .i64 4,.int .i64 a0,.int .i64 a1,.int .i64 a2,.int .i64 a3,.int .i64 a4,.int .i64 a5,.int .i64 a6,.int .i64 a7,.int .i64 a8,.int .i64 a9,.int .i64 b0,.int .i64 b1,.string tx,.slice (some ⟨kb,ko,none⟩) m c,.int .i64 up] 101 (0,0)):=by rw[<-hW1,<-hA];exact heap_alloc_new _ _
 have HP1:Hid (Pw U0 W1 r pb N P H nn):=hP.out.below HB1.out
 have HAU2:Hid (U.heap.size=A):=hA
 have hAr:A≠r:=by have:=hP.out.m.lt;omega
 have hpA:pb<A:=by rw[<-hA];exact hP.out.row.lt
 obtain⟨w,hw⟩:∃z,P k 2=z:=⟨_,rfl⟩
 obtain⟨hh,hhe⟩:∃z,P k 3=z:=⟨_,rfl⟩
 obtain⟨y,hy⟩:∃z,H kid w=z:=⟨_,rfl⟩
 rw[hw] at HC hH ⊢
 rw[hhe] at h3 ⊢
 rw[hy] at HC hH ⊢
 have HS:Hid (∀u,Pw U0 u r pb N P H nn∨Pw U0 u r pb N P H (nn+100)->W1.grownBy u (some r)->u.cell? ⟨A,14,none⟩=some (.slice (some ⟨kb,ko,none⟩) m c)∧u.cell? ⟨kb,ko,none⟩=some (.int .i64 (kid:Int))∧u.cell? ⟨pb,k*10+2,none⟩=some (.int .i64 w)∧u.cell? ⟨pb,k*10+3,none⟩=some (.int .i64 hh)):=fun u hu hg=>by
  have hg0:U0.grownBy u (some r)∧u.rowIs pb 50 (N*10) (pcF P):=by rcases hu with q|q <;> exact⟨q.g,q.row⟩
  have hAl:A<W1.heap.size:=(Array.getElem?_eq_some_iff.1 hat).1
  have hb:u.heap[A]?=W1.heap[A]?:=hg.block A hAl (fun e=>by injection e with e;omega)
  refine⟨by rw[Lib.cell_of_heap (hb.trans hat)];rfl,(World.cell?_of_block (a:=⟨kb,ko,none⟩) (hg0.1.block kb hkl (fun e=>hkr (by injection e)))).trans hkc,?_,?_⟩
  ·rw[<-hw];exact z0t hg0.2 hk (by omega)
  ·rw[<-hhe];exact z0t hg0.2 hk (by omega)
 have HAU:Hid (∀u,W1.grownBy u (some r)->u.heap[A]?=some (.cells #[.int .i64 4,.int .i64 a0,.int .i64 a1,.int .i64 a2,.int .i64 a3,.int .i64 a4,.int .i64 a5,.int .i64 a6,.int .i64 a7,.int .i64 a8,.int .i64 a9,.int .i64 b0,.int .i64 b1,.string tx,.slice (some ⟨kb,ko,none⟩) m c,.int .i64 up] 101 (0,0))):=fun u hg=>(hg.block A (Array.getElem?_eq_some_iff.1 hat).1 (fun e=>by injection e with e;omega)).trans hat
 have HC1:Hid (∀u,(u=W1∨u=W1.drew)->Calls Tryz.prog 23 #[.pointer (some ⟨mb,0,none⟩),.int .i64 (kid:Int),.int .i64 w] u fun e u'=>e=.returned (.int .i64 y)∧Hid (W1.grownBy u' (some r))∧Hid (Pw U0 u' r pb N P H (nn+100))):=fun u hu=>by
  have hgu:W1.grownBy u (some r):=by
   rcases hu with rfl|rfl
   ·exact z00 (Below.refl _ _)
   ·exact z40 (z00 (Below.refl _ _))
  have hpu:Pw U0 u r pb N P H nn:=by
   rcases hu with rfl|rfl
   ·exact HP1.out
   ·exact HP1.out.below (Below.refl _ _).drew
  refine (HC.out u hpu).mono ?_
  rintro e u' ⟨rfl,q1,q2⟩
  exact⟨rfl,hgu.trans q1.out,hpu.grown q1.out q2.out hpr⟩
 obtain⟨s1,s2,s3,s4⟩:=HS.out W1 (.inl HP1.out) (z00 (Below.refl _ _))
 obtain⟨rm,hrm⟩:∃z,z4r y hh=z:=⟨_,rfl⟩
 have hrb:0≤rm∧rm≤100000:=by rw[<-hrm];unfold z4r;omega
 have hrv:max 0 (y - hh)=rm:=hrm
 rw[hrm]
 have n1:¬A=pb:=by omega
 have n2:¬pb=A:=by omega
 have n3:¬kb=pb:=by omega
 have n4:¬pb=kb:=by omega
 have HRW:Hid (∀u n' P',Pw U0 u r pb N P' H n'->(∃v,u.cell? ⟨pb,k*10+9,none⟩=some v)∧u.frozen? ⟨pb,k*10+9,none⟩=false∧pb<u.heap.size∧(∃v,u.cell? ⟨pb,k*10+8,none⟩=some v)∧u.frozen? ⟨pb,k*10+8,none⟩=false):=fun u n' P' hu=>⟨⟨_,z0t hu.row hk (by omega)⟩,hu.row.frozen _,hu.row.lt,⟨_,z0t hu.row hk (by omega)⟩,hu.row.frozen _⟩
 obtain⟨⟨v9,r9⟩,f9,l9,_⟩:=HRW.out W1 nn P HP1.out
 have HSS:Hid (∀u,Pw U0 u r pb N P H (nn+100)->W1.grownBy u (some r)->(u.setCell ⟨pb,k*10+9,none⟩ (.int .i64 rm)).cell? ⟨A,14,none⟩=some (.slice (some ⟨kb,ko,none⟩) m c)∧(u.setCell ⟨pb,k*10+9,none⟩ (.int .i64 rm)).cell? ⟨kb,ko,none⟩=some (.int .i64 (kid:Int))∧(u.setCell ⟨pb,k*10+9,none⟩ (.int .i64 rm)).cell? ⟨pb,k*10+2,none⟩=some (.int .i64 w)∧(u.setCell ⟨pb,k*10+9,none⟩ (.int .i64 rm)).cell? ⟨pb,k*10+3,none⟩=some (.int .i64 hh)):=fun u hu hg=>by
  obtain⟨q1,q2,q3,q4⟩:=HS.out u (.inr hu) hg
  refine⟨?_,?_,?_,?_⟩
  ·rw[World.cell?_setCell_other _ _ _ _ (fun e=>by injection e with e _ _;omega)];exact q1
  ·rw[World.cell?_setCell_other _ _ _ _ (fun e=>by injection e with e _ _;omega)];exact q2
  ·rw[World.cell?_setCell_other _ _ _ _ (fun e=>by injection e with _ e _;omega)];exact q3
  ·rw[World.cell?_setCell_other _ _ _ _ (fun e=>by injection e with _ e _;omega)];exact q4
 clear hat hP hkb hy hw hhe hrm
 unfold ndA
 go_enter Tryz.func64,Tryz.ntmps64
 go_wp2_with fail
 clear hW1 hA
 have hwr:IntKind.i64.wrap (y - hh)=y - hh:=IntWalk.i64_in _ (by omega)
 go_cut [7] from 8 to 28 (fun _ wx=>Hid (Pw U0 wx r pb N (z4q P k 9 rm) H (nn+100))∧Hid (∀b,b<U.heap.size->b≠r->b≠pb->wx.heap[b]?=U.heap[b]?)∧Hid (wx.heap[A]?=some (.cells #[.int .i64 4,.int .i64 a0,.int .i64 a1,.int .i64 a2,.int .i64 a3,.int .i64 a4,.int .i64 a5,.int .i64 a6,.int .i64 a7,.int .i64 a8,.int .i64 a9,.int .i64 b0,.int .i64 b1,.string tx,.slice (some ⟨kb,ko,none⟩) m c,.int .i64 up] 101 (0,0))))
 case first =>
  go_region_held (fun W=>W.cell? ⟨A,14,none⟩=some (.slice (some ⟨kb,ko,none⟩) m c)∧W.cell? ⟨kb,ko,none⟩=some (.int .i64 (kid:Int))∧W.cell? ⟨pb,k*10+2,none⟩=some (.int .i64 w)∧W.cell? ⟨pb,k*10+3,none⟩=some (.int .i64 hh)) (go_keep) (first|(go_at_call 23;refine Calls.mono (HC1.out _ (by first|exact .inl rfl|exact .inr rfl)) ?_;rintro e u1 ⟨rfl,HGu,HPu⟩;obtain⟨t1,t2,t3,t4⟩:=HS.out u1 (.inr HPu.out) HGu.out;obtain⟨⟨v9u,r9u⟩,f9u,l9u,_⟩:=HRW.out u1 _ _ HPu.out;obtain⟨o1,o2,o3,o4⟩:=HSS.out u1 HPu.out HGu.out))
  all_goals go_wp2_with fail
  all_goals go_meet
  all_goals (refine⟨?_,?_,?_⟩)
  all_goals first
   | exact HPu.out.set hpb hpr k 9 (by omega) rm
   | exact fun b h1 h2 h3=>(Below.heap_setCell u1 ⟨pb,k*10+9,none⟩ _ b h3).trans ((HGu.out.block b (Nat.lt_of_lt_of_le h1 HB1.out.size) (fun e=>h2 (by injection e))).trans (HB1.out.block b h1))
   | exact (Below.heap_setCell u1 ⟨pb,k*10+9,none⟩ _ A n1).trans (HAU.out u1 HGu.out)
 case rest =>
  obtain⟨HPc,HFc,HAc⟩:=hcut
  have a1c:wc.cell? ⟨A,1,none⟩=some (.int .i64 a0):=by rw[Lib.cell_of_heap HAc.out];rfl
  have c9:wc.cell? ⟨pb,k*10+9,none⟩=some (.int .i64 rm):=by
   rw[z0t HPc.out.row hk (by omega)]
   unfold z4q
   rw[if_pos ⟨rfl,rfl⟩]
  obtain⟨ov,hov⟩:∃z,offI a0 idf off sn=z:=⟨_,rfl⟩
  rw[hov] at OF
  have OF1:Hid (∀u,(u=wc∨u=wc.drew)->Calls Tryz.prog 96 #[.int .i64 a0,.slice sp sn sc] u fun e u'=>e=.returned (.int .i64 ov)∧Hid (Below wc.heap.size wc u')∧u'.cell? ⟨A,1,none⟩=some (.int .i64 a0)∧u'.cell? ⟨pb,k*10+9,none⟩=some (.int .i64 rm)):=fun u hu=>by
   have hbu:Below wc.heap.size wc u:=by
    rcases hu with rfl|rfl
    ·exact Below.refl _ _
    ·exact (Below.refl _ _).drew
   refine (OF.out u _ _ (HPc.out.below hbu)).mono ?_
   rintro e u' ⟨rfl,q⟩
   have hbb:=hbu.trans (q.out.mono hbu.size)
   exact⟨rfl,hbb,(hbb.cell (p:=⟨A,1,none⟩) (Array.getElem?_eq_some_iff.1 HAc.out).1).trans a1c,(hbb.cell (p:=⟨pb,_,none⟩) HPc.out.row.lt).trans c9⟩
  have HOV:Hid (offI a0 idf off sn=ov):=hov
  have HFIN:Hid (∀u x,Below wc.heap.size wc u->x=min (max 0 ov) rm->Pw U0 (u.setCell ⟨pb,k*10+8,none⟩ (.int .i64 x)) r pb N (z4q (z4q P k 9 rm) k 8 (min (max 0 (offI a0 idf off sn)) rm)) H (nn+100)):=fun u x hu hx=>by
   rw[HOV.out,<-hx]
   exact (HPc.out.below hu).set hpb hpr k 8 (by omega) x
  have HUW:Hid (U.heap.size≤wc.heap.size):=by have:=(Array.getElem?_eq_some_iff.1 HAc.out).1;show _≤_;have:=HAU2.out;omega
  have HFF:Hid (∀ (u:World) (x:Value),Below wc.heap.size wc u->∀b,b<U.heap.size->b≠r->b≠pb->(u.setCell ⟨pb,k*10+8,none⟩ x).heap[b]?=U.heap[b]?):=fun u x hu b h1 h2 h3=>(Below.heap_setCell u ⟨pb,k*10+8,none⟩ _ b h3).trans ((hu.block b (Nat.lt_of_lt_of_le h1 HUW.out)).trans (HFc.out b h1 h2 h3))
  have HR8:Hid (∀u,Below wc.heap.size wc u->(∃v,u.cell? ⟨pb,k*10+8,none⟩=some v)∧u.frozen? ⟨pb,k*10+8,none⟩=false∧pb<u.heap.size):=fun u hu=>by
   obtain⟨_,_,q3,q4,q5⟩:=HRW.out u _ _ (HPc.out.below hu)
   exact⟨q4,q5,q3⟩
  have HS3:Hid (∀ (u:World) (x:Int),u.cell? ⟨A,1,none⟩=some (.int .i64 a0)->u.cell? ⟨pb,k*10+9,none⟩=some (.int .i64 rm)->(u.setCell ⟨pb,k*10+8,none⟩ (.int .i64 x)).cell? ⟨A,1,none⟩=some (.int .i64 a0)∧(u.setCell ⟨pb,k*10+8,none⟩ (.int .i64 x)).cell? ⟨pb,k*10+9,none⟩=some (.int .i64 rm)):=fun u x q1 q2=>by
   refine⟨?_,?_⟩
   ·rw[World.cell?_setCell_other _ _ _ _ (fun e=>by injection e with e _ _;omega)];exact q1
   ·rw[World.cell?_setCell_other _ _ _ _ (fun e=>by injection e with _ e _;omega)];exact q2
  clear hov s1 s2 s3 s4 r9 f9 HC1 HS HSS HRW hrv hwr
  go_wp2_with fail
  go_region_held (fun W=>W.cell? ⟨A,1,none⟩=some (.int .i64 a0)∧W.cell? ⟨pb,k*10+9,none⟩=some (.int .i64 rm)) (go_keep) (first|(go_at_call 96;refine Calls.mono (OF1.out _ (by first|exact .inl rfl|exact .inr rfl)) ?_;rintro e u1 ⟨rfl,HBu,t1,t2⟩;obtain⟨⟨v8u,r8u⟩,f8u,l8u⟩:=HR8.out u1 HBu.out;obtain⟨o1,o2⟩:=HS3.out u1 (min (max 0 ov) rm) t1 t2))
  all_goals
   go_wp2
   go_end0
   exact⟨rfl,HFIN.out _ _ HBu.out (by first|rfl|omega),HFF.out u1 _ HBu.out⟩
end
section
open Go.RowKit Go.Sort
def zu8(U U':World)(m:Nat)(x y a b gap:Int)(L:List Nd)(ks:List Nat)(N:Nat->Int)(e:Ending):Prop:=∃lb G,e=.returned (.slice (some ⟨lb,0,none⟩) m m)∧zto U U' lb m (fun j=>x+offs G (cl gap) j) (fun j=>y) (fun j=>G j) (fun j=>b)∧(ks=[]∨z1a L ks N a gap G)∧∀j,j<m->0≤G j∧G j≤100000
theorem zlg(r m:Nat)(x y a b gap:Int)(L:List Nd)(ks:List Nat)(N:Nat->Int)(H:Nat->Int->Int)(n:Nat)(v:Value)(U0 U:World)(hmm:ks.length=m)(hm:m≤200)(hr:r<U0.heap.size)(hx : -1000000000000≤x∧x≤1000000000000)(hy : -1000000000000≤y∧y≤1000000000000)(ha:0≤a∧a≤100000)(hb:0≤b∧b≤100000)
 (hv:Hid (z4s U0 U r m L ks N H n v)) :
 Calls Tryz.prog 97 #[rv x y a b,.int .i64 gap,v] U fun e U'=>zu8 U U' m x y a b gap L ks N e:=by
 have hmix:Tryz.prog.follows .mixedOrders=true:=by kernel_rfl
 obtain⟨G,hG⟩:=zn8 L ks N a gap
 obtain⟨i0,hi,hz0,hz1,hz2⟩:=info_parts zgk
 have hmk:∀W:World,(Instr.makeSlice 130 (.int .i64 (m:Int)) (.int .i64 (m:Int))).run Tryz.prog W=.ok (.slice (some ⟨W.heap.size,0,none⟩) m m) (W.alloc (.cells (madeCells #[.int .i64 0,.int .i64 0,.int .i64 0,.int .i64 0] (m*4)) 48)):=fun W=>by
  have:=run_make (P:=Tryz.prog) W 130 48 i0 _ Tryz.underlying130 hi hz0 .i64 .i64 m m (by omega) (Int.le_refl _) (by rw[hz2];omega) (by omega)
  rw[hz1,Int.toNat_natCast] at this
  exact this
 clear hi hz0 hz1 hz2
 obtain⟨A,hA⟩:∃z,U.heap.size=z:=⟨_,rfl⟩
 obtain⟨lb,vv⟩:=hv.out
 obtain⟨rfl,w1,w2,w3,w4⟩:=vv
 have HVO:Hid (WRow U lb 0 m (fun j=>wMn (nth L (kdn ks j)) (N j)) (fun j=>atN (nth L (kdn ks j)) 2) (fun j=>atN (nth L (kdn ks j)) 3)):=w1
 have hrl:r<U.heap.size:=Nat.lt_of_lt_of_le hr w3.size
 obtain⟨W1,hW1⟩:∃z,(U.alloc (.cells #[.int .i64 x,.int .i64 y,.int .i64 a,.int .i64 b] 48)).alloc (.cells (madeCells #[.int .i64 0,.int .i64 0,.int .i64 0,.int .i64 0] (m*4)) 48)=z:=⟨_,rfl⟩
 have HB1:Hid (Below U.heap.size U W1):=by rw[<-hW1];exact (((Gr.refl U).alloc _).alloc _).below
 have hat:W1.heap[A]?=some (.cells #[.int .i64 x,.int .i64 y,.int .i64 a,.int .i64 b] 48 (0,0)):=by
  rw[<-hW1,<-hA,Below.heap_alloc _ _ _ (by rw[World.size_alloc];omega)];exact heap_alloc_new _ _
 have hrow:W1.rowIs (A+1) 48 (m*4) (rcF (fun j=>x+offs G (cl gap) j) (fun j=>y) (fun j=>G j) (fun j=>b) 0):=by
  rw[<-hW1]
  have:=zmq (U.alloc (.cells #[.int .i64 x,.int .i64 y,.int .i64 a,.int .i64 b] 48)) m (fun j=>x+offs G (cl gap) j) (fun j=>y) (fun j=>G j) (fun j=>b) 48
  rw[World.size_alloc,hA] at this
  exact this
 have HS:Hid (∀u,Below W1.heap.size W1 u->u.cell? ⟨A,0,none⟩=some (.int .i64 x)∧u.cell? ⟨A,1,none⟩=some (.int .i64 y)∧u.cell? ⟨A,2,none⟩=some (.int .i64 a)∧u.cell? ⟨A,3,none⟩=some (.int .i64 b)):=fun u hu=>by
  have hb2:=(hu.block A (Array.getElem?_eq_some_iff.1 hat).1).trans hat
  refine⟨?_,?_,?_,?_⟩ <;> (rw[Lib.cell_of_heap hb2];rfl)
 have SP:Hid (∀u,Below W1.heap.size W1 u->Calls Tryz.prog 140 #[.int .i64 a,.int .i64 gap,.slice (some ⟨lb,0,none⟩) m m] u fun e u'=>∃q cq,e=.returned (.slice q m cq)∧Hid (z5o u' W1.heap.size q m G)∧Hid (Below W1.heap.size W1 u')∧Hid (Below u.heap.size u u')∧Hid (ks=[]∨z1a L ks N a gap G)):=fun u hu=>by
  have hub:Below U.heap.size U u:=HB1.out.trans (hu.mono HB1.out.size)
  refine (zna hmm hm (HVO.out.below hub) hG).mono ?_
  rintro e u' ⟨q,cq,rfl,q1,q2,q3⟩
  exact⟨q,cq,rfl,q1.low hu.size,hu.trans (q2.mono hu.size),q2,q3⟩
 have OF:Hid (∀u,Below W1.heap.size W1 u->Calls Tryz.prog 147 #[.int .i64 a,.int .i64 gap,.slice (some ⟨lb,0,none⟩) m m] u fun e u'=>∃q cq,e=.returned (.slice q m cq)∧Hid (z5o u' W1.heap.size q m (offs G (cl gap)))∧Hid (Below W1.heap.size W1 u')∧Hid (Below u.heap.size u u')):=fun u hu=>by
  have hub:Below U.heap.size U u:=HB1.out.trans (hu.mono HB1.out.size)
  refine (zqz hmm hm (HVO.out.below hub) hG).mono ?_
  rintro e u' ⟨q,cq,rfl,q1,q2⟩
  exact⟨q,cq,rfl,q1.low hu.size,hu.trans (q2.mono hu.size),q2⟩
 have HROW:Hid (W1.rowIs (A+1) 48 (m*4) (rcF (fun j=>x+offs G (cl gap) j) (fun j=>y) (fun j=>G j) (fun j=>b) 0)):=hrow
 have HA1:Hid (A+1<W1.heap.size):=HROW.out.lt
 have HAL:Hid (A<W1.heap.size):=(Array.getElem?_eq_some_iff.1 hat).1
 have HUA:Hid (U.heap.size=A):=hA
 obtain⟨z0,z1,z2,z3⟩:=HS.out W1 (Below.refl _ _)
 clear hat hrow w1 w2 w3 w4 hv
 unfold rv
 go_enter Tryz.func97,Tryz.ntmps97
 go_wp2_with fail
 clear hW1 hA hmk
 go_cut [8,9] from 14 to 23 (fun s1 s2 wx=>∃q1 c1 q2 c2,s1=.slice q1 m c1∧s2=.slice q2 m c2∧Hid (z5o wx W1.heap.size q1 m G)∧Hid (z5o wx W1.heap.size q2 m (offs G (cl gap)))∧Hid (Below W1.heap.size W1 wx)∧Hid (ks=[]∨z1a L ks N a gap G))
 case first =>
  go_region_held (fun W=>W.cell? ⟨A,2,none⟩=some (.int .i64 a)) (go_keep) (first
   | (go_at_call 140;refine Calls.mono (SP.out _ (by first|exact Below.refl _ _|exact (Below.refl _ _).drew|exact HBo.out)) ?_;rintro e us ⟨qs,cqs,rfl,HIs,HBs,HXs,HKs⟩;obtain⟨s0,s1,s2,s3⟩:=HS.out us HBs.out)
   | (go_at_call 140;refine Calls.mono (SP.out _ HBo.out) ?_;rintro e us ⟨qs,cqs,rfl,HIs,HBs,HXs,HKs⟩;obtain⟨s0,s1,s2,s3⟩:=HS.out us HBs.out)
   | (go_at_call 147;refine Calls.mono (OF.out _ (by first|exact HBs.out|exact Below.refl _ _|exact (Below.refl _ _).drew)) ?_;rintro e uo ⟨qo,cqo,rfl,HIo,HBo,HXo⟩;obtain⟨o0,o1,o2,o3⟩:=HS.out uo HBo.out))
  all_goals go_wp2_with fail
  all_goals go_meet
  all_goals first
   | exact⟨qs,cqs,qo,cqo,rfl,rfl,HIs.out.below HXo.out,HIo,HBo,HKs⟩
   | exact⟨qs,cqs,qo,cqo,rfl,rfl,HIs,HIo.out.below HXs.out,HBs,HKs⟩
 case rest =>
  obtain⟨q1,c1,q2,c2,rfl,rfl,HI1,HI2,HBc,HKc⟩:=hcut
  have HKG:Hid (∀j,j<m->0≤G j∧G j≤100000):=fun j hj=>by
   rcases HKc.out with e|hg
   ·rw[e] at hmm;simp at hmm;omega
   ·have t1:=(z1k.tiles hg (z36 _ _ _)).1 j (by omega)
    have t2:=z36 (fun j=>wMn (nth L (kdn ks j)) (N j)) (fun j=>atN (nth L (kdn ks j)) 2) (fun j=>atN (nth L (kdn ks j)) 3) j
    (try dsimp only at t1 t2)
    omega
  have HKO:Hid (∀j,j<m->0≤offs G (cl gap) j∧offs G (cl gap) j≤40000000):=fun j hj=>by
   have:=z9i HKG.out (z3x gap) j (by omega)
   omega
  have HRC:Hid (wc.rowIs (A+1) 48 (m*4) (rcF (fun j=>x+offs G (cl gap) j) (fun j=>y) (fun j=>G j) (fun j=>b) 0)):=z4h HROW.out HBc.out
  have HSC:Hid (wc.cell? ⟨A,0,none⟩=some (.int .i64 x)∧wc.cell? ⟨A,1,none⟩=some (.int .i64 y)∧wc.cell? ⟨A,2,none⟩=some (.int .i64 a)∧wc.cell? ⟨A,3,none⟩=some (.int .i64 b)):=HS.out wc HBc.out
  clear SP OF z0 z1 z2 z3 HS HROW
  go_wp2_with fail
  go_loopw [26] (fun kv wr=>∃k:Nat,k≤m∧kv=.int .i64 (k:Int)∧Hid (wr.rowIs (A+1) 48 (m*4) (rcF (fun j=>x+offs G (cl gap) j) (fun j=>y) (fun j=>G j) (fun j=>b) k))∧Hid (Below U.heap.size U wr)∧Hid (∀bq,bq≠A+1->bq<wc.heap.size->wr.heap[bq]?=wc.heap[bq]?)∧Hid (wc.heap.size≤wr.heap.size)) (fun kv _=>m - (intOf kv).toNat)
  case atStart=>exact⟨0,Nat.zero_le _,rfl,HRC,HB1.out.trans (HBc.out.mono HB1.out.size),fun _ _ _=>rfl,Nat.le_refl _⟩
  case round =>
   obtain⟨k,hk,rfl,HR,HBU,HO,HZ⟩:=hrel
   by_cases hlt:k<m
   ·have hlt':(k:Int)<(m:Int):=by omega
    obtain⟨b1,o1,rfl,l1,n1,d1⟩:=HI1.out.resolve_left (by omega)
    obtain⟨b2,o2,rfl,l2,n2,d2⟩:=HI2.out.resolve_left (by omega)
    have hAl:=HAL.out
    have hA1:A+1<W1.heap.size∨W1.heap.size≤A+1:=by omega
    have hA2:A+1<W1.heap.size:=HA1.out
    have c0:wr.cell? ⟨A,0,none⟩=some (.int .i64 x):=(World.cell?_of_block (HO.out A (by omega) (by have:=HBc.out.size;omega))).trans HSC.out.1
    have c1:wr.cell? ⟨A,1,none⟩=some (.int .i64 y):=(World.cell?_of_block (HO.out A (by omega) (by have:=HBc.out.size;omega))).trans HSC.out.2.1
    have c2:wr.cell? ⟨A,2,none⟩=some (.int .i64 a):=(World.cell?_of_block (HO.out A (by omega) (by have:=HBc.out.size;omega))).trans HSC.out.2.2.1
    have c3:wr.cell? ⟨A,3,none⟩=some (.int .i64 b):=(World.cell?_of_block (HO.out A (by omega) (by have:=HBc.out.size;omega))).trans HSC.out.2.2.2
    have e1:wr.cell? ⟨b1,o1+k,none⟩=some (.int .i64 (G k)):=(World.cell?_of_block (HO.out b1 (by omega) l1)).trans (d1 k hlt)
    have e2:wr.cell? ⟨b2,o2+k,none⟩=some (.int .i64 (offs G (cl gap) k)):=(World.cell?_of_block (HO.out b2 (by omega) l2)).trans (d2 k hlt)
    have hgk:=HKG.out k hlt
    have hok:=HKO.out k hlt
    have hfr:∀j,wr.frozen? ⟨A+1,j,none⟩=false:=fun j=>HR.out.frozen j
    have hv0:∃v,wr.cell? ⟨A+1,k*4,none⟩=some v:=⟨_,HR.out.cell (by omega)⟩
    have hv1:∃v,wr.cell? ⟨A+1,k*4+1,none⟩=some v:=⟨_,HR.out.cell (by omega)⟩
    have hv2:∃v,wr.cell? ⟨A+1,k*4+2,none⟩=some v:=⟨_,HR.out.cell (by omega)⟩
    have hv3:∃v,wr.cell? ⟨A+1,k*4+3,none⟩=some v:=⟨_,HR.out.cell (by omega)⟩
    obtain⟨v0,hv0⟩:=hv0
    obtain⟨v1,hv1⟩:=hv1
    obtain⟨v2,hv2⟩:=hv2
    obtain⟨v3,hv3⟩:=hv3
    obtain⟨gk,hgke⟩:∃z,G k=z:=⟨_,rfl⟩
    obtain⟨ok,hoke⟩:∃z,offs G (cl gap) k=z:=⟨_,rfl⟩
    have HNX:Hid (∀p0 p1 p2 p3:Int,p0=x+ok->p1=y->p2=gk->p3=b->Hid (((((wr.setCell ⟨A+1,k*4,none⟩ (.int .i64 p0)).setCell ⟨A+1,k*4+1,none⟩ (.int .i64 p1)).setCell ⟨A+1,k*4+2,none⟩ (.int .i64 p2)).setCell ⟨A+1,k*4+3,none⟩ (.int .i64 p3)).rowIs (A+1) 48 (m*4) (rcF (fun j=>x+offs G (cl gap) j) (fun j=>y) (fun j=>G j) (fun j=>b) (k+1)))):=fun p0 p1 p2 p3 h0 h1 h2 h3=>zmp HR.out p0 p1 p2 p3 (by rw[h0,<-hoke]) h1 (by rw[h2,<-hgke]) h3
    have HNB:Hid (∀p0 p1 p2 p3:Value,Below U.heap.size U ((((wr.setCell ⟨A+1,k*4,none⟩ p0).setCell ⟨A+1,k*4+1,none⟩ p1).setCell ⟨A+1,k*4+2,none⟩ p2).setCell ⟨A+1,k*4+3,none⟩ p3)):=fun p0 p1 p2 p3=>(((HBU.out.setCell (p:=⟨A+1,_,none⟩) (by rw[HUA.out];show A≤A+1;omega) _).setCell (p:=⟨A+1,_,none⟩) (by rw[HUA.out];show A≤A+1;omega) _).setCell (p:=⟨A+1,_,none⟩) (by rw[HUA.out];show A≤A+1;omega) _).setCell (p:=⟨A+1,_,none⟩) (by rw[HUA.out];show A≤A+1;omega) _
    have HNO:Hid (∀p0 p1 p2 p3:Value,∀bq,bq≠A+1->bq<wc.heap.size->((((wr.setCell ⟨A+1,k*4,none⟩ p0).setCell ⟨A+1,k*4+1,none⟩ p1).setCell ⟨A+1,k*4+2,none⟩ p2).setCell ⟨A+1,k*4+3,none⟩ p3).heap[bq]?=wc.heap[bq]?):=fun p0 p1 p2 p3 bq h1 h2=>by
     rw[Below.heap_setCell _ ⟨A+1,k*4+3,none⟩ _ _ h1,Below.heap_setCell _ ⟨A+1,k*4+2,none⟩ _ _ h1,Below.heap_setCell _ ⟨A+1,k*4+1,none⟩ _ _ h1,Below.heap_setCell _ ⟨A+1,k*4,none⟩ _ _ h1]
     exact HO.out bq h1 h2
    rw[hgke] at hgk e1
    rw[hoke] at hok e2
    have hw1:IntKind.i64.wrap (x+ok)=x+ok:=IntWalk.i64_in _ (by omega)
    have hw2:IntKind.i64.wrap (y+ok)=y+ok:=IntWalk.i64_in _ (by omega)
    have hal:A+1<wr.heap.size:=HR.out.lt
    have hne1:¬A=A+1:=by omega
    have hne2:¬A+1=A:=by omega
    have hne3:¬b1=A+1:=by omega
    have hne4:¬A+1=b1:=by omega
    have hne5:¬b2=A+1:=by omega
    have hne6:¬A+1=b2:=by omega
    clear hgke hoke hAl hA1 hA2 d1 d2 HR HBU HO l1 l2 n1 n2 HKG HKO
    go_wp2_with fail
    go_region_held (fun W=>W.cell? ⟨A,0,none⟩=some (.int .i64 x)∧W.cell? ⟨A,1,none⟩=some (.int .i64 y)∧W.cell? ⟨A,2,none⟩=some (.int .i64 a)∧W.cell? ⟨A,3,none⟩=some (.int .i64 b)∧W.cell? ⟨b1,o1+k,none⟩=some (.int .i64 gk)∧W.cell? ⟨b2,o2+k,none⟩=some (.int .i64 ok)) (go_keep) (fail)
    all_goals
     go_wp2
     go_roundw
     case rel=>exact⟨k+1,hlt,by go_num,HNX.out _ _ _ _ rfl rfl rfl rfl,by first|exact (HNB.out _ _ _ _).drew|exact HNB.out _ _ _ _,HNO.out _ _ _ _,by show _≤_;simpa using HZ.out⟩
     case measure=>simp[intOf];omega
   ·have hlt':¬(k:Int)<(m:Int):=by omega
    obtain rfl:k=m:=by omega
    go_wp2
    go_ret
    exact⟨A+1,G,rfl,⟨zr5 HR.out,by rw[HUA.out];omega,HBU.out⟩,HKc.out,HKG.out⟩
end
section
open Go.RowKit
def z4o(a b:Nat->Int):Nat->List Value
 | 0=>[]
 | k+1=>z4o a b k++[.int .i64 (a k),.int .i64 (b k)]
theorem z7r(a b:Nat->Int):∀k,(z4o a b k).length=k*2
 | 0=>rfl
 | k+1=>by rw[z4o,List.length_append,z7r a b k];simp;omega
theorem zdw(a b:Nat->Int):∀k j,j<k->(z4o a b k)[j*2]?=some (.int .i64 (a j))∧(z4o a b k)[j*2+1]?=some (.int .i64 (b j))
 | 0,j,h=>by omega
 | k+1,j,h=>by
  have hl:=z7r a b k
  by_cases e:j<k
  ·have:=zdw a b k j e
   simp only[z4o]
   rw[List.getElem?_append_left (by omega),List.getElem?_append_left (by omega)]
   exact this
  ·obtain rfl:j=k:=by omega
   simp only[z4o]
   rw[List.getElem?_append_right (by omega),List.getElem?_append_right (by omega),hl,Nat.sub_self,show j*2+1 - j*2=1 by omega]
   exact⟨rfl,rfl⟩
theorem cell_two_new(w:World)(x y:Value)(t:TypeId):∀j u,[x,y][j]?=some u->(w.alloc (.cells #[x,y] t)).cell? ((⟨w.heap.size,0,none⟩:Addr).add j)=some u:=by
 intro j u h
 have e:(⟨w.heap.size,0,none⟩:Addr).add j=⟨w.heap.size,0+j,none⟩:=by unfold Addr.add;split <;> simp_all
 rw[e,Nat.zero_add,World.cell?_alloc_at _ _ _ _ rfl]
 rw[<-h]
 match j with
 | 0=>rfl
 | 1=>rfl
 | _+2=>rfl
theorem zig:(Tryz.prog.info? 42).map (fun i=>(i.zero,i.size,i.bytes))=some (some (.agg #[.int .i64 0,.int .i64 0]),2,16):=by kernel_rfl
def ScrO(w w':World)(n:Nat)(idf off:Nat->Int)(e:Ending):Prop:=∃p c,e=.returned (.slice p n c)∧Scr w' p n idf off∧(∀a:Addr,p=some a->w.heap.size≤a.block∧a.block<w'.heap.size)∧Below w.heap.size w w'
theorem z9z(p:Option Addr)(n cap:Nat)(idf off:Nat->Int)(w:World)(h:Scr w p n idf off)(hn:n≤8796093022208) :
 Calls Tryz.prog 12 #[.slice p n cap] w fun e w'=>ScrO w w' n idf off e:=by
 obtain⟨i0,hi,hz0,hz1,hz2⟩:=info_parts zig
 have HW:Hid (Scr w p n idf off):=h
 clear h
 go_enter Tryz.func12,Tryz.ntmps12
 go_wp2
 go_loopw [3,4] (fun v i wr=>∃k:Nat,i=.int .i64 k∧k≤n∧wr.ownsRow w.heap.size 42 2 v k (z4o idf off k)∧Below w.heap.size w wr) (fun _ i _=>n - (intOf i).toNat)
 case atStart=>exact⟨0,rfl,Nat.zero_le _,World.ownsRow_nil _ _ _ _,Below.refl _ _⟩
 case round =>
  obtain⟨k,rfl,hk,hown,hbw⟩:=hrel
  by_cases hlt:k<n
  ·have hlt':(k:Int)<(n:Int):=by omega
   have hw1:=HW.out.below hbw
   obtain⟨blk,o,rfl,hz,hcs⟩:=hw1.resolve_left (by omega)
   obtain⟨c0,c1⟩:=hcs k hlt
   obtain⟨a1,ha1⟩:∃x,idf k=x:=⟨_,rfl⟩
   obtain⟨a2,ha2⟩:∃x,off k=x:=⟨_,rfl⟩
   rw[ha1] at c0
   rw[ha2] at c1
   have hzr:=hbw.size
   have HS:Hid (z4o idf off (k+1)=z4o idf off k++[.int .i64 a1,.int .i64 a2]):=by show _=_;rw[z4o,ha1,ha2]
   clear hw1 ha1 ha2 hcs
   go_wp2_with fail
   go_region_law (refine za4 rfl (.tmp 11) (.tmp 23) 33 rfl w.heap.size 42 i0 (.agg #[.int .i64 0,.int .i64 0]) 2 16 Tryz.underlying33 hi hz0 hz1 hz2 rfl (by decide) u3 k (z4o idf off k) (by simp[Act.eval]) (World.ownsRow.alloc (w:=wr.drew) hown _) _ 1 1 [.int .i64 a1,.int .i64 a2] (by simp[Act.eval]) rfl (cell_two_new _ _ _ _) (by intro u hu;simp at hu;rcases hu with rfl|rfl <;> rfl) (by unfold maxLen;omega) (by omega) (by simp;omega) ?_;intro v' w1 hown' hg)
   all_goals
    have hb1:Below w.heap.size w w1:=((hbw.trans (below_drewN (Below.refl _ _) 1)).alloc (by simp;omega) _).grown hg (by simp;omega) (fun q hq=>(hown.lt q hq).1)
    clear hg hown hbw
    go_wp2
    go_roundw
    case rel=>exact⟨k+1,by go_num,by omega,by rw[HS.out];exact hown',hb1⟩
    case measure=>simp[intOf];omega
  ·have hge:¬(k:Int)<(n:Int):=by omega
   obtain rfl:n=k:=by omega
   have HV:Hid (∃p c,u3=.slice p n c∧Scr wr p n idf off∧∀a:Addr,p=some a->w.heap.size≤a.block∧a.block<wr.heap.size):=by
    have h0:=hown
    rcases hown.2 with ⟨rfl,rfl⟩|⟨g,cap',cur,rfl,hb,hg,h1,h2,_⟩
    ·exact⟨none,0,rfl,.inl rfl,fun a e=>by cases e⟩
    ·have hgl:=(Array.getElem?_eq_some_iff.1 hg).1
     refine⟨some ⟨g,0,none⟩,cap',rfl,.inr ⟨g,0,rfl,hgl,fun j hj=>?_⟩,fun a e=>by cases e;exact⟨hb,hgl⟩⟩
     have:=zdw idf off n j hj
     have hl:=z7r idf off n
     rw[h0.cellAt _ (by omega),h0.cellAt _ (by omega),Nat.zero_add]
     exact this
   obtain⟨p',c',rfl,hv1,hv2⟩:=HV.out
   have HVV:Hid (Scr wr p' n idf off∧∀a:Addr,p'=some a->w.heap.size≤a.block∧a.block<wr.heap.size):=⟨hv1,hv2⟩
   clear hown HV hv1 hv2
   go_wp2
   go_ret
   exact⟨p',c',rfl,HVV.out.1,HVV.out.2,hbw⟩
end
end Go.Proofs.YtnponhbgicbkcaaGreatDoor
