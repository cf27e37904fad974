import Derived.Test.YtbeiapdobffpiaaGreatDoorQ08
import Derived.Deep.OwnRows
set_option linter.all false
set_option maxRecDepth 100000
set_option maxHeartbeats 16000000
namespace Go.Proofs.YtbeiapdobffpiaaGreatDoor
open Go.RowKit Go.Proofs.Tryz
def cl(x:Int):Int:=if x<0 then 0 else if 100000<x then 100000 else x
theorem dm  x  :0<=cl x/\cl x<=100000:=by grind[cl]
theorem shClamped_any(x:Int)(w:World):
 Cw 176 #[Iq x] w fun e w'=>e=Rw (Iq (cl x))/\w'=w:=by
 obtain⟨y,hy⟩:=aj (cl x);rw[hy];unfold cl at hy;by_cases h1:x<0
 ·rw[if_pos h1]at hy;subst hy;have h0:x<=0:=by omega
  go_enter func176,ntmps176;go_wp2;go_ret;simp_all
 ·rw[if_neg h1]at hy;have h0:0<=x:=by omega
  by_cases h2:100000<x;·rw[if_pos h2]at hy;subst hy;go_enter func176,ntmps176;go_wp2;go_ret;simp_all
  ·rw[if_neg h2]at hy;subst hy;have h3:x<=100000:=by omega
   go_enter func176,ntmps176;go_wp2;go_ret;simp_all
def eD(W:World)(blk off n:Nat)(a b c:Nat->Int):Prop:=blk<W.heap.size/\∀j,j<n->W.cell? (az blk (off+j*3))=some (Iq (a j))/\W.cell? (az blk (off+j*3+1))=some (Iq (b j))/\W.cell? (az blk (off+j*3+2))=some (Iq (c j))
theorem eD.below{A B}{blk off n}{a b c}(h:eD A blk off n a b c)(hb:Bt A B):eD B blk off n a b c:=
 ⟨bn h.1 hb.size,fun j hj=>⟨(hb.cell (p:=(az blk _)) h.1).trans (h.2 j hj).1,(hb.cell (p:=(az blk _)) h.1).trans (h.2 j hj).2.1,(hb.cell (p:=(az blk _)) h.1).trans (h.2 j hj).2.2⟩⟩
theorem eD.grown{A B}{blk off n}{a b c}{r}(h:eD A blk off n a b c)(hb:A.grownBy B (some r))(hn:blk≠r):eD B blk off n a b c:=
 ⟨bn h.1 hb.size,fun j hj=>⟨hb.cell (h.2 j hj).1 (by grind),hb.cell (h.2 j hj).2.1 (by grind),hb.cell (h.2 j hj).2.2 (by grind)⟩⟩
def dK(mn mx:Int):Int:=if mx<0 then 100000 else if cl mx<cl mn then cl mn else cl mx
theorem gE  a b  :cl a<=dK a b/\dK a b<=100000:=by have:=dm a;have:=dm b;grind[dK]
theorem Kv:(prog.info? 277).map (fun i=>(i.zero,i.size,i.bytes))=some (some (.agg #[Iq 0,Iq 0,Iq 0]),3,24):=by kernel_rfl
theorem LX:prog.underlying 187=some (.slice 277):=by kernel_rfl
theorem vg(n:Nat)(hn:n<=1099511627776)  w  :(Instr.makeSlice 187 (Iq (n:Int)) (Iq (n:Int))).run prog w=.ok (Sq w.heap.size n n) (w.alloc (.cells (madeCells #[Iq 0,Iq 0,Iq 0] (n*3)) 277)):=by obtain⟨i,hi,hzz⟩:=oA.1 Kv;simp only[Prod.mk.injEq]at hzz;obtain⟨hz,hs,hb⟩:=hzz;have hr:=run_make (P:=prog) w 187 277 i _ LX hi hz .i64 .i64 n n (by omega) (jL _) (by grind) (by omega);simp only[oy,hs]at hr;exact hr
def vT(w wr:World)(B n k:Nat)(a b c:Nat->Int):Prop:=Bt w wr/\B<wr.heap.size/\(∀j,wr.frozen? (az B j)=false)/\(∀j,j<n*3->∃v,wr.cell? (az B j)=some v)/\∀j,j<k->wr.cell? (az B (0+j*3))=some (Iq (cl (a j)))/\wr.cell? (az B (0+j*3+1))=some (Iq (dK (a j) (b j)))/\wr.cell? (az B (0+j*3+2))=some (Iq (cl (c j)))
theorem xt(W:World)  B i j   v  (h:∃u,W.cell? (az B i)=some u):(W.setCell (az B i) v).cell? (az B j)=if j=i then some v else W.cell? (az B j):=by
 obtain⟨u,hu⟩:=h;by_cases e:j=i;·subst e;rw[if_pos rfl,vs _ _ _ (by grind)]
 ·rw[if_neg e,dX _ _ _ _ (fun h=>e (by grind))]
theorem Lh{w wr}{n k}{a b c}(h:vT w wr w.heap.size n k a b c)(hk:k<n)  x y z  (hx:x=cl (a k)) (hy:y=dK (a k) (b k)) (hz:z=cl (c k)):
 vT w (((wr.setCell (az w.heap.size (k*3)) (Iq x)).setCell (az w.heap.size (k*3+1)) (Iq y)).setCell (az w.heap.size (k*3+2)) (Iq z)) w.heap.size n (k+1) a b c:=by
 obtain⟨h1,h2,h3,h4,h5⟩:=h;subst hx hy hz;have key:∀j,(((wr.setCell (az w.heap.size (k*3)) (Iq (cl (a k)))).setCell (az w.heap.size (k*3+1)) (Iq (dK (a k) (b k)))).setCell (az w.heap.size (k*3+2)) (Iq (cl (c k)))).cell? (az w.heap.size j)
  =if j=k*3+2 then some (Iq (cl (c k)))else if j=k*3+1 then some (Iq (dK (a k) (b k)))else if j=k*3 then some (Iq (cl (a k)))else wr.cell? (az w.heap.size j):=by intro j;obtain⟨v0,e0⟩:=h4 (k*3) (by omega);obtain⟨v1,e1⟩:=h4 (k*3+1) (by omega);obtain⟨v2,e2⟩:=h4 (k*3+2) (by omega);have s0:=fun j=>(xt wr w.heap.size (k*3) j (Iq (cl (a k))) ⟨v0,e0⟩);have s1:=fun j=>(xt (wr.setCell (az w.heap.size (k*3)) (Iq (cl (a k)))) w.heap.size (k*3+1) j (Iq (dK (a k) (b k))) ⟨v1,by grind⟩);rw[xt _ w.heap.size (k*3+2) j _ ⟨v2,by grind⟩,s1,s0]
 refine⟨?_,?_,?_,?_,?_⟩;·exact((h1.setCell (ai _) _).setCell (ai _) _).setCell (ai _) _
 ·simp;omega
 ·simp_all
 all_goals grind
theorem Dp{w wr}{n k}{a b c}(h:vT w wr w.heap.size n k a b c)  o  :vT w (wr.alloc o) w.heap.size n k a b c:=by obtain⟨h1,h2,h3,h4,h5⟩:=h;have hA:∀j,(wr.alloc o).cell? (az w.heap.size j)=wr.cell? (az w.heap.size j):=fun j=>World.cell?_alloc_past o _ _ h2;refine⟨h1.alloc (by omega) o,by simp;omega,fun j=>(World.frozen?_alloc_past o _ _ h2).trans (h3 j),fun j hj=>by rw[hA];exact h4 j hj,fun j hj=>by rw[hA,hA,hA];exact h5 j hj⟩
theorem po{w wr}{n k}{a b c}(h:vT w wr w.heap.size n k a b c)(hk:k<n)  o   x y z  (hx:x=cl (a k)) (hy:y=dK (a k) (b k)) (hz:z=cl (c k)):
 vT w ((((wr.setCell (az w.heap.size (k*3)) (Iq x)).setCell (az w.heap.size (k*3+1)) (Iq y)).setCell (az w.heap.size (k*3+2)) (Iq z)).alloc o) w.heap.size n (k+1) a b c:=
 Dp (Lh h hk x y z hx hy hz) o
theorem Dq  w   n   a b c   cs   t  (hc:cs.size=n*3):vT w (w.alloc (.cells cs t)) w.heap.size n 0 a b c:=by refine⟨(ag _ _).alloc (ai _) _,by simp,fun j=>World.frozen?_alloc_at _ _ _ _ rfl,fun j hj=>⟨cs[j]'(by omega),?_⟩,fun j hj=>by omega⟩;simp_all
theorem clampedWants_any(n:Nat)(blk off al:Nat)(a b c:Nat->Int)(w:World)(h:eD w blk off n a b c)(hn:n<=1099511627776):
 Cw 175 #[.slice (some (az blk off)) n al] w fun e w'=>e=Rw (Sq w.heap.size n n)/\eD w' w.heap.size 0 n (fun j=>cl (a j)) (fun j=>dK (a j) (b j)) (fun j=>cl (c j))/\Bt w w':=by
 have HR:=qH<|h;have wK:=h.1;clear h;have gR:=vg n hn;go_enter func175,ntmps175;go_wp2;go_loopw[13] (fun i wr=>∃k:Nat,i=Iq k/\k<=n/\Hid (vT w wr w.heap.size n k a b c)) (fun i _=>n-(intOf i).toNat);case atStart=>exact⟨0,rfl,bc _,Dq w n a b c _ _ (size_madeCells _ _)⟩
 case round=>
  obtain⟨k,rfl,hk,HP⟩:=hrel;have CC:=qH<|shClamped_any;have hP:=HP.out;by_cases hlt:k<n
  ·have aK:(k:Int)<(n:Int):=by omega
   have hc:=HR.2 k hlt;obtain⟨a1,ha1⟩:=aj (a k);obtain⟨a2,ha2⟩:=aj (b k);obtain⟨a3,ha3⟩:=aj (c k);rw[ha1,ha2,ha3]at hc;have hz:=bn wK hP.1.size;have ca1:=(hP.1.cell (p:=(az blk _)) wK).trans hc.1;have ca2:=(hP.1.cell (p:=(az blk _)) wK).trans hc.2.1;have ca3:=(hP.1.cell (p:=(az blk _)) wK).trans hc.2.2;have iD:=hP.2.1;have MW:=hP.2.2.1;obtain⟨v0,e0⟩:=hP.2.2.2.1 (k*3) (by omega);obtain⟨v1,e1⟩:=hP.2.2.2.1 (k*3+1) (by omega);obtain⟨v2,e2⟩:=hP.2.2.2.1 (k*3+2) (by omega);have Iw:=qH<|ha1;have H6:=qH<|ha2;have Fp:=qH<|ha3;clear hc hP ha1 ha2 ha3;by_cases jl:a2<0
   ·have XM:¬0<=a2:=by omega
    have HN:=qH<|
     fun o=>po HP hlt o _ _ _ (by rw[Iw.out]) (by unfold dK;rw[H6.out,if_pos jl]) (by rw[Fp.out]);go_wp2_with(go_at_call 176;refine(CC _ _).mono ?_;rintro e w5 ⟨rfl,rfl⟩);go_roundw;case rel=>exact⟨k+1,by go_num,by omega,HN _⟩
    case measure=>simp[intOf];omega
   ·have XM:0<=a2:=by omega
    by_cases U_:cl a2<cl a1;focus
     have zcj:cl a2<=cl a1:=by omega
     have HN:=qH<|
      fun o=>po HP hlt o _ _ _ (by rw[Iw.out]) (by unfold dK;rw[H6.out,Iw.out,if_neg jl,if_pos U_]) (by rw[Fp.out])
    rotate_left;focus
     have zcj:cl a1<=cl a2:=by omega
     have HN:Hid (∀o,vT w ((((wr.setCell (az w.heap.size (k*3)) (Iq (cl a1))).setCell (az w.heap.size (k*3+1)) (Iq (if cl a1<cl a2 then cl a2 else cl a1))).setCell (az w.heap.size (k*3+2)) (Iq (cl a3))).alloc o) w.heap.size n (k+1) a b c):=
      fun o=>po HP hlt o _ _ _ (by rw[Iw.out]) (by unfold dK;rw[H6.out,Iw.out,if_neg jl,if_neg U_];omega) (by rw[Fp.out])
    rotate_left;all_goals
     go_wp2_with(go_at_call 176;refine(CC _ _).mono ?_;rintro e w5 ⟨rfl,rfl⟩);go_roundw;case rel=>exact⟨k+1,by go_num,by omega,HN _⟩
     case measure=>simp[intOf];omega
  ·have qC:¬(k:Int)<(n:Int):=by omega
   obtain rfl:k=n:=by omega
   clear hP;go_wp2;go_ret;exact⟨rfl,⟨HP.2.1,HP.2.2.2.2⟩,HP.1⟩
