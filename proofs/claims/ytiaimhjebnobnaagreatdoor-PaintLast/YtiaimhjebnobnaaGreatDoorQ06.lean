import Derived.Test.YtiaimhjebnobnaaGreatDoorQ03
import Derived.Deep.OwnRows
set_option linter.all false
set_option maxRecDepth 100000
set_option maxHeartbeats 16000000
namespace Go.Proofs.YtiaimhjebnobnaaGreatDoor
open Go.RowKit Go.Proofs.Tryz
def cl(x:Int):Int:=if x<0 then 0 else if 100000<x then 100000 else x
theorem dU  x  :0<=cl x/\cl x<=100000:=by grind[cl]
theorem shClamped_any(x:Int)(w:World):
 Cw 204 #[Iq x] w fun e w'=>e=Rw (Iq (cl x))/\w'=w:=by
 obtain⟨y,hy⟩:=ag (cl x);rw[hy];unfold cl at hy;by_cases h1:x<0
 ·rw[if_pos h1]at hy;subst hy;have h0:x<=0:=by omega
  go_enter func204,ntmps204;go_wp2;go_ret;simp_all
 ·rw[if_neg h1]at hy;have h0:0<=x:=by omega
  by_cases h2:100000<x;·rw[if_pos h2]at hy;subst hy;go_enter func204,ntmps204;go_wp2;go_ret;simp_all
  ·rw[if_neg h2]at hy;subst hy;have h3:x<=100000:=by omega
   go_enter func204,ntmps204;go_wp2;go_ret;simp_all
def fg(W:World)(blk off n:Nat)(a b c:Nat->Int):Prop:=blk<W.heap.size/\∀j,j<n->W.cell? (az blk (off+j*3))=some (Iq (a j))/\W.cell? (az blk (off+j*3+1))=some (Iq (b j))/\W.cell? (az blk (off+j*3+2))=some (Iq (c j))
theorem fg.below{A B}{blk off n}{a b c}(h:fg A blk off n a b c)(hb:Bt A B):fg B blk off n a b c:=
 ⟨zz008 h.1 hb.size,fun j hj=>⟨(hb.cell (p:=(az blk _)) h.1).trans (h.2 j hj).1,(hb.cell (p:=(az blk _)) h.1).trans (h.2 j hj).2.1,(hb.cell (p:=(az blk _)) h.1).trans (h.2 j hj).2.2⟩⟩
theorem fg.grown{A B}{blk off n}{a b c}{r}(h:fg A blk off n a b c)(hb:A.grownBy B (some r))(hn:blk≠r):fg B blk off n a b c:=
 ⟨zz008 h.1 hb.size,fun j hj=>⟨hb.cell (h.2 j hj).1 (by grind),hb.cell (h.2 j hj).2.1 (by grind),hb.cell (h.2 j hj).2.2 (by grind)⟩⟩
def eO(mn mx:Int):Int:=if mx<0 then 100000 else if cl mx<cl mn then cl mn else cl mx
theorem iP  a b  :cl a<=eO a b/\eO a b<=100000:=by have:=dU a;have:=dU b;grind[eO]
theorem PD:(prog.info? 290).map (fun i=>(i.zero,i.size,i.bytes))=some (some (.agg #[Iq 0,Iq 0,Iq 0]),3,24):=by kernel_rfl
theorem Ra:prog.underlying 178=some (.slice 290):=by kernel_rfl
theorem yW(n:Nat)(hn:n<=1099511627776)  w  :(Instr.makeSlice 178 (Iq (n:Int)) (Iq (n:Int))).run prog w=.ok (Sq w.heap.size n n) (w.alloc (.cells (madeCells #[Iq 0,Iq 0,Iq 0] (n*3)) 290)):=by obtain⟨i,hi,hzz⟩:=qO.1 PD;simp only[Prod.mk.injEq]at hzz;obtain⟨hz,hs,hb⟩:=hzz;have hr:=run_make (P:=prog) w 178 290 i _ Ra hi hz .i64 .i64 n n (by omega) (li _) (by grind) (by omega);simp only[lY,hs]at hr;exact hr
def zF(w wr:World)(B n k:Nat)(a b c:Nat->Int):Prop:=Bt w wr/\B<wr.heap.size/\(∀j,wr.frozen? (az B j)=false)/\(∀j,j<n*3->∃v,wr.cell? (az B j)=some v)/\∀j,j<k->wr.cell? (az B (0+j*3))=some (Iq (cl (a j)))/\wr.cell? (az B (0+j*3+1))=some (Iq (eO (a j) (b j)))/\wr.cell? (az B (0+j*3+2))=some (Iq (cl (c j)))
theorem A_(W:World)  B i j   v  (h:∃u,W.cell? (az B i)=some u):(W.setCell (az B i) v).cell? (az B j)=if j=i then some v else W.cell? (az B j):=by
 obtain⟨u,hu⟩:=h;by_cases e:j=i;·subst e;rw[if_pos rfl,oJ _ _ _ (by grind)]
 ·rw[if_neg e,eu _ _ _ _ (fun h=>e (by grind))]
theorem Qx{w wr}{n k}{a b c}(h:zF w wr w.heap.size n k a b c)(hk:k<n)  x y z  (hx:x=cl (a k)) (hy:y=eO (a k) (b k)) (hz:z=cl (c k)):
 zF w (((wr.setCell (az w.heap.size (k*3)) (Iq x)).setCell (az w.heap.size (k*3+1)) (Iq y)).setCell (az w.heap.size (k*3+2)) (Iq z)) w.heap.size n (k+1) a b c:=by
 obtain⟨h1,h2,h3,h4,h5⟩:=h;subst hx hy hz;have key:∀j,(((wr.setCell (az w.heap.size (k*3)) (Iq (cl (a k)))).setCell (az w.heap.size (k*3+1)) (Iq (eO (a k) (b k)))).setCell (az w.heap.size (k*3+2)) (Iq (cl (c k)))).cell? (az w.heap.size j)
  =if j=k*3+2 then some (Iq (cl (c k)))else if j=k*3+1 then some (Iq (eO (a k) (b k)))else if j=k*3 then some (Iq (cl (a k)))else wr.cell? (az w.heap.size j):=by intro j;obtain⟨v0,e0⟩:=h4 (k*3) (by omega);obtain⟨v1,e1⟩:=h4 (k*3+1) (by omega);obtain⟨v2,e2⟩:=h4 (k*3+2) (by omega);have s0:=fun j=>(A_ wr w.heap.size (k*3) j (Iq (cl (a k))) ⟨v0,e0⟩);have s1:=fun j=>(A_ (wr.setCell (az w.heap.size (k*3)) (Iq (cl (a k)))) w.heap.size (k*3+1) j (Iq (eO (a k) (b k))) ⟨v1,by grind⟩);rw[A_ _ w.heap.size (k*3+2) j _ ⟨v2,by grind⟩,s1,s0]
 refine⟨?_,?_,?_,?_,?_⟩;·exact((h1.setCell (ai _) _).setCell (ai _) _).setCell (ai _) _
 ·simp;omega
 ·simp_all
 all_goals grind
theorem G_{w wr}{n k}{a b c}(h:zF w wr w.heap.size n k a b c)  o  :zF w (wr.alloc o) w.heap.size n k a b c:=by obtain⟨h1,h2,h3,h4,h5⟩:=h;have hA:∀j,(wr.alloc o).cell? (az w.heap.size j)=wr.cell? (az w.heap.size j):=fun j=>World.cell?_alloc_past o _ _ h2;refine⟨h1.alloc (by omega) o,by simp;omega,fun j=>(World.frozen?_alloc_past o _ _ h2).trans (h3 j),fun j hj=>by rw[hA];exact h4 j hj,fun j hj=>by rw[hA,hA,hA];exact h5 j hj⟩
theorem rO{w wr}{n k}{a b c}(h:zF w wr w.heap.size n k a b c)(hk:k<n)  o   x y z  (hx:x=cl (a k)) (hy:y=eO (a k) (b k)) (hz:z=cl (c k)):
 zF w ((((wr.setCell (az w.heap.size (k*3)) (Iq x)).setCell (az w.heap.size (k*3+1)) (Iq y)).setCell (az w.heap.size (k*3+2)) (Iq z)).alloc o) w.heap.size n (k+1) a b c:=
 G_ (Qx h hk x y z hx hy hz) o
theorem Ha  w   n   a b c   cs   t  (hc:cs.size=n*3):zF w (w.alloc (.cells cs t)) w.heap.size n 0 a b c:=by refine⟨(aj _ _).alloc (ai _) _,by simp,fun j=>World.frozen?_alloc_at _ _ _ _ rfl,fun j hj=>⟨cs[j]'(by omega),?_⟩,fun j hj=>by omega⟩;simp_all
theorem clampedWants_any(n:Nat)(blk off cap:Nat)(a b c:Nat->Int)(w:World)(h:fg w blk off n a b c)(hn:n<=1099511627776):
 Cw 203 #[.slice (some (az blk off)) n cap] w fun e w'=>e=Rw (Sq w.heap.size n n)/\fg w' w.heap.size 0 n (fun j=>cl (a j)) (fun j=>eO (a j) (b j)) (fun j=>cl (c j))/\Bt w w':=by
 have HR:=qH<|h;have Gg:=h.1;clear h;have iU:=yW n hn;go_enter func203,ntmps203;go_wp2;go_loopw[13] (fun i wr=>∃k:Nat,i=Iq k/\k<=n/\Hid (zF w wr w.heap.size n k a b c)) (fun i _=>n-(intOf i).toNat);case atStart=>exact⟨0,rfl,aZ _,Ha w n a b c _ _ (size_madeCells _ _)⟩
 case round=>
  obtain⟨k,rfl,hk,HP⟩:=hrel;have CC:=qH<|shClamped_any;have hP:=HP.out;by_cases hlt:k<n
  ·have aN:(k:Int)<(n:Int):=by omega
   have hc:=HR.2 k hlt;obtain⟨a1,ha1⟩:=ag (a k);obtain⟨a2,ha2⟩:=ag (b k);obtain⟨a3,ha3⟩:=ag (c k);rw[ha1,ha2,ha3]at hc;have hz:=zz008 Gg hP.1.size;have ca1:=(hP.1.cell (p:=(az blk _)) Gg).trans hc.1;have ca2:=(hP.1.cell (p:=(az blk _)) Gg).trans hc.2.1;have ca3:=(hP.1.cell (p:=(az blk _)) Gg).trans hc.2.2;have gd:=hP.2.1;have Sy:=hP.2.2.1;obtain⟨v0,e0⟩:=hP.2.2.2.1 (k*3) (by omega);obtain⟨v1,e1⟩:=hP.2.2.2.1 (k*3+1) (by omega);obtain⟨v2,e2⟩:=hP.2.2.2.1 (k*3+2) (by omega);have M8:=qH<|ha1;have Mv:=qH<|ha2;have JS:=qH<|ha3;clear hc hP ha1 ha2 ha3;by_cases kE:a2<0
   ·have zcT:¬0<=a2:=by omega
    have HN:=qH<|
     fun o=>rO HP hlt o _ _ _ (by rw[M8.out]) (by unfold eO;rw[Mv.out,if_pos kE]) (by rw[JS.out]);go_wp2_with(go_at_call 204;refine(CC _ _).mono ?_;rintro e w5 ⟨rfl,rfl⟩);go_roundw;case rel=>exact⟨k+1,by go_num,by omega,HN _⟩
    case measure=>simp[intOf];omega
   ·have zcT:0<=a2:=by omega
    by_cases Zd:cl a2<cl a1;focus
     have zig:cl a2<=cl a1:=by omega
     have HN:=qH<|
      fun o=>rO HP hlt o _ _ _ (by rw[M8.out]) (by unfold eO;rw[Mv.out,M8.out,if_neg kE,if_pos Zd]) (by rw[JS.out])
    rotate_left;focus
     have zig:cl a1<=cl a2:=by omega
     have HN:Hid (∀o,zF w ((((wr.setCell (az w.heap.size (k*3)) (Iq (cl a1))).setCell (az w.heap.size (k*3+1)) (Iq (if cl a1<cl a2 then cl a2 else cl a1))).setCell (az w.heap.size (k*3+2)) (Iq (cl a3))).alloc o) w.heap.size n (k+1) a b c):=
      fun o=>rO HP hlt o _ _ _ (by rw[M8.out]) (by unfold eO;rw[Mv.out,M8.out,if_neg kE,if_neg Zd];omega) (by rw[JS.out])
    rotate_left;all_goals
     go_wp2_with(go_at_call 204;refine(CC _ _).mono ?_;rintro e w5 ⟨rfl,rfl⟩);go_roundw;case rel=>exact⟨k+1,by go_num,by omega,HN _⟩
     case measure=>simp[intOf];omega
  ·have tD:¬(k:Int)<(n:Int):=by omega
   obtain rfl:k=n:=by omega
   clear hP;go_wp2;go_ret;exact⟨rfl,⟨HP.2.1,HP.2.2.2.2⟩,HP.1⟩
