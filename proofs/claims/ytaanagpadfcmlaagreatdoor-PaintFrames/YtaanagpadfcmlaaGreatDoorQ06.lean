import Derived.Test.YtaanagpadfcmlaaGreatDoorQ03
import Derived.Deep.OwnRows
set_option linter.all false
set_option maxRecDepth 100000
set_option maxHeartbeats 16000000
namespace Go.Proofs.YtaanagpadfcmlaaGreatDoor
open Go.RowKit Go.Proofs.Tryz
def cl(x:Int):Int:=if x<0 then 0 else if 100000<x then 100000 else x
theorem dq x:0<=cl x/\cl x<=100000:=by grind[cl]
theorem shClamped_any(x:Int)(w:World):
 Cw 212 #[Iq x] w λe w'=>e=Rw (Iq (cl x))/\w'=w:=by
 obtain⟨y,hy⟩:=ad (cl x);rw[hy];unfold cl at hy;by_cases h1:x<0
 ·rw[if_pos h1]at hy;subst hy;have b:x<=0:=dg
  go_enter func212,ntmps212;go_wp2;go_ret;simp_all
 ·rw[if_neg h1]at hy;have b:0<=x:=dg
  by_cases a:100000<x;·rw[if_pos a]at hy;subst hy;go_enter func212,ntmps212;go_wp2;go_ret;simp_all
  ·rw[if_neg a]at hy;subst hy;have c:x<=100000:=dg
   go_enter func212,ntmps212;go_wp2;go_ret;simp_all
def dS(W:World)(blk off n:Nat)(a b c:Nat->Int):Prop:=blk<W.heap.size/\∀j,j<n->W.cell? (aj blk (off+j*3))=some (Iq (a j))/\W.cell? (aj blk (off+j*3+1))=some (Iq (b j))/\W.cell? (aj blk (off+j*3+2))=some (Iq (c j))
theorem dS.below{A B}{d off n}{a b c}(h:dS A d off n a b c)(e:Bt A B):dS B d off n a b c:=
 ⟨zz007 h.1 e.size,λj f=>⟨(e.cell (p:=(aj d _)) h.1).trans (h.2 j f).1,(e.cell (p:=(aj d _)) h.1).trans (h.2 j f).2.1,(e.cell (p:=(aj d _)) h.1).trans (h.2 j f).2.2⟩⟩
theorem dS.grown{A B}{d off n}{a b c}{r}(h:dS A d off n a b c)(e:A.grownBy B (some r))(g:d≠r):dS B d off n a b c:=
 ⟨zz007 h.1 e.size,λj f=>⟨e.cell (h.2 j f).1 rd,e.cell (h.2 j f).2.1 rd,e.cell (h.2 j f).2.2 rd⟩⟩
def dF(mn mx:Int):Int:=if mx<0 then 100000 else if cl mx<cl mn then cl mn else cl mx
theorem gd a b:cl a<=dF a b/\dF a b<=100000:=by have:=dq a;have:=dq b;grind[dF]
theorem Ix:(prog.info? 303).map (λi=>(i.zero,i.size,i.bytes))=some (some (.agg #[Iq 0,Iq 0,Iq 0]),3,24):=ns
theorem J1:prog.underlying 170=some (.slice 303):=ns
theorem ug(n:Nat)(f:n<=1099511627776)w:(Instr.makeSlice 170 (Iq (n:Int)) (Iq (n:Int))).run prog w=.ok (Sq w.heap.size n n) (w.alloc (.cells (madeCells #[Iq 0,Iq 0,Iq 0] (n*3)) 303)):=by obtain⟨i,hi,a⟩:=nJ.1 Ix;simp only[Prod.mk.injEq]at a;obtain⟨d,c,e⟩:=a;have b:=run_make (P:=prog) w 170 303 i _ J1 hi d .i64 .i64 n n dg (iD _) rd dg;simp only[jG,c]at b;exact b
def uI(w wr:World)(B n k:Nat)(a b c:Nat->Int):Prop:=Bt w wr/\B<wr.heap.size/\(∀j,wr.frozen? (aj B j)=false)/\(∀j,j<n*3->∃v,wr.cell? (aj B j)=some v)/\∀j,j<k->wr.cell? (aj B (0+j*3))=some (Iq (cl (a j)))/\wr.cell? (aj B (0+j*3+1))=some (Iq (dF (a j) (b j)))/\wr.cell? (aj B (0+j*3+2))=some (Iq (cl (c j)))
theorem vH(W:World)B i j v(h:∃u,W.cell? (aj B i)=some u):(W.setCell (aj B i) v).cell? (aj B j)=if j=i then some v else W.cell? (aj B j):=by
 obtain⟨u,hu⟩:=h;by_cases e:j=i;·subst e;rw[if_pos rfl,lP _ _ _ rd]
 ·rw[if_neg e,c_ _ _ _ _ (λh=>e rd)]
theorem Jn{w wr}{n k}{a b c}(h:uI w wr w.heap.size n k a b c)(u:k<n)x y z(f:x=cl (a k))(hy:y=dF (a k) (b k))(g:z=cl (c k)):
 uI w (((wr.setCell (aj w.heap.size (k*3)) (Iq x)).setCell (aj w.heap.size (k*3+1)) (Iq y)).setCell (aj w.heap.size (k*3+2)) (Iq z)) w.heap.size n (k+1) a b c:=by
 obtain⟨h1,r,s,d,t⟩:=h;subst f hy g;have i:∀j,(((wr.setCell (aj w.heap.size (k*3)) (Iq (cl (a k)))).setCell (aj w.heap.size (k*3+1)) (Iq (dF (a k) (b k)))).setCell (aj w.heap.size (k*3+2)) (Iq (cl (c k)))).cell? (aj w.heap.size j)
  =if j=k*3+2 then some (Iq (cl (c k)))else if j=k*3+1 then some (Iq (dF (a k) (b k)))else if j=k*3 then some (Iq (cl (a k)))else wr.cell? (aj w.heap.size j):=by intro j;obtain⟨o,e⟩:=d (k*3) dg;obtain⟨v1,p⟩:=d (k*3+1) dg;obtain⟨v2,q⟩:=d (k*3+2) dg;have l:=λj=>(vH wr w.heap.size (k*3) j (Iq (cl (a k))) ⟨o,e⟩);have m:=λj=>(vH (wr.setCell (aj w.heap.size (k*3)) (Iq (cl (a k)))) w.heap.size (k*3+1) j (Iq (dF (a k) (b k))) ⟨v1,rd⟩);rw[vH _ w.heap.size (k*3+2) j _ ⟨v2,rd⟩,m,l]
 refine⟨?_,?_,?_,?_,?_⟩;·exact((h1.setCell (ae _) _).setCell (ae _) _).setCell (ae _) _
 ·simp;omega
 ·simp_all
 all_goals grind
theorem BT{w wr}{n k}{a b c}(h:uI w wr w.heap.size n k a b c)o:uI w (wr.alloc o) w.heap.size n k a b c:=by obtain⟨h1,f,g,i,l⟩:=h;have d:∀j,(wr.alloc o).cell? (aj w.heap.size j)=wr.cell? (aj w.heap.size j):=λj=>World.cell?_alloc_past o _ _ f;refine⟨h1.alloc dg o,by simp;omega,λj=>(World.frozen?_alloc_past o _ _ f).trans (g j),λj e=>by rw[d];exact i j e,λj e=>by rw[d,d,d];exact l j e⟩
theorem ow{w wr}{n k}{a b c}(h:uI w wr w.heap.size n k a b c)(d:k<n)o x y z(e:x=cl (a k))(hy:y=dF (a k) (b k))(f:z=cl (c k)):
 uI w ((((wr.setCell (aj w.heap.size (k*3)) (Iq x)).setCell (aj w.heap.size (k*3+1)) (Iq y)).setCell (aj w.heap.size (k*3+2)) (Iq z)).alloc o) w.heap.size n (k+1) a b c:=
 BT (Jn h d x y z e hy f) o
theorem BU w n a b c d t(f:d.size=n*3):uI w (w.alloc (.cells d t)) w.heap.size n 0 a b c:=by refine⟨(af _ _).alloc (ae _) _,rn,λj=>World.frozen?_alloc_at _ _ _ _ rfl,λj e=>⟨d[j]' dg,?_⟩,λj e=>dg⟩;simp_all
theorem clampedWants_any(n:Nat)(g off F:Nat)(a b c:Nat->Int)(w:World)(h:dS w g off n a b c)(Q:n<=1099511627776):
 Cw 211 #[.slice (some (aj g off)) n F] w λe w'=>e=Rw (Sq w.heap.size n n)/\dS w' w.heap.size 0 n (λj=>cl (a j)) (λj=>dF (a j) (b j)) (λj=>cl (c j))/\Bt w w':=by
 have I:=qH<|h;have d:=h.1;clear h;have P:=ug n Q;go_enter func211,ntmps211;go_wp2;go_loopw[13] (λi wr=>∃k:Nat,i=Iq k/\k<=n/\Hid (uI w wr w.heap.size n k a b c)) (λi _=>n-(intOf i).toNat);case atStart=>exact⟨0,rfl,aR _,BU w n a b c _ _ (size_madeCells _ _)⟩
 case round=>
  obtain⟨k,rfl,W,u⟩:=hrel;have G:=qH<|shClamped_any;have l:=u.out;by_cases q:k<n
  ·have H:(k:Int)<(n:Int):=dg
   have B:=I.2 k q;obtain⟨A,v⟩:=ad (a k);obtain⟨r,x⟩:=ad (b k);obtain⟨J,y⟩:=ad (c k);rw[v,x,y]at B;have X:=zz007 d l.1.size;have K:=(l.1.cell (p:=(aj g _)) d).trans B.1;have L:=(l.1.cell (p:=(aj g _)) d).trans B.2.1;have M:=(l.1.cell (p:=(aj g _)) d).trans B.2.2;have R:=l.2.1;have N:=l.2.2.1;obtain⟨Y,T⟩:=l.2.2.2.1 (k*3) dg;obtain⟨v1,U⟩:=l.2.2.2.1 (k*3+1) dg;obtain⟨v2,V⟩:=l.2.2.2.1 (k*3+2) dg;have f:=qH<|v;have s:=qH<|x;have t:=qH<|y;clear B l v x y;by_cases m:r<0
   ·have z:¬0<=r:=dg
    have E:=qH<|
     λo=>ow u q o _ _ _ (by rw[f.out]) (by unfold dF;rw[s.out,if_pos m]) (by rw[t.out]);go_wp2_with(go_at_call 212;refine(G _ _).mono ?_;rintro e S ⟨rfl,rfl⟩);go_roundw;case rel=>exact⟨k+1,by go_num,dg,E _⟩
    case measure=>simp[intOf];omega
   ·have z:0<=r:=dg
    by_cases C:cl r<cl A;focus
     have D:cl r<=cl A:=dg;have E:=qH<|
      λo=>ow u q o _ _ _ (by rw[f.out]) (by unfold dF;rw[s.out,f.out,if_neg m,if_pos C]) (by rw[t.out])
    rotate_left;focus
     have D:cl A<=cl r:=dg;have E:Hid (∀o,uI w ((((wr.setCell (aj w.heap.size (k*3)) (Iq (cl A))).setCell (aj w.heap.size (k*3+1)) (Iq (if cl A<cl r then cl r else cl A))).setCell (aj w.heap.size (k*3+2)) (Iq (cl J))).alloc o) w.heap.size n (k+1) a b c):=
      λo=>ow u q o _ _ _ (by rw[f.out]) (by unfold dF;rw[s.out,f.out,if_neg m,if_neg C];omega) (by rw[t.out])
    rotate_left;all_goals
     go_wp2_with(go_at_call 212;refine(G _ _).mono ?_;rintro e S ⟨rfl,rfl⟩);go_roundw;case rel=>exact⟨k+1,by go_num,dg,E _⟩
     case measure=>simp[intOf];omega
  ·have O:¬(k:Int)<(n:Int):=dg
   obtain rfl:k=n:=dg;clear l;go_wp2;go_ret;exact⟨rfl,⟨u.2.1,u.2.2.2.2⟩,u.1⟩
