import Derived.Test.YtehgehanbnkdiaaGreatDoorQ00
import Derived.Test.YtehgehanbnkdiaaGreatDoorQ29
import Derived.Test.YtehgehanbnkdiaaGreatDoorQ34
set_option linter.all false
set_option maxRecDepth 100000
set_option maxHeartbeats 16000000
namespace Go.Proofs.YtehgehanbnkdiaaGreatDoor
open Go.RowKit Go.Proofs.Tryz
theorem yO n:Lib.repeatL [32] n=List.replicate n 32:=by
 induction n with
 |zero=>rfl
 |succ n a=>simp[Lib.repeatL,a,List.replicate_succ]
theorem blank_any(n:Nat)w(a:n<=140737488355328):
 Cw 173 #[.string ⟨#[32]⟩,Iq n] w λe w'=>e=Rw (.string ⟨(List.replicate n 32).toArray⟩)/\Bq w w':=by refine(pU ⟨#[32]⟩ n w dg (by show 1*n<=_;omega)).mono ?_;grind[yO]
theorem textOf_any(l:List (List UInt8×Int))(v:Fd)(w:AT)(x:tY w v l)(A:l.length<=1099511627776)(H:(aF l).length<=70368744177664):
 Cw 291 #[v] w λe w'=>e=Rw (.string ⟨(aF l).toArray⟩)/\Bq w w':=by
 obtain⟨a,E,rfl,hh⟩:=x;have q:=qH<|λk=>fJ l k;go_enter func291,ntmps291;go_wp2;go_loopw[8] (λi wr=>∃k:Nat,k<=l.length/\i=Iq k/\Hid (Lib.IsBuilderF 160 5 w.heap.size w.heap.size (Lib.byteCells (aF (l.take k))) wr)/\Bq w wr) (λi _=>l.length-(intOf i).toNat);case atStart=>exact⟨0,aP _,rfl,Lib.IsBuilderF.of (Lib.fresh_isBuilder 160 5 w),(ac _ _).alloc (ad _) _⟩
 case round=>
  obtain⟨k,I,rfl,o,c⟩:=hrel;have m:=c.size;by_cases f:k<l.length
  ·have h:(k:Int)<(l.length:Int):=dg
   have j:l≠[]:=λe=>rn;obtain⟨b,off,rfl,z,u⟩:=hh.resolve_left j;obtain⟨T,V,d⟩:∃T V,l[k]=(T,V):=⟨_,_,rfl⟩;have D:wr.cell? (aq b (off+k*2))=some (.string ⟨T.toArray⟩):=by have:=(u k f).1;rw[d]at this;exact(c.cell (p:=(aq b (off+k*2))) z).trans this
   have c1:wr.cell? (aq b (off+k*2+1))=some (Iq V):=by have:=(u k f).2;rw[d]at this;exact(c.cell (p:=(aq b (off+k*2+1))) z).trans this
   have r:Hid (aF (l.take (k+1))=aF (l.take k)++T):=by show _=_;rw[vd l k f,d]
   have g:=q (k+1);rw[r.out,aI]at g;have s:(⟨T.toArray⟩:BY).size=T.length:=by simp[ByteArray.size]
   obtain⟨Y,y⟩:=af (aF (l.take k));rw[y]at r g o;clear hh u d j y;go_wp2_with fail;refine(oh w.heap.size w.heap.size _ ⟨T.toArray⟩ _ (o.alloc _) (by rw[Lib.byteCells_length,s];omega) (by simp;omega)).mono ?_;rintro e C ⟨rfl,F,n,G⟩;have t:=(c.alloc m _).trans n;clear o D c1 n G;go_wp2;go_roundw;case rel=>refine⟨k+1,dg,by go_num,?_,t⟩;show Lib.IsBuilderF _ _ _ _ _ _;rw[r.out,Lib.byteCells_append];exact Or.inr F
   case measure=>simp[intOf];omega
  ·have h:¬(k:Int)<(l.length:Int):=dg
   have B:Hid (l.take k=l):=gT dg;clear hh;go_wp2_with fail;refine(Ad w.heap.size w.heap.size (aF (l.take k)) _ o m).mono ?_;rintro e C ⟨rfl,_,n,_⟩;go_wp2;go_ret;rw[B.out];exact⟨rfl,c.trans n⟩
theorem lf(w:AT)b i j v(h:i≠j):(w.setCell (aq b i) v).cell? (aq b j)=w.cell? (aq b j):=
 b_ _ _ _ _ (λe=>h rn)
def uc(B:Nat)(w:AT)(v:Fd)(l:List (List UInt8×Int)):Prop:=
 ∃a cap,v=.slice a l.length cap/\l.length<=cap/\cap<=maxLen/\(l=[]\/∃b off,a=some (aq b off)/\B<=b/\b<w.heap.size/\∀j (hj:j<l.length),w.cell? (aq b (off+j*2))=some (.string ⟨(l[j]).1.toArray⟩)/\w.cell? (aq b (off+j*2+1))=some (Iq (l[j]).2)/\w.frozen? (aq b (off+j*2))=false/\w.frozen? (aq b (off+j*2+1))=false)
theorem uc.cls{B}{w}{v}{l}(h:uc B w v l):tY w v l:=by obtain⟨a,b,rfl,_,_,hh⟩:=h;refine⟨a,b,rfl,hh.imp id ?_⟩;grind
theorem ux{w}{B n}{e}{v}{l}(h:w.ownsRow B e 2 v n (dh l)):uc B w v l:=by
 have x:l.length=n:=by have:=h.1;rw[jM]at this;omega
 have t:=sZ h;rcases h.2 with⟨rfl,rfl⟩|⟨g,o,p,rfl,s,k,i,c,_⟩;·have y:=iG.1 x;subst y;exact⟨none,0,rfl,ad _,aP _,.inl rfl⟩
 ·obtain⟨a,d,q,hh⟩:=t;cases q;refine⟨_,_,rfl,dg,c,hh.imp id ?_⟩;rintro⟨b,off,r,u,f⟩;cases r;exact⟨g,0,rfl,s,u,λj m=>⟨(f j m).1,(f j m).2,frozen_of_row _ _ _ _ _ k,frozen_of_row _ _ _ _ _ k⟩⟩
theorem OG l j(b:j<l.length)(a:j<(one l).length):(one l)[j]=if(l[j]).1=[10]then([32],1)else l[j]:=by simp[one]
def kX(w:AT)(v:Fd)(l:List (List UInt8×Int)):Prop:=
 ∃a cap,v=.slice a l.length cap/\l.length<=cap/\cap<=maxLen/\(l=[]\/∃b off,a=some (aq b off)/\b<w.heap.size/\∀j (hj:j<l.length),w.cell? (aq b (off+j*2))=some (.string ⟨(l[j]).1.toArray⟩)/\w.cell? (aq b (off+j*2+1))=some (Iq (l[j]).2))
theorem kX.cls{w}{v}{l}(h:kX w v l):tY w v l:=by obtain⟨a,b,rfl,_,_,hh⟩:=h;exact⟨a,b,rfl,hh⟩
theorem kX.below{w w'}{v}{l}(h:kX w v l)(g:Bq w w'):kX w' v l:=by obtain⟨a,cap,rfl,d,f,hh⟩:=h;obtain⟨a',c,e,b⟩:=(tY.below ⟨a,cap,rfl,hh⟩ g:tY w' (.slice a l.length cap) l);cases e;exact⟨a,cap,rfl,d,f,b⟩
theorem uc.clsC{B}{w}{v}{l}(h:uc B w v l):kX w v l:=by obtain⟨a,b,rfl,c,d,hh⟩:=h;refine⟨a,b,rfl,c,d,hh.imp id ?_⟩;grind
theorem uy{w}{b off a n}{l:List (List UInt8×Int)}(c:b<w.heap.size)(e:∀j (d:j<l.length),w.cell? (aq b (off+j*2))=some (.string ⟨(l[j]).1.toArray⟩)/\w.cell? (aq b (off+j*2+1))=some (Iq (l[j]).2))(f:n<=l.length):
 tY w (.slice (some (aq b off)) n a) (l.take n):=by refine⟨_,a,rn,.inr ⟨b,off,rfl,c,λj d=>?_⟩⟩;grind
theorem pF l n(a:n<=l.length):∀k,k<=n->dH (l.take n) k=dH l k
 |0,_=>rfl
 |k+1,h=>by
  have e:tx (l.take n) k=tx l k:=by simp[tx,show k<n by omega]
  simp only[dH,e,pF l n a k dg]
theorem jO(l:List (List UInt8×Int))(v:Fd)(W:Int)(w:AT)(z:kX w v l)(H:∀c∈l,0<=c.2/\c.2<=2)(A:l.length<=1099511627776)(zg:1<=W)(E:W<=9223372036854775807):
 Cw 323 #[v,Iq W] w λe w'=>e=Rw (.tuple #[Iq (aQ l W).n,Iq (aQ l W).d,Iq (aQ l W).e])/\Bq w w':=by
 have N:=qH<|fitting_any l v W w z.cls H A dg E;have o:=jp l W;obtain⟨n,Y⟩:=af (da l W);have q:Hid (aQ l W=if n=l.length then⟨n,0,3⟩
  else if tx l n=[10]then⟨n,1,2⟩
  else if n=0 then⟨1,0,1⟩
  else if tx l n=[32]then⟨n,1,0⟩
  else if 0<=dH l n then⟨(dH l n).toNat,1,0⟩
  else⟨n,0,1⟩):=by show _=_;unfold aQ;rw[Y]
 rw[Y]at N o;obtain⟨a,D,rfl,S,X,hh⟩:=z;go_enter func323,ntmps323;go_wp2_with fail;refine N.mono ?_;rintro e r ⟨rfl,t⟩;by_cases k:n=l.length
 ·have g:Hid (aQ l W=⟨n,0,3⟩):=by show _=_;rw[q.out,if_pos k]
  subst k;go_wp2;go_ret3;rw[g.out];simp_all
 have B:n<l.length:=dg;have L:l≠[]:=λe=>rn;obtain⟨b,off,rfl,F,R⟩:=hh.resolve_left L;have G:=zz006 F t.size;have y:Hid (∀j (J:j<l.length),r.cell? (aq b (off+j*2))=some (.string ⟨(l[j]).1.toArray⟩)/\r.cell? (aq b (off+j*2+1))=some (Iq (l[j]).2)):=
  λj J=>⟨(t.cell (p:=(aq b (off+j*2))) F).trans (R j J).1,(t.cell (p:=(aq b (off+j*2+1))) F).trans (R j J).2⟩;have HT:Hid (tY r (.slice (some (aq b off)) n D) (l.take n)):=uy G y dg;obtain⟨T,V,x⟩:∃T V,l[n]=(T,V):=⟨_,_,rfl⟩;have c0:r.cell? (aq b (off+n*2))=some (.string ⟨T.toArray⟩):=by have:=(y n B).1;rw[x]at this;exact this
 have i:Hid (tx l n=T):=by show _=_;rw[BI B,x]
 by_cases f:T=[10]
 ·have g:Hid (aQ l W=⟨n,1,2⟩):=by show _=_;rw[q.out,if_neg k,if_pos (by rw[i.out,f])]
  go_wp2;go_ret3;rw[g.out];simp_all
 have P:(T==[10])=false:=by simpa using f
 by_cases u:n=0
 ·have g:Hid (aQ l W=⟨1,0,1⟩):=by show _=_;rw[q.out,if_neg k,if_neg (by rw[i.out];exact f),if_pos u]
  subst u;have ze:r.cell? (aq b off)=some (.string ⟨T.toArray⟩):=by simpa using c0
  go_wp2;go_ret3;rw[g.out];simp_all
 by_cases h:T=[32]
 ·have g:Hid (aQ l W=⟨n,1,0⟩):=by show _=_;rw[q.out,if_neg k,if_neg (by rw[i.out];exact f),if_neg u,if_pos (by rw[i.out,h])]
  go_wp2;go_ret3;rw[g.out];simp_all
 have Q:(T==[32])=false:=by simpa using h
 have M:=qU (l.take n) _ r HT rn;have I:=pE l n;rw[cF,I' o,pF l n o n (ad _)]at M;have s:=qH<|M;obtain⟨m,U⟩:=af (dH l n);have O:=qH<|U;rw[U]at s I;go_wp2_with fail;refine s.mono ?_;rintro e w2 ⟨rfl,b2⟩;have hB:=t.trans (b2.mono t.size);by_cases C:0<=m
 ·have g:Hid (aQ l W=⟨m.toNat,1,0⟩):=by show _=_;rw[q.out,if_neg k,if_neg (by rw[i.out];exact f),if_neg u,if_neg (by rw[i.out];exact h),O.out,if_pos C]
  have K:((m.toNat:Nat):Int)=m:=dg;have Z:=qH<|K;go_wp2;go_ret3;rw[g.out];simp_all
 ·have g:Hid (aQ l W=⟨n,0,1⟩):=by show _=_;rw[q.out,if_neg k,if_neg (by rw[i.out];exact f),if_neg u,if_neg (by rw[i.out];exact h),O.out,if_neg C]
  go_wp2;go_ret3;rw[g.out];simp_all
theorem LK{w:AT}{B}{t}{f g i j k a b c d e}(h:w.heap[B]?=some (.cells #[f,g,i,j,k] t (0,0))):
 (((((w.setCell (aq B 0) a).setCell (aq B 1) b).setCell (aq B 2) c).setCell (aq B 3) d).setCell (aq B 4) e).heap[B]?=some (.cells #[a,b,c,d,e] t (0,0)):=by rw[heap_setCell_same _ _ _ _ _ _ (heap_setCell_same _ _ _ _ _ _ (heap_setCell_same _ _ _ _ _ _ (heap_setCell_same _ _ _ _ _ _ (heap_setCell_same _ _ _ _ _ _ h))))];rfl
def GQ(T:zzf)(W:Int)(F N E:Int):Fd:=.agg #[.string ⟨T.toArray⟩,Iq W,Iq F,Iq N,Iq E]
def m_(l:List (List UInt8×Int))(W:Int):Fd:=if W<ak l then GQ (List.replicate W.toNat 32) W 0 1 0 else GQ (aF l) (ak l) 0 l.length 0
theorem pG(l:List (List UInt8×Int))(v:Fd)(W:Int)(w:AT)(hcl:tY w v l)(E:∀c∈l,0<=c.2/\c.2<=2)(F:l.length<=1099511627776)(hj:(aF l).length<=70368744177664)(zg:1<=W)(L:W<ak l->W<=1099511627776):
 Cw 324 #[v,Iq W] w λe w'=>e=Rw (m_ l W)/\Bq w w':=by
 have A:=qH<|E;have q:=cM l E l.length;rw[kq]at q;have B:=qH<|hcl;obtain⟨a,ze,rfl,hh⟩:=hcl;go_enter func324,ntmps324;go_wp2;go_loopw[5,10] (λt i wr=>∃k:Nat,k<=l.length/\i=Iq k/\t=Iq (ak (l.take k))/\Bq w wr/\w.heap.size<wr.heap.size/\wr.heap[w.heap.size]?=some (.cells #[.string ⟨#[]⟩,Iq 0,Iq 0,Iq 0,Iq 0] 341)) (λ_ i _=>l.length-(intOf i).toNat);case atStart=>exact⟨0,aP _,rfl,rfl,(ac _ _).alloc (ad _) _,At,heap_alloc_new _ _⟩
 case round=>
  obtain⟨k,hk,rfl,rfl,g,x,hrow⟩:=hrel;have z:=cM l A k;have y:=g.size;by_cases n:k<l.length
  ·have G:(k:Int)<(l.length:Int):=dg
   have N:l≠[]:=λe=>rn;obtain⟨b,off,rfl,Z,H⟩:=hh.resolve_left N;obtain⟨T,V,m⟩:∃T V,l[k]=(T,V):=⟨_,_,rfl⟩;have S:=A l[k] (iB n);have c0:wr.cell? (aq b (off+k*2))=some (.string ⟨T.toArray⟩):=by have:=(H k n).1;rw[m]at this;exact(g.cell (p:=(aq b (off+k*2))) Z).trans this
   have c1:wr.cell? (aq b (off+k*2+1))=some (Iq V):=by have:=(H k n).2;rw[m]at this;exact(g.cell (p:=(aq b (off+k*2+1))) Z).trans this
   have Q:Hid (ak (l.take (k+1))=ak (l.take k)+V):=by show _=_;rw[em l k n,m]
   rw[m]at S;obtain⟨X,D⟩:=af (ak (l.take k));rw[D]at Q z;rw[D];simp only at S;have f:=qH<|hrow;go_wp2;go_roundw;case rel=>exact⟨k+1,dg,by go_num,by rw[Q.out],g.alloc y _,by simp;omega,(((ac wr.heap.size wr).alloc (ad _) _).block w.heap.size x).trans f⟩
   case measure=>simp[intOf];omega
  ·have G:¬(k:Int)<(l.length:Int):=dg
   have e:l.take k=l:=gT dg;rw[e]at z⊢;have f:=qH<|hrow;have o:=qH<|B.below g;have I:=qH<|textOf_any l _ wr o F hj;obtain⟨X,D⟩:=af (ak l);have C:=qH<|D;rw[D]at z q L⊢;obtain⟨J,R⟩:=af (aF l);have K:=qH<|R;rw[R]at I;by_cases M:W<X
   ·obtain⟨c,H⟩:∃c:Nat,W=c:=⟨W.toNat,dg⟩;subst H;have P:=qH<|blank_any c wr dg;obtain⟨Y,U⟩:=af (List.replicate c (32:UInt8));have HY:=qH<|U;rw[U]at P;go_wp2_with fail;refine P.mono ?_;rintro e h ⟨rfl,s⟩;have O:=s.size;have d:=(s.block w.heap.size x).trans f;have q0:h.cell? (aq w.heap.size 0)=some (.string ⟨#[]⟩):=by simp[World.cell?,d]
    have q1:h.cell? (aq w.heap.size 1)=some (Iq 0):=by simp[World.cell?,d]
    have q2:h.cell? (aq w.heap.size 2)=some (Iq 0):=by simp[World.cell?,d]
    have q3:h.cell? (aq w.heap.size 3)=some (Iq 0):=by simp[World.cell?,d]
    have q4:h.cell? (aq w.heap.size 4)=some (Iq 0):=by simp[World.cell?,d]
    have fr:∀j,h.frozen? (aq w.heap.size j)=false:=λj=>frozen_of_row _ _ _ _ _ d;have r:=qH<|d;go_wp2;try simp only[Exit.inBlock,Exit.then]
    refine bodyPost_ret (results_cell_row rfl _ _ w.heap.size _ _ _ _ rfl (LK r) underlying341 rfl pt) rfl ?_;rw[m_,C.out,if_pos M];refine⟨?_,?_⟩;·rw[show((c:Int)).toNat=c from rfl,HY.out];rfl
    ·have u:=g.trans (s.mono y);exact((((u.setCell (p:=(aq w.heap.size 0)) (ad _) _).setCell (p:=(aq w.heap.size 1)) (ad _) _).setCell (p:=(aq w.heap.size 2)) (ad _) _).setCell (p:=(aq w.heap.size 3)) (ad _) _).setCell (p:=(aq w.heap.size 4)) (ad _) _
   ·go_wp2_with fail;refine I.mono ?_;rintro e h ⟨rfl,s⟩;have O:=s.size;have d:=(s.block w.heap.size x).trans f;have q0:h.cell? (aq w.heap.size 0)=some (.string ⟨#[]⟩):=by simp[World.cell?,d]
    have q1:h.cell? (aq w.heap.size 1)=some (Iq 0):=by simp[World.cell?,d]
    have q2:h.cell? (aq w.heap.size 2)=some (Iq 0):=by simp[World.cell?,d]
    have q3:h.cell? (aq w.heap.size 3)=some (Iq 0):=by simp[World.cell?,d]
    have q4:h.cell? (aq w.heap.size 4)=some (Iq 0):=by simp[World.cell?,d]
    have fr:∀j,h.frozen? (aq w.heap.size j)=false:=λj=>frozen_of_row _ _ _ _ _ d;have r:=qH<|d;clear d I o B f;go_wp2;try simp only[Exit.inBlock,Exit.then]
    refine bodyPost_ret (results_cell_row rfl _ _ w.heap.size _ _ _ _ rfl (LK r) underlying341 rfl pt) rfl ?_;rw[m_,C.out,K.out,if_neg dg];refine⟨rfl,?_⟩;have u:=g.trans (s.mono y);exact((((u.setCell (p:=(aq w.heap.size 0)) (ad _) _).setCell (p:=(aq w.heap.size 1)) (ad _) _).setCell (p:=(aq w.heap.size 2)) (ad _) _).setCell (p:=(aq w.heap.size 3)) (ad _) _).setCell (p:=(aq w.heap.size 4)) (ad _) _
def cC(x:Ln):List Fd:=[.string ⟨x.T.toArray⟩,Iq x.W,Iq x.F,Iq x.N,Iq x.E]
def fL(ls:List Ln):List Fd:=ls.flatMap cC
theorem vu a x:fL (a++[x])=fL a++cC x:=by simp[fL]
theorem Ct{W:AT}{B}{x}{t}(h:W.heap[B]?=some (.cells (cC x).toArray t (0,0))):W.cell? (aq B 0)=some (.string ⟨x.T.toArray⟩)/\W.cell? (aq B 1)=some (Iq x.W)/\W.cell? (aq B 2)=some (Iq x.F)/\W.cell? (aq B 3)=some (Iq x.N)/\W.cell? (aq B 4)=some (Iq x.E):=by simp[World.cell?,h,cC]
theorem G7(W:AT)x t:∀  j   u,(cC x)[j]?=some u->(W.alloc (.cells (cC x).toArray t)).cell? (((aq W.heap.size 0):Addr).add j)=some u:=by
 intro j u hu;have a:((aq W.heap.size 0):Addr).add j=(aq W.heap.size j):=by unfold Addr.add;split<;>simp_all
 simp_all
theorem qN(s:BY)(w:AT)(O:aY w)(R:s.size<=1099511627776):
 Cw 289 #[.string s] w λe w'=>∃v,e=Rw v/\uc w.heap.size w' v (one (aZ (aA s.data.toList)))/\Bq w w':=by
 have F:s.data.toList.length=s.size:=by rw[ep];rfl
 have r:=bm s.data.toList;have P:=bS (aA s.data.toList);rw[F]at r;have G:Hid (Cw 236 #[.string s] w λe w'=>∃v,e=Rw v/\uc w.heap.size w' v (aZ (aA s.data.toList))/\Bq w w'):=by refine(dG s w O R).mono ?_;rintro e u ⟨v,rfl,o,b⟩;exact⟨v,rfl,ux o,b⟩
 obtain⟨l,N⟩:=af (aZ (aA s.data.toList));rw[N]at G P⊢;clear N F O;go_enter func289,ntmps289;go_wp2_with fail;refine G.mono ?_;rintro e u ⟨v1,rfl,⟨a,y,rfl,A,q,hh⟩,J⟩;clear G;have S:=J.size;have L:=pN l;by_cases D:l=[]
 ·subst D;go_wp2;go_loopw[9] (λi wr=>i=Iq 0/\wr=u) (λi _=>0);case atStart=>grind
  case round=>obtain⟨rfl,rfl⟩:=hrel;go_wp2;go_ret;exact⟨_,rfl,⟨a,y,rfl,A,q,.inl rfl⟩,J⟩
 obtain⟨b,off,rfl,K,Q,M⟩:=hh.resolve_left D;have I:Hid (∀j (f:j<l.length),u.cell? (aq b (off+j*2))=some (.string ⟨(l[j]).1.toArray⟩)/\u.cell? (aq b (off+j*2+1))=some (Iq (l[j]).2)/\u.frozen? (aq b (off+j*2))=false/\u.frozen? (aq b (off+j*2+1))=false):=M;clear M hh;go_wp2;go_loopw[9] (λi wr=>∃k:Nat,k<=l.length/\i=Iq k/\b<wr.heap.size/\Hid (∀j (f:j<l.length) (c:j<(one l).length),(j<k->wr.cell? (aq b (off+j*2))=some (.string ⟨((one l)[j]).1.toArray⟩)/\wr.cell? (aq b (off+j*2+1))=some (Iq ((one l)[j]).2))/\(k<=j->wr.cell? (aq b (off+j*2))=some (.string ⟨(l[j]).1.toArray⟩)/\wr.cell? (aq b (off+j*2+1))=some (Iq (l[j]).2))/\wr.frozen? (aq b (off+j*2))=false/\wr.frozen? (aq b (off+j*2+1))=false)/\Bq w wr) (λi _=>l.length-(intOf i).toNat);case atStart=>exact⟨0,aP _,rfl,Q,λj f _=>⟨λh=>dg,λ_=>⟨(I j f).1,(I j f).2.1⟩,(I j f).2.2⟩,J⟩
 case round=>
  obtain⟨k,X,rfl,t,H,n⟩:=hrel;have U:=n.size;by_cases B:k<l.length
  ·have C:(k:Int)<(l.length:Int):=dg
   obtain⟨T,V,m⟩:∃T V,l[k]=(T,V):=⟨_,_,rfl⟩;have d:=H k B dg;have W:wr.cell? (aq b (off+k*2))=some (.string ⟨T.toArray⟩):=by have:=(d.2.1 (ad _)).1;rw[m]at this;exact this
   have c1:wr.cell? (aq b (off+k*2+1))=some (Iq V):=by have:=(d.2.1 (ad _)).2;rw[m]at this;exact this
   have f0:=d.2.2.1;have f1:=d.2.2.2;have E:(one l)[k]' dg=if T=[10]then([32],1)else(T,V):=by rw[OG l k B,m]
   have x:Hid (∀c:k<(one l).length,(one l)[k]=if T=[10]then([32],1)else(T,V)):=λ_=>E;clear d E m;by_cases g:T=[10]
   ·have z:(T==[10])=true:=by rw[g];rfl
    go_wp2;go_roundw;case rel=>
     refine⟨k+1,dg,by go_num,by simpa using t,λj f c=>?_,?_⟩
     ·have r:=H j f c;simp only[eG];refine⟨λh=>?_,λh=>?_,r.2.2⟩
      ·by_cases e:j=k
       ·subst e;rw[x c,if_pos g];refine⟨?_,?_⟩;·rw[lf _ _ _ _ _ dg];exact nA _ _ _ rn
        ·exact nA _ _ _ (by grind[lf])
       grind[lf]
      grind[lf]
     ·exact(n.setCell (p:=(aq b (off+k*2))) K _).setCell (p:=(aq b (off+k*2+1))) K _
    case measure=>simp[intOf];omega
   ·have z:(T==[10])=false:=by simpa using g
    go_wp2;go_roundw;case rel=>
     refine⟨k+1,dg,by go_num,t,λj f c=>?_,n⟩;have r:=H j f c;refine⟨λh=>?_,λh=>r.2.1 dg,r.2.2⟩;by_cases e:j=k;·subst e;rw[x c,if_neg g];grind
     grind
    case measure=>simp[intOf];omega
  ·have C:¬(k:Int)<(l.length:Int):=dg
   go_wp2;go_ret;refine⟨_,rfl,⟨_,y,by rw[L];rfl,dg,q,.inr ⟨b,off,rfl,K,t,λj f=>?_⟩⟩,n⟩;have r:=H j dg f;grind
def qJ(m:List (List UInt8×Int))(W:Int):List UInt8:=if W<1 then[]else if ak m<=W then aF m else aF (m.take (da m (W-1)))++[226,128,166]
theorem JL(s:BY)(W:Int)(w:AT)(ht:aY w)(hs:s.size<=1099511627776)(H:-9223372036854775808<=W)(I:W<=9223372036854775807):
 Cw 240 #[.string s,Iq W] w λe w'=>e=Rw (.string ⟨(qJ (one (aZ (aA s.data.toList))) W).toArray⟩)/\Bq w w':=by
 have E:s.data.toList.length=s.size:=by rw[ep];rfl
 have hR:=bm s.data.toList;have hC:=bS (aA s.data.toList);rw[E]at hR;by_cases B:W<1
 ·have p:Hid (qJ (one (aZ (aA s.data.toList))) W=[]):=by show _=_;rw[qJ,if_pos B]
  go_enter func240,ntmps240;go_wp2;go_ret;rw[p.out];exact⟨rfl,ac _ _⟩
 have D:=pN (aZ (aA s.data.toList));have n:=G_ (eI (aA s.data.toList));have q:=Lr (aZ (aA s.data.toList));have N:=mj _ (Dz (oT (aA s.data.toList)));have G:Hid (Cw 289 #[.string s] w λe w'=>∃v,e=Rw v/\uc w.heap.size w' v (one (aZ (aA s.data.toList)))/\Bq w w'):=qN s w ht hs;obtain⟨m,hm⟩:=af (one (aZ (aA s.data.toList)));rw[hm]at D n q N G⊢;have i:=JR m W n q dg;have A:=jp m (W-1);have r:m.length<=1099511627776:=dg;have R:Hid (qJ m W=if ak m<=W then aF m else aF (m.take (da m (W-1)))++[226,128,166]):=by show _=_;rw[qJ,if_neg B]
 have t:Hid (∀c∈m,0<=c.2/\c.2<=2):=n;have F:Hid (∀k,(aF (m.take k)).length<=(aF m).length):=λk=>fJ m k;clear hm E hC n q ht D;go_enter func240,ntmps240;go_wp2_with fail;refine G.mono ?_;rintro e w1 ⟨v1,rfl,U,x⟩;have o:Hid (kX w1 v1 m):=U.clsC;obtain⟨a,l,rfl,X,ze,hh⟩:=U;clear G;go_wp2_with fail;refine(fitting_any m _ W w1 o.cls t r H I).mono ?_;rintro e Q ⟨rfl,y⟩;have j:Hid (kX Q (.slice a m.length l) m):=o.below y;have M:=jp m W;obtain⟨f,Z⟩:=af (da m W);rw[Z]at i M⊢;clear Z o;by_cases d:f=m.length
 ·have p:Hid (qJ m W=aF m):=by show _=_;rw[R.out,if_pos (i.1 d)]
  subst d;clear i hh;go_wp2_with fail;refine(textOf_any m _ Q j.cls r dg).mono ?_;rintro e w3 ⟨rfl,z⟩;go_wp2;go_ret;rw[p.out];exact⟨rfl,x.trans ((y.mono x.size).trans (z.mono (az x.size y.size)))⟩
 ·have p:Hid (qJ m W=aF (m.take (da m (W-1)))++[226,128,166]):=by show _=_;rw[R.out,if_neg (λh=>d (i.2 h))]
  have C:m≠[]:=λe=>rn;obtain⟨b,off,rfl,hB,hb,hc⟩:=hh.resolve_left C;have J:¬(f:Int)=(m.length:Int):=dg;clear i hh hc;go_wp2_with fail;refine(fitting_any m _ (W-1) Q j.cls t r dg dg).mono ?_;rintro e w3 ⟨rfl,z⟩;have u:Hid (kX w3 (.slice (some (aq b off)) m.length l) m):=j.below z;obtain⟨g,hg⟩:=af (da m (W-1));rw[hg]at p A⊢;have S:Hid (tY w3 (.slice (some (aq b off)) g l) (m.take g)):=by obtain⟨a',T,e1,_,_,hh⟩:=u.out;cases e1;obtain⟨b',zg,e2,K,L⟩:=hh.resolve_left C;cases e2;exact uy K L A
  have O:=F g;have P:(m.take g).length<=1099511627776:=by rw[cF];omega
  clear hg j u;have zh:(g:Int)<=(l:Int):=dg;go_wp2_with fail;refine(textOf_any (m.take g) _ w3 S P dg).mono ?_;rintro e w4 ⟨rfl,b4⟩;obtain⟨Y,V⟩:=af (aF (m.take g));rw[V]at p O⊢;clear V S;go_wp2;go_ret;rw[p.out,<-L8];have s1:=x.size;have s2:=y.size;have s3:=z.size;exact⟨rfl,x.trans ((y.mono s1).trans ((z.mono dg).trans (b4.mono dg)))⟩
theorem Lf s:(⟨s.data.toList.toArray⟩:BY)=s:=rn
theorem Pv s X Y:(⟨X.toArray⟩:BY)++s++(⟨Y.toArray⟩:BY)=⟨(X++s.data.toList++Y).toArray⟩:=by apply jZ;simp
def Cl(n:Nat)(how:Int):Nat:=if how=1 then n/2 else if how=2 then n else 0
theorem Ey n how:Cl n how<=n:=by grind[Cl]
def qC(T:zzf)(c W how:Int):List UInt8:=if min W 100000<=c then T else List.replicate (Cl (min W 100000-c).toNat how) 32++T++List.replicate ((min W 100000-c).toNat-Cl (min W 100000-c).toNat how) 32
theorem Cm(s:BY)(W how:Int)(w:AT)(N:aY w)(hs:s.size<=1099511627776)(ze:-9223372036854775808<=W)(zg:W<=9223372036854775807):
 Cw 176 #[.string s,Iq W,Iq how] w λe w'=>e=Rw (.string ⟨(qC s.data.toList (ak (aZ (aA s.data.toList))) W how).toArray⟩)/\Bq w w':=by
 have x:s.data.toList.length=s.size:=by rw[ep];rfl
 have hR:=bm s.data.toList;have hC:=bS (aA s.data.toList);rw[x]at hR;have u:=cM _ (eI (aA s.data.toList)) (aZ (aA s.data.toList)).length;rw[kq]at u;have K:Hid (Cw 241 #[.string s] w λe w'=>e=Rw (Iq (ak (aZ (aA s.data.toList))))/\Bq w w'):=mT s w N hs;obtain⟨c,L⟩:=af (ak (aZ (aA s.data.toList)));rw[L]at K u⊢;have t:(⟨s.data.toList.toArray⟩:BY)=s:=by cases s;simp
 have T:Hid ((⟨s.data.toList.toArray⟩:BY)=s):=t;obtain⟨M,D⟩:=af (min W 100000);have V:M<=100000:=dg;have U:-9223372036854775808<=M:=dg;have R:Hid (min W 100000=M):=D;clear L x N t;by_cases zh:M<=c
 ·have d:Hid (qC s.data.toList c W how=s.data.toList):=by show _=_;unfold qC;rw[if_pos dg]
  go_enter func176,ntmps176;go_wp2_with fail;refine K.mono ?_;rintro e w1 ⟨rfl,f⟩;clear K D;go_wp2;go_ret;rw[d.out,Lf];simp_all
 ·obtain⟨n,F⟩:∃n:Nat,M-c=n:=⟨(M-c).toNat,dg⟩;have zi:n<=100000:=dg
  have d:Hid (qC s.data.toList c W how=List.replicate (Cl n how) 32++s.data.toList++List.replicate (n-Cl n how) 32):=by show _=_;unfold qC;rw[if_neg dg,R.out,F];simp
  have E:=Ey n how;have j:how=1->Cl n how=n/2:=λh=>by grind[Cl]
  have k:how=2->Cl n how=n:=λh=>by grind[Cl]
  have l:how≠1->how≠2->Cl n how=0:=λh h'=>by grind[Cl]
  obtain⟨a,J⟩:=af (Cl n how);rw[J]at d E j k l;have v:(n:Int)-(a:Int)=((n-a:Nat):Int):=dg;have q:=λw=>blank_any a w dg;have r:=λw=>blank_any (n-a) w dg;have g:Hid (∀w,Cw 173 #[.string ⟨#[32]⟩,Iq a] w λe w'=>e=Rw (.string ⟨(List.replicate a 32).toArray⟩)/\Bq w w'):=q;have i:Hid (∀w,Cw 173 #[.string ⟨#[32]⟩,Iq ((n-a:Nat):Int)] w λe w'=>e=Rw (.string ⟨(List.replicate (n-a) 32).toArray⟩)/\Bq w w'):=r;have S:Hid ((n:Int)-(a:Int)=((n-a:Nat):Int)):=v;have y:Hid (M-c=n):=F;have l1:(List.replicate a (32:UInt8)).length=a:=List.length_replicate;have l2:(List.replicate (n-a) (32:UInt8)).length=n-a:=List.length_replicate;obtain⟨X,H⟩:=af (List.replicate a (32:UInt8));obtain⟨Y,I⟩:=af (List.replicate (n-a) (32:UInt8));rw[H]at d g l1;rw[I]at d i l2;clear q r v F H I J;go_enter func176,ntmps176;go_wp2_with fail;refine K.mono ?_;rintro e w1 ⟨rfl,f⟩;clear K D;have z:M-c-(a:Int)=((n-a:Nat):Int):=by have:=y.out;omega
  have O:Hid (M-c-(a:Int)=((n-a:Nat):Int)):=z;have Z:M-c<=100000:=by have:=y.out;omega
  have G:0<M-c:=dg;by_cases A:how=1
  ·have b:=j A;have P:Hid (((n:Int))/2=(a:Int)):=by show _=_;rw[b];rfl
   have Q:Hid ((M-c).tdiv 2=(a:Int)):=by show _=_;rw[y.out,b];rfl
   clear j k l b z;subst A;have hq:=Q.out;go_wp2_with fail;try rw[P.out]
   refine(g _).mono ?_;rintro e w2 ⟨rfl,p⟩;go_wp2_with fail;refine(show Calls _ _ #[_,Iq (M-c-(a:Int))] _ _ by rw[O.out];exact i _).mono ?_;rintro e w3 ⟨rfl,C⟩;go_wp2;go_ret;rw[d.out,<-Pv];exact⟨rfl,f.trans ((p.mono f.size).trans (C.mono (az f.size p.size)))⟩
  ·by_cases B:how=2;focus
    have b:=k B;have m:Hid (∀w,Cw 173 #[.string ⟨#[32]⟩,Iq (M-c)] w λe w'=>e=Rw (.string ⟨X.toArray⟩)/\Bq w w'):=by intro w;rw[y.out,<-b];exact g w
    have o:Hid (∀w,Cw 173 #[.string ⟨#[32]⟩,Iq 0] w λe w'=>e=Rw (.string ⟨Y.toArray⟩)/\Bq w w'):=by intro w;have:=i w;rw[show((n-a:Nat):Int)=0 by omega]at this;exact this
    clear j k l b z g i;subst B
   rotate_left;focus
    have b:=l A B;have m:Hid (∀w,Cw 173 #[.string ⟨#[32]⟩,Iq 0] w λe w'=>e=Rw (.string ⟨X.toArray⟩)/\Bq w w'):=by intro w;have:=g w;rw[show(a:Int)=0 by omega]at this;exact this
    have o:Hid (∀w,Cw 173 #[.string ⟨#[32]⟩,Iq (M-c)] w λe w'=>e=Rw (.string ⟨Y.toArray⟩)/\Bq w w'):=by intro w;have:=i w;rw[show((n-a:Nat):Int)=M-c by omega]at this;exact this
    have g1:=A;have g2:=B;clear j k l b z g i
   rotate_left;all_goals go_wp2_with fail;refine(m _).mono ?_;rintro e w2 ⟨rfl,p⟩;go_wp2_with fail;refine(o _).mono ?_;rintro e w3 ⟨rfl,C⟩;go_wp2;go_ret;rw[d.out,<-Pv];exact⟨rfl,f.trans ((p.mono f.size).trans (C.mono (az f.size p.size)))⟩
