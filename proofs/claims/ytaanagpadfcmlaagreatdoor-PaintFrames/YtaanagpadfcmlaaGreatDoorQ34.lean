import Derived.Test.YtaanagpadfcmlaaGreatDoorQ00
import Derived.Test.YtaanagpadfcmlaaGreatDoorQ23
import Derived.Test.YtaanagpadfcmlaaGreatDoorQ33
set_option linter.all false
set_option maxRecDepth 100000
set_option maxHeartbeats 16000000
namespace Go.Proofs.YtaanagpadfcmlaaGreatDoor
open Go.RowKit Go.Proofs.Tryz
theorem Cc n:Lib.repeatL [32] n=List.replicate n 32:=by
 induction n with
 |zero=>rfl
 |succ n a=>simp[Lib.repeatL,a,Ky]
theorem blank_any(n:Nat)w(a:n<=140737488355328):
 Cw 63 #[.string ⟨#[32]⟩,Iq n] w λe w'=>e=Rw (.string ⟨(List.replicate n 32).toArray⟩)/\Bt w w':=by refine(rG ⟨#[32]⟩ n w dg (by show 1*n<=_;omega)).mono ?_;grind[Cc]
theorem textOf_any(l:List (List UInt8×Int))(v:Value)(w:World)(x:lV w v l)(A:l.length<=1099511627776)(G:(aB l).length<=70368744177664):
 Cw 193 #[v] w λe w'=>e=Rw (.string ⟨(aB l).toArray⟩)/\Bt w w':=by
 obtain⟨a,E,rfl,hh⟩:=x;have q:=qH<|λk=>eu l k;go_enter func193,ntmps193;go_wp2;go_loopw[8] (λi wr=>∃k:Nat,k<=l.length/\i=Iq k/\Hid (Lib.IsBuilderF 216 5 w.heap.size w.heap.size (Lib.byteCells (aB (l.take k))) wr)/\Bt w wr) (λi _=>l.length-(intOf i).toNat);case atStart=>exact⟨0,aR _,rfl,Lib.IsBuilderF.of (Lib.fresh_isBuilder 216 5 w),(af _ _).alloc (ae _) _⟩
 case round=>
  obtain⟨k,H,rfl,o,c⟩:=hrel;have m:=c.size;by_cases f:k<l.length
  ·have h:(k:Int)<(l.length:Int):=dg
   have j:l≠[]:=λe=>rd;obtain⟨b,off,rfl,z,u⟩:=hh.resolve_left j;obtain⟨T,V,d⟩:∃T V,l[k]=(T,V):=⟨_,_,rfl⟩;have D:wr.cell? (aj b (off+k*2))=some (.string ⟨T.toArray⟩):=by have:=(u k f).1;rw[d]at this;exact(c.cell (p:=(aj b (off+k*2))) z).trans this
   have c1:wr.cell? (aj b (off+k*2+1))=some (Iq V):=by have:=(u k f).2;rw[d]at this;exact(c.cell (p:=(aj b (off+k*2+1))) z).trans this
   have r:Hid (aB (l.take (k+1))=aB (l.take k)++T):=by show _=_;rw[oR l k f,d]
   have g:=q (k+1);rw[r.out,aU]at g;have s:(⟨T.toArray⟩:ByteArray).size=T.length:=by simp[ByteArray.size]
   obtain⟨Y,y⟩:=ad (aB (l.take k));rw[y]at r g o;clear hh u d j y;go_wp2_with fail;refine(pL w.heap.size w.heap.size _ ⟨T.toArray⟩ _ (o.alloc _) (by rw[Lib.byteCells_length,s];omega) (by simp;omega)).mono ?_;rintro e C ⟨rfl,h1,n,F⟩;have t:=(c.alloc m _).trans n;clear o D c1 n F;go_wp2;go_roundw;case rel=>refine⟨k+1,dg,by go_num,?_,t⟩;show Lib.IsBuilderF _ _ _ _ _ _;rw[r.out,Lib.byteCells_append];exact Or.inr h1
   case measure=>simp[intOf];omega
  ·have h:¬(k:Int)<(l.length:Int):=dg
   have B:Hid (l.take k=l):=eP dg;clear hh;go_wp2_with fail;refine(Cz w.heap.size w.heap.size (aB (l.take k)) _ o m).mono ?_;rintro e C ⟨rfl,_,n,_⟩;go_wp2;go_ret;rw[B.out];exact⟨rfl,c.trans n⟩
theorem gm(w:World)b i j v(h:i≠j):(w.setCell (aj b i) v).cell? (aj b j)=w.cell? (aj b j):=
 c_ _ _ _ _ (λe=>h rd)
def uC(B:Nat)(w:World)(v:Value)(l:List (List UInt8×Int)):Prop:=
 ∃a cap,v=.slice a l.length cap/\l.length<=cap/\cap<=maxLen/\(l=[]\/∃b off,a=some (aj b off)/\B<=b/\b<w.heap.size/\∀j (hj:j<l.length),w.cell? (aj b (off+j*2))=some (.string ⟨(l[j]).1.toArray⟩)/\w.cell? (aj b (off+j*2+1))=some (Iq (l[j]).2)/\w.frozen? (aj b (off+j*2))=false/\w.frozen? (aj b (off+j*2+1))=false)
theorem uC.cls{B}{w}{v}{l}(h:uC B w v l):lV w v l:=by obtain⟨a,b,rfl,_,_,hh⟩:=h;refine⟨a,b,rfl,hh.imp id ?_⟩;grind
theorem mP{w}{B n}{e}{v}{l}(h:w.ownsRow B e 2 v n (dB l)):uC B w v l:=by
 have x:l.length=n:=by have:=h.1;rw[lB]at this;omega
 have t:=pP h;rcases h.2 with⟨rfl,rfl⟩|⟨g,o,p,rfl,s,k,i,c,_⟩;·have y:=jg.1 x;subst y;exact⟨none,0,rfl,ae _,aR _,.inl rfl⟩
 ·obtain⟨a,d,q,hh⟩:=t;cases q;refine⟨_,_,rfl,dg,c,hh.imp id ?_⟩;rintro⟨b,off,r,u,f⟩;cases r;exact⟨g,0,rfl,s,u,λj m=>⟨(f j m).1,(f j m).2,frozen_of_row _ _ _ _ _ k,frozen_of_row _ _ _ _ _ k⟩⟩
theorem Jc l j(b:j<l.length)(a:j<(one l).length):(one l)[j]=if(l[j]).1=[10]then([32],1)else l[j]:=by simp[one]
def mG(w:World)(v:Value)(l:List (List UInt8×Int)):Prop:=
 ∃a cap,v=.slice a l.length cap/\l.length<=cap/\cap<=maxLen/\(l=[]\/∃b off,a=some (aj b off)/\b<w.heap.size/\∀j (hj:j<l.length),w.cell? (aj b (off+j*2))=some (.string ⟨(l[j]).1.toArray⟩)/\w.cell? (aj b (off+j*2+1))=some (Iq (l[j]).2))
theorem mG.cls{w}{v}{l}(h:mG w v l):lV w v l:=by obtain⟨a,b,rfl,_,_,hh⟩:=h;exact⟨a,b,rfl,hh⟩
theorem mG.below{w w'}{v}{l}(h:mG w v l)(g:Bt w w'):mG w' v l:=by obtain⟨a,b,rfl,h1,f,hh⟩:=h;obtain⟨a',d,e,c⟩:=(lV.below ⟨a,b,rfl,hh⟩ g:lV w' (.slice a l.length b) l);cases e;exact⟨a,b,rfl,h1,f,c⟩
theorem uC.clsC{B}{w}{v}{l}(h:uC B w v l):mG w v l:=by obtain⟨a,b,rfl,h1,c,hh⟩:=h;refine⟨a,b,rfl,h1,c,hh.imp id ?_⟩;grind
theorem qB{w}{b off a n}{l:List (List UInt8×Int)}(c:b<w.heap.size)(e:∀j (d:j<l.length),w.cell? (aj b (off+j*2))=some (.string ⟨(l[j]).1.toArray⟩)/\w.cell? (aj b (off+j*2+1))=some (Iq (l[j]).2))(f:n<=l.length):
 lV w (.slice (some (aj b off)) n a) (l.take n):=by refine⟨_,a,rd,.inr ⟨b,off,rfl,c,λj d=>?_⟩⟩;grind
theorem q_ l n(a:n<=l.length):∀k,k<=n->cT (l.take n) k=cT l k
 |0,_=>rfl
 |k+1,h=>by
  have e:tx (l.take n) k=tx l k:=by simp[tx,show k<n by omega]
  simp only[cT,e,q_ l n a k dg]
theorem lE(l:List (List UInt8×Int))(v:Value)(W:Int)(w:World)(y:mG w v l)(G:∀c∈l,0<=c.2/\c.2<=2)(z:l.length<=1099511627776)(zb:1<=W)(D:W<=9223372036854775807):
 Cw 226 #[v,Iq W] w λe w'=>e=Rw (.tuple #[Iq (aM l W).n,Iq (aM l W).d,Iq (aM l W).e])/\Bt w w':=by
 have M:=qH<|fitting_any l v W w y.cls G z dg D;have k:=iA l W;obtain⟨n,X⟩:=ad (cR l W);have o:Hid (aM l W=if n=l.length then⟨n,0,3⟩
  else if tx l n=[10]then⟨n,1,2⟩
  else if n=0 then⟨1,0,1⟩
  else if tx l n=[32]then⟨n,1,0⟩
  else if 0<=cT l n then⟨(cT l n).toNat,1,0⟩
  else⟨n,0,1⟩):=by show _=_;unfold aM;rw[X]
 rw[X]at M k;obtain⟨a,C,rfl,R,U,hh⟩:=y;go_enter func226,ntmps226;go_wp2_with fail;refine M.mono ?_;rintro e q ⟨rfl,s⟩;by_cases h1:n=l.length
 ·have g:Hid (aM l W=⟨n,0,3⟩):=by show _=_;rw[o.out,if_pos h1]
  subst h1;go_wp2;go_ret3;rw[g.out];simp_all
 have A:n<l.length:=dg;have K:l≠[]:=λe=>rd;obtain⟨b,off,rfl,E,Q⟩:=hh.resolve_left K;have F:=zz007 E s.size;have x:Hid (∀j (I:j<l.length),q.cell? (aj b (off+j*2))=some (.string ⟨(l[j]).1.toArray⟩)/\q.cell? (aj b (off+j*2+1))=some (Iq (l[j]).2)):=
  λj I=>⟨(s.cell (p:=(aj b (off+j*2))) E).trans (Q j I).1,(s.cell (p:=(aj b (off+j*2+1))) E).trans (Q j I).2⟩;have Z:Hid (lV q (.slice (some (aj b off)) n C) (l.take n)):=qB F x dg;obtain⟨T,V,u⟩:∃T V,l[n]=(T,V):=⟨_,_,rfl⟩;have c0:q.cell? (aj b (off+n*2))=some (.string ⟨T.toArray⟩):=by have:=(x n A).1;rw[u]at this;exact this
 have i:Hid (tx l n=T):=by show _=_;rw[sj A,u]
 by_cases f:T=[10]
 ·have g:Hid (aM l W=⟨n,1,2⟩):=by show _=_;rw[o.out,if_neg h1,if_pos (by rw[i.out,f])]
  go_wp2;go_ret3;rw[g.out];simp_all
 have O:(T==[10])=false:=by simpa using f
 by_cases t:n=0
 ·have g:Hid (aM l W=⟨1,0,1⟩):=by show _=_;rw[o.out,if_neg h1,if_neg (by rw[i.out];exact f),if_pos t]
  subst t;have za:q.cell? (aj b off)=some (.string ⟨T.toArray⟩):=by simpa using c0
  go_wp2;go_ret3;rw[g.out];simp_all
 by_cases h:T=[32]
 ·have g:Hid (aM l W=⟨n,1,0⟩):=by show _=_;rw[o.out,if_neg h1,if_neg (by rw[i.out];exact f),if_neg t,if_pos (by rw[i.out,h])]
  go_wp2;go_ret3;rw[g.out];simp_all
 have P:(T==[32])=false:=by simpa using h
 have L:=sY (l.take n) _ q Z rd;have H:=qZ l n;rw[b_,Eh k,q_ l n k n (ae _)]at L;have r:=qH<|L;obtain⟨m,S⟩:=ad (cT l n);have N:=qH<|S;rw[S]at r H;go_wp2_with fail;refine r.mono ?_;rintro e w2 ⟨rfl,b2⟩;have hB:=s.trans (b2.mono s.size);by_cases B:0<=m
 ·have g:Hid (aM l W=⟨m.toNat,1,0⟩):=by show _=_;rw[o.out,if_neg h1,if_neg (by rw[i.out];exact f),if_neg t,if_neg (by rw[i.out];exact h),N.out,if_pos B]
  have J:((m.toNat:Nat):Int)=m:=dg;have Y:=qH<|J;go_wp2;go_ret3;rw[g.out];simp_all
 ·have g:Hid (aM l W=⟨n,0,1⟩):=by show _=_;rw[o.out,if_neg h1,if_neg (by rw[i.out];exact f),if_neg t,if_neg (by rw[i.out];exact h),N.out,if_neg B]
  go_wp2;go_ret3;rw[g.out];simp_all
theorem rK{w:World}{B}{t}{f g i j k a b c d e}(h:w.heap[B]?=some (.cells #[f,g,i,j,k] t (0,0))):
 (((((w.setCell (aj B 0) a).setCell (aj B 1) b).setCell (aj B 2) c).setCell (aj B 3) d).setCell (aj B 4) e).heap[B]?=some (.cells #[a,b,c,d,e] t (0,0)):=by rw[heap_setCell_same _ _ _ _ _ _ (heap_setCell_same _ _ _ _ _ _ (heap_setCell_same _ _ _ _ _ _ (heap_setCell_same _ _ _ _ _ _ (heap_setCell_same _ _ _ _ _ _ h))))];rfl
def IR(T:List UInt8)(W:Int)(F N E:Int):Value:=.agg #[.string ⟨T.toArray⟩,Iq W,Iq F,Iq N,Iq E]
def oU(l:List (List UInt8×Int))(W:Int):Value:=if W<ai l then IR (List.replicate W.toNat 32) W 0 1 0 else IR (aB l) (ai l) 0 l.length 0
theorem re(l:List (List UInt8×Int))(v:Value)(W:Int)(w:World)(hcl:lV w v l)(E:∀c∈l,0<=c.2/\c.2<=2)(F:l.length<=1099511627776)(hj:(aB l).length<=70368744177664)(zb:1<=W)(L:W<ai l->W<=1099511627776):
 Cw 227 #[v,Iq W] w λe w'=>e=Rw (oU l W)/\Bt w w':=by
 have A:=qH<|E;have q:=bB l E l.length;rw[io]at q;have B:=qH<|hcl;obtain⟨a,za,rfl,hh⟩:=hcl;go_enter func227,ntmps227;go_wp2;go_loopw[5,10] (λt i wr=>∃k:Nat,k<=l.length/\i=Iq k/\t=Iq (ai (l.take k))/\Bt w wr/\w.heap.size<wr.heap.size/\wr.heap[w.heap.size]?=some (.cells #[.string ⟨#[]⟩,Iq 0,Iq 0,Iq 0,Iq 0] 226)) (λ_ i _=>l.length-(intOf i).toNat);case atStart=>exact⟨0,aR _,rfl,rfl,(af _ _).alloc (ae _) _,rn,heap_alloc_new _ _⟩
 case round=>
  obtain⟨k,hk,rfl,rfl,g,x,hrow⟩:=hrel;have z:=bB l A k;have y:=g.size;by_cases n:k<l.length
  ·have G:(k:Int)<(l.length:Int):=dg
   have N:l≠[]:=λe=>rd;obtain⟨b,off,rfl,Z,H⟩:=hh.resolve_left N;obtain⟨T,V,m⟩:∃T V,l[k]=(T,V):=⟨_,_,rfl⟩;have S:=A l[k] (iE n);have c0:wr.cell? (aj b (off+k*2))=some (.string ⟨T.toArray⟩):=by have:=(H k n).1;rw[m]at this;exact(g.cell (p:=(aj b (off+k*2))) Z).trans this
   have c1:wr.cell? (aj b (off+k*2+1))=some (Iq V):=by have:=(H k n).2;rw[m]at this;exact(g.cell (p:=(aj b (off+k*2+1))) Z).trans this
   have Q:Hid (ai (l.take (k+1))=ai (l.take k)+V):=by show _=_;rw[wideSum_snoc l k n,m]
   rw[m]at S;obtain⟨X,D⟩:=ad (ai (l.take k));rw[D]at Q z;rw[D];simp only at S;have f:=qH<|hrow;go_wp2;go_roundw;case rel=>exact⟨k+1,dg,by go_num,by rw[Q.out],g.alloc y _,by simp;omega,(((af wr.heap.size wr).alloc (ae _) _).block w.heap.size x).trans f⟩
   case measure=>simp[intOf];omega
  ·have G:¬(k:Int)<(l.length:Int):=dg
   have e:l.take k=l:=eP dg;rw[e]at z⊢;have f:=qH<|hrow;have o:=qH<|B.below g;have I:=qH<|textOf_any l _ wr o F hj;obtain⟨X,D⟩:=ad (ai l);have C:=qH<|D;rw[D]at z q L⊢;obtain⟨J,R⟩:=ad (aB l);have K:=qH<|R;rw[R]at I;by_cases M:W<X
   ·obtain⟨c,H⟩:∃c:Nat,W=c:=⟨W.toNat,dg⟩;subst H;have P:=qH<|blank_any c wr dg;obtain⟨Y,U⟩:=ad (List.replicate c (32:UInt8));have HY:=qH<|U;rw[U]at P;go_wp2_with fail;refine P.mono ?_;rintro e h ⟨rfl,s⟩;have O:=s.size;have d:=(s.block w.heap.size x).trans f;have q0:h.cell? (aj w.heap.size 0)=some (.string ⟨#[]⟩):=by simp[World.cell?,d]
    have q1:h.cell? (aj w.heap.size 1)=some (Iq 0):=by simp[World.cell?,d]
    have q2:h.cell? (aj w.heap.size 2)=some (Iq 0):=by simp[World.cell?,d]
    have q3:h.cell? (aj w.heap.size 3)=some (Iq 0):=by simp[World.cell?,d]
    have q4:h.cell? (aj w.heap.size 4)=some (Iq 0):=by simp[World.cell?,d]
    have fr:∀j,h.frozen? (aj w.heap.size j)=false:=λj=>frozen_of_row _ _ _ _ _ d;have r:=qH<|d;go_wp2;try simp only[Exit.inBlock,Exit.then]
    refine bodyPost_ret (results_cell_row rfl _ _ w.heap.size _ _ _ _ rfl (rK r) underlying226 rfl ns) rfl ?_;rw[oU,C.out,if_pos M];refine⟨?_,?_⟩;·rw[show((c:Int)).toNat=c from rfl,HY.out];rfl
    ·have u:=g.trans (s.mono y);exact((((u.setCell (p:=(aj w.heap.size 0)) (ae _) _).setCell (p:=(aj w.heap.size 1)) (ae _) _).setCell (p:=(aj w.heap.size 2)) (ae _) _).setCell (p:=(aj w.heap.size 3)) (ae _) _).setCell (p:=(aj w.heap.size 4)) (ae _) _
   ·go_wp2_with fail;refine I.mono ?_;rintro e h ⟨rfl,s⟩;have O:=s.size;have d:=(s.block w.heap.size x).trans f;have q0:h.cell? (aj w.heap.size 0)=some (.string ⟨#[]⟩):=by simp[World.cell?,d]
    have q1:h.cell? (aj w.heap.size 1)=some (Iq 0):=by simp[World.cell?,d]
    have q2:h.cell? (aj w.heap.size 2)=some (Iq 0):=by simp[World.cell?,d]
    have q3:h.cell? (aj w.heap.size 3)=some (Iq 0):=by simp[World.cell?,d]
    have q4:h.cell? (aj w.heap.size 4)=some (Iq 0):=by simp[World.cell?,d]
    have fr:∀j,h.frozen? (aj w.heap.size j)=false:=λj=>frozen_of_row _ _ _ _ _ d;have r:=qH<|d;clear d I o B f;go_wp2;try simp only[Exit.inBlock,Exit.then]
    refine bodyPost_ret (results_cell_row rfl _ _ w.heap.size _ _ _ _ rfl (rK r) underlying226 rfl ns) rfl ?_;rw[oU,C.out,K.out,if_neg dg];refine⟨rfl,?_⟩;have u:=g.trans (s.mono y);exact((((u.setCell (p:=(aj w.heap.size 0)) (ae _) _).setCell (p:=(aj w.heap.size 1)) (ae _) _).setCell (p:=(aj w.heap.size 2)) (ae _) _).setCell (p:=(aj w.heap.size 3)) (ae _) _).setCell (p:=(aj w.heap.size 4)) (ae _) _
def bZ(x:Ln):List Value:=[.string ⟨x.T.toArray⟩,Iq x.W,Iq x.F,Iq x.N,Iq x.E]
def fT(ls:List Ln):List Value:=ls.flatMap bZ
theorem kj a x:fT (a++[x])=fT a++bZ x:=by simp[fT]
theorem EH{W:World}{B}{x}{t}(h:W.heap[B]?=some (.cells (bZ x).toArray t (0,0))):W.cell? (aj B 0)=some (.string ⟨x.T.toArray⟩)/\W.cell? (aj B 1)=some (Iq x.W)/\W.cell? (aj B 2)=some (Iq x.F)/\W.cell? (aj B 3)=some (Iq x.N)/\W.cell? (aj B 4)=some (Iq x.E):=by simp[World.cell?,h,bZ]
theorem xQ(W:World)x t:∀  j   u,(bZ x)[j]?=some u->(W.alloc (.cells (bZ x).toArray t)).cell? (((aj W.heap.size 0):Addr).add j)=some u:=by
 intro j u hu;have a:((aj W.heap.size 0):Addr).add j=(aj W.heap.size j):=by unfold Addr.add;split<;>simp_all
 simp_all
theorem sT(s:ByteArray)(w:World)(O:bN w)(R:s.size<=1099511627776):
 Cw 191 #[.string s] w λe w'=>∃v,e=Rw v/\uC w.heap.size w' v (one (aG (ak s.data.toList)))/\Bt w w':=by
 have F:s.data.toList.length=s.size:=by rw[dZ];rfl
 have r:=aX s.data.toList;have P:=bu (ak s.data.toList);rw[F]at r;have G:Hid (Cw 135 #[.string s] w λe w'=>∃v,e=Rw v/\uC w.heap.size w' v (aG (ak s.data.toList))/\Bt w w'):=by refine(ga s w O R).mono ?_;rintro e u ⟨v,rfl,o,b⟩;exact⟨v,rfl,mP o,b⟩
 obtain⟨l,N⟩:=ad (aG (ak s.data.toList));rw[N]at G P⊢;clear N F O;go_enter func191,ntmps191;go_wp2_with fail;refine G.mono ?_;rintro e u ⟨v1,rfl,⟨a,y,rfl,A,q,hh⟩,J⟩;clear G;have S:=J.size;have L:=mi l;by_cases D:l=[]
 ·subst D;go_wp2;go_loopw[9] (λi wr=>i=Iq 0/\wr=u) (λi _=>0);case atStart=>grind
  case round=>obtain⟨rfl,rfl⟩:=hrel;go_wp2;go_ret;exact⟨_,rfl,⟨a,y,rfl,A,q,.inl rfl⟩,J⟩
 obtain⟨b,off,rfl,K,Q,M⟩:=hh.resolve_left D;have I:Hid (∀j (f:j<l.length),u.cell? (aj b (off+j*2))=some (.string ⟨(l[j]).1.toArray⟩)/\u.cell? (aj b (off+j*2+1))=some (Iq (l[j]).2)/\u.frozen? (aj b (off+j*2))=false/\u.frozen? (aj b (off+j*2+1))=false):=M;clear M hh;go_wp2;go_loopw[9] (λi wr=>∃k:Nat,k<=l.length/\i=Iq k/\b<wr.heap.size/\Hid (∀j (f:j<l.length) (c:j<(one l).length),(j<k->wr.cell? (aj b (off+j*2))=some (.string ⟨((one l)[j]).1.toArray⟩)/\wr.cell? (aj b (off+j*2+1))=some (Iq ((one l)[j]).2))/\(k<=j->wr.cell? (aj b (off+j*2))=some (.string ⟨(l[j]).1.toArray⟩)/\wr.cell? (aj b (off+j*2+1))=some (Iq (l[j]).2))/\wr.frozen? (aj b (off+j*2))=false/\wr.frozen? (aj b (off+j*2+1))=false)/\Bt w wr) (λi _=>l.length-(intOf i).toNat);case atStart=>exact⟨0,aR _,rfl,Q,λj f _=>⟨λh=>dg,λ_=>⟨(I j f).1,(I j f).2.1⟩,(I j f).2.2⟩,J⟩
 case round=>
  obtain⟨k,X,rfl,t,H,n⟩:=hrel;have U:=n.size;by_cases B:k<l.length
  ·have C:(k:Int)<(l.length:Int):=dg
   obtain⟨T,V,m⟩:∃T V,l[k]=(T,V):=⟨_,_,rfl⟩;have d:=H k B dg;have W:wr.cell? (aj b (off+k*2))=some (.string ⟨T.toArray⟩):=by have:=(d.2.1 (ae _)).1;rw[m]at this;exact this
   have c1:wr.cell? (aj b (off+k*2+1))=some (Iq V):=by have:=(d.2.1 (ae _)).2;rw[m]at this;exact this
   have f0:=d.2.2.1;have f1:=d.2.2.2;have E:(one l)[k]' dg=if T=[10]then([32],1)else(T,V):=by rw[Jc l k B,m]
   have x:Hid (∀c:k<(one l).length,(one l)[k]=if T=[10]then([32],1)else(T,V)):=λ_=>E;clear d E m;by_cases g:T=[10]
   ·have z:(T==[10])=true:=by rw[g];rfl
    go_wp2;go_roundw;case rel=>
     refine⟨k+1,dg,by go_num,by simpa using t,λj f c=>?_,?_⟩
     ·have r:=H j f c;simp only[fI];refine⟨λh=>?_,λh=>?_,r.2.2⟩
      ·by_cases e:j=k
       ·subst e;rw[x c,if_pos g];refine⟨?_,?_⟩;·rw[gm _ _ _ _ _ dg];exact lP _ _ _ rd
        ·exact lP _ _ _ (by grind[gm])
       grind[gm]
      grind[gm]
     ·exact(n.setCell (p:=(aj b (off+k*2))) K _).setCell (p:=(aj b (off+k*2+1))) K _
    case measure=>simp[intOf];omega
   ·have z:(T==[10])=false:=by simpa using g
    go_wp2;go_roundw;case rel=>
     refine⟨k+1,dg,by go_num,t,λj f c=>?_,n⟩;have r:=H j f c;refine⟨λh=>?_,λh=>r.2.1 dg,r.2.2⟩;by_cases e:j=k;·subst e;rw[x c,if_neg g];grind
     grind
    case measure=>simp[intOf];omega
  ·have C:¬(k:Int)<(l.length:Int):=dg
   go_wp2;go_ret;refine⟨_,rfl,⟨_,y,by rw[L];rfl,dg,q,.inr ⟨b,off,rfl,K,t,λj f=>?_⟩⟩,n⟩;have r:=H j dg f;grind
def fD(m:List (List UInt8×Int))(W:Int):List UInt8:=if W<1 then[]else if ai m<=W then aB m else aB (m.take (cR m (W-1)))++[226,128,166]
theorem Lh(s:ByteArray)(W:Int)(w:World)(ht:bN w)(hs:s.size<=1099511627776)(H:-9223372036854775808<=W)(I:W<=9223372036854775807):
 Cw 139 #[.string s,Iq W] w λe w'=>e=Rw (.string ⟨(fD (one (aG (ak s.data.toList))) W).toArray⟩)/\Bt w w':=by
 have E:s.data.toList.length=s.size:=by rw[dZ];rfl
 have hR:=aX s.data.toList;have hC:=bu (ak s.data.toList);rw[E]at hR;by_cases B:W<1
 ·have p:Hid (fD (one (aG (ak s.data.toList))) W=[]):=by show _=_;rw[fD,if_pos B]
  go_enter func139,ntmps139;go_wp2;go_ret;rw[p.out];exact⟨rfl,af _ _⟩
 have D:=mi (aG (ak s.data.toList));have n:=rl (cE (ak s.data.toList));have q:=DB (aG (ak s.data.toList));have N:=iW _ (t_ (jl (ak s.data.toList)));have G:Hid (Cw 191 #[.string s] w λe w'=>∃v,e=Rw v/\uC w.heap.size w' v (one (aG (ak s.data.toList)))/\Bt w w'):=sT s w ht hs;obtain⟨m,hm⟩:=ad (one (aG (ak s.data.toList)));rw[hm]at D n q N G⊢;have i:=Lr m W n q dg;have A:=iA m (W-1);have r:m.length<=1099511627776:=dg;have R:Hid (fD m W=if ai m<=W then aB m else aB (m.take (cR m (W-1)))++[226,128,166]):=by show _=_;rw[fD,if_neg B]
 have t:Hid (∀c∈m,0<=c.2/\c.2<=2):=n;have F:Hid (∀k,(aB (m.take k)).length<=(aB m).length):=λk=>eu m k;clear hm E hC n q ht D;go_enter func139,ntmps139;go_wp2_with fail;refine G.mono ?_;rintro e w1 ⟨v1,rfl,U,x⟩;have o:Hid (mG w1 v1 m):=U.clsC;obtain⟨a,l,rfl,X,za,hh⟩:=U;clear G;go_wp2_with fail;refine(fitting_any m _ W w1 o.cls t r H I).mono ?_;rintro e Q ⟨rfl,y⟩;have j:Hid (mG Q (.slice a m.length l) m):=o.below y;have M:=iA m W;obtain⟨f,Z⟩:=ad (cR m W);rw[Z]at i M⊢;clear Z o;by_cases d:f=m.length
 ·have p:Hid (fD m W=aB m):=by show _=_;rw[R.out,if_pos (i.1 d)]
  subst d;clear i hh;go_wp2_with fail;refine(textOf_any m _ Q j.cls r dg).mono ?_;rintro e w3 ⟨rfl,z⟩;go_wp2;go_ret;rw[p.out];exact⟨rfl,x.trans ((y.mono x.size).trans (z.mono (aF x.size y.size)))⟩
 ·have p:Hid (fD m W=aB (m.take (cR m (W-1)))++[226,128,166]):=by show _=_;rw[R.out,if_neg (λh=>d (i.2 h))]
  have C:m≠[]:=λe=>rd;obtain⟨b,off,rfl,hB,hb,hc⟩:=hh.resolve_left C;have J:¬(f:Int)=(m.length:Int):=dg;clear i hh hc;go_wp2_with fail;refine(fitting_any m _ (W-1) Q j.cls t r dg dg).mono ?_;rintro e w3 ⟨rfl,z⟩;have u:Hid (mG w3 (.slice (some (aj b off)) m.length l) m):=j.below z;obtain⟨g,hg⟩:=ad (cR m (W-1));rw[hg]at p A⊢;have S:Hid (lV w3 (.slice (some (aj b off)) g l) (m.take g)):=by obtain⟨a',T,e1,_,_,hh⟩:=u.out;cases e1;obtain⟨b',zb,e2,K,L⟩:=hh.resolve_left C;cases e2;exact qB K L A
  have O:=F g;have P:(m.take g).length<=1099511627776:=by rw[b_];omega
  clear hg j u;have zc:(g:Int)<=(l:Int):=dg;go_wp2_with fail;refine(textOf_any (m.take g) _ w3 S P dg).mono ?_;rintro e w4 ⟨rfl,b4⟩;obtain⟨Y,V⟩:=ad (aB (m.take g));rw[V]at p O⊢;clear V S;go_wp2;go_ret;rw[p.out,<-vJ];have s1:=x.size;have s2:=y.size;have s3:=z.size;exact⟨rfl,x.trans ((y.mono s1).trans ((z.mono dg).trans (b4.mono dg)))⟩
theorem Dv s:(⟨s.data.toList.toArray⟩:ByteArray)=s:=rd
theorem GU s X Y:(⟨X.toArray⟩:ByteArray)++s++(⟨Y.toArray⟩:ByteArray)=⟨(X++s.data.toList++Y).toArray⟩:=by apply kM;simp
def oH(n:Nat)(how:Int):Nat:=if how=1 then n/2 else if how=2 then n else 0
theorem uL n how:oH n how<=n:=by grind[oH]
def iJ(T:List UInt8)(c W how:Int):List UInt8:=if min W 100000<=c then T else List.replicate (oH (min W 100000-c).toNat how) 32++T++List.replicate ((min W 100000-c).toNat-oH (min W 100000-c).toNat how) 32
theorem Er(s:ByteArray)(W how:Int)(w:World)(L:bN w)(hs:s.size<=1099511627776)(za:-9223372036854775808<=W)(zb:W<=9223372036854775807):
 Cw 66 #[.string s,Iq W,Iq how] w λe w'=>e=Rw (.string ⟨(iJ s.data.toList (ai (aG (ak s.data.toList))) W how).toArray⟩)/\Bt w w':=by
 have x:s.data.toList.length=s.size:=by rw[dZ];rfl
 have Z:=aX s.data.toList;have hC:=bu (ak s.data.toList);rw[x]at Z;have u:=bB _ (cE (ak s.data.toList)) (aG (ak s.data.toList)).length;rw[io]at u;have K:Hid (Cw 140 #[.string s] w λe w'=>e=Rw (Iq (ai (aG (ak s.data.toList))))/\Bt w w'):=oL s w L hs;obtain⟨c,J⟩:=ad (ai (aG (ak s.data.toList)));rw[J]at K u⊢;have t:(⟨s.data.toList.toArray⟩:ByteArray)=s:=by cases s;simp
 have S:Hid ((⟨s.data.toList.toArray⟩:ByteArray)=s):=t;obtain⟨M,C⟩:=ad (min W 100000);have U:M<=100000:=dg;have T:-9223372036854775808<=M:=dg;have Q:Hid (min W 100000=M):=C;clear J x L t;by_cases zc:M<=c
 ·have d:Hid (iJ s.data.toList c W how=s.data.toList):=by show _=_;unfold iJ;rw[if_pos dg]
  go_enter func66,ntmps66;go_wp2_with fail;refine K.mono ?_;rintro e w1 ⟨rfl,f⟩;clear K C;go_wp2;go_ret;rw[d.out,Dv];simp_all
 ·obtain⟨n,E⟩:∃n:Nat,M-c=n:=⟨(M-c).toNat,dg⟩;have ze:n<=100000:=dg
  have d:Hid (iJ s.data.toList c W how=List.replicate (oH n how) 32++s.data.toList++List.replicate (n-oH n how) 32):=by show _=_;unfold iJ;rw[if_neg dg,Q.out,E];simp
  have D:=uL n how;have j:how=1->oH n how=n/2:=λh=>by grind[oH]
  have k:how=2->oH n how=n:=λh=>by grind[oH]
  have l:how≠1->how≠2->oH n how=0:=λh h'=>by grind[oH]
  obtain⟨a,I⟩:=ad (oH n how);rw[I]at d D j k l;have v:(n:Int)-(a:Int)=((n-a:Nat):Int):=dg;have q:=λw=>blank_any a w dg;have r:=λw=>blank_any (n-a) w dg;have g:Hid (∀w,Cw 63 #[.string ⟨#[32]⟩,Iq a] w λe w'=>e=Rw (.string ⟨(List.replicate a 32).toArray⟩)/\Bt w w'):=q;have i:Hid (∀w,Cw 63 #[.string ⟨#[32]⟩,Iq ((n-a:Nat):Int)] w λe w'=>e=Rw (.string ⟨(List.replicate (n-a) 32).toArray⟩)/\Bt w w'):=r;have R:Hid ((n:Int)-(a:Int)=((n-a:Nat):Int)):=v;have y:Hid (M-c=n):=E;have l1:(List.replicate a (32:UInt8)).length=a:=Ei;have l2:(List.replicate (n-a) (32:UInt8)).length=n-a:=Ei;obtain⟨X,G⟩:=ad (List.replicate a (32:UInt8));obtain⟨Y,H⟩:=ad (List.replicate (n-a) (32:UInt8));rw[G]at d g l1;rw[H]at d i l2;clear q r v E G H I;go_enter func66,ntmps66;go_wp2_with fail;refine K.mono ?_;rintro e w1 ⟨rfl,f⟩;clear K C;have z:M-c-(a:Int)=((n-a:Nat):Int):=by have:=y.out;omega
  have N:Hid (M-c-(a:Int)=((n-a:Nat):Int)):=z;have V:M-c<=100000:=by have:=y.out;omega
  have F:0<M-c:=dg;by_cases h1:how=1
  ·have b:=j h1;have O:Hid (((n:Int))/2=(a:Int)):=by show _=_;rw[b];rfl
   have P:Hid ((M-c).tdiv 2=(a:Int)):=by show _=_;rw[y.out,b];rfl
   clear j k l b z;subst h1;have hq:=P.out;go_wp2_with fail;try rw[O.out]
   refine(g _).mono ?_;rintro e w2 ⟨rfl,p⟩;go_wp2_with fail;refine(show Calls _ _ #[_,Iq (M-c-(a:Int))] _ _ by rw[N.out];exact i _).mono ?_;rintro e w3 ⟨rfl,B⟩;go_wp2;go_ret;rw[d.out,<-GU];exact⟨rfl,f.trans ((p.mono f.size).trans (B.mono (aF f.size p.size)))⟩
  ·by_cases A:how=2;focus
    have b:=k A;have m:Hid (∀w,Cw 63 #[.string ⟨#[32]⟩,Iq (M-c)] w λe w'=>e=Rw (.string ⟨X.toArray⟩)/\Bt w w'):=by intro w;rw[y.out,<-b];exact g w
    have o:Hid (∀w,Cw 63 #[.string ⟨#[32]⟩,Iq 0] w λe w'=>e=Rw (.string ⟨Y.toArray⟩)/\Bt w w'):=by intro w;have:=i w;rw[show((n-a:Nat):Int)=0 by omega]at this;exact this
    clear j k l b z g i;subst A
   rotate_left;focus
    have b:=l h1 A;have m:Hid (∀w,Cw 63 #[.string ⟨#[32]⟩,Iq 0] w λe w'=>e=Rw (.string ⟨X.toArray⟩)/\Bt w w'):=by intro w;have:=g w;rw[show(a:Int)=0 by omega]at this;exact this
    have o:Hid (∀w,Cw 63 #[.string ⟨#[32]⟩,Iq (M-c)] w λe w'=>e=Rw (.string ⟨Y.toArray⟩)/\Bt w w'):=by intro w;have:=i w;rw[show((n-a:Nat):Int)=M-c by omega]at this;exact this
    have g1:=h1;have g2:=A;clear j k l b z g i
   rotate_left;all_goals go_wp2_with fail;refine(m _).mono ?_;rintro e w2 ⟨rfl,p⟩;go_wp2_with fail;refine(o _).mono ?_;rintro e w3 ⟨rfl,B⟩;go_wp2;go_ret;rw[d.out,<-GU];exact⟨rfl,f.trans ((p.mono f.size).trans (B.mono (aF f.size p.size)))⟩
theorem Lc{w}{b off c a n}{l:List (List UInt8×Int)}(k:a+n<=l.length)(d:l.length<=c)(g:b<w.heap.size)(h:∀j (i:j<l.length),w.cell? (aj b (off+j*2))=some (.string ⟨(l[j]).1.toArray⟩)/\w.cell? (aj b (off+j*2+1))=some (Iq (l[j]).2)):
 lV w (.slice (if c=a then some (aj b off)else some (aj b (off+a*2))) n (c-a)) ((l.drop a).take n):=by
 have f:((l.drop a).take n).length=n:=by rw[b_,cL];omega
 refine⟨_,_,by rw[f],?_⟩;by_cases e:c=a;·grind
 ·right;rw[if_neg e];grind
theorem b9{fn:Func}{p u}{c}(h:fn.results=#[.cell p c,.tmp u])a P w g b(hp:a.getD p undef=Pq g)(d:(loadVar c (aj g 0)).run P w=.ok (.agg b) w):
 (results fn a).run P w=.ok (.tuple #[.agg b,a.getD u undef]) w:=by rw[results_cell_tmp h,hp];simp[asAddr,d]
theorem rI(l:List (List UInt8×Int))(b off s a:Nat)(W:Int)(w:World)(hb:b<w.heap.size)(zz:l.length<=s)(O:∀j (hj:j<l.length),w.cell? (aj b (off+j*2))=some (.string ⟨(l[j]).1.toArray⟩)/\w.cell? (aj b (off+j*2+1))=some (Iq (l[j]).2))(ha:a<=l.length)(zj:∀c∈l,0<=c.2/\c.2<=2)(zH:∀c∈l,c.1.length<=20)(zT:l.length<=68719476736)(zM:1<=W)(_L:W<=9223372036854775807):
 Cw 160 #[.slice (some (aj b off)) l.length s,Iq a,Iq W] w λe w'=>e=Rw (.tuple #[.agg #[.string ⟨(cu l W a).T.toArray⟩,Iq (cu l W a).W,Iq (cu l W a).F,Iq (cu l W a).N,Iq (cu l W a).E],Iq (nO l W a)])/\Bt w w':=by
 have hr:∀c∈l.drop a,0<=c.2/\c.2<=2:=λc O=>zj c (iI O);have zB:=iA (l.drop a) W;rw[cL]at zB;have zO:=Ie (l.drop a) W hr zM;have zl:=qH<|zj;have zJ:=qH<|zH;have HC:Hid (∀w',Bt w w'->∀j (hj:j<l.length),w'.cell? (aj b (off+j*2))=some (.string ⟨(l[j]).1.toArray⟩)/\w'.cell? (aj b (off+j*2+1))=some (Iq (l[j]).2)):=
  λw' f j hj=>⟨(f.cell (p:=(aj b (off+j*2))) hb).trans (O j hj).1,(f.cell (p:=(aj b (off+j*2+1))) hb).trans (O j hj).2⟩;obtain⟨n,hn⟩:=ad (cR (l.drop a) W);have zq:Hid (cu l W a=(if W<ai ((l.drop a).take (aM (l.drop a) W).n)then⟨List.replicate W.toNat 32,W,a,1,(aM (l.drop a) W).e⟩else⟨aB ((l.drop a).take (aM (l.drop a) W).n),ai ((l.drop a).take (aM (l.drop a) W).n),a,((l.drop a).take (aM (l.drop a) W).n).length,(aM (l.drop a) W).e⟩)):=rfl;have zr:Hid (nO l W a=a+(aM (l.drop a) W).n+(aM (l.drop a) W).d):=rfl;have H:Hid (aM (l.drop a) W=if n=l.length-a then⟨n,0,3⟩
  else if tx l (a+n)=[10]then⟨n,1,2⟩
  else if n=0 then⟨1,0,1⟩
  else if tx l (a+n)=[32]then⟨n,1,0⟩
  else if 0<=cT (l.drop a) n then⟨(cT (l.drop a) n).toNat,1,0⟩
  else⟨n,0,1⟩):=by show _=_;unfold aM;rw[hn,cL,vP]
 rw[hn]at zB zO;obtain⟨pp,hpp⟩:=ad (if s=a then some ((aj b off):Addr)else some (aj b (off+a*2)));have zb:Hid (∀w',Bt w w'->∀m,a+m<=l.length->lV w' (.slice pp m (s-a)) ((l.drop a).take m)):=by intro w' f m hm;have:=Lc (a:=a) (n:=m) hm zz (zz007 hb f.size) (HC w' f);rw[hpp]at this;exact this
 have zn:Hid (∀w',Bt w w'->Cw 163 #[.slice pp (l.length-a) (s-a),Iq W] w' λe Q=>e=Rw (Iq n)/\Q=w'):=by intro w' f;have h1:=zb w' f (l.length-a) dg;rw[eP rd]at h1;have:=jt (l.drop a) _ W w' h1 (λc O=>zl c (iI O)) rd;rw[hn]at this;exact this
 have zt:Hid (∀w',Bt w w'->∀m,a+m<=l.length->Cw 162 #[.slice pp m (s-a)] w' λe Q=>e=Rw (.string ⟨(aB ((l.drop a).take m)).toArray⟩)/\Q=w'):=by
  intro w' f m hm;have _7:=iW _ (λc O=>zJ c (iI (iH O)):∀c∈(l.drop a).take m,c.1.length<=20);have zP:((l.drop a).take m).length<=l.length:=by rw[b_,cL];omega
  exact lj _ _ w' (zb w' f m hm) dg dg
 have zu:Hid (∀w',Bt w w'->∀m,a+m<=l.length->Cw 161 #[.slice pp m (s-a)] w' λe Q=>e=Rw (Iq (ai ((l.drop a).take m)))/\Q=w'):=by
  intro w' f m hm;have zP:((l.drop a).take m).length<=l.length:=by rw[b_,cL];omega
  exact lk _ _ w' (zb w' f m hm) (λc O=>zl c (iI (iH O))) dg
 have I:Hid (∀m d e,m<=n->aM (l.drop a) W=⟨m,d,e⟩->cu l W a=⟨aB ((l.drop a).take m),ai ((l.drop a).take m),a,m,e⟩/\nO l W a=a+m+d):=by
  intro m d e hm x;have h1:=vN (l.drop a) hr hm;have h2:((l.drop a).take m).length=m:=by rw[b_,cL];omega
  rw[zq.out,zr.out,x];simp only;rw[if_neg dg,h2];exact⟨rfl,rd⟩
 have zL:Hid (n=0->a<l.length->tx l a≠[10]->W<ai ((l.drop a).take 1)/\W=1):=by intro h0 h1 h2;have sp:=(iU (l.drop a) W hr).2;rw[hn,h0,cL,vP]at sp;have h3:=(sp dg).resolve_left h2;have h4:=JW (l.drop a) hr;simp at h3;exact⟨h3,dg⟩
 clear hr zj zH O hn;go_enter func160,ntmps160;go_wp2_with fail;refine(zn _ ((af _ _).alloc (ae _) _)).mono ?_;rintro e w1 ⟨rfl,rfl⟩;clear zn;have Q8:prog.follows .mixedOrders=true:=ns
 obtain⟨w1,P⟩:=ad (w.alloc (.cells #[.string ⟨#[]⟩,Iq 0,Iq 0,Iq 0,Iq 0] 164));have zk:Hid (w1.heap[w.heap.size]?=some (.cells #[.string ⟨#[]⟩,Iq 0,Iq 0,Iq 0,Iq 0] 164 (0,0))):=by show _=_;rw[<-P];exact heap_alloc_new w _
 have L:Bt w w1:=by rw[<-P];exact(af _ _).alloc (ae _) _
 have zR:w.heap.size<w1.heap.size:=by rw[<-P,au];omega
 rw[P];clear P;obtain⟨J,hJ⟩:=ad (aB ((l.drop a).take n));obtain⟨X,hX⟩:=ad (ai ((l.drop a).take n));have T1:Hid (∀w',Bt w w'->Cw 162 #[.slice pp n (s-a)] w' λe Q=>e=Rw (.string ⟨J.toArray⟩)/\Q=w'):=by intro w' f;have:=zt w' f n dg;rw[hJ]at this;exact this
 have W1:Hid (∀w',Bt w w'->Cw 161 #[.slice pp n (s-a)] w' λe Q=>e=Rw (Iq X)/\Q=w'):=by intro w' f;have:=zu w' f n dg;rw[hX]at this;exact this
 obtain⟨q,hq⟩:∃q:Nat,a+n=q:=⟨_,rfl⟩;have YB:(a:Int)+(n:Int)=(q:Int):=dg;have Te:(q:Int)<=(s:Int):=dg;have Vf:a<=q:=dg;have zQ:q-a=n:=dg;have S:=qH<|hq;have RJ:=qH<|zQ;have zZ:=qH<|hpp;clear hq;go_wp2_with fail;go_cut[10]from 12 to 32 (λp wx=>∃B,p=Pq B/\w1.heap.size<=B/\wx.heap[B]?=some (.cells #[.string ⟨J.toArray⟩,Iq X,Iq a,Iq n,Iq 0] 164 (0,0))/\Bt w1 wx);case first=>
  go_region_with(first|(go_at_call 162;refine(T1 _ (by first|exact L.drew|exact(L.alloc dg _).drew)).mono ?_;rintro e wq ⟨rfl,rfl⟩)|(go_at_call 161;refine(W1 _ (by first|exact L.drew|exact(L.alloc dg _).drew)).mono ?_;rintro e wq ⟨rfl,rfl⟩));all_goals(go_wp2_with fail)
  all_goals go_meet
  all_goals exact⟨_,rfl,ae _,heap_alloc_new w1 _,((af _ _).alloc (ae _) _).drew⟩
 case rest=>
  obtain⟨B,rfl,hB,t,zc⟩:=hcut;have ze:B≠w.heap.size:=dg;have Vj:=zc.size;have y:=(zc.block _ zR).trans zk;have _J:w.heap.size<wc.heap.size:=dg;have q0:wc.cell? (aj B 0)=some (.string ⟨J.toArray⟩):=by simp[World.cell?,t]
  have q1:wc.cell? (aj B 1)=some (Iq X):=by simp[World.cell?,t]
  have q2:wc.cell? (aj B 2)=some (Iq a):=by simp[World.cell?,t]
  have q3:wc.cell? (aj B 3)=some (Iq n):=by simp[World.cell?,t]
  have q4:wc.cell? (aj B 4)=some (Iq 0):=by simp[World.cell?,t]
  have fr:∀j,wc.frozen? (aj B j)=false:=λj=>frozen_of_row _ _ _ _ _ t;have r0:wc.cell? (aj w.heap.size 0)=some (.string ⟨#[]⟩):=by simp[World.cell?,y]
  have r1:wc.cell? (aj w.heap.size 1)=some (Iq 0):=by simp[World.cell?,y]
  have r2:wc.cell? (aj w.heap.size 2)=some (Iq 0):=by simp[World.cell?,y]
  have r3:wc.cell? (aj w.heap.size 3)=some (Iq 0):=by simp[World.cell?,y]
  have r4:wc.cell? (aj w.heap.size 4)=some (Iq 0):=by simp[World.cell?,y]
  have _i:∀j,wc.frozen? (aj w.heap.size j)=false:=λj=>frozen_of_row _ _ _ _ _ y;have D:=qH<|y;have u:=L.trans (zc.mono dg);have v:Hid (∀(wz:World) (v0 v1 v2 v3 v4:Value),Bt w wz->Bt w (((((wz.setCell (aj w.heap.size 0) v0).setCell (aj w.heap.size 1) v1).setCell (aj w.heap.size 2) v2).setCell (aj w.heap.size 3) v3).setCell (aj w.heap.size 4) v4)):=
   λwz v0 v1 v2 v3 v4 h=>((((h.setCell (p:=(aj w.heap.size 0)) (ae _) _).setCell (p:=(aj w.heap.size 1)) (ae _) _).setCell (p:=(aj w.heap.size 2)) (ae _) _).setCell (p:=(aj w.heap.size 3)) (ae _) _).setCell (p:=(aj w.heap.size 4)) (ae _) _;have R:=qH<|hJ;have U:=qH<|hX;have za:Hid (w.heap.size<=B):=by show w.heap.size<=B;omega
  clear t y hJ hX T1 W1;by_cases g:n=l.length-a
  ·have x:aM (l.drop a) W=⟨n,0,3⟩:=by rw[H.out,if_pos g]
   obtain⟨z,A⟩:=I n 0 3 (ae _) x;have k:Hid (cu l W a=⟨J,X,a,n,3⟩):=by show _=_;rw[z,R.out,U.out]
   have o:Hid (nO l W a=q):=by show _=_;rw[A,S.out];rfl
   have K:Hid ((wc.setCell (aj B 4) (Iq 3)).heap[w.heap.size]?=some (.cells #[.string ⟨#[]⟩,Iq 0,Iq 0,Iq 0,Iq 0] 164 (0,0))):=by show _=_;rw[heap_setCell_other _ _ _ _ (λe=>ze e.symm)];exact D
   have Q_:(q:Int)=(l.length:Int):=by have:=S.out;omega
   clear z A x g;go_wp2;try simp only[Exit.inBlock,Exit.then]
   refine bodyPost_ret (b9 rfl _ _ _ w.heap.size _ rfl (run_loadVar_row _ _ _ _ _ _ _ (rK K) underlying164 rfl ns)) rfl ?_;rw[k.out,o.out];exact⟨rfl,v _ _ _ _ _ _ (u.setCell (p:=(aj B 4)) za _)⟩
  have zG:q<l.length:=by have:=S.out;omega
  have hq6:(q:Int)<(l.length:Int):=dg;have Th:¬(q:Int)=(l.length:Int):=dg;obtain⟨T,V,zh⟩:∃T V,l[q]=(T,V):=⟨_,_,rfl⟩;have c0:wc.cell? (aj b (off+q*2))=some (.string ⟨T.toArray⟩):=by have:=(HC wc u q zG).1;rw[zh]at this;exact this
  have r:Hid (tx l (a+n)=T):=by show _=_;rw[S.out,sj zG,zh]
  clear zh;by_cases G:T=[10]
  ·have x:aM (l.drop a) W=⟨n,1,2⟩:=by rw[H.out,if_neg g,if_pos (by rw[r.out,G])]
   obtain⟨z,A⟩:=I n 1 2 (ae _) x;have k:Hid (cu l W a=⟨J,X,a,n,2⟩):=by show _=_;rw[z,R.out,U.out]
   have o:Hid (nO l W a=q+1):=by show _=_;rw[A,S.out]
   have K:Hid ((wc.setCell (aj B 4) (Iq 2)).heap[w.heap.size]?=some (.cells #[.string ⟨#[]⟩,Iq 0,Iq 0,Iq 0,Iq 0] 164 (0,0))):=by show _=_;rw[heap_setCell_other _ _ _ _ (λe=>ze e.symm)];exact D
   have zv:(T==[10])=true:=by rw[G];rfl
   clear z A x g;go_wp2;try simp only[Exit.inBlock,Exit.then]
   refine bodyPost_ret (b9 rfl _ _ _ w.heap.size _ rfl (run_loadVar_row _ _ _ _ _ _ _ (rK K) underlying164 rfl ns)) rfl ?_;rw[k.out,o.out];exact⟨rn,v _ _ _ _ _ _ (u.setCell (p:=(aj B 4)) za _)⟩
  have zv:(T==[10])=false:=by simpa using G
  by_cases h0:n=0
  ·have x:aM (l.drop a) W=⟨1,0,1⟩:=by rw[H.out,if_neg g,if_neg (by rw[r.out];exact G),if_pos h0]
   have zN:a=q:=by have:=S.out;omega
   obtain⟨g1,g2⟩:=zL h0 dg (by have:=r.out;grind);have k:Hid (cu l W a=⟨[32],1,a,1,1⟩):=by show _=_;rw[zq.out,x];simp only;rw[if_pos g1,g2];rfl
   have o:Hid (nO l W a=q+1):=by show _=_;rw[zr.out,x];simp only;omega
   have K:=D;have R1:Hid (∀w',Cw 85 #[Iq W] w' λe Q=>e=Rw (.string ⟨#[32]⟩)/\Q=w'):=by intro w';rw[g2];exact kB 1 w' dg
   have zK:=qH<|g2;have zD:(n:Int)=0:=dg
   clear x g g1 g2 zN;subst h0;go_wp2_with fail;refine(R1 _).mono ?_;rintro e w5 ⟨rfl,rfl⟩;clear R1;go_wp2;try simp only[Exit.inBlock,Exit.then]
   refine bodyPost_ret (b9 rfl _ _ _ w.heap.size _ rfl (run_loadVar_row _ _ _ _ _ _ _ (rK K) underlying164 rfl ns)) rfl ?_;rw[k.out,o.out];refine⟨?_,v _ _ _ _ _ _ u⟩;simp[zK.out]
  by_cases Y:T=[32]
  ·have x:aM (l.drop a) W=⟨n,1,0⟩:=by rw[H.out,if_neg g,if_neg (by rw[r.out];exact G),if_neg h0,if_pos (by rw[r.out,Y])]
   obtain⟨z,A⟩:=I n 1 0 (ae _) x;have k:Hid (cu l W a=⟨J,X,a,n,0⟩):=by show _=_;rw[z,R.out,U.out]
   have o:Hid (nO l W a=q+1):=by show _=_;rw[A,S.out]
   have K:=D;have zw:(T==[32])=true:=by rw[Y];rfl
   have zD:¬(n:Int)=0:=dg;clear z A x g;go_wp2;try simp only[Exit.inBlock,Exit.then]
   refine bodyPost_ret (b9 rfl _ _ _ w.heap.size _ rfl (run_loadVar_row _ _ _ _ _ _ _ (rK K) underlying164 rfl ns)) rfl ?_;rw[k.out,o.out];exact⟨rn,v _ _ _ _ _ _ u⟩
  have zw:(T==[32])=false:=by simpa using Y
  have zD:¬(n:Int)=0:=dg;have zm:Hid (aM (l.drop a) W=if 0<=cT (l.drop a) n then⟨(cT (l.drop a) n).toNat,1,0⟩else⟨n,0,1⟩):=by show _=_;rw[H.out,if_neg g,if_neg (by rw[r.out];exact G),if_neg h0,if_neg (by rw[r.out];exact Y)]
  have zI:=qH<|HC wc u;clear g;go_wp2;go_loop[11] (λi=>∃m:Nat,m<=n/\i=Iq ((a:Int)+(m:Int)-1)/\Hid (cT (l.drop a) n=cT (l.drop a) m)) (λi=>(intOf i+1-a).toNat);case atStart=>grind
  case round=>
   obtain⟨m,hm,rfl,zg⟩:=hrel;cases m with
   |zero=>
    have x:aM (l.drop a) W=⟨n,0,1⟩:=by rw[zm.out,zg.out];simp[cT]
    obtain⟨z,A⟩:=I n 0 1 (ae _) x;have k:Hid (cu l W a=⟨J,X,a,n,1⟩):=by show _=_;rw[z,R.out,U.out]
    have o:Hid (nO l W a=q):=by show _=_;rw[A,S.out];rfl
    have K:Hid ((wc.setCell (aj B 4) (Iq 1)).heap[w.heap.size]?=some (.cells #[.string ⟨#[]⟩,Iq 0,Iq 0,Iq 0,Iq 0] 164 (0,0))):=by show _=_;rw[heap_setCell_other _ _ _ _ (λe=>ze e.symm)];exact D
    have Ql:¬(a:Int)<=(a:Int)+((0:Nat):Int)-1:=dg;clear z A x;go_wp2;try simp only[Exit.inBlock,Exit.then]
    refine bodyPost_ret (b9 rfl _ _ _ w.heap.size _ rfl (run_loadVar_row _ _ _ _ _ _ _ (rK K) underlying164 rfl ns)) rfl ?_;rw[k.out,o.out];exact⟨rfl,v _ _ _ _ _ _ (u.setCell (p:=(aj B 4)) za _)⟩
   |succ m=>
    obtain⟨p,hp⟩:∃p:Nat,a+m=p:=⟨_,rfl⟩;have zE:(a:Int)+((m+1:Nat):Int)-1=(p:Int):=dg;rw[zE];have zF:p<l.length:=by have:=S.out;omega
    have zU:(p:Int)<(l.length:Int):=dg;have _M:(a:Int)<=(p:Int):=dg;have zS:a<=p:=dg;have Vb:(p:Int)<=(s:Int):=dg;have HP:=qH<|hp;obtain⟨T',V',M⟩:∃T V,l[p]=(T,V):=⟨_,_,rfl⟩;have Z5:wc.cell? (aj b (off+p*2))=some (.string ⟨T'.toArray⟩):=by have:=(zI p zF).1;rw[M]at this;exact this
    have Z:Hid (tx (l.drop a) m=T'):=by show _=_;rw[vP,hp,sj zF,M]
    have hpm:p-a=m:=dg;have zV:(p:Int)-(a:Int)=(m:Int):=dg;clear M zE;by_cases C:T'=[32]
    ·have zA:cT (l.drop a) n=m:=by rw[zg.out];simp only[cT];rw[if_pos (by rw[Z.out,C])]
     have x:aM (l.drop a) W=⟨m,1,0⟩:=by rw[zm.out,zA];simp
     obtain⟨z,A⟩:=I m 1 0 dg x;have zC:a+m<=l.length:=dg;have T2:=qH<|λw' f=>zt w' f m zC;have W2:=qH<|λw' f=>zu w' f m zC;obtain⟨J2,zx⟩:=ad (aB ((l.drop a).take m));obtain⟨X2,zy⟩:=ad (ai ((l.drop a).take m));rw[zx]at z T2;rw[zy]at z W2;have k:=qH<|z;have o:Hid (nO l W a=p+1):=by show _=_;rw[A,hp]
     have K:=D;have zi:(T'==[32])=true:=by rw[C];rfl
     have zX:IntKind.i64.wrap (m:Int)=(m:Int):=IntWalk.i64_in _ ⟨dg,dg⟩;have zY:IntKind.i64.wrap ((p:Int)+1)=(p:Int)+1:=IntWalk.i64_in _ ⟨dg,dg⟩;clear z A x zA zx zy hp;go_wp2_with fail;go_region_with(first|(go_at_call 162;refine(T2 _ u.drew).mono ?_;rintro e wq ⟨rfl,rfl⟩)|(go_at_call 161;refine(W2 _ u.drew).mono ?_;rintro e wq ⟨rfl,rfl⟩));all_goals(go_wp2_with fail)
     all_goals refine bodyPost_ret (b9 rfl _ _ _ w.heap.size #[.string ⟨J2.toArray⟩,Iq X2,Iq a,Iq m,Iq 0] rfl (run_loadVar_row _ _ _ _ _ _ _ (rK K) underlying164 rfl ns)) rfl ?_;rw[k.out,o.out];exact⟨rfl,(v _ _ _ _ _ _ u).drew⟩
    ·have zi:(T'==[32])=false:=by simpa using C
     have zo:Hid (cT (l.drop a) n=cT (l.drop a) m):=by show _=_;rw[zg.out];simp only[cT];rw[if_neg (by rw[Z.out];exact C)]
     clear hp;go_wp2;go_round;case rel=>exact⟨m,dg,by have:=HP.out;congr 1;omega,zo⟩
     case measure=>have:=HP.out;simp[intOf];omega
theorem Fj:(prog.info? 164).map (λi=>(i.zero,i.size,i.bytes))=some (some (.agg #[.string ⟨#[]⟩,Iq 0,Iq 0,Iq 0,Iq 0]),5,48):=ns
theorem rq{w w'}{B n k}{e}{v}{d}(h:w.ownsRow B e k v n d)(l:Bt w w'):w'.ownsRow B e k v n d:=by refine⟨h.1,h.2.imp id ?_⟩;rintro⟨g,a,b,f,i,c,j⟩;exact⟨g,a,b,f,i,(l.block g (aD.1 c).1).trans c,j⟩
def Hb:Value->Nat
 |.bool true=>1
 |_=>0
theorem IX W(a:1<=W):cu [] W 0=⟨[],0,0,0,3⟩/\nO [] W 0=0:=by grind[cu,aM,cR,aB,ai,nO]
theorem Cg(W:Int)(w:World)(y:1<=W)(z:W<=9223372036854775807):
 Cw 160 #[.slice none 0 0,Iq 0,Iq W] w λe w'=>e=Rw (.tuple #[.agg #[.string ⟨#[]⟩,Iq 0,Iq 0,Iq 0,Iq 3],Iq 0])/\Bt w w':=by
 have c:∀w':World,lV w' (.slice none 0 0) []:=λw'=>⟨none,0,rfl,.inl rfl⟩;have m:Hid (∀w',Cw 163 #[.slice none 0 0,Iq W] w' λe k=>e=Rw (Iq 0)/\k=w'):=λw'=>jt [] _ W w' (c w') rn rn;have s:Hid (∀w',Cw 162 #[.slice none 0 0] w' λe k=>e=Rw (.string ⟨#[]⟩)/\k=w'):=λw'=>lj [] _ w' (c w') rn (by simp[aB]);have t:Hid (∀w',Cw 161 #[.slice none 0 0] w' λe k=>e=Rw (Iq 0)/\k=w'):=λw'=>lk [] _ w' (c w') rn rn;go_enter func160,ntmps160;go_wp2_with fail;refine(m _).mono ?_;rintro e g ⟨rfl,rfl⟩;obtain⟨g,d⟩:=ad (w.alloc (.cells #[.string ⟨#[]⟩,Iq 0,Iq 0,Iq 0,Iq 0] 164));have f:Hid (g.heap[w.heap.size]?=some (.cells #[.string ⟨#[]⟩,Iq 0,Iq 0,Iq 0,Iq 0] 164 (0,0))):=by show _=_;rw[<-d];exact heap_alloc_new w _
 have n:Bt w g:=by rw[<-d];exact(af _ _).alloc (ae _) _
 have r:w.heap.size<g.heap.size:=by rw[<-d,au];omega
 rw[d];go_wp2_with fail;go_cut[10]from 12 to 32 (λp u=>∃B,p=Pq B/\g.heap.size<=B/\u.heap[B]?=some (.cells #[.string ⟨#[]⟩,Iq 0,Iq 0,Iq 0,Iq 0] 164 (0,0))/\Bt g u);case first=>
  go_region_with(first|(go_at_call 162;refine(s _).mono ?_;rintro e A ⟨rfl,rfl⟩)|(go_at_call 161;refine(t _).mono ?_;rintro e A ⟨rfl,rfl⟩));all_goals(go_wp2_with fail)
  all_goals go_meet
  all_goals exact⟨_,rfl,ae _,heap_alloc_new g _,((af _ _).alloc (ae _) _).drew⟩
 case rest=>
  obtain⟨B,rfl,D,a,i⟩:=hcut;have o:B≠w.heap.size:=dg;have b:=(i.block _ r).trans f;have E:wc.cell? (aj B 0)=some (.string ⟨#[]⟩):=by simp[World.cell?,a]
  have F:wc.cell? (aj B 1)=some (Iq 0):=by simp[World.cell?,a]
  have G:wc.cell? (aj B 2)=some (Iq 0):=by simp[World.cell?,a]
  have H:wc.cell? (aj B 3)=some (Iq 0):=by simp[World.cell?,a]
  have I:wc.cell? (aj B 4)=some (Iq 0):=by simp[World.cell?,a]
  have C:∀j,wc.frozen? (aj B j)=false:=λj=>frozen_of_row _ _ _ _ _ a;have J:wc.cell? (aj w.heap.size 0)=some (.string ⟨#[]⟩):=by simp[World.cell?,b]
  have K:wc.cell? (aj w.heap.size 1)=some (Iq 0):=by simp[World.cell?,b]
  have L:wc.cell? (aj w.heap.size 2)=some (Iq 0):=by simp[World.cell?,b]
  have M:wc.cell? (aj w.heap.size 3)=some (Iq 0):=by simp[World.cell?,b]
  have N:wc.cell? (aj w.heap.size 4)=some (Iq 0):=by simp[World.cell?,b]
  have x:∀j,wc.frozen? (aj w.heap.size j)=false:=λj=>frozen_of_row _ _ _ _ _ b;have q:=n.trans (i.mono dg);have l:Hid (w.heap.size<=B):=by show w.heap.size<=B;omega
  have v:Hid ((wc.setCell (aj B 4) (Iq 3)).heap[w.heap.size]?=some (.cells #[.string ⟨#[]⟩,Iq 0,Iq 0,Iq 0,Iq 0] 164 (0,0))):=by show _=_;rw[heap_setCell_other _ _ _ _ (λe=>o e.symm)];exact b
  clear a b s t;go_wp2;try simp only[Exit.inBlock,Exit.then]
  refine bodyPost_ret (b9 rfl _ _ _ w.heap.size _ rfl (run_loadVar_row _ _ _ _ _ _ _ (rK v) underlying164 rfl ns)) rfl ?_;refine⟨rfl,?_⟩;have h:=q.setCell (p:=(aj B 4)) l (Iq 3);exact((((h.setCell (p:=(aj w.heap.size 0)) (ae _) _).setCell (p:=(aj w.heap.size 1)) (ae _) _).setCell (p:=(aj w.heap.size 2)) (ae _) _).setCell (p:=(aj w.heap.size 3)) (ae _) _).setCell (p:=(aj w.heap.size 4)) (ae _) _
theorem FU(l:List (List UInt8×Int))r v a W w(q:w.ownsRow r 112 2 v l.length (dB l))(x:a<=l.length)(m:∀c∈l,0<=c.2/\c.2<=2)(o:∀c∈l,c.1.length<=20)(f:l.length<=68719476736)(i:1<=W)(k:W<=9223372036854775807):
 Cw 160 #[v,Iq a,Iq W] w λe w'=>e=Rw (.tuple #[.agg #[.string ⟨(cu l W a).T.toArray⟩,Iq (cu l W a).W,Iq (cu l W a).F,Iq (cu l W a).N,Iq (cu l W a).E],Iq (nO l W a)])/\Bt w w':=by
 have u:=mP q;rcases q.2 with⟨rfl,B⟩|⟨g,h,s,rfl,_,y,d,_⟩;·simp_all[IX,Cg]
 ·obtain⟨a',p,t,_,_,hh⟩:=u;cases t;have n:=(aD.1 y).1;rcases hh with z|⟨b,off,A,_,C,D⟩;·subst z;exact rI [] g 0 h a W w n d (λj G=>rd) x m o f i k
  grind[rI]
theorem rJ(s:ByteArray)(W:Int)(w:World)(hs:s.size<=68719476736)(zh:-9223372036854775808<=W)(M:W<=9223372036854775807):
 Cw 79 #[.string s,Iq W] w λe w'=>∃v,e=Rw v/\w'.ownsRow w.heap.size 164 5 v (a_ (aG (ak s.data.toList)) W).length (fT (a_ (aG (ak s.data.toList)) W))/\Bt w w':=by
 obtain⟨i0,hi,Y,Z,za⟩:=info_parts Fj;have S:s.data.toList.length=s.size:=by rw[dZ];rfl
 have hR:=aX s.data.toList;have hC:=bu (ak s.data.toList);rw[S]at hR;have y:=cE (ak s.data.toList);have H:=jl (ak s.data.toList);have G:=qH<|rClusters_any s w dg;obtain⟨l,hl⟩:=ad (aG (ak s.data.toList));rw[hl]at hC y H G⊢;have I:=qH<|y;have K:=qH<|H;by_cases A:W<1
 ·have J:Hid (a_ l W=[]):=by show _=_;rw[a_,if_pos A]
  go_enter func79,ntmps79;go_wp2;go_ret;rw[J.out];exact⟨_,rfl,eO _ _ _ _,af _ _⟩
 have x:1<=W:=dg;have J:Hid (a_ l W=cY l W 0):=by show _=_;rw[a_,if_neg A]
 have zg:=(dQ l W 0 (aR _)).2;go_enter func79,ntmps79;go_wp2_with fail;refine G.mono ?_;rintro e w1 ⟨v1,rfl,o1,b1⟩;have HO:=qH<|o1;have C:=b1.size;go_wp2;go_loopw[6,7,8] (λo p m wr=>∃(c:List Ln) (a:Nat),wr.ownsRow w1.heap.size 164 5 o c.length (fT c)/\Bt w1 wr/\p=Iq a/\a<=l.length/\((m=.bool true/\Hid (c++cY l W a=cY l W 0))\/(m=.bool false/\Hid (c=cY l W 0)))) (λ_ p m _=>2*(l.length+1-(intOf p).toNat)+Hb m);case atStart=>exact⟨[],0,eO _ _ _ _,af _ _,rfl,aR _,.inl ⟨rfl,rfl⟩⟩
 case round=>
  obtain⟨c,a,n,k,rfl,O,U⟩:=hrel;have X:=k.size;rcases U with⟨rfl,b⟩|⟨rfl,b⟩
  ·have zj:c.length<l.length+1:=by have:=congrArg List.length b;have h2:=(dQ l W a O).1;rw[aU]at this;omega
   have i:=qH<|
    FU l _ v1 a W wr (rq HO k) O I K dg x M;have P:=vs l W a O;have j:=qH<|nxt_lt l W a;have f:Hid (cY l W a=if(cu l W a).E=3 then[cu l W a]else cu l W a::cY l W (nO l W a)):=by
    show _=_;by_cases h:(cu l W a).E=3;·grind[jn]
    ·grind[kq]
   have z:a<=nO l W a:=by unfold nO;omega
   obtain⟨⟨T,V,F,N,E⟩,hx⟩:=ad (cu l W a);rw[hx]at i j f;simp only at i j f;obtain⟨m,hm⟩:=ad (nO l W a);rw[hm]at i j f P z;go_wp2_with fail;refine i.mono ?_;rintro e g ⟨rfl,L⟩;have zk:=L.size;have d:=rq n L;have t:=k.trans (L.mono X);go_wp2_with(at_builtin;refine wpList_append_own _ rfl _ _ 161 rfl w1.heap.size 164 i0 (.agg #[.string ⟨#[]⟩,Iq 0,Iq 0,Iq 0,Iq 0]) 5 48 underlying161 hi Y Z za rfl (by decide) _ _ _ rfl ((d.alloc _).alloc _) _ 1 1 (bZ ⟨T,V,F,N,E⟩) rfl rfl ?c1 ?c2 ?c3 ?c4 ?c5 ?_);case c1=>have:=xQ (g.alloc (.cells #[.string ⟨T.toArray⟩,Iq V,Iq F,Iq N,Iq E] 164)) ⟨T,V,F,N,E⟩ 164;rw[au]at this;exact this
   case c2=>intro u hu;simp[bZ]at hu;rcases hu with rfl|rfl|rfl|rfl|rfl<;>rfl
   case c3=>unfold maxLen;omega
   case c4=>omega
   case c5=>rw[au,au];omega
   intro v' w3 Q hg _;have B:=λq R=>(d.lt q R).1;have D:=t.size;have zc:=λq R=>(d.lt q R).2;have ze:=((t.alloc D _).alloc (by rw[au];omega) _).grown hg (by rw[au,au];omega) B;have zl:w3.cell? (aj g.heap.size 4)=some (Iq E):=by
    have h1:((aj g.heap.size 4):Addr).block<((g.alloc (.cells #[.string ⟨T.toArray⟩,Iq V,Iq F,Iq N,Iq E] 164)).alloc (.cells (bZ ⟨T,V,F,N,E⟩).toArray 164)).heap.size:=by rw[au,au];show g.heap.size<_;omega
    have h2:=bf (a:=(aj g.heap.size 4)) (hg.block g.heap.size h1 (λe=>rd));refine h2.trans ?_;have r:=bf (a:=(aj g.heap.size 4)) (((af _ (g.alloc (.cells #[.string ⟨T.toArray⟩,Iq V,Iq F,Iq N,Iq E] 164))).alloc (ae _) (.cells (bZ ⟨T,V,F,N,E⟩).toArray 164)).block g.heap.size (by simp_all));refine r.trans ?_;simp
   by_cases r:E=3
   ·have HF:Hid (c++[⟨T,V,F,N,E⟩]=cY l W 0):=by show _=_;rw[<-b.out,f.out,if_pos r]
    subst r;go_wp2;go_roundw;case rel=>grind[kj]
    case measure=>simp[intOf,Hb];omega
   ·have HF:Hid ((c++[⟨T,V,F,N,E⟩])++cY l W m=cY l W 0):=by show _=_;rw[<-b.out,f.out,if_neg r];simp
    have zb:=j r;have zi:(E !=3)=true:=by simpa using r
    go_wp2;go_roundw;case rel=>grind[kj]
    case measure=>simp[intOf,Hb];omega
  ·go_wp2;go_ret;rw[J.out,<-b.out];exact⟨_,rfl,gL n C,b1.trans (k.mono C)⟩
theorem E4:Lib.encodeRune 8230=[226,128,166]:=by decide+kernel
theorem Jz(s:ByteArray)(W:Int)(w:World)(hs:s.size<=1099511627776)(zt:-9223372036854775808<=W)(zu:W<=9223372036854775807):
 Calls Tryz.prog 81 #[.string s,.int .i64 W] w λe w'=>e=Rw (.string ⟨(fD (one (aG (ak s.data.toList))) W).toArray⟩)/\Bt w w':=by
 have zg:s.data.toList.length=s.size:=by rw[dZ];rfl
 have J:=aX s.data.toList;have hC:=bu (ak s.data.toList);rw[zg]at J;by_cases zb:W<1
 ·have D:Hid (fD (one (aG (ak s.data.toList))) W=[]):=by show _=_;rw[fD,if_pos zb]
  go_enter Tryz.func81,Tryz.ntmps81;go_wp2;go_ret;rw[D.out];exact⟨rfl,af _ _⟩
 have z:=mi (aG (ak s.data.toList));have u:=rl (cE (ak s.data.toList));have n:=DB (aG (ak s.data.toList));have za:=iW _ (t_ (jl (ak s.data.toList)));have G:Hid (Calls Tryz.prog 44 #[.string s] w λe w'=>∃v,e=Rw v/\uC w.heap.size w' v (aG (ak s.data.toList))/\Bt w w'):=by refine(rClusters_any s w hs).mono ?_;rintro e K ⟨v,rfl,o,b⟩;exact⟨v,rfl,mP o,b⟩
 obtain⟨l,hl⟩:∃l,aG (ak s.data.toList)=l:=⟨_,rfl⟩;rw[hl]at hC z u n za G⊢;have N:Hid (∀(j:Nat) (q:j<l.length) (d:j<(one l).length),(one l)[j]=if(l[j]).1=[10]then([32],1)else l[j]):=λj q d=>Jc l j q d;obtain⟨m,hm⟩:∃m,one l=m:=⟨_,rfl⟩;rw[hm]at z u n za⊢;have zi:=iA m (W-1);have H:m.length<=1099511627776:=dg;have HC:Hid (fD m W=if ai m<=W then aB m else aB (m.take (cR m (W-1)))++[226,128,166]):=by show _=_;rw[fD,if_neg zb]
 have L:Hid (∀c∈m,0<=c.2/\c.2<=2):=u;have I:=bB m u m.length;rw[io]at I;have zh:Hid (∀k,(aB (m.take k)).length<=(aB m).length):=λk=>eu m k;have O:Hid (∀(j:Nat) (q:j<l.length) (d:j<m.length),m[j]=if(l[j]).1=[10]then([32],1)else l[j]):=by subst hm;exact N.out
 have E:Hid (m.length=l.length):=z;have zq:m.length<=l.length:=dg;have zr:l.length<=m.length:=dg;clear hm hl zg u n N z;go_enter Tryz.func81,Tryz.ntmps81;go_wp2_with fail;refine G.out.mono ?_;rintro e K ⟨v1,rfl,⟨a,f,rfl,zn,zo,hh⟩,b1⟩;clear G;have zw:=b1.size;have HO:Hid (l=[]\/∃b off,a=some (aj b off)/\w.heap.size<=b/\b<K.heap.size/\∀j (q:j<l.length),K.cell? (aj b (off+j*2))=some (.string ⟨(l[j]).1.toArray⟩)/\K.cell? (aj b (off+j*2+1))=some (.int .i64 (l[j]).2)/\K.frozen? (aj b (off+j*2))=false/\K.frozen? (aj b (off+j*2+1))=false):=hh;clear hh;go_wp2;go_loopw[6] (λi wr=>∃k:Nat,k<=l.length/\i=.int .i64 k/\Bt w wr/\Hid (l=[]\/∃b off,a=some (aj b off)/\w.heap.size<=b/\b<wr.heap.size/\∀j (q:j<l.length) (d:j<m.length),(j<k->wr.cell? (aj b (off+j*2))=some (.string ⟨(m[j]).1.toArray⟩)/\wr.cell? (aj b (off+j*2+1))=some (.int .i64 (m[j]).2))/\(k<=j->wr.cell? (aj b (off+j*2))=some (.string ⟨(l[j]).1.toArray⟩)/\wr.cell? (aj b (off+j*2+1))=some (.int .i64 (l[j]).2))/\wr.frozen? (aj b (off+j*2))=false/\wr.frozen? (aj b (off+j*2+1))=false)) (λi _=>l.length-(intOf i).toNat);case atStart=>refine⟨0,aR _,rfl,b1,HO.out.imp id ?_⟩;grind
 case round=>
  obtain⟨k,hk,rfl,y,HR⟩:=hrel;have zl:=y.size;by_cases B:k<l.length
  ·have zc:(k:Int)<(l.length:Int):=dg
   have ze:l≠[]:=λe=>rd;obtain⟨b,off,rfl,U,Z,C⟩:=HR.out.resolve_left ze;have F:Hid (∀j (q:j<l.length) (d:j<m.length),(j<k->wr.cell? (aj b (off+j*2))=some (.string ⟨(m[j]).1.toArray⟩)/\wr.cell? (aj b (off+j*2+1))=some (.int .i64 (m[j]).2))/\(k<=j->wr.cell? (aj b (off+j*2))=some (.string ⟨(l[j]).1.toArray⟩)/\wr.cell? (aj b (off+j*2+1))=some (.int .i64 (l[j]).2))/\wr.frozen? (aj b (off+j*2))=false/\wr.frozen? (aj b (off+j*2+1))=false):=C;obtain⟨T,V,x⟩:∃T V,l[k]=(T,V):=⟨_,_,rfl⟩;have t:=F.out k B dg;have c0:wr.cell? (aj b (off+k*2))=some (.string ⟨T.toArray⟩):=by have:=(t.2.1 (ae _)).1;rw[x]at this;exact this
   have c1:wr.cell? (aj b (off+k*2+1))=some (.int .i64 V):=by have:=(t.2.1 (ae _)).2;rw[x]at this;exact this
   have f0:=t.2.2.1;have f1:=t.2.2.2;have P:Hid (∀d:k<m.length,m[k]=if T=[10]then([32],1)else(T,V)):=λd=>by rw[O.out k B d,x]
   clear t x HR C HO;by_cases n:T=[10]
   ·have S:(T==[10])=true:=by rw[n];rfl
    go_wp2;go_roundw;case rel=>
     refine⟨k+1,dg,by go_num,(y.setCell (p:=(aj b (off+k*2))) U _).setCell (p:=(aj b (off+k*2+1))) U _,.inr ⟨b,off,rfl,U,by simpa using Z,λj q d=>?_⟩⟩;have J:=F.out j q d;simp only[fI];refine⟨λh=>?_,λh=>?_,J.2.2⟩
     ·by_cases e:j=k
      ·subst e;rw[P.out d,if_pos n];refine⟨?_,?_⟩;·rw[gm _ _ _ _ _ dg];exact lP _ _ _ (by rw[c0];rfl)
       ·exact lP _ _ _ (by grind[gm])
      grind[gm]
     grind[gm]
    case measure=>simp[intOf];omega
   ·have S:(T==[10])=false:=by simpa using n
    go_wp2;go_roundw;case rel=>
     refine⟨k+1,dg,by go_num,y,.inr ⟨b,off,rfl,U,Z,λj q d=>?_⟩⟩;have J:=F.out j q d;refine⟨λh=>?_,λh=>J.2.1 dg,J.2.2⟩;by_cases e:j=k;·subst e;rw[P.out d,if_neg n];grind
     grind
    case measure=>simp[intOf];omega
  ·have zc:¬(k:Int)<(l.length:Int):=dg
   have r:Hid (lV wr (.slice a m.length f) m):=by refine⟨a,f,rfl,HR.out.imp (λe=>jg.1 rd) ?_⟩;rintro⟨b,off,rfl,U,hb,hc⟩;exact⟨b,off,rfl,hb,λj q=>(hc j dg q).1 dg⟩
   have R:Hid (∀w,lV w (.slice a m.length f) m->Calls Tryz.prog 161 #[.slice a l.length f] w λe w'=>e=Rw (.int .i64 (ai m))/\w'=w):=by intro w h;rw[<-E.out];exact lk m _ w h L.out H
   have Q:Hid (∀w,lV w (.slice a m.length f) m->Calls Tryz.prog 162 #[.slice a l.length f] w λe w'=>e=Rw (.string ⟨(aB m).toArray⟩)/\w'=w):=by intro w h;rw[<-E.out];exact lj m _ w h H dg
   have M:Hid (∀w,lV w (.slice a m.length f) m->Calls Tryz.prog 163 #[.slice a l.length f,.int .i64 (W-1)] w λe w'=>e=Rw (.int .i64 (cR m (W-1)))/\w'=w):=by intro w h;rw[<-E.out];exact jt m _ (W-1) w h L.out H
   clear HR HO;go_wp2_with fail;refine(R.out _ r.out).mono ?_;rintro e w2 ⟨rfl,rfl⟩;obtain⟨X,hX⟩:∃X,ai m=X:=⟨_,rfl⟩;rw[hX]at I HC⊢;clear hX R;by_cases A:X<=W
   ·have D:Hid (fD m W=aB m):=by show _=_;rw[HC.out,if_pos A]
    go_wp2_with fail;refine(Q.out _ r.out).mono ?_;rintro e w3 ⟨rfl,rfl⟩;go_wp2;go_ret;rw[D.out];simp_all
   ·have D:Hid (fD m W=aB (m.take (cR m (W-1)))++[226,128,166]):=by show _=_;rw[HC.out,if_neg A]
    have ze:m≠[]:=by intro e;have:X<=2*(m.length:Int):=I.2;rw[e]at this;simp at this;omega
    go_wp2_with fail;refine(M.out _ r.out).mono ?_;rintro e w3 ⟨rfl,rfl⟩;obtain⟨g,hg⟩:∃g,cR m (W-1)=g:=⟨_,rfl⟩;rw[hg]at D zi⊢;obtain⟨b,off,rfl,hc⟩:∃b off,a=some (aj b off)/\lV w3 (.slice a g f) (m.take g):=by obtain⟨a',zm,e1,hh⟩:=r.out;grind[qB]
    have HT:Hid (lV w3 (.slice (some (aj b off)) g f) (m.take g)):=hc;have zj:=zh.out g;have zk:(m.take g).length<=1099511627776:=by rw[b_];omega
    clear hg r hc Q M;have zv:(g:Int)<=(f:Int):=dg;go_wp2_with fail;refine(lj (m.take g) _ w3 HT.out zk dg).mono ?_;rintro e w4 ⟨rfl,rfl⟩;obtain⟨Y,hY⟩:∃Y,aB (m.take g)=Y:=⟨_,rfl⟩;rw[hY]at D zj⊢;clear hY HT;go_wp2_with fail;refine(iC 8230 w4).mono ?_;rw[E4];rintro e w5 ⟨rfl,b5⟩;go_wp2;go_ret;rw[D.out,<-vJ];exact⟨rfl,y.trans (b5.mono zl)⟩
theorem B'(s:ByteArray)(W how:Int)(w:World)(hs:s.size<=1099511627776)(U:-9223372036854775808<=W)(V:W<=9223372036854775807):
 Cw 45 #[.string s,Iq W,Iq how] w λe w'=>e=Rw (.string ⟨(iJ s.data.toList (ai (aG (ak s.data.toList))) W how).toArray⟩)/\Bt w w':=by
 have u:s.data.toList.length=s.size:=by rw[dZ];rfl
 have T:=aX s.data.toList;have hC:=bu (ak s.data.toList);rw[u]at T;have r:=bB _ (cE (ak s.data.toList)) (aG (ak s.data.toList)).length;rw[io]at r;have K:Hid (Cw 84 #[.string s] w λe w'=>e=Rw (Iq (ai (aG (ak s.data.toList))))/\Bt w w'):=ng s w hs;obtain⟨c,I⟩:=ad (ai (aG (ak s.data.toList)));rw[I]at K r⊢;obtain⟨M,A⟩:=ad (min W 100000);have R:M<=100000:=dg;have Q:-9223372036854775808<=M:=dg;have y:Hid (min W 100000=M):=A;have L:Hid (∀w,Cw 74 #[Iq W,Iq 100000] w λe w'=>e=Rw (Iq M)/\w'=w):=by intro w;have:=Cf W 100000 w;rw[A]at this;exact this
 clear I u A;by_cases t:M<=c
 ·have b:Hid (iJ s.data.toList c W how=s.data.toList):=by show _=_;unfold iJ;rw[if_pos (by rw[y.out];exact t)]
  go_enter func45,ntmps45;go_wp2_with fail;refine K.mono ?_;rintro e w1 ⟨rfl,o⟩;clear K;go_wp2_with fail;refine(L _).mono ?_;rintro e x ⟨rfl,rfl⟩;go_wp2;go_ret;rw[b.out,Dv];exact⟨rfl,o⟩
 ·obtain⟨n,C⟩:∃n:Nat,M-c=n:=⟨(M-c).toNat,dg⟩;have Z:n<=100000:=dg
  have b:Hid (iJ s.data.toList c W how=List.replicate (oH n how) 32++s.data.toList++List.replicate (n-oH n how) 32):=by show _=_;unfold iJ;rw[if_neg (by rw[y.out];exact t),y.out,C];simp
  have B:=uL n how;have k:how=1->oH n how=n/2:=λh=>by unfold oH;rw[if_pos h]
  have l:how=2->oH n how=n:=λh=>by unfold oH;rw[if_neg dg,if_pos h]
  have m:how≠1->how≠2->oH n how=0:=λh P=>by unfold oH;rw[if_neg h,if_neg P]
  obtain⟨a,H⟩:=ad (oH n how);rw[H]at b B k l m;have p:∀w,Cw 85 #[Iq a] w λe w'=>e=Rw (.string ⟨(List.replicate a 32).toArray⟩)/\w'=w:=λw=>kB a w dg;have q:∀w,Cw 85 #[Iq ((n-a:Nat):Int)] w λe w'=>e=Rw (.string ⟨(List.replicate (n-a) 32).toArray⟩)/\w'=w:=λw=>kB (n-a) w dg;have i:Hid (∀w,Cw 85 #[Iq a] w λe w'=>e=Rw (.string ⟨(List.replicate a 32).toArray⟩)/\w'=w):=p;have j:Hid (∀w,Cw 85 #[Iq ((n-a:Nat):Int)] w λe w'=>e=Rw (.string ⟨(List.replicate (n-a) 32).toArray⟩)/\w'=w):=q;have z:Hid (M-c=n):=C;have l1:(List.replicate a (32:UInt8)).length=a:=Ei;have l2:(List.replicate (n-a) (32:UInt8)).length=n-a:=Ei;obtain⟨X,F⟩:=ad (List.replicate a (32:UInt8));obtain⟨Y,G⟩:=ad (List.replicate (n-a) (32:UInt8));rw[F]at b i l1;rw[G]at b j l2;have D:M-c-(a:Int)=((n-a:Nat):Int):=dg;have J:Hid (M-c-(a:Int)=((n-a:Nat):Int)):=D;have S:M-c<=100000:=dg;have E:0<M-c:=dg;clear p q C F G H D;go_enter func45,ntmps45;go_wp2_with fail;refine K.mono ?_;rintro e w1 ⟨rfl,o⟩;clear K;go_wp2_with fail;refine(L _).mono ?_;rintro e x ⟨rfl,rfl⟩;clear L;by_cases h1:how=1
  ·have d:a=n/2:=k h1;have N:Hid (((n:Int))/2=(a:Int)):=by show _=_;rw[d];rfl
   have O:Hid ((M-c).tdiv 2=(a:Int)):=by show _=_;rw[z.out,d];rfl
   clear k l m d;subst h1;have hq:(M-c).tdiv 2=(a:Int):=O.out;go_wp2_with fail;try rw[N.out]
   refine(i _).mono ?_;rintro e x ⟨rfl,rfl⟩;go_wp2_with fail;refine(show Calls _ _ #[Iq (M-c-(a:Int))] _ _ by rw[J.out];exact j _).mono ?_;rintro e w3 ⟨rfl,rfl⟩;go_wp2;go_ret;rw[b.out,<-GU];exact⟨rfl,o⟩
  ·by_cases v:how=2
   ·have d:a=n:=l v;have f:Hid (∀w,Cw 85 #[Iq (M-c)] w λe w'=>e=Rw (.string ⟨X.toArray⟩)/\w'=w):=by intro w;rw[z.out,<-d];exact i w
    have g:Hid (∀w,Cw 85 #[Iq 0] w λe w'=>e=Rw (.string ⟨Y.toArray⟩)/\w'=w):=by intro w;have:=j w;rw[show((n-a:Nat):Int)=0 by omega]at this;exact this
    clear k l m d i j;subst v;go_wp2_with fail;refine(f _).mono ?_;rintro e x ⟨rfl,rfl⟩;go_wp2_with fail;refine(g _).mono ?_;rintro e w3 ⟨rfl,rfl⟩;go_wp2;go_ret;rw[b.out,<-GU];exact⟨rfl,o⟩
   ·have d:a=0:=m h1 v;have f:Hid (∀w,Cw 85 #[Iq 0] w λe w'=>e=Rw (.string ⟨X.toArray⟩)/\w'=w):=by intro w;have:=i w;rw[show(a:Int)=0 by omega]at this;exact this
    have g:Hid (∀w,Cw 85 #[Iq (M-c)] w λe w'=>e=Rw (.string ⟨Y.toArray⟩)/\w'=w):=by intro w;have:=j w;rw[show((n-a:Nat):Int)=M-c by have:=z.out;omega]at this;exact this
    have g1:¬how=1:=h1;have g2:¬how=2:=v;clear k l m d i j;go_wp2_with fail;refine(f _).mono ?_;rintro e x ⟨rfl,rfl⟩;go_wp2_with fail;refine(g _).mono ?_;rintro e w3 ⟨rfl,rfl⟩;go_wp2;go_ret;rw[b.out,<-GU];exact⟨rfl,o⟩
