import Derived.Test.YtehgehanbnkdiaaGreatDoorQ00
import Derived.Test.YtehgehanbnkdiaaGreatDoorQ29
import Derived.Test.YtehgehanbnkdiaaGreatDoorQ34
set_option linter.all false
set_option maxRecDepth 100000
set_option maxHeartbeats 16000000
namespace Go.Proofs.YtehgehanbnkdiaaGreatDoor
open Go.RowKit Go.Proofs.Tryz
theorem Ad n:Lib.repeatL [32] n=List.replicate n 32:=by
 induction n with
 |zero=>rfl
 |succ n a=>simp[Lib.repeatL,a,List.replicate_succ]
def blank_any(n:Nat)w(a:n<=140737488355328):
 Cw 173 #[.string ⟨#[32]⟩,Iq n] w λe w'=>e=Rw (.string ⟨(List.replicate n 32).toArray⟩)/\Bq w w':=by refine(qg ⟨#[32]⟩ n w dg (by show 1*n<=_;omega)).mono ?_;grind[Ad]
def textOf_any(l:List (List UInt8×Int))(v:Fd)(w:AT)(x:uk w v l)(A:l.length<=1099511627776)(H:(aI l).length<=70368744177664):
 Cw 291 #[v] w λe w'=>e=Rw (.string ⟨(aI l).toArray⟩)/\Bq w w':=by
 obtain⟨a,E,rfl,hh⟩:=x;have q:=qH<|λk=>fU l k;go_enter func291,ntmps291;go_wp2;go_loopw[8] (λi wr=>∃k:Nat,k<=l.length/\i=Iq k/\Hid (Lib.IsBuilderF 160 5 w.heap.size w.heap.size (Lib.byteCells (aI (l.take k))) wr)/\Bq w wr) (λi _=>l.length-(intOf i).toNat);.exact⟨0,LT,rfl,Lib.IsBuilderF.of (Lib.fresh_isBuilder 160 5 w),No⟩
 obtain⟨k,I,rfl,o,c⟩:=hrel;have m:=c.size;by_cases f:k<l.length
 .have h:(k:Int)<(l.length:Int):=dg;have j:l≠[]:=λe=>rn;obtain⟨b,off,rfl,z,u⟩:=hh.resolve_left j;obtain⟨T,V,d⟩:∃T V,l[k]=(T,V):=⟨_,_,rfl⟩;have D:wr.cell? (aq b (off+k*2))=some (.string ⟨T.toArray⟩):=by have:=(u k f).1;rw[d]at this;exact(c.cell (p:=(aq b (off+k*2))) z).trans this
  have c1:wr.cell? (aq b (off+k*2+1))=some (Iq V):=by have:=(u k f).2;rw[d]at this;exact(c.cell (p:=(aq b (off+k*2+1))) z).trans this
  have r:Hid (aI (l.take (k+1))=aI (l.take k)++T):=qH<|by rw[vz l k f,d]
  have g:=q (k+1);rw[r.out,aN]at g;have s:(⟨T.toArray⟩:BY).size=T.length:=by simp[ByteArray.size]
  obtain⟨Y,y⟩:=af (aI (l.take k));rw[y]at r g o;clear hh u d j y;go_wp2_with fail;refine Ut (oB w.heap.size w.heap.size _ ⟨T.toArray⟩ _ (o.alloc _) (by rw[Lib.byteCells_length,s];omega) (by simp;omega)) ?_;rintro C ⟨F,n,G⟩;have t:=(c.alloc m _).trans n;clear o D c1 n G;go_wp2;go_roundw;.refine⟨k+1,dg,by go_num,?_,t⟩;show Lib.IsBuilderF _ _ _ _ _ _;rw[r.out,Lib.byteCells_append];exact Or.inr F
  .simp[intOf];omega
 .have h:¬(k:Int)<(l.length:Int):=dg;have B:Hid (l.take k=l):=im dg;clear hh;go_wp2_with fail;refine Ut (Az w.heap.size w.heap.size (aI (l.take k)) _ o m) ?_;rintro C ⟨_,n,_⟩;go_wp2;go_ret;rw[B.out];exact⟨rfl,c.trans n⟩
theorem lE(w:AT)b i j v(h:i≠j):(w.setCell (aq b i) v).cell? (aq b j)=w.cell? (aq b j):=
 cu _ _ _ _ (λe=>h rn)
def ut(B:Nat)(w:AT)(v:Fd)(l:List (List UInt8×Int)):Prop:=
 ∃a cap,v=.slice a l.length cap/\l.length<=cap/\cap<=maxLen/\(l=[]\/∃b off,a=some (aq b off)/\B<=b/\b<w.heap.size/\∀j (hj:j<l.length),w.cell? (aq b (off+j*2))=some (.string ⟨(l[j]).1.toArray⟩)/\w.cell? (aq b (off+j*2+1))=some (Iq (l[j]).2)/\w.frozen? (aq b (off+j*2))=false/\w.frozen? (aq b (off+j*2+1))=false)
def ut.cls{B}{w}{v}{l}(h:ut B w v l):uk w v l:=by obtain⟨a,b,rfl,_,_,hh⟩:=h;refine⟨a,b,rfl,hh.imp id ?_⟩;grind
def uN{w}{B n}{e}{v}{l}(h:w.ownsRow B e 2 v n (du l)):ut B w v l:=by
 have x:l.length=n:=by have:=h.1;rw[kj]at this;omega
 have t:=tn h;rcases h.2 with⟨rfl,rfl⟩|⟨g,o,p,rfl,s,k,i,c,_⟩;.have y:=iR.1 x;subst y;exact⟨none,0,rfl,LE,LT,.inl rfl⟩
 .obtain⟨a,d,q,hh⟩:=t;cases q;refine⟨_,_,rfl,dg,c,hh.imp id ?_⟩;rintro⟨b,off,r,u,f⟩;cases r;exact⟨g,0,rfl,s,u,λj m=>⟨(f j m).1,(f j m).2,frozen_of_row _ _ _ _ _ k,frozen_of_row _ _ _ _ _ k⟩⟩
def Ps l j(b:j<l.length)(a:j<(one l).length):(one l)[j]=if(l[j]).1=[10]then([32],1)else l[j]:=by simp[one]
def lr(w:AT)(v:Fd)(l:List (List UInt8×Int)):Prop:=
 ∃a cap,v=.slice a l.length cap/\l.length<=cap/\cap<=maxLen/\(l=[]\/∃b off,a=some (aq b off)/\b<w.heap.size/\∀j (hj:j<l.length),w.cell? (aq b (off+j*2))=some (.string ⟨(l[j]).1.toArray⟩)/\w.cell? (aq b (off+j*2+1))=some (Iq (l[j]).2))
def lr.cls{w}{v}{l}(h:lr w v l):uk w v l:=by obtain⟨a,b,rfl,_,_,hh⟩:=h;exact⟨a,b,rfl,hh⟩
def lr.below{w w'}{v}{l}(h:lr w v l)(g:Bq w w'):lr w' v l:=by obtain⟨a,cap,rfl,d,f,hh⟩:=h;obtain⟨a',c,e,b⟩:=(uk.below ⟨a,cap,rfl,hh⟩ g:uk w' (.slice a l.length cap) l);cases e;exact⟨a,cap,rfl,d,f,b⟩
def ut.clsC{B}{w}{v}{l}(h:ut B w v l):lr w v l:=by obtain⟨a,b,rfl,c,d,hh⟩:=h;refine⟨a,b,rfl,c,d,hh.imp id ?_⟩;grind
def uO{w}{b off a n}{l:List (List UInt8×Int)}(c:b<w.heap.size)(e:∀j (d:j<l.length),w.cell? (aq b (off+j*2))=some (.string ⟨(l[j]).1.toArray⟩)/\w.cell? (aq b (off+j*2+1))=some (Iq (l[j]).2))(f:n<=l.length):
 uk w (.slice (some (aq b off)) n a) (l.take n):=by refine⟨_,a,rn,.inr ⟨b,off,rfl,c,λj d=>?_⟩⟩;grind
theorem pR l n(a:n<=l.length):∀k,k<=n->dS (l.take n) k=dS l k
 |0,_=>rfl
 |k+1,h=>by
  have e:tx (l.take n) k=tx l k:=by simp[tx,show k<n by omega]
  simp only[dS,e,pR l n a k dg]
def kq(l:List (List UInt8×Int))(v:Fd)(W:Int)(w:AT)(z:lr w v l)(H:∀c∈l,0<=c.2/\c.2<=2)(A:l.length<=1099511627776)(zg:1<=W)(E:W<=9223372036854775807):
 Cw 323 #[v,Iq W] w λe w'=>e=Rw (.tuple #[Iq (aR l W).n,Iq (aR l W).d,Iq (aR l W).e])/\Bq w w':=by
 have N:=qH<|fitting_any l v W w z.cls H A dg E;have o:=jG l W;obtain⟨n,Y⟩:=af (dk l W);have q:Hid (aR l W=if n=l.length then⟨n,0,3⟩
  else if tx l n=[10]then⟨n,1,2⟩
  else if n=0 then⟨1,0,1⟩
  else if tx l n=[32]then⟨n,1,0⟩
  else if 0<=dS l n then⟨(dS l n).toNat,1,0⟩
  else⟨n,0,1⟩):=qH<|by unfold aR;rw[Y]
 rw[Y]at N o;obtain⟨a,D,rfl,S,X,hh⟩:=z;go_enter func323,ntmps323;go_wp2_with fail;refine Ut N ?_;rintro r t;by_cases k:n=l.length
 .have g:Hid (aR l W=⟨n,0,3⟩):=qH<|by rw[q.out,if_pos k]
  subst k;go_wp2;go_ret3;rw[g.out];simp_all
 have B:n<l.length:=dg;have L:l≠[]:=λe=>rn;obtain⟨b,off,rfl,F,R⟩:=hh.resolve_left L;have G:=zz006 F t.size;have y:Hid (∀j (J:j<l.length),r.cell? (aq b (off+j*2))=some (.string ⟨(l[j]).1.toArray⟩)/\r.cell? (aq b (off+j*2+1))=some (Iq (l[j]).2)):=
  λj J=>⟨(t.cell (p:=(aq b (off+j*2))) F).trans (R j J).1,(t.cell (p:=(aq b (off+j*2+1))) F).trans (R j J).2⟩;have HT:Hid (uk r (.slice (some (aq b off)) n D) (l.take n)):=uO G y dg;obtain⟨T,V,x⟩:∃T V,l[n]=(T,V):=⟨_,_,rfl⟩;have c0:r.cell? (aq b (off+n*2))=some (.string ⟨T.toArray⟩):=by have:=(y n B).1;rw[x]at this;exact this
 have i:Hid (tx l n=T):=qH<|by rw[Cf B,x]
 by_cases f:T=[10]
 .have g:Hid (aR l W=⟨n,1,2⟩):=qH<|by rw[q.out,if_neg k,if_pos (by rw[i.out,f])]
  go_wp2;go_ret3;rw[g.out];simp_all
 have P:(T==[10])=false:=by simpa using f
 by_cases u:n=0
 .have g:Hid (aR l W=⟨1,0,1⟩):=qH<|by rw[q.out,if_neg k,if_neg (by rw[i.out];exact f),if_pos u]
  subst u;have ze:r.cell? (aq b off)=some (.string ⟨T.toArray⟩):=by simpa using c0
  go_wp2;go_ret3;rw[g.out];simp_all
 by_cases h:T=[32]
 .have g:Hid (aR l W=⟨n,1,0⟩):=qH<|by rw[q.out,if_neg k,if_neg (by rw[i.out];exact f),if_neg u,if_pos (by rw[i.out,h])]
  go_wp2;go_ret3;rw[g.out];simp_all
 have Q:(T==[32])=false:=by simpa using h
 have M:=ri (l.take n) _ r HT rn;have I:=pQ l n;rw[cL,JV o,pR l n o n LE]at M;have s:=qH<|M;obtain⟨m,U⟩:=af (dS l n);have O:=qH<|U;rw[U]at s I;go_wp2_with fail;refine Ut s ?_;rintro w2 b2;have hB:=t.trans (b2.mono t.size);by_cases C:0<=m
 .have g:Hid (aR l W=⟨m.toNat,1,0⟩):=qH<|by rw[q.out,if_neg k,if_neg (by rw[i.out];exact f),if_neg u,if_neg (by rw[i.out];exact h),O.out,if_pos C]
  have K:((m.toNat:Nat):Int)=m:=dg;have Z:=qH<|K;go_wp2;go_ret3;rw[g.out];simp_all
 .have g:Hid (aR l W=⟨n,0,1⟩):=qH<|by rw[q.out,if_neg k,if_neg (by rw[i.out];exact f),if_neg u,if_neg (by rw[i.out];exact h),O.out,if_neg C]
  go_wp2;go_ret3;rw[g.out];simp_all
def MP{w:AT}{B}{t}{f g i j k a b c d e}(h:w.heap[B]?=some (.cells #[f,g,i,j,k] t (0,0))):
 (((((w.setCell (aq B 0) a).setCell (aq B 1) b).setCell (aq B 2) c).setCell (aq B 3) d).setCell (aq B 4) e).heap[B]?=some (.cells #[a,b,c,d,e] t (0,0)):=by rw[heap_setCell_same _ _ _ _ _ _ (heap_setCell_same _ _ _ _ _ _ (heap_setCell_same _ _ _ _ _ _ (heap_setCell_same _ _ _ _ _ _ (heap_setCell_same _ _ _ _ _ _ h))))];rfl
def Io(T:zzf)(W:Int)(F N E:Int):Fd:=.agg #[.string ⟨T.toArray⟩,Iq W,Iq F,Iq N,Iq E]
def nx(l:List (List UInt8×Int))(W:Int):Fd:=if W<ak l then Io (List.replicate W.toNat 32) W 0 1 0 else Io (aI l) (ak l) 0 l.length 0
def pS(l:List (List UInt8×Int))(v:Fd)(W:Int)(w:AT)(hcl:uk w v l)(F:∀c∈l,0<=c.2/\c.2<=2)(G:l.length<=1099511627776)(hj:(aI l).length<=70368744177664)(zg:1<=W)(M:W<ak l->W<=1099511627776):
 Cw 324 #[v,Iq W] w λe w'=>e=Rw (nx l W)/\Bq w w':=by
 have B:=qH<|F;have q:=cU l F l.length;rw[jB]at q;have C:=qH<|hcl;obtain⟨a,ze,rfl,hh⟩:=hcl;go_enter func324,ntmps324;go_wp2;go_loopw[5,10] (λt i wr=>∃k:Nat,k<=l.length/\i=Iq k/\t=Iq (ak (l.take k))/\Bq w wr/\w.heap.size<wr.heap.size/\wr.heap[w.heap.size]?=some (.cells #[.string ⟨#[]⟩,Iq 0,Iq 0,Iq 0,Iq 0] 341)) (λ_ i _=>l.length-(intOf i).toNat);.exact⟨0,LT,rfl,rfl,No,At,heap_alloc_new _ _⟩
 obtain⟨k,hk,rfl,rfl,g,y,r⟩:=hrel;have A:=cU l B k;have z:=g.size;by_cases n:k<l.length
 .have H:(k:Int)<(l.length:Int):=dg;have O:l≠[]:=λe=>rn;obtain⟨b,off,rfl,hb,I⟩:=hh.resolve_left O;obtain⟨T,V,m⟩:∃T V,l[k]=(T,V):=⟨_,_,rfl⟩;have U:=B l[k] (kK n);have c0:wr.cell? (aq b (off+k*2))=some (.string ⟨T.toArray⟩):=by have:=(I k n).1;rw[m]at this;exact(g.cell (p:=(aq b (off+k*2))) hb).trans this
  have c1:wr.cell? (aq b (off+k*2+1))=some (Iq V):=by have:=(I k n).2;rw[m]at this;exact(g.cell (p:=(aq b (off+k*2+1))) hb).trans this
  have R:Hid (ak (l.take (k+1))=ak (l.take k)+V):=qH<|by rw[eH l k n,m]
  rw[m]at U;obtain⟨X,E⟩:=af (ak (l.take k));rw[E]at R A;rw[E];simp only at U;have f:=qH<|r;go_wp2;go_roundw;.exact⟨k+1,dg,by go_num,by rw[R.out],g.alloc z _,by simp;omega,(((ac wr.heap.size wr).alloc LE _).block w.heap.size y).trans f⟩
  .simp[intOf];omega
 .have H:¬(k:Int)<(l.length:Int):=dg;have e:l.take k=l:=im dg;rw[e]at A|-;have f:=qH<|r;have o:=qH<|C.below g;have K:=qH<|textOf_any l _ wr o G hj;obtain⟨X,E⟩:=af (ak l);have D:=qH<|E;rw[E]at A q M|-;obtain⟨J,S⟩:=af (aI l);have L:=qH<|S;rw[S]at K;by_cases N:W<X
  .obtain⟨c,I⟩:∃c:Nat,W=c:=⟨W.toNat,dg⟩;subst I;have Q:=qH<|blank_any c wr dg;obtain⟨Y,Z⟩:=af (List.replicate c (32:UInt8));have HY:=qH<|Z;rw[Z]at Q;go_wp2_with fail;refine Ut Q ?_;rintro h u;have P:=u.size;have d:=(u.block w.heap.size y).trans f;have q0:h.cell? (aq w.heap.size 0)=some (.string ⟨#[]⟩):=by simp[World.cell?,d]
   have q1:h.cell? (aq w.heap.size 1)=some (Iq 0):=by simp[World.cell?,d]
   have q2:h.cell? (aq w.heap.size 2)=some (Iq 0):=by simp[World.cell?,d]
   have q3:h.cell? (aq w.heap.size 3)=some (Iq 0):=by simp[World.cell?,d]
   have q4:h.cell? (aq w.heap.size 4)=some (Iq 0):=by simp[World.cell?,d]
   have fr:∀j,h.frozen? (aq w.heap.size j)=false:=λj=>frozen_of_row _ _ _ _ _ d;have s:=qH<|d;go_wp2;try simp only[Exit.inBlock,Exit.then]
   refine bodyPost_ret (results_cell_row rfl _ _ w.heap.size _ _ _ _ rfl (MP s) underlying341 rfl pt) rfl ?_;rw[nx,D.out,if_pos N];refine⟨?_,?_⟩;.rw[show((c:Int)).toNat=c from rfl,HY.out];rfl
   .have x:=g.trans (u.mono z);exact((((x.setCell (p:=(aq w.heap.size 0)) LE _).setCell (p:=(aq w.heap.size 1)) LE _).setCell (p:=(aq w.heap.size 2)) LE _).setCell (p:=(aq w.heap.size 3)) LE _).setCell (p:=(aq w.heap.size 4)) LE _
  .go_wp2_with fail;refine Ut K ?_;rintro h u;have P:=u.size;have d:=(u.block w.heap.size y).trans f;have q0:h.cell? (aq w.heap.size 0)=some (.string ⟨#[]⟩):=by simp[World.cell?,d]
   have q1:h.cell? (aq w.heap.size 1)=some (Iq 0):=by simp[World.cell?,d]
   have q2:h.cell? (aq w.heap.size 2)=some (Iq 0):=by simp[World.cell?,d]
   have q3:h.cell? (aq w.heap.size 3)=some (Iq 0):=by simp[World.cell?,d]
   have q4:h.cell? (aq w.heap.size 4)=some (Iq 0):=by simp[World.cell?,d]
   have fr:∀j,h.frozen? (aq w.heap.size j)=false:=λj=>frozen_of_row _ _ _ _ _ d;have s:=qH<|d;clear d K o C f;go_wp2;try simp only[Exit.inBlock,Exit.then]
   refine bodyPost_ret (results_cell_row rfl _ _ w.heap.size _ _ _ _ rfl (MP s) underlying341 rfl pt) rfl ?_;rw[nx,D.out,L.out,if_neg dg];refine⟨rfl,?_⟩;have x:=g.trans (u.mono z);exact((((x.setCell (p:=(aq w.heap.size 0)) LE _).setCell (p:=(aq w.heap.size 1)) LE _).setCell (p:=(aq w.heap.size 2)) LE _).setCell (p:=(aq w.heap.size 3)) LE _).setCell (p:=(aq w.heap.size 4)) LE _
def cF(x:Ln):List Fd:=[.string ⟨x.T.toArray⟩,Iq x.W,Iq x.F,Iq x.N,Iq x.E]
def fW(ls:List Ln):List Fd:=ls.flatMap cF
theorem vP a x:fW (a++[x])=fW a++cF x:=by simp[fW]
def Dp{W:AT}{B}{x}{t}(h:W.heap[B]?=some (.cells (cF x).toArray t (0,0))):W.cell? (aq B 0)=some (.string ⟨x.T.toArray⟩)/\W.cell? (aq B 1)=some (Iq x.W)/\W.cell? (aq B 2)=some (Iq x.F)/\W.cell? (aq B 3)=some (Iq x.N)/\W.cell? (aq B 4)=some (Iq x.E):=by simp[World.cell?,h,cF]
def Iy(W:AT)x t:∀  j   u,(cF x)[j]?=some u->(W.alloc (.cells (cF x).toArray t)).cell? (((aq W.heap.size 0):Addr).add j)=some u:=by
 intro j u hu;have a:((aq W.heap.size 0):Addr).add j=(aq W.heap.size j):=by unfold Addr.add;split<;>simp_all
 simp_all
def qX(s:BY)(w:AT)(O:aY w)(R:s.size<=1099511627776):
 Cw 289 #[.string s] w λe w'=>∃v,e=Rw v/\ut w.heap.size w' v (one (ba (az s.data.toList)))/\Bq w w':=by
 have F:s.data.toList.length=s.size:=by rw[eK];rfl
 have r:=bC s.data.toList;have P:=ci (az s.data.toList);rw[F]at r;have G:Hid (Cw 236 #[.string s] w λe w'=>∃v,e=Rw v/\ut w.heap.size w' v (ba (az s.data.toList))/\Bq w w'):=by refine(dR s w O R).mono ?_;rintro e u ⟨v,rfl,o,b⟩;exact⟨v,rfl,uN o,b⟩
 obtain⟨l,N⟩:=af (ba (az s.data.toList));rw[N]at G P|-;clear N F O;go_enter func289,ntmps289;go_wp2_with fail;refine G.mono ?_;rintro e u ⟨v1,rfl,⟨a,y,rfl,A,q,hh⟩,J⟩;clear G;have S:=J.size;have L:=pZ l;by_cases D:l=[]
 .subst D;go_wp2;go_loopw[9] (λi wr=>i=Iq 0/\wr=u) (λi _=>0);.grind
  obtain⟨rfl,rfl⟩:=hrel;go_wp2;go_ret;exact⟨_,rfl,⟨a,y,rfl,A,q,.inl rfl⟩,J⟩
 obtain⟨b,off,rfl,K,Q,M⟩:=hh.resolve_left D;have I:Hid (∀j (f:j<l.length),u.cell? (aq b (off+j*2))=some (.string ⟨(l[j]).1.toArray⟩)/\u.cell? (aq b (off+j*2+1))=some (Iq (l[j]).2)/\u.frozen? (aq b (off+j*2))=false/\u.frozen? (aq b (off+j*2+1))=false):=M;clear M hh;go_wp2;go_loopw[9] (λi wr=>∃k:Nat,k<=l.length/\i=Iq k/\b<wr.heap.size/\Hid (∀j (f:j<l.length) (c:j<(one l).length),(j<k->wr.cell? (aq b (off+j*2))=some (.string ⟨((one l)[j]).1.toArray⟩)/\wr.cell? (aq b (off+j*2+1))=some (Iq ((one l)[j]).2))/\(k<=j->wr.cell? (aq b (off+j*2))=some (.string ⟨(l[j]).1.toArray⟩)/\wr.cell? (aq b (off+j*2+1))=some (Iq (l[j]).2))/\wr.frozen? (aq b (off+j*2))=false/\wr.frozen? (aq b (off+j*2+1))=false)/\Bq w wr) (λi _=>l.length-(intOf i).toNat);.exact⟨0,LT,rfl,Q,λj f _=>⟨λh=>dg,λ_=>⟨(I j f).1,(I j f).2.1⟩,(I j f).2.2⟩,J⟩
 obtain⟨k,X,rfl,t,H,n⟩:=hrel;have U:=n.size;by_cases B:k<l.length
 .have C:(k:Int)<(l.length:Int):=dg;obtain⟨T,V,m⟩:∃T V,l[k]=(T,V):=⟨_,_,rfl⟩;have d:=H k B dg;have W:wr.cell? (aq b (off+k*2))=some (.string ⟨T.toArray⟩):=by have:=(d.2.1 LE).1;rw[m]at this;exact this
  have c1:wr.cell? (aq b (off+k*2+1))=some (Iq V):=by have:=(d.2.1 LE).2;rw[m]at this;exact this
  have f0:=d.2.2.1;have f1:=d.2.2.2;have E:(one l)[k]' dg=if T=[10]then([32],1)else(T,V):=by rw[Ps l k B,m]
  have x:Hid (∀c:k<(one l).length,(one l)[k]=if T=[10]then([32],1)else(T,V)):=λ_=>E;clear d E m;by_cases g:T=[10]
  .have z:(T==[10])=true:=by rw[g];rfl
   go_wp2;go_roundw
   .refine⟨k+1,dg,by go_num,by simpa using t,λj f c=>?_,?_⟩
    .have r:=H j f c;simp only[eS];refine⟨λh=>?_,λh=>?_,r.2.2⟩
     .by_cases e:j=k
      .subst e;rw[x c,if_pos g];refine⟨?_,?_⟩;.rw[lE _ _ _ _ _ dg];exact nO _ _ _ rn
       .exact nO _ _ _ (by grind[lE])
      grind[lE]
     grind[lE]
    .exact(n.setCell (p:=(aq b (off+k*2))) K _).setCell (p:=(aq b (off+k*2+1))) K _
   .simp[intOf];omega
  .have z:(T==[10])=false:=by simpa using g
   go_wp2;go_roundw
   .refine⟨k+1,dg,by go_num,t,λj f c=>?_,n⟩;have r:=H j f c;refine⟨λh=>?_,λh=>r.2.1 dg,r.2.2⟩;by_cases e:j=k;.subst e;rw[x c,if_neg g];grind
    grind
   .simp[intOf];omega
 .have C:¬(k:Int)<(l.length:Int):=dg;go_wp2;go_ret;refine⟨_,rfl,⟨_,y,by rw[L];rfl,dg,q,.inr ⟨b,off,rfl,K,t,λj f=>?_⟩⟩,n⟩;have r:=H j dg f;grind
def qT(m:List (List UInt8×Int))(W:Int):List UInt8:=if W<1 then[]else if ak m<=W then aI m else aI (m.take (dk m (W-1)))++[226,128,166]
def K_(s:BY)(W:Int)(w:AT)(ht:aY w)(hs:s.size<=1099511627776)(H:-9223372036854775808<=W)(I:W<=9223372036854775807):
 Cw 240 #[.string s,Iq W] w λe w'=>e=Rw (.string ⟨(qT (one (ba (az s.data.toList))) W).toArray⟩)/\Bq w w':=by
 have E:s.data.toList.length=s.size:=by rw[eK];rfl
 have hR:=bC s.data.toList;have hC:=ci (az s.data.toList);rw[E]at hR;by_cases B:W<1
 .have p:Hid (qT (one (ba (az s.data.toList))) W=[]):=qH<|by rw[qT,if_pos B]
  go_enter func240,ntmps240;go_wp2;go_ret;rw[p.out];exact⟨rfl,Ok⟩
 have D:=pZ (ba (az s.data.toList));have n:=IB (eV (az s.data.toList));have q:=My (ba (az s.data.toList));have N:=mJ _ (Ek (o_ (az s.data.toList)));have G:Hid (Cw 289 #[.string s] w λe w'=>∃v,e=Rw v/\ut w.heap.size w' v (one (ba (az s.data.toList)))/\Bq w w'):=qX s w ht hs;obtain⟨m,hm⟩:=af (one (ba (az s.data.toList)));rw[hm]at D n q N G|-;have i:=Lj m W n q dg;have A:=jG m (W-1);have r:m.length<=1099511627776:=dg;have R:Hid (qT m W=if ak m<=W then aI m else aI (m.take (dk m (W-1)))++[226,128,166]):=qH<|by rw[qT,if_neg B]
 have t:Hid (∀c∈m,0<=c.2/\c.2<=2):=n;have F:Hid (∀k,(aI (m.take k)).length<=(aI m).length):=λk=>fU m k;clear hm E hC n q ht D;go_enter func240,ntmps240;go_wp2_with fail;refine G.mono ?_;rintro e w1 ⟨v1,rfl,U,x⟩;have o:Hid (lr w1 v1 m):=U.clsC;obtain⟨a,l,rfl,X,ze,hh⟩:=U;clear G;go_wp2_with fail;refine Ut (fitting_any m _ W w1 o.cls t r H I) ?_;rintro Q y;have j:Hid (lr Q (.slice a m.length l) m):=o.below y;have M:=jG m W;obtain⟨f,Z⟩:=af (dk m W);rw[Z]at i M|-;clear Z o;by_cases d:f=m.length
 .have p:Hid (qT m W=aI m):=qH<|by rw[R.out,if_pos (i.1 d)]
  subst d;clear i hh;go_wp2_with fail;refine Ut (textOf_any m _ Q j.cls r dg) ?_;rintro w3 z;go_wp2;go_ret;rw[p.out];exact⟨rfl,x.trans ((y.mono x.size).trans (z.mono (aA x.size y.size)))⟩
 .have p:Hid (qT m W=aI (m.take (dk m (W-1)))++[226,128,166]):=qH<|by rw[R.out,if_neg (λh=>d (i.2 h))]
  have C:m≠[]:=λe=>rn;obtain⟨b,off,rfl,hB,hb,hc⟩:=hh.resolve_left C;have J:¬(f:Int)=(m.length:Int):=dg;clear i hh hc;go_wp2_with fail;refine Ut (fitting_any m _ (W-1) Q j.cls t r dg dg) ?_;rintro w3 z;have u:Hid (lr w3 (.slice (some (aq b off)) m.length l) m):=j.below z;obtain⟨g,hg⟩:=af (dk m (W-1));rw[hg]at p A|-;have S:Hid (uk w3 (.slice (some (aq b off)) g l) (m.take g)):=by obtain⟨a',T,e1,_,_,hh⟩:=u.out;cases e1;obtain⟨b',zg,e2,K,L⟩:=hh.resolve_left C;cases e2;exact uO K L A
  have O:=F g;have P:(m.take g).length<=1099511627776:=by rw[cL];omega
  clear hg j u;have zh:(g:Int)<=(l:Int):=dg;go_wp2_with fail;refine Ut (textOf_any (m.take g) _ w3 S P dg) ?_;rintro w4 b4;obtain⟨Y,V⟩:=af (aI (m.take g));rw[V]at p O|-;clear V S;go_wp2;go_ret;rw[p.out,<-M6];have s1:=x.size;have s2:=y.size;have s3:=z.size;exact⟨rfl,x.trans ((y.mono s1).trans ((z.mono dg).trans (b4.mono dg)))⟩
def Mk s:(⟨s.data.toList.toArray⟩:BY)=s:=rn
def Qu s X Y:(⟨X.toArray⟩:BY)++s++(⟨Y.toArray⟩:BY)=⟨(X++s.data.toList++Y).toArray⟩:=by apply jx;simp
def Dh(n:Nat)(how:Int):Nat:=if how=1 then n/2 else if how=2 then n else 0
theorem Fw n how:Dh n how<=n:=by grind[Dh]
def qO(T:zzf)(c W how:Int):List UInt8:=if min W 100000<=c then T else List.replicate (Dh (min W 100000-c).toNat how) 32++T++List.replicate ((min W 100000-c).toNat-Dh (min W 100000-c).toNat how) 32
def Di(s:BY)(W how:Int)(w:AT)(N:aY w)(hs:s.size<=1099511627776)(ze:-9223372036854775808<=W)(zg:W<=9223372036854775807):
 Cw 176 #[.string s,Iq W,Iq how] w λe w'=>e=Rw (.string ⟨(qO s.data.toList (ak (ba (az s.data.toList))) W how).toArray⟩)/\Bq w w':=by
 have x:s.data.toList.length=s.size:=by rw[eK];rfl
 have hR:=bC s.data.toList;have hC:=ci (az s.data.toList);rw[x]at hR;have u:=cU _ (eV (az s.data.toList)) (ba (az s.data.toList)).length;rw[jB]at u;have K:Hid (Cw 241 #[.string s] w λe w'=>e=Rw (Iq (ak (ba (az s.data.toList))))/\Bq w w'):=nc s w N hs;obtain⟨c,L⟩:=af (ak (ba (az s.data.toList)));rw[L]at K u|-;have t:(⟨s.data.toList.toArray⟩:BY)=s:=by cases s;simp
 have T:Hid ((⟨s.data.toList.toArray⟩:BY)=s):=t;obtain⟨M,D⟩:=af (min W 100000);have V:M<=100000:=dg;have U:-9223372036854775808<=M:=dg;have R:Hid (min W 100000=M):=D;clear L x N t;by_cases zh:M<=c
 .have d:Hid (qO s.data.toList c W how=s.data.toList):=qH<|by unfold qO;rw[if_pos dg]
  go_enter func176,ntmps176;go_wp2_with fail;refine Ut K ?_;rintro w1 f;clear K D;go_wp2;go_ret;rw[d.out,Mk];simp_all
 .obtain⟨n,F⟩:∃n:Nat,M-c=n:=⟨(M-c).toNat,dg⟩;have zi:n<=100000:=dg;have d:Hid (qO s.data.toList c W how=List.replicate (Dh n how) 32++s.data.toList++List.replicate (n-Dh n how) 32):=qH<|by unfold qO;rw[if_neg dg,R.out,F];simp
  have E:=Fw n how;have j:how=1->Dh n how=n/2:=λh=>by grind[Dh]
  have k:how=2->Dh n how=n:=λh=>by grind[Dh]
  have l:how≠1->how≠2->Dh n how=0:=λh h'=>by grind[Dh]
  obtain⟨a,J⟩:=af (Dh n how);rw[J]at d E j k l;have v:(n:Int)-(a:Int)=((n-a:Nat):Int):=dg;have q:=λw=>blank_any a w dg;have r:=λw=>blank_any (n-a) w dg;have g:Hid (∀w,Cw 173 #[.string ⟨#[32]⟩,Iq a] w λe w'=>e=Rw (.string ⟨(List.replicate a 32).toArray⟩)/\Bq w w'):=q;have i:Hid (∀w,Cw 173 #[.string ⟨#[32]⟩,Iq ((n-a:Nat):Int)] w λe w'=>e=Rw (.string ⟨(List.replicate (n-a) 32).toArray⟩)/\Bq w w'):=r;have S:Hid ((n:Int)-(a:Int)=((n-a:Nat):Int)):=v;have y:Hid (M-c=n):=F;have l1:(List.replicate a (32:UInt8)).length=a:=List.length_replicate;have l2:(List.replicate (n-a) (32:UInt8)).length=n-a:=List.length_replicate;obtain⟨X,H⟩:=af (List.replicate a (32:UInt8));obtain⟨Y,I⟩:=af (List.replicate (n-a) (32:UInt8));rw[H]at d g l1;rw[I]at d i l2;clear q r v F H I J;go_enter func176,ntmps176;go_wp2_with fail;refine Ut K ?_;rintro w1 f;clear K D;have z:M-c-(a:Int)=((n-a:Nat):Int):=by have:=y.out;omega
  have O:Hid (M-c-(a:Int)=((n-a:Nat):Int)):=z;have Z:M-c<=100000:=by have:=y.out;omega
  have G:0<M-c:=dg;by_cases A:how=1
  .have b:=j A;have P:Hid (((n:Int))/2=(a:Int)):=qH<|by rw[b];rfl
   have Q:Hid ((M-c).tdiv 2=(a:Int)):=qH<|by rw[y.out,b];rfl
   clear j k l b z;subst A;have hq:=Q.out;go_wp2_with fail;try rw[P.out]
   refine Ut (g _) ?_;rintro w2 p;go_wp2_with fail;refine Ut (show Calls _ _ #[_,Iq (M-c-(a:Int))] _ _ by rw[O.out];exact i _) ?_;rintro w3 C;go_wp2;go_ret;rw[d.out,<-Qu];exact⟨rfl,f.trans ((p.mono f.size).trans (C.mono (aA f.size p.size)))⟩
  .by_cases B:how=2;focus
    have b:=k B;have m:Hid (∀w,Cw 173 #[.string ⟨#[32]⟩,Iq (M-c)] w λe w'=>e=Rw (.string ⟨X.toArray⟩)/\Bq w w'):=by intro w;rw[y.out,<-b];exact g w
    have o:Hid (∀w,Cw 173 #[.string ⟨#[32]⟩,Iq 0] w λe w'=>e=Rw (.string ⟨Y.toArray⟩)/\Bq w w'):=by intro w;have:=i w;rw[show((n-a:Nat):Int)=0 by omega]at this;exact this
    clear j k l b z g i;subst B
   rotate_left;focus
    have b:=l A B;have m:Hid (∀w,Cw 173 #[.string ⟨#[32]⟩,Iq 0] w λe w'=>e=Rw (.string ⟨X.toArray⟩)/\Bq w w'):=by intro w;have:=g w;rw[show(a:Int)=0 by omega]at this;exact this
    have o:Hid (∀w,Cw 173 #[.string ⟨#[32]⟩,Iq (M-c)] w λe w'=>e=Rw (.string ⟨Y.toArray⟩)/\Bq w w'):=by intro w;have:=i w;rw[show((n-a:Nat):Int)=M-c by omega]at this;exact this
    have g1:=A;have g2:=B;clear j k l b z g i
   rotate_left;all_goals go_wp2_with fail;refine Ut (m _) ?_;rintro w2 p;go_wp2_with fail;refine Ut (o _) ?_;rintro w3 C;go_wp2;go_ret;rw[d.out,<-Qu];exact⟨rfl,f.trans ((p.mono f.size).trans (C.mono (aA f.size p.size)))⟩
