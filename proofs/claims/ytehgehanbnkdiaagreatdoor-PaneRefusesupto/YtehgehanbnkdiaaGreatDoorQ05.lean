import Derived.Test.YtehgehanbnkdiaaGreatDoorQ00
import Derived.Test.YtehgehanbnkdiaaGreatDoorRows
import Derived.WalkSpells
import Derived.WalkLawsBesides
import Derived.BigQuiet
import Derived.Deep.OwnRows
set_option linter.all false
set_option maxRecDepth 100000
set_option maxHeartbeats 16000000
namespace Go.Proofs.YtehgehanbnkdiaaGreatDoor
open Go.RowKit Go.Proofs.Tryz
def aO(W:AT)(blk off:Nat)(d:zzc):Prop:=blk<W.heap.size/\∀j,j<d.length->W.cell? (aq blk (off+j))=some (Iq (d[j]?.getD 0))/\W.frozen? (aq blk (off+j))=false
theorem cT(W:AT)r:W.grownBy W r:=⟨rfl,rfl,rfl,LE,λ_ _ _=>rfl⟩
def grown_trans{A B C:AT}{b}(h:A.grownBy B (some b))(k:B.grownBy C (some b)):A.grownBy C (some b):=
 ⟨k.os.trans h.os,k.tape.trans h.tape,k.output.trans h.output,aA h.size k.size,λi hi a=>(k.block i (zz006 hi h.size) a).trans (h.block i hi a)⟩
def grown_below{A B}{b}(h:Bq A B):A.grownBy B (some b):=⟨h.os,h.tape,h.output,h.size,λi hi _=>h.block i hi⟩
def dI(W:AT)a i v:W.grownBy (W.setCell (aq a i) v) (some a):=
 ⟨rfl,rfl,rfl,At,λk _ b=>heap_setCell_other _ _ _ _ (λe=>b (by rw[e]))⟩
def vg(W:AT)n r:W.grownBy (W.drewN n) r:=⟨rfl,rfl,rfl,LE,λ_ _ _=>rfl⟩
def aO.below{A B}{a off}{d}(h:aO A a off d)(b:Bq A B):aO B a off d:=
 ⟨zz006 h.1 b.size,λj c=>⟨(b.cell (p:=(aq a (off+j))) h.1).trans (h.2 j c).1,(b.frozen (p:=(aq a (off+j))) h.1).trans (h.2 j c).2⟩⟩
def aO.drewN{A}{a off}{d}(h:aO A a off d)n:aO (A.drewN n) a off d:=h
def dX{A B:AT}{b}(h:A.grownBy B (some b)):A.grownBy B.drew (some b):=⟨h.os,h.tape,h.output,h.size,h.block⟩
def swp(d:zzc)(i j:Nat):List Int:=(d.set i (d[j]?.getD 0)).set j (d[i]?.getD 0)
theorem lh d i j:(swp d i j).length=d.length:=by simp[swp]
theorem AA d i j k(hi:i<d.length)(a:j<d.length):(swp d i j)[k]?.getD 0=if k=j then d[i]?.getD 0 else if k=i then d[j]?.getD 0 else d[k]?.getD 0:=by grind[swp]
def jL{W}{a off}{d}(h:aO W a off d)i j(hi:i<d.length)(l:j<d.length):
 aO ((W.setCell (aq a (off+i)) (Iq (d[j]?.getD 0))).setCell (aq a (off+j)) (Iq (d[i]?.getD 0))) a off (swp d i j):=by
 refine⟨by simpa using h.1,λk g=>?_⟩;rw[lh]at g;simp only[eS];refine⟨?_,(h.2 k g).2⟩;rw[AA d i j k hi l];have c:=(h.2 k g).1;by_cases f:k=j
 .subst f;rw[if_pos rfl];refine nO _ _ _ ?_;by_cases b:i=k;.subst b;rw[nO _ _ _ (by rw[c];rfl)];rfl
  .rw[cu _ _ _ _ (λe=>b rn),c];rfl
 .rw[if_neg f,cu _ _ _ _ (λe=>f rn)];by_cases b:k=i;.subst b;rw[if_pos rfl];exact nO _ _ _ (by rw[c];rfl)
  .rw[if_neg b,cu _ _ _ _ (λe=>b (by injection e with m n;omega)),c]
def oy(d:zzc)(a b:Nat):Nat->List Int
 |0=>d
 |k+1=>swp (oy d a b k) (a+k) (b+k)
theorem fw d a b:∀k,(oy d a b k).length=d.length
 |0=>rfl
 |k+1=>by rw[oy,lh,fw d a b k]
theorem Cb d a b:∀k t,a+k<=b->b+k<=d.length->(oy d a b k)[t]?.getD 0=if a<=t/\t<a+k then d[b+(t-a)]?.getD 0 else if b<=t/\t<b+k then d[a+(t-b)]?.getD 0 else d[t]?.getD 0
 |0,t,_,_=>by rw[if_neg dg,if_neg dg];rfl
 |k+1,t,c,e=>by have f:=λt=>Cb d a b k t dg dg;grind[fw,swp,oy,AA]
theorem r_{d e:zzc}(a:d.length=e.length)(h:∀t,t<d.length->d[t]?.getD 0=e[t]?.getD 0):d=e:=by apply List.ext_getElem a;grind
theorem fN(x y:zzc)t:(x++y)[t]?.getD 0=if t<x.length then x[t]?.getD 0 else y[t-x.length]?.getD 0:=rn
theorem sE P X M Y S(h:X.length=Y.length):oy (P++X++M++Y++S) P.length (P.length+X.length+M.length) X.length=P++Y++M++X++S:=by refine r_ (by grind[fw]) λt a=>?_;grind[fw,Cb,fN]
def rq(d:zzc)(c off m a b k:Nat)(z:Fd)(w:AT)(h:aO w c off d)(A:a+k<=b)(G:b+k<=d.length)(o:d.length<=1099511627776):
 Cw 380 #[.slice (some (aq c off)) d.length m,Iq a,Iq b,Iq k,z] w λe w'=>e=Rw (.tuple #[])/\aO w' c off (oy d a b k)/\w.grownBy w' (some c):=by
 have v:=qH<|h;go_enter func380,ntmps380;go_wp2;go_loopw[10] (λi wr=>∃j:Nat,j<=k/\i=Iq j/\Hid (aO wr c off (oy d a b j))/\Hid (w.grownBy wr (some c))) (λi _=>k-(intOf i).toNat);.exact⟨0,LT,rfl,v,cT _ _⟩
 obtain⟨j,H,rfl,f,g⟩:=hrel;by_cases C:j<k
 .have l:(j:Int)<(k:Int):=dg;have B:=fw d a b j;obtain⟨p,r⟩:=af (a+j);obtain⟨q,s⟩:=af (b+j);have D:(a:Int)+(j:Int)=(p:Int):=dg;have E:(b:Int)+(j:Int)=(q:Int):=dg;obtain⟨x,n⟩:=af ((oy d a b j)[p]?.getD 0);obtain⟨y,hy⟩:=af ((oy d a b j)[q]?.getD 0);have F:wr.cell? (aq c (off+p))=some (Iq x):=by rw[<-n];exact(f.2 p dg).1
  have f0:=(f.2 p dg).2;have c1:wr.cell? (aq c (off+q))=some (Iq y):=by rw[<-hy];exact(f.2 q dg).1
  have f1:=(f.2 q dg).2;have u:Hid (aO ((wr.setCell (aq c (off+p)) (Iq y)).setCell (aq c (off+q)) (Iq x)) c off (oy d a b (j+1))):=by have:=jL f p q dg dg;rw[n,hy]at this;show aO _ _ _ (swp (oy d a b j) (a+j) (b+j));rw[r,s];exact this
  have t:Hid (w.grownBy ((wr.setCell (aq c (off+p)) (Iq y)).setCell (aq c (off+q)) (Iq x)) (some c)):=
   grown_trans g (grown_trans (dI _ _ _ _) (dI _ _ _ _));clear B n hy r s f g;go_wp2;go_big_region;go_wp2;go_roundw;.exact⟨j+1,dg,by go_num,u,dX t⟩
  .simp[intOf];omega
 .have l:¬(j:Int)<(k:Int):=dg;obtain rfl:j=k:=dg;go_wp2;go_end0;exact⟨rfl,f,g⟩
def mX(P X M Y S:zzc)d(hd:d=P++X++M++Y++S)n a b k(o:d.length=n)(j:P.length=a)(l:P.length+X.length+M.length=b)(m:X.length=k)(p:Y.length=k)c off f i w(h:aO w c off d)(g:n<=1099511627776):
 Cw 380 #[.slice (some (aq c off)) n f,Iq a,Iq b,Iq k,i] w λe w'=>e=Rw (.tuple #[])/\aO w' c off (P++Y++M++X++S)/\w.grownBy w' (some c):=by subst hd o j l m;have:=rq (P++X++M++Y++S) c off f P.length (P.length+X.length+M.length) X.length i w h dg rn g;grind[sE]
def Af(P A B S:zzc)(a off g:Nat)(v:Fd)(w:AT)(h:aO w a off (P++A++B++S))(hA:0<A.length)(hB:0<B.length)(k:(P++A++B++S).length<=1099511627776):
 Cw 379 #[.slice (some (aq a off)) (P++A++B++S).length g,Iq P.length,Iq ((P.length+A.length:Nat):Int),Iq ((P.length+A.length+B.length:Nat):Int),v] w λe w'=>e=Rw (.tuple #[])/\aO w' a off (P++B++A++S)/\w.grownBy w' (some a):=by
 have HR:=qH<|h;obtain⟨n,V⟩:=af ((P++A++B++S).length);obtain⟨m,hm⟩:=af (P.length+A.length);obtain⟨q,Y⟩:=af (P.length+A.length+B.length);have zi:q<=n:=by rw[<-Y,<-V];simp only[aN];omega
 have zg:(m:Int)-(P.length:Int)=(A.length:Int):=dg;have zj:(q:Int)-(m:Int)=(B.length:Int):=dg;have HN:=qH<|V;rw[V]at k|-;rw[Y,hm];have HM:=qH<|hm;go_enter func379,ntmps379;go_wp2;go_loopw[10,11] (λx y wr=>∃(d c b f:zzc),x=Iq c.length/\y=Iq b.length/\0<c.length/\0<b.length/\d.length+c.length<=m/\m<=d.length+c.length/\m+b.length<=n/\Hid (d++b++c++f=P++B++A++S)/\Hid ((d++c++b++f).length=n)/\Hid (aO wr a off (d++c++b++f))/\Hid (w.grownBy wr (some a))) (λx y _=>(intOf x).toNat+(intOf y).toNat);.grind[cT]
 obtain⟨d,c,b,f,rfl,rfl,O,Q,I,J,T,R,H,t,E⟩:=hrel;obtain⟨i,hi⟩:=af c.length;obtain⟨j,W⟩:=af b.length;have F:=qH<|hi;have u:=qH<|W;rw[hi]at O I J|-;rw[W]at Q T|-;have U:(m:Int)-(i:Int)=(d.length:Int):=dg;obtain⟨p,X⟩:=af d.length;have M:=qH<|X;rw[X]at U I J;by_cases h1:i=j
 .subst h1;have C:Hid (Cw 380 #[.slice (some (aq a off)) n g,Iq p,Iq m,Iq i,v] wr λe w'=>e=Rw (.tuple #[])/\aO w' a off (P++B++A++S)/\wr.grownBy w' (some a)):=by have:=mX d c [] b f (d++c++b++f) At n p m i H M rn F u a off g v wr t k;rw[iP,R.out]at this;exact this
  go_wp2_with fail;refine Ut C ?_;rintro w2 ⟨L,G⟩;have o:=qH<|L;have l:=qH<|grown_trans E G;go_wp2;go_end0;exact⟨rfl,o,l⟩
 .by_cases h2:j<i
  .have N:(j:Int)<(i:Int):=dg;have C:Hid (Cw 380 #[.slice (some (aq a off)) n g,Iq p,Iq m,Iq j,v] wr λe w'=>e=Rw (.tuple #[])/\aO w' a off ((d++b)++c.drop j++c.take j++f)/\wr.grownBy w' (some a)):=by
    have r:(c.take j).length=j:=by have:=F.out;rw[cL];omega
    have s:(c.drop j).length=i-j:=by have:=F.out;rw[dq];omega
    exact mX d (c.take j) (c.drop j) b f (d++c++b++f) (by simp_all) n p m j H M dg r u a off g v wr t k
   have D:Hid ((d++b)++c.take j++c.drop j++f=P++B++A++S):=qH<|by rw[<-R.out,cA (d++b),eT]
   have z:Hid (((d++b)++c.drop j++c.take j++f).length=n):=qH<|by have:=H.out;simp only[aN,cL,dq]at*;omega
   have r:Hid ((c.take j).length=j):=qH<|by have:=F.out;rw[cL];omega
   have s:Hid ((c.drop j).length=i-j):=qH<|by have:=F.out;rw[dq];omega
   have ze:Hid ((d++b).length=p+j):=qH<|by have:=M.out;have:=u.out;rw[aN];omega
   go_wp2_with fail;refine Ut C ?_;rintro w2 ⟨L,G⟩;have o:=qH<|L;have l:=qH<|grown_trans E G;go_wp2;go_roundw;.exact⟨d++b,c.drop j,c.take j,f,rn,by rw[r.out],rn,rn,rn,rn,rn,D,z,o,l⟩
   .simp[intOf];omega
  .have N:¬(j:Int)<(i:Int):=dg;obtain⟨K,zh⟩:∃K:Nat,m+j-i=K:=⟨_,rfl⟩;have Z:(m:Int)+(j:Int)-(i:Int)=(K:Int):=dg;have C:Hid (Cw 380 #[.slice (some (aq a off)) n g,Iq p,Iq K,Iq i,v] wr λe w'=>e=Rw (.tuple #[])/\aO w' a off (d++b.drop (j-i)++b.take (j-i)++(c++f))/\wr.grownBy w' (some a)):=by
    have r:(b.take (j-i)).length=j-i:=by have:=u.out;rw[cL];omega
    have s:(b.drop (j-i)).length=i:=by have:=u.out;rw[dq];omega
    have:=mX d c (b.take (j-i)) (b.drop (j-i)) f (d++c++b++f) (by simp_all) n p K i H M dg F s a off g v wr t k;rw[cA (d++b.drop (j-i)++b.take (j-i))]at this;exact this
   have D:Hid (d++b.take (j-i)++b.drop (j-i)++(c++f)=P++B++A++S):=qH<|by rw[<-R.out,cA d,eT];simp
   have z:Hid ((d++b.drop (j-i)++b.take (j-i)++(c++f)).length=n):=qH<|by have:=H.out;simp only[aN,cL,dq]at*;omega
   have r:Hid ((b.take (j-i)).length=j-i):=qH<|by have:=u.out;rw[cL];omega
   have s:Hid ((b.drop (j-i)).length=i):=qH<|by have:=u.out;rw[dq];omega
   go_wp2_with fail;refine Ut C ?_;rintro w2 ⟨L,G⟩;have o:=qH<|L;have l:=qH<|grown_trans E G;go_wp2;go_roundw;.exact⟨d,b.drop (j-i),b.take (j-i),c++f,by rw[s.out],rn,rn,rn,rn,rn,rn,D,z,o,l⟩
   .simp[intOf];omega
def cl(x:Int):Int:=if x<0 then 0 else if 100000<x then 100000 else x
theorem eO x:0<=cl x/\cl x<=100000:=by grind[cl]
def shClamped_any(x:Int)(w:AT):
 Cw 305 #[Iq x] w λe w'=>e=Rw (Iq (cl x))/\w'=w:=by
 obtain⟨y,hy⟩:=af (cl x);rw[hy];unfold cl at hy;by_cases a:x<0;.rw[if_pos a]at hy;subst hy;have c:x<=0:=dg;go_enter func305,ntmps305;go_wp2;go_ret;simp_all
 .rw[if_neg a]at hy;have c:0<=x:=dg;by_cases b:100000<x;.rw[if_pos b]at hy;subst hy;go_enter func305,ntmps305;go_wp2;go_ret;simp_all
  .rw[if_neg b]at hy;subst hy;have d:x<=100000:=dg;go_enter func305,ntmps305;go_wp2;go_ret;simp_all
def fB(W:AT)(blk off n:Nat)(a b c:zzb):Prop:=blk<W.heap.size/\∀j,j<n->W.cell? (aq blk (off+j*3))=some (Iq (a j))/\W.cell? (aq blk (off+j*3+1))=some (Iq (b j))/\W.cell? (aq blk (off+j*3+2))=some (Iq (c j))
def fB.below{A B}{d off n}{a b c}(h:fB A d off n a b c)(e:Bq A B):fB B d off n a b c:=
 ⟨zz006 h.1 e.size,λj f=>⟨(e.cell (p:=(aq d _)) h.1).trans (h.2 j f).1,(e.cell (p:=(aq d _)) h.1).trans (h.2 j f).2.1,(e.cell (p:=(aq d _)) h.1).trans (h.2 j f).2.2⟩⟩
def fB.grown{A B}{d off n}{a b c}{r}(h:fB A d off n a b c)(e:A.grownBy B (some r))(g:d≠r):fB B d off n a b c:=
 ⟨zz006 h.1 e.size,λj f=>⟨e.cell (h.2 j f).1 rn,e.cell (h.2 j f).2.1 rn,e.cell (h.2 j f).2.2 rn⟩⟩
def fC(mn mx:Int):Int:=if mx<0 then 100000 else if cl mx<cl mn then cl mn else cl mx
theorem jK a b:cl a<=fC a b/\fC a b<=100000:=by have:=eO a;have:=eO b;grind[fC]
def GV:(prog.info? 400).map (λi=>(i.zero,i.size,i.bytes))=some (some (.agg #[Iq 0,Iq 0,Iq 0]),3,24):=pt
def Js:prog.underlying 287=some (.slice 400):=pt
def sA(n:Nat)(f:n<=1099511627776)w:(Instr.makeSlice 287 (Iq (n:Int)) (Iq (n:Int))).run prog w=.ok (Sq w.heap.size n n) (w.alloc (.cells (madeCells #[Iq 0,Iq 0,Iq 0] (n*3)) 400)):=by obtain⟨i,hi,a⟩:=jy.1 GV;simp only[Prod.mk.injEq]at a;obtain⟨d,c,e⟩:=a;have b:=run_make (P:=prog) w 287 400 i _ Js hi d .i64 .i64 n n dg (ie _) rn dg;simp only[iO,c]at b;exact b
def s_(w wr:AT)(B n k:Nat)(a b c:zzb):Prop:=Bq w wr/\B<wr.heap.size/\(∀j,wr.frozen? (aq B j)=false)/\(∀j,j<n*3->∃v,wr.cell? (aq B j)=some v)/\∀j,j<k->wr.cell? (aq B (0+j*3))=some (Iq (cl (a j)))/\wr.cell? (aq B (0+j*3+1))=some (Iq (fC (a j) (b j)))/\wr.cell? (aq B (0+j*3+2))=some (Iq (cl (c j)))
def ua(W:AT)B i j v(h:∃u,W.cell? (aq B i)=some u):(W.setCell (aq B i) v).cell? (aq B j)=if j=i then some v else W.cell? (aq B j):=by
 obtain⟨u,hu⟩:=h;by_cases e:j=i;.subst e;rw[if_pos rfl,nO _ _ _ rn]
 .rw[if_neg e,cu _ _ _ _ (λh=>e rn)]
def IU{w wr}{n k}{a b c}(h:s_ w wr w.heap.size n k a b c)(v:k<n)x y z(g:x=cl (a k))(hy:y=fC (a k) (b k))(i:z=cl (c k)):
 s_ w (((wr.setCell (aq w.heap.size (k*3)) (Iq x)).setCell (aq w.heap.size (k*3+1)) (Iq y)).setCell (aq w.heap.size (k*3+2)) (Iq z)) w.heap.size n (k+1) a b c:=by
 obtain⟨f,s,t,d,u⟩:=h;subst g hy i;have l:∀j,(((wr.setCell (aq w.heap.size (k*3)) (Iq (cl (a k)))).setCell (aq w.heap.size (k*3+1)) (Iq (fC (a k) (b k)))).setCell (aq w.heap.size (k*3+2)) (Iq (cl (c k)))).cell? (aq w.heap.size j)
  =if j=k*3+2 then some (Iq (cl (c k)))else if j=k*3+1 then some (Iq (fC (a k) (b k)))else if j=k*3 then some (Iq (cl (a k)))else wr.cell? (aq w.heap.size j):=by intro j;obtain⟨p,e⟩:=d (k*3) dg;obtain⟨v1,q⟩:=d (k*3+1) dg;obtain⟨v2,r⟩:=d (k*3+2) dg;have m:=λj=>(ua wr w.heap.size (k*3) j (Iq (cl (a k))) ⟨p,e⟩);have o:=λj=>(ua (wr.setCell (aq w.heap.size (k*3)) (Iq (cl (a k)))) w.heap.size (k*3+1) j (Iq (fC (a k) (b k))) ⟨v1,rn⟩);rw[ua _ w.heap.size (k*3+2) j _ ⟨v2,rn⟩,o,m]
 refine⟨?_,?_,?_,?_,?_⟩;.exact((f.setCell LE _).setCell LE _).setCell LE _
 .simp;omega
 .simp_all
 all_goals grind
def yZ{w wr}{n k}{a b c}(h:s_ w wr w.heap.size n k a b c)o:s_ w (wr.alloc o) w.heap.size n k a b c:=by obtain⟨g,f,i,l,m⟩:=h;have d:∀j,(wr.alloc o).cell? (aq w.heap.size j)=wr.cell? (aq w.heap.size j):=λj=>World.cell?_alloc_past o _ _ f;refine⟨g.alloc dg o,by simp;omega,λj=>(World.frozen?_alloc_past o _ _ f).trans (i j),λj e=>by rw[d];exact l j e,λj e=>by rw[d,d,d];exact m j e⟩
def mR{w wr}{n k}{a b c}(h:s_ w wr w.heap.size n k a b c)(d:k<n)o x y z(e:x=cl (a k))(hy:y=fC (a k) (b k))(f:z=cl (c k)):
 s_ w ((((wr.setCell (aq w.heap.size (k*3)) (Iq x)).setCell (aq w.heap.size (k*3+1)) (Iq y)).setCell (aq w.heap.size (k*3+2)) (Iq z)).alloc o) w.heap.size n (k+1) a b c:=
 yZ (IU h d x y z e hy f) o
def y_ w n a b c d t(f:d.size=n*3):s_ w (w.alloc (.cells d t)) w.heap.size n 0 a b c:=by refine⟨No,At,λj=>World.frozen?_alloc_at _ _ _ _ rfl,λj e=>⟨d[j]' dg,?_⟩,λj e=>dg⟩;simp_all
def clampedWants_any(n:Nat)(g off F:Nat)(a b c:zzb)(w:AT)(h:fB w g off n a b c)(Q:n<=1099511627776):
 Cw 304 #[.slice (some (aq g off)) n F] w λe w'=>e=Rw (Sq w.heap.size n n)/\fB w' w.heap.size 0 n (λj=>cl (a j)) (λj=>fC (a j) (b j)) (λj=>cl (c j))/\Bq w w':=by
 have I:=qH<|h;have d:=h.1;clear h;have P:=sA n Q;go_enter func304,ntmps304;go_wp2;go_loopw[13] (λi wr=>∃k:Nat,i=Iq k/\k<=n/\Hid (s_ w wr w.heap.size n k a b c)) (λi _=>n-(intOf i).toNat);.exact⟨0,rfl,LT,y_ w n a b c _ _ (size_madeCells _ _)⟩
 obtain⟨k,rfl,W,u⟩:=hrel;have G:=qH<|shClamped_any;have l:=u.out;by_cases q:k<n
 .have H:(k:Int)<(n:Int):=dg;have B:=I.2 k q;obtain⟨A,v⟩:=af (a k);obtain⟨r,x⟩:=af (b k);obtain⟨J,y⟩:=af (c k);rw[v,x,y]at B;have X:=zz006 d l.1.size;have K:=(l.1.cell (p:=(aq g _)) d).trans B.1;have L:=(l.1.cell (p:=(aq g _)) d).trans B.2.1;have M:=(l.1.cell (p:=(aq g _)) d).trans B.2.2;have R:=l.2.1;have N:=l.2.2.1;obtain⟨Y,T⟩:=l.2.2.2.1 (k*3) dg;obtain⟨v1,U⟩:=l.2.2.2.1 (k*3+1) dg;obtain⟨v2,V⟩:=l.2.2.2.1 (k*3+2) dg;have f:=qH<|v;have s:=qH<|x;have t:=qH<|y;clear B l v x y;by_cases m:r<0
  .have z:¬0<=r:=dg;have E:=qH<|
    λo=>mR u q o _ _ _ (by rw[f.out]) (by unfold fC;rw[s.out,if_pos m]) (by rw[t.out]);go_wp2_with(go_at_call 305;refine Ut (G _ _) ?_;rintro S rfl);go_roundw;.exact⟨k+1,by go_num,dg,E _⟩
   .simp[intOf];omega
  .have z:0<=r:=dg;by_cases C:cl r<cl A;focus
    have D:cl r<=cl A:=dg;have E:=qH<|
     λo=>mR u q o _ _ _ (by rw[f.out]) (by unfold fC;rw[s.out,f.out,if_neg m,if_pos C]) (by rw[t.out])
   rotate_left;focus
    have D:cl A<=cl r:=dg;have E:Hid (∀o,s_ w ((((wr.setCell (aq w.heap.size (k*3)) (Iq (cl A))).setCell (aq w.heap.size (k*3+1)) (Iq (if cl A<cl r then cl r else cl A))).setCell (aq w.heap.size (k*3+2)) (Iq (cl J))).alloc o) w.heap.size n (k+1) a b c):=
     λo=>mR u q o _ _ _ (by rw[f.out]) (by unfold fC;rw[s.out,f.out,if_neg m,if_neg C];omega) (by rw[t.out])
   rotate_left;all_goals
    go_wp2_with(go_at_call 305;refine Ut (G _ _) ?_;rintro S rfl);go_roundw;.exact⟨k+1,by go_num,dg,E _⟩
    .simp[intOf];omega
 .have O:¬(k:Int)<(n:Int):=dg;obtain rfl:k=n:=dg;clear l;go_wp2;go_ret;exact⟨rfl,⟨u.2.1,u.2.2.2.2⟩,u.1⟩
