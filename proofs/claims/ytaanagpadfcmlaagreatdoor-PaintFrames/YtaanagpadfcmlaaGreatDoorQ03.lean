import Derived.Test.YtaanagpadfcmlaaGreatDoorQ00
import Derived.Test.YtaanagpadfcmlaaGreatDoorRows
import Derived.WalkSpells
import Derived.WalkLawsBesides
import Derived.BigQuiet
set_option linter.all false
set_option maxRecDepth 100000
set_option maxHeartbeats 16000000
namespace Go.Proofs.YtaanagpadfcmlaaGreatDoor
open Go.RowKit Go.Proofs.Tryz
def aV(W:World)(blk off:Nat)(d:List Int):Prop:=blk<W.heap.size/\∀j,j<d.length->W.cell? (aj blk (off+j))=some (Iq (d[j]?.getD 0))/\W.frozen? (aj blk (off+j))=false
theorem dx(W:World)r:W.grownBy W r:=⟨rfl,rfl,rfl,ae _,λ_ _ _=>rfl⟩
theorem grown_trans{A B C:World}{b}(h:A.grownBy B (some b))(k:B.grownBy C (some b)):A.grownBy C (some b):=
 ⟨k.os.trans h.os,k.tape.trans h.tape,k.output.trans h.output,aF h.size k.size,λi hi a=>(k.block i (zz007 hi h.size) a).trans (h.block i hi a)⟩
theorem grown_below{A B}{b}(h:Bt A B):A.grownBy B (some b):=⟨h.os,h.tape,h.output,h.size,λi hi _=>h.block i hi⟩
theorem eJ(W:World)a i v:W.grownBy (W.setCell (aj a i) v) (some a):=
 ⟨rfl,rfl,rfl,rn,λk _ b=>heap_setCell_other _ _ _ _ (λe=>b (by rw[e]))⟩
theorem xo(W:World)n r:W.grownBy (W.drewN n) r:=⟨rfl,rfl,rfl,ae _,λ_ _ _=>rfl⟩
theorem aV.below{A B}{a off}{d}(h:aV A a off d)(b:Bt A B):aV B a off d:=
 ⟨zz007 h.1 b.size,λj c=>⟨(b.cell (p:=(aj a (off+j))) h.1).trans (h.2 j c).1,(b.frozen (p:=(aj a (off+j))) h.1).trans (h.2 j c).2⟩⟩
theorem aV.drewN{A}{a off}{d}(h:aV A a off d)n:aV (A.drewN n) a off d:=h
theorem fe{A B:World}{b}(h:A.grownBy B (some b)):A.grownBy B.drew (some b):=⟨h.os,h.tape,h.output,h.size,h.block⟩
def swp(d:List Int)(i j:Nat):List Int:=(d.set i (d[j]?.getD 0)).set j (d[i]?.getD 0)
theorem mA d i j:(swp d i j).length=d.length:=by simp[swp]
theorem CJ d i j k(hi:i<d.length)(a:j<d.length):(swp d i j)[k]?.getD 0=if k=j then d[i]?.getD 0 else if k=i then d[j]?.getD 0 else d[k]?.getD 0:=by grind[swp]
theorem kZ{W}{a off}{d}(h:aV W a off d)i j(hi:i<d.length)(g:j<d.length):
 aV ((W.setCell (aj a (off+i)) (Iq (d[j]?.getD 0))).setCell (aj a (off+j)) (Iq (d[i]?.getD 0))) a off (swp d i j):=by
 refine⟨by simpa using h.1,λk f=>?_⟩;rw[mA]at f;simp only[fI];refine⟨?_,(h.2 k f).2⟩;rw[CJ d i j k hi g];have c:=(h.2 k f).1;by_cases h1:k=j
 ·subst h1;rw[if_pos rfl];refine lP _ _ _ ?_;by_cases b:i=k;·subst b;rw[lP _ _ _ (by rw[c];rfl)];rfl
  ·rw[c_ _ _ _ _ (λe=>b rd),c];rfl
 ·rw[if_neg h1,c_ _ _ _ _ (λe=>h1 rd)];by_cases b:k=i;·subst b;rw[if_pos rfl];exact lP _ _ _ (by rw[c];rfl)
  ·rw[if_neg b,c_ _ _ _ _ (λe=>b (by injection e with l m;omega)),c]
def pJ(d:List Int)(a b:Nat):Nat->List Int
 |0=>d
 |k+1=>swp (pJ d a b k) (a+k) (b+k)
theorem gu d a b:∀k,(pJ d a b k).length=d.length
 |0=>rfl
 |k+1=>by rw[pJ,mA,gu d a b k]
theorem DT d a b:∀k t,a+k<=b->b+k<=d.length->(pJ d a b k)[t]?.getD 0=if a<=t/\t<a+k then d[b+(t-a)]?.getD 0 else if b<=t/\t<b+k then d[a+(t-b)]?.getD 0 else d[t]?.getD 0
 |0,t,_,_=>by rw[if_neg dg,if_neg dg];rfl
 |k+1,t,c,e=>by have f:=λt=>DT d a b k t dg dg;grind[gu,swp,pJ,CJ]
theorem tW{d e:List Int}(a:d.length=e.length)(h:∀t,t<d.length->d[t]?.getD 0=e[t]?.getD 0):d=e:=by apply List.ext_getElem a;grind
theorem gO(x y:List Int)t:(x++y)[t]?.getD 0=if t<x.length then x[t]?.getD 0 else y[t-x.length]?.getD 0:=rd
theorem uj P X M Y S(h:X.length=Y.length):pJ (P++X++M++Y++S) P.length (P.length+X.length+M.length) X.length=P++Y++M++X++S:=by refine tW (by grind[gu]) λt a=>?_;grind[gu,DT,gO]
theorem tc(d:List Int)(c off m a b k:Nat)(v:Value)(w:World)(h:aV w c off d)(z:a+k<=b)(F:b+k<=d.length)(o:d.length<=1099511627776):
 Cw 301 #[.slice (some (aj c off)) d.length m,Iq a,Iq b,Iq k,v] w λe w'=>e=Rw (.tuple #[])/\aV w' c off (pJ d a b k)/\w.grownBy w' (some c):=by
 have u:=qH<|h;go_enter func301,ntmps301;go_wp2;go_loopw[10] (λi wr=>∃j:Nat,j<=k/\i=Iq j/\Hid (aV wr c off (pJ d a b j))/\Hid (w.grownBy wr (some c))) (λi _=>k-(intOf i).toNat);case atStart=>exact⟨0,aR _,rfl,u,dx _ _⟩
 case round=>
  obtain⟨j,G,rfl,f,g⟩:=hrel;by_cases B:j<k
  ·have l:(j:Int)<(k:Int):=dg
   have A:=gu d a b j;obtain⟨p,hp⟩:=ad (a+j);obtain⟨q,r⟩:=ad (b+j);have C:(a:Int)+(j:Int)=(p:Int):=dg;have D:(b:Int)+(j:Int)=(q:Int):=dg;obtain⟨x,n⟩:=ad ((pJ d a b j)[p]?.getD 0);obtain⟨y,hy⟩:=ad ((pJ d a b j)[q]?.getD 0);have E:wr.cell? (aj c (off+p))=some (Iq x):=by rw[<-n];exact(f.2 p dg).1
   have f0:=(f.2 p dg).2;have c1:wr.cell? (aj c (off+q))=some (Iq y):=by rw[<-hy];exact(f.2 q dg).1
   have f1:=(f.2 q dg).2;have t:Hid (aV ((wr.setCell (aj c (off+p)) (Iq y)).setCell (aj c (off+q)) (Iq x)) c off (pJ d a b (j+1))):=by have:=kZ f p q dg dg;rw[n,hy]at this;show aV _ _ _ (swp (pJ d a b j) (a+j) (b+j));rw[hp,r];exact this
   have s:Hid (w.grownBy ((wr.setCell (aj c (off+p)) (Iq y)).setCell (aj c (off+q)) (Iq x)) (some c)):=
    grown_trans g (grown_trans (eJ _ _ _ _) (eJ _ _ _ _));clear A n hy hp r f g;go_wp2;go_big_region;go_wp2;go_roundw;case rel=>exact⟨j+1,dg,by go_num,t,fe s⟩
   case measure=>simp[intOf];omega
  ·have l:¬(j:Int)<(k:Int):=dg
   obtain rfl:j=k:=dg;go_wp2;go_end0;exact⟨rfl,f,g⟩
theorem oD(P X M Y S:List Int)d(hd:d=P++X++M++Y++S)n a b k(o:d.length=n)(j:P.length=a)(l:P.length+X.length+M.length=b)(m:X.length=k)(p:Y.length=k)c off f i w(h:aV w c off d)(g:n<=1099511627776):
 Cw 301 #[.slice (some (aj c off)) n f,Iq a,Iq b,Iq k,i] w λe w'=>e=Rw (.tuple #[])/\aV w' c off (P++Y++M++X++S)/\w.grownBy w' (some c):=by subst hd o j l m;have:=tc (P++X++M++Y++S) c off f P.length (P.length+X.length+M.length) X.length i w h dg rd g;grind[uj]
theorem Cj(P A B S:List Int)(a off g:Nat)(v:Value)(w:World)(h:aV w a off (P++A++B++S))(hA:0<A.length)(hB:0<B.length)(k:(P++A++B++S).length<=1099511627776):
 Cw 292 #[.slice (some (aj a off)) (P++A++B++S).length g,Iq P.length,Iq ((P.length+A.length:Nat):Int),Iq ((P.length+A.length+B.length:Nat):Int),v] w λe w'=>e=Rw (.tuple #[])/\aV w' a off (P++B++A++S)/\w.grownBy w' (some a):=by
 have HR:=qH<|h;obtain⟨n,V⟩:=ad ((P++A++B++S).length);obtain⟨m,hm⟩:=ad (P.length+A.length);obtain⟨q,X⟩:=ad (P.length+A.length+B.length);have ze:q<=n:=by rw[<-X,<-V];simp only[aU];omega
 have zb:(m:Int)-(P.length:Int)=(A.length:Int):=dg;have zg:(q:Int)-(m:Int)=(B.length:Int):=dg;have HN:=qH<|V;rw[V]at k⊢;rw[X,hm];have HM:=qH<|hm;go_enter func292,ntmps292;go_wp2;go_loopw[10,11] (λx y wr=>∃(d c b f:List Int),x=Iq c.length/\y=Iq b.length/\0<c.length/\0<b.length/\d.length+c.length<=m/\m<=d.length+c.length/\m+b.length<=n/\Hid (d++b++c++f=P++B++A++S)/\Hid ((d++c++b++f).length=n)/\Hid (aV wr a off (d++c++b++f))/\Hid (w.grownBy wr (some a))) (λx y _=>(intOf x).toNat+(intOf y).toNat);case atStart=>grind[dx]
 case round=>
  obtain⟨d,c,b,f,rfl,rfl,O,Q,I,J,T,R,H,t,E⟩:=hrel;obtain⟨i,hi⟩:=ad c.length;obtain⟨j,W⟩:=ad b.length;have F:=qH<|hi;have u:=qH<|W;rw[hi]at O I J⊢;rw[W]at Q T⊢;have U:(m:Int)-(i:Int)=(d.length:Int):=dg
  obtain⟨p,hp⟩:=ad d.length;have M:=qH<|hp;rw[hp]at U I J;by_cases h1:i=j
  ·subst h1;have C:Hid (Cw 301 #[.slice (some (aj a off)) n g,Iq p,Iq m,Iq i,v] wr λe w'=>e=Rw (.tuple #[])/\aV w' a off (P++B++A++S)/\wr.grownBy w' (some a)):=by have:=oD d c [] b f (d++c++b++f) rn n p m i H M rd F u a off g v wr t k;rw[jH,R.out]at this;exact this
   go_wp2_with fail;refine C.mono ?_;rintro e Z ⟨rfl,L,G⟩;have o:=qH<|L;have l:=qH<|grown_trans E G;go_wp2;go_end0;exact⟨rfl,o,l⟩
  ·by_cases h2:j<i
   ·have N:(j:Int)<(i:Int):=dg
    have C:Hid (Cw 301 #[.slice (some (aj a off)) n g,Iq p,Iq m,Iq j,v] wr λe w'=>e=Rw (.tuple #[])/\aV w' a off ((d++b)++c.drop j++c.take j++f)/\wr.grownBy w' (some a)):=by
     have r:(c.take j).length=j:=by have:=F.out;rw[b_];omega
     have s:(c.drop j).length=i-j:=by have:=F.out;rw[cL];omega
     exact oD d (c.take j) (c.drop j) b f (d++c++b++f) (by simp_all) n p m j H M dg r u a off g v wr t k
    have D:Hid ((d++b)++c.take j++c.drop j++f=P++B++A++S):=by show _=_;rw[<-R.out,cM (d++b),fy]
    have z:Hid (((d++b)++c.drop j++c.take j++f).length=n):=by show _=_;have:=H.out;simp only[aU,b_,cL]at*;omega
    have r:Hid ((c.take j).length=j):=by show _=_;have:=F.out;rw[b_];omega
    have s:Hid ((c.drop j).length=i-j):=by show _=_;have:=F.out;rw[cL];omega
    have za:Hid ((d++b).length=p+j):=by show _=_;have:=M.out;have:=u.out;rw[aU];omega
    go_wp2_with fail;refine C.mono ?_;rintro e Z ⟨rfl,L,G⟩;have o:=qH<|L;have l:=qH<|grown_trans E G;go_wp2;go_roundw;case rel=>exact⟨d++b,c.drop j,c.take j,f,rd,by rw[r.out],rd,rd,rd,rd,rd,D,z,o,l⟩
    case measure=>simp[intOf];omega
   ·have N:¬(j:Int)<(i:Int):=dg
    obtain⟨K,zc⟩:∃K:Nat,m+j-i=K:=⟨_,rfl⟩;have Y:(m:Int)+(j:Int)-(i:Int)=(K:Int):=dg;have C:Hid (Cw 301 #[.slice (some (aj a off)) n g,Iq p,Iq K,Iq i,v] wr λe w'=>e=Rw (.tuple #[])/\aV w' a off (d++b.drop (j-i)++b.take (j-i)++(c++f))/\wr.grownBy w' (some a)):=by
     have r:(b.take (j-i)).length=j-i:=by have:=u.out;rw[b_];omega
     have s:(b.drop (j-i)).length=i:=by have:=u.out;rw[cL];omega
     have:=oD d c (b.take (j-i)) (b.drop (j-i)) f (d++c++b++f) (by simp_all) n p K i H M dg F s a off g v wr t k;rw[cM (d++b.drop (j-i)++b.take (j-i))]at this;exact this
    have D:Hid (d++b.take (j-i)++b.drop (j-i)++(c++f)=P++B++A++S):=by show _=_;rw[<-R.out,cM d,fy];simp
    have z:Hid ((d++b.drop (j-i)++b.take (j-i)++(c++f)).length=n):=by show _=_;have:=H.out;simp only[aU,b_,cL]at*;omega
    have r:Hid ((b.take (j-i)).length=j-i):=by show _=_;have:=u.out;rw[b_];omega
    have s:Hid ((b.drop (j-i)).length=i):=by show _=_;have:=u.out;rw[cL];omega
    go_wp2_with fail;refine C.mono ?_;rintro e Z ⟨rfl,L,G⟩;have o:=qH<|L;have l:=qH<|grown_trans E G;go_wp2;go_roundw;case rel=>exact⟨d,b.drop (j-i),b.take (j-i),c++f,by rw[s.out],rd,rd,rd,rd,rd,rd,D,z,o,l⟩
    case measure=>simp[intOf];omega
theorem qz(w:World)x y z t:∀j u,[x,y,z][j]?=some u->(w.alloc (.cells #[x,y,z] t)).cell? (((aj w.heap.size 0):Addr).add j)=some u:=by
 intro j u h;have e:((aj w.heap.size 0):Addr).add j=(aj w.heap.size (0+j)):=by unfold Addr.add;split<;>simp_all
 simp_all
