import Derived.Test.YtehgehanbnkdiaaGreatDoorQ00
import Derived.Test.YtehgehanbnkdiaaGreatDoorProg
import Derived.WalkSpells
import Derived.WalkLawsBesides
import Derived.BigQuiet
set_option linter.all false
set_option maxRecDepth 100000
set_option maxHeartbeats 16000000
namespace Go.Proofs.YtehgehanbnkdiaaGreatDoor
open Go.RowKit Go.Proofs.Tryz
def dj(s:BY)(i:Nat):Nat:=if h:i<s.size then s[i].toNat else 256
theorem gY{s}{i}(h:i<s.size):dj s i=s[i].toNat:=by grind[dj]
theorem fm{s}{i}(h:¬i<s.size):dj s i=256:=by grind[dj]
theorem EM{s}{i}(h:i<s.size):dj s i<256:=by rw[gY h];exact UInt8.toNat_lt _
def lL(p:Nat->Bool)(s:BY):Nat->Nat->Nat
 |0,i=>i
 |f+1,i=>if p (dj s i)then lL p s f (i+1)else i
def run(p:Nat->Bool)(s:BY)(i:Nat):Nat:=lL p s (s.size-i) i
theorem pW{p}{s}{i}(hi:i<s.size)(h:p (dj s i)=true):run p s i=run p s (i+1):=by unfold run;obtain⟨f,a⟩:∃f,s.size-i=f+1:=⟨s.size-i-1,dg⟩;rw[a,lL,if_pos h,show s.size-(i+1)=f by omega]
theorem pX{p}{s}{i}(h:p (dj s i)=false):run p s i=i:=by
 unfold run;match s.size-i with
 |0=>rfl
 |f+1=>rw[lL,h];rfl
theorem BA{p}{s}{i}(h:¬i<s.size):run p s i=i:=by unfold run;rw[show s.size-i=0 by omega];rfl
theorem tN p s:∀f i,i<=lL p s f i/\lL p s f i<=i+f
 |0,i=>⟨ad _,ad _⟩
 |f+1,i=>by have:=tN p s f (i+1);grind[lL]
theorem io p s i:i<=run p s i:=(tN p s _ i).1
theorem gu p s i(hi:i<=s.size):run p s i<=s.size:=by grind[tN,run]
theorem wK(p:Nat->Bool)(a:p 256=false)s:∀f i,s.size-i<=f->p (dj s (lL p s f i))=false
 |0,i,h=>by grind[lL,fm]
 |f+1,i,h=>by
  rw[lL];by_cases c:p (dj s i)=true;·rw[if_pos c];exact wK p a s f (i+1) dg
  grind
theorem LP{p:Nat->Bool}(a:p 256=false)s i:p (dj s (run p s i))=false:=wK p a s _ i (ad _)
def blank(x:Nat):Bool:=x==32||x==10
def ap(x:Nat):Bool:=decide (97<=x)&&decide (x<=122)
def aL(x:Nat):Bool:=decide (48<=x)&&decide (x<=57)
def sk(s:BY)(i:Nat):Nat:=run blank s i
theorem fP s i:i<=sk s i:=io _ _ _
theorem f_ s i(h:i<=s.size):sk s i<=s.size:=gu _ _ _ h
theorem nw s i:sk s (sk s i)=sk s i:=pX (LP (by rfl) s i)
structure RS(W:AT)(rb:Nat)(s:BY)(i:Nat)(lv:Fd)(bad er at_ om:Int):Prop where
 lt:rb<W.heap.size
 c0:W.cell? (aq rb 0)=some (.string s)
 c1:W.cell? (aq rb 1)=some (Iq (i:Int))
 c2:W.cell? (aq rb 2)=some lv
 c3:W.cell? (aq rb 3)=some (Iq bad)
 c4:W.cell? (aq rb 4)=some (Iq er)
 c5:W.cell? (aq rb 5)=some (Iq at_)
 c6:W.cell? (aq rb 6)=some (Iq om)
 fz:∀j,W.frozen? (aq rb j)=false
theorem RS.below{W W'}{rb}{s}{i}{lv}{bad c at_ a}(h:RS W rb s i lv bad c at_ a)(b:Bq W W'):RS W' rb s i lv bad c at_ a:=
 have k:∀j v,W.cell? (aq rb j)=some v->W'.cell? (aq rb j)=some v:=λj v e=>(b.cell (p:=(aq rb j)) h.lt).trans e
 ⟨zz006 h.lt b.size,k _ _ h.c0,k _ _ h.c1,k _ _ h.c2,k _ _ h.c3,k _ _ h.c4,k _ _ h.c5,k _ _ h.c6,λj=>(b.frozen (p:=(aq rb j)) h.lt).trans (h.fz j)⟩
theorem RS.drewN{W}{rb}{s}{i}{lv}{bad b at_ a}(h:RS W rb s i lv bad b at_ a)n:RS (W.drewN n) rb s i lv bad b at_ a:=
 ⟨h.lt,h.c0,h.c1,h.c2,h.c3,h.c4,h.c5,h.c6,h.fz⟩
theorem aD{W:AT}{rb j k}{v u}(a:j≠k)(h:W.cell? (aq rb j)=some u):(W.setCell (aq rb k) v).cell? (aq rb j)=some u:=by rw[b_ _ _ _ _ (λe=>a rn)];exact h
theorem eT{W:AT}{rb k}{v u}(h:W.cell? (aq rb k)=some u):(W.setCell (aq rb k) v).cell? (aq rb k)=some v:=
 nA _ _ _ rn
theorem RS.setI{W}{rb}{s}{i}{lv}{bad b at_ a}(h:RS W rb s i lv bad b at_ a)(c:Nat):RS (W.setCell (aq rb 1) (Iq (c:Int))) rb s c lv bad b at_ a:=
 ⟨by simpa using h.lt,aD dg h.c0,eT h.c1,aD dg h.c2,aD dg h.c3,aD dg h.c4,aD dg h.c5,aD dg h.c6,λj=>by rw[eG];exact h.fz j⟩
theorem RS.setBad{W}{rb}{s}{i}{lv}{bad c at_ a}(h:RS W rb s i lv bad c at_ a)b:RS (W.setCell (aq rb 3) (Iq b)) rb s i lv b c at_ a:=
 ⟨by simpa using h.lt,aD dg h.c0,aD dg h.c1,aD dg h.c2,eT h.c3,aD dg h.c4,aD dg h.c5,aD dg h.c6,λj=>by rw[eG];exact h.fz j⟩
theorem RS.setErr{W}{rb}{s}{i}{lv}{bad d at_ a}(h:RS W rb s i lv bad d at_ a)b c:RS ((W.setCell (aq rb 4) (Iq b)).setCell (aq rb 5) (Iq c)) rb s i lv bad b c a:=
 ⟨by simpa using h.lt,aD dg (aD dg h.c0),aD dg (aD dg h.c1),aD dg (aD dg h.c2),aD dg (aD dg h.c3),aD dg (eT h.c4),eT (aD dg h.c5),aD dg (aD dg h.c6),λj=>by rw[eG,eG];exact h.fz j⟩
theorem fX(W:AT)b:W.grownBy W (some b):=⟨rfl,rfl,rfl,ad _,λ_ _ _=>rfl⟩
theorem gr_trans{A B C:AT}{b}(h:A.grownBy B (some b))(k:B.grownBy C (some b)):A.grownBy C (some b):=
 ⟨k.os.trans h.os,k.tape.trans h.tape,k.output.trans h.output,az h.size k.size,λi hi a=>(k.block i (zz006 hi h.size) a).trans (h.block i hi a)⟩
theorem cH(W:AT)b i v:W.grownBy (W.setCell (aq b i) v) (some b):=
 ⟨rfl,rfl,rfl,At,λk _ a=>heap_setCell_other _ _ _ _ (λe=>a (by rw[e]))⟩
theorem a_(W:AT)n b:W.grownBy (W.drewN n) (some b):=⟨rfl,rfl,rfl,ad _,λ_ _ _=>rfl⟩
theorem db{A B}{b}(h:Bq A B):A.grownBy B (some b):=⟨h.os,h.tape,h.output,h.size,λi hi _=>h.block i hi⟩
def rdI(W:AT)(rb:Nat):Nat:=match W.cell? (aq rb 1)with
 |some (.int _ x)=>x.toNat
 |_=>0
theorem RS.rdI{W:AT}{rb:Nat}{s:BY}{i:Nat}{lv:Fd}{bad b at_ a:Int}(h:RS W rb s i lv bad b at_ a):rdI W rb=i:=by unfold Go.Proofs.YtehgehanbnkdiaaGreatDoor.rdI;rw[h.c1];simp
def aR(s:BY)(i:Nat)(c:Nat):Bool:=dj s (sk s i)==c
def ao(s:BY)(i:Nat)(c:Nat):Nat:=if dj s (sk s i)=c then sk s i+1 else sk s i
def oD(w:AT)(v:Fd)(zs:zzc):Prop:=
 ∃a cap,v=.slice a zs.length cap/\(zs=[]\/∃b off,a=some (aq b off)/\b<w.heap.size/\∀j,j<zs.length->w.cell? (aq b (off+j))=some (Iq (zs[j]?.getD 0)))
def Cf(e:Ending):Prop:=∃x,e=Rw (Iq x)
def VY(e:Ending):Prop:=∃x y z u,e=Rw (.agg #[Iq x,Iq y,Iq z,Iq u])
def KB(W:AT)(g n:Nat)(P:Nat->Fd->Prop):Prop:=g<W.heap.size/\∀j,j<n->W.frozen? (aq g j)=false/\∃x,W.cell? (aq g j)=some x/\P j x
theorem KB.of{W W':AT}{g n:Nat}{P:Nat->Fd->Prop}(h:KB W g n P)(c:W.heap.size<=W'.heap.size)(a:W'.heap[g]?=W.heap[g]?):KB W' g n P:=by refine⟨zz006 h.1 c,λj b=>?_⟩;rw[aO (w:=W) a,ji (w:=W) a];exact h.2 j b
theorem KB.below{W W':AT}{g n:Nat}{P:Nat->Fd->Prop}(h:KB W g n P)(a:Bq W W'):KB W' g n P:=h.of a.size (a.block g h.1)
theorem KB.set{W:AT}{g n:Nat}{P:Nat->Fd->Prop}(h:KB W g n P)(b o:Nat)(x:Fd)(k:b=g->P o x):KB (W.setCell (aq b o) x) g n P:=by
 refine⟨by simpa[World.setCell]using h.1,λj f=>?_⟩;obtain⟨c,y,a,d⟩:=h.2 j f;refine⟨by simpa using c,?_⟩;by_cases e:((aq b o):Addr)=(aq g j)
 ·obtain⟨rfl,rfl⟩:b=g/\o=j:=by simpa using e
  exact⟨x,jY _ _ _ a,k rfl⟩
 ·exact⟨y,by rw[b_ _ _ _ _ e];exact a,d⟩
theorem KB.make(w:AT)(n T:Nat)(z:Fd){P:Nat->Fd->Prop}(b:∀j,P j z):KB (w.alloc (.cells (madeCells #[z] n) T)) w.heap.size n P:=by refine⟨At,λj a=>⟨At,z,?_,b j⟩⟩;rw[World.cell?_alloc_at _ _ _ _ rfl];simp[madeCells,a,Nat.mod_one]
def KZ(_:Nat)(v:Fd):Prop:=∃x,v=Iq x
def KR(W:AT)(B:Nat)(e:TypeId)(s:Nat)(v:Fd)(n:Nat)(P:Nat->Fd->Prop):Prop:=∃xs,W.ownsRow B e s v n xs/\∀j u,xs[j]?=some u->P j u
theorem KR.nil(W:AT)(B:Nat)(e:TypeId)(s:Nat)(P:Nat->Fd->Prop):KR W B e s (.slice none 0 0) 0 P:=⟨[],ga _ _ _ _,λj u h=>by simp at h⟩
theorem KR.kb{W:AT}{B s n:Nat}{e:TypeId}{v:Fd}{P:Nat->Fd->Prop}(h:KR W B e s v n P)(A:0<n):∃g a,v=Sq g n a/\B<=g/\KB W g (n*s) P:=by
 obtain⟨l,h,f⟩:=h;have t:=h.1;rcases h.2 with⟨_,m⟩|⟨g,a,c,rfl,d,b,o,p,q,r⟩;·omega
 refine⟨g,a,rfl,d,(aj.1 b).1,λj k=>⟨frozen_of_row _ _ _ _ _ b,l[j],?_,f j _ (cW _)⟩⟩;rw[h.cellAt j k];exact cW _
theorem KR.below{W W':AT}{B s n:Nat}{e:TypeId}{v:Fd}{P:Nat->Fd->Prop}(h:KR W B e s v n P)(m:Bq W W'):KR W' B e s v n P:=by
 obtain⟨o,h,l⟩:=h;refine⟨o,⟨h.1,?_⟩,l⟩;rcases h.2 with k|⟨g,cap,f,a,b,c,d⟩;·exact .inl k
 ·exact .inr ⟨g,cap,f,a,b,by rw[m.block g (aj.1 c).1];exact c,d⟩
theorem On{P}{A}{rest}{o}{a}{Q}{W0 w}{e}{i}{z v}{size bytes n B}{K:Nat->Fd->Prop}(hi:P.info? e=some i)(hz:i.zero=some z)(g:i.size=size)(H:i.bytes=bytes)(r:KR w B e size v n K)(G:Below B W0 w)(J:B<=w.heap.size)(c:List Fd){t R}(I:o.guard=none)s x(Z:o.op=.call {callee:=.builtin .append,args:=#[s,x],argTypes:=#[t,t]})(ht:P.underlying t=some (.slice e))(k:z.cells.size=size/\0<size/\0<bytes)(hs:a.eval s=v){m:Nat}(hx:a.eval x=Sq m 1 1)(Y:w.heap.size=m)(O:c.length=1*size/\(c.all λu=>u.oneCell')=true)(d:(n+1)*bytes<=140737488355328)(V:∀j u,c[j]?=some u->K (n*size+j) u)(h:∀D w',KR w' B e size D (n+1) K->Below B W0 w'->(∀b,b<w.heap.size->v.ownBlock≠some b->w'.heap[b]?=w.heap[b]?)/\(∀b,D.ownBlock=some b->v.ownBlock=some b\/w.heap.size<=b)->wpList P A Q rest (a.put o.dst D) w'):wpList P A Q (o::rest) a (w.alloc (.cells c.toArray R)):=by
 obtain⟨S,f,X⟩:=r;subst Y;have hn:=az (II _ k.2.2) d;refine wpList_append_own_at _ I s x t Z B e i z size bytes ht hi hz g H k.1 k.2.1 v n S hs (f.alloc _) (aq w.heap.size 0) 1 1 c hx O.1 (jC w c R) (λu hu=>xi.1 O.2 u hu) (by unfold maxLen;omega) d (by rw[ai];omega) λD w' U M _ p=>h D w' ⟨_,U,λj u hu=>?_⟩ ?_ ⟨λb E F=>?_,λb d=>?_⟩
 ·by_cases N:j<S.length;·rw[xj N]at hu;exact X j u hu
  ·rw[xk dg]at hu;have:=V _ u hu;rw[f.1]at this N;rwa[show n*size+(j-n*size)=j by omega]at this
 ·exact(G.alloc J _).grown M (by rw[ai];omega) λq hq=>(f.lt q hq).1
 ·rw[M.block b (by rw[ai];omega) (λe=>F e.symm),bB _ _ _ E]
 ·rw[ai]at p;rcases p with p|p<;>rw[p]at d;·exact .inl d
  ·injection d with d;exact .inr dg
theorem yp{P}{p}{rest}{o}{a}{Q}{W0 w}{e}{i}{z v}{size bytes n}{K:Nat->Fd->Prop}(hi:P.info? e=some i)(O:i.zero=some z)(f:i.size=size)(r:i.bytes=bytes)(l:KR w W0.heap.size e size v n K)(k:Bq W0 w)(d:List Fd){t R}(A:o.guard=none)s x(I:o.op=.call {callee:=.builtin .append,args:=#[s,x],argTypes:=#[t,t]})(M:P.underlying t=some (.slice e))(D:z.cells.size=size/\0<size/\0<bytes)(J:a.eval s=v){m:Nat}(N:a.eval x=Sq m 1 1)(H:w.heap.size=m)(G:d.length=1*size/\(d.all λu=>u.oneCell')=true)(F:(n+1)*bytes<=140737488355328)(E:∀j u,d[j]?=some u->K (n*size+j) u)(h:∀q w',KR w' W0.heap.size e size q (n+1) K->Bq W0 w'->(∀b,b<w.heap.size->v.ownBlock≠some b->w'.heap[b]?=w.heap[b]?)->wpList P p Q rest (a.put o.dst q) w'):wpList P p Q (o::rest) a (w.alloc (.cells d.toArray R)):=On hi O f r l k k.size d A s x I M D J N H G F E λq w' a b c=>h q w' a b c.1
theorem KR.own{W:AT}{B s n:Nat}{e:TypeId}{v:Fd}{P:Nat->Fd->Prop}(h:KR W B e s v n P){b:Nat}(a:W.heap.size<=b):v.ownBlock≠some b:=λq=>by obtain⟨c,h,_⟩:=h;have:=(h.lt b q).2;omega
theorem nb{b:Bool}(h:(!b)=false):b=true:=by simpa using h
theorem gP(n:Int):wrap64 n<=9223372036854775807:=by unfold wrap64;omega
theorem below_drewN{B:Nat}{w w':AT}(h:Below B w w')(n:Nat):Below B w (w'.drewN n):=⟨h.os,h.tape,h.output,h.size,h.block⟩
theorem vf:(prog.info? 3).map (λi=>(i.zero,i.size,i.bytes))=some (some (Iq 0),1,8):=pt
theorem Ot{K:Nat->Fd->Prop}{n:Nat}{x:Fd}(h:K n x):∀j u,[x][j]?=some u->K (n*1+j) u:=λj u a=>by
 match j,a with
 |0,a=>simp at a;subst a;simpa using h
def KV(W:AT)(T s m:Nat)(K:Nat->Fd->Prop)(e:Ending)(w':AT):Prop:=∃v n,e=Rw v/\n<=m/\KR w' W.heap.size T s v n K
theorem KR.sl{W:AT}{B s n:Nat}{e:TypeId}{v:Fd}{P:Nat->Fd->Prop}(h:KR W B e s v n P):∃p a,v=.slice p n a/\(0<n->∃g,p=some (aq g 0)/\B<=g/\KB W g (n*s) P):=by
 obtain⟨o,f,_⟩:=id h;rcases f.2 with⟨rfl,rfl⟩|⟨g,a,_,rfl,m,_⟩;·exact⟨none,0,rfl,λh=>dg⟩
 ·refine⟨_,a,rfl,λl=>?_⟩;obtain⟨c,b,e,d,k⟩:=h.kb l;obtain⟨rfl,rfl⟩:g=c/\a=b:=by simpa using e
  exact⟨g,rfl,d,k⟩
theorem KR.base{W:AT}{B k s n:Nat}{e:TypeId}{v:Fd}{P:Nat->Fd->Prop}(h:KR W B e s v n P)(m:k<=B):KR W k e s v n P:=by
 obtain⟨p,h,o⟩:=h;refine⟨p,⟨h.1,?_⟩,o⟩;rcases h.2 with l|⟨g,cap,f,a,b,c,d⟩;·exact .inl l
 ·exact .inr ⟨g,cap,f,a,az m b,c,d⟩
def oC(kids:Nat->List Nat):Nat->Nat->List Nat
 |0,_=>[]
 |f+1,k=>k::(kids k).flatMap (oC kids f)
def xa(up:zzb):Nat->Int->Int
 |0,x=>x
 |t+1,x=>up (xa up t x).toNat
structure sM(n:Nat)(kids:Nat->List Nat)(up:zzb):Prop where
 kid:∀i c,i<n->c∈kids i->i<c/\c<n/\up c=(i:Int)
 nd:∀i,i<n->(kids i).Nodup
 upl:∀i,i<n->up i<(i:Int)
 lo:∀i,i<n->-1<=up i
section
variable{n:Nat} {kids:Nat->List Nat} {up:zzb}
theorem tU s x:∀t,xa up (s+t) x=xa up t (xa up s x)
 |0=>rfl
 |t+1=>by show up (xa up (s+t) x).toNat=up (xa up t (xa up s x)).toNat;rw[tU s x t]
theorem Ix(h:sM n kids up)(d:0<n):∀  t  (x:Int),-1<=x->x<n->-1<=xa up t x/\xa up t x<=x
 |0,x,a,b=>⟨a,gR _⟩
 |t+1,x,a,b=>by
  obtain⟨g,k⟩:=Ix h d t x a b;show-1<=up (xa up t x).toNat/\up (xa up t x).toNat<=x;have c:(xa up t x).toNat<n:=dg;have e:=h.lo _ c;have f:=h.upl _ c;omega
theorem qj(h:sM n kids up):∀  f k,k<n->∀j,j∈oC kids f k->k<=j/\j<n/\∃t,xa up t (j:Int)=(k:Int)
 |0,k,b,j,a=>by cases a
 |f+1,k,b,j,a=>by
  rcases jX.1 a with e|a;·subst e;exact⟨ad _,b,0,rfl⟩
  ·obtain⟨c,d,a⟩:=List.mem_flatMap.1 a;obtain⟨c1,c2,c3⟩:=h.kid k c b d;obtain⟨d1,d2,t,g⟩:=qj h f c c2 j a;refine⟨dg,d2,t+1,?_⟩;grind[xa]
theorem D_(h:sM n kids up){f k c d}(l:k<n)(q:c∈kids k)(hd:d∈kids k)(a:c≠d){j}(o:j∈oC kids f c)(p:j∈oC kids f d):False:=by
 obtain⟨c1,c2,c3⟩:=h.kid k c l q;obtain⟨d1,d2,d3⟩:=h.kid k d l hd;obtain⟨_,_,s,m⟩:=qj h f c c2 j o;obtain⟨_,_,t,b⟩:=qj h f d d2 j p;have E:0<n:=dg;have G:∀(c d:Nat) (s t:Nat),c≠d->up c=(k:Int)->k<d->c<n->xa up s (j:Int)=(c:Int)->xa up t (j:Int)=(d:Int)->s<=t->False:=λc d s t a g D A m b F=>by
  obtain⟨r,rfl⟩:∃r,t=s+r:=⟨t-s,dg⟩;rw[tU,m]at b;cases r with
  |zero=>exact a (IJ b)
  |succ r=>
   rw[Nat.add_comm r 1,tU]at b;have e:xa up 1 (c:Int)=(k:Int):=by show up ((c:Int)).toNat=_;exact g
   rw[e]at b;have:=(Ix h E r (k:Int) dg dg).2;omega
 grind
theorem sd(h:sM n kids up):∀  f k,k<n->(oC kids f k).Nodup
 |0,k,l=>List.nodup_nil
 |f+1,k,l=>by
  show(k::(kids k).flatMap (oC kids f)).Nodup;refine List.nodup_cons.2 ⟨λq=>?_,?_⟩;·obtain⟨c,g,r⟩:=List.mem_flatMap.1 q;obtain⟨c1,c2,c3⟩:=h.kid k c l g;have:=(qj h f c c2 k r).1;omega
  ·have m:∀d:List Nat,(∀c∈d,c∈kids k)->d.Nodup->(d.flatMap (oC kids f)).Nodup:=by
    intro d;induction d with
    |nil=>grind
    |cons c d A=>intro o p;rw[List.flatMap_cons];obtain⟨G,D⟩:=List.nodup_cons.1 p;have g:=o c (xl ..);obtain⟨c1,c2,c3⟩:=h.kid k c l g;refine IK.2 ⟨sd h f c c2,A (λx t=>o x (BR _ t)) D,λa E b F e=>?_⟩;grind[D_]
   exact m (kids k) (λ_ g=>g) (h.nd k l)
theorem jE:∀  n  (l:zzh),l.Nodup->(∀x∈l,x<n)->l.length<=n
 |0,l,_,h=>by
  cases l with
  |nil=>grind
  |cons a l=>exact absurd (h a (xl ..)) dg
 |n+1,l,hd,h=>by
  by_cases b:n∈l;·have d:=List.length_erase_of_mem b;have e:=jE n (l.erase n) (hd.erase n) (λx c=>rn);omega
  ·have:=jE n l hd (λx c=>rn);omega
theorem Mh(h:sM n kids up)f k(a:k<n):(oC kids f k).length<=n:=jE n _ (sd h f k a) λx b=>(qj h f k a x b).2.1
end
theorem Bz:∀b:List Nat,(∀k c d,b[k]?=some c->b[k+1]?=some d->c<d)->b.Pairwise (·<·)
 |[],_=>.nil
 |[x],_=>At
 |x::y::r,h=>by
  have f:=Bz (y::r) (λk c d g l=>h (k+1) c d g l);have m:=h 0 x y rfl rfl;refine List.Pairwise.cons (λz a=>?_) f;rcases jX.1 a with e|a;·omega
  ·have:=List.rel_of_pairwise_cons f a;omega
theorem yP{a:zzh}(h:∀k c d,a[k]?=some c->a[k+1]?=some d->c<d):a.Nodup:=
 (Bz a h).imp (λh e=>dg)
def GX(s:BY)(i c:Nat)(bad:Int):Int:=if aR s i c then bad else(sk s i:Int)
def TH(er at_ e a:Int):Int:=if at_<0\/a<at_ then e else er
def TF(at_ a:Int):Int:=if at_<0\/a<at_ then a else at_
def ID(s:BY)(i:Nat)(bad:Int):Int:=if run ap s (sk s i)=sk s i then(sk s i:Int)else bad
theorem Ac{a b:BY}(h:¬a=b):(a.toList==b.toList)=false:=by rw[beq_eq_false_iff_ne];intro e;rw[ByteArray.toList_eq,ByteArray.toList_eq]at e;exact h (jZ (Array.toList_inj.1 e))
def aE:List BY->BY->Nat->Int
 |[],_,_=>-1
 |a::r,x,k=>if a=x then(k:Int)else aE r x (k+1)
theorem lj x:∀  b   k,aE b x k=-1\/((k:Int)<=aE b x k/\aE b x k<(k:Int)+b.length)
 |[],k=>.inl rfl
 |a::r,k=>by
  unfold aE;by_cases e:a=x;·grind
  ·simp only[e,if_false];rcases lj x r (k+1)with h|h;all_goals grind
def dv(s:BY)(j:Nat):Nat->Int
 |0=>0
 |c+1=>if c<6 then 10*dv s j c+((dj s (j+c):Int)-48)else dv s j c
theorem uF s j:∀c,(∀t,t<c->48<=dj s (j+t)/\dj s (j+t)<=57)->0<=dv s j c/\dv s j c<=999999/\(c<=5->dv s j c<=99999)/\(c<=4->dv s j c<=9999)/\(c<=3->dv s j c<=999)/\(c<=2->dv s j c<=99)/\(c<=1->dv s j c<=9)/\(c=0->dv s j c=0)
 |0,_=>by simp[dv]
 |c+1,h=>by have b:=uF s j c (λt a=>h t dg);grind[dv]
theorem oA{p}s:∀f i t,lL p s f i>i+t->p (dj s (i+t))=true
 |0,i,t,h=>by grind[lL]
 |f+1,i,t,h=>by
  rw[lL]at h;by_cases c:p (dj s i)=true;·rw[if_pos c]at h;match t with
   |0=>exact c
   |t+1=>have:=oA (p:=p) s f (i+1) t dg;grind
  grind
def Ll(s:BY)(j k:Nat)(bad:Int):Int:=if k=j\/j+6<k\/(j+1<k/\dj s j=48)then(j:Int)else bad
def qF(s:BY):Nat->Nat->List UInt8->Except Nat (Nat×List UInt8)
 |0,p,_=>.error p
 |f+1,p,acc=>
  if dj s p=256 then .error p
  else if dj s p=34 then .ok (p+1,acc)
  else if dj s p=92 then
   if dj s (p+1)=34\/dj s (p+1)=92 then qF s f (p+2) (acc++[(dj s (p+1)).toUInt8])
   else if dj s (p+1)=110 then qF s f (p+2) (acc++[10])
   else .error (p+1)
  else qF s f (p+1) (acc++[(dj s p).toUInt8])
def jJ(s:BY)(i:Nat):Except Nat (Nat×List UInt8):=if aR s i 34 then qF s (s.size+2) (ao s i 34) []else .error (sk s i)
def dt:List BY:=[⟨#[114,111,119]⟩,⟨#[99,111,108]⟩,⟨#[115,116,97,99,107]⟩,⟨#[98,111,120]⟩,⟨#[115,99,114,111,108,108]⟩,⟨#[116,101,120,116]⟩,⟨#[103,97,112]⟩]
def cm:List BY:=[⟨#[105,100]⟩,⟨#[109,105,110]⟩,⟨#[109,97,120]⟩,⟨#[119,101,105,103,104,116]⟩,⟨#[103,97,112]⟩,⟨#[112,97,100]⟩,⟨#[98,111,114,100,101,114]⟩,⟨#[97,108,105,103,110]⟩,⟨#[119,114,97,112]⟩,⟨#[102,103]⟩,⟨#[98,103]⟩,⟨#[98,111,108,100]⟩]
def iX:List Int:=[999999,100000,100000,100000,100,20,1,2,1,8,8,1]
def aN:List Int:=[0,0,-1,1,0,0,1,0,1,0,0,0]
def iY(kind attr:Nat):Bool:=if attr=4 then(kind==0||kind==1)else if attr=5\/attr=6 then kind==3 else if attr=7\/attr=8 then kind==5 else true
structure Nd where
 kind:Nat
 attr:List Int
 text:List UInt8
 kids:List Nat
 up:Int
abbrev zza:=List Nd
abbrev fA:=Option (Nat×Nat)
def gA(f:fA)(c p:Nat):fA:=match f with
 |none=>some (c,p)
 |some x=>some x
def dl(b:Bool)(f:fA)(c p:Nat):fA:=if b then gA f c p else f
structure PS where
 i:Nat
 L:List Nd
 er:fA
def dV(s:BY)(i c:Nat):Except Nat Nat:=if aR s i c then .ok (ao s i c)else .error (sk s i)
def ie(s:BY)(j k:Nat):Bool:=decide (k=j\/j+6<k\/(j+1<k/\dj s j=48))
def jP(L:zza)(n:Int):Bool:=L.any λd=>d.attr[0]?.getD 0==n
def fD(s:BY)(kind:Nat)(L:zza)(i:Nat)(er:fA)(a:zzc)(seen:zzh):Except Nat (Nat×fA×List Int×List Nat):=
 let at_:=sk s i
 let k:=run ap s at_
 if k=at_ then .error at_ else
 match dV s k 61 with
 |.error b=>.error b
 |.ok i2=>
  let j:=sk s i2
  let e:=run aL s j
  if ie s j e then .error j else
  let n:=dv s j (e-j)
  let ix:=aE cm (s.extract at_ k) 0
  if ix<0\/iY kind ix.toNat=false then .ok (e,gA er 7 at_,a,seen)
  else .ok (e,dl (decide (ix=0/\0<n)&&jP L n) (dl (decide (iX[ix.toNat]?.getD 0<n)) (dl (seen.contains ix.toNat) er 5 at_) 6 j) 5 j,a.set ix.toNat n,ix.toNat::seen)
def cX(s:BY)(kind:Nat)(L:zza):Nat->Nat->fA->List Int->List Nat->Except Nat (Nat×fA×List Int)
 |0,i,_,_,_=>.error i
 |f+1,i,er,a,seen=>match fD s kind L i er a seen with
  |.error b=>.error b
  |.ok (i2,Ef,a2,QR)=>
   if aR s i2 59 then cX s kind L f (ao s i2 59) Ef a2 QR
   else match dV s i2 125 with
    |.error b=>.error b
    |.ok i3=>.ok (i3,Ef,a2)
def lZ(s:BY)(kind:Nat)(L:zza)(i:Nat)(er:fA):Except Nat (Nat×fA×List Int):=
 if aR s i 123 then cX s kind L (s.size+1) (ao s i 123) er aN []else .ok (sk s i,er,aN)
def grown(L:zza)(d:Nd):List Nd:=
 if d.up<0 then L++[d]else(L.modify d.up.toNat λu=>{u with kids:=u.kids++[L.length]})++[d]
def am(L:zza)(k:Nat)(t:zzf):List Nd:=L.modify k λu=>{u with text:=t}
def fK(s:BY)(cu:PS->Except Nat PS):Nat->PS->Except Nat PS
 |0,st=>.error st.i
 |f+1,st=>match cu st with
  |.error b=>.error b
  |.ok D3=>if aR s D3.i 44 then fK s cu f {D3 with i:=ao s D3.i 44}else match dV s D3.i 93 with
   |.error b=>.error b
   |.ok i3=>.ok {D3 with i:=i3}
def iP(s:BY)(kind k:Nat)(cu:PS->Except Nat PS)(st:PS):Except Nat PS:=
 if kind<3 then match dV s st.i 91 with
  |.error b=>.error b
  |.ok i2=>if aR s i2 93 then .ok {st with i:=ao s i2 93}else fK s cu (s.size+1) {st with i:=sk s i2}
 else if kind<5 then match dV s st.i 91 with
  |.error b=>.error b
  |.ok i2=>match cu {st with i:=i2}with
   |.error b=>.error b
   |.ok Vj=>match dV s Vj.i 93 with
    |.error b=>.error b
    |.ok i4=>.ok {Vj with i:=i4}
 else if kind=5 then match jJ s st.i with
  |.error b=>.error b
  |.ok (i2,t)=>.ok {st with i:=i2,L:=am st.L k t}
 else .ok st
def fZ(s:BY):Nat->Int->Nat->PS->Except Nat PS
 |0,_,_,st=>.error st.i
 |f+1,up,depth,st=>
  let at_:=sk s st.i
  let k:=run ap s at_
  let kind:=aE dt (s.extract at_ k) 0
  if k=at_\/kind<0 then .error at_ else
  match lZ s kind.toNat st.L k (dl (decide (12<=depth)) (dl (decide (100<=st.L.length)) st.er 3 at_) 4 at_)with
  |.error b=>.error b
  |.ok (i2,Ef,a)=>iP s kind.toNat st.L.length (fZ s f st.L.length (depth+1)) {i:=i2,L:=grown st.L ⟨kind.toNat,a,[],[],up⟩,er:=Ef}
def lF(s:BY):Except (Nat×Nat) (List Nd):=
 if 4000<s.size then .error (1,0)else
 match fZ s (s.size+1) (-1) 0 ⟨0,[],none⟩with
 |.error b=>.error (2,b)
 |.ok st=>if sk s st.i<s.size then .error (2,sk s st.i)else match st.er with
  |some f=>.error f
  |none=>.ok st.L
def gH(l:zzh):List Fd:=l.map fun(k:Nat)=>Iq (k:Int)
structure Up(B:Nat)(W W':AT):Prop where
 size:W.heap.size<=W'.heap.size
 block:∀b,B<=b->b<W.heap.size->W'.heap[b]?=W.heap[b]?
theorem Up.refl B W:Up B W W:=⟨ad _,λ_ _ _=>rfl⟩
theorem Up.trans{B}{W a c}(h:Up B W a)(k:Up B a c):Up B W c:=
 ⟨az h.size k.size,λb d e=>(k.block b d (zz006 e h.size)).trans (h.block b d e)⟩
theorem Up.grown{B r}{W W'}(h:W.grownBy W' (some r))(d:r<B):Up B W W':=
 ⟨h.size,λb c a=>h.block b a rn⟩
theorem Up.below{B}{W W'}(h:Bq W W'):Up B W W':=⟨h.size,λb _ a=>h.block b a⟩
theorem Up.drewN B W q:Up B W (W.drewN q):=⟨ad _,λ_ _ _=>rfl⟩
theorem Hi{W W'}{B n size}{e}{v}{l}(h:W.ownsRow B e size v n l)(hu:Up B W W'):W'.ownsRow B e size v n l:=by
 refine⟨h.1,?_⟩;rcases h.2 with m|⟨g,f,k,a,b,c,d⟩;·exact .inl m
 ·refine .inr ⟨g,f,k,a,b,?_,d⟩;rw[hu.block g b (aj.1 c).1];exact c
theorem dB{W:AT}{B o n t size a}{e m}{v v'}{A f}(h:W.ownsRow B e size v n A)(r:W.ownsRow o m a v' t f)(G:e≠m):v.ownBlock=none\/v.ownBlock≠v'.ownBlock:=by
 rcases h.2 with⟨rfl,_⟩|⟨g,p,q,rfl,b,c,d⟩;·exact .inl rfl
 ·right;rcases r.2 with⟨rfl,_⟩|⟨F,k,l,rfl,D,E,d'⟩;·simp[Value.ownBlock]
  ·intro hh;simp[Value.ownBlock]at hh;grind
theorem bZ{W:AT}{B n size}{e}{v}{m}(h:W.ownsRow B e size v n m):(v=.slice none 0 0/\n=0)\/∃g k,v=Sq g n k/\B<=g/\g<W.heap.size/\n<=k/\k<=maxLen:=by rcases h.2 with o|⟨g,k,l,a,b,c,d,f,_⟩;all_goals grind
structure NR(W:AT)(B:Nat)(T:TypeId)(z:Nat)(nv:Fd)(n:Nat)(C:Nat->List Fd)(KV:Nat->Fd)(K:Nat->List Nat):Prop where
 row:∃xs,W.ownsRow B T z nv n xs
 cells:∀g,nv.ownBlock=some g->∀j,j<n->∀(t:Nat) u,(C j)[t]?=some u->W.cell? (aq g (j*z+t))=some u
 len:∀j,j<n->(C j).length=z
 kids:∀j,j<n->W.ownsRow B 3 1 (KV j) (K j).length (gH (K j))
 sep:∀i j,i<n->j<n->i≠j->∀b,(KV i).ownBlock=some b->(KV j).ownBlock≠some b
section
variable{W W':AT} {B z n:Nat} {T:TypeId} {nv:Fd} {C:Nat->List Fd} {KV:Nat->Fd} {K:Nat->List Nat}
theorem NR.nothing W B T z C KV K:NR W B T z (.slice none 0 0) 0 C KV K:=
 ⟨⟨[],ga _ _ _ _⟩,λ_ _ j h=>absurd h dg,λj h=>absurd h dg,λj h=>absurd h dg,λi j h=>absurd h dg⟩
theorem NR.up(h:NR W B T z nv n C KV K)(hu:Up B W W'):NR W' B T z nv n C KV K:=by obtain⟨f,e⟩:=h.row;refine⟨⟨f,Hi e hu⟩,λg c j a t u b=>?_,h.len,λj a=>Hi (h.kids j a) hu,h.sep⟩;have:=h.cells g c j a t u b;have d:=e.lt g c;rw[aO (hu.block g d.1 d.2)];omega
theorem NR.form(h:NR W B T z nv n C KV K)(b:0<n):∃g a,nv=Sq g n a/\B<=g/\g<W.heap.size/\n<=a/\a<=maxLen:=by obtain⟨d,c⟩:=h.row;grind[bZ]
theorem NR.cell{g cap}(h:NR W B T z (Sq g n cap) n C KV K){j}(a:j<n){t}{u}(b:(C j)[t]?=some u):W.cell? (aq g (j*z+t))=some u:=h.cells g rfl j a t u b
theorem NR.frozen{g a}(h:NR W B T z (Sq g n a) n C KV K)j:W.frozen? (aq g j)=false:=by obtain⟨c,b⟩:=h.row;exact b.frozenAt j
theorem NR.frz(h:NR W B T z nv n C KV K){g}(a:nv.ownBlock=some g)j:W.frozen? (aq g j)=false:=by
 obtain⟨e,b⟩:=h.row;rcases bZ b with⟨rfl,_⟩|⟨d,c,rfl,_⟩;·simp[Value.ownBlock]at a
 ·simp[Value.ownBlock]at a;subst a;exact b.frozenAt j
theorem NR.app{nv'}{F c}(h:NR W B T z nv n C KV K)(H:3≠T)(A:W.ownsRow B T z nv n F)(k:W'.ownsRow B T z nv' (n+1) (F++c))(I:W.grownBy W' nv.ownBlock)(N:c.length=z):
 NR W' B T z nv' (n+1) (λj=>if j=n then c else C j) (λj=>if j=n then .slice none 0 0 else KV j) (λj=>if j=n then[]else K j):=by
 have J:=A.1;refine⟨⟨_,k⟩,λg o j q t u e=>?_,λj q=>?_,λj q=>?_,λi j hi q p b l=>?_⟩
 ·have D:=k.cells o;have f:∀m,((aq g 0):Addr).add m=(aq g m):=λm=>by unfold Addr.add;grind
  have O:t<z:=by
   have d:=(nC.1 e).1;by_cases a:j=n;·grind
   ·rw[if_neg a,h.len j dg]at d;exact d
  rw[<-f];refine D _ _ ?_;by_cases a:j=n;·grind
  ·rw[if_neg a]at e;have r:j*z+t<n*z:=by have:(j+1)*z<=n*z:=iA _ dg;rw[fj]at this;omega
   rw[xj dg];obtain⟨M,G,rfl,_⟩:=h.form dg;have d:=h.cell dg e;rw[A.cellAt _ r]at d;exact d
 ·by_cases a:j=n;·grind
  ·rw[if_neg a];exact h.len j dg
 ·by_cases a:j=n;·rw[if_pos a,if_pos a];exact ga _ _ _ _
  ·rw[if_neg a,if_neg a];exact(h.kids j dg).kept I (dB (h.kids j dg) A H)
 ·by_cases d:i=n;·rw[if_pos d]at l;simp[Value.ownBlock]at l
  ·rw[if_neg d]at l;by_cases E:j=n;·rw[if_pos E];simp[Value.ownBlock]
   ·rw[if_neg E];exact h.sep i j dg dg p b l
theorem NR.set{g l}(h:NR W B T z (Sq g n l) n C KV K)(H:3≠T){k t}(F:k<n)(I:t<z)u:
 NR (W.setCell (aq g (k*z+t)) u) B T z (Sq g n l) n (λj=>if j=k then(C k).set t u else C j) KV K:=by
 obtain⟨N,q⟩:=h.row;have f:=q.stored (k*z+t) u;have A:k*z+t<n*z:=by have:(k+1)*z<=n*z:=iA _ dg;rw[fj]at this;omega
 refine⟨⟨_,f.1⟩,λG c j d r M b=>?_,λj d=>?_,λj d=>?_,h.sep⟩
 ·injection c with c;have c:g=G:=c;subst c;have J:r<z:=by
   have m:=(nC.1 b).1;by_cases o:j=k;·rw[if_pos o]at m;simp[h.len k F]at m;exact m
   ·rw[if_neg o,h.len j dg]at m;exact m
  have p:j*z+r<n*z:=by have:(j+1)*z<=n*z:=iA _ dg;rw[fj]at this;omega
  rw[f.1.cellAt _ p];have hold:=(q.cellAt _ p).symm;by_cases a:j=k
  ·subst a;rw[if_pos rfl]at b;by_cases E:t=r;·subst E;rw[List.getElem?_set_self (by rw[q.1];exact A)];grind
   ·rw[qm dg]at b⊢;rw[hold];exact h.cell d b
  ·rw[if_neg a]at b;have D:k*z+t≠j*z+r:=by
    intro e;rcases Nat.lt_or_gt_of_ne a with hh|hh;·have:(j+1)*z<=k*z:=iA _ dg;rw[fj]at this;omega
    ·have:(k+1)*z<=j*z:=iA _ dg;rw[fj]at this;omega
   rw[qm D,hold];exact h.cell d b
 ·by_cases a:j=k;·rw[if_pos a];simp[h.len k F]
  ·rw[if_neg a];exact h.len j d
 ·exact(h.kids j d).kept f.2 (dB (h.kids j d) q H)
theorem NR.kid{g cap}{kv'}{k t c}(h:NR W B T z (Sq g n cap) n C KV K)(H:3≠T)(p:k<n)(R:t<z)(Q:W'.ownsRow B 3 1 kv' ((K k).length+1) (gH (K k++[c])))(I:W.grownBy W' (KV k).ownBlock)(A:kv'.ownBlock=(KV k).ownBlock\/kv'.ownBlock=some W.heap.size):
 NR (W'.setCell (aq g (k*z+t)) kv') B T z (Sq g n cap) n (λj=>if j=k then(C k).set t kv' else C j) (λj=>if j=k then kv' else KV j) (λj=>if j=k then K k++[c]else K j):=by
 obtain⟨S,G⟩:=h.row;have N:=G.kept I (dB G (h.kids k p) (j_ H));have J:=G.lt g rfl;have D:=I.block g J.2 (by
  rcases dB (h.kids k p) G H with e|e;·rw[e];simp
  ·exact λq=>e q.symm);have m:=λj l a=>(h.kids j l).kept I (by
  cases d:(KV j).ownBlock with
  |none=>exact .inl rfl
  |some b=>right;exact λe=>h.sep j k l p a b d e.symm);have O:NR W' B T z (Sq g n cap) n C (λj=>if j=k then kv' else KV j) (λj=>if j=k then K k++[c]else K j):=by
  refine⟨⟨S,N⟩,λP f j l U V M=>?_,h.len,λj l=>?_,λi j hi l E b d=>?_⟩;·injection f with f;have f:g=P:=f;subst f;rw[aO D];exact h.cell l M
  ·by_cases a:j=k;·rw[if_pos a,if_pos a];simpa using Q
   ·rw[if_neg a,if_neg a];exact m j l a
  ·have o:∀i,i<n->(KV i).ownBlock≠some W.heap.size:=λi hi e=>by have:=(h.kids i hi).lt _ e;omega
   by_cases F:i=k
   ·rw[if_pos F]at d;have r:j≠k:=λe=>E (F.trans e.symm);rw[if_neg r];rcases A with e|e;·rw[e]at d;exact h.sep k j p l (λe=>r e.symm) b d
    ·rw[e]at d;injection d with d;rw[<-d];exact o j l
   ·rw[if_neg F]at d;by_cases r:j=k
    ·rw[if_pos r];rcases A with e|e;·rw[e];exact h.sep i k hi p F b d
     ·rw[e];intro q;injection q with q;exact o i hi (by rw[d,q])
    ·rw[if_neg r];exact h.sep i j hi l E b d
 exact O.set H p R kv'
end
def YQ:Nd:=⟨0,[],[],[],0⟩
def ae(L:zza)(j:Nat):Nd:=L[j]?.getD YQ
theorem bv{L}{d}{j}(h:j<L.length):ae (L++[d]) j=ae L j:=by grind[ae]
theorem bJ L d:ae (L++[d]) L.length=d:=by grind[ae]
theorem aG{L:zza}{k}f(h:k<L.length):ae (L.modify k f) k=f (ae L k):=by grind[ae]
theorem aB{L}{k j}f(h:j≠k):ae (L.modify k f) j=ae L j:=by grind[ae]
theorem NR.congr{W}{B z n}{T}{nv}{C f}{KV c}{K k}(h:NR W B T z nv n C KV K)(m:∀j,j<n->f j=C j)(d:∀j,j<n->c j=KV j)(o:∀j,j<n->k j=K j):NR W B T z nv n f c k:=
 ⟨h.row,λg p j a t u q=>h.cells g p j a t u rn,λj a=>by rw[m j a];exact h.len j a,λj a=>by rw[d j a,o j a];exact h.kids j a,
  λi j hi a e b l=>by rw[d j a];rw[d i hi]at l;exact h.sep i j hi a e b l⟩
structure Fr(B r:Nat)(W W':AT):Prop where
 os:W'.os=W.os
 tape:W'.tape=W.tape
 output:W'.output=W.output
 size:W.heap.size<=W'.heap.size
 block:∀b,b<B->b≠r->W'.heap[b]?=W.heap[b]?
theorem Fr.refl B r W:Fr B r W W:=⟨rfl,rfl,rfl,ad _,λ_ _ _=>rfl⟩
theorem Fr.trans{B r}{W a c}(h:Fr B r W a)(k:Fr B r a c):Fr B r W c:=
 ⟨k.os.trans h.os,k.tape.trans h.tape,k.output.trans h.output,az h.size k.size,λb d e=>(k.block b d e).trans (h.block b d e)⟩
theorem Fr.grown{B r}{W W'}(h:W.grownBy W' (some r))(d:B<=W.heap.size):Fr B r W W':=
 ⟨h.os,h.tape,h.output,h.size,λb a c=>h.block b dg rn⟩
theorem Fr.own{B r}{W W'}{o}(h:W.grownBy W' o)(d:B<=W.heap.size)(f:∀g,o=some g->B<=g):Fr B r W W':=
 ⟨h.os,h.tape,h.output,h.size,λb a c=>h.block b dg (λe=>rn)⟩
theorem Fr.below{B a r}{W W'}(h:Below a W W')(e:B<=a):Fr B r W W':=
 ⟨h.os,h.tape,h.output,h.size,λb c d=>h.block b dg⟩
theorem Fr.drewN B r W q:Fr B r W (W.drewN q):=⟨rfl,rfl,rfl,ad _,λ_ _ _=>rfl⟩
theorem Fr.cell{B r}{W W'}(h:Fr B r W W'){a}{v}(d:W.cell? a=some v)(b:a.block<B)(c:a.block≠r):W'.cell? a=some v:=
 (aO (h.block a.block b c)).trans d
theorem Fr.frozen{B r}{W W'}(h:Fr B r W W'){a}(b:a.block<B)(c:a.block≠r):W'.frozen? a=W.frozen? a:=
 ji (h.block a.block b c)
def aU(d:Nd)(kv:Fd):List Fd:=Iq (d.kind:Int)::((d.attr.map fun(x:Int)=>Iq x)++[.string ⟨d.text.toArray⟩,kv,Iq d.up])
theorem Lw d a:(aU d a)[0]?=some (Iq (d.kind:Int)):=rfl
theorem Bo{d}{a}{t}(h:t<d.attr.length):(aU d a)[t+1]?=some (Iq (d.attr[t]?.getD 0)):=by unfold aU;grind
theorem Bp{d}{a}(h:d.attr.length=12):(aU d a)[13]?=some (.string ⟨d.text.toArray⟩):=by grind[aU]
theorem Lv{d}{a}(h:d.attr.length=12):(aU d a)[14]?=some a:=by grind[aU]
theorem Hn{d}{a}(h:d.attr.length=12):(aU d a).length=16:=by simp_all[aU]
theorem wy{d}{b}{t}(h:t<d.attr.length)x:(aU d b).set (t+1) (Iq x)=aU {d with attr:=d.attr.set t x} b:=by simp_all[aU]
theorem wC{d}{a}(h:d.attr.length=12)x:(aU d a).set 13 (.string ⟨x.toArray⟩)=aU {d with text:=x} a:=by simp_all[aU]
theorem wA{d}{c a}(h:d.attr.length=12)b:(aU d c).set 14 a=aU {d with kids:=b} a:=by simp_all[aU]
structure PN(W:AT)(B:Nat)(nv:Fd)(L:zza)(KV:Nat->Fd):Prop where
 nr:NR W B 140 16 nv L.length (λj=>aU (ae L j) (KV j)) KV (λj=>(ae L j).kids)
 len:∀j,j<L.length->(ae L j).attr.length=12
section
variable{W W':AT} {B:Nat} {nv:Fd} {L:zza} {KV:Nat->Fd}
theorem PN.up(h:PN W B nv L KV)(hu:Up B W W'):PN W' B nv L KV:=⟨h.nr.up hu,h.len⟩
theorem PN.app{nv'}{f}{d}(h:PN W B nv L KV)(l:W.ownsRow B 140 16 nv L.length f)(c:W'.ownsRow B 140 16 nv' (L.length+1) (f++aU d (.slice none 0 0)))(g:W.grownBy W' nv.ownBlock)(k:d.attr.length=12)(m:d.kids=[]):
 PN W' B nv' (L++[d]) (λj=>if j=L.length then .slice none 0 0 else KV j):=by
 refine⟨?_,λj a=>?_⟩
 ·have b:(L++[d]).length=L.length+1:=At
  rw[b];refine(h.nr.app (by decide) l c g (Hn k)).congr (λj a=>?_) (λj a=>rfl) (λj a=>?_);all_goals grind[bJ,bv]
 ·by_cases e:j=L.length;·grind[bJ]
  ·rw[bv rn];exact h.len j rn
theorem PN.mod{g a k t}{u}(h:PN W B (Sq g L.length a) L KV)(m:k<L.length)(o:t<16)f(p:(aU (ae L k) (KV k)).set t u=aU (f (ae L k)) (KV k))(d:(f (ae L k)).kids=(ae L k).kids)(l:(f (ae L k)).attr.length=12):
 PN (W.setCell (aq g (k*16+t)) u) B (Sq g L.length a) (L.modify k f) KV:=by
 refine⟨?_,λj b=>?_⟩
 ·have c:(L.modify k f).length=L.length:=At
  rw[c];refine(h.nr.set (by decide) m o u).congr (λj b=>?_) (λj b=>rfl) (λj b=>?_);all_goals grind[aG,aB]
 ·by_cases e:j=k;·grind[aG]
  ·rw[aB f e];exact h.len j rn
theorem PN.setAttr{g a k t}(h:PN W B (Sq g L.length a) L KV)(b:k<L.length)(e:t<12)x:
 PN (W.setCell (aq g (k*16+(t+1))) (Iq x)) B (Sq g L.length a) (L.modify k λd=>{d with attr:=d.attr.set t x}) KV:=
 h.mod b dg _ (wy (by rw[h.len k b];exact e) x) rfl (by simp[h.len k b])
theorem PN.setText{g a k}(h:PN W B (Sq g L.length a) L KV)(b:k<L.length)x:
 PN (W.setCell (aq g (k*16+13)) (.string ⟨x.toArray⟩)) B (Sq g L.length a) (am L k x) KV:=
 h.mod b dg _ (wC (h.len k b) x) rfl (h.len k b)
theorem PN.kid{g cap}{kv'}{k c}(h:PN W B (Sq g L.length cap) L KV)(a:k<L.length)(m:W'.ownsRow B 3 1 kv' ((ae L k).kids.length+1) (gH ((ae L k).kids++[c])))(l:W.grownBy W' (KV k).ownBlock)(b:kv'.ownBlock=(KV k).ownBlock\/kv'.ownBlock=some W.heap.size):
 PN (W'.setCell (aq g (k*16+14)) kv') B (Sq g L.length cap) (L.modify k λu=>{u with kids:=u.kids++[c]}) (λj=>if j=k then kv' else KV j):=by
 refine⟨?_,λj d=>?_⟩
 ·have f:(L.modify k λu=>{u with kids:=u.kids++[c]}).length=L.length:=At
  rw[f];refine(h.nr.kid (t:=14) (by decide) a dg m l b).congr (λj d=>?_) (λj d=>rfl) (λj d=>?_)
  ·by_cases e:j=k;·subst e;simp only[if_true];rw[aG _ a];exact(wA (h.len j a) _).symm
   grind[aB]
  grind[aG,aB]
 ·by_cases e:j=k;·subst e;rw[aG _ a];exact h.len j a
  ·rw[aB _ e];exact h.len j rn
end
theorem gG L d(k:Nat)(hd:d.up=(k:Int))(a:k<L.length):grown L d=(L++[d]).modify k λu=>{u with kids:=u.kids++[L.length]}:=by unfold grown;rw[if_neg dg,hd];simp only[lS];apply IL;grind
def jB(d:Nd)(av kv:Fd):List Fd:=[Iq (d.kind:Int),av,.string ⟨d.text.toArray⟩,kv,Iq d.up]
def M8:List Nd->List Fd->List Fd->List Fd
 |d::L,a::A,k::K=>jB d a k++M8 L A K
 |_,_,_=>[]
def Jn(W:AT)(B:Nat)(v:Fd)(a:zzc):Prop:=∃ab,v=Sq ab 12 12/\B<=ab/\ab<W.heap.size/\a.length=12/\∀j,j<12->W.cell? (aq ab j)=some (Iq (a[j]?.getD 0))/\W.frozen? (aq ab j)=false
def sW:Fd->Option Nat
 |.slice (some a) _ _=>some a.block
 |_=>none
structure NA(W:AT)(B:Nat)(lv:Fd)(L:zza)(AV KV:List Fd):Prop where
 row:W.ownsRow B 176 5 lv L.length (M8 L AV KV)
 lenA:AV.length=L.length
 lenK:KV.length=L.length
 attr:∀(j:Nat) d v,L[j]?=some d->AV[j]?=some v->Jn W B v d.attr
 kids:∀(j:Nat) d v,L[j]?=some d->KV[j]?=some v->W.ownsRow B 3 1 v d.kids.length (d.kids.map fun(k:Nat)=>Iq (k:Int))
 sepKK:∀(i j:Nat) (u v:Fd),i≠j->KV[i]?=some u->KV[j]?=some v->∀b,u.ownBlock=some b->v.ownBlock≠some b
 sepKL:∀(j:Nat) (v:Fd),KV[j]?=some v->∀b,v.ownBlock=some b->lv.ownBlock≠some b
 sepAL:∀(j:Nat) (v:Fd),AV[j]?=some v->∀b,sW v=some b->lv.ownBlock≠some b
 sepAK:∀(i j:Nat) (u v:Fd),AV[i]?=some u->KV[j]?=some v->∀b,sW u=some b->v.ownBlock≠some b
theorem rT{W W':AT}{B r n size}{e}{v}{m}(h:W.ownsRow B e size v n m)(o:W.grownBy W' (some r))(p:∀b,v.ownBlock=some b->b≠r):W'.ownsRow B e size v n m:=by
 refine⟨h.1,?_⟩;rcases h.2 with q|⟨g,f,k,a,b,c,d⟩;·grind
 ·have l:=p g (by rw[a];rfl);refine .inr ⟨g,f,k,a,b,?_,d⟩;rw[o.block g (aj.1 c).1 (λe=>l rn)];exact c
theorem He{W:AT}{B n size}{e}{v}{c}(h:W.ownsRow B e size v n c){b}(a:v.ownBlock=some b):B<=b/\b<W.heap.size:=h.lt b a
theorem JW{A B:AT}{r b o}(a:A.grownBy B (some r))(c:b<A.heap.size)(d:b≠r):B.frozen? (aq b o)=A.frozen? (aq b o):=by unfold World.frozen?;rw[a.block b c (λe=>d rn)]
theorem Jn.grown{W W'}{B r}{v}{a}(h:Jn W B v a)(c:W.grownBy W' (some r))(m:∀b,sW v=some b->b≠r):Jn W' B v a:=by obtain⟨ab,rfl,k,e,l,f⟩:=h;have d:=m ab rfl;exact⟨ab,rfl,k,zz006 e c.size,l,λj g=>⟨c.cell (f j g).1 rn,(JW c e d).trans (f j g).2⟩⟩
theorem NA.grown{W W'}{B r}{lv}{L}{g KV}(h:NA W B lv L g KV)(f:W.grownBy W' (some r))(l:r<B):NA W' B lv L g KV:=by
 refine⟨rT h.row f λb a=>by have:=He h.row a;omega,h.lenA,h.lenK,λj d v c e=>?_,λj d v c e=>?_,h.sepKK,h.sepKL,h.sepAL,h.sepAK⟩;·refine(h.attr j d v c e).grown f λb a=>?_;obtain⟨ab,rfl,k,_⟩:=h.attr j d v c e;injection a with a;grind
 ·exact rT (h.kids j d v c e) f λb a=>by have:=He (h.kids j d v c e) a;omega
def wS(s:BY)(i:Nat)(bad:Int):BY:=if bad<0 then s.extract (sk s i) (run ap s (sk s i))else ByteArray.empty
def wI(s:BY)(i:Nat)(bad:Int):Nat:=if bad<0 then run ap s (sk s i)else sk s i
def wB(s:BY)(i:Nat)(bad:Int):Int:=if bad<0 then ID s i bad else bad
def mI(s:BY)(i c:Nat)(bad:Int):Nat:=if bad<0 then ao s i c else sk s i
def mB(s:BY)(i c:Nat)(bad:Int):Int:=if bad<0 then GX s i c bad else bad
def gB(s:BY)(i c:Nat)(bad:Int):Bool:=if bad<0 then aR s i c else false
def nV(s:BY)(i:Nat)(bad:Int):Int:=if bad<0 then dv s (sk s i) (run aL s (sk s i)-sk s i)else 0
def nI(s:BY)(i:Nat)(bad:Int):Nat:=if bad<0 then run aL s (sk s i)else sk s i
def nB(s:BY)(i:Nat)(bad:Int):Int:=if bad<0 then Ll s (sk s i) (run aL s (sk s i)) bad else bad
theorem QU{s}{i}bad(hi:i<=s.size):wI s i bad<=s.size:=by grind[wI,gu,f_]
theorem dy{s}{i c}(a:c<256)(hi:i<=s.size):ao s i c<=s.size:=by grind[ao,sk,fm,f_]
theorem QI{s}{i c}bad(a:c<256)(hi:i<=s.size):mI s i c bad<=s.size:=by grind[mI,dy,f_]
theorem QJ{s}{i}bad(hi:i<=s.size):nI s i bad<=s.size:=by grind[nI,gu,f_]
theorem QK s i bad:0<=nV s i bad/\nV s i bad<=999999:=by
 unfold nV;split;·have h:=uF s (sk s i) (run aL s (sk s i)-sk s i) (λt a=>by have:=oA (p:=aL) s (s.size-sk s i) (sk s i) t (by grind[lL,aL,sk,run]);grind[aL]);omega
 ·omega
structure Pr where
 i:Nat
 bad:Int
 n:Int
 p:Nat
 at_:Nat
 ix:Int
def bu(s:BY)(i:Nat)(bad:Int):Pr:=
 let j:=sk s i
 let i1:=wI s j bad
 let b1:=wB s j bad
 let i2:=mI s i1 61 b1
 let b2:=mB s i1 61 b1
 {i:=nI s i2 b2,bad:=nB s i2 b2,n:=nV s i2 b2,p:=sk s i2,at_:=j,ix:=aE cm (wS s j bad) 0}
structure PR(W:AT)(rb:Nat)(s:BY)(i:Nat)(av nv fv:Fd):Prop where
 lt:rb<W.heap.size
 c0:W.cell? (aq rb 0)=some (.string s)
 c1:W.cell? (aq rb 1)=some (Iq (i:Int))
 c2:W.cell? (aq rb 2)=some av
 c3:W.cell? (aq rb 3)=some nv
 c4:W.cell? (aq rb 4)=some fv
 fz:∀j,W.frozen? (aq rb j)=false
theorem PR.below{W W'}{rb}{s}{i}{b nv c}(h:PR W rb s i b nv c)(a:Bq W W'):PR W' rb s i b nv c:=
 have k:∀j v,W.cell? (aq rb j)=some v->W'.cell? (aq rb j)=some v:=λj v e=>(a.cell (p:=(aq rb j)) h.lt).trans e
 ⟨zz006 h.lt a.size,k _ _ h.c0,k _ _ h.c1,k _ _ h.c2,k _ _ h.c3,k _ _ h.c4,λj=>(a.frozen (p:=(aq rb j)) h.lt).trans (h.fz j)⟩
theorem PR.drewN{W}{rb}{s}{i}{a nv b}(h:PR W rb s i a nv b)n:PR (W.drewN n) rb s i a nv b:=
 ⟨h.lt,h.c0,h.c1,h.c2,h.c3,h.c4,h.fz⟩
theorem PR.setI{W}{rb}{s}{i}{a nv b}(h:PR W rb s i a nv b)(c:Nat):PR (W.setCell (aq rb 1) (Iq (c:Int))) rb s c a nv b:=
 ⟨by simpa using h.lt,aD dg h.c0,eT h.c1,aD dg h.c2,aD dg h.c3,aD dg h.c4,λj=>by rw[eG];exact h.fz j⟩
def prI(W:AT)(rb:Nat):Nat:=match W.cell? (aq rb 1)with
 |some (.int _ x)=>x.toNat
 |_=>0
theorem PR.prI{W:AT}{rb:Nat}{s:BY}{i:Nat}{a nv b:Fd}(h:PR W rb s i a nv b):prI W rb=i:=by unfold Go.Proofs.YtehgehanbnkdiaaGreatDoor.prI;rw[h.c1];simp
theorem skipBlanks_any(rb:Nat)(s:BY)(i:Nat)(p nv r:Fd)(w:AT)(h:PR w rb s i p nv r)(N:s.size<=1099511627776)(hi:i<=s.size):
 Cw 93 #[Pq rb] w λe w'=>e=Rw (.tuple #[])/\PR w' rb s (sk s i) p nv r/\w.grownBy w' (some rb):=by
 have E:=qH<|h;clear h;go_enter func93,ntmps93;go_wp2;go_loopw[2] (λ_ wr=>∃k:Nat,k<=s.size/\Hid (sk s k=sk s i)/\Hid (PR wr rb s k p nv r)/\Hid (w.grownBy wr (some rb))) (λ_ wr=>s.size-prI wr rb);case atStart=>exact⟨i,hi,rfl,E,fX _ _⟩
 case round=>
  obtain⟨k,M,d,b,t⟩:=hrel;have a:=b.out;have H:=a.c0;have c1:=a.c1;have f1:=a.fz 1;by_cases c:k<s.size
  ·have f:(k:Int)<(s.size:Int):=dg
   obtain⟨x,G⟩:=af (s[k].toNat);have m:dj s k=x:=by rw[gY c,G]
   by_cases F:x=32
   ·skip;have o:=qH<|λq=>by have:=(b.drewN q).setI (k+1);rw[show((k+1:Nat):Int)=(k:Int)+1 by omega]at this;exact this
    have g:Hid (sk s (k+1)=sk s i):=by rw[<-d.out];exact(pW c (by grind[blank])).symm
    have hrd:=b.prI;have l:=qH<|hrd;subst F;clear a d b m hrd;go_wp2_with fail;go_quiet(fail);go_wp2;go_roundw;case rel=>exact⟨k+1,dg,g,o _,gr_trans (gr_trans t (a_ _ _ _)) (cH _ _ _ _)⟩
    case measure=>rw[(o _).prI,l.out];omega
   ·by_cases D:x=10
    ·skip;have o:=qH<|λq=>by have:=(b.drewN q).setI (k+1);rw[show((k+1:Nat):Int)=(k:Int)+1 by omega]at this;exact this
     have g:Hid (sk s (k+1)=sk s i):=by rw[<-d.out];exact(pW c (by grind[blank])).symm
     have hrd:=b.prI;have l:=qH<|hrd;subst D;clear a d b m hrd;go_wp2_with fail;go_quiet(fail);go_wp2;go_roundw;case rel=>exact⟨k+1,dg,g,o _,gr_trans (gr_trans t (a_ _ _ _)) (cH _ _ _ _)⟩
     case measure=>rw[(o _).prI,l.out];omega
    ·have A:Hid (PR wr rb s (sk s i) p nv r):=by have:sk s k=k:=pX (by grind[blank]);rw[<-d.out,this];exact b
     have I:((x:Int)==32)=false:=by simp;omega
     have J:((x:Int)==10)=false:=by simp;omega
     clear a d b m;go_wp2_with fail;go_quiet(fail);go_wp2;go_end0;exact⟨rfl,A.drewN _,gr_trans t (a_ _ _ _)⟩
  ·have f:¬(k:Int)<(s.size:Int):=dg
   have hd:=decide_eq_false f;have A:Hid (PR wr rb s (sk s i) p nv r):=by have:sk s k=k:=BA c;rw[<-d.out,this];exact b
   clear a d b;go_wp2_with fail;go_quiet(fail);go_wp2;go_end0;exact⟨rfl,A.drewN _,gr_trans t (a_ _ _ _)⟩
theorem jH(rb:Nat)(s:BY)(i:Nat)(l nv m:Fd)(c:Nat)(w:AT)(h:PR w rb s i l nv m)(J:s.size<=1099511627776)(hi:i<=s.size)(P:c<256):
 Cw 164 #[Pq rb,.int .u8 (c:Int)] w λe w'=>e=Rw (.bool (aR s i c))/\PR w' rb s (ao s i c) l nv m/\w.grownBy w' (some rb):=by
 have CS:=qH<|skipBlanks_any rb s i l nv m w h J hi;obtain⟨j,D⟩:=af (sk s i);have F:=f_ s i hi;have d:Hid (ao s i c=if dj s j=c then j+1 else j):=by show _=_;unfold ao;rw[D]
 have f:Hid (aR s i c=(dj s j==c)):=by show _=_;unfold aR;rw[D]
 rw[D]at CS F;clear h D;go_enter func164,ntmps164;go_wp2_with fail;refine CS.mono ?_;rintro e G ⟨rfl,r,H⟩;have k:=qH<|r;have E:=qH<|H;have N:=r.c0;have c1:=r.c1;have f1:=r.fz 1;clear r H CS;by_cases t:j<s.size
 ·have A:(j:Int)<(s.size:Int):=dg
  have I:((j:Int)==(s.size:Int))=false:=by simp;omega
  obtain⟨x,M⟩:=af (s[j].toNat);have a:dj s j=x:=by rw[gY t,M]
  by_cases b:x=c
  ·have p:Hid (∀q,PR ((G.drewN q).setCell (aq rb 1) (Iq ((j:Int)+1))) rb s (ao s i c) l nv m):=λq=>by rw[d.out,a,if_pos b];have:=(k.drewN q).setI (j+1);grind
   have o:Hid (aR s i c=true):=by show _=_;rw[f.out,a];simpa using b
   subst b;clear a k;go_wp2_with fail;go_quiet(fail);go_wp2;go_ret;exact⟨by rw[o.out];rfl,p _,gr_trans (gr_trans E (a_ _ _ _)) (cH _ _ _ _)⟩
  ·have p:Hid (PR G rb s (ao s i c) l nv m):=by rw[d.out,a,if_neg b];exact k
   have o:Hid (aR s i c=false):=by show _=_;rw[f.out,a];simpa using b
   have O:((x:Int)!=(c:Int))=true:=by simp;omega
   clear a k;go_wp2_with fail;go_quiet(fail);go_wp2;go_ret;exact⟨by rw[o.out];rfl,p.drewN _,gr_trans E (a_ _ _ _)⟩
 ·have A:¬(j:Int)<(s.size:Int):=dg
  have I:((j:Int)==(s.size:Int))=true:=by simp;omega
  have g:=fm t;have p:Hid (PR G rb s (ao s i c) l nv m):=by rw[d.out,g,if_neg dg];exact k
  have o:Hid (aR s i c=false):=by show _=_;rw[f.out,g];simp;omega
  clear g k;go_wp2_with fail;go_quiet(fail);go_wp2;go_ret;exact⟨by rw[o.out];rfl,p.drewN _,gr_trans E (a_ _ _ _)⟩
theorem YC(nb o:Nat)(w:AT):Cw 147 #[.pointer (some (aq nb o))] w λe w'=>e=Rw (.pointer (some (aq nb (o+1))))/\w'=w:=by go_enter func147,ntmps147;go_wp2;go_ret;simp_all
theorem YD(nb o:Nat)(w:AT):Cw 148 #[.pointer (some (aq nb o))] w λe w'=>e=Rw (.pointer (some (aq nb (o+2))))/\w'=w:=by go_enter func148,ntmps148;go_wp2;go_ret;simp_all
theorem YE(nb o:Nat)(w:AT):Cw 149 #[.pointer (some (aq nb o))] w λe w'=>e=Rw (.pointer (some (aq nb (o+3))))/\w'=w:=by go_enter func149,ntmps149;go_wp2;go_ret;simp_all
theorem YF(nb o:Nat)(w:AT):Cw 150 #[.pointer (some (aq nb o))] w λe w'=>e=Rw (.pointer (some (aq nb (o+4))))/\w'=w:=by go_enter func150,ntmps150;go_wp2;go_ret;simp_all
theorem YG(nb o:Nat)(w:AT):Cw 151 #[.pointer (some (aq nb o))] w λe w'=>e=Rw (.pointer (some (aq nb (o+5))))/\w'=w:=by go_enter func151,ntmps151;go_wp2;go_ret;simp_all
theorem YH(nb o:Nat)(w:AT):Cw 152 #[.pointer (some (aq nb o))] w λe w'=>e=Rw (.pointer (some (aq nb (o+6))))/\w'=w:=by go_enter func152,ntmps152;go_wp2;go_ret;exact⟨rfl,rfl⟩
theorem YI(nb o:Nat)(w:AT):Cw 153 #[.pointer (some (aq nb o))] w λe w'=>e=Rw (.pointer (some (aq nb (o+7))))/\w'=w:=by go_enter func153,ntmps153;go_wp2;go_ret;exact⟨rfl,rfl⟩
theorem YJ(nb o:Nat)(w:AT):Cw 154 #[.pointer (some (aq nb o))] w λe w'=>e=Rw (.pointer (some (aq nb (o+8))))/\w'=w:=by go_enter func154,ntmps154;go_wp2;go_ret;simp_all
theorem YK(nb o:Nat)(w:AT):Cw 155 #[.pointer (some (aq nb o))] w λe w'=>e=Rw (.pointer (some (aq nb (o+9))))/\w'=w:=by go_enter func155,ntmps155;go_wp2;go_ret;simp_all
theorem Td(nb o:Nat)(w:AT):Cw 156 #[.pointer (some (aq nb o))] w λe w'=>e=Rw (.pointer (some (aq nb (o+10))))/\w'=w:=by go_enter func156,ntmps156;go_wp2;go_ret;simp_all
theorem Te(nb o:Nat)(w:AT):Cw 157 #[.pointer (some (aq nb o))] w λe w'=>e=Rw (.pointer (some (aq nb (o+11))))/\w'=w:=by go_enter func157,ntmps157;go_wp2;go_ret;simp_all
theorem Tf(nb o:Nat)(w:AT):Cw 158 #[.pointer (some (aq nb o))] w λe w'=>e=Rw (.pointer (some (aq nb (o+12))))/\w'=w:=by go_enter func158,ntmps158;go_wp2;go_ret;simp_all
def gC:Array Fd:=#[
 .string ⟨#[105,100]⟩,.int .u64 127,Iq 999999,Iq 0,.bool true,.func (.func 147) #[] #[],
 .string ⟨#[109,105,110]⟩,.int .u64 127,Iq 100000,Iq 0,.bool false,.func (.func 148) #[] #[],
 .string ⟨#[109,97,120]⟩,.int .u64 127,Iq 100000,Iq (-1),.bool false,.func (.func 149) #[] #[],
 .string ⟨#[119,101,105,103,104,116]⟩,.int .u64 127,Iq 100000,Iq 1,.bool false,.func (.func 150) #[] #[],
 .string ⟨#[103,97,112]⟩,.int .u64 3,Iq 100,Iq 0,.bool false,.func (.func 151) #[] #[],
 .string ⟨#[112,97,100]⟩,.int .u64 8,Iq 20,Iq 0,.bool false,.func (.func 152) #[] #[],
 .string ⟨#[98,111,114,100,101,114]⟩,.int .u64 8,Iq 1,Iq 1,.bool false,.func (.func 153) #[] #[],
 .string ⟨#[97,108,105,103,110]⟩,.int .u64 32,Iq 2,Iq 0,.bool false,.func (.func 154) #[] #[],
 .string ⟨#[119,114,97,112]⟩,.int .u64 32,Iq 1,Iq 1,.bool false,.func (.func 155) #[] #[],
 .string ⟨#[102,103]⟩,.int .u64 127,Iq 8,Iq 0,.bool false,.func (.func 156) #[] #[],
 .string ⟨#[98,103]⟩,.int .u64 127,Iq 8,Iq 0,.bool false,.func (.func 157) #[] #[],
 .string ⟨#[98,111,108,100]⟩,.int .u64 127,Iq 1,Iq 0,.bool false,.func (.func 158) #[] #[]]
theorem oL(w:AT):Cw 91 #[] w λe w'=>e=Rw (Sq w.heap.size 12 12)/\w'=w.alloc (.cells gC 259):=by go_enter func91,ntmps91;go_wp2;go_ret;exact⟨rfl,rfl⟩
def aS(eb:Addr):Fd:=.iface 460 (.pointer (some eb))
def cj(QQ:Int)(ev:Fd):Fd:=.iface 186 (.agg #[Iq QQ,ev])
theorem dP(a:Int)(w:AT)(b:Addr)(c:w.cell? (aq 7 0)=some (aS b)):
 Cw 94 #[Iq a] w λe w'=>e=Rw (cj a (aS b))/\w'=w:=by have d:w.cell? (aq 7 0)=some (.iface 460 (.pointer (some b))):=c;clear c;go_enter func94,ntmps94;go_wp2;go_ret;exact⟨rfl,rfl⟩
theorem fG(rb:Nat)(s:BY)(i:Nat)(b nv d:Fd)(c:Nat)(w:AT)(h:PR w rb s i b nv d)(p:s.size<=1099511627776)(hi:i<=s.size)(o:c<256)(a:aR s i c=true):
 Cw 167 #[Pq rb,.int .u8 (c:Int)] w λe w'=>e=Rw (.tuple #[])/\PR w' rb s (ao s i c) b nv d/\w.grownBy w' (some rb):=by
 have f:Hid (Cw 164 #[Pq rb,.int .u8 (c:Int)] w λe w'=>e=Rw (.bool true)/\PR w' rb s (ao s i c) b nv d/\w.grownBy w' (some rb)):=by have:=jH rb s i b nv d c w h p hi o;rw[a]at this;exact this
 clear h a;go_enter func167,ntmps167;go_wp2_with fail;refine f.mono ?_;rintro e q ⟨rfl,k,g⟩;have m:=qH<|k;have l:=qH<|g;clear k g f;go_wp2;go_end0;exact⟨rfl,m,l⟩
theorem gF(rb:Nat)(s:BY)(i:Nat)(l nv m:Fd)(d:Addr)(c:Nat)(w:AT)(h:PR w rb s i l nv m)(F:s.size<=1099511627776)(hi:i<=s.size)(E:c<256)(a:aR s i c=false)(H:7≠rb)(f:w.cell? (aq 7 0)=some (aS d)):
 Cw 167 #[Pq rb,.int .u8 (c:Int)] w λe w'=>e=.panicked [{v:=cj (sk s i:Int) (aS d),recovered:=false}]/\w.grownBy w' (some rb):=by
 have g:Hid (Cw 164 #[Pq rb,.int .u8 (c:Int)] w λe w'=>e=Rw (.bool false)/\PR w' rb s (sk s i) l nv m/\w.grownBy w' (some rb)):=by
  have:=jH rb s i l nv m c w h F hi E;have D:ao s i c=sk s i:=by unfold ao;unfold aR at a;rw[if_neg rn]
  rw[a,D]at this;exact this
 have p:Hid (∀w,w.cell? (aq 7 0)=some (aS d)->Cw 94 #[Iq (sk s i:Int)] w λe w'=>e=Rw (.iface 186 (.agg #[Iq (sk s i:Int),.iface 460 (.pointer (some d))]))/\w'=w):=λw f=>dP _ w d f;have t:=qH<|f;obtain⟨j,r⟩:=af (sk s i);rw[r]at g p⊢;clear h a f r;go_enter func167,ntmps167;go_wp2_with fail;refine g.mono ?_;rintro e I ⟨rfl,q,o⟩;have A:=qH<|o;have c1:=q.c1;have k:=qH<|o.cell t rn;clear q o g;go_wp2_with fail;refine(p _ k).mono ?_;rintro e w2 ⟨rfl,G⟩;obtain rfl:=G.symm;go_wp2;exact⟨rfl,rfl,A⟩
theorem yd(a:List BY)(x:BY)(f off p n:Nat)(w:AT)(F:f<w.heap.size)(t:∀j,j<a.length->w.cell? (aq f (off+j))=some (.string (a[j]?.getD ByteArray.empty)))(hn:a.length=n)(D:n<=1099511627776):
 Cw 338 #[.slice (some (aq f off)) n p,.string x] w λe w'=>e=Rw (Iq (aE a x 0))/\w'=w:=by
 have A:=qH<|t;have r:=qH<|hn;clear t hn;go_enter func338,ntmps338;go_wp2;go_loop[8] (λi=>∃k:Nat,k<=n/\i=Iq k/\Hid (aE a x 0=aE (a.drop k) x k)) (λi=>n-(intOf i).toNat);case atStart=>exact⟨0,aP _,rfl,by show _=_;grind⟩
 case round=>
  obtain⟨k,G,rfl,o⟩:=hrel;by_cases q:k<n
  ·have l:(k:Int)<(n:Int):=dg
   have d:k<a.length:=by rw[r.out];exact q
   have g:=A k d;obtain⟨y,hy⟩:=af (a[k]?.getD ByteArray.empty);rw[hy]at g;have b:a.drop k=y::a.drop (k+1):=by rw[<-hy,cW d];exact List.drop_eq_getElem_cons d
   have c:Hid (aE a x 0=if y=x then(k:Int)else aE (a.drop (k+1)) x (k+1)):=by show _=_;rw[o.out,b];rfl
   clear b hy o d;by_cases e:y=x
   ·have m:Hid (aE a x 0=(k:Int)):=by show _=_;rw[c.out,if_pos e]
    subst e;clear c;go_wp2;go_ret;exact⟨by rw[m.out];rfl,rfl⟩
   ·have m:Hid (aE a x 0=aE (a.drop (k+1)) x (k+1)):=by show _=_;rw[c.out,if_neg e]
    have E:=Ac (λh=>e h.symm);clear c;go_wp2;go_round;case rel=>grind
    case measure=>simp[intOf];omega
  ·have l:¬(k:Int)<(n:Int):=dg
   have m:Hid (aE a x 0=-1):=by show _=_;rw[o.out,IM (by rw[r.out];omega)];rfl
   clear o;go_wp2;go_ret;exact⟨by rw[m.out];rfl,rfl⟩
theorem yb(x:BY)(p:zze)(a:Nat)(w:AT):
 Cw 338 #[.slice p 0 a,.string x] w λe w'=>e=Rw (Iq (-1))/\w'=w:=by
 go_enter func338,ntmps338;go_wp2;go_loop[8] (λi=>i=Iq 0) (λi=>0);case atStart=>rfl
 case round=>subst hrel;go_wp2;go_ret;simp_all
def oG(W:AT)(v:Fd)(ws:List BY):Prop:=∃p c,v=.slice p ws.length c/\(ws=[]\/∃blk,p=some (aq blk 0)/\blk<W.heap.size/\∀j,j<ws.length->W.cell? (aq blk (0+j))=some (.string (ws[j]?.getD ByteArray.empty)))
theorem index_any a x v w(h:oG w v a)(g:a.length<=1099511627776):
 Cw 338 #[v,.string x] w λe w'=>e=Rw (Iq (aE a x 0))/\w'=w:=by
 obtain⟨p,c,rfl,rfl|⟨b,rfl,d,f⟩⟩:=h;·exact yb x p c w
 ·exact yd a x b 0 c _ w d f rfl g
theorem contains_any(a:List BY)(x:BY)(v:Fd)(w:AT)(h:oG w v a)(f:a.length<=1099511627776):
 Cw 313 #[v,.string x] w λe w'=>e=Rw (.bool (decide (0<=aE a x 0)))/\w'=w:=by have b:=qH<|index_any a x v w h f;obtain⟨p,c,rfl,_⟩:=h;obtain⟨r,d⟩:=af (aE a x 0);rw[d]at b⊢;clear d;go_enter func313,ntmps313;go_wp2_with fail;refine b.mono ?_;rintro e k ⟨rfl,g⟩;obtain rfl:=g.symm;go_wp2;go_ret;simp_all
def QO(m k:Nat):Bool:=(m/2^k) %2==1
theorem FY(n:BY)(m k:Nat)(h wi:Int)(l:Bool)(c:Fd)(w:AT)(g:m=127\/m=3\/m=8\/m=32)(f:k<7):
 Cw 312 #[.agg #[.string n,.int .u64 (m:Int),Iq h,Iq wi,.bool l,c],Iq (k:Int)] w λe w'=>e=Rw (.bool (QO m k))/\Bq w w':=by
 have d:k=0\/k=1\/k=2\/k=3\/k=4\/k=5\/k=6:=dg;have a:=λo=>(ac _ w).alloc (ad _) o;have b:=qH<|a;clear f a;rcases g with rfl|rfl|rfl|rfl<;>rcases d with rfl|rfl|rfl|rfl|rfl|rfl|rfl;all_goals go_enter func312,ntmps312;go_wp2;go_ret;exact⟨by rfl,b _⟩
theorem PR.setF{W}{rb}{s}{i}{b nv c}(h:PR W rb s i b nv c)a:PR (W.setCell (aq rb 4) a) rb s i b nv a:=
 ⟨by simpa using h.lt,aD dg h.c0,aD dg h.c1,aD dg h.c2,aD dg h.c3,eT h.c4,λj=>by rw[eG];exact h.fz j⟩
theorem GD(rb:Nat)(s:BY)(i:Nat)(b nv c:Fd)(a:Int)(w:AT)(h:PR w rb s i b nv c):
 Cw 161 #[Pq rb,.nilIface,Iq a] w λe w'=>e=Rw (.tuple #[])/\PR w' rb s i b nv c/\w.grownBy w' (some rb):=by have d:=qH<|h;go_enter func161,ntmps161;go_wp2;go_end0;grind[fX]
theorem yr(rb:Nat)(s:BY)(i:Nat)(c nv:Fd)(b:Addr)(a:Int)(w:AT)(h:PR w rb s i c nv .nilIface):
 Cw 161 #[Pq rb,aS b,Iq a] w λe w'=>e=Rw (.tuple #[])/\PR w' rb s i c nv (cj a (aS b))/\w.grownBy w' (some rb):=by have c4:=h.c4;have f4:=h.fz 4;have d:Hid (PR (w.setCell (aq rb 4) (cj a (aS b))) rb s i c nv (cj a (aS b))):=h.setF _;show Cw 161 #[Pq rb,.iface 460 (.pointer (some b)),Iq a] w _;go_enter func161,ntmps161;go_wp2;go_end0;exact⟨rfl,d,cH _ _ _ _⟩
theorem yt(rb:Nat)(s:BY)(i:Nat)(d nv:Fd)(f c:Addr)(b a:Int)(w:AT)(h:PR w rb s i d nv (cj a (aS c))):
 Cw 161 #[Pq rb,aS f,Iq b] w λe w'=>e=Rw (.tuple #[])/\PR w' rb s i d nv (cj a (aS c))/\w.grownBy w' (some rb):=by have g:=qH<|h;have c4:w.cell? (aq rb 4)=some (.iface 186 (.agg #[Iq a,.iface 460 (.pointer (some c))])):=h.c4;show Cw 161 #[Pq rb,.iface 460 (.pointer (some f)),Iq b] w _;go_enter func161,ntmps161;go_wp2;go_end0;grind[fX]
def lJ(n depth:Nat)(m d:Addr):Fd:=if 100<=n then aS m else if 12<=depth then aS d else .nilIface
theorem wG(rb:Nat)(s:BY)(i:Nat)(l q:Fd)(p:zze)(n o a:Nat)(m d:Addr)(w:AT)(h:PR w rb s i l (.slice p n o) q)(r:w.cell? (aq 1 0)=some (aS m))(hd:w.cell? (aq 2 0)=some (aS d)):
 Cw 162 #[Pq rb,Iq (a:Int)] w λe w'=>e=Rw (lJ n a m d)/\w'=w:=by
 have c3:=h.c3;have t:w.cell? (aq 1 0)=some (.iface 460 (.pointer (some m))):=r;by_cases c:100<=n
 ·have f:(100:Int)<=(n:Int):=dg
  have b:Hid (lJ n a m d=.iface 460 (.pointer (some m))):=by show _=_;unfold lJ;rw[if_pos c];rfl
  go_enter func162,ntmps162;go_wp2;go_ret;exact⟨by rw[b.out];rfl,rfl⟩
 ·have f:¬(100:Int)<=(n:Int):=dg
  by_cases k:12<=a
  ·have g:(12:Int)<=(a:Int):=dg
   have b:Hid (lJ n a m d=.iface 460 (.pointer (some d))):=by show _=_;unfold lJ;rw[if_neg c,if_pos k];rfl
   go_enter func162,ntmps162;go_wp2;go_ret;exact⟨by rw[b.out];rfl,rfl⟩
  ·have g:¬(12:Int)<=(a:Int):=dg
   have b:Hid (lJ n a m d=.nilIface):=by show _=_;unfold lJ;rw[if_neg c,if_neg k]
   go_enter func162,ntmps162;go_wp2;go_ret;exact⟨by rw[b.out];rfl,rfl⟩
def jR(i:Int):Fd:=if i<0 then .tuple #[Iq 0,.bool false]else .tuple #[Iq i,.bool true]
theorem Ds(t:BY)(w:AT)(a b c d f g h:BY)(D:w.cell? (aq 8 0)=some (.string a))(E:w.cell? (aq 8 1)=some (.string b))(F:w.cell? (aq 8 2)=some (.string c))(G:w.cell? (aq 8 3)=some (.string d))(H:w.cell? (aq 8 4)=some (.string f))(I:w.cell? (aq 8 5)=some (.string g))(J:w.cell? (aq 8 6)=some (.string h)):
 Cw 160 #[.string t] w λe w'=>e=Rw (jR (aE [a,b,c,d,f,g,h] t 0))/\w'=w:=by
 have p:∀k:Nat,k<7->∃n,aE ([a,b,c,d,f,g,h].drop k) t k=(if n=t then(k:Int)else aE ([a,b,c,d,f,g,h].drop (k+1)) t (k+1))/\∀w,(Instr.index 328 (.agg #[.string a,.string b,.string c,.string d,.string f,.string g,.string h]) (Iq k)).run prog w=.ok (.string n) w:=λk O=>by
  have M:k=0\/k=1\/k=2\/k=3\/k=4\/k=5\/k=6:=dg;rcases M with rfl|rfl|rfl|rfl|rfl|rfl|rfl<;>exact⟨_,rfl,λ_=>pt⟩
 have p:=qH p;go_enter func160,ntmps160;go_wp2;clear D E F G H I J;go_loop[7] (λi=>∃k:Nat,k<=7/\i=Iq k/\Hid (aE [a,b,c,d,f,g,h] t 0=aE ([a,b,c,d,f,g,h].drop k) t k)) (λi=>7-(intOf i).toNat);case atStart=>grind
 case round=>
  obtain⟨k,O,rfl,l⟩:=hrel;by_cases q:k<7
  ·have m:(k:Int)<7:=dg
   obtain⟨n,A,N⟩:=p k q;have r:=qH A;clear A;by_cases e:n=t
   ·have o:Hid (jR (aE [a,b,c,d,f,g,h] t 0)=.tuple #[Iq k,.bool true]):=by show _=_;rw[l.out,r.out,if_pos e];unfold jR;rw[if_neg dg]
    subst e;clear l;go_wp2;go_ret2;exact⟨by rw[o.out];rfl,rfl⟩
   ·have o:Hid (aE [a,b,c,d,f,g,h] t 0=aE ([a,b,c,d,f,g,h].drop (k+1)) t (k+1)):=by show _=_;rw[l.out,r.out,if_neg e]
    have P:=Ac e;clear l;go_wp2;go_round;case rel=>grind
    case measure=>simp[intOf];omega
  ·have m:¬(k:Int)<7:=dg
   obtain rfl:k=7:=dg;have o:Hid (jR (aE [a,b,c,d,f,g,h] t 0)=.tuple #[Iq 0,.bool false]):=by show _=_;rw[l.out];simp[aE,jR]
   clear l;go_wp2;go_ret2;exact⟨by rw[o.out];rfl,rfl⟩
def FL(er at_:Int)(f:fA)(i:Nat):Prop:=match f with
 |none=>at_<0
 |some (c,p)=>er=c/\at_=p/\p<=i
theorem FL.on{b at_}{f}{i j}(h:FL b at_ f i)(a:i<=j):FL b at_ f j:=by
 cases f with
 |none=>exact h
 |some x=>obtain⟨c,p⟩:=x;exact⟨h.1,h.2.1,az h.2.2 a⟩
theorem FL.add{a at_}{f}{i}(h:FL a at_ f i)(c p:Nat)(l:i<=p):FL (TH a at_ c p) (TF at_ p) (gA f c p) p:=by
 cases f with
 |none=>have b:at_<0:=h;unfold TH TF;rw[if_pos (.inl b),if_pos (.inl b)];exact⟨rfl,rfl,ad _⟩
 |some x=>
  obtain⟨m,o⟩:=x;obtain⟨e,g,k⟩:=h;have d:¬(at_<0\/(p:Int)<at_):=dg;unfold TH TF;rw[if_neg d,if_neg d];exact⟨e,g,az k l⟩
def fa(kind:Nat)(L:zza)(er:fA)(a:zzc)(seen:zzh)(st:Pr):fA×List Int×List Nat:=
 if st.ix<0\/iY kind st.ix.toNat=false then(gA er 7 st.at_,a,seen)
 else(dl (decide (st.ix=0/\0<st.n)&&jP L st.n) (dl (decide (iX[st.ix.toNat]?.getD 0<st.n)) (dl (seen.contains st.ix.toNat) er 5 st.at_) 6 st.p) 5 st.p,a.set st.ix.toNat st.n,st.ix.toNat::seen)
theorem tR s i bad:i<=(bu s i bad).at_/\(bu s i bad).at_<=(bu s i bad).p/\(bu s i bad).p<=(bu s i bad).i:=by
 have a:=fP s i;have c:sk s i<=wI s (sk s i) bad:=by unfold wI;split;exact az (fP s (sk s i)) (io _ _ _);exact fP _ _
 have b:wI s (sk s i) bad<=mI s (wI s (sk s i) bad) 61 (wB s (sk s i) bad):=by
  unfold mI;split;·grind[ao,fP,wI,sk]
  ·exact fP _ _
 grind[sk,mI,wI,wB,nI,mB,io,fP,bu]
theorem Ab s i bad(hi:i<=s.size):(bu s i bad).i<=s.size:=by grind[bu,QJ,QI,QU,f_]
theorem oK s b L i f a seen bad(c:bad<0):
 ((bu s i bad).bad=bad/\fD s b L i f a seen=.ok ((bu s i bad).i,fa b L f a seen (bu s i bad)))
 \/(0<=(bu s i bad).bad/\fD s b L i f a seen=.error (bu s i bad).bad.toNat):=by
 unfold fD;simp only;have d:=nw s i;have E:wI s (sk s i) bad=run ap s (sk s i):=by unfold wI;rw[if_pos c,d]
 by_cases k:run ap s (sk s i)=sk s i;·grind[wB,sk,ID,bu,mB,wI,nB]
 ·have A:wB s (sk s i) bad=bad:=by unfold wB;rw[if_pos c];unfold ID;rw[d,if_neg k]
  rw[if_neg k];by_cases l:aR s (run ap s (sk s i)) 61=true
  ·have D:mB s (run ap s (sk s i)) 61 bad=bad:=by unfold mB;rw[if_pos c];unfold GX;rw[if_pos l]
   have g:mI s (run ap s (sk s i)) 61 bad=ao s (run ap s (sk s i)) 61:=by unfold mI;rw[if_pos c]
   have h:dV s (run ap s (sk s i)) 61=.ok (ao s (run ap s (sk s i)) 61):=by unfold dV;rw[if_pos l]
   rw[h];simp only;have m:bu s i bad={i:=run aL s (sk s (ao s (run ap s (sk s i)) 61)),bad:=Ll s (sk s (ao s (run ap s (sk s i)) 61)) (run aL s (sk s (ao s (run ap s (sk s i)) 61))) bad,n:=dv s (sk s (ao s (run ap s (sk s i)) 61)) (run aL s (sk s (ao s (run ap s (sk s i)) 61))-sk s (ao s (run ap s (sk s i)) 61)),p:=sk s (ao s (run ap s (sk s i)) 61),at_:=sk s i,ix:=aE cm (s.extract (sk s i) (run ap s (sk s i))) 0}:=by
    unfold bu;simp only;rw[E,A,D,g];have o:nI s (ao s (run ap s (sk s i)) 61) bad=run aL s (sk s (ao s (run ap s (sk s i)) 61)):=by unfold nI;rw[if_pos c]
    have q:nB s (ao s (run ap s (sk s i)) 61) bad=Ll s (sk s (ao s (run ap s (sk s i)) 61)) (run aL s (sk s (ao s (run ap s (sk s i)) 61))) bad:=by unfold nB;rw[if_pos c]
    have r:nV s (ao s (run ap s (sk s i)) 61) bad=dv s (sk s (ao s (run ap s (sk s i)) 61)) (run aL s (sk s (ao s (run ap s (sk s i)) 61))-sk s (ao s (run ap s (sk s i)) 61)):=by unfold nV;rw[if_pos c]
    have t:wS s (sk s i) bad=s.extract (sk s i) (run ap s (sk s i)):=by unfold wS;rw[if_pos c,d]
    rw[o,q,r,t]
   generalize sk s (ao s (run ap s (sk s i)) 61)=j at m⊢;generalize run aL s j=e at m⊢;by_cases F:ie s j e=true;all_goals grind[bu,Ll,ie,fa]
  grind[aR,run,ap,sk,mB,GX,dV,bu,nB]
theorem oM{s}{c}{L}{f i}{d}{a}{seen}{b}(h:fD s c L i d a seen=.error b):cX s c L (f+1) i d a seen=.error b:=by rw[cX,h]
theorem mQ{s}{b}{L}{f i e}{k d}{a g}{seen c}(h:fD s b L i k a seen=.ok (e,d,g,c))(l:aR s e 59=true):cX s b L (f+1) i k a seen=cX s b L f (ao s e 59) d g c:=by grind[cX]
def mc(s:BY)(i:Nat)(er:fA)(a:zzc):Except Nat (Nat×fA×List Int):=match dV s i 125 with
 |.error b=>.error b
 |.ok i3=>.ok (i3,er,a)
theorem mP{s}{b}{L}{f i e}{k d}{a g}{seen c}(h:fD s b L i k a seen=.ok (e,d,g,c))(l:¬aR s e 59=true):cX s b L (f+1) i k a seen=mc s e d g:=by rw[cX,h];simp only;rw[if_neg l];rfl
theorem J9 s i c:aR s (sk s i) c=aR s i c:=by unfold aR;rw[nw]
theorem JX s i c:ao s (sk s i) c=ao s i c:=by unfold ao;rw[nw]
theorem Cz s i b a:mc s (sk s i) b a=mc s i b a:=by grind[mc,dV,J9,JX,nw]
theorem KB.z{u:AT}{g m j:Nat}(h:KB u g m KZ)(a:j<m):∃x,u.cell? (aq g j)=some (Iq x):=by obtain⟨_,_,h,x,rfl⟩:=h.2 j a;exact⟨x,h⟩
theorem Jh{W W':AT}{r:Option Nat}(h:Bq W W'):W.grownBy W' r:=⟨h.os,h.tape,h.output,h.size,λb a _=>h.block b a⟩
def KY(W:AT)(pb n:Nat)(u:AT):Prop:=W.grownBy u (some pb)/\KB u pb (n*10) KZ
section
variable{W u v:AT} {pb n:Nat}
theorem KY.below(h:KY W pb n u)(b:Bq u v):KY W pb n v:=⟨h.1.trans (Jh b),h.2.below b⟩
theorem KY.trans(h:KY W pb n u)(k:KY u pb n v):KY W pb n v:=⟨h.1.trans k.1,k.2⟩
theorem KY.set(h:KY W pb n u)(o:Nat)(x:Int):KY W pb n (u.setCell (aq pb o) (Iq x)):=⟨⟨h.1.os,h.1.tape,h.1.output,by simpa[World.setCell]using h.1.size,λb c a=>(aH _ _ _ b λe=>a (by rw[e])).trans (h.1.block b c a)⟩,h.2.set _ _ _ λ_=>⟨_,rfl⟩⟩
theorem KY.other(h:KY W pb n u)(b o:Nat)(x:Fd)(g:W.heap.size<=b)(f:b≠pb):KY W pb n (u.setCell (aq b o) x):=⟨⟨h.1.os,h.1.tape,h.1.output,by simpa[World.setCell]using h.1.size,λc a d=>(aH _ _ _ c (by show c≠b;omega)).trans (h.1.block c a d)⟩,h.2.set _ _ _ λe=>absurd e f⟩
end
def KJ(rb:Nat)(s:BY)(lv:Fd)(i:Nat)(bad at_:Int)(w:AT):Prop:=i<=s.size/\∃er om,RS w rb s i lv bad er at_ om/\(0<=at_->er≠0)
def KD(rb i:Nat)(bad at_:Int)(w:AT)(i':Nat)(bi dY:Int)(w':AT):Prop:=i<=i'/\(bi<0->bad<0)/\(dY<0->at_<0)/\w.grownBy w' (some rb)
def KE(rb:Nat)(s:BY)(lv:Fd)(i:Nat)(bad at_:Int)(w:AT)(x:Nat->Int->Int->Prop)(w':AT):Prop:=∃i' bi dY,KJ rb s lv i' bi dY w'/\KD rb i bad at_ w i' bi dY w'/\x i' bi dY
section
variable{rb i j:Nat} {s:BY} {lv:Fd} {bad at_ bi dY:Int} {w w' w2:AT} {x y:Nat->Int->Int->Prop}
theorem KD.refl:KD rb i bad at_ w i bad at_ w:=⟨ad _,id,id,fX _ _⟩
theorem KD.trans{k:Nat}{b a:Int}(h:KD rb i bad at_ w j bi dY w')(c:KD rb j bi dY w' k b a w2):KD rb i bad at_ w k b a w2:=⟨az h.1 c.1,λe=>h.2.1 (c.2.1 e),λe=>h.2.2.1 (c.2.2.1 e),gr_trans h.2.2.2 c.2.2.2⟩
theorem KE.on(h:KD rb i bad at_ w j bi dY w')(k:KE rb s lv j bi dY w' x w2)(q:∀a b c,x a b c->j<=a->y a b c):KE rb s lv i bad at_ w y w2:=by obtain⟨a,b,c,e,d,f⟩:=k;exact⟨a,b,c,e,h.trans d,q a b c f d.1⟩
theorem KJ.dr(h:KJ rb s lv i bad at_ w)(q:Nat):KJ rb s lv i bad at_ (w.drewN q):=by obtain⟨h,b,a,r,e⟩:=h;exact⟨h,b,a,r.drewN q,e⟩
theorem KD.dr(h:KD rb i bad at_ w j bi dY w')(q:Nat):KD rb i bad at_ w j bi dY (w'.drewN q):=⟨h.1,h.2.1,h.2.2.1,gr_trans h.2.2.2 (a_ _ _ _)⟩
theorem Hz{b a:Int}(h:RS w rb s i lv bad b at_ a)(q:Nat):RS ((w.drewN q).setCell (aq rb 1) (Iq ((i:Int)+1))) rb s (i+1) lv bad b at_ a:=by have:=(h.drewN q).setI (i+1);rwa[show((i+1:Nat):Int)=(i:Int)+1 by omega]at this
theorem o7(w:AT)(rb q:Nat)(v:Fd):w.grownBy ((w.drewN q).setCell (aq rb 1) v) (some rb):=gr_trans (a_ _ _ _) (cH _ _ _ _)
theorem oR(x:Int)(a b:Int):(x==a)=true\/((x==a)=false/\(x==b)=true)\/((x==a)=false/\(x==b)=false):=by cases c:(x==a)<;>cases d:(x==b)<;>simp
theorem rJ(h:KJ rb s lv i bad at_ w)(G:s.size<=4000):Cw 38 #[Pq rb] w λe w'=>e=Rw (.tuple #[])/\KE rb s lv i bad at_ w (λ_ b a=>b=bad/\a=at_) w':=by
 obtain⟨hi,o,d,h,g⟩:=h;replace h:=qH h;replace g:=qH g;go_enter func38,ntmps38;go_wp2;go_loopw[2] (λ_ wr=>∃k:Nat,i<=k/\k<=s.size/\Hid (RS wr rb s k lv bad o at_ d/\w.grownBy wr (some rb))) (λ_ wr=>s.size-rdI wr rb);case atStart=>exact⟨i,ad _,hi,h,fX _ _⟩
 case round=>
  obtain⟨k,E,A,c⟩:=hrel;have F:=c.1.c0;have c1:=c.1.c1;have f1:=c.1.fz 1;have p:=qH c.1.rdI;have l:=qH (Hz c.1);have r:Hid (∀q,KE rb s lv i bad at_ w (λ_ b a=>b=bad/\a=at_) (wr.drewN q)):=λq=>⟨k,bad,at_,⟨A,o,d,c.1.drewN q,g⟩,⟨E,id,id,gr_trans c.2 (a_ _ _ _)⟩,rfl,rfl⟩;by_cases D:k<s.size;focus
   have f:(k:Int)<(s.size:Int):=dg;obtain⟨x,H⟩:=af (s[k].toNat);rcases oR (x:Int) 32 10 with m|⟨m,t⟩|⟨m,t⟩
  rotate_right;focus have f:¬(k:Int)<(s.size:Int):=dg
  all_goals
   go_wp2_with fail;go_quiet(fail);go_wp2;first
    |(go_end0;exact⟨rfl,r _⟩)
    |(go_roundw;(case rel=>exact⟨k+1,dg,dg,l _,gr_trans c.2 (o7 _ _ _ _)⟩);(case measure=>(rw[(l _).rdI,p.out];omega)))
theorem rH(h:KJ rb s lv i bad at_ w)(a:Int):Cw 39 #[Pq rb,Iq a] w λe w'=>e=Rw (.tuple #[])/\KE rb s lv i bad at_ w (λj b _=>j=i/\(0<=a->0<=b)) w':=by
 obtain⟨hi,g,c,h,d⟩:=h;have c3:=h.c3;have f3:=h.fz 3;replace h:=qH h;replace d:=qH d;by_cases k:bad<0;all_goals
  have f:=qH k;go_enter func39,ntmps39;go_wp2;go_end0;first
   |exact⟨rfl,i,a,at_,⟨hi,g,c,h.setBad a,d⟩,⟨ad _,λ_=>f,id,cH _ _ _ _⟩,rfl,id⟩
   |exact⟨rfl,i,bad,at_,⟨hi,g,c,h,d⟩,KD.refl,rfl,λ_=>by have:=f.out;omega⟩
theorem yl(h:KJ rb s lv i bad at_ w)(e:Int)(a:Nat)(d:e≠0):Cw 77 #[Pq rb,Iq e,Iq (a:Int)] w λr w'=>r=Rw (.tuple #[])/\KE rb s lv i bad at_ w (λj b c=>j=i/\b=bad/\0<=c) w':=by
 obtain⟨hi,m,f,h,k⟩:=h;have c5:=h.c5;have c4:=h.c4;have f4:=h.fz 4;have f5:=h.fz 5;replace h:=qH h;replace k:=qH k;rcases(by omega:at_<0\/(¬at_<0/\(a:Int)<at_)\/(¬at_<0/\¬(a:Int)<at_))with g|⟨g,o⟩|⟨g,o⟩;all_goals
  have l:=qH g;replace d:=qH d;go_enter func77,ntmps77;go_wp2;go_end0;first
   |exact⟨rfl,i,bad,a,⟨hi,e,f,h.setErr e a,λ_=>d⟩,⟨ad _,id,λq=>absurd q dg,gr_trans (cH _ _ _ _) (cH _ _ _ _)⟩,rfl,rfl,dg⟩
   |exact⟨rfl,i,bad,at_,⟨hi,m,f,h,k⟩,KD.refl,rfl,rfl,by have:=l.out;omega⟩
theorem J'(h:KJ rb s lv i bad at_ w)(H:s.size<=4000)(c:Int):Cw 118 #[Pq rb,.int .u8 c] w λe w'=>∃b:Bool,e=Rw (.bool b)/\KE rb s lv i bad at_ w (λj m a=>m=bad/\a=at_/\(b=true->i<j)) w':=by
 have CS:=qH (rJ h H);clear h;go_enter func118,ntmps118;go_wp2_with fail;refine CS.mono ?_;rintro e J ⟨rfl,j,bi,dY,⟨F,o,g,f,l⟩,⟨I,-,-,k⟩,rfl,rfl⟩;have M:=f.c0;have c1:=f.c1;have c3:=f.c3;have f1:=f.fz 1;replace l:=qH l;have t:=qH (Hz f);have r:Hid (∀q,KE rb s lv i bi dY w (λj m a=>m=bi/\a=dY/\(false=true->i<j)) (J.drewN q)):=λq=>⟨j,bi,dY,⟨F,o,g,f.drewN q,l⟩,⟨I,id,id,gr_trans k (a_ _ _ _)⟩,rfl,rfl,λe=>by cases e⟩;replace k:=qH k;clear f CS;by_cases p:bi<0;focus
  have A:=decide_eq_true p;by_cases G:j<s.size;focus
   have d:(j:Int)<(s.size:Int):=dg;have D:=decide_eq_true d;obtain⟨x,N⟩:=af (s[j].toNat);obtain⟨b,E⟩:=af ((x:Int)==c);cases b
  rotate_right;focus
   have d:¬(j:Int)<(s.size:Int):=dg;have D:=decide_eq_false d
 rotate_right;focus have A:=decide_eq_false p
 all_goals
  go_wp2_with fail;go_quiet(fail);go_wp2;go_ret;first
   |exact⟨_,rfl,r _⟩
   |exact⟨_,rfl,j+1,bi,dY,⟨dg,o,g,t _,l⟩,⟨dg,id,id,gr_trans k (o7 _ _ _ _)⟩,rfl,rfl,λ_=>dg⟩
theorem AU(h:KJ rb s lv i bad at_ w)(m:s.size<=4000)(c:Int):Cw 80 #[Pq rb,.int .u8 c] w λe w'=>e=Rw (.tuple #[])/\KE rb s lv i bad at_ w (λ_ _ _=>True) w':=by
 have f:=qH (J' h m c);clear h;go_enter func80,ntmps80;go_wp2_with fail;refine f.mono ?_;rintro e o ⟨b,rfl,j,bi,dY,a,d,-⟩;have c1:=a.2.choose_spec.choose_spec.1.c1;have g:=qH (rH a j);replace d:=qH d;replace a:=qH a;clear f;cases b;·go_wp2_with fail;refine g.mono ?_;rintro e w2 ⟨rfl,k⟩;have l:=qH (KE.on (y:=λ_ _ _=>True) d k λ_ _ _ _ _=>trivial);go_wp2;go_end0;exact⟨rfl,l⟩
 ·go_wp2;go_end0;exact⟨rfl,j,bi,dY,a,d,trivial⟩
end
def Rc(_:Nat)(v:Fd):Prop:=∃t,v=.string t
def O5(b:Bool):Fd->Bool
 |.string _=>b
 |.int .i64 _=>!b
 |_=>false
theorem Qh{v:Fd}(h:O5 true v=true):Rc 0 v:=by
 cases v<;>simp[O5]at h;·split at h<;>simp_all
 ·exact⟨_,rfl⟩
theorem Qi{v:Fd}(h:O5 false v=true):KZ 0 v:=by cases v<;>simp[O5]at h;split at h<;>simp_all[KZ]
theorem KB.lit(w:AT)(a:List Fd)(T:Nat){P:Nat->Fd->Prop}{p:Fd->Bool}(c:∀v j,p v=true->P j v)(h:a.all p=true):KB (w.alloc (.cells a.toArray T)) w.heap.size a.length P:=by refine⟨At,λj b=>⟨At,a[j],?_,c _ _ (xi.1 h _ (iB b))⟩⟩;rw[World.cell?_alloc_at _ _ _ _ rfl];simp[b]
section
variable{rb i j:Nat} {s:BY} {lv:Fd} {bad at_ bi dY:Int} {w w' w2:AT} {x y:Nat->Int->Int->Prop}
def Rb(w:AT)(n:Nat)(P:Nat->Fd->Prop)(e:Ending)(w':AT):Prop:=e=Rw (Sq w.heap.size n n)/\KB w' w.heap.size n P/\Bq w w'
theorem tq(w:AT):Cw 76 #[] w (Rb w 7 Rc)/\Cw 120 #[] w (Rb w 12 Rc)/\Cw 122 #[] w (Rb w 12 KZ)/\Cw 117 #[] w (Rb w 12 KZ):=by
 refine⟨?_,?_,?_,?_⟩;all_goals
  first|go_enter func76,ntmps76|go_enter func120,ntmps120|go_enter func122,ntmps122|go_enter func117,ntmps117
  go_wp2;go_ret;exact⟨rfl,by first|exact KB.lit _ _ _ (p:=O5 true) (λv _ h=>Qh h) rfl|exact KB.lit _ _ _ (p:=O5 false) (λv _ h=>Qi h) rfl,(ac _ _).alloc (ad _) _⟩
theorem Ql(a b:Int)(w:AT):Cw 121 #[Iq a,Iq b] w λe w'=>(∃c:Bool,e=Rw (.bool c))/\w'=w:=by go_enter func121,ntmps121;go_wp2;all_goals go_ret;exact⟨⟨_,rfl⟩,rfl⟩
theorem ML{g n:Nat}(h:KB w g n Rc)(l:n<=12)(t:BY):Cw 75 #[Sq g n n,.string t] w λe w'=>(∃k:Int,e=Rw (Iq k)/\-1<=k/\k<n)/\w'=w:=by
 have c:Hid (∀j,j<n->∃t,w.cell? (aq g j)=some (.string t)):=λj d=>by obtain⟨_,_,h,t,rfl⟩:=h.2 j d;exact⟨t,h⟩
 clear h;go_enter func75,ntmps75;go_wp2;go_loop[5] (λi=>∃k:Nat,k<=n/\i=Iq k) (λi=>n-(intOf i).toNat);case atStart=>exact⟨0,aP _,rfl⟩
 case round=>
  obtain⟨k,f,rfl⟩:=hrel;by_cases b:k<n
  ·have a:(k:Int)<(n:Int):=dg
   obtain⟨y,hy⟩:=c k b;go_wp2;all_goals first
    |(go_ret;exact⟨⟨_,rfl,dg,dg⟩,rfl⟩)
    |exact⟨⟨k+1,dg,by go_num⟩,by simp only[intOf];omega⟩
  ·have a:¬(k:Int)<(n:Int):=dg
   go_wp2;go_ret;exact⟨⟨_,rfl,dg,dg⟩,rfl⟩
theorem MM(h:KJ rb s lv i bad at_ w)(hs:s.size<=4000):Cw 74 #[Pq rb] w λe w'=>(∃t,e=Rw (.string t))/\KE rb s lv i bad at_ w (λa b _=>b<0->i<a) w':=by
 have CS:=qH (rJ h hs);clear h;go_enter func74,ntmps74;go_wp2_with fail;refine CS.mono ?_;rintro e w1 ⟨rfl,j,bi,dY,⟨Y,H,g,l,p⟩,⟨ij,-,-,o⟩,rfl,rfl⟩;have d1:=l.c1;replace l:=qH l;replace o:=qH o;replace p:=qH p;clear CS;go_wp2;clear d1;go_loopw[10] (λ_ wr=>∃k:Nat,j<=k/\k<=s.size/\Hid (RS wr rb s k lv bi H dY g/\w.grownBy wr (some rb))) (λ_ wr=>s.size-rdI wr rb);case atStart=>exact⟨j,ad _,Y,l,o⟩
 case round=>
  obtain⟨k,jk,Z,f⟩:=hrel;have Q:=f.1.c0;have c1:=f.1.c1;have c3:=f.1.c3;have f1:=f.1.fz 1;have O:=qH f.1.rdI;have E:=qH (Hz f.1);have m:Hid (∀q,KJ rb s lv k bi dY (wr.drewN q)/\KD rb i bi dY w k bi dY (wr.drewN q)):=λq=>⟨⟨Z,H,g,f.1.drewN q,p⟩,dg,id,id,gr_trans f.2 (a_ _ _ _)⟩;by_cases J:bi<0;focus
   have U:=decide_eq_true J;by_cases zg:k<s.size;focus
    have d:(k:Int)<(s.size:Int):=dg;have V:=decide_eq_true d;obtain⟨x,hx⟩:=af (s[k].toNat);obtain⟨R,l⟩:=af (decide ((97:Int)<=(x:Int)));obtain⟨S,h2⟩:=af (decide ((x:Int)<=122));cases R<;>cases S;rotate_right;focus
     go_wp2_with fail;go_quiet(fail);go_wp2;go_roundw;case rel=>exact⟨k+1,dg,dg,E _,gr_trans f.2 (o7 _ _ _ _)⟩
     case measure=>rw[(E _).rdI,O.out];omega
   rotate_right;focus
    have d:¬(k:Int)<(s.size:Int):=dg;have V:=decide_eq_false d
  rotate_right;focus have U:=decide_eq_false J
  all_goals
   go_wp2_with fail;go_quiet(fail);by_cases r:k=j;·subst r;go_wp2_with fail;refine(rH (m _).1 (k:Int)).mono ?_;rintro e w2 ⟨rfl,a,b,c,F,D,rfl,I⟩;have P:Hid (∀q,KE rb s lv i bi dY w (λa b _=>b<0->i<a) (w2.drewN q)):=λq=>⟨a,b,c,F.dr q,((m _).2.trans D).dr q,λe=>by have:=I dg;omega⟩;obtain⟨_,X,G,A,_⟩:=F;have d0:=A.c0;have d1:=A.c1;clear A D Q c1 c3 f1 I;go_wp2_with fail;go_quiet(fail);go_wp2;go_ret;exact⟨⟨_,rfl⟩,P _⟩
   ·have N:((k:Int)==(j:Int))=false:=by simp;omega
    have M:(j:Int)<=(k:Int):=dg;have ze:(k:Int)<=(s.size:Int):=dg;go_wp2_with fail;go_quiet(fail);go_wp2;go_ret;exact⟨⟨_,rfl⟩,k,bi,dY,(m _).1.dr _,(m _).2.dr _,λ_=>dg⟩
end
section
variable{rb i j:Nat} {s:BY} {lv:Fd} {bad at_ bi dY:Int} {w w' w2:AT} {x y:Nat->Int->Int->Prop}
theorem Ka(h:KJ rb s lv i bad at_ w)(S:s.size<=4000):Cw 119 #[Pq rb] w λe w'=>(∃(n:Int) (p:Nat),e=Rw (.tuple #[Iq n,Iq (p:Int)]))/\KE rb s lv i bad at_ w (λ_ _ _=>True) w':=by
 have CS:=qH (rJ h S);clear h;go_enter func119,ntmps119;go_wp2_with fail;refine CS.mono ?_;rintro e w1 ⟨rfl,j,bi,dY,⟨O,A,g,l,t⟩,⟨ij,-,-,r⟩,rfl,rfl⟩;have d1:=l.c1;replace l:=qH l;replace r:=qH r;replace t:=qH t;clear CS;go_wp2;clear d1;go_loopw[5,13] (λv _ wr=>∃(k:Nat) (n:Int),v=Iq n/\j<=k/\k<=s.size/\Hid (RS wr rb s k lv bi A dY g/\w.grownBy wr (some rb))) (λ_ _ wr=>s.size-rdI wr rb);case atStart=>exact⟨j,0,rfl,ad _,O,l,r⟩
 case round=>
  obtain⟨k,n,rfl,jk,Q,f⟩:=hrel;have U:=f.1.c0;have c1:=f.1.c1;have c3:=f.1.c3;have f1:=f.1.fz 1;have G:=qH f.1.rdI;have o:=qH (Hz f.1);have m:Hid (∀q,KJ rb s lv k bi dY (wr.drewN q)/\KD rb i bi dY w k bi dY (wr.drewN q)):=λq=>⟨⟨Q,A,g,f.1.drewN q,t⟩,dg,id,id,gr_trans f.2 (a_ _ _ _)⟩;by_cases D:bi<0;focus
   have M:=decide_eq_true D;by_cases R:k<s.size;focus
    have d:(k:Int)<(s.size:Int):=dg;have N:=decide_eq_true d;obtain⟨x,Y⟩:=af (s[k].toNat);obtain⟨I,l⟩:=af (decide ((48:Int)<=(x:Int)));obtain⟨J,V⟩:=af (decide ((x:Int)<=57));cases I<;>cases J;rotate_right;focus
     by_cases X:(k:Int)-(j:Int)<6;all_goals
      go_wp2_with fail;go_quiet(fail);go_wp2_with fail;try go_quiet(fail)
      go_wp2;go_roundw;case rel=>exact⟨k+1,_,rfl,dg,dg,by first|exact o _|exact(o _).drewN _,gr_trans f.2 (o7 _ _ _ _)⟩
      case measure=>rw[(o _).rdI,G.out];omega
   rotate_right;focus
    have d:¬(k:Int)<(s.size:Int):=dg;have N:=decide_eq_false d
  rotate_right;focus have M:=decide_eq_false D
  all_goals
   by_cases t1:j+1<k;focus
    have v1:(1:Int)<(k:Int)-(j:Int):=dg;have P:j<s.size:=dg;have E:(j:Int)<(s.size:Int):=dg;obtain⟨z,Z⟩:=af (s[j].toNat)
   rotate_right;focus have v1:¬(1:Int)<(k:Int)-(j:Int):=dg
   all_goals
    go_wp2_with fail;go_quiet(fail);go_wp2_with(go_at_call 39;refine(rH (m _).1 (j:Int)).mono ?_;rintro e w2 ⟨rfl,a,b,c,H,F,-⟩);all_goals
     go_ret2;first
      |exact⟨⟨_,_,rfl⟩,a,b,c,H,(m _).2.trans F,trivial⟩
      |exact⟨⟨_,_,rfl⟩,k,bi,dY,(m _).1,(m _).2,trivial⟩
end
theorem MK(a:Int)(d:0<=a/\a<256)(w:AT)(n:Nat)(c:w.heap.size=n):(convert 158 9 (Sq n 1 1)).run prog (w.alloc (.cells #[.int .u8 a] 5))=.ok (.string ⟨#[a.toNat.toUInt8]⟩) (w.alloc (.cells #[.int .u8 a] 5)):=by
 subst c;refine run_convert_bytes_back (P:=prog) _ 158 9 5 (aq w.heap.size 0) 1 [a.toNat.toUInt8] underlying158 underlying5 underlying9 λj b=>?_;obtain rfl:j=0:=by simp at b;omega
 rw[show((aq w.heap.size 0):Addr).add 0=(aq w.heap.size 0)from rfl,World.cell?_alloc_mark];simp;omega
section
variable{rb i j:Nat} {s:BY} {lv:Fd} {bad at_ bi dY:Int} {w w' w2:AT} {x y:Nat->Int->Int->Prop}
theorem Kb(h:KJ rb s lv i bad at_ w)(hs:s.size<=4000):Cw 81 #[Pq rb] w λe w'=>(∃t,e=Rw (.string t)/\t.size<=4000)/\KE rb s lv i bad at_ w (λ_ _ _=>True) w':=by
 have R:=qH (AU h hs 34);clear h;go_enter func81,ntmps81;go_wp2_with fail;refine R.mono ?_;rintro e w1 ⟨rfl,j,bi,dY,⟨hj,G,c,D,M⟩,I,-⟩;replace D:=qH D;replace I:=qH I;replace M:=qH M;clear R;go_wp2;go_loopw[3,7] (λv _ wr=>∃(k:Nat) (Y:Array UInt8),v=.string ⟨Y⟩/\j<=k/\k<=s.size/\Y.size<=k/\Hid (RS wr rb s k lv bi G dY c/\w1.grownBy wr (some rb))) (λ_ _ wr=>s.size-rdI wr rb);case atStart=>exact⟨j,#[],rfl,ad _,hj,aP _,D,fX _ _⟩
 case round=>
  obtain⟨k,Y,rfl,Q,P,hY,b⟩:=hrel;have c0:=b.1.c0;have c1:=b.1.c1;have c3:=b.1.c3;have f1:=b.1.fz 1;have U:=qH b.1.rdI;have o:Hid (∀u m,RS u rb s m lv bi G dY c->m<=s.size->j<=m->wr.grownBy u (some rb)->KJ rb s lv m bi dY u/\KD rb i bad at_ w m bi dY u):=λu m r l H g=>⟨⟨l,G,c,r,M⟩,I.trans ⟨H,id,id,gr_trans b.2 g⟩⟩;have S:Hid (∀u m p,RS u rb s m lv bi G dY c->m<=s.size->j<=m->wr.grownBy u (some rb)->Cw 39 #[Pq rb,Iq p] u λe u'=>e=Rw (.tuple #[])/\Hid (KE rb s lv i bad at_ w (λ_ _ _=>True) u')):=λu m p r l H g=>(rH (o.out u m r l H g).1 p).mono λe u' ⟨D,h2⟩=>⟨D,KE.on (o.out u m r l H g).2 h2 λ_ _ _ _ _=>trivial⟩;by_cases hb:bi<0;rotate_right;·go_wp2;go_ret;exact⟨⟨_,rfl,by decide⟩,k,bi,dY,(o _ _ b.1 P Q (fX _ _)).1,(o _ _ b.1 P Q (fX _ _)).2,trivial⟩
  by_cases zk:k<s.size;rotate_right
  ·have O:(s.size:Int)<=(k:Int):=dg
   go_wp2_with fail;go_quiet(fail);go_wp2_with fail;refine(S _ k _ (b.1.drewN _) P Q (a_ _ _ _)).mono ?_;rintro e w2 ⟨rfl,J⟩;go_wp2;go_ret;exact⟨⟨_,rfl,by decide⟩,J⟩
  have Z:(k:Int)<(s.size:Int):=dg;have O:¬(s.size:Int)<=(k:Int):=dg;have f:=qH (Hz b.1);obtain⟨x,hx⟩:=af (s[k].toNat);have zl:x<256:=by rw[<-hx];exact UInt8.toNat_lt _
  rcases oR (x:Int) 34 92 with V|⟨V,X⟩|⟨V,X⟩;·go_wp2_with fail;go_quiet(fail);go_wp2_with fail;go_quiet(fail);go_wp2;go_ret;exact⟨⟨_,rfl,by show Y.size<=_;omega⟩,k+1,bi,dY,(o _ _ (f _) dg dg (o7 _ _ _ _)).1,(o _ _ (f _) dg dg (o7 _ _ _ _)).2,trivial⟩
  rotate_right
  ·have d:∀q,_:=λq=>MK (x:Int) ⟨dg,dg⟩ ((wr.drewN q).setCell (aq rb 1) (Iq ((k:Int)+1))) wr.heap.size At;go_wp2_with fail;go_quiet(fail);go_wp2_with fail;go_quiet(fail);go_wp2;go_roundw;case rel=>exact⟨k+1,_,rfl,dg,dg,by simp;omega,(f _).below ((ac _ _).alloc (ad _) _),gr_trans b.2 (gr_trans (o7 _ _ _ _) (db ((ac _ _).alloc (ad _) _)))⟩
   case measure=>rw[((f _).below ((ac _ _).alloc (ad _) _)).rdI,U.out];omega
  obtain rfl:x=92:=by
   have:(x:Int)=92:=by simpa using X
   omega
  have A:=qH λq F=>by have:=((f q).drewN F).setI (k+2);rwa[show((k+2:Nat):Int)=(k:Int)+1+1 by omega]at this
  have HF:=qH λu r=>S u (k+1) ((k:Int)+1) r dg dg;by_cases ze:k+1<s.size;focus
   have zg:(k:Int)+1<(s.size:Int):=dg;have N:decide ((s.size:Int)<=(k:Int)+1)=false:=decide_eq_false dg;obtain⟨y,hy⟩:=af (s[k+1].toNat);rcases(by omega:y=34\/y=92\/y=110\/(y≠34/\y≠92/\y≠110))with rfl|rfl|rfl|⟨n1,n2,n3⟩;rotate_right;focus
    have e3:((y:Int)!=34)=true:=by simp;omega
    have e4:((y:Int)!=92)=true:=by simp;omega
    have e5:((y:Int)!=110)=true:=by simp;omega
  rotate_right;focus
   have E:(s.size:Int)<=(k:Int)+1:=dg;have N:=decide_eq_true E
  all_goals
   have d:Hid (∀a,0<=a/\a<256->∀q F,(convert 158 9 (Sq wr.heap.size 1 1)).run prog (((((wr.drewN q).setCell (aq rb 1) (Iq ((k:Int)+1))).drewN F).setCell (aq rb 1) (Iq ((k:Int)+1+1))).alloc (.cells #[.int .u8 a] 5))=.ok (.string ⟨#[a.toNat.toUInt8]⟩) (((((wr.drewN q).setCell (aq rb 1) (Iq ((k:Int)+1))).drewN F).setCell (aq rb 1) (Iq ((k:Int)+1+1))).alloc (.cells #[.int .u8 a] 5))):=λa ha q F=>MK a ha _ _ At;have zh:=d 34 dg;have zi:=d 92 dg;have zj:=d 10 dg;go_wp2_with fail;go_quiet(fail);go_wp2_with fail;go_quiet(fail);go_wp2_with fail;go_quiet(fail);go_wp2_with fail;first
    |(go_quiet(fail);go_wp2;go_roundw;(case rel=>exact⟨k+2,_,rfl,dg,dg,by simp;omega,(A _ _).below ((ac _ _).alloc (ad _) _),gr_trans b.2 (gr_trans (o7 _ _ _ _) (gr_trans (o7 _ _ _ _) (db ((ac _ _).alloc (ad _) _))))⟩);(case measure=>(rw[((A _ _).below ((ac _ _).alloc (ad _) _)).rdI,U.out];omega)))
    |(refine(HF _ (by first|exact f _|exact(f _).drewN _) (by first|exact o7 _ _ _ _|exact gr_trans (o7 _ _ _ _) (a_ _ _ _))).mono ?_;rintro e w2 ⟨rfl,J⟩;go_wp2;go_ret;exact⟨⟨_,rfl,by decide⟩,J⟩)
end
structure My where
 kd:Int
 a:Int
 b:Int
 s:BY
 t:BY
 p:Option Addr
 m:Nat
 zs:List Int
def Ep(w:AT)(v:Fd)(n:Nat)(op:Nat->My):Prop:=
 ∃a cap,v=.slice a n cap/\(n=0\/∃b off,a=some (aq b off)/\b<w.heap.size/\∀i,i<n->
  w.cell? (aq b (off+i*6))=some (.int .i64 (op i).kd)/\w.cell? (aq b (off+i*6+1))=some (.int .i64 (op i).a)/\w.cell? (aq b (off+i*6+2))=some (.int .i64 (op i).b)/\w.cell? (aq b (off+i*6+3))=some (.string (op i).s)/\w.cell? (aq b (off+i*6+4))=some (.string (op i).t)/\w.cell? (aq b (off+i*6+5))=some (.slice (op i).p (op i).zs.length (op i).m)/\
  oD w (.slice (op i).p (op i).zs.length (op i).m) (op i).zs)
