import Derived.Test.YtehgehanbnkdiaaGreatDoorQ00
import Derived.WalkSpells
import Derived.WalkLawsBesides
import Derived.BigQuiet
set_option linter.all false
set_option maxRecDepth 100000
set_option maxHeartbeats 16000000
namespace Go.Proofs.YtehgehanbnkdiaaGreatDoor
open Go.RowKit Go.Proofs.Tryz
def cR(s:BY)(i:Nat):Nat:=if h:i<s.size then s[i].toNat else 256
def dN{s}{i}(h:i<s.size):cR s i=s[i].toNat:=by grind[cR]
theorem df{s}{i}(h:¬i<s.size):cR s i=256:=by grind[cR]
def FK{s}{i}(h:i<s.size):cR s i<256:=by rw[dN h];exact UInt8.toNat_lt _
def lZ(p:Nat->Bool)(s:BY):Nat->Nat->Nat
 |0,i=>i
 |f+1,i=>if p (cR s i)then lZ p s f (i+1)else i
def run(p:Nat->Bool)(s:BY)(i:Nat):Nat:=lZ p s (s.size-i) i
def gZ{p}{s}{i}(hi:i<s.size)(h:p (cR s i)=true):run p s i=run p s (i+1):=by unfold run;obtain⟨f,a⟩:∃f,s.size-i=f+1:=⟨s.size-i-1,dg⟩;rw[a,lZ,if_pos h,show s.size-(i+1)=f by omega]
def g_{p}{s}{i}(h:p (cR s i)=false):run p s i=i:=by
 unfold run;match s.size-i with
 |0=>rfl
 |f+1=>rw[lZ,h];rfl
def B9{p}{s}{i}(h:¬i<s.size):run p s i=i:=by unfold run;rw[show s.size-i=0 by omega];rfl
theorem tY p s:∀f i,i<=lZ p s f i/\lZ p s f i<=i+f
 |0,i=>⟨LE,LE⟩
 |f+1,i=>by have:=tY p s f (i+1);grind[lZ]
theorem ga p s i:i<=run p s i:=(tY p s _ i).1
theorem gI p s i(hi:i<=s.size):run p s i<=s.size:=by grind[tY,run]
def xe(p:Nat->Bool)(a:p 256=false)s:∀f i,s.size-i<=f->p (cR s (lZ p s f i))=false
 |0,i,h=>by grind[lZ,df]
 |f+1,i,h=>by
  rw[lZ];by_cases c:p (cR s i)=true;.rw[if_pos c];exact xe p a s f (i+1) dg
  grind
def MR{p:Nat->Bool}(a:p 256=false)s i:p (cR s (run p s i))=false:=xe p a s _ i LE
def blank(x:Nat):Bool:=x==32||x==10
def am(x:Nat):Bool:=decide (97<=x)&&decide (x<=122)
def aE(x:Nat):Bool:=decide (48<=x)&&decide (x<=57)
def sk(s:BY)(i:Nat):Nat:=run blank s i
theorem fG s i:i<=sk s i:=ga _ _ _
theorem gu s i(h:i<=s.size):sk s i<=s.size:=gI _ _ _ h
theorem jq s i:sk s (sk s i)=sk s i:=g_ (MR (by rfl) s i)
structure RS(W:AT)(rb:Nat)(s:BY)(i:Nat)(lv:Fd)(bad er at_ dep:Int):Prop where
 lt:rb<W.heap.size
 c0:W.cell? (aq rb 0)=some (.string s)
 c1:W.cell? (aq rb 1)=some (Iq (i:Int))
 c2:W.cell? (aq rb 2)=some lv
 c3:W.cell? (aq rb 3)=some (Iq bad)
 c4:W.cell? (aq rb 4)=some (Iq er)
 c5:W.cell? (aq rb 5)=some (Iq at_)
 c6:W.cell? (aq rb 6)=some (Iq dep)
 fz:∀j,W.frozen? (aq rb j)=false
def RS.below{W W'}{a}{s}{i}{g}{b f at_ c}(h:RS W a s i g b f at_ c)(d:Bq W W'):RS W' a s i g b f at_ c:=
 have k:∀j v,W.cell? (aq a j)=some v->W'.cell? (aq a j)=some v:=λj v e=>(d.cell (p:=(aq a j)) h.lt).trans e
 ⟨zz006 h.lt d.size,k _ _ h.c0,k _ _ h.c1,k _ _ h.c2,k _ _ h.c3,k _ _ h.c4,k _ _ h.c5,k _ _ h.c6,λj=>(d.frozen (p:=(aq a j)) h.lt).trans (h.fz j)⟩
def RS.drewN{W}{e}{s}{i}{d}{a c at_ b}(h:RS W e s i d a c at_ b)n:RS (W.drewN n) e s i d a c at_ b:=
 ⟨h.lt,h.c0,h.c1,h.c2,h.c3,h.c4,h.c5,h.c6,h.fz⟩
def aF{W:AT}{a j k}{v u}(b:j≠k)(h:W.cell? (aq a j)=some u):(W.setCell (aq a k) v).cell? (aq a j)=some u:=by rw[cu _ _ _ _ (λe=>b rn)];exact h
def ff{W:AT}{a k}{v u}(h:W.cell? (aq a k)=some u):(W.setCell (aq a k) v).cell? (aq a k)=some v:=
 nO _ _ _ rn
def RS.setI{W}{c}{s}{i}{f}{a d at_ b}(h:RS W c s i f a d at_ b)(e:Nat):RS (W.setCell (aq c 1) (Iq (e:Int))) c s e f a d at_ b:=
 ⟨by simpa using h.lt,aF dg h.c0,ff h.c1,aF dg h.c2,aF dg h.c3,aF dg h.c4,aF dg h.c5,aF dg h.c6,λj=>by rw[eS];exact h.fz j⟩
def RS.setBad{W}{d}{s}{i}{f}{c e at_ a}(h:RS W d s i f c e at_ a)b:RS (W.setCell (aq d 3) (Iq b)) d s i f b e at_ a:=
 ⟨by simpa using h.lt,aF dg h.c0,aF dg h.c1,aF dg h.c2,ff h.c3,aF dg h.c4,aF dg h.c5,aF dg h.c6,λj=>by rw[eS];exact h.fz j⟩
def RS.setErr{W}{e}{s}{i}{f}{a g at_ d}(h:RS W e s i f a g at_ d)b c:RS ((W.setCell (aq e 4) (Iq b)).setCell (aq e 5) (Iq c)) e s i f a b c d:=
 ⟨by simpa using h.lt,aF dg (aF dg h.c0),aF dg (aF dg h.c1),aF dg (aF dg h.c2),aF dg (aF dg h.c3),aF dg (ff h.c4),ff (aF dg h.c5),aF dg (aF dg h.c6),λj=>by rw[eS,eS];exact h.fz j⟩
theorem gs(W:AT)b:W.grownBy W (some b):=⟨rfl,rfl,rfl,LE,λ_ _ _=>rfl⟩
def gr_trans{A B C:AT}{b}(h:A.grownBy B (some b))(k:B.grownBy C (some b)):A.grownBy C (some b):=
 ⟨k.os.trans h.os,k.tape.trans h.tape,k.output.trans h.output,aA h.size k.size,λi hi a=>(k.block i (zz006 hi h.size) a).trans (h.block i hi a)⟩
def cM(W:AT)b i v:W.grownBy (W.setCell (aq b i) v) (some b):=
 ⟨rfl,rfl,rfl,At,λk _ a=>heap_setCell_other _ _ _ _ (λe=>a (by rw[e]))⟩
def bi(W:AT)n b:W.grownBy (W.drewN n) (some b):=⟨rfl,rfl,rfl,LE,λ_ _ _=>rfl⟩
def dm{A B}{b}(h:Bq A B):A.grownBy B (some b):=⟨h.os,h.tape,h.output,h.size,λi hi _=>h.block i hi⟩
def rdI(W:AT)(rb:Nat):Nat:=match W.cell? (aq rb 1)with
 |some (.int _ x)=>x.toNat
 |_=>0
def RS.rdI{W:AT}{c:Nat}{s:BY}{i:Nat}{e:Fd}{a d at_ b:Int}(h:RS W c s i e a d at_ b):rdI W c=i:=by unfold Go.Proofs.YtehgehanbnkdiaaGreatDoor.rdI;rw[h.c1];simp
def aK(s:BY)(i:Nat)(c:Nat):Bool:=cR s (sk s i)==c
def an(s:BY)(i:Nat)(c:Nat):Nat:=if cR s (sk s i)=c then sk s i+1 else sk s i
def oO(w:AT)(v:Fd)(zs:zzc):Prop:=
 ∃a cap,v=.slice a zs.length cap/\(zs=[]\/∃b off,a=some (aq b off)/\b<w.heap.size/\∀j,j<zs.length->w.cell? (aq b (off+j))=some (Iq (zs[j]?.getD 0)))
def Db(e:Ending):Prop:=∃x,e=Rw (Iq x)
def Xc(e:Ending):Prop:=∃x y z u,e=Rw (.agg #[Iq x,Iq y,Iq z,Iq u])
def KB(W:AT)(g n:Nat)(P:Nat->Fd->Prop):Prop:=g<W.heap.size/\∀j,j<n->W.frozen? (aq g j)=false/\∃x,W.cell? (aq g j)=some x/\P j x
def KB.of{W W':AT}{g n:Nat}{P:Nat->Fd->Prop}(h:KB W g n P)(c:W.heap.size<=W'.heap.size)(a:W'.heap[g]?=W.heap[g]?):KB W' g n P:=by refine⟨zz006 h.1 c,λj b=>?_⟩;rw[aQ (w:=W) a,kE (w:=W) a];exact h.2 j b
def KB.below{W W':AT}{g n:Nat}{P:Nat->Fd->Prop}(h:KB W g n P)(a:Bq W W'):KB W' g n P:=h.of a.size (a.block g h.1)
def KB.set{W:AT}{g n:Nat}{P:Nat->Fd->Prop}(h:KB W g n P)(b o:Nat)(x:Fd)(i:b=g->P o x):KB (W.setCell (aq b o) x) g n P:=by
 refine⟨by simpa[World.setCell]using h.1,λj f=>?_⟩;obtain⟨c,y,a,d⟩:=h.2 j f;refine⟨by simpa using c,?_⟩;by_cases e:((aq b o):Addr)=(aq g j);.obtain⟨rfl,rfl⟩:b=g/\o=j:=rn;exact⟨x,kF _ _ _ a,i rfl⟩
 .exact⟨y,by rw[cu _ _ _ _ e];exact a,d⟩
def KB.make(w:AT)(n T:Nat)(z:Fd){P:Nat->Fd->Prop}(b:∀j,P j z):KB (w.alloc (.cells (madeCells #[z] n) T)) w.heap.size n P:=by refine⟨At,λj a=>⟨At,z,?_,b j⟩⟩;rw[World.cell?_alloc_at _ _ _ _ rfl];simp[madeCells,a,Nat.mod_one]
def KZ(_:Nat)(v:Fd):Prop:=∃x,v=Iq x
def KR(W:AT)(B:Nat)(e:TypeId)(s:Nat)(v:Fd)(n:Nat)(P:Nat->Fd->Prop):Prop:=∃xs,W.ownsRow B e s v n xs/\∀j u,xs[j]?=some u->P j u
def KR.nil(W:AT)(B:Nat)(e:TypeId)(s:Nat)(P:Nat->Fd->Prop):KR W B e s (.slice none 0 0) 0 P:=⟨[],gw _ _ _ _,λj u h=>by simp at h⟩
def KR.kb{W:AT}{B s n:Nat}{e:TypeId}{v:Fd}{P:Nat->Fd->Prop}(h:KR W B e s v n P)(t:0<n):∃g a,v=Sq g n a/\B<=g/\KB W g (n*s) P:=by
 obtain⟨k,h,f⟩:=h;have r:=h.1;rcases h.2 with⟨_,l⟩|⟨g,a,c,rfl,d,b,m,o,p,q⟩;.omega
 refine⟨g,a,rfl,d,(aj.1 b).1,λj i=>⟨frozen_of_row _ _ _ _ _ b,k[j],?_,f j _ (da _)⟩⟩;rw[h.cellAt j i];grind
def KR.below{W W':AT}{B s n:Nat}{e:TypeId}{v:Fd}{P:Nat->Fd->Prop}(h:KR W B e s v n P)(j:Bq W W'):KR W' B e s v n P:=by
 obtain⟨k,h,i⟩:=h;refine⟨k,⟨h.1,?_⟩,i⟩;rcases h.2 with l|⟨g,cap,f,a,b,c,d⟩;.grind
 .exact .inr ⟨g,cap,f,a,b,by rw[j.block g (aj.1 c).1];exact c,d⟩
def Pb{P}{p}{rest}{o}{a}{Q}{W0 w}{e}{i}{z v}{size bytes n B}{K:Nat->Fd->Prop}(hi:P.info? e=some i)(hz:i.zero=some z)(f:i.size=size)(F:i.bytes=bytes)(l:KR w B e size v n K)(E:Below B W0 w)(H:B<=w.heap.size)(c:List Fd){t M}(G:o.guard=none)s x(X:o.op=.call {callee:=.builtin .append,args:=#[s,x],argTypes:=#[t,t]})(ht:P.underlying t=some (.slice e))(g:z.cells.size=size/\0<size/\0<bytes)(Z:a.eval s=v){m:Nat}(hx:a.eval x=Sq m 1 1)(V:w.heap.size=m)(J:c.length=1*size/\(c.all λu=>u.oneCell')=true)(y:(n+1)*bytes<=140737488355328)(S:∀j u,c[j]?=some u->K (n*size+j) u)(h:∀r w',KR w' B e size r (n+1) K->Below B W0 w'->(∀b,b<w.heap.size->v.ownBlock≠some b->w'.heap[b]?=w.heap[b]?)/\(∀b,r.ownBlock=some b->v.ownBlock=some b\/w.heap.size<=b)->wpList P p Q rest (a.put o.dst r) w'):wpList P p Q (o::rest) a (w.alloc (.cells c.toArray M)):=by
 obtain⟨N,d,hP⟩:=l;subst V;have hn:=aA (JE _ g.2.2) y;refine wpList_append_own_at _ G s x t X B e i z size bytes ht hi hz f F g.1 g.2.1 v n N Z (d.alloc _) (aq w.heap.size 0) 1 1 c hx J.1 (jR w c M) (λu hu=>Ck.1 J.2 u hu) (by unfold maxLen;omega) y (by rw[ai];omega) λr w' O I _ R=>h r w' ⟨_,O,λj u hu=>?_⟩ ?_ ⟨λb A D=>?_,λb y=>?_⟩
 .by_cases U:j<N.length;.grind
  .rw[xG dg]at hu;have:=S _ u hu;rw[d.1]at this U;grind
 .exact(E.alloc H _).grown I (by rw[ai];omega) λq Y=>(d.lt q Y).1
 .rw[I.block b (by rw[ai];omega) (λe=>D e.symm),bG _ _ _ A]
 .rw[ai]at R;grind
def yK{P}{p}{rest}{o}{a}{Q}{W0 w}{e}{i}{z v}{size bytes n}{K:Nat->Fd->Prop}(hi:P.info? e=some i)(N:i.zero=some z)(f:i.size=size)(r:i.bytes=bytes)(l:KR w W0.heap.size e size v n K)(k:Bq W0 w)(d:List Fd){t O}(y:o.guard=none)s x(H:o.op=.call {callee:=.builtin .append,args:=#[s,x],argTypes:=#[t,t]})(J:P.underlying t=some (.slice e))(A:z.cells.size=size/\0<size/\0<bytes)(I:a.eval s=v){m:Nat}(M:a.eval x=Sq m 1 1)(G:w.heap.size=m)(F:d.length=1*size/\(d.all λu=>u.oneCell')=true)(E:(n+1)*bytes<=140737488355328)(D:∀j u,d[j]?=some u->K (n*size+j) u)(h:∀q w',KR w' W0.heap.size e size q (n+1) K->Bq W0 w'->(∀b,b<w.heap.size->v.ownBlock≠some b->w'.heap[b]?=w.heap[b]?)->wpList P p Q rest (a.put o.dst q) w'):wpList P p Q (o::rest) a (w.alloc (.cells d.toArray O)):=Pb hi N f r l k k.size d y s x H J A I M G F E D λq w' a b c=>h q w' a b c.1
def KR.own{W:AT}{B s n:Nat}{e:TypeId}{v:Fd}{P:Nat->Fd->Prop}(h:KR W B e s v n P){b:Nat}(a:W.heap.size<=b):v.ownBlock≠some b:=λq=>by obtain⟨c,h,_⟩:=h;have:=(h.lt b q).2;omega
def nb{b:Bool}(h:(!b)=false):b=true:=rn
def ib(n:Int):wrap64 n<=9223372036854775807:=by unfold wrap64;omega
def below_drewN{B:Nat}{w w':AT}(h:Below B w w')(n:Nat):Below B w (w'.drewN n):=⟨h.os,h.tape,h.output,h.size,h.block⟩
def vB:(prog.info? 3).map (λi=>(i.zero,i.size,i.bytes))=some (some (Iq 0),1,8):=pt
def Pe{K:Nat->Fd->Prop}{n:Nat}{x:Fd}(h:K n x):∀j u,[x][j]?=some u->K (n*1+j) u:=λj u a=>rn
def KV(W:AT)(T s m:Nat)(K:Nat->Fd->Prop)(e:Ending)(w':AT):Prop:=∃v n,e=Rw v/\n<=m/\KR w' W.heap.size T s v n K
def KR.sl{W:AT}{B s n:Nat}{e:TypeId}{v:Fd}{P:Nat->Fd->Prop}(h:KR W B e s v n P):∃p a,v=.slice p n a/\(0<n->∃g,p=some (aq g 0)/\B<=g/\KB W g (n*s) P):=by
 obtain⟨l,c,_⟩:=id h;rcases c.2 with⟨rfl,rfl⟩|⟨g,a,_,rfl,k,_⟩;.grind
 .refine⟨_,a,rfl,λd=>?_⟩;obtain⟨f,b,e,i,j⟩:=h.kb d;grind
def KR.base{W:AT}{B i s n:Nat}{e:TypeId}{v:Fd}{P:Nat->Fd->Prop}(h:KR W B e s v n P)(j:i<=B):KR W i e s v n P:=by
 obtain⟨l,h,k⟩:=h;refine⟨l,⟨h.1,?_⟩,k⟩;rcases h.2 with m|⟨g,cap,f,a,b,c,d⟩;.grind
 .exact .inr ⟨g,cap,f,a,aA j b,c,d⟩
def oM(kids:Nat->List Nat):Nat->Nat->List Nat
 |0,_=>[]
 |f+1,k=>k::(kids k).flatMap (oM kids f)
def xw(up:zzb):Nat->Int->Int
 |0,x=>x
 |t+1,x=>up (xw up t x).toNat
structure sZ(n:Nat)(kids:Nat->List Nat)(up:zzb):Prop where
 kid:∀i c,i<n->c∈kids i->i<c/\c<n/\up c=(i:Int)
 nd:∀i,i<n->(kids i).Nodup
 upl:∀i,i<n->up i<(i:Int)
 lo:∀i,i<n->-1<=up i
section
variable{n:Nat} {kids:Nat->List Nat} {up:zzb}
def ug s x:∀t,xw up (s+t) x=xw up t (xw up s x)
 |0=>rfl
 |t+1=>by show up (xw up (s+t) x).toNat=up (xw up t (xw up s x)).toNat;rw[ug s x t]
def Jt(h:sZ n kids up)(d:0<n):∀  t  (x:Int),-1<=x->x<n->-1<=xw up t x/\xw up t x<=x
 |0,x,a,b=>⟨a,ie _⟩
 |t+1,x,a,b=>by obtain⟨g,i⟩:=Jt h d t x a b;show-1<=up (xw up t x).toNat/\up (xw up t x).toNat<=x;have c:(xw up t x).toNat<n:=dg;have e:=h.lo _ c;have f:=h.upl _ c;omega
def qu(h:sZ n kids up):∀  f k,k<n->∀j,j∈oM kids f k->k<=j/\j<n/\∃t,xw up t (j:Int)=(k:Int)
 |0,k,b,j,a=>by cases a
 |f+1,k,b,j,a=>by
  rcases kD.1 a with e|a;.subst e;exact⟨LE,b,0,rfl⟩
  .obtain⟨c,d,a⟩:=List.mem_flatMap.1 a;obtain⟨c1,c2,c3⟩:=h.kid k c b d;obtain⟨d1,d2,t,g⟩:=qu h f c c2 j a;refine⟨dg,d2,t+1,?_⟩;grind[xw]
theorem EW(h:sZ n kids up){f k c d}(i:k<n)(p:c∈kids k)(hd:d∈kids k)(a:c≠d){j}(m:j∈oM kids f c)(o:j∈oM kids f d):False:=by
 obtain⟨c1,c2,c3⟩:=h.kid k c i p;obtain⟨d1,d2,d3⟩:=h.kid k d i hd;obtain⟨_,_,s,l⟩:=qu h f c c2 j m;obtain⟨_,_,t,b⟩:=qu h f d d2 j o;have x:0<n:=dg;have A:∀(c d:Nat) (s t:Nat),c≠d->up c=(k:Int)->k<d->c<n->xw up s (j:Int)=(c:Int)->xw up t (j:Int)=(d:Int)->s<=t->False:=λc d s t a g w q l b y=>by
  obtain⟨r,rfl⟩:∃r,t=s+r:=⟨t-s,dg⟩;rw[ug,l]at b;cases r with
  |zero=>exact a (JF b)
  |succ r=>
   rw[Nat.add_comm r 1,ug]at b;have e:xw up 1 (c:Int)=(k:Int):=by show up ((c:Int)).toNat=_;exact g
   rw[e]at b;have:=(Jt h x r (k:Int) dg dg).2;omega
 grind
def sF(h:sZ n kids up):∀  f k,k<n->(oM kids f k).Nodup
 |0,k,i=>List.nodup_nil
 |f+1,k,i=>by
  show(k::(kids k).flatMap (oM kids f)).Nodup;refine List.nodup_cons.2 ⟨λq=>?_,?_⟩;.obtain⟨c,g,o⟩:=List.mem_flatMap.1 q;obtain⟨c1,c2,c3⟩:=h.kid k c i g;have:=(qu h f c c2 k o).1;omega
  .have j:∀d:List Nat,(∀c∈d,c∈kids k)->d.Nodup->(d.flatMap (oM kids f)).Nodup:=by
    intro d;induction d with
    |nil=>grind
    |cons c d r=>intro l m;rw[List.flatMap_cons];obtain⟨y,s⟩:=List.nodup_cons.1 m;have g:=l c (xH ..);obtain⟨c1,c2,c3⟩:=h.kid k c i g;refine JG.2 ⟨sF h f c c2,r (λx p=>l x (Cl _ p)) s,λa t b w e=>?_⟩;grind[EW]
   exact j (kids k) (λ_ g=>g) (h.nd k i)
def jT:∀  n  (l:zzh),l.Nodup->(∀x∈l,x<n)->l.length<=n
 |0,l,_,h=>by
  cases l with
  |nil=>grind
  |cons a l=>exact absurd (h a (xH ..)) dg
 |n+1,l,hd,h=>by
  by_cases b:n∈l;.have d:=List.length_erase_of_mem b;have e:=jT n (l.erase n) (hd.erase n) (λx c=>rn);omega
  .have:=jT n l hd (λx c=>rn);omega
def Nh(h:sZ n kids up)f k(a:k<n):(oM kids f k).length<=n:=jT n _ (sF h f k a) λx b=>(qu h f k a x b).2.1
end
def B8:∀b:List Nat,(∀k c d,b[k]?=some c->b[k+1]?=some d->c<d)->b.Pairwise (·<·)
 |[],_=>.nil
 |[x],_=>At
 |x::y::r,h=>by
  have f:=B8 (y::r) (λk c d g i=>h (k+1) c d g i);have j:=h 0 x y rfl rfl;refine List.Pairwise.cons (λz a=>?_) f;rcases kD.1 a with e|a;.omega
  .have:=List.rel_of_pairwise_cons f a;omega
def Ae{a:zzh}(h:∀k c d,a[k]?=some c->a[k+1]?=some d->c<d):a.Nodup:=
 (B8 a h).imp (λh e=>dg)
def Iv(s:BY)(i c:Nat)(bad:Int):Int:=if aK s i c then bad else(sk s i:Int)
def SD(er at_ e a:Int):Int:=if at_<0\/a<at_ then e else er
def SB(at_ a:Int):Int:=if at_<0\/a<at_ then a else at_
def JA(s:BY)(i:Nat)(bad:Int):Int:=if run am s (sk s i)=sk s i then(sk s i:Int)else bad
def uc{a b:BY}(h:¬a=b):(a.toList==b.toList)=false:=by rw[beq_eq_false_iff_ne];intro e;rw[ByteArray.toList_eq,ByteArray.toList_eq]at e;exact h (jx (Array.toList_inj.1 e))
def aB:List BY->BY->Nat->Int
 |[],_,_=>-1
 |a::r,x,k=>if a=x then(k:Int)else aB r x (k+1)
def gS x:∀  b   k,aB b x k=-1\/((k:Int)<=aB b x k/\aB b x k<(k:Int)+b.length)
 |[],k=>.inl rfl
 |a::r,k=>by
  unfold aB;by_cases e:a=x;.grind
  .simp only[e,if_false];rcases gS x r (k+1)with h|h;all_goals grind
def uX(a:List BY)(x:BY)(f off o n:Nat)(w:AT)(D:f<w.heap.size)(r:∀j,j<a.length->w.cell? (aq f (off+j))=some (.string (a[j]?.getD ByteArray.empty)))(hn:a.length=n)(t:n<=1099511627776):
 Cw 75 #[.slice (some (aq f off)) n o,.string x] w λe w'=>e=Rw (Iq (aB a x 0))/\w'=w:=by
 have s:=qH<|r;have q:=qH<|hn;clear r hn;go_enter func75,ntmps75;go_wp2;go_loop[5] (λi=>∃k:Nat,k<=n/\i=Iq k/\Hid (aB a x 0=aB (a.drop k) x k)) (λi=>n-(intOf i).toNat);.exact⟨0,LT,rfl,by show _=_;grind⟩
 obtain⟨k,E,rfl,m⟩:=hrel;by_cases p:k<n
 .have h:(k:Int)<(n:Int):=dg;have d:k<a.length:=by rw[q.out];exact p
  have g:=s k d;obtain⟨y,hy⟩:=af (a[k]?.getD ByteArray.empty);rw[hy]at g;have b:a.drop k=y::a.drop (k+1):=by rw[<-hy,da d];exact Oa d
  have c:Hid (aB a x 0=if y=x then(k:Int)else aB (a.drop (k+1)) x (k+1)):=qH<|by rw[m.out,b];rfl
  clear b hy m d;by_cases e:y=x
  .have l:Hid (aB a x 0=(k:Int)):=qH<|by rw[c.out,if_pos e]
   subst e;clear c;go_wp2;go_ret;exact⟨by rw[l.out];rfl,rfl⟩
  .have l:Hid (aB a x 0=aB (a.drop (k+1)) x (k+1)):=qH<|by rw[c.out,if_neg e]
   have A:=uc e;clear c;go_wp2;go_round;.grind
   .simp[intOf];omega
 .have h:¬(k:Int)<(n:Int):=dg;have l:Hid (aB a x 0=-1):=qH<|by rw[m.out,Cm (by rw[q.out];omega)];rfl
  clear m;go_wp2;go_ret;exact⟨by rw[l.out];rfl,rfl⟩
def dv(s:BY)(j:Nat):Nat->Int
 |0=>0
 |c+1=>if c<6 then 10*dv s j c+((cR s (j+c):Int)-48)else dv s j c
def rL s j:∀c,(∀t,t<c->48<=cR s (j+t)/\cR s (j+t)<=57)->0<=dv s j c/\dv s j c<=999999/\(c<=5->dv s j c<=99999)/\(c<=4->dv s j c<=9999)/\(c<=3->dv s j c<=999)/\(c<=2->dv s j c<=99)/\(c<=1->dv s j c<=9)/\(c=0->dv s j c=0)
 |0,_=>by simp[dv]
 |c+1,h=>by have b:=rL s j c (λt a=>h t dg);grind[dv]
theorem l_{p}s:∀f i t,lZ p s f i>i+t->p (cR s (i+t))=true
 |0,i,t,h=>by grind[lZ]
 |f+1,i,t,h=>by
  rw[lZ]at h;by_cases c:p (cR s i)=true;.rw[if_pos c]at h;match t with
   |0=>exact c
   |t+1=>have:=l_ (p:=p) s f (i+1) t dg;grind
  grind
def Mr(s:BY)(j k:Nat)(bad:Int):Int:=if k=j\/j+6<k\/(j+1<k/\cR s j=48)then(j:Int)else bad
def qF(s:BY):Nat->Nat->List UInt8->Except Nat (Nat×List UInt8)
 |0,p,_=>.error p
 |f+1,p,acc=>
  if cR s p=256 then .error p
  else if cR s p=34 then .ok (p+1,acc)
  else if cR s p=92 then
   if cR s (p+1)=34\/cR s (p+1)=92 then qF s f (p+2) (acc++[(cR s (p+1)).toUInt8])
   else if cR s (p+1)=110 then qF s f (p+2) (acc++[10])
   else .error (p+1)
  else qF s f (p+1) (acc++[(cR s p).toUInt8])
def fo(s:BY)(i:Nat):Except Nat (Nat×List UInt8):=if aK s i 34 then qF s (s.size+2) (an s i 34) []else .error (sk s i)
def cK:List BY:=[⟨#[114,111,119]⟩,⟨#[99,111,108]⟩,⟨#[115,116,97,99,107]⟩,⟨#[98,111,120]⟩,⟨#[115,99,114,111,108,108]⟩,⟨#[116,101,120,116]⟩,⟨#[103,97,112]⟩]
def bu:List BY:=[⟨#[105,100]⟩,⟨#[109,105,110]⟩,⟨#[109,97,120]⟩,⟨#[119,101,105,103,104,116]⟩,⟨#[103,97,112]⟩,⟨#[112,97,100]⟩,⟨#[98,111,114,100,101,114]⟩,⟨#[97,108,105,103,110]⟩,⟨#[119,114,97,112]⟩,⟨#[102,103]⟩,⟨#[98,103]⟩,⟨#[98,111,108,100]⟩]
def fY:List Int:=[999999,100000,100000,100000,100,20,1,2,1,8,8,1]
def aJ:List Int:=[0,0,-1,1,0,0,1,0,1,0,0,0]
def fE(kind attr:Nat):Bool:=if attr=4 then(kind==0||kind==1)else if attr=5\/attr=6 then kind==3 else if attr=7\/attr=8 then kind==5 else true
def IM(b a:Nat)(h:b<7)(g:a<12)(w:AT):Cw 121 #[Iq (b:Int),Iq (a:Int)] w λe w'=>e=Rw (.bool (fE b a))/\w'=w:=by
 obtain⟨r,c⟩:=af (fE b a);rw[c];have f:b=0\/b=1\/b=2\/b=3\/b=4\/b=5\/b=6:=dg;have d:a=0\/a=1\/a=2\/a=3\/a=4\/a=5\/a=6\/a=7\/a=8\/a=9\/a=10\/a=11:=dg;rcases d with rfl|rfl|rfl|rfl|rfl|rfl|rfl|rfl|rfl|rfl|rfl|rfl<;>rcases f with rfl|rfl|rfl|rfl|rfl|rfl|rfl<;>
  (simp[fE]at c;subst c;go_enter func121,ntmps121;go_wp2;go_ret;simp_all)
structure Nd where
 kind:Nat
 attr:List Int
 text:List UInt8
 kids:List Nat
 up:Int
abbrev zza:=List Nd
abbrev dM:=Option (Nat×Nat)
def fh(f:dM)(c p:Nat):dM:=match f with
 |none=>some (c,p)
 |some x=>some x
def bN(b:Bool)(f:dM)(c p:Nat):dM:=if b then fh f c p else f
structure PS where
 i:Nat
 L:List Nd
 er:dM
def cG(s:BY)(i c:Nat):Except Nat Nat:=if aK s i c then .ok (an s i c)else .error (sk s i)
def eX(s:BY)(j k:Nat):Bool:=decide (k=j\/j+6<k\/(j+1<k/\cR s j=48))
def em(L:zza)(n:Int):Bool:=L.any λd=>d.attr[0]?.getD 0==n
def eM(s:BY)(kind:Nat)(L:zza)(i:Nat)(er:dM)(a:zzc)(seen:zzh):Except Nat (Nat×dM×List Int×List Nat):=
 let at_:=sk s i
 let k:=run am s at_
 if k=at_ then .error at_ else
 match cG s k 61 with
 |.error b=>.error b
 |.ok i2=>
  let j:=sk s i2
  let e:=run aE s j
  if eX s j e then .error j else
  let n:=dv s j (e-j)
  let ix:=aB bu (s.extract at_ k) 0
  if ix<0\/fE kind ix.toNat=false then .ok (e,fh er 7 at_,a,seen)
  else .ok (e,bN (decide (ix=0/\0<n)&&em L n) (bN (decide (fY[ix.toNat]?.getD 0<n)) (bN (seen.contains ix.toNat) er 5 at_) 6 j) 5 j,a.set ix.toNat n,ix.toNat::seen)
def cX(s:BY)(kind:Nat)(L:zza):Nat->Nat->dM->List Int->List Nat->Except Nat (Nat×dM×List Int)
 |0,i,_,_,_=>.error i
 |f+1,i,er,a,seen=>match eM s kind L i er a seen with
  |.error b=>.error b
  |.ok (i2,E8,a2,RT)=>
   if aK s i2 59 then cX s kind L f (an s i2 59) E8 a2 RT
   else match cG s i2 125 with
    |.error b=>.error b
    |.ok i3=>.ok (i3,E8,a2)
def gD(s:BY)(kind:Nat)(L:zza)(i:Nat)(er:dM):Except Nat (Nat×dM×List Int):=
 if aK s i 123 then cX s kind L (s.size+1) (an s i 123) er aJ []else .ok (sk s i,er,aJ)
def grown(L:zza)(d:Nd):List Nd:=
 if d.up<0 then L++[d]else(L.modify d.up.toNat λu=>{u with kids:=u.kids++[L.length]})++[d]
def ao(L:zza)(k:Nat)(t:zzf):List Nd:=L.modify k λu=>{u with text:=t}
def eP(s:BY)(cC:PS->Except Nat PS):Nat->PS->Except Nat PS
 |0,st=>.error st.i
 |f+1,st=>match cC st with
  |.error b=>.error b
  |.ok EL=>if aK s EL.i 44 then eP s cC f {EL with i:=an s EL.i 44}else match cG s EL.i 93 with
   |.error b=>.error b
   |.ok i3=>.ok {EL with i:=i3}
def dP(s:BY)(kind k:Nat)(cC:PS->Except Nat PS)(st:PS):Except Nat PS:=
 if kind<3 then match cG s st.i 91 with
  |.error b=>.error b
  |.ok i2=>if aK s i2 93 then .ok {st with i:=an s i2 93}else eP s cC (s.size+1) {st with i:=sk s i2}
 else if kind<5 then match cG s st.i 91 with
  |.error b=>.error b
  |.ok i2=>match cC {st with i:=i2}with
   |.error b=>.error b
   |.ok V9=>match cG s V9.i 93 with
    |.error b=>.error b
    |.ok i4=>.ok {V9 with i:=i4}
 else if kind=5 then match fo s st.i with
  |.error b=>.error b
  |.ok (i2,t)=>.ok {st with i:=i2,L:=ao st.L k t}
 else .ok st
def dn(s:BY):Nat->Int->Nat->PS->Except Nat PS
 |0,_,_,st=>.error st.i
 |f+1,up,depth,st=>
  let at_:=sk s st.i
  let k:=run am s at_
  let kind:=aB cK (s.extract at_ k) 0
  if k=at_\/kind<0 then .error at_ else
  match gD s kind.toNat st.L k (bN (decide (12<=depth)) (bN (decide (100<=st.L.length)) st.er 3 at_) 4 at_)with
  |.error b=>.error b
  |.ok (i2,E8,a)=>dP s kind.toNat st.L.length (dn s f st.L.length (depth+1)) {i:=i2,L:=grown st.L ⟨kind.toNat,a,[],[],up⟩,er:=E8}
def fF(s:BY):Except (Nat×Nat) (List Nd):=
 if 4000<s.size then .error (1,0)else
 match dn s (s.size+1) (-1) 0 ⟨0,[],none⟩with
 |.error b=>.error (2,b)
 |.ok st=>if sk s st.i<s.size then .error (2,sk s st.i)else match st.er with
  |some f=>.error f
  |none=>.ok st.L
def gU(l:zzh):List Fd:=l.map fun(k:Nat)=>Iq (k:Int)
structure Up(B:Nat)(W W':AT):Prop where
 size:W.heap.size<=W'.heap.size
 block:∀b,B<=b->b<W.heap.size->W'.heap[b]?=W.heap[b]?
def Up.refl B W:Up B W W:=⟨LE,λ_ _ _=>rfl⟩
def Up.trans{B}{W a c}(h:Up B W a)(k:Up B a c):Up B W c:=
 ⟨aA h.size k.size,λb d e=>(k.block b d (zz006 e h.size)).trans (h.block b d e)⟩
def Up.grown{B r}{W W'}(h:W.grownBy W' (some r))(d:r<B):Up B W W':=
 ⟨h.size,λb c a=>h.block b a rn⟩
def Up.below{B}{W W'}(h:Bq W W'):Up B W W':=⟨h.size,λb _ a=>h.block b a⟩
def Up.drewN B W q:Up B W (W.drewN q):=⟨LE,λ_ _ _=>rfl⟩
def IL{W W'}{B n size}{e}{v}{j}(h:W.ownsRow B e size v n j)(hu:Up B W W'):W'.ownsRow B e size v n j:=by
 refine⟨h.1,?_⟩;rcases h.2 with k|⟨g,f,i,a,b,c,d⟩;.exact .inl k
 .refine .inr ⟨g,f,i,a,b,?_,d⟩;rw[hu.block g b (aj.1 c).1];exact c
theorem dJ{W:AT}{B l n q size a}{e k}{v v'}{r f}(h:W.ownsRow B e size v n r)(p:W.ownsRow l k a v' q f)(x:e≠k):v.ownBlock=none\/v.ownBlock≠v'.ownBlock:=by
 rcases h.2 with⟨rfl,_⟩|⟨g,m,o,rfl,b,c,d⟩;.exact .inl rfl
 .right;rcases p.2 with⟨rfl,_⟩|⟨w,i,j,rfl,s,t,d'⟩;.simp[Value.ownBlock]
  .intro hh;simp[Value.ownBlock]at hh;grind
theorem cm{W:AT}{B n size}{e}{v}{k}(h:W.ownsRow B e size v n k):(v=.slice none 0 0/\n=0)\/∃g i,v=Sq g n i/\B<=g/\g<W.heap.size/\n<=i/\i<=maxLen:=by rcases h.2 with l|⟨g,i,j,a,b,c,d,f,_⟩;all_goals grind
structure NR(W:AT)(B:Nat)(T:TypeId)(z:Nat)(nv:Fd)(n:Nat)(C:Nat->List Fd)(KV:Nat->Fd)(K:Nat->List Nat):Prop where
 row:∃xs,W.ownsRow B T z nv n xs
 cells:∀g,nv.ownBlock=some g->∀j,j<n->∀(t:Nat) u,(C j)[t]?=some u->W.cell? (aq g (j*z+t))=some u
 len:∀j,j<n->(C j).length=z
 kids:∀j,j<n->W.ownsRow B 3 1 (KV j) (K j).length (gU (K j))
 sep:∀i j,i<n->j<n->i≠j->∀b,(KV i).ownBlock=some b->(KV j).ownBlock≠some b
section
variable{W W':AT} {B z n:Nat} {T:TypeId} {nv:Fd} {C:Nat->List Fd} {KV:Nat->Fd} {K:Nat->List Nat}
def NR.nothing W B T z C KV K:NR W B T z (.slice none 0 0) 0 C KV K:=
 ⟨⟨[],gw _ _ _ _⟩,λ_ _ j h=>absurd h dg,λj h=>absurd h dg,λj h=>absurd h dg,λi j h=>absurd h dg⟩
def NR.up(h:NR W B T z nv n C KV K)(hu:Up B W W'):NR W' B T z nv n C KV K:=by obtain⟨f,e⟩:=h.row;refine⟨⟨f,IL e hu⟩,λg c j a t u b=>?_,h.len,λj a=>IL (h.kids j a) hu,h.sep⟩;have:=h.cells g c j a t u b;have d:=e.lt g c;rw[aQ (hu.block g d.1 d.2)];omega
def NR.form(h:NR W B T z nv n C KV K)(b:0<n):∃g a,nv=Sq g n a/\B<=g/\g<W.heap.size/\n<=a/\a<=maxLen:=by obtain⟨d,c⟩:=h.row;grind[cm]
def NR.cell{g cap}(h:NR W B T z (Sq g n cap) n C KV K){j}(a:j<n){t}{u}(b:(C j)[t]?=some u):W.cell? (aq g (j*z+t))=some u:=h.cells g rfl j a t u b
def NR.frozen{g a}(h:NR W B T z (Sq g n a) n C KV K)j:W.frozen? (aq g j)=false:=by obtain⟨c,b⟩:=h.row;exact b.frozenAt j
def NR.frz(h:NR W B T z nv n C KV K){g}(a:nv.ownBlock=some g)j:W.frozen? (aq g j)=false:=by
 obtain⟨e,b⟩:=h.row;rcases cm b with⟨rfl,_⟩|⟨d,c,rfl,_⟩;.simp[Value.ownBlock]at a
 .simp[Value.ownBlock]at a;subst a;exact b.frozenAt j
def NR.app{nv'}{y c}(h:NR W B T z nv n C KV K)(D:3≠T)(s:W.ownsRow B T z nv n y)(k:W'.ownsRow B T z nv' (n+1) (y++c))(E:W.grownBy W' nv.ownBlock)(H:c.length=z):
 NR W' B T z nv' (n+1) (λj=>if j=n then c else C j) (λj=>if j=n then .slice none 0 0 else KV j) (λj=>if j=n then[]else K j):=by
 have F:=s.1;refine⟨⟨_,k⟩,λg o j q t u e=>?_,λj q=>?_,λj q=>?_,λi j hi q p b l=>?_⟩
 .have w:=k.cells o;have f:∀m,((aq g 0):Addr).add m=(aq g m):=λm=>by unfold Addr.add;grind
  have I:t<z:=by
   have d:=(nP.1 e).1;by_cases a:j=n;.grind
   .rw[if_neg a,h.len j dg]at d;exact d
  rw[<-f];refine w _ _ ?_;by_cases a:j=n;.grind
  .rw[if_neg a]at e;have r:j*z+t<n*z:=by have:(j+1)*z<=n*z:=iN _ dg;rw[fx]at this;omega
   rw[Cn dg];obtain⟨G,A,rfl,_⟩:=h.form dg;have d:=h.cell dg e;rw[s.cellAt _ r]at d;exact d
 .by_cases a:j=n;.grind
  .rw[if_neg a];exact h.len j dg
 .by_cases a:j=n;.rw[if_pos a,if_pos a];exact gw _ _ _ _
  .rw[if_neg a,if_neg a];exact(h.kids j dg).kept E (dJ (h.kids j dg) s D)
 .by_cases d:i=n;.rw[if_pos d]at l;simp[Value.ownBlock]at l
  .rw[if_neg d]at l;by_cases x:j=n;.rw[if_pos x];simp[Value.ownBlock]
   .rw[if_neg x];exact h.sep i j dg dg p b l
def NR.set{g i}(h:NR W B T z (Sq g n i) n C KV K)(A:3≠T){k t}(x:k<n)(D:t<z)u:
 NR (W.setCell (aq g (k*z+t)) u) B T z (Sq g n i) n (λj=>if j=k then(C k).set t u else C j) KV K:=by
 obtain⟨G,p⟩:=h.row;have f:=p.stored (k*z+t) u;have r:k*z+t<n*z:=by have:(k+1)*z<=n*z:=iN _ dg;rw[fx]at this;omega
 refine⟨⟨_,f.1⟩,λy c j d q F b=>?_,λj d=>?_,λj d=>?_,h.sep⟩
 .injection c with c;have c:g=y:=c;subst c;have E:q<z:=by
   have l:=(nP.1 b).1;by_cases m:j=k;.rw[if_pos m]at l;simp[h.len k x]at l;exact l
   .rw[if_neg m,h.len j dg]at l;exact l
  have o:j*z+q<n*z:=by have:(j+1)*z<=n*z:=iN _ dg;rw[fx]at this;omega
  rw[f.1.cellAt _ o];have hold:=(p.cellAt _ o).symm;by_cases a:j=k
  .subst a;rw[if_pos rfl]at b;by_cases w:t=q;.subst w;rw[Co (by rw[p.1];exact r)];grind
   .rw[qB dg]at b|-;rw[hold];exact h.cell d b
  .rw[if_neg a]at b;have s:k*z+t≠j*z+q:=by
    intro e;rcases Nat.lt_or_gt_of_ne a with hh|hh;.have:(j+1)*z<=k*z:=iN _ dg;rw[fx]at this;omega
    .have:(k+1)*z<=j*z:=iN _ dg;rw[fx]at this;omega
   rw[qB s,hold];exact h.cell d b
 .by_cases a:j=k;.rw[if_pos a];simp[h.len k x]
  .rw[if_neg a];exact h.len j d
 .exact(h.kids j d).kept f.2 (dJ (h.kids j d) p A)
def NR.kid{g cap}{kv'}{k t c}(h:NR W B T z (Sq g n cap) n C KV K)(D:3≠T)(p:k<n)(N:t<z)(M:W'.ownsRow B 3 1 kv' ((K k).length+1) (gU (K k++[c])))(E:W.grownBy W' (KV k).ownBlock)(s:kv'.ownBlock=(KV k).ownBlock\/kv'.ownBlock=some W.heap.size):
 NR (W'.setCell (aq g (k*z+t)) kv') B T z (Sq g n cap) n (λj=>if j=k then(C k).set t kv' else C j) (λj=>if j=k then kv' else KV j) (λj=>if j=k then K k++[c]else K j):=by
 obtain⟨O,A⟩:=h.row;have H:=A.kept E (dJ A (h.kids k p) (Ne.symm D));have F:=A.lt g rfl;have w:=E.block g F.2 (by
  rcases dJ (h.kids k p) A D with e|e;.rw[e];simp
  .exact λq=>e q.symm);have m:=λj l a=>(h.kids j l).kept E (by
  cases d:(KV j).ownBlock with
  |none=>exact .inl rfl
  |some b=>right;exact λe=>h.sep j k l p a b d e.symm);have I:NR W' B T z (Sq g n cap) n C (λj=>if j=k then kv' else KV j) (λj=>if j=k then K k++[c]else K j):=by
  refine⟨⟨O,H⟩,λJ f j l P Q G=>?_,h.len,λj l=>?_,λi j hi l x b d=>?_⟩;.injection f with f;have f:g=J:=f;subst f;rw[aQ w];exact h.cell l G
  .by_cases a:j=k;.rw[if_pos a,if_pos a];simpa using M
   .rw[if_neg a,if_neg a];exact m j l a
  .have o:∀i,i<n->(KV i).ownBlock≠some W.heap.size:=λi hi e=>by have:=(h.kids i hi).lt _ e;omega
   by_cases y:i=k
   .rw[if_pos y]at d;have r:j≠k:=λe=>x (y.trans e.symm);rw[if_neg r];rcases s with e|e;.rw[e]at d;exact h.sep k j p l (λe=>r e.symm) b d
    .rw[e]at d;injection d with d;rw[<-d];exact o j l
   .rw[if_neg y]at d;by_cases r:j=k
    .rw[if_pos r];rcases s with e|e;.rw[e];exact h.sep i k hi p y b d
     .rw[e];intro q;injection q with q;exact o i hi (by rw[d,q])
    .rw[if_neg r];exact h.sep i j hi l x b d
 exact I.set D p N kv'
end
def ZR:Nd:=⟨0,[],[],[],0⟩
def ae(L:zza)(j:Nat):Nd:=L[j]?.getD ZR
theorem bF{L}{d}{j}(h:j<L.length):ae (L++[d]) j=ae L j:=by grind[ae]
theorem bS L d:ae (L++[d]) L.length=d:=by grind[ae]
theorem aL{L:zza}{k}f(h:k<L.length):ae (L.modify k f) k=f (ae L k):=by grind[ae]
theorem aD{L}{k j}f(h:j≠k):ae (L.modify k f) j=ae L j:=by grind[ae]
def NR.congr{W}{B z n}{T}{nv}{C f}{KV c}{K k}(h:NR W B T z nv n C KV K)(m:∀j,j<n->f j=C j)(d:∀j,j<n->c j=KV j)(o:∀j,j<n->k j=K j):NR W B T z nv n f c k:=
 ⟨h.row,λg p j a t u q=>h.cells g p j a t u rn,λj a=>by rw[m j a];exact h.len j a,λj a=>by rw[d j a,o j a];exact h.kids j a,
  λi j hi a e b l=>by rw[d j a];rw[d i hi]at l;exact h.sep i j hi a e b l⟩
structure Fr(B r:Nat)(W W':AT):Prop where
 os:W'.os=W.os
 tape:W'.tape=W.tape
 output:W'.output=W.output
 size:W.heap.size<=W'.heap.size
 block:∀b,b<B->b≠r->W'.heap[b]?=W.heap[b]?
def Fr.refl B r W:Fr B r W W:=⟨rfl,rfl,rfl,LE,λ_ _ _=>rfl⟩
def Fr.trans{B r}{W a c}(h:Fr B r W a)(k:Fr B r a c):Fr B r W c:=
 ⟨k.os.trans h.os,k.tape.trans h.tape,k.output.trans h.output,aA h.size k.size,λb d e=>(k.block b d e).trans (h.block b d e)⟩
def Fr.grown{B r}{W W'}(h:W.grownBy W' (some r))(d:B<=W.heap.size):Fr B r W W':=
 ⟨h.os,h.tape,h.output,h.size,λb a c=>h.block b dg rn⟩
def Fr.own{B r}{W W'}{o}(h:W.grownBy W' o)(d:B<=W.heap.size)(f:∀g,o=some g->B<=g):Fr B r W W':=
 ⟨h.os,h.tape,h.output,h.size,λb a c=>h.block b dg (λe=>rn)⟩
def Fr.below{B a r}{W W'}(h:Below a W W')(e:B<=a):Fr B r W W':=
 ⟨h.os,h.tape,h.output,h.size,λb c d=>h.block b dg⟩
def Fr.drewN B r W q:Fr B r W (W.drewN q):=⟨rfl,rfl,rfl,LE,λ_ _ _=>rfl⟩
def Fr.cell{B r}{W W'}(h:Fr B r W W'){a}{v}(d:W.cell? a=some v)(b:a.block<B)(c:a.block≠r):W'.cell? a=some v:=
 (aQ (h.block a.block b c)).trans d
def Fr.frozen{B r}{W W'}(h:Fr B r W W'){a}(b:a.block<B)(c:a.block≠r):W'.frozen? a=W.frozen? a:=
 kE (h.block a.block b c)
def aW(d:Nd)(kv:Fd):List Fd:=Iq (d.kind:Int)::((d.attr.map fun(x:Int)=>Iq x)++[.string ⟨d.text.toArray⟩,kv,Iq d.up])
def MD d a:(aW d a)[0]?=some (Iq (d.kind:Int)):=rfl
def BW{d}{a}{t}(h:t<d.attr.length):(aW d a)[t+1]?=some (Iq (d.attr[t]?.getD 0)):=by unfold aW;grind
def BX{d}{a}(h:d.attr.length=12):(aW d a)[13]?=some (.string ⟨d.text.toArray⟩):=by grind[aW]
def MC{d}{a}(h:d.attr.length=12):(aW d a)[14]?=some a:=by grind[aW]
def IW{d}{a}(h:d.attr.length=12):(aW d a).length=16:=by simp_all[aW]
def wX{d}{b}{t}(h:t<d.attr.length)x:(aW d b).set (t+1) (Iq x)=aW {d with attr:=d.attr.set t x} b:=by simp_all[aW]
def wZ{d}{a}(h:d.attr.length=12)x:(aW d a).set 13 (.string ⟨x.toArray⟩)=aW {d with text:=x} a:=by simp_all[aW]
def wY{d}{c a}(h:d.attr.length=12)b:(aW d c).set 14 a=aW {d with kids:=b} a:=by simp_all[aW]
structure PN(W:AT)(B:Nat)(nv:Fd)(L:zza)(KV:Nat->Fd):Prop where
 nr:NR W B 140 16 nv L.length (λj=>aW (ae L j) (KV j)) KV (λj=>(ae L j).kids)
 len:∀j,j<L.length->(ae L j).attr.length=12
section
variable{W W':AT} {B:Nat} {nv:Fd} {L:zza} {KV:Nat->Fd}
def PN.up(h:PN W B nv L KV)(hu:Up B W W'):PN W' B nv L KV:=⟨h.nr.up hu,h.len⟩
def PN.app{nv'}{f}{d}(h:PN W B nv L KV)(k:W.ownsRow B 140 16 nv L.length f)(c:W'.ownsRow B 140 16 nv' (L.length+1) (f++aW d (.slice none 0 0)))(g:W.grownBy W' nv.ownBlock)(i:d.attr.length=12)(l:d.kids=[]):
 PN W' B nv' (L++[d]) (λj=>if j=L.length then .slice none 0 0 else KV j):=by
 refine⟨?_,λj a=>?_⟩;.have b:(L++[d]).length=L.length+1:=At;rw[b];refine(h.nr.app (by decide) k c g (IW i)).congr (λj a=>?_) (λj a=>rfl) (λj a=>?_);all_goals grind[bS,bF]
 .by_cases e:j=L.length;.grind[bS]
  .rw[bF rn];exact h.len j rn
def PN.mod{g a k t}{u}(h:PN W B (Sq g L.length a) L KV)(l:k<L.length)(m:t<16)f(o:(aW (ae L k) (KV k)).set t u=aW (f (ae L k)) (KV k))(d:(f (ae L k)).kids=(ae L k).kids)(i:(f (ae L k)).attr.length=12):
 PN (W.setCell (aq g (k*16+t)) u) B (Sq g L.length a) (L.modify k f) KV:=by
 refine⟨?_,λj b=>?_⟩;.have c:(L.modify k f).length=L.length:=At;rw[c];refine(h.nr.set (by decide) l m u).congr (λj b=>?_) (λj b=>rfl) (λj b=>?_);all_goals grind[aL,aD]
 .by_cases e:j=k;.grind[aL]
  .rw[aD f e];exact h.len j rn
def PN.setAttr{g a k t}(h:PN W B (Sq g L.length a) L KV)(b:k<L.length)(e:t<12)x:
 PN (W.setCell (aq g (k*16+(t+1))) (Iq x)) B (Sq g L.length a) (L.modify k λd=>{d with attr:=d.attr.set t x}) KV:=
 h.mod b dg _ (wX (by rw[h.len k b];exact e) x) rfl (by simp[h.len k b])
def PN.setText{g a k}(h:PN W B (Sq g L.length a) L KV)(b:k<L.length)x:
 PN (W.setCell (aq g (k*16+13)) (.string ⟨x.toArray⟩)) B (Sq g L.length a) (ao L k x) KV:=
 h.mod b dg _ (wZ (h.len k b) x) rfl (h.len k b)
def PN.kid{g cap}{kv'}{k c}(h:PN W B (Sq g L.length cap) L KV)(a:k<L.length)(l:W'.ownsRow B 3 1 kv' ((ae L k).kids.length+1) (gU ((ae L k).kids++[c])))(i:W.grownBy W' (KV k).ownBlock)(b:kv'.ownBlock=(KV k).ownBlock\/kv'.ownBlock=some W.heap.size):
 PN (W'.setCell (aq g (k*16+14)) kv') B (Sq g L.length cap) (L.modify k λu=>{u with kids:=u.kids++[c]}) (λj=>if j=k then kv' else KV j):=by
 refine⟨?_,λj d=>?_⟩
 .have f:(L.modify k λu=>{u with kids:=u.kids++[c]}).length=L.length:=At;rw[f];refine(h.nr.kid (t:=14) (by decide) a dg l i b).congr (λj d=>?_) (λj d=>rfl) (λj d=>?_)
  .by_cases e:j=k;.subst e;simp only[if_true];rw[aL _ a];exact(wY (h.len j a) _).symm
   grind[aD]
  grind[aL,aD]
 .by_cases e:j=k;.subst e;rw[aL _ a];exact h.len j a
  .rw[aD _ e];exact h.len j rn
end
theorem gT L d(k:Nat)(hd:d.up=(k:Int))(a:k<L.length):grown L d=(L++[d]).modify k λu=>{u with kids:=u.kids++[L.length]}:=by unfold grown;rw[if_neg dg,hd];simp only[iO];apply JH;grind
def jQ(d:Nd)(av kv:Fd):List Fd:=[Iq (d.kind:Int),av,.string ⟨d.text.toArray⟩,kv,Iq d.up]
def N3:List Nd->List Fd->List Fd->List Fd
 |d::L,a::A,k::K=>jQ d a k++N3 L A K
 |_,_,_=>[]
def Kd(W:AT)(B:Nat)(v:Fd)(a:zzc):Prop:=∃ab,v=Sq ab 12 12/\B<=ab/\ab<W.heap.size/\a.length=12/\∀j,j<12->W.cell? (aq ab j)=some (Iq (a[j]?.getD 0))/\W.frozen? (aq ab j)=false
def tj:Fd->Option Nat
 |.slice (some a) _ _=>some a.block
 |_=>none
structure NA(W:AT)(B:Nat)(lv:Fd)(L:zza)(AV KV:List Fd):Prop where
 row:W.ownsRow B 176 5 lv L.length (N3 L AV KV)
 lenA:AV.length=L.length
 lenK:KV.length=L.length
 attr:∀(j:Nat) d v,L[j]?=some d->AV[j]?=some v->Kd W B v d.attr
 kids:∀(j:Nat) d v,L[j]?=some d->KV[j]?=some v->W.ownsRow B 3 1 v d.kids.length (d.kids.map fun(k:Nat)=>Iq (k:Int))
 sepKK:∀(i j:Nat) (u v:Fd),i≠j->KV[i]?=some u->KV[j]?=some v->∀b,u.ownBlock=some b->v.ownBlock≠some b
 sepKL:∀(j:Nat) (v:Fd),KV[j]?=some v->∀b,v.ownBlock=some b->lv.ownBlock≠some b
 sepAL:∀(j:Nat) (v:Fd),AV[j]?=some v->∀b,tj v=some b->lv.ownBlock≠some b
 sepAK:∀(i j:Nat) (u v:Fd),AV[i]?=some u->KV[j]?=some v->∀b,tj u=some b->v.ownBlock≠some b
def si{W W':AT}{B r n size}{e}{v}{k}(h:W.ownsRow B e size v n k)(l:W.grownBy W' (some r))(m:∀b,v.ownBlock=some b->b≠r):W'.ownsRow B e size v n k:=by
 refine⟨h.1,?_⟩;rcases h.2 with o|⟨g,f,i,a,b,c,d⟩;.grind
 .have j:=m g (by rw[a];rfl);refine .inr ⟨g,f,i,a,b,?_,d⟩;rw[l.block g (aj.1 c).1 (λe=>j rn)];exact c
def II{W:AT}{B n size}{e}{v}{c}(h:W.ownsRow B e size v n c){b}(a:v.ownBlock=some b):B<=b/\b<W.heap.size:=h.lt b a
def Lp{A B:AT}{r b o}(a:A.grownBy B (some r))(c:b<A.heap.size)(d:b≠r):B.frozen? (aq b o)=A.frozen? (aq b o):=by unfold World.frozen?;rw[a.block b c (λe=>d rn)]
def Kd.grown{W W'}{B r}{v}{a}(h:Kd W B v a)(c:W.grownBy W' (some r))(l:∀b,tj v=some b->b≠r):Kd W' B v a:=by obtain⟨ab,rfl,i,e,k,f⟩:=h;have d:=l ab rfl;exact⟨ab,rfl,i,zz006 e c.size,k,λj g=>⟨c.cell (f j g).1 rn,(Lp c e d).trans (f j g).2⟩⟩
def NA.grown{W W'}{B r}{i}{L}{g KV}(h:NA W B i L g KV)(f:W.grownBy W' (some r))(l:r<B):NA W' B i L g KV:=by
 refine⟨si h.row f λb a=>by have:=II h.row a;omega,h.lenA,h.lenK,λj d v c e=>?_,λj d v c e=>?_,h.sepKK,h.sepKL,h.sepAL,h.sepAK⟩;.refine(h.attr j d v c e).grown f λb a=>?_;obtain⟨ab,rfl,k,_⟩:=h.attr j d v c e;injection a with a;grind
 .exact si (h.kids j d v c e) f λb a=>by have:=II (h.kids j d v c e) a;omega
def wS(s:BY)(i:Nat)(bad:Int):BY:=if bad<0 then s.extract (sk s i) (run am s (sk s i))else ByteArray.empty
def wI(s:BY)(i:Nat)(bad:Int):Nat:=if bad<0 then run am s (sk s i)else sk s i
def wB(s:BY)(i:Nat)(bad:Int):Int:=if bad<0 then JA s i bad else bad
def mI(s:BY)(i c:Nat)(bad:Int):Nat:=if bad<0 then an s i c else sk s i
def mB(s:BY)(i c:Nat)(bad:Int):Int:=if bad<0 then Iv s i c bad else bad
def gB(s:BY)(i c:Nat)(bad:Int):Bool:=if bad<0 then aK s i c else false
def nV(s:BY)(i:Nat)(bad:Int):Int:=if bad<0 then dv s (sk s i) (run aE s (sk s i)-sk s i)else 0
def nI(s:BY)(i:Nat)(bad:Int):Nat:=if bad<0 then run aE s (sk s i)else sk s i
def nB(s:BY)(i:Nat)(bad:Int):Int:=if bad<0 then Mr s (sk s i) (run aE s (sk s i)) bad else bad
theorem RY{s}{i}a(hi:i<=s.size):wI s i a<=s.size:=by grind[wI,gI,gu]
theorem dH{s}{i c}(a:c<256)(hi:i<=s.size):an s i c<=s.size:=by grind[an,sk,df,gu]
theorem RH{s}{i c}a(b:c<256)(hi:i<=s.size):mI s i c a<=s.size:=by grind[mI,dH,gu]
theorem RI{s}{i}a(hi:i<=s.size):nI s i a<=s.size:=by grind[nI,gI,gu]
def RJ s i a:0<=nV s i a/\nV s i a<=999999:=by
 unfold nV;split;.have h:=rL s (sk s i) (run aE s (sk s i)-sk s i) (λt b=>by have:=l_ (p:=aE) s (s.size-sk s i) (sk s i) t (by grind[lZ,aE,sk,run]);grind[aE]);omega
 .omega
structure Qq where
 i:Nat
 bad:Int
 n:Int
 p:Nat
 at_:Nat
 ix:Int
def bE(s:BY)(i:Nat)(bad:Int):Qq:=
 let j:=sk s i
 let i1:=wI s j bad
 let b1:=wB s j bad
 let i2:=mI s i1 61 b1
 let b2:=mB s i1 61 b1
 {i:=nI s i2 b2,bad:=nB s i2 b2,n:=nV s i2 b2,p:=sk s i2,at_:=j,ix:=aB bu (wS s j bad) 0}
structure PR(W:AT)(rb:Nat)(s:BY)(i:Nat)(av nv fv:Fd):Prop where
 lt:rb<W.heap.size
 c0:W.cell? (aq rb 0)=some (.string s)
 c1:W.cell? (aq rb 1)=some (Iq (i:Int))
 c2:W.cell? (aq rb 2)=some av
 c3:W.cell? (aq rb 3)=some nv
 c4:W.cell? (aq rb 4)=some fv
 fz:∀j,W.frozen? (aq rb j)=false
def PR.below{W W'}{a}{s}{i}{c nv d}(h:PR W a s i c nv d)(b:Bq W W'):PR W' a s i c nv d:=
 have k:∀j v,W.cell? (aq a j)=some v->W'.cell? (aq a j)=some v:=λj v e=>(b.cell (p:=(aq a j)) h.lt).trans e
 ⟨zz006 h.lt b.size,k _ _ h.c0,k _ _ h.c1,k _ _ h.c2,k _ _ h.c3,k _ _ h.c4,λj=>(b.frozen (p:=(aq a j)) h.lt).trans (h.fz j)⟩
def PR.drewN{W}{c}{s}{i}{a nv b}(h:PR W c s i a nv b)n:PR (W.drewN n) c s i a nv b:=
 ⟨h.lt,h.c0,h.c1,h.c2,h.c3,h.c4,h.fz⟩
def PR.setI{W}{a}{s}{i}{b nv c}(h:PR W a s i b nv c)(d:Nat):PR (W.setCell (aq a 1) (Iq (d:Int))) a s d b nv c:=
 ⟨by simpa using h.lt,aF dg h.c0,ff h.c1,aF dg h.c2,aF dg h.c3,aF dg h.c4,λj=>by rw[eS];exact h.fz j⟩
def prI(W:AT)(rb:Nat):Nat:=match W.cell? (aq rb 1)with
 |some (.int _ x)=>x.toNat
 |_=>0
def PR.prI{W:AT}{a:Nat}{s:BY}{i:Nat}{b nv c:Fd}(h:PR W a s i b nv c):prI W a=i:=by unfold Go.Proofs.YtehgehanbnkdiaaGreatDoor.prI;rw[h.c1];simp
def skipBlanks_any(f:Nat)(s:BY)(i:Nat)(r nv t:Fd)(w:AT)(h:PR w f s i r nv t)(N:s.size<=1099511627776)(hi:i<=s.size):
 Cw 93 #[Pq f] w λe w'=>e=Rw (.tuple #[])/\PR w' f s (sk s i) r nv t/\w.grownBy w' (some f):=by
 have E:=qH<|h;clear h;go_enter func93,ntmps93;go_wp2;go_loopw[2] (λ_ wr=>∃k:Nat,k<=s.size/\Hid (sk s k=sk s i)/\Hid (PR wr f s k r nv t)/\Hid (w.grownBy wr (some f))) (λ_ wr=>s.size-prI wr f);.exact⟨i,hi,rfl,E,gs _ _⟩
 obtain⟨k,M,g,b,y⟩:=hrel;have a:=b.out;have H:=a.c0;have c1:=a.c1;have f1:=a.fz 1;by_cases d:k<s.size
 .have j:(k:Int)<(s.size:Int):=dg;obtain⟨x,G⟩:=af (s[k].toNat);have o:cR s k=x:=by rw[dN d,G]
  by_cases F:x=32
  .skip;have p:=qH<|λq=>by have:=(b.drewN q).setI (k+1);rw[show((k+1:Nat):Int)=(k:Int)+1 by omega]at this;exact this
   have l:Hid (sk s (k+1)=sk s i):=by rw[<-g.out];exact(gZ d (by grind[blank])).symm
   have c:=b.prI;have m:=qH<|c;subst F;clear a g b o c;go_wp2_with fail;go_quiet(fail);go_wp2;go_roundw;.exact⟨k+1,dg,l,p _,gr_trans (gr_trans y (bi _ _ _)) (cM _ _ _ _)⟩
   .rw[(p _).prI,m.out];omega
  .by_cases D:x=10
   .skip;have p:=qH<|λq=>by have:=(b.drewN q).setI (k+1);rw[show((k+1:Nat):Int)=(k:Int)+1 by omega]at this;exact this
    have l:Hid (sk s (k+1)=sk s i):=by rw[<-g.out];exact(gZ d (by grind[blank])).symm
    have c:=b.prI;have m:=qH<|c;subst D;clear a g b o c;go_wp2_with fail;go_quiet(fail);go_wp2;go_roundw;.exact⟨k+1,dg,l,p _,gr_trans (gr_trans y (bi _ _ _)) (cM _ _ _ _)⟩
    .rw[(p _).prI,m.out];omega
   .have A:Hid (PR wr f s (sk s i) r nv t):=by have:sk s k=k:=g_ (by grind[blank]);rw[<-g.out,this];exact b
    have I:((x:Int)==32)=false:=by simp;omega
    have J:((x:Int)==10)=false:=by simp;omega
    clear a g b o;go_wp2_with fail;go_quiet(fail);go_wp2;go_end0;exact⟨rfl,A.drewN _,gr_trans y (bi _ _ _)⟩
 .have j:¬(k:Int)<(s.size:Int):=dg;have hd:=decide_eq_false j;have A:Hid (PR wr f s (sk s i) r nv t):=by have:sk s k=k:=B9 d;rw[<-g.out,this];exact b
  clear a g b;go_wp2_with fail;go_quiet(fail);go_wp2;go_end0;exact⟨rfl,A.drewN _,gr_trans y (bi _ _ _)⟩
def jX(d:Nat)(s:BY)(i:Nat)(m nv o:Fd)(c:Nat)(w:AT)(h:PR w d s i m nv o)(J:s.size<=1099511627776)(hi:i<=s.size)(P:c<256):
 Cw 164 #[Pq d,.int .u8 (c:Int)] w λe w'=>e=Rw (.bool (aK s i c))/\PR w' d s (an s i c) m nv o/\w.grownBy w' (some d):=by
 have CS:=qH<|skipBlanks_any d s i m nv o w h J hi;obtain⟨j,D⟩:=af (sk s i);have F:=gu s i hi;have f:Hid (an s i c=if cR s j=c then j+1 else j):=qH<|by unfold an;rw[D]
 have g:Hid (aK s i c=(cR s j==c)):=qH<|by unfold aK;rw[D]
 rw[D]at CS F;clear h D;go_enter func164,ntmps164;go_wp2_with fail;refine Ut CS ?_;rintro G ⟨t,H⟩;have l:=qH<|t;have E:=qH<|H;have N:=t.c0;have c1:=t.c1;have f1:=t.fz 1;clear t H CS;by_cases y:j<s.size
 .have A:(j:Int)<(s.size:Int):=dg;have I:((j:Int)==(s.size:Int))=false:=by simp;omega
  obtain⟨x,M⟩:=af (s[j].toNat);have a:cR s j=x:=by rw[dN y,M]
  by_cases b:x=c
  .have r:Hid (∀q,PR ((G.drewN q).setCell (aq d 1) (Iq ((j:Int)+1))) d s (an s i c) m nv o):=λq=>by rw[f.out,a,if_pos b];have:=(l.drewN q).setI (j+1);grind
   have p:Hid (aK s i c=true):=qH<|by rw[g.out,a];simpa using b
   subst b;clear a l;go_wp2_with fail;go_quiet(fail);go_wp2;go_ret;exact⟨by rw[p.out];rfl,r _,gr_trans (gr_trans E (bi _ _ _)) (cM _ _ _ _)⟩
  .have r:Hid (PR G d s (an s i c) m nv o):=by rw[f.out,a,if_neg b];exact l
   have p:Hid (aK s i c=false):=qH<|by rw[g.out,a];simpa using b
   have O:((x:Int)!=(c:Int))=true:=by simp;omega
   clear a l;go_wp2_with fail;go_quiet(fail);go_wp2;go_ret;exact⟨by rw[p.out];rfl,r.drewN _,gr_trans E (bi _ _ _)⟩
 .have A:¬(j:Int)<(s.size:Int):=dg;have I:((j:Int)==(s.size:Int))=true:=by simp;omega
  have k:=df y;have r:Hid (PR G d s (an s i c) m nv o):=by rw[f.out,k,if_neg dg];exact l
  have p:Hid (aK s i c=false):=qH<|by rw[g.out,k];simp;omega
  clear k l;go_wp2_with fail;go_quiet(fail);go_wp2;go_ret;exact⟨by rw[p.out];rfl,r.drewN _,gr_trans E (bi _ _ _)⟩
def Zz(nb o:Nat)(w:AT):Cw 147 #[.pointer (some (aq nb o))] w λe w'=>e=Rw (.pointer (some (aq nb (o+1))))/\w'=w:=by go_enter func147,ntmps147;go_wp2;go_ret;simp_all
def ZD(nb o:Nat)(w:AT):Cw 148 #[.pointer (some (aq nb o))] w λe w'=>e=Rw (.pointer (some (aq nb (o+2))))/\w'=w:=by go_enter func148,ntmps148;go_wp2;go_ret;simp_all
def ZE(nb o:Nat)(w:AT):Cw 149 #[.pointer (some (aq nb o))] w λe w'=>e=Rw (.pointer (some (aq nb (o+3))))/\w'=w:=by go_enter func149,ntmps149;go_wp2;go_ret;simp_all
def ZF(nb o:Nat)(w:AT):Cw 150 #[.pointer (some (aq nb o))] w λe w'=>e=Rw (.pointer (some (aq nb (o+4))))/\w'=w:=by go_enter func150,ntmps150;go_wp2;go_ret;simp_all
def ZG(nb o:Nat)(w:AT):Cw 151 #[.pointer (some (aq nb o))] w λe w'=>e=Rw (.pointer (some (aq nb (o+5))))/\w'=w:=by go_enter func151,ntmps151;go_wp2;go_ret;simp_all
def ZH(nb o:Nat)(w:AT):Cw 152 #[.pointer (some (aq nb o))] w λe w'=>e=Rw (.pointer (some (aq nb (o+6))))/\w'=w:=by go_enter func152,ntmps152;go_wp2;go_ret;exact⟨rfl,rfl⟩
def ZI(nb o:Nat)(w:AT):Cw 153 #[.pointer (some (aq nb o))] w λe w'=>e=Rw (.pointer (some (aq nb (o+7))))/\w'=w:=by go_enter func153,ntmps153;go_wp2;go_ret;exact⟨rfl,rfl⟩
def ZJ(nb o:Nat)(w:AT):Cw 154 #[.pointer (some (aq nb o))] w λe w'=>e=Rw (.pointer (some (aq nb (o+8))))/\w'=w:=by go_enter func154,ntmps154;go_wp2;go_ret;simp_all
def ZK(nb o:Nat)(w:AT):Cw 155 #[.pointer (some (aq nb o))] w λe w'=>e=Rw (.pointer (some (aq nb (o+9))))/\w'=w:=by go_enter func155,ntmps155;go_wp2;go_ret;simp_all
def T3(nb o:Nat)(w:AT):Cw 156 #[.pointer (some (aq nb o))] w λe w'=>e=Rw (.pointer (some (aq nb (o+10))))/\w'=w:=by go_enter func156,ntmps156;go_wp2;go_ret;simp_all
def T4(nb o:Nat)(w:AT):Cw 157 #[.pointer (some (aq nb o))] w λe w'=>e=Rw (.pointer (some (aq nb (o+11))))/\w'=w:=by go_enter func157,ntmps157;go_wp2;go_ret;simp_all
def T5(nb o:Nat)(w:AT):Cw 158 #[.pointer (some (aq nb o))] w λe w'=>e=Rw (.pointer (some (aq nb (o+12))))/\w'=w:=by go_enter func158,ntmps158;go_wp2;go_ret;simp_all
def gM:Array Fd:=#[
 .string ⟨#[105,100]⟩,.int .u64 127,Iq 999999,Iq 0,.bool true,.func (.func 147) #[] #[],
 .string ⟨#[109,105,110]⟩,.int .u64 127,Iq 100000,Iq 0,.bool false,.func (.func 148) #[] #[],
 .string ⟨#[109,97,120]⟩,.int .u64 127,Iq 100000,Iq (-1),.bool false,.func (.func 149) #[] #[],
 .string ⟨#[119,101,105,103,104,116]⟩,.int .u64 127,Iq 100000,Iq 1,.bool false,.func (.func 150) #[] #[],
 .string ⟨#[103,97,112]⟩,.int .u64 3,Iq 100,Iq 0,.bool false,.func (.func 151) #[] #[],
 .string ⟨#[112,97,100]⟩,.int .u64 8,Iq 20,Iq 0,.bool false,.func (.func 152) #[] #[],
 .string ⟨#[98,111,114,100,101,114]⟩,.int .u64 8,Iq 1,Iq 1,.bool false,.func (.func 153) #[] #[],
 .string ⟨#[97,108,105,103,110]⟩,.int .u64 32,Iq 2,Iq 0,.bool false,.func (.func 154) #[] #[],
 .string ⟨#[119,114,97,112]⟩,.int .u64 32,Iq 1,Iq 1,.bool false,.func (.func 155) #[] #[],
 .string ⟨#[102,103]⟩,.int .u64 127,Iq 8,Iq 0,.bool false,.func (.func 156) #[] #[],
 .string ⟨#[98,103]⟩,.int .u64 127,Iq 8,Iq 0,.bool false,.func (.func 157) #[] #[],
 .string ⟨#[98,111,108,100]⟩,.int .u64 127,Iq 1,Iq 0,.bool false,.func (.func 158) #[] #[]]
def oW(w:AT):Cw 91 #[] w λe w'=>e=Rw (Sq w.heap.size 12 12)/\w'=w.alloc (.cells gM 259):=by go_enter func91,ntmps91;go_wp2;go_ret;exact⟨rfl,rfl⟩
def aT(eb:Addr):Fd:=.iface 460 (.pointer (some eb))
def cB(RQ:Int)(ev:Fd):Fd:=.iface 186 (.agg #[Iq RQ,ev])
def d_(a:Int)(w:AT)(b:Addr)(c:w.cell? (aq 7 0)=some (aT b)):
 Cw 94 #[Iq a] w λe w'=>e=Rw (cB a (aT b))/\w'=w:=by have d:w.cell? (aq 7 0)=some (.iface 460 (.pointer (some b))):=c;clear c;go_enter func94,ntmps94;go_wp2;go_ret;exact⟨rfl,rfl⟩
def fQ(a:Nat)(s:BY)(i:Nat)(d nv f:Fd)(c:Nat)(w:AT)(h:PR w a s i d nv f)(p:s.size<=1099511627776)(hi:i<=s.size)(o:c<256)(b:aK s i c=true):
 Cw 167 #[Pq a,.int .u8 (c:Int)] w λe w'=>e=Rw (.tuple #[])/\PR w' a s (an s i c) d nv f/\w.grownBy w' (some a):=by
 have g:Hid (Cw 164 #[Pq a,.int .u8 (c:Int)] w λe w'=>e=Rw (.bool true)/\PR w' a s (an s i c) d nv f/\w.grownBy w' (some a)):=by have:=jX a s i d nv f c w h p hi o;rw[b]at this;exact this
 clear h b;go_enter func167,ntmps167;go_wp2_with fail;refine Ut g ?_;rintro q ⟨k,j⟩;have m:=qH<|k;have l:=qH<|j;clear k j g;go_wp2;go_end0;exact⟨rfl,m,l⟩
def gR(a:Nat)(s:BY)(i:Nat)(m nv o:Fd)(f:Addr)(c:Nat)(w:AT)(h:PR w a s i m nv o)(E:s.size<=1099511627776)(hi:i<=s.size)(D:c<256)(b:aK s i c=false)(G:7≠a)(g:w.cell? (aq 7 0)=some (aT f)):
 Cw 167 #[Pq a,.int .u8 (c:Int)] w λe w'=>e=.panicked [{v:=cB (sk s i:Int) (aT f),recovered:=false}]/\w.grownBy w' (some a):=by
 have k:Hid (Cw 164 #[Pq a,.int .u8 (c:Int)] w λe w'=>e=Rw (.bool false)/\PR w' a s (sk s i) m nv o/\w.grownBy w' (some a)):=by
  have:=jX a s i m nv o c w h E hi D;have A:an s i c=sk s i:=by unfold an;unfold aK at b;rw[if_neg rn]
  rw[b,A]at this;exact this
 have q:Hid (∀w,w.cell? (aq 7 0)=some (aT f)->Cw 94 #[Iq (sk s i:Int)] w λe w'=>e=Rw (.iface 186 (.agg #[Iq (sk s i:Int),.iface 460 (.pointer (some f))]))/\w'=w):=λw g=>d_ _ w f g;have x:=qH<|g;obtain⟨j,t⟩:=af (sk s i);rw[t]at k q|-;clear h b g t;go_enter func167,ntmps167;go_wp2_with fail;refine Ut k ?_;rintro H ⟨r,p⟩;have y:=qH<|p;have c1:=r.c1;have l:=qH<|p.cell x rn;clear r p k;go_wp2_with fail;refine Ut (q _ l) ?_;rintro I F;obtain rfl:=F.symm;go_wp2;exact⟨rfl,rfl,y⟩
def yy(a:List BY)(x:BY)(f off p n:Nat)(w:AT)(E:f<w.heap.size)(s:∀j,j<a.length->w.cell? (aq f (off+j))=some (.string (a[j]?.getD ByteArray.empty)))(hn:a.length=n)(A:n<=1099511627776):
 Cw 338 #[.slice (some (aq f off)) n p,.string x] w λe w'=>e=Rw (Iq (aB a x 0))/\w'=w:=by
 have t:=qH<|s;have r:=qH<|hn;clear s hn;go_enter func338,ntmps338;go_wp2;go_loop[8] (λi=>∃k:Nat,k<=n/\i=Iq k/\Hid (aB a x 0=aB (a.drop k) x k)) (λi=>n-(intOf i).toNat);.exact⟨0,LT,rfl,by show _=_;grind⟩
 obtain⟨k,F,rfl,o⟩:=hrel;by_cases q:k<n
 .have l:(k:Int)<(n:Int):=dg;have d:k<a.length:=by rw[r.out];exact q
  have g:=t k d;obtain⟨y,hy⟩:=af (a[k]?.getD ByteArray.empty);rw[hy]at g;have b:a.drop k=y::a.drop (k+1):=by rw[<-hy,da d];exact Oa d
  have c:Hid (aB a x 0=if y=x then(k:Int)else aB (a.drop (k+1)) x (k+1)):=qH<|by rw[o.out,b];rfl
  clear b hy o d;by_cases e:y=x
  .have m:Hid (aB a x 0=(k:Int)):=qH<|by rw[c.out,if_pos e]
   subst e;clear c;go_wp2;go_ret;exact⟨by rw[m.out];rfl,rfl⟩
  .have m:Hid (aB a x 0=aB (a.drop (k+1)) x (k+1)):=qH<|by rw[c.out,if_neg e]
   have D:=uc (λh=>e h.symm);clear c;go_wp2;go_round;.grind
   .simp[intOf];omega
 .have l:¬(k:Int)<(n:Int):=dg;have m:Hid (aB a x 0=-1):=qH<|by rw[o.out,Cm (by rw[r.out];omega)];rfl
  clear o;go_wp2;go_ret;exact⟨by rw[m.out];rfl,rfl⟩
def yx(x:BY)(p:zze)(a:Nat)(w:AT):
 Cw 338 #[.slice p 0 a,.string x] w λe w'=>e=Rw (Iq (-1))/\w'=w:=by
 go_enter func338,ntmps338;go_wp2;go_loop[8] (λi=>i=Iq 0) (λi=>0);.rfl
 subst hrel;go_wp2;go_ret;simp_all
def oR(W:AT)(v:Fd)(ws:List BY):Prop:=∃p c,v=.slice p ws.length c/\(ws=[]\/∃blk,p=some (aq blk 0)/\blk<W.heap.size/\∀j,j<ws.length->W.cell? (aq blk (0+j))=some (.string (ws[j]?.getD ByteArray.empty)))
def index_any a x v w(h:oR w v a)(g:a.length<=1099511627776):
 Cw 338 #[v,.string x] w λe w'=>e=Rw (Iq (aB a x 0))/\w'=w:=by
 obtain⟨p,c,rfl,rfl|⟨b,rfl,d,f⟩⟩:=h;.exact yx x p c w
 .exact yy a x b 0 c _ w d f rfl g
def contains_any(a:List BY)(x:BY)(v:Fd)(w:AT)(h:oR w v a)(f:a.length<=1099511627776):
 Cw 313 #[v,.string x] w λe w'=>e=Rw (.bool (decide (0<=aB a x 0)))/\w'=w:=by have b:=qH<|index_any a x v w h f;obtain⟨p,c,rfl,_⟩:=h;obtain⟨r,d⟩:=af (aB a x 0);rw[d]at b|-;clear d;go_enter func313,ntmps313;go_wp2_with fail;refine Ut b ?_;rintro i g;obtain rfl:=g.symm;go_wp2;go_ret;simp_all
def RN(m k:Nat):Bool:=(m/2^k) %2==1
def G7(n:BY)(m k:Nat)(h wi:Int)(i:Bool)(c:Fd)(w:AT)(g:m=127\/m=3\/m=8\/m=32)(f:k<7):
 Cw 312 #[.agg #[.string n,.int .u64 (m:Int),Iq h,Iq wi,.bool i,c],Iq (k:Int)] w λe w'=>e=Rw (.bool (RN m k))/\Bq w w':=by have d:k=0\/k=1\/k=2\/k=3\/k=4\/k=5\/k=6:=dg;have a:=λo=>(ac _ w).alloc LE o;have b:=qH<|a;clear f a;rcases g with rfl|rfl|rfl|rfl<;>rcases d with rfl|rfl|rfl|rfl|rfl|rfl|rfl;all_goals go_enter func312,ntmps312;go_wp2;go_ret;exact⟨by rfl,b _⟩
def PR.setF{W}{b}{s}{i}{c nv d}(h:PR W b s i c nv d)a:PR (W.setCell (aq b 4) a) b s i c nv a:=
 ⟨by simpa using h.lt,aF dg h.c0,aF dg h.c1,aF dg h.c2,aF dg h.c3,ff h.c4,λj=>by rw[eS];exact h.fz j⟩
def Ia(b:Nat)(s:BY)(i:Nat)(c nv d:Fd)(a:Int)(w:AT)(h:PR w b s i c nv d):
 Cw 161 #[Pq b,.nilIface,Iq a] w λe w'=>e=Rw (.tuple #[])/\PR w' b s i c nv d/\w.grownBy w' (some b):=by have f:=qH<|h;go_enter func161,ntmps161;go_wp2;go_end0;grind[gs]
def yM(b:Nat)(s:BY)(i:Nat)(d nv:Fd)(c:Addr)(a:Int)(w:AT)(h:PR w b s i d nv .nilIface):
 Cw 161 #[Pq b,aT c,Iq a] w λe w'=>e=Rw (.tuple #[])/\PR w' b s i d nv (cB a (aT c))/\w.grownBy w' (some b):=by have c4:=h.c4;have f4:=h.fz 4;have f:Hid (PR (w.setCell (aq b 4) (cB a (aT c))) b s i d nv (cB a (aT c))):=h.setF _;show Cw 161 #[Pq b,.iface 460 (.pointer (some c)),Iq a] w _;go_enter func161,ntmps161;go_wp2;go_end0;exact⟨rfl,f,cM _ _ _ _⟩
def yN(d:Nat)(s:BY)(i:Nat)(f nv:Fd)(g c:Addr)(b a:Int)(w:AT)(h:PR w d s i f nv (cB a (aT c))):
 Cw 161 #[Pq d,aT g,Iq b] w λe w'=>e=Rw (.tuple #[])/\PR w' d s i f nv (cB a (aT c))/\w.grownBy w' (some d):=by have j:=qH<|h;have c4:w.cell? (aq d 4)=some (.iface 186 (.agg #[Iq a,.iface 460 (.pointer (some c))])):=h.c4;show Cw 161 #[Pq d,.iface 460 (.pointer (some g)),Iq b] w _;go_enter func161,ntmps161;go_wp2;go_end0;grind[gs]
def lX(n depth:Nat)(m d:Addr):Fd:=if 100<=n then aT m else if 12<=depth then aT d else .nilIface
def xb(k:Nat)(s:BY)(i:Nat)(l q:Fd)(p:zze)(n o a:Nat)(m d:Addr)(w:AT)(h:PR w k s i l (.slice p n o) q)(r:w.cell? (aq 1 0)=some (aT m))(hd:w.cell? (aq 2 0)=some (aT d)):
 Cw 162 #[Pq k,Iq (a:Int)] w λe w'=>e=Rw (lX n a m d)/\w'=w:=by
 have c3:=h.c3;have t:w.cell? (aq 1 0)=some (.iface 460 (.pointer (some m))):=r;by_cases c:100<=n
 .have f:(100:Int)<=(n:Int):=dg;have b:Hid (lX n a m d=.iface 460 (.pointer (some m))):=qH<|by unfold lX;rw[if_pos c];rfl
  go_enter func162,ntmps162;go_wp2;go_ret;exact⟨by rw[b.out];rfl,rfl⟩
 .have f:¬(100:Int)<=(n:Int):=dg;by_cases j:12<=a
  .have g:(12:Int)<=(a:Int):=dg;have b:Hid (lX n a m d=.iface 460 (.pointer (some d))):=qH<|by unfold lX;rw[if_neg c,if_pos j];rfl
   go_enter func162,ntmps162;go_wp2;go_ret;exact⟨by rw[b.out];rfl,rfl⟩
  .have g:¬(12:Int)<=(a:Int):=dg;have b:Hid (lX n a m d=.nilIface):=qH<|by unfold lX;rw[if_neg c,if_neg j]
   go_enter func162,ntmps162;go_wp2;go_ret;exact⟨by rw[b.out];rfl,rfl⟩
def ku(i:Int):Fd:=if i<0 then .tuple #[Iq 0,.bool false]else .tuple #[Iq i,.bool true]
def Ec(t:BY)(w:AT)(a b c d f g h:BY)(s:w.cell? (aq 8 0)=some (.string a))(x:w.cell? (aq 8 1)=some (.string b))(y:w.cell? (aq 8 2)=some (.string c))(A:w.cell? (aq 8 3)=some (.string d))(D:w.cell? (aq 8 4)=some (.string f))(E:w.cell? (aq 8 5)=some (.string g))(F:w.cell? (aq 8 6)=some (.string h)):
 Cw 160 #[.string t] w λe w'=>e=Rw (ku (aB [a,b,c,d,f,g,h] t 0))/\w'=w:=by
 have o:∀k:Nat,k<7->∃n,aB ([a,b,c,d,f,g,h].drop k) t k=(if n=t then(k:Int)else aB ([a,b,c,d,f,g,h].drop (k+1)) t (k+1))/\∀w,(Instr.index 328 (.agg #[.string a,.string b,.string c,.string d,.string f,.string g,.string h]) (Iq k)).run prog w=.ok (.string n) w:=λk I=>by have G:k=0\/k=1\/k=2\/k=3\/k=4\/k=5\/k=6:=dg;rcases G with rfl|rfl|rfl|rfl|rfl|rfl|rfl<;>exact⟨_,rfl,λ_=>pt⟩
 have o:=qH o;go_enter func160,ntmps160;go_wp2;clear s x y A D E F;go_loop[7] (λi=>∃k:Nat,k<=7/\i=Iq k/\Hid (aB [a,b,c,d,f,g,h] t 0=aB ([a,b,c,d,f,g,h].drop k) t k)) (λi=>7-(intOf i).toNat);.grind
 obtain⟨k,I,rfl,j⟩:=hrel;by_cases p:k<7
 .have l:(k:Int)<7:=dg;obtain⟨n,r,H⟩:=o k p;have q:=qH r;clear r;by_cases e:n=t
  .have m:Hid (ku (aB [a,b,c,d,f,g,h] t 0)=.tuple #[Iq k,.bool true]):=qH<|by rw[j.out,q.out,if_pos e];unfold ku;rw[if_neg dg]
   subst e;clear j;go_wp2;go_ret2;exact⟨by rw[m.out];rfl,rfl⟩
  .have m:Hid (aB [a,b,c,d,f,g,h] t 0=aB ([a,b,c,d,f,g,h].drop (k+1)) t (k+1)):=qH<|by rw[j.out,q.out,if_neg e]
   have J:=uc e;clear j;go_wp2;go_round;.grind
   .simp[intOf];omega
 .have l:¬(k:Int)<7:=dg;obtain rfl:k=7:=dg;have m:Hid (ku (aB [a,b,c,d,f,g,h] t 0)=.tuple #[Iq 0,.bool false]):=qH<|by rw[j.out];simp[aB,ku]
  clear j;go_wp2;go_ret2;exact⟨by rw[m.out];rfl,rfl⟩
def FL(er at_:Int)(f:dM)(i:Nat):Prop:=match f with
 |none=>at_<0
 |some (c,p)=>er=c/\at_=p/\p<=i
def FL.on{b at_}{f}{i j}(h:FL b at_ f i)(a:i<=j):FL b at_ f j:=by
 cases f with
 |none=>exact h
 |some x=>obtain⟨c,p⟩:=x;exact⟨h.1,h.2.1,aA h.2.2 a⟩
def FL.add{a at_}{f}{i}(h:FL a at_ f i)(c p:Nat)(k:i<=p):FL (SD a at_ c p) (SB at_ p) (fh f c p) p:=by
 cases f with
 |none=>have b:at_<0:=h;unfold SD SB;rw[if_pos (.inl b),if_pos (.inl b)];exact⟨rfl,rfl,LE⟩
 |some x=>obtain⟨l,m⟩:=x;obtain⟨e,g,j⟩:=h;have d:¬(at_<0\/(p:Int)<at_):=dg;unfold SD SB;rw[if_neg d,if_neg d];exact⟨e,g,aA j k⟩
def fa(kind:Nat)(L:zza)(er:dM)(a:zzc)(seen:zzh)(st:Qq):dM×List Int×List Nat:=
 if st.ix<0\/fE kind st.ix.toNat=false then(fh er 7 st.at_,a,seen)
 else(bN (decide (st.ix=0/\0<st.n)&&em L st.n) (bN (decide (fY[st.ix.toNat]?.getD 0<st.n)) (bN (seen.contains st.ix.toNat) er 5 st.at_) 6 st.p) 5 st.p,a.set st.ix.toNat st.n,st.ix.toNat::seen)
def ub s i a:i<=(bE s i a).at_/\(bE s i a).at_<=(bE s i a).p/\(bE s i a).p<=(bE s i a).i:=by
 have b:=fG s i;have d:sk s i<=wI s (sk s i) a:=by unfold wI;split;exact aA (fG s (sk s i)) (ga _ _ _);exact fG _ _
 have c:wI s (sk s i) a<=mI s (wI s (sk s i) a) 61 (wB s (sk s i) a):=by
  unfold mI;split;.grind[an,fG,wI,sk]
  .exact fG _ _
 grind[sk,mI,wI,wB,nI,mB,ga,fG,bE]
def Ay s i a(hi:i<=s.size):(bE s i a).i<=s.size:=by grind[bE,RI,RH,RY,gu]
def oV s c L i g a seen b(d:b<0):
 ((bE s i b).bad=b/\eM s c L i g a seen=.ok ((bE s i b).i,fa c L g a seen (bE s i b)))
 \/(0<=(bE s i b).bad/\eM s c L i g a seen=.error (bE s i b).bad.toNat):=by
 unfold eM;simp only;have f:=jq s i;have A:wI s (sk s i) b=run am s (sk s i):=by unfold wI;rw[if_pos d,f]
 by_cases l:run am s (sk s i)=sk s i;.grind[wB,sk,JA,bE,mB,wI,nB]
 .have x:wB s (sk s i) b=b:=by unfold wB;rw[if_pos d];unfold JA;rw[f,if_neg l]
  rw[if_neg l];by_cases m:aK s (run am s (sk s i)) 61=true
  .have y:mB s (run am s (sk s i)) 61 b=b:=by unfold mB;rw[if_pos d];unfold Iv;rw[if_pos m]
   have h:mI s (run am s (sk s i)) 61 b=an s (run am s (sk s i)) 61:=by unfold mI;rw[if_pos d]
   have k:cG s (run am s (sk s i)) 61=.ok (an s (run am s (sk s i)) 61):=by unfold cG;rw[if_pos m]
   rw[k];simp only;have o:bE s i b={i:=run aE s (sk s (an s (run am s (sk s i)) 61)),bad:=Mr s (sk s (an s (run am s (sk s i)) 61)) (run aE s (sk s (an s (run am s (sk s i)) 61))) b,n:=dv s (sk s (an s (run am s (sk s i)) 61)) (run aE s (sk s (an s (run am s (sk s i)) 61))-sk s (an s (run am s (sk s i)) 61)),p:=sk s (an s (run am s (sk s i)) 61),at_:=sk s i,ix:=aB bu (s.extract (sk s i) (run am s (sk s i))) 0}:=by
    unfold bE;simp only;rw[A,x,y,h];have q:nI s (an s (run am s (sk s i)) 61) b=run aE s (sk s (an s (run am s (sk s i)) 61)):=by unfold nI;rw[if_pos d]
    have r:nB s (an s (run am s (sk s i)) 61) b=Mr s (sk s (an s (run am s (sk s i)) 61)) (run aE s (sk s (an s (run am s (sk s i)) 61))) b:=by unfold nB;rw[if_pos d]
    have t:nV s (an s (run am s (sk s i)) 61) b=dv s (sk s (an s (run am s (sk s i)) 61)) (run aE s (sk s (an s (run am s (sk s i)) 61))-sk s (an s (run am s (sk s i)) 61)):=by unfold nV;rw[if_pos d]
    have w:wS s (sk s i) b=s.extract (sk s i) (run am s (sk s i)):=by unfold wS;rw[if_pos d,f]
    rw[q,r,t,w]
   generalize sk s (an s (run am s (sk s i)) 61)=j at o|-;generalize run aE s j=e at o|-;by_cases D:eX s j e=true;all_goals grind[bE,Mr,eX,fa]
  grind[aK,run,am,sk,mB,Iv,cG,bE,nB]
theorem kP{s}{c}{L}{f i}{d}{a}{seen}{b}(h:eM s c L i d a seen=.error b):cX s c L (f+1) i d a seen=.error b:=by rw[cX,h]
theorem i_{s}{b}{L}{f i e}{j d}{a g}{seen c}(h:eM s b L i j a seen=.ok (e,d,g,c))(k:aK s e 59=true):cX s b L (f+1) i j a seen=cX s b L f (an s e 59) d g c:=by grind[cX]
def iw(s:BY)(i:Nat)(er:dM)(a:zzc):Except Nat (Nat×dM×List Int):=match cG s i 125 with
 |.error b=>.error b
 |.ok i3=>.ok (i3,er,a)
theorem iZ{s}{b}{L}{f i e}{j d}{a g}{seen c}(h:eM s b L i j a seen=.ok (e,d,g,c))(k:¬aK s e 59=true):cX s b L (f+1) i j a seen=iw s e d g:=by rw[cX,h];simp only;rw[if_neg k];rfl
theorem Bo s i c:aK s (sk s i) c=aK s i c:=by unfold aK;rw[jq]
theorem Bl s i c:an s (sk s i) c=an s i c:=by unfold an;rw[jq]
theorem rJ s i b a:iw s (sk s i) b a=iw s i b a:=by grind[iw,cG,Bo,Bl,jq]
def KB.z{u:AT}{g m j:Nat}(h:KB u g m KZ)(a:j<m):∃x,u.cell? (aq g j)=some (Iq x):=by obtain⟨_,_,h,x,rfl⟩:=h.2 j a;exact⟨x,h⟩
def J9{W W':AT}{r:Option Nat}(h:Bq W W'):W.grownBy W' r:=⟨h.os,h.tape,h.output,h.size,λb a _=>h.block b a⟩
def KY(W:AT)(pb n:Nat)(u:AT):Prop:=W.grownBy u (some pb)/\KB u pb (n*10) KZ
section
variable{W u v:AT} {pb n:Nat}
def KY.below(h:KY W pb n u)(b:Bq u v):KY W pb n v:=⟨h.1.trans (J9 b),h.2.below b⟩
def KY.trans(h:KY W pb n u)(k:KY u pb n v):KY W pb n v:=⟨h.1.trans k.1,k.2⟩
def KY.set(h:KY W pb n u)(o:Nat)(x:Int):KY W pb n (u.setCell (aq pb o) (Iq x)):=⟨⟨h.1.os,h.1.tape,h.1.output,by simpa[World.setCell]using h.1.size,λb c a=>(aM _ _ _ b λe=>a (by rw[e])).trans (h.1.block b c a)⟩,h.2.set _ _ _ λ_=>⟨_,rfl⟩⟩
def KY.other(h:KY W pb n u)(b o:Nat)(x:Fd)(g:W.heap.size<=b)(f:b≠pb):KY W pb n (u.setCell (aq b o) x):=⟨⟨h.1.os,h.1.tape,h.1.output,by simpa[World.setCell]using h.1.size,λc a d=>(aM _ _ _ c (by show c≠b;omega)).trans (h.1.block c a d)⟩,h.2.set _ _ _ λe=>absurd e f⟩
end
structure Nx where
 kd:Int
 a:Int
 b:Int
 s:BY
 t:BY
 p:Option Addr
 m:Nat
 zs:List Int
def Fj(w:AT)(v:Fd)(n:Nat)(op:Nat->Nx):Prop:=
 ∃a cap,v=.slice a n cap/\(n=0\/∃b off,a=some (aq b off)/\b<w.heap.size/\∀i,i<n->
  w.cell? (aq b (off+i*6))=some (.int .i64 (op i).kd)/\w.cell? (aq b (off+i*6+1))=some (.int .i64 (op i).a)/\w.cell? (aq b (off+i*6+2))=some (.int .i64 (op i).b)/\w.cell? (aq b (off+i*6+3))=some (.string (op i).s)/\w.cell? (aq b (off+i*6+4))=some (.string (op i).t)/\w.cell? (aq b (off+i*6+5))=some (.slice (op i).p (op i).zs.length (op i).m)/\
  oO w (.slice (op i).p (op i).zs.length (op i).m) (op i).zs)
