import Derived.Test.YtehgehanbnkdiaaGreatDoorQ13
import Derived.Test.YtehgehanbnkdiaaGreatDoorQ30
import Derived.Lib.FrozenHead2
set_option linter.all false
set_option maxRecDepth 100000
set_option maxHeartbeats 16000000
namespace Go.Proofs.YtehgehanbnkdiaaGreatDoor
open Go.RowKit Go.Sort Go.Proofs.Tryz
def xF(a b:zzf):(⟨a.toArray⟩:BY)++(⟨b.toArray⟩:BY)=⟨(a++b).toArray⟩:=by apply jx;simp
def Gm{n:Int}(h:0<=n/\n<100):1<=(dc n).length/\(dc n).length<=2:=by
 unfold dc;by_cases a:n.toNat<10;.rw[Lib.decDigits,dif_pos a];simp
 .rw[Lib.decDigits,dif_neg a,Lib.decDigits,dif_pos dg];simp
def Jm(ns:zzc)(h:kh ns):(Lib.joinTail [59] (ns.map dc)).length<=3*ns.length:=by
 induction ns with
 |nil=>simp[Lib.joinTail]
 |cons n r b=>have c:=Gm (h n (xH ..));have d:=b (λm a=>h m (Cl _ a));unfold Lib.joinTail at*;simp only[C5,List.flatten_cons,aN,cV,eI]at*;omega
def pH(ns:zzc)(h:kh ns):(Lib.join (ns.map dc) [59]).length<=3*ns.length:=by
 cases ns with
 |nil=>simp[Lib.join_nil]
 |cons n r=>have b:=Gm (h n (xH ..));have c:=Jm r (λm a=>h m (Cl _ a));rw[C5,Lib.join_cons,aN,cV];omega
def Ra:(Tryz.prog.info? 9).map (λi=>(i.zero,i.size,i.bytes))=some (some (.string ⟨#[]⟩),1,16):=pt
def wd(n:Int):Fd:=.string ⟨(dc n).toArray⟩
def Ni(n:Int)(u:Fd)(h:u∈[wd n]):u.oneCell'=true:=by simp at h;subst h;rfl
def vW(ns:zzc):(ns.map (λn=>(⟨(dc n).toArray⟩:BY))).map (λx=>x.data.toList)=ns.map dc:=by rw[List.map_map];rfl
def rx(ns:zzc)(B off A:Nat)(w:AT)(hp:0<ns.length)(P:B<w.heap.size)(Q:∀j,j<ns.length->w.cell? (aq B (off+j))=some (.int .i64 (ns[j]?.getD 0)))(R:kh ns)(hl:ns.length<=100):
 Calls Tryz.prog 255 #[.slice (some (aq B off)) ns.length A] w λe w'=>e=Rw (.string ⟨(sq ns).toArray⟩)/\Bq w w':=by
 have U:Hid (∀j,j<ns.length->w.cell? (aq B (off+j))=some (.int .i64 (ns[j]?.getD 0))):=Q;have z:Hid (kh ns):=R;have N:Hid (B<w.heap.size):=P;obtain⟨i0,hi,K,L,M⟩:=info_parts Ra;clear Q R P;go_enter Tryz.func255,Tryz.ntmps255;go_wp2_with fail;go_loopw[3,8] (λu i wr=>∃k:Nat,k<=ns.length/\i=.int .i64 k/\Hid (wr.ownsRow w.heap.size 9 1 u k ((ns.take k).map wd)/\Bq w wr)) (λ_ i _=>ns.length-(intOf i).toNat);.exact⟨0,LT,rfl,gw _ _ _ _,Ok⟩
 obtain⟨k,hk,rfl,c⟩:=hrel;by_cases a:k<ns.length
 .obtain⟨n,v⟩:∃q,ns[k]?.getD 0=q:=⟨_,rfl⟩;have H:0<=n/\n<100:=by rw[<-v,da a];exact z.out _ (kK a)
  obtain⟨m,G⟩:∃m:Nat,(m:Int)=n:=⟨n.toNat,dg⟩;have ze:wr.cell? (aq B (off+k))=some (.int .i64 m):=by rw[G,<-v];exact(c.out.2.cell (p:=(aq B (off+k))) N.out).trans (U.out k a)
  have bb:B<wr.heap.size:=zz006 N.out c.out.2.size;have IT:Hid (∀w,Calls Tryz.prog 185 #[.int .i64 m] w λe w'=>e=Rw (.string ⟨(dc n).toArray⟩)/\w'=w):=λw=>by have:=G_ m dg w;unfold dc;rw[<-G,show((m:Int).toNat)=m from rfl];exact this
  have X:Hid ((ns.take (k+1)).map wd=(ns.take k).map wd++[wd n]):=qH<|by rw[gx a,mi,<-v,da a];rfl
  clear v G H;have s:(k:Int)<(ns.length:Int):=dg;have b:=c.out.1;go_wp2_with(first|(go_at_call 185;refine ag (IT.out _) ?_;rintro e w' ⟨rfl,rfl⟩)|(at_builtin;refine wpList_append_own _ rfl _ _ 171 rfl w.heap.size 9 i0 (.string ⟨#[]⟩) 1 16 Tryz.underlying171 hi K L M rfl (by decide) _ _ _ rfl (b.alloc _) _ 1 1 [wd n] rfl rfl (Mw _ _ _) (Ni _) (by unfold maxLen;omega) dg (by rw[ai];have:=c.out.2.size;omega) ?_));intro v' T I r _;have C:Hid (Bq w T):=(c.out.2.alloc (by have:=c.out.2.size;omega) _).grown r (by rw[ai];have:=c.out.2.size;omega) (λq hq=>by have:=(b.lt q hq).1;omega);have W:Hid (T.ownsRow w.heap.size 9 1 v' (k+1) ((ns.take (k+1)).map wd)):=by rw[X.out];first|exact I|(rw[List.map_take];exact I)
  clear I r b;go_wp2;go_roundw;.exact⟨k+1,dg,by go_num,W.out,C.out⟩
  .simp[intOf];omega
 .have s:¬(k:Int)<(ns.length:Int):=dg;have F:k=ns.length:=dg;have y:Hid (wr.ownsRow w.heap.size 9 1 u3 ns.length (ns.map wd)):=by have:=c.out.1;rw[F,jB]at this;exact this
  obtain⟨g,f,d,rfl,E,r,o⟩:∃g f d,u3=.slice (some (aq g 0)) ns.length f/\w.heap.size<=g/\wr.heap[g]?=some (.cells d 9 (0,0))/\ns.length<=f:=by
   rcases y.out.2 with⟨_,h⟩|⟨g,f,d,h,Y,Z,h3,_⟩;.omega
   .exact⟨g,f,d,h,Y,Z,h3⟩
  have O:Hid (Calls Tryz.prog 300 #[.slice (some (aq g 0)) ns.length f,.string ⟨#[59]⟩] wr λe w'=>e=Rw (.string ⟨(Lib.join (ns.map dc) [59]).toArray⟩)/\Bq wr w'):=by
   have:=G' g 0 f (ns.map (λn=>(⟨(dc n).toArray⟩:BY))) ⟨#[59]⟩ wr ?_ (aj.1 r).1 (by rw[qE];omega) (by rw[qE];exact o) ?_;.rw[qE,vW]at this;exact this
   .intro j x l;have:=y.out.cells (g:=g) rfl j (.string x) (by
     rw[Cs]at l|-;cases h:ns[j]? with
     |none=>rw[h]at l;simp at l
     |some q=>rw[h]at l;simp at l;subst l;rfl);have e:((aq g 0):Addr).add j=(aq g (0+j)):=by unfold Addr.add;split<;>simp_all
    rwa[e]at this
   .rw[vW];have:=pH ns z.out;show(Lib.join (ns.map dc) [59]).length<=_;omega
  clear E r o y;obtain⟨J,t⟩:∃q,Lib.join (ns.map dc) [59]=q:=⟨_,rfl⟩;have V:Hid (sq ns=[27,91]++(J++[109])):=qH<|by unfold sq;rw[t]
  rw[t]at O;have S:=pH ns z.out;rw[t]at S;have j1:¬9223372036854775807<2+J.length:=dg;have j2:¬9223372036854775807<2+J.length+1:=dg;clear t S;go_wp2_with(go_at_call 300;refine ag O.out ?_;rintro e w2 ⟨rfl,D⟩);go_ret;refine⟨?_,c.out.2.trans (D.mono c.out.2.size)⟩;rw[V.out];refine congrArg (λq=>Ending.returned (Value.string q)) ?_;show(⟨[27,91].toArray⟩:BY)++(⟨J.toArray⟩:BY)++(⟨[109].toArray⟩:BY)=_;rw[xF,xF,cA]
def K9(_:Nat)(v:Fd):Prop:=∃x:Int,v=Iq x/\0<=x/\x<100
def UW(w:AT)(c:Prop)(e:Ending)(w':AT):Prop:=∃v n,e=Rw v/\n<=3/\KR w' w.heap.size 3 1 v n K9/\(c->0<n)/\Bq w w'
def He(x y z d f i:Int)(w:AT)(W:0<=d/\d<=8)(hy:0<=f/\f<=8):Cw 254 #[.agg #[Iq x,Iq y,Iq z],.agg #[Iq d,Iq f,Iq i]] w (UW w (z<i\/d≠x\/f≠y)):=by
 obtain⟨X,hi,s,t,C⟩:=info_parts vB;have I:Hid (∀n b o w,0<=n/\n<=8->0<=b/\b<=80->0<=o/\o<100->Cw 299 #[Iq n,Iq b,Iq o] w λe w'=>(∃c,e=Rw (Iq c)/\0<=c/\c<100)/\w'=w):=λn b o w G H R=>(ye n b o w G H).mono λe w' h=>⟨⟨_,h.1,OL G H R⟩,h.2⟩;obtain⟨S,hS⟩:=af w.heap.size;obtain⟨a,m⟩:=af ((w.alloc (.cells #[Iq x,Iq y,Iq z] 44)).alloc (.cells #[Iq d,Iq f,Iq i] 44));have j:Hid (Bq w a):=by rw[<-m];exact No.alloc At _
 have F:Hid (∀u,Bq a u->(u.cell? (aq S 0)=some (Iq x)/\u.cell? (aq S 1)=some (Iq y)/\u.cell? (aq S 2)=some (Iq z))/\u.cell? (aq (S+1) 0)=some (Iq d)/\u.cell? (aq (S+1) 1)=some (Iq f)/\u.cell? (aq (S+1) 2)=some (Iq i)):=λu hu=>by have A:=(R3.new w x y z 44).gr ((Gr.refl _).alloc (.cells #[Iq d,Iq f,Iq i] 44));have B:=R3.new (w.alloc (.cells #[Iq x,Iq y,Iq z] 44)) d f i 44;rw[ai,hS]at B;rw[hS]at A;rw[m]at A B;have D:=A.lt;have E:=B.lt;exact⟨⟨(hu.cell (p:=(aq S 0)) D).trans A.c0,(hu.cell (p:=(aq S 1)) D).trans A.c1,(hu.cell (p:=(aq S 2)) D).trans A.c2⟩,(hu.cell (p:=(aq (S+1) 0)) E).trans B.c0,(hu.cell (p:=(aq (S+1) 1)) E).trans B.c1,(hu.cell (p:=(aq (S+1) 2)) E).trans B.c2⟩
 obtain⟨⟨L,M,N⟩,O,P,Q⟩:=F a Ok;have q:=KR.nil a a.heap.size 3 1 K9;have g:=ac a.heap.size a;have K:=qH (xI hS);have J:Hid (∀v n u,KR u a.heap.size 3 1 v n K9->Bq a u->n<=3->(z<i\/d≠x\/f≠y->0<n)->UW w (z<i\/d≠x\/f≠y) (.returned v) u):=λv n u k b l c=>⟨v,n,rfl,l,k.base j.size,c,j.trans (b.mono j.size)⟩;go_enter func254,ntmps254;go_wp2_with(first
  |(go_at_call 299;refine ag (I.out _ _ _ _ (by assumption) (by decide) (by decide)) ?_;rintro e u5 ⟨⟨c5,rfl,r⟩,T⟩;obtain rfl:=T.symm)
  |(at_builtin;refine yK (W0:=a) hi s t C q g [Iq _] rfl _ _ rfl underlying26 ⟨rfl,by decide,by decide⟩ rfl rfl rfl ⟨rfl,rfl⟩ dg (Pe (by first|exact⟨_,rfl,by decide,by decide⟩|exact⟨_,rfl,r⟩)) ?_;intro Y U q g _;obtain⟨⟨L,M,N⟩,O,P,Q⟩:=F.out U g));all_goals go_ret;exact J.out _ _ _ q g dg (by first|omega|grind)
def K9.pick{w:AT}{g n:Nat}(h:KB w g n K9):∃ns:List Int,ns.length=n/\kh ns/\∀j,j<n->w.cell? (aq g (0+j))=some (Iq (ns[j]?.getD 0)):=by
 induction n with
 |zero=>exact⟨[],rfl,λn h=>by simp at h,λj h=>dg⟩
 |succ n l=>
  obtain⟨ns,a,b,c⟩:=l ⟨h.1,λj f=>h.2 j dg⟩;obtain⟨_,_,d,x,rfl,k⟩:=h.2 n dg;refine⟨ns++[x],by simp[a],b.app λm i=>?_,λj f=>?_⟩
  .obtain rfl:m=x:=by simpa using i
   exact k
  .by_cases e:j<n;.rw[Cn dg];exact c j e
   .obtain rfl:j=n:=dg;rw[b_,d,xG dg,a];simp
def RV{ns:zzc}(h:kh ns)(l:ns.length<=4):(⟨(sq ns).toArray⟩:BY).size<=15:=by have:=pH ns h;show(sq ns).toArray.size<=_;simp[sq];omega
def UV(w:AT)(c:Prop)(e:Ending)(w':AT):Prop:=∃t:BY,e=Rw (.string t)/\t.size<=15/\(c->t.size=0)/\Bq w w'
def NU{w:AT}{B n:Nat}{v:Fd}(h:KR w B 3 1 v n K9)(d:0<n)(j:n<=4):Cw 255 #[v] w (UV w False):=by obtain⟨g,a,rfl,_,c⟩:=h.kb d;rw[C6]at c;obtain⟨ns,rfl,f,i⟩:=K9.pick c;exact(rx ns g 0 a w d c.1 i f dg).mono λe w' ⟨h,b⟩=>⟨_,h,RV f j,λh=>h.elim,b⟩
def Rx{e:Array Oper}{rest:List Oper}{o:Oper}{a:Act}{Q:Exit->Act->AT->Prop}{w:AT}{v v2:Fd}{n m B E:Nat}{t:TypeId}(F:KR w B 3 1 v n K9)(y:KR w E 3 1 v2 m K9)(I:0<m)(T:n+m<=100)(z:B<=w.heap.size)(i:o.guard=none)(s x:Operand)(J:o.op=.call {callee:=.builtin .append,args:=#[s,x],argTypes:=#[t,t]})(L:prog.underlying t=some (.slice 3))(K:a.eval s=v)(M:a.eval x=v2)(h:∀f w',KR w' B 3 1 f (n+m) K9->Below B w w'->wpList prog e Q rest (a.put o.dst f) w'):wpList prog e Q (o::rest) a w:=by
 obtain⟨N,hi,l,p,q⟩:=info_parts vB;obtain⟨g,c,rfl,_⟩:=y.kb I;obtain⟨r,C,O⟩:=F;obtain⟨S,D,A⟩:=y;refine wpList_append_own _ i s x t J B 3 N (Iq 0) 1 8 L hi l p q rfl (by decide) v n r K C (aq g 0) m c S M D.1 (λj u b=>D.cells (g:=g) rfl j u b) (λu hu=>?_) (by unfold maxLen;omega) dg z λf w' P R _=>h f w' ⟨_,P,λj u b=>?_⟩ (Ok.grown R z λk G=>(C.lt k G).1);.obtain⟨j,b⟩:=List.getElem?_of_mem hu;obtain⟨_,rfl,_⟩:=A j u b;rfl
 .by_cases H:j<r.length;.rw[Cn H]at b;exact O j u b
  .rw[xG dg]at b;exact(A _ u b:K9 (j-r.length) u)
def Ro{w w':AT}{g B:Nat}(h:w.heap[g]?=some (.cells #[Iq 0] 3 (0,0)))(a:Bq w w')(l:B<=g):KR w' B 3 1 (Sq g 1 1) 1 K9:=by refine⟨[Iq 0],⟨rfl,.inr ⟨g,1,#[Iq 0],rfl,l,(a.block g (aj.1 h).1).trans h,LE,by decide,rfl,rfl⟩⟩,λj u b=>?_⟩;have:=nQ b;simp at this;exact⟨0,this,by decide,by decide⟩
def S7(w:AT)(S:Nat)(x y z x2 y2 z2:Int)(u:AT):Prop:=R3 44 u S x y z/\R3 44 u (S+1) x2 y2 z2/\Gr w u
def OX(f g b f2 j h:Int)(w:AT):Cw 186 #[.agg #[Iq f,Iq g,Iq b],.agg #[Iq f2,Iq j,Iq h]] w (UV w (f=f2/\g=j/\b=h)):=by
 obtain⟨x,W⟩:=af (kn f);obtain⟨y,hy⟩:=af (kn g);obtain⟨z,X⟩:=af (bo b);obtain⟨p,m⟩:=af (kn f2);obtain⟨r,n⟩:=af (kn j);obtain⟨C,o⟩:=af (bo h);have C1:Hid (∀w,Cw 169 #[.agg #[Iq f,Iq g,Iq b]] w λe w'=>e=Rw (.agg #[Iq x,Iq y,Iq z])/\Gr w w'):=by rw[<-W,<-hy,<-X];exact jc f g b
 have C2:Hid (∀w,Cw 169 #[.agg #[Iq f2,Iq j,Iq h]] w λe w'=>e=Rw (.agg #[Iq p,Iq r,Iq C])/\Gr w w'):=by rw[<-m,<-n,<-o];exact jc f2 j h
 have U:Hid (0<=C):=by rw[<-o];exact(rF h).1
 have R:Hid (0<=p/\p<=8):=by rw[<-m];exact NX f2
 have T:Hid (0<=r/\r<=8):=by rw[<-n];exact NX j
 have HQ:Hid (f=f2/\g=j/\b=h->x=p/\y=r/\z=C):=fun⟨h1,h2,h3⟩=>⟨by rw[<-W,<-m,h1],by rw[<-hy,<-n,h2],by rw[<-X,<-o,h3]⟩;clear W hy X m n o;obtain⟨S,hS⟩:=af w.heap.size;obtain⟨L,F⟩:=af ((w.alloc (.cells #[Iq f,Iq g,Iq b] 44)).alloc (.cells #[Iq f2,Iq j,Iq h] 44));have k:Hid (S7 w S f g b f2 j h L):=by have:=R3.new (w.alloc (.cells #[Iq f,Iq g,Iq b] 44)) f2 j h 44;rw[ai,hS]at this;rw[<-F,<-hS];exact⟨(R3.new w _ _ _ _).gr ((Gr.refl _).alloc _),hS▸this,((Gr.refl w).alloc _).alloc _⟩
 have M:=k.1.c0;have N:=k.1.c1;have O:=k.1.c2;have P:=k.2.1.c0;have i:=k.2.1.c1;have A:=k.2.1.c2;have I:=qH hS;go_enter func186,ntmps186;go_wp2_with fail;clear hS F;go_cut[2,3]from 6 to 9 (λu v wx=>u=Pq S/\v=Pq (S+1)/\Hid (S7 w S x y z p r C wx));.go_region_with(go_at_call 169;(first|(with_reducible refine ag (C1.out _) ?_)|(with_reducible refine ag (C2.out _) ?_));rintro e wn ⟨rfl,B⟩;have t:Hid (Gr L wn):=(by first|exact((Gr.refl L).drew).trans B|exact Gr.trans (Hid.out (by assumption)) B);have a:=qH<|k.out.1.gr t.out;have c:=qH<|k.out.2.1.gr t.out;clear B;have m0:=a.out.c0;have m1:=a.out.c1;have m2:=a.out.c2;have n0:=c.out.c0;have n1:=c.out.c1;have n2:=c.out.c2;have f0:=a.out.fz 0;have f1:=a.out.fz 1;have V:=a.out.fz 2;have g0:=c.out.fz 0;have g1:=c.out.fz 1;have E:=c.out.fz 2);all_goals have d:Hid (S7 w S x y z p r C ((((((wn.setCell (aq S 0) (Iq x)).setCell (aq S 1) (Iq y)).setCell (aq S 2) (Iq z)).setCell (aq (S+1) 0) (Iq p)).setCell (aq (S+1) 1) (Iq r)).setCell (aq (S+1) 2) (Iq C))):=⟨(a.set x y z).others dg _ _ _,(c.others dg _ _ _).set p r C,((k.2.2.trans t).set3 (by rw[I.out];omega) _ _ _).set3 (by rw[I.out];omega) _ _ _⟩;clear m0 m1 m2 n0 n1 n2 f0 f1 V g0 g1 E M N O P i A a c;go_wp2_with fail;go_meet;exact⟨rfl,rfl,d⟩
 obtain⟨rfl,rfl,d⟩:=hcut;clear M N O P i A;have M:=d.1.c0;have N:=d.1.c1;have O:=d.1.c2;have P:=d.2.1.c0;have i:=d.2.1.c1;have A:=d.2.1.c2;have g0:=d.1.fz 0;have ze:=d.1.fz 1;have E:=d.1.fz 2;have al:=d.1.lt;have bl:=d.2.1.lt;have G:=qH d.2.2;have Z:Hid (w.heap.size<=wc.heap.size):=d.2.2.size;have D:Hid (Gr w (wc.alloc (.cells #[Iq 0] 3))):=d.2.2.alloc _;have s:Hid (Gr w ((((wc.setCell (aq S 0) (Iq 0)).setCell (aq S 1) (Iq 0)).setCell (aq S 2) (Iq 0)).alloc (.cells #[Iq 0] 3))):=(d.2.2.set3 (by rw[I.out];omega) _ _ _).alloc _;have J:=qH (heap_alloc_new wc (.cells #[Iq 0] 3));have l:=heap_alloc_new (((wc.setCell (aq S 0) (Iq 0)).setCell (aq S 1) (Iq 0)).setCell (aq S 2) (Iq 0)) (.cells #[Iq 0] 3);rw[show(((wc.setCell (aq S 0) (Iq 0)).setCell (aq S 1) (Iq 0)).setCell (aq S 2) (Iq 0)).heap.size=wc.heap.size by simp[World.setCell]]at l;replace l:=qH l;go_wp2_with(first
  |(go_at_call 254;refine ag (He _ _ _ _ _ _ _ (by first|exact R.out|decide) (by first|exact T.out|decide)) ?_;rintro e w1 ⟨v1,n1,rfl,l1,K,p1,i⟩)
  |(at_builtin;have hp:=p1 (by have:=U.out;omega);(first
   |(refine Rx (Ro l.out i Z.out) K hp dg (aA s.out.size i.size) rfl _ _ rfl underlying26 rfl rfl ?_;have H:=qH<|s.out.below.trans (i.mono s.out.size))
   |(refine Rx (KR.nil _ w.heap.size _ _ _) K hp dg (aA G.out.size i.size) rfl _ _ rfl underlying26 rfl rfl ?_;have H:=qH<|G.out.below.trans (i.mono G.out.size)));intro v2 w2 K2 h;clear p1 K i)
  |(go_at_call 255;(first
   |(refine ag (NU K2 dg dg) ?_;rintro e w3 ⟨t3,rfl,l3,_,Q⟩;have Y:=qH<|(H.out.trans (h.mono LE)).trans (Q.mono (aA H.out.size h.size)))
   |(refine ag (NU (Ro J.out Ok Z.out) (by decide) (by decide)) ?_;rintro e w3 ⟨t3,rfl,l3,_,Q⟩;have Y:=qH<|D.out.below.trans (Q.mono D.out.size)))));all_goals
  go_ret;first
   |exact⟨t3,rfl,l3,λq=>by have:=HQ.out q;omega,Y⟩
   |exact⟨_,rfl,by decide,λ_=>rfl,G.below⟩
structure dj(Q:AT)(B b:Nat)(p v:Fd)(W a f g d:Int)(l:zzf):Prop where
 low:B<=b
 hp:p=.pointer none\/p=.pointer (some (aq b 0))
 at_:Q.heap[b]?=some (.cells #[p,v,.int .i64 W,.int .i64 a,.int .i64 f,.int .i64 g,.int .i64 d] 162 (0,0))
 own:Q.ownsRowF B 5 1 v l.length (Lib.byteCells l)
 ne:v.ownBlock≠some b
def tT(b:Nat)(w:AT)(c:w.cell? (aq b 0)=some (.pointer (some (aq b 0)))):
 Calls Tryz.prog 107 #[.pointer (some (aq b 0))] w λe w'=>e=Rw (.tuple #[])/\w'=w:=by obtain⟨j,a,_⟩:=jy.1 (by kernel_rfl:(Tryz.prog.info? 160).map (·.size)=some 2);go_enter Tryz.func107,Tryz.ntmps107;go_wp2;rw[Lib.run_neq_ptr_same w _ (by kernel_rfl:Tryz.prog.underlying 157=some (.pointer 160)) a];go_wp2;go_end0;exact⟨rfl,rfl⟩
def rk(b:Nat)(w:AT)(h:w.cell? (aq b 0)=some (.pointer none))(a:w.shape? b=some (162,7))(f:w.frozen? (aq b 0)=false):
 Calls Tryz.prog 107 #[.pointer (some (aq b 0))] w λe w'=>e=Rw (.tuple #[])/\w'=w.setCell (aq b 0) (.pointer (some (aq b 0))):=by obtain⟨j,d,c⟩:=jy.1 (by kernel_rfl:(Tryz.prog.info? 160).map (·.size)=some 2);have t70:Tryz.prog.underlying 157=some (.pointer 160):=pt;have t164:Tryz.prog.underlying 245=some .unsafePointer:=pt;have g:liesAt Tryz.prog Tryz.prog.depth 162 (7/Tryz.prog.cellsOf 162) 0 160 1=true:=pt;go_enter Tryz.func107,Tryz.ntmps107;go_wp2;rw[Lib.run_to_unsafe w (aq b 0) t70 t164 d (by rw[c];decide) a (Nat.zero_lt_succ 6)];simp only[Result.andThen];rw[xJ];go_wp2;rw[run_callFunc_extern Tryz.func182 pt pt pt (e:=Extern.AbiNoEscape.same) pt];rw[Lib.run_noEscape];simp only[Result.andThen];rw[xJ];go_wp2;rw[Lib.run_from_unsafe w (aq b 0) t164 t70 d a g];simp only[Result.andThen];rw[xJ];go_wp2;go_end0;exact⟨rfl,rfl⟩
def dj.cell{Q:AT}{B b:Nat}{p v:Fd}{W a f g d:Int}{l:zzf}(h:dj Q B b p v W a f g d l){k:Nat}{u:Fd}(c:#[p,v,.int .i64 W,.int .i64 a,.int .i64 f,.int .i64 g,.int .i64 d][k]?=some u):Q.cell? (aq b k)=some u:=by rw[Lib.cell_of_heap h.at_];exact c
def dj.fz{Q:AT}{B b:Nat}{p v:Fd}{W a f g d:Int}{l:zzf}(h:dj Q B b p v W a f g d l)(k:Nat):Q.frozen? (aq b k)=false:=Lib.frozen_of_heap h.at_ k
def dj.lt{Q:AT}{B b:Nat}{p v:Fd}{W a f g d:Int}{l:zzf}(h:dj Q B b p v W a f g d l):b<Q.heap.size:=(aj.1 h.at_).1
def MB:(162:TypeId)≠5:=by decide
def dj.set{Q:AT}{B b:Nat}{p v:Fd}{W a f g d:Int}{l:zzf}(h:dj Q B b p v W a f g d l)(k:Nat)(u:Fd):(Q.setCell (aq b k) u).heap[b]?=some (.cells (#[p,v,.int .i64 W,.int .i64 a,.int .i64 f,.int .i64 g,.int .i64 d].setIfInBounds k u) 162 (0,0))/\(Q.setCell (aq b k) u).ownsRowF B 5 1 v l.length (Lib.byteCells l):=by
 refine⟨heap_setCell_same Q b k _ _ u h.at_,h.own.1,?_⟩;rcases h.own.2 with q|⟨c,i,j,o,n,s,t,r⟩;.exact .inl q
 .have m:c≠b:=by intro e;subst e;exact h.ne (by rw[n];rfl)
  exact .inr ⟨c,i,j,o,n,s,by rw[heap_setCell_other];exact t;exact m,r⟩
def wP(B b:Nat)(p v:Fd)(W a f g d:Int)(l:zzf)(w:AT)(h:dj w B b p v W a f g d l):
 Calls Tryz.prog 107 #[.pointer (some (aq b 0))] w λe w'=>e=Rw (.tuple #[])/\dj w' B b (.pointer (some (aq b 0))) v W a f g d l/\Below B w w'/\Lib.OthersKept 5 (some b) w w':=by
 rcases h.hp with rfl|rfl;.refine Ut (rk b w (h.cell (k:=0) rfl) (by simp[World.shape?,h.at_]) (h.fz 0)) ?_;rintro w' rfl;have q:=h.set 0 (.pointer (some (aq b 0)));exact⟨rfl,⟨h.low,.inr rfl,q.1,q.2,h.ne⟩,(ac B w).setCell (p:=(aq b 0)) h.low _,(Lib.OthersKept.refl _ _ w).setCell (aq b 0) rfl _⟩
 .refine Ut (tT b w (h.cell (k:=0) rfl)) ?_;rintro w' rfl;exact⟨rfl,h,ac B _,Lib.OthersKept.refl _ _ _⟩
def eF(B b:Nat)(p v:Fd)(W a f g d:Int)(l:zzf)(s:BY)(w:AT)(h:dj w B b p v W a f g d l)(H:l.length+s.size<=140737488355328)(N:B<=w.heap.size):
 Calls Tryz.prog 67 #[.pointer (some (aq b 0)),.string s] w λe w'=>e=Rw (.tuple #[.int .i64 s.size,.nilIface])/\∃x,dj w' B b (.pointer (some (aq b 0))) x W a f g d (l++s.data.toList)/\Below B w w'/\Lib.OthersKept 5 (some b) w w':=by
 obtain⟨O,hi,D,E,F⟩:=info_parts (by kernel_rfl:(Tryz.prog.info? 5).map (λi=>(i.zero,i.size,i.bytes))=some (some (.int .u8 0),1,1));have J:Hid (∀w,dj w B b p v W a f g d l->Calls Tryz.prog 107 #[.pointer (some (aq b 0))] w λe w'=>e=Rw (.tuple #[])/\dj w' B b (.pointer (some (aq b 0))) v W a f g d l/\Below B w w'/\Lib.OthersKept 5 (some b) w w'):=wP B b p v W a f g d l;have K:Hid (dj w B b p v W a f g d l):=h;clear h;go_enter Tryz.func67,Tryz.ntmps67;go_wp2_with fail;refine Ut (J.out _ K.out) ?_;rintro I ⟨n,q,A⟩;have P:I.cell? (aq b 0)=some (.pointer (some (aq b 0))):=n.cell (k:=0) rfl;have c1:I.cell? (aq b 1)=some v:=n.cell (k:=1) rfl;go_wp2_with(at_builtin;refine Lib.wpList_append_own_stringF _ rfl _ _ 158 9 rfl B 5 O pt pt hi D E F _ _ _ rfl n.own s rfl ?c3 ?c4 ?c5 ?_);case c3=>unfold maxLen;omega
 case c4=>omega
 case c5=>have:=q.size;omega
 intro x t j c _;have m:t.heap[b]?=some (.cells #[.pointer (some (aq b 0)),v,.int .i64 W,.int .i64 a,.int .i64 f,.int .i64 g,.int .i64 d] 162 (0,0)):=by rw[c.block b n.lt (λe=>n.ne e.symm)];exact n.at_
 have d0:t.cell? (aq b 0)=some (.pointer (some (aq b 0))):=by rw[Lib.cell_of_heap m];rfl
 have d1:t.cell? (aq b 1)=some v:=by rw[Lib.cell_of_heap m];rfl
 have f1:t.frozen? (aq b 1)=false:=Lib.frozen_of_heap m 1;have u:x.ownBlock≠some b:=Lib.ownBlock_neF j m MB;have r:t.ownsRowF B 5 1 x (l++s.data.toList).length (Lib.byteCells (l++s.data.toList)):=by rw[Lib.byteCells_append,aN];have M:s.data.toList.length=s.size:=rfl;rw[M];exact j
 obtain⟨y,G,o,rfl⟩:∃y G o,x=.slice y G o:=by
  rcases j.2 with⟨C,_⟩|⟨g,o,L,Q,C,_⟩;.exact⟨_,_,_,C⟩
  .exact⟨_,_,_,C⟩
 go_wp2;go_ret2;refine⟨rfl,.slice y G o,?_,(q.grown c (by have:=q.size;omega) (λk z=>(n.own.lt k z).1)).setCell (p:=(aq b 1)) n.low _,(A.grown c (Lib.ownsRowF_kind n.own)).setCell (aq b 1) rfl _⟩;refine⟨n.low,.inr rfl,heap_setCell_same t b 1 _ _ _ m,?_,u⟩;exact r.kept (row:=some b) ⟨rfl,rfl,rfl,by simp[World.setCell],λk _ z=>aM _ _ _ _ (λe=>z (by simp[e]))⟩ (Or.inr u)
section
open Go.Shelf
def Im:Go.Proofs.LaysM.n171 Tryz.prog Nl:={BD with
 i0:=pt
 i2:=pt
 i3:=pt
 i4:=pt
 i5:=pt
 i9:=pt
 i20:=pt
 i37:=pt
 i46:=pt
 i51:=pt
 i53:=pt
 i171:=pt
 i173:=pt
 i212:=pt
 i232:=pt
 i233:=pt
 m17:=pt
 m18:=pt
 m19:=by kernel_rfl}
def gC(w:AT):Prop:=∃nm:String,Tryz.prog.globalNamed nm=some 11/\Lib.TabIs Tryz.prog w nm .u64 Lib.pow10Tab
def Jl{P:Program}{w:AT}{n a:String}{k:IntKind}{b:zzc}{g:Nat}(c:P.globalNamed n=some g)(d:P.globalNamed a=some g)(h:Lib.TabIs P w n k b):Lib.TabIs P w a k b:=by unfold Lib.TabIs World.var? at*;rw[c]at h;rw[d];exact h
def gC.below{w w':AT}{B:Nat}(h:gC w)(c:Below B w w')(d:11<B):gC w':=by obtain⟨e,b,a⟩:=h;refine⟨e,b,?_⟩;unfold Lib.TabIs World.var? at*;rw[b]at a|-;simp only[Option.bind_some]at a|-;have:w'.heap[11]?=w.heap[11]?:=c.block _ d;rw[this];exact a
def G9(n:Nat)(f:n<=1000000)(w:AT)(c:gC w):
 Calls Tryz.prog 185 #[.int .i64 n] w λe w'=>e=Rw (.string ⟨(Lib.decDigits n).toArray⟩)/\Gr w w':=by
 obtain⟨g,a,b⟩:=c;refine(Any.strconv_Itoa Im n dg dg w (Jl a pt b)).mono λe w' ⟨h,k,os,d⟩=>?_;refine⟨?_,?_⟩
 .rw[h];have:Lib.itoa (n:Int)=Lib.decDigits n:=by
   unfold Lib.itoa;first
    |rw[if_neg dg];rfl
    |simp
  rw[this]
 .exact⟨k,os,d⟩
