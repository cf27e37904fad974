import Derived.Test.YtehgehanbnkdiaaGreatDoorQ43
import Derived.Test.YtehgehanbnkdiaaGreatDoorQ33
import Derived.Test.YtehgehanbnkdiaaGreatDoorQ06
import Derived.Test.YtehgehanbnkdiaaGreatDoorQ39
import Derived.Test.YtehgehanbnkdiaaGreatDoorQ44
set_option linter.all false
set_option maxRecDepth 100000
set_option maxHeartbeats 16000000
namespace Go.Proofs.YtehgehanbnkdiaaGreatDoor
open Go.RowKit Go.Sort Go.Proofs.Tryz
def xd(d r g b h i X:Nat)(L:zza)(KV:Nat->Fd)(f:zzb)(U:AT)(c:oS U d r g b h L KV f)(l:U.cell? (aq X 0)=some (Pq d))(hi:i<L.length):
 Cw 261 #[Iq (i:Int),Pq X] U λe j=>e=Rw (Iq (f i))/\j=U:=by
 have a:=c.ms;have m:U.cell? (aq d 1)=some (Sq h L.length L.length):=by unfold Ms at a;rw[Lib.cell_of_heap a];rfl
 have c1:=c.wd i hi;have k:(i:Int)<(L.length:Int):=dg;clear c a;go_enter func261,ntmps261;go_wp2;go_ret;simp_all
def fM(U W:AT)(r m:Nat)(L:zza)(ks:zzh)(N:zzb)(H:zzg)(n:Nat)(v:Fd):Prop:=∃lb,v=Sq lb m m/\NF U W r lb m (λj=>EX (ae L (aZ ks j)) (N j)) (λj=>au (ae L (aZ ks j)) 2) (λj=>au (ae L (aZ ks j)) 3) H n
def lY(l r g b F y:Nat)(L:zza)(a:zzh)(KV:Nat->Fd)(k:zzb)(H:zzg)(Y G I J K M N O P Q R S T up:Int)(tx:BY)(p:zze)(c:Nat)(U:AT)(X:Hid (oS U l r g b F L KV k))(C:Hid (aU U r H y))(hm:a.length<=1000)(q:Hid (∀j,j<a.length->aZ a j<L.length))(hL:L.length<=1000000)(V:Hid (eL U r p a.length (λj=>(aZ a j:Int))))(W:Hid (∀i,i<L.length->0<=k i/\k i<=100000)):
 Cw 193 #[Pq l,eu Y G I J K M N O P Q R S T tx (.slice p a.length c) up] U λe s=>∃v,e=Rw v/\fM U s r a.length L a (λj=>k (aZ a j)) H y v:=by
 have zg:∀(fn:Fn) (first b:Array Fd) (w:AT),(Instr.makeFunc fn first b).run prog w=.ok (.func fn first b) w:=λ_ _ _ _=>rfl;obtain⟨m,x⟩:=af a.length;obtain⟨n,o⟩:=af ((U.alloc (.cells #[Pq l] 167)).alloc (.cells #[Iq Y,Iq G,Iq I,Iq J,Iq K,Iq M,Iq N,Iq O,Iq P,Iq Q,Iq R,Iq S,Iq T,.string tx,.slice p m c,Iq up] 140));obtain⟨A,hA⟩:=af U.heap.size;have d:Bq U n:=by rw[<-o];exact(((Gr.refl U).alloc _).alloc _).below
 have f:U.grownBy n (some r):=aa d;have E:=C.lt;have h:n.heap[A]?=some (.cells #[Pq l] 167 (0,0)):=by rw[<-o,<-hA,bG _ _ _ (by simp_all)];exact heap_alloc_new _ _
 have z:Hid (Cw 260 #[Pq l,.slice p m c,.func (.func 261) #[] #[Pq A]] n λe s=>∃v,e=Rw v/\fM U s r m L a (λj=>k (aZ a j)) H y v):=by
  have t:=X.grown f;have hz:∀j,cS (λ_=>0) j=0:=λj=>by induction j with
   |zero=>rfl
   |succ j ih=>grind[cS]
  refine(sG _ _ _ l r g b F y m L KV k H (aZ a) (λj=>k (aZ a j)) (λ_=>0) p c n (.inl ⟨rfl,A,rfl,rfl⟩) t (C.grown_below d) dg (by simp_all) hL (by rw[<-x];exact V.grown f) (λj hj=>W _ (q j dg)) (λj u hj hu D=>?_)).mono ?_
  .refine(xd l r g b F (aZ a j) A L KV k u (t.grown hu) ?_ (q j dg)).mono ?_;.have B:=(aj.1 h).1;rw[Lib.cell_of_heap ((hu.block A B (λe=>rn)).trans h)];rfl
   .rintro e u' ⟨rfl,rfl⟩;exact⟨rfl,aa Ok,D.mono rn⟩
  .rintro e s ⟨lb,rfl,Z,h2,h3,h4⟩;refine⟨_,rfl,lb,rfl,Z,aA d.size h2,f.trans h3,h4.mono rn⟩
 have ze:n.cell? (aq (A+1) 14)=some (.slice p m c):=by rw[<-o,World.cell?_alloc_at _ _ _ _ (by simp_all)];rfl
 have h0:n.cell? (aq A 0)=some (Pq l):=by rw[Lib.cell_of_heap h];rfl
 rw[x];unfold eu;clear d f E h X C q V W;go_enter func193,ntmps193;go_wp2_with(go_at_call 260;refine z.mono ?_;rintro e s ⟨v,rfl,ho⟩);go_ret;simp_all
def uQ(b r i X Y n k:Nat)(w:Int)(H:zzg)(U:AT)(h:U.cell? (aq X 0)=some (Pq b))(j:U.cell? (aq Y 0)=some (Iq w))(c:Hid (Cw 190 #[Pq b,Iq (i:Int),Iq w] U λe a=>e=Rw (Iq (H i w))/\Hid (U.grownBy a (some r))/\Hid (aU a r H k))):
 Cw 262 #[Iq (i:Int),Pq X,Pq Y] U λe a=>e=Rw (Iq (H i w))/\Hid (U.grownBy a (some r))/\Hid (aU a r H k):=by go_enter func262,ntmps262;go_wp2_with(go_at_call 190;refine Ut c ?_;rintro d ⟨f,g⟩);go_ret;simp_all
def tq(f r g b wb o:Nat)(w:Int)(L:zza)(a:zzh)(s:Nat->Nat)(KV:Nat->Fd)(Y:zzb)(H:zzg)(W B C D E F G I J K M N O up:Int)(tx:BY)(p:zze)(c:Nat)(U:AT)(hV:Hid (oS U f r g b wb L KV Y))(Q:Hid (aU U r H o))(hm:a.length<=1000)(x:Hid (∀j,j<a.length->aZ a j<L.length))(hL:L.length<=1000000)(hK:Hid (eL U r p a.length (λj=>(aZ a j:Int))))(hN:Hid (∀i w,i<L.length->0<=H i w/\H i w<=100000))(X:Hid (∀j u n',j<a.length->U.grownBy u (some r)->aU u r H n'->n'<=o+cS s j->Cw 190 #[Pq f,Iq (aZ a j:Int),Iq w] u λe u'=>e=Rw (Iq (H (aZ a j) w))/\Hid (u.grownBy u' (some r))/\Hid (aU u' r H (o+cS s (j+1))))):
 Cw 195 #[Pq f,eu W B C D E F G I J K M N O tx (.slice p a.length c) up,Iq w] U λe t=>∃v,e=Rw v/\fM U t r a.length L a (λj=>H (aZ a j) w) H (o+cS s a.length) v:=by
 have zg:∀(fn:Fn) (first b:Array Fd) (w:AT),(Instr.makeFunc fn first b).run prog w=.ok (.func fn first b) w:=λ_ _ _ _=>rfl;obtain⟨m,y⟩:=af a.length;obtain⟨n,k⟩:=af (((U.alloc (.cells #[Pq f] 167)).alloc (.cells #[Iq W,Iq B,Iq C,Iq D,Iq E,Iq F,Iq G,Iq I,Iq J,Iq K,Iq M,Iq N,Iq O,.string tx,.slice p m c,Iq up] 140)).alloc (.cells #[Iq w] 3));obtain⟨A,Z⟩:=af U.heap.size;have h:Bq U n:=by rw[<-k];exact((((Gr.refl U).alloc _).alloc _).alloc _).below
 have d:U.grownBy n (some r):=aa h;have V:=Q.lt;have l:n.heap[A]?=some (.cells #[Pq f] 167 (0,0)):=by rw[<-k,<-Z,bG _ _ _ (by rw[ai,ai];omega),bG _ _ _ (by simp_all)];exact heap_alloc_new _ _
 have q:n.heap[A+1+1]?=some (.cells #[Iq w] 3 (0,0)):=by have:=heap_alloc_new ((U.alloc (.cells #[Pq f] 167)).alloc (.cells #[Iq W,Iq B,Iq C,Iq D,Iq E,Iq F,Iq G,Iq I,Iq J,Iq K,Iq M,Iq N,Iq O,.string tx,.slice p m c,Iq up] 140)) (.cells #[Iq w] 3);rw[ai,ai,Z,k]at this;exact this
 have z:Hid (Cw 260 #[Pq f,.slice p m c,.func (.func 262) #[] #[Pq A,Pq (A+1+1)]] n λe t=>∃v,e=Rw v/\fM U t r m L a (λj=>H (aZ a j) w) H (o+cS s m) v):=by
  have R:=hV.grown d;refine(sG _ _ _ f r g b wb o m L KV Y H (aZ a) (λj=>H (aZ a j) w) s p c n (.inr ⟨rfl,A,A+1+1,rfl,rfl⟩) R (Q.grown_below h) dg (by simp_all) hL (by rw[<-y];exact hK.grown d) (λj hj=>hN _ _ (x j dg)) (λj u hj hu T=>?_)).mono ?_
  .have P:=(aj.1 l).1;have S:=(aj.1 q).1;refine uQ f r (aZ a j) A (A+1+1) (o+cS s j) (o+cS s (j+1)) w H u ?_ ?_ (X j u _ dg (d.trans hu) T LE);.rw[Lib.cell_of_heap ((hu.block A P (λe=>rn)).trans l)];rfl
   .rw[Lib.cell_of_heap ((hu.block (A+1+1) S (λe=>rn)).trans q)];rfl
  .rintro e t ⟨lb,rfl,h1,h2,h3,h4⟩;exact⟨_,rfl,lb,rfl,h1,aA h.size h2,d.trans h3,h4⟩
 have ze:n.cell? (aq (A+1) 14)=some (.slice p m c):=by rw[<-k,World.cell?_alloc_past _ _ _ (by simp_all),World.cell?_alloc_at _ _ _ _ (by simp_all)];rfl
 have h0:n.cell? (aq A 0)=some (Pq f):=by rw[Lib.cell_of_heap l];rfl
 rw[y];unfold eu;clear h d V l q hV Q x hK hN X;go_enter func195,ntmps195;go_wp2_with(go_at_call 260;refine z.mono ?_;rintro e t ⟨v,rfl,ho⟩);go_ret;simp_all
def xk{U u}{r m n}{L}{a}{N}{H}{v}{w b}(y:a.length=m)(z:m<=200)(h:fM U u r m L a N H n v)(C:r<U.heap.size):
 Cw 258 #[Iq w,Iq b,v] u λe q=>iW U q r m H (λV=>(a=[]\/bY L a N w b V)/\∀j,j<m->0<=V j/\V j<=100000) n e:=by
 subst y;obtain⟨A,rfl,t,B,g,k⟩:=h;refine(mV _ a.length _ _ _ w b u ⟨_,_,rfl,.inr ⟨A,0,rfl,t⟩⟩ dg).mono ?_;rintro e q ⟨v,rfl,l⟩;have c:=l.below;rcases l with⟨f,rfl,hu⟩|⟨D,E,i,rfl,F,⟨s,o,p⟩,G⟩
 .have x:a=[]:=by
   rcases f with f|f;.grind
   .omega
  refine⟨none,0,λ_=>0,⟨.inl x,λj d=>dg⟩,rn,.inl dg,g.trans (aa c),k.grown_below c⟩
 .refine⟨_,_,s,⟨.inr p,λj d=>?_⟩,rfl,.inr ⟨i,0,rfl,o.1,?_,λj d=>(o.2 j d).1⟩,g.trans (aa c),k.grown_below c⟩;.have t1:=(p.tiles (fT _ _ _)).1 j d;have t2:=fT (λj=>EX (ae L (aZ a j)) (N j)) (λj=>au (ae L (aZ a j)) 2) (λj=>au (ae L (aZ a j)) 3) j;grind
  .have:=g.size;omega
def Ff(L:zza)(ks:zzh)(kd a4 a5 a6 w:Int)(Wd:zzb)(V:zzb):Prop:=(kd=0->ks=[]\/bY L ks (λj=>Wd (aZ ks j)) w a4 V)/\(kd≠0->∀j,j<ks.length->V j=max 0 (w-2*iT kd a5 a6))/\∀j,j<ks.length->0<=V j/\V j<=100000
def GD{W:AT}{r b m:Nat}{x:Int}{a:List Fd}(h:W.heap[b]?=some (.cells a.toArray 3 (0,0)))(d:xS 1 a m m [Iq x])(c:b≠r):eL W r (some (aq b 0)) m (λ_=>x):=by refine .inr ⟨b,0,rfl,(aj.1 h).1,c,λj e=>?_⟩;have:=d.2 j 0 _ e rfl;rw[C6,qC]at this;rw[b_,Lib.cell_of_heap h];simpa using this
def fM.g{U W}{r m}{L}{a}{N}{H}{n}{v}(h:fM U W r m L a N H n v):U.grownBy W (some r):=by obtain⟨_,_,_,_,h,_⟩:=h;exact h
def iW.g{U W}{r m}{H}{a}{n}{e}(h:iW U W r m H a n e):U.grownBy W (some r):=by obtain⟨_,_,_,_,_,_,h,_⟩:=h;exact h
def iW.base{U b W}{r m}{H}{a}{n}{e}(h:iW U W r m H a n e)(c:b.grownBy U (some r)):iW b W r m H a n e:=by obtain⟨q,cq,V,d,f,g,i,j⟩:=h;exact⟨q,cq,V,d,f,g,c.trans i,j⟩
def rf(mb r g ze wb R:Nat)(w:Int)(L:zza)(z:zzh)(KV:Nat->Fd)(P:zzb)(H:zzg)(y D E F G s d l I J K M N up:Int)(tx:BY)(p:zze)(c:Nat)(U:AT)(hV:Hid (oS U mb r g ze wb L KV P))(hM:Hid (aU U r H R))(hm:z.length<=200)(Y:Hid (∀j,j<z.length->aZ z j<L.length))(hL:L.length<=1000000)(hK:Hid (eL U r p z.length (λj=>(aZ z j:Int))))(hN:Hid (∀i,i<L.length->0<=P i/\P i<=100000))(hw:0<=w/\w<=100000)(h5:0<=d/\d<=1000000)(h6:0<=l/\l<=1000000):
 Cw 302 #[Pq mb,eu y D E F G s d l I J K M N tx (.slice p z.length c) up,Iq w] U λe U'=>iW U U' r z.length H (Ff L z y s d l w P) R e:=by
 have zy:prog.follows .mixedOrders=true:=pt;obtain⟨m,B⟩:=af z.length;obtain⟨b,Q⟩:=af (U.alloc (.cells #[Iq y,Iq D,Iq E,Iq F,Iq G,Iq s,Iq d,Iq l,Iq I,Iq J,Iq K,Iq M,Iq N,.string tx,.slice p m c,Iq up] 140));obtain⟨A,hA⟩:=af U.heap.size;have o:Hid (Bq U b):=by rw[<-Q];exact((Gr.refl U).alloc _).below
 have T:Hid (U.grownBy b (some r)):=aa o;have C:b.heap[A]?=some (.cells #[Iq y,Iq D,Iq E,Iq F,Iq G,Iq s,Iq d,Iq l,Iq I,Iq J,Iq K,Iq M,Iq N,.string tx,.slice p m c,Iq up] 140 (0,0)):=by rw[<-Q,<-hA];exact heap_alloc_new _ _
 have a:Hid (∀(t:Nat) x,(#[Iq y,Iq D,Iq E,Iq F,Iq G,Iq s,Iq d,Iq l,Iq I,Iq J,Iq K,Iq M,Iq N,.string tx,.slice p m c,Iq up]:Array Fd)[t]?=some x->b.cell? (aq A t)=some x):=λt x ht=>by rw[Lib.cell_of_heap C];exact ht
 have Z:=hM.lt;have HS:Hid (∀u,b.grownBy u (some r)->u.cell? (aq A 0)=some (Iq y)/\u.cell? (aq A 1)=some (Iq D)/\u.cell? (aq A 2)=some (Iq E)/\u.cell? (aq A 3)=some (Iq F)/\u.cell? (aq A 4)=some (Iq G)/\u.cell? (aq A 5)=some (Iq s)/\u.cell? (aq A 6)=some (Iq d)/\u.cell? (aq A 7)=some (Iq l)/\u.cell? (aq A 8)=some (Iq I)/\u.cell? (aq A 9)=some (Iq J)/\u.cell? (aq A 10)=some (Iq K)/\u.cell? (aq A 11)=some (Iq M)/\u.cell? (aq A 12)=some (Iq N)/\u.cell? (aq A 13)=some (.string tx)/\u.cell? (aq A 14)=some (.slice p m c)/\u.cell? (aq A 15)=some (Iq up)):=λu hu=>by have zl:=(aj.1 C).1;have S:=hu.block A zl (λe=>by injection e with e;omega);refine⟨?_,?_,?_,?_,?_,?_,?_,?_,?_,?_,?_,?_,?_,?_,?_,?_⟩<;>(rw[Lib.cell_of_heap (S.trans C)];rfl)
 have z0:b.cell? (aq A 0)=some (Iq y):=a 0 _ rfl;have z1:b.cell? (aq A 1)=some (Iq D):=a 1 _ rfl;have z2:b.cell? (aq A 2)=some (Iq E):=a 2 _ rfl;have z3:b.cell? (aq A 3)=some (Iq F):=a 3 _ rfl;have z4:b.cell? (aq A 4)=some (Iq G):=a 4 _ rfl;have z5:b.cell? (aq A 5)=some (Iq s):=a 5 _ rfl;have z6:b.cell? (aq A 6)=some (Iq d):=a 6 _ rfl;have z7:b.cell? (aq A 7)=some (Iq l):=a 7 _ rfl;have z8:b.cell? (aq A 8)=some (Iq I):=a 8 _ rfl;have z9:b.cell? (aq A 9)=some (Iq J):=a 9 _ rfl;have zE:b.cell? (aq A 10)=some (Iq K):=a 10 _ rfl;have zF:b.cell? (aq A 11)=some (Iq M):=a 11 _ rfl;have zG:b.cell? (aq A 12)=some (Iq N):=a 12 _ rfl;have zH:b.cell? (aq A 13)=some (.string tx):=a 13 _ rfl;have zI:b.cell? (aq A 14)=some (.slice p m c):=a 14 _ rfl;have zJ:b.cell? (aq A 15)=some (Iq up):=a 15 _ rfl;by_cases h0:y=0
 .subst h0;have RW:Hid (∀u,(u=b\/u=b.drew)->Cw 193 #[Pq mb,eu 0 D E F G s d l I J K M N tx (.slice p m c) up] u λe n=>∃v,e=Rw v/\Hid (fM b n r m L z (λj=>P (aZ z j)) H R v)):=λu hu=>by
   have X:b.grownBy u (some r):=by
    rcases hu with rfl|rfl;.exact aa Ok
    .exact jI (aa Ok)
   have zo:aU u r H R:=by
    rcases hu with rfl|rfl;.exact hM.grown_below o
    .exact(hM.grown_below o).drew
   have zj:=T.trans X;have:=lY mb r g ze wb R L z KV P H 0 D E F G s d l I J K M N up tx p c u (hV.grown zj) zo dg Y hL (hK.grown zj) hN;rw[B]at this;refine this.mono ?_;rintro e n ⟨v,rfl,lb,rfl,q1,q2,q3,q4⟩;exact⟨_,rfl,lb,rfl,q1,aA X.size q2,X.trans q3,q4⟩
  have SP:Hid (∀v u,fM b u r m L z (λj=>P (aZ z j)) H R v->Cw 258 #[Iq w,Iq s,v] u λe n=>∃q cq,e=Rw (.slice q m cq)/\Hid (iW b n r m H (Ff L z 0 s d l w P) R (.returned (.slice q m cq)))):=λv u h=>by refine(xk B dg h (zz006 Z o.size)).mono ?_;rintro e n ⟨q,cq,V,⟨v1,v2⟩,rfl,q1,q2,q3⟩;exact⟨q,cq,rfl,q,cq,V,⟨λ_=>v1,λe=>absurd rfl e,by rw[B];exact v2⟩,rfl,q1,q2,q3⟩
  rw[B];unfold eu at RW|-;clear C a hV hM Y hK hN h5 h6 o Z B;go_enter func302,ntmps302;go_wp2_with fail;clear Q hA;go_region_held(λW=>W.cell? (aq A 0)=some (Iq 0)/\W.cell? (aq A 1)=some (Iq D)/\W.cell? (aq A 2)=some (Iq E)/\W.cell? (aq A 3)=some (Iq F)/\W.cell? (aq A 4)=some (Iq G)/\W.cell? (aq A 5)=some (Iq s)/\W.cell? (aq A 6)=some (Iq d)/\W.cell? (aq A 7)=some (Iq l)/\W.cell? (aq A 8)=some (Iq I)/\W.cell? (aq A 9)=some (Iq J)/\W.cell? (aq A 10)=some (Iq K)/\W.cell? (aq A 11)=some (Iq M)/\W.cell? (aq A 12)=some (Iq N)/\W.cell? (aq A 13)=some (.string tx)/\W.cell? (aq A 14)=some (.slice p m c)/\W.cell? (aq A 15)=some (Iq up)) (go_keep) (first|(go_at_call 193;refine ag (RW _ (by first|exact .inl rfl|exact .inr rfl)) ?_;rintro e u1 ⟨v1,rfl,HO⟩;obtain⟨s0,s1,s2,s3,s4,s5,s6,s7,s8,s9,zr,zt,zu,zv,zw,zx⟩:=HS u1 HO.g)|(go_at_call 258;refine ag (SP _ _ HO) ?_;rintro e u2 ⟨q,cq,rfl,HZ⟩;obtain⟨t0,t1,t2,t3,t4,t5,t6,t7,t8,t9,t10,t11,t12,t13,t14,t15⟩:=HS u2 HZ.g));all_goals go_wp2;go_ret;exact HZ.base T
 .have e0:(y==0)=false:=by simpa using h0
  have zi:=yn (kd:=y) h5 h6;obtain⟨f,hf⟩:=af (iT y d l);have FA:Hid (∀u,(u=b\/u=b.drew)->Cw 189 #[eu y D E F G s d l I J K M N tx (.slice p m c) up] u λe n=>e=Rw (Iq f)/\Hid (Bq b n)):=λu hu=>by
   have zh:Bq b u:=by
    rcases hu with rfl|rfl;.exact Ok
    .exact Ok.drew
   rw[<-hf];refine Ut (jH y D E F G s d l I J K M N up tx p m c h5 h6 u) ?_;rintro n q;exact⟨rfl,zh.trans (q.mono zh.size)⟩
  obtain⟨x,hx⟩:=af (max 0 (w-2*f));have zq:0<=x/\x<=100000:=by rw[hf]at zi;omega
  have RP:Hid (∀u,Bq b u->Cw 335 #[Sq u.heap.size 1 1,Iq (m:Int)] (u.alloc (.cells #[Iq x] 3)) λe n=>∃q cq,e=Rw (.slice q m cq)/\Hid (iW b n r m H (Ff L z y s d l w P) R (.returned (.slice q m cq)))):=λu hu=>by
   have O:Bq b (u.alloc (.cells #[Iq x] 3)):=hu.alloc hu.size _;have zg:∀n q cq,Bq b n->eL n r q m (λ_=>x)->iW b n r m H (Ff L z y s d l w P) R (.returned (.slice q m cq)):=λn q cq S hi=>
    ⟨q,cq,λ_=>x,⟨λe=>absurd e h0,λ_ j hj=>by rw[hf];exact hx.symm,λj hj=>zq⟩,rfl,hi,aa S,(hM.grown_below o).grown_below S⟩;by_cases hz:m=0;.rw[hz];refine(xa (.inl ⟨rfl,rfl,rfl,rfl⟩) (u.alloc (.cells #[Iq x] 3)) u.heap.size).mono ?_;rintro e n ⟨q,cq,rfl,S⟩;have:=zg n q cq (O.trans (S.mono O.size)) (.inl hz);rw[hz]at this;exact⟨q,cq,rfl,this⟩
   .refine(oK (.inl ⟨rfl,rfl,rfl,rfl⟩) (u.alloc (.cells #[Iq x] 3)) [Iq x] rfl (λv hv=>by rw[CF.1 hv];rfl) u.heap.size m dg At (λk v hk=>?_)).mono ?_;.rw[World.cell?_alloc_at _ _ _ _ rfl];match k with
     |0=>exact hk
     |k+1=>cases hk
    .rintro e n ⟨rfl,⟨Ls,hl,zn⟩,S⟩;have zm:=O.trans (S.mono O.size);refine⟨_,_,rfl,zg n _ _ zm (GD hl zn ?_)⟩;have:=O.size;have:=o.size;omega
  rw[hf]at zi;rw[B];unfold eu at FA|-;have zk:=qH<|(aj.1 C).1;clear C a hV hM Y hK hN h5 h6 o Z B hf;go_enter func302,ntmps302;go_wp2_with fail;clear Q hA;have zA:IntKind.i64.wrap (2*f)=2*f:=IntWalk.i64_in _ dg;have zB:IntKind.i64.wrap (w-2*f)=w-2*f:=IntWalk.i64_in _ dg;have zC:(if(0:Int)<w-2*f then w-2*f else 0)=x:=by rw[<-hx];split<;>omega
  go_region_held(λW=>W.cell? (aq A 0)=some (Iq y)/\W.cell? (aq A 1)=some (Iq D)/\W.cell? (aq A 2)=some (Iq E)/\W.cell? (aq A 3)=some (Iq F)/\W.cell? (aq A 4)=some (Iq G)/\W.cell? (aq A 5)=some (Iq s)/\W.cell? (aq A 6)=some (Iq d)/\W.cell? (aq A 7)=some (Iq l)/\W.cell? (aq A 8)=some (Iq I)/\W.cell? (aq A 9)=some (Iq J)/\W.cell? (aq A 10)=some (Iq K)/\W.cell? (aq A 11)=some (Iq M)/\W.cell? (aq A 12)=some (Iq N)/\W.cell? (aq A 13)=some (.string tx)/\W.cell? (aq A 14)=some (.slice p m c)/\W.cell? (aq A 15)=some (Iq up)) (go_keep) (first|(go_at_call 189;refine ag (FA _ (by first|exact .inl rfl|exact .inr rfl)) ?_;rintro e u1 ⟨rfl,HO⟩;obtain⟨s0,s1,s2,s3,s4,s5,s6,s7,s8,s9,zr,zt,zu,zv,zw,zx⟩:=HS u1 (aa HO);have zD:¬A=u1.heap.size:=(by have:=HO.size;have:=zk.out;omega))|(go_at_call 335;refine ag (RP _ HO) ?_;rintro e u2 ⟨q,cq,rfl,HZ⟩;obtain⟨t0,t1,t2,t3,t4,t5,t6,t7,t8,t9,t10,t11,t12,t13,t14,t15⟩:=HS u2 HZ.g));all_goals go_wp2;go_ret;exact HZ.base T
def qq(w H o r s t v x z B b C D E up:Int)(tx:BY)(p:zze)(m c:Nat)(U:AT)(O:aY U)(S:tx.size<=4000)(T:0<=w/\w<=100000):
 Cw 301 #[eu H o r s t v x z B b C D E tx (.slice p m c) up,Iq w] U λe M=>e=Rw (Iq (oz b tx.data.toList w))/\Hid (Bq U M):=by
 obtain⟨i,g⟩:=af (U.alloc (.cells #[Iq H,Iq o,Iq r,Iq s,Iq t,Iq v,Iq x,Iq z,Iq B,Iq b,Iq C,Iq D,Iq E,.string tx,.slice p m c,Iq up] 140));obtain⟨A,N⟩:=af U.heap.size;have d:Hid (Bq U i):=by rw[<-g];exact((Gr.refl U).alloc _).below
 have h:i.heap[A]?=some (.cells #[Iq H,Iq o,Iq r,Iq s,Iq t,Iq v,Iq x,Iq z,Iq B,Iq b,Iq C,Iq D,Iq E,.string tx,.slice p m c,Iq up] 140 (0,0)):=by rw[<-g,<-N];exact heap_alloc_new _ _
 have V:i.cell? (aq A 9)=some (Iq b):=by rw[Lib.cell_of_heap h];rfl
 have P:i.cell? (aq A 13)=some (.string tx):=by rw[Lib.cell_of_heap h];rfl
 have G:tx.data.toList.count 10<=4000:=by
  have j:=List.count_le_length (a:=(10:UInt8)) (l:=tx.data.toList);have R:tx.data.toList.length=tx.size:=by rw[eK];rfl
  omega
 have J:Hid (∀u,Bq U u->Cw 333 #[.string tx,Iq w] u λe L=>e=Rw (Iq ((bJ (ba (az tx.data.toList)) w).length:Int))/\Hid (Bq U L)):=λu hu=>by refine Ut (Dv tx w u (O.below hu) dg dg dg) ?_;rintro L q;exact⟨rfl,hu.trans (q.mono hu.size)⟩
 have I:=qH<|λu=>Dw tx 10 u;obtain⟨k,K⟩:=af (tx.data.toList.count 10);rw[K]at I G;unfold eu;by_cases j:w<1
 .have f:Hid (oz b tx.data.toList w=0):=qH<|by unfold oz;rw[if_pos j]
  go_enter func301,ntmps301;go_wp2;go_ret;exact⟨by rw[f.out];rfl,d⟩
 .by_cases F:b=1
  .subst F;have f:Hid (oz 1 tx.data.toList w=((bJ (ba (az tx.data.toList)) w).length:Int)):=qH<|by unfold oz;rw[if_neg j,if_pos rfl]
   obtain⟨y,hy⟩:=af ((bJ (ba (az tx.data.toList)) w).length);rw[hy]at f J;go_enter func301,ntmps301;go_wp2_with(go_at_call 333;refine ag (J _ d) ?_;rintro e u ⟨rfl,n⟩);go_ret;exact⟨by rw[f.out];rfl,n⟩
  .have Q:(b==1)=false:=by simpa using F
   have f:Hid (oz b tx.data.toList w=(k:Int)+1):=qH<|by unfold oz;rw[if_neg j,if_neg F,K]
   go_enter func301,ntmps301;go_wp2_with(go_at_call 334;refine ag (I _) ?_;rintro e u ⟨rfl,hu⟩;obtain rfl:=hu.symm);go_ret;exact⟨by rw[f.out];rfl,d⟩
def aY.kept{W W'}{r n}{H}(h:aY W)(j:aU W r H n)(g:W.grownBy W' (some r)):aY W':=by
 obtain⟨l,a,d⟩:=j.map;have k:∀(o:Nat) v,W.cell? (aq 10 o)=some v->W'.cell? (aq 10 o)=some v:=λo v b=>by
  have f:10≠r:=λe=>by subst e;simp[World.cell?,d]at b
  have c:10<W.heap.size:=by
   by_cases q:10<W.heap.size;.exact q
   .simp[World.cell?,C0 (C' q)]at b
  exact(aQ (g.block _ c (λe=>f rn))).trans b
 intro i hi;obtain⟨m,p,s⟩:=h i hi;grind
def uh(D:Nat)(w f g h i j k l n a r s t up:Int)(tx:BY)(p:zze)(m c:Nat)(U:AT)(v:aY U)(B:tx.size<=4000)(C:0<=w/\w<=100000):
 Cw 256 #[Pq D,eu 5 f g h i j k l n a r s t tx (.slice p m c) up,Iq w] U λe A=>e=Rw (Iq (oz a tx.data.toList w))/\Hid (Bq U A):=by
 have d:Hid (∀u,Bq U u->Cw 301 #[eu 5 f g h i j k l n a r s t tx (.slice p m c) up,Iq w] u λe x=>e=Rw (Iq (oz a tx.data.toList w))/\Hid (Bq U x)):=λu hu=>by refine Ut (qq w 5 f g h i j k l n a r s t up tx p m c u (v.below hu) B C) ?_;rintro x q;exact⟨rfl,hu.trans (q.mono hu.size)⟩
 have b:Hid (∀o,Bq U (U.alloc o)):=λo=>((Gr.refl U).alloc _).below;obtain⟨y,hy⟩:=af (oz a tx.data.toList w);rw[hy]at d|-;clear hy v;unfold eu at d|-;go_enter func256,ntmps256;go_wp2_with(go_at_call 301;refine ag (d _ (b _)) ?_;rintro e u ⟨rfl,z⟩);go_ret;simp_all
def cj(L:zza)(i:Nat):List Nat:=(ae L i).kids
structure Hs(U:AT)(mb r g cap wb:Nat)(L:zza)(KV:Nat->Fd)(Wd:zzb)(H:zzg)(n:Nat):Prop where
 view:oS U mb r g cap wb L KV Wd
 memo:aU U r H n
 tab:aY U
def Hs.grown{U a}{d r g cap f}{L}{KV}{b}{H}{n e}(h:Hs U d r g cap f L KV b H n)(c:U.grownBy a (some r))(i:aU a r H e):Hs a d r g cap f L KV b H e:=
 ⟨h.view.grown c,i,h.tab.kept h.memo c⟩
def Hs.below{U a}{d r g cap e}{L}{KV}{b}{H}{n}(h:Hs U d r g cap e L KV b H n)(c:Bq U a):Hs a d r g cap e L KV b H n:=
 h.grown (aa c) (h.memo.grown_below c)
def yw{s}{L}{KV}{N}{H}C r g z wb(m:ep s L)(hS:Sz L N H):∀  f i   w   n   U,i<L.length->L.length-i<=f->0<=w->w<=100000->Hs U C r g z wb L KV N H n->n+(oM (cj L) f i).length<1000000000000->
 Cw 190 #[Pq C,Iq (i:Int),Iq w] U λe M=>e=Rw (Iq (H i w))/\Hid (U.grownBy M (some r))/\Hid (aU M r H (n+(oM (cj L) f i).length)):=by
 intro f;induction f with
 |zero=>intro i w n U hi h1;omega
 |succ f ih=>
  intro i w n U hi hf I J o hn;have hc:=m.vl.cnt;have y:=Ng (cj L) f i;have Q:=m.vl.nv i hi;have zi:=Q.bd;have zj:(cj L i).length<=100:=m.kids_le hi;obtain⟨k,X⟩:=af (cS (λj=>(oM (cj L) f (aZ (cj L i) j)).length) (cj L i).length);rw[X]at y;rw[y]at hn|-;obtain⟨p,c,Z,F⟩:=o.view.kid i hi;have h:=iE (o.view.len i hi) (KV i);have G:=o.view.nd i hi;rw[h]at G;have R:eU (i:Int):=by unfold eU;omega
  have S:eU w:=by unfold eU;omega
  rw[show n+(k+1)=n+k+1 by omega];refine DY C r g i n k L.length z w H _ ((ae L i).kind:Int) (au (ae L i) 0) (au (ae L i) 1) (au (ae L i) 2) (au (ae L i) 3) (au (ae L i) 4) (au (ae L i) 5) (au (ae L i) 6) (au (ae L i) 7) (au (ae L i) 8) (au (ae L i) 9) (au (ae L i) 10) (au (ae L i) 11) (ae L i).up ⟨(ae L i).text.toArray⟩ (KV i) U o.view.ms o.memo hi dg R S dg o.view.gl o.view.gr (λt x ht=>G t x rn) (λW T l=>?_);rw[Z];have A:=o.grown (aa T) l;by_cases P:(ae L i).kind=5
  .have ze:(⟨(ae L i).text.toArray⟩:BY).size<=4000:=by have h1:=m.vl.tl i hi;have h2:=m.sz;show(ae L i).text.toArray.size<=4000;rw[iS];omega
   have:=uh C w (au (ae L i) 0) (au (ae L i) 1) (au (ae L i) 2) (au (ae L i) 3) (au (ae L i) 4) (au (ae L i) 5) (au (ae L i) 6) (au (ae L i) 7) (au (ae L i) 8) (au (ae L i) 9) (au (ae L i) 10) (au (ae L i) 11) (ae L i).up ⟨(ae L i).text.toArray⟩ p (ae L i).kids.length c W A.tab ze ⟨I,J⟩;rw[P];refine Ut this ?_;rintro M q;exact⟨_,rfl,(hS.ht i w hi P).symm,aa q,(l.grown_below q).mono dg⟩
  .have E:((ae L i).kind:Int)≠5:=dg;have:=Nk C r n (ae L i).kids.length w H (Ff L (ae L i).kids (ae L i).kind (au (ae L i) 4) (au (ae L i) 5) (au (ae L i) 6) w N) (aZ (ae L i).kids) (λj=>(oM (cj L) f (aZ (cj L i) j)).length)
    ((ae L i).kind:Int) (au (ae L i) 0) (au (ae L i) 1) (au (ae L i) 2) (au (ae L i) 3) (au (ae L i) 4) (au (ae L i) 5) (au (ae L i) 6) (au (ae L i) 7) (au (ae L i) 8) (au (ae L i) 9) (au (ae L i) 10) (au (ae L i) 11) (ae L i).up ⟨(ae L i).text.toArray⟩ p c W
    E (by grind[cj]) dg dg dg (λj v d=>hS.hb _ v (eE m hi d).2) (λj d=>by grind[eE]) l.lt l (F.grown (aa T))
    (λu hu B=>rf C r g z wb n w L (ae L i).kids KV N H _ _ _ _ _ _ _ _ _ _ _ _ _ _ _ p c u (A.view.grown (aa hu)) B (by grind[cj]) (λj d=>(eE m hi d).2) dg ((F.grown (aa T)).grown (aa hu)) (λj d=>hS.wb j d) ⟨I,J⟩ dg dg)
    (λV O j u nn d hu B zk=>by
     have Y:=eE m hi d;have D:=O.2.2 j d;have zh:cS (λj=>(oM (cj L) f (aZ (cj L i) j)).length) (j+1)<=k:=by
      rw[<-X];have K:∀a b,a<=b->cS (λj=>(oM (cj L) f (aZ (cj L i) j)).length) a<=cS (λj=>(oM (cj L) f (aZ (cj L i) j)).length) b:=by
       intro a b zg;induction b with
       |zero=>grind
       |succ b zm=>grind[cS]
      exact K _ _ d
     have zl:cS (λj=>(oM (cj L) f (aZ (cj L i) j)).length) (j+1)=cS (λj=>(oM (cj L) f (aZ (cj L i) j)).length) j+(oM (cj L) f (aZ (cj L i) j)).length:=rfl;have hr:=ih (aZ (ae L i).kids j) (V j) nn u Y.2 dg D.1 D.2 (A.grown hu B) (by grind[oM,cj,aZ]);refine Ut hr ?_;rintro u' ⟨q1,q2⟩;refine⟨rfl,q1,q2.mono ?_⟩;grind[oM,cj,aZ]);refine this.mono ?_;rintro e M ⟨V,O,rfl,q1,q2⟩;refine⟨_,rfl,?_,q1,q2.mono (by rw[<-X];exact LE)⟩;by_cases h0:(ae L i).kind=0;.rw[hS.hr i w V hi h0 (O.1 dg)];rfl
   .rw[hS.ho i w hi P h0];unfold nC;rw[qd λj d=>?_];rw[O.2.1 dg j d];rfl
def pC{s}{L}{KV}{j}{H}h r g a k(c:ep s L)(hS:Sz L j H)i w n U(hi:i<L.length)(d:0<=w)(f:w<=100000)(l:Hs U h r g a k L KV j H n)(t:n<=100000000):
 Cw 190 #[Pq h,Iq (i:Int),Iq w] U λe b=>e=Rw (Iq (H i w))/\Hid (U.grownBy b (some r))/\Hid (aU b r H (n+100)):=by have p:=Nh (kids:=cj L) c.nest L.length i hi;have q:=c.vl.cnt;refine Ut (yw h r g a k c hS L.length i w n U hi dg d f l dg) ?_;rintro b ⟨m,o⟩;exact⟨rfl,m,o.mono dg⟩
def rr(B:Nat)(i j k l n r s t v w x z up:Int)(tx:BY)(p:zze)(m c:Nat)(U:AT)(d:aY U)(A:tx.size<=4000):
 Cw 113 #[Pq B,eu 5 i j k l n r s t v w x z tx (.slice p m c) up] U λe h=>e=Rw (Iq (Jq tx.data.toList))/\Hid (Bq U h):=by
 have b:Hid (∀u,Bq U u->Cw 187 #[.string tx] u λe f=>e=Rw (Iq (Jq tx.data.toList))/\Hid (Bq U f)):=λu hu=>by refine Ut (AG tx u (d.below hu) A) ?_;rintro f q;exact⟨rfl,hu.trans (q.mono hu.size)⟩
 have a:Hid (∀o,Bq U (U.alloc o)):=λo=>((Gr.refl U).alloc _).below;obtain⟨y,hy⟩:=af (Jq tx.data.toList);rw[hy]at b|-;clear hy d;unfold eu;go_enter func113,ntmps113;go_wp2_with(go_at_call 187;refine ag (b _ (a _)) ?_;rintro e u ⟨rfl,g⟩);go_ret;simp_all
def ui(mb r W N m:Nat)(V:zzb)(w:Nat->Nat)(g B C D E l n o F H I J K up:Int)(tx:BY)(nv:Fd)(p:zze)(c:Nat)(U:AT)(zh:g≠5)(hm:m<=1000)(hN:N<=1000000)(h4:0<=l/\l<=1000000)(h5:0<=n/\n<=1000000)(h6:0<=o/\o<=1000000)(hh:Hid (∀j,j<m->0<=V (w j)/\V (w j)<=100000))(zi:Hid (∀j,j<m->w j<N))(P:Ms U mb nv (Sq W N N) r)(zt:W<U.heap.size)(hK:Hid (eL U r p m (λj=>(w j:Int))))(hW:Hid (∀j,j<m->U.cell? (aq W (w j))=some (Iq (V (w j))))):
 Cw 113 #[Pq mb,eu g B C D E l n o F H I J K tx (.slice p m c) up] U λe U'=>e=Rw (Iq (tV g l n o (λj=>V (w j)) m))/\Hid (Bq U U'):=by
 have e5:(g==5)=false:=by simpa using zh
 obtain⟨h,zg⟩:∃h:Nat->Int,(λj=>V (w j))=h:=⟨_,rfl⟩;have M:Hid (∀j,V (w j)=h j):=λj=>rn;have s:Hid (∀j,j<m->0<=h j/\h j<=100000):=λj hj=>by rw[<-M j];exact hh j hj
 rw[zg];obtain⟨f,z⟩:=af (U.alloc (.cells #[Iq g,Iq B,Iq C,Iq D,Iq E,Iq l,Iq n,Iq o,Iq F,Iq H,Iq I,Iq J,Iq K,.string tx,.slice p m c,Iq up] 140));obtain⟨A,hA⟩:=af U.heap.size;have i:Hid (Bq U f):=by rw[<-z];exact((Gr.refl U).alloc _).below
 have Z:f.heap[A]?=some (.cells #[Iq g,Iq B,Iq C,Iq D,Iq E,Iq l,Iq n,Iq o,Iq F,Iq H,Iq I,Iq J,Iq K,.string tx,.slice p m c,Iq up] 140 (0,0)):=by rw[<-z,<-hA];exact heap_alloc_new _ _
 have a:Hid (∀(t:Nat) x,(#[Iq g,Iq B,Iq C,Iq D,Iq E,Iq l,Iq n,Iq o,Iq F,Iq H,Iq I,Iq J,Iq K,.string tx,.slice p m c,Iq up]:Array Fd)[t]?=some x->f.cell? (aq A t)=some x):=λt x ht=>by rw[Lib.cell_of_heap Z];exact ht
 have z0:f.cell? (aq A 0)=some (Iq g):=a 0 _ rfl;have z1:f.cell? (aq A 1)=some (Iq B):=a 1 _ rfl;have z2:f.cell? (aq A 2)=some (Iq C):=a 2 _ rfl;have z3:f.cell? (aq A 3)=some (Iq D):=a 3 _ rfl;have z4:f.cell? (aq A 4)=some (Iq E):=a 4 _ rfl;have z5:f.cell? (aq A 5)=some (Iq l):=a 5 _ rfl;have z6:f.cell? (aq A 6)=some (Iq n):=a 6 _ rfl;have z7:f.cell? (aq A 7)=some (Iq o):=a 7 _ rfl;have z8:f.cell? (aq A 8)=some (Iq F):=a 8 _ rfl;have z9:f.cell? (aq A 9)=some (Iq H):=a 9 _ rfl;have zy:f.cell? (aq A 10)=some (Iq I):=a 10 _ rfl;have zA:f.cell? (aq A 11)=some (Iq J):=a 11 _ rfl;have zB:f.cell? (aq A 12)=some (Iq K):=a 12 _ rfl;have zC:f.cell? (aq A 13)=some (.string tx):=a 13 _ rfl;have zD:f.cell? (aq A 14)=some (.slice p m c):=a 14 _ rfl;have zE:f.cell? (aq A 15)=some (Iq up):=a 15 _ rfl;have m1:f.cell? (aq mb 1)=some (Sq W N N):=by have zr:=(aj.1 P).1;have hb:=(i.block mb zr).trans P;rw[Lib.cell_of_heap hb];rfl
 have X:=qH<|hK.grown (aa i);have Y:Hid (∀j,j<m->f.cell? (aq W (w j))=some (Iq (h j))):=λj hj=>by rw[<-M j];exact(i.cell (p:=(aq W _)) zt).trans (hW j hj)
 clear Z zg P hK hW hh M;unfold eu;go_enter func113,ntmps113;go_wp2_with fail;generalize zk:Value.agg #[Iq g,Iq B,Iq C,Iq D,Iq E,Iq l,Iq n,Iq o,Iq F,Iq H,Iq I,Iq J,Iq K,.string tx,.slice p m c,Iq up]=zx;go_loopw[5,6,18] (λsv gv kv wr=>∃k:Nat,k<=m/\kv=Iq (k:Int)/\sv=Iq (hS h k)/\gv=Iq (hG h k)/\wr=f) (λ_ _ kv _=>m-(intOf kv).toNat);.exact⟨0,LT,rfl,rfl,rfl,rfl⟩
 obtain⟨k,hk,rfl,rfl,rfl,zu⟩:=hrel;subst zu;by_cases v:k<m
 .have zj:(k:Int)<(m:Int):=dg;have R:=vi s k hk;have Q:=vh s k hk;have zn:=s k v;have zw:=zi k v;have zv:(w k:Int)<(N:Int):=dg;obtain⟨kb,ko,rfl,_,_,ze⟩:=X.resolve_left dg;have ck:=ze k v;have cv:=Y k v;obtain⟨S,b⟩:=af (hS h k);obtain⟨G,y⟩:=af (hG h k);obtain⟨x,hx⟩:=af (h k);have zm:Hid (hS h (k+1)=S+x):=qH<|by rw[<-b,<-hx];rfl
  have zl:Hid (hG h (k+1)=max G x):=qH<|by rw[<-y,<-hx];rfl
  rw[b]at R;rw[y]at Q;rw[hx]at zn cv;rw[b,y];clear b y hx ze z hA zk h4 h5 h6 zh i;go_wp2;all_goals
   go_roundw;.exact⟨k+1,v,by go_num,by rw[zm.out],by rw[zl.out],rn⟩
   grind[intOf]
 .have zj:¬(k:Int)<(m:Int):=dg;obtain rfl:k=m:=dg;have R:=vi s k hk;have Q:=vh s k hk;have GA:=qH<|λu=>u_ g B C D E l n o F H I J K up tx p k c h4 dg u;have FA:=qH<|λu=>jH g B C D E l n o F H I J K up tx p k c h5 h6 u;have zq:0<=kX l k/\kX l k<=1000000000000:=by unfold kX;have T:0<=max 0 ((k:Int)-1)/\max 0 ((k:Int)-1)<=1000000:=dg;exact⟨ip h4.1 T.1,kI h4.2 T.2 T.1 dg⟩
  have zo:=yn (kd:=g) h5 h6;unfold eu at GA FA;rw[zk]at GA FA;clear z hA s zi Y X m1;by_cases h0:g=0
  .subst h0;have d:tV 0 l n o h k=hS h k+kX l k:=by unfold tV;rw[if_pos rfl]
   obtain⟨S,b⟩:=af (hS h k);obtain⟨gg,q⟩:=af (kX l k);rw[b,q]at d;have O:=qH<|d;rw[b]at R|-;rw[q]at zq GA;clear b q d;go_wp2_with(go_at_call 188;refine Ut (GA _) ?_;rintro wz L);go_ret;exact⟨by rw[O.out];rfl,i.trans (L.mono i.size)⟩
  .have d:tV g l n o h k=hG h k+2*iT g n o:=by unfold tV;rw[if_neg h0]
   have e1:(g==0)=false:=by simpa using h0
   obtain⟨S,b⟩:=af (hG h k);obtain⟨gg,q⟩:=af (iT g n o);rw[b,q]at d;have O:=qH<|d;rw[b]at Q|-;rw[q]at zo FA;clear b q d;go_wp2_with(go_at_call 189;refine Ut (FA _) ?_;rintro wz L);go_ret;exact⟨by rw[O.out];rfl,i.trans (L.mono i.size)⟩
structure Kh(U:AT)(r g:Nat)(L:zza)(KV:Nat->Fd):Prop where
 gl:g<U.heap.size
 gr:g≠r
 len:∀j,j<L.length->(ae L j).attr.length=12
 nd:∀j,j<L.length->∀(t:Nat) x,(aW (ae L j) (KV j))[t]?=some x->U.cell? (aq g (j*16+t))=some x
 kid:∀j,j<L.length->∃p c,KV j=.slice p (ae L j).kids.length c/\eL U r p (ae L j).kids.length (λt=>(aZ (ae L j).kids t:Int))
def Kh.grown{U d}{r g}{L}{KV}(h:Kh U r g L KV)(a:U.grownBy d (some r)):Kh d r g L KV:=by refine⟨zz006 h.gl a.size,h.gr,h.len,λj b t x i=>(aQ (a.block g h.gl (λq=>h.gr rn))).trans (h.nd j b t x i),λj b=>?_⟩;obtain⟨p,c,e,f⟩:=h.kid j b;exact⟨p,c,e,f.grown a⟩
def PN.ndv{W}{B g c r}{L}{KV}(h:PN W B (Sq g L.length c) L KV)(p:W.heap.size<=r):Kh W r g L KV:=by
 obtain⟨q,o⟩:=h.nr.row;have d:g<W.heap.size:=by
  rcases cm o with⟨e,_⟩|⟨f,a,e,_,l,_⟩;.cases e
  .grind
 refine⟨d,dg,h.len,λj b t x n=>h.nr.cells g rfl j b t x n,λj b=>?_⟩;rcases cm (h.nr.kids j b)with⟨e,m⟩|⟨f,a,e,_,l,_⟩;.refine⟨none,0,rn,.inl m⟩
 .refine⟨_,_,e,.inr ⟨f,0,rfl,l,dg,λi hi=>?_⟩⟩;have k:=h.nr.kids j b;rw[e]at k;rw[b_,k.cellAt i dg];grind[gU,aZ]
def P9(Wd:zzb)(k j:Nat):Fd:=Iq (if j<k then 0 else Wd j)
structure Nm(U W:AT)(mb r g cap wb:Nat)(L:zza)(KV:Nat->Fd)(Wd:zzb)(H:zzg)(k:Nat):Prop where
 bel:Bq U W
 nds:Kh W r g L KV
 ms:Ms W mb (Sq g L.length cap) (Sq wb L.length L.length) r
 row:W.rowIs wb 3 L.length (P9 Wd k)
 mm:aU W r H 0
 hwb:U.heap.size<=wb
 ne:wb≠r/\wb≠mb/\wb≠g/\mb≠r
 tab:aY W
def Nm.below{U W W'}{b r g cap d}{L}{KV}{c}{H}{k}(h:Nm U W b r g cap d L KV c H k)(a:Bq W W'):Nm U W' b r g cap d L KV c H k:=
 ⟨h.bel.trans (a.mono h.bel.size),h.nds.grown (aa a),(a.block b (aj.1 h.ms).1).trans h.ms,rowIs_below h.row a,h.mm.grown_below a,h.hwb,h.ne,h.tab.below a⟩
def Nm.set{U W}{v r g k d i}{L}{KV}{m}{H}(h:Nm U W v r g k d L KV m H (i+1))(u:∀j p c,j<L.length->KV j=.slice p (ae L j).kids.length c->∀b o,p=some (aq b o)->b≠d)(B:10≠d):Nm U (W.setCell (aq d i) (Iq (m i))) v r g k d L KV m H i:=by
 have l:∀b,b≠d->(W.setCell (aq d i) (Iq (m i))).heap[b]?=W.heap[b]?:=λb n=>aM W (aq d i) _ b n;have y:=λb o n=>aQ (a:=(aq b o)) (l b n);obtain⟨F,G,I,J⟩:=h.ne;refine⟨h.bel.setCell (p:=(aq d i)) h.hwb _,⟨by simpa using h.nds.gl,h.nds.gr,h.nds.len,λj f t x A=>(y g _ (λe=>I e.symm)).trans (h.nds.nd j f t x A),λj f=>?_⟩,(l v (λe=>G e.symm)).trans h.ms,(h.row.set i _).congr λj f=>?_,h.mm.set F _,h.hwb,h.ne,λj f=>?_⟩
 .obtain⟨p,c,e,s⟩:=h.nds.kid j f;refine⟨p,c,e,?_⟩;rcases s with s|⟨b,o,w,C,D,E⟩;.exact .inl s
  .exact .inr ⟨b,o,w,by simpa using C,D,λq z=>(y b _ (u j p c f e b o w)).trans (E q z)⟩
 .grind[P9]
 .obtain⟨t1,t2,t3⟩:=h.tab j f;grind
def tR(w:AT)n a:(w.alloc (.cells (madeCells #[Iq 0] n) 3)).rowIs w.heap.size 3 n (P9 a n):=
 (World.rowIs_made w (Iq 0) n _).congr λj b=>by grind[P9]
def pT{s:BY}{L:zza}{KV:Nat->Fd}{D:zzb}{H:zzg}(g v:Nat)(G:ep s L)(hS:Sz L D H)(U:AT)(B:Nat)(hP:PN U B (Sq g L.length v) L KV)(ht:aY U):
 Cw 72 #[Sq g L.length v] U λe U'=>∃mb r a,e=Rw (Pq mb)/\Bq U U'/\Hs U' mb r g v a L KV D H 0/\U.heap.size<=r:=by
 obtain⟨N,S⟩:=af L.length;have hc:=G.vl.cnt;have ze:=G.pos;rw[S]at hc ze;obtain⟨a,hwb⟩:=af U.heap.size;have zr:=run_make_row' (P:=prog) 26 3 (Iq 0) 8 underlying26 pD rfl .i64 .i64 N dg dg;obtain⟨W1,A⟩:=af (((U.alloc (.cells (madeCells #[Iq 0] N) 3)).alloc (.map #[] 0)).alloc (.cells #[Sq g N v,Sq a N N,.map (some (a+1))] 211));have I:Bq U W1:=by rw[<-A];exact(((Gr.refl U).alloc _).alloc _).alloc _|>.below
 have C:Kh U (a+1) g L KV:=hP.ndv dg;have J:=C.gl;have zt:10<U.heap.size:=by
  obtain⟨h1,_⟩:=ht 0 (by decide);by_cases q:10<U.heap.size;.exact q
  .simp[World.cell?,C0 (C' q)]at h1
 have zh:Hid (∀j p c,j<L.length->KV j=.slice p (ae L j).kids.length c->∀b o,p=some (aq b o)->b≠a):=λj p c K e b o e2=>by rcases cm (hP.nr.kids j K)with⟨e3,h0⟩|⟨g',zx,e3,_,hl,_⟩;all_goals grind
 have zj:Hid (Nm U W1 (a+1+1) (a+1) g v a L KV D H N):=by
  refine⟨I,C.grown (aa I),?_,?_,?_,dg,⟨dg,dg,dg,dg⟩,ht.below I⟩;.rw[S,<-A];have:=heap_alloc_new ((U.alloc (.cells (madeCells #[Iq 0] N) 3)).alloc (.map #[] 0)) (.cells #[Sq g N v,Sq a N N,.map (some (a+1))] 211);rw[ai,ai,hwb]at this;exact this
  .rw[S,<-A,<-hwb];exact((tR U N D).alloc _).alloc _
  .rw[<-A];have:=aU.new (U.alloc (.cells (madeCells #[Iq 0] N) 3)) H;rw[ai,hwb]at this;exact this.alloc _
 have LN:=qH<|length_any;have zy:prog.follows .mixedOrders=true:=pt;have zl:Hid (10≠a):=λe=>dg;have zm:=qH<|hwb;have X:∀w:AT,(Instr.makeMap 209 none).run prog w=.ok (.map (some w.heap.size)) (w.alloc (.map #[] 0)):=λ_=>rfl;rw[S];clear I C J zt hP ht;go_enter func72,ntmps72;go_wp2_with fail;clear A zr hwb X;go_loopw[4] (λiv wr=>∃k:Nat,k<=N/\iv=Iq ((k:Int)-1)/\Hid (Nm U wr (a+1+1) (a+1) g v a L KV D H k)) (λiv _=>(intOf iv+1).toNat);.grind
 obtain⟨k,hk,rfl,HR⟩:=hrel;cases k with
 |zero=>
  have HV:Hid (Hs wr (a+1+1) (a+1) g v a L KV D H 0):=by have h:=HR.out;obtain⟨n1,n2,n3,n4⟩:=h.ne;exact⟨⟨h.ms,h.nds.gl,h.row.lt,n4,h.nds.gr,n1,h.nds.len,h.nds.nd,h.nds.kid,λj K=>h.row.cell K⟩,h.mm,h.tab⟩
  go_wp2;go_ret;exact⟨_,_,a,rfl,HR.bel,HV,by rw[zm.out];omega⟩
 |succ i=>
  have ei:((i+1:Nat):Int)-1=(i:Int):=dg;rw[ei];have l:i<L.length:=dg;have zD:(i:Int)<(N:Int):=dg;have E:=HR.out;obtain⟨p,c,V,T⟩:=E.nds.kid i l;have y:=iE (E.nds.len i l) (KV i);have d:=E.nds.nd i l;rw[y,V]at d;have M:=E.ms;rw[S]at M;have zn:=(G.vl.nv i l).bd;have zq:=G.kids_le l;have n:Hid (∀u,Bq wr u->Cw 113 #[Pq (a+1+1),eu (ae L i).kind (au (ae L i) 0) (au (ae L i) 1) (au (ae L i) 2) (au (ae L i) 3) (au (ae L i) 4) (au (ae L i) 5) (au (ae L i) 6) (au (ae L i) 7) (au (ae L i) 8) (au (ae L i) 9) (au (ae L i) 10) (au (ae L i) 11) ⟨(ae L i).text.toArray⟩ (.slice p (ae L i).kids.length c) (ae L i).up] u λe u'=>∃x,e=Rw (Iq x)/\aG x=D i/\Hid (Bq wr u')):=λu hu=>by
   have F:=E.below hu;rw[hS.w i l];unfold pU;by_cases h5:(ae L i).kind=5
   .rw[if_pos h5];have zu:(⟨(ae L i).text.toArray⟩:BY).size<=4000:=by have h1:=G.vl.tl i l;have h2:=G.sz;show(ae L i).text.toArray.size<=4000;rw[iS];omega
    have:=rr (a+1+1) (au (ae L i) 0) (au (ae L i) 1) (au (ae L i) 2) (au (ae L i) 3) (au (ae L i) 4) (au (ae L i) 5) (au (ae L i) 6) (au (ae L i) 7) (au (ae L i) 8) (au (ae L i) 9) (au (ae L i) 10) (au (ae L i) 11) (ae L i).up ⟨(ae L i).text.toArray⟩ p (ae L i).kids.length c u F.tab zu;rw[h5];refine Ut this ?_;rintro u' q;exact⟨_,rfl,rfl,hu.trans (q.mono hu.size)⟩
   .rw[if_neg h5];refine(ui (a+1+1) (a+1) a L.length (ae L i).kids.length D (aZ (ae L i).kids) (ae L i).kind (au (ae L i) 0) (au (ae L i) 1) (au (ae L i) 2) (au (ae L i) 3) (au (ae L i) 4) (au (ae L i) 5) (au (ae L i) 6) (au (ae L i) 7) (au (ae L i) 8) (au (ae L i) 9) (au (ae L i) 10) (au (ae L i) 11) (ae L i).up ⟨(ae L i).text.toArray⟩ _ p c u dg dg dg dg dg dg (λj K=>hS.wb _ (eE G l K).2) (λj K=>(eE G l K).2) F.ms F.row.lt (T.grown (aa hu)) (λj K=>?_)).mono ?_;.have zo:=eE G l K;rw[F.row.cell zo.2];grind[P9]
    .rintro e u' ⟨rfl,q⟩;exact⟨_,rfl,rfl,hu.trans (q.mono hu.size)⟩
  have zk:Hid (∀u,Bq wr u->Nm U (u.setCell (aq a i) (Iq (D i))) (a+1+1) (a+1) g v a L KV D H i):=λu hu=>(E.below hu).set zh zl;have R:Hid (∀u,Bq wr u->u.cell? (aq a i)=some (Iq 0)/\u.frozen? (aq a i)=false/\a<u.heap.size):=λu hu=>by have hr:=(E.below hu).row;refine⟨?_,hr.frozen i,hr.lt⟩;rw[hr.cell l];grind[P9]
  have O:=(aj.1 M).1;have J:=E.nds.gl;have Z:¬a=g:=E.ne.2.2.1;have zA:¬g=a:=λe=>Z e.symm;have zB:¬a=a+1+1:=dg;have zC:¬a+1+1=a:=dg;generalize(ae L i).text.toArray=zw at d n;generalize((ae L i).kind:Int)=kd at d n;generalize au (ae L i) 0=a0 at d n;generalize au (ae L i) 1=a1 at d n;generalize au (ae L i) 2=a2 at d n;generalize au (ae L i) 3=a3 at d n;generalize au (ae L i) 4=a4 at d n;generalize au (ae L i) 5=a5 at d n;generalize au (ae L i) 6=a6 at d n;generalize au (ae L i) 7=a7 at d n;generalize au (ae L i) 8=a8 at d n;generalize au (ae L i) 9=a9 at d n;generalize au (ae L i) 10=b0 at d n;generalize au (ae L i) 11=b1 at d n;generalize(ae L i).up=up at d n;generalize(ae L i).kids.length=m at d n;obtain⟨tx,zg⟩:∃z:BY,⟨zw⟩=z:=⟨_,rfl⟩;rw[zg]at d n;have HS:Hid (∀u,Bq wr u->u.cell? (aq (a+1+1) 1)=some (Sq a N N)/\u.cell? (aq g (i*16))=some (Iq kd)/\u.cell? (aq g (i*16+1))=some (Iq a0)/\u.cell? (aq g (i*16+2))=some (Iq a1)/\u.cell? (aq g (i*16+3))=some (Iq a2)/\u.cell? (aq g (i*16+4))=some (Iq a3)/\u.cell? (aq g (i*16+5))=some (Iq a4)/\u.cell? (aq g (i*16+6))=some (Iq a5)/\u.cell? (aq g (i*16+7))=some (Iq a6)/\u.cell? (aq g (i*16+8))=some (Iq a7)/\u.cell? (aq g (i*16+9))=some (Iq a8)/\u.cell? (aq g (i*16+10))=some (Iq a9)/\u.cell? (aq g (i*16+11))=some (Iq b0)/\u.cell? (aq g (i*16+12))=some (Iq b1)/\u.cell? (aq g (i*16+13))=some (.string tx)/\u.cell? (aq g (i*16+14))=some (.slice p m c)/\u.cell? (aq g (i*16+15))=some (Iq up)):=λu hu=>by
   have f:=λt x hx=>(hu.cell (p:=(aq g _)) J).trans (d t x hx);have Y:u.cell? (aq (a+1+1) 1)=some (Sq a N N):=by rw[Lib.cell_of_heap ((hu.block _ O).trans M)];rfl
   exact⟨Y,f 0 _ rfl,f 1 _ rfl,f 2 _ rfl,f 3 _ rfl,f 4 _ rfl,f 5 _ rfl,f 6 _ rfl,f 7 _ rfl,f 8 _ rfl,f 9 _ rfl,f 10 _ rfl,f 11 _ rfl,f 12 _ rfl,f 13 _ rfl,f 14 _ rfl,f 15 _ rfl⟩
  obtain⟨q0,q1,q2,q3,q4,q5,q6,q7,q8,q9,zE,zF,zG,zH,zI,zJ,zK⟩:=HS wr Ok;obtain⟨zS,zT,zU⟩:=R wr Ok;unfold eu at n;clear E y d M zn zq V T zg O J HR zj ei;go_wp2_with fail;go_region_held(λW=>W.cell? (aq (a+1+1) 1)=some (Sq a N N)/\W.cell? (aq g (i*16))=some (Iq kd)/\W.cell? (aq g (i*16+1))=some (Iq a0)/\W.cell? (aq g (i*16+2))=some (Iq a1)/\W.cell? (aq g (i*16+3))=some (Iq a2)/\W.cell? (aq g (i*16+4))=some (Iq a3)/\W.cell? (aq g (i*16+5))=some (Iq a4)/\W.cell? (aq g (i*16+6))=some (Iq a5)/\W.cell? (aq g (i*16+7))=some (Iq a6)/\W.cell? (aq g (i*16+8))=some (Iq a7)/\W.cell? (aq g (i*16+9))=some (Iq a8)/\W.cell? (aq g (i*16+10))=some (Iq a9)/\W.cell? (aq g (i*16+11))=some (Iq b0)/\W.cell? (aq g (i*16+12))=some (Iq b1)/\W.cell? (aq g (i*16+13))=some (.string tx)/\W.cell? (aq g (i*16+14))=some (.slice p m c)/\W.cell? (aq g (i*16+15))=some (Iq up)) (go_keep) (first|(go_at_call 113;refine ag (n _ (by first|exact Ok|exact Ok.drew)) ?_;rintro e u1 ⟨x,rfl,hx,Q⟩;obtain⟨s0,s1,s2,s3,s4,s5,s6,s7,s8,s9,zL,zM,zN,zO,zP,zQ,zR⟩:=HS u1 Q;obtain⟨zV,zX,zY⟩:=R u1 Q)|(go_at_call 112;refine ag (LN _ _) ?_;rintro e u2 ⟨rfl,zv⟩;obtain rfl:=zv.symm));all_goals
   have zi:=qH<|zk _ Q;go_wp2;go_roundw;.exact⟨i,dg,by go_num,zi⟩
   .simp[intOf]<;>omega
def N_(L:zza):Nat->Nat->Int×Int×Int
 |0,_=>(0,0,0)
 |f+1,i=>(ov (if 0<=(ae L i).up then(N_ L f (ae L i).up.toNat).1 else 0) (au (ae L i) 9),ov (if 0<=(ae L i).up then(N_ L f (ae L i).up.toNat).2.1 else 0) (au (ae L i) 10),xY (if 0<=(ae L i).up then(N_ L f (ae L i).up.toNat).2.2 else 0) (au (ae L i) 11))
theorem qm{L}(h:∀i,i<L.length->(ae L i).up<i):∀  f g i,i<L.length->i<f->i<g->N_ L f i=N_ L g i
 |0,_,_,_,h,_=>dg
 |_+1,0,_,_,_,h=>dg
 |f+1,g+1,i,hi,b,c=>by
  have hu:=h i hi;unfold N_;by_cases a:0<=(ae L i).up;.rw[if_pos a,if_pos a,if_pos a,if_pos a,if_pos a,if_pos a,qm h f g (ae L i).up.toNat dg dg dg]
  grind
def sty(L:zza)(i:Nat):Int×Int×Int:=N_ L (i+1) i
theorem PG{L}(h:∀i,i<L.length->(ae L i).up<i){i}(hi:i<L.length)u0 u1 u2(hu:(0<=(ae L i).up/\(u0,u1,u2)=sty L (ae L i).up.toNat)\/((ae L i).up<0/\u0=0/\u1=0/\u2=0)):
 ov u0 (au (ae L i) 9)=(sty L i).1/\ov u1 (au (ae L i) 10)=(sty L i).2.1/\xY u2 (au (ae L i) 11)=(sty L i).2.2:=by grind[sty,N_,ae,qm]
def Lv:(prog.info? 44).map (λi=>(i.zero,i.size,i.bytes))=some (some (.agg #[Iq 0,Iq 0,Iq 0]),3,24):=pt
def ud{L:zza}{KV:Nat->Fd}(hup:∀i:Nat,i<L.length->(ae L i).up<i)(zB:L.length<=100)(U:AT)(r g zn:Nat)(hV:Kh U r g L KV):
 Calls prog 61 #[Sq g L.length zn] U λe U'=>∃f,e=.returned (Sq f L.length L.length)/\fB U' f 0 L.length (λj=>(sty L j).1) (λj=>(sty L j).2.1) (λj=>(sty L j).2.2)/\U.heap.size<=f/\Below U.heap.size U U':=by
 obtain⟨i0,hi,zk,zl,zt⟩:=info_parts Lv;obtain⟨m,hm⟩:=af L.length;have zr:(Instr.makeSlice 145 (Iq (m:Int)) (Iq (m:Int))).run prog U=.ok (Sq U.heap.size m m) (U.alloc (.cells (madeCells #[Iq 0,Iq 0,Iq 0] (m*3)) 44)):=by have:=run_make (P:=prog) U 145 44 i0 _ underlying145 hi zk .i64 .i64 m m dg (ie _) rn dg;rw[zl,iO]at this;exact this
 obtain⟨f,x⟩:=af U.heap.size;obtain⟨a,ha⟩:=af (λj=>(sty L j).1);obtain⟨b,hb⟩:=af (λj=>(sty L j).2.1);obtain⟨d,hd⟩:=af (λj=>(sty L j).2.2);have HA:Hid (∀j,a j=(sty L j).1/\b j=(sty L j).2.1/\d j=(sty L j).2.2):=λj=>rn;rw[ha,hb,hd];obtain⟨W0,J⟩:=af (U.alloc (.cells (madeCells #[Iq 0,Iq 0,Iq 0] (m*3)) 44));have zx:Hid (W0.rowIs f 44 (m*3) (sH a b d 0)):=by rw[<-J,<-x];exact Cj U m a b d _
 have zw:Hid (Below f U W0):=by rw[<-J,<-x];exact((Gr.refl U).alloc _).below
 have q:=qH hV;have HM:=qH hm;have F:=qH x;rw[hm];clear hV ha hb hd hi zk zl zt;go_enter func61,ntmps61;go_wp2_with fail;clear J x zr;go_loopw[12] (λkv wr=>∃k:Nat,k<=m/\kv=Iq (k:Int)/\Hid (Below f U wr)/\Hid (wr.rowIs f 44 (m*3) (sH a b d k))) (λkv _=>m-(intOf kv).toNat);.grind
 obtain⟨k,hk,rfl,HB,HR⟩:=hrel;by_cases zq:k<m
 .have zg:(k:Int)<(m:Int):=dg;have s:k<L.length:=by have:=HM.out;omega
  have c:=qH<|λt v hv=>(aQ (a:=(aq g (k*16+t))) (HB.block g (by rw[<-F.out];exact q.gl))).trans (q.nd k s t v hv);rw[iE (q.len k s)]at c;obtain⟨pk,ck,ze,_⟩:=q.kid k s;have Z:=qH<|hup k s;have h:Hid (∀u0 u1 u2,(0<=(ae L k).up/\(u0,u1,u2)=sty L (ae L k).up.toNat)\/((ae L k).up<0/\u0=0/\u1=0/\u2=0)->ov u0 (au (ae L k) 9)=a k/\ov u1 (au (ae L k) 10)=b k/\xY u2 (au (ae L k) 11)=d k):=λu0 u1 u2 hu=>by obtain⟨S,T,V⟩:=HA k;grind[PG]
  rw[ze]at c;generalize(ae L k).text.toArray=zu at c;generalize((ae L k).kind:Int)=kd at c;generalize au (ae L k) 0=a0 at c;generalize au (ae L k) 1=a1 at c;generalize au (ae L k) 2=a2 at c;generalize au (ae L k) 3=a3 at c;generalize au (ae L k) 4=a4 at c;generalize au (ae L k) 5=a5 at c;generalize au (ae L k) 6=a6 at c;generalize au (ae L k) 7=a7 at c;generalize au (ae L k) 8=a8 at c;generalize au (ae L k) 9=G at c h;generalize au (ae L k) 10=H at c h;generalize au (ae L k) 11=I at c h;generalize(ae L k).up=up at c h Z;generalize(ae L k).kids.length=kl at c;obtain⟨tx,zj⟩:∃z:BY,⟨zu⟩=z:=⟨_,rfl⟩;rw[zj]at c;have q0:wr.cell? (aq g (k*16))=some (Iq kd):=c 0 _ rfl;have q1:=c 1 _ rfl;have q2:=c 2 _ rfl;have q3:=c 3 _ rfl;have q4:=c 4 _ rfl;have q5:=c 5 _ rfl;have q6:=c 6 _ rfl;have q7:=c 7 _ rfl;have q8:=c 8 _ rfl;have q9:=c 9 _ rfl;have zF:=c 10 _ rfl;have zG:=c 11 _ rfl;have zH:=c 12 _ rfl;have zI:=c 13 _ rfl;have zJ:=c 14 _ rfl;have zK:=c 15 _ rfl;obtain⟨A,hA⟩:=af wr.heap.size;obtain⟨o,K⟩:=af ((wr.alloc (.cells #[Iq kd,Iq a0,Iq a1,Iq a2,Iq a3,Iq a4,Iq a5,Iq a6,Iq a7,Iq a8,Iq G,Iq H,Iq I,.string tx,.slice pk kl ck,Iq up] 140)).alloc (.cells #[Iq 0,Iq 0,Iq 0] 44));have X:Hid (Gr wr o):=by rw[<-K];exact((Gr.refl wr).alloc _).alloc _
  have N:o.heap[A]?=some (.cells #[Iq kd,Iq a0,Iq a1,Iq a2,Iq a3,Iq a4,Iq a5,Iq a6,Iq a7,Iq a8,Iq G,Iq H,Iq I,.string tx,.slice pk kl ck,Iq up] 140 (0,0)):=by rw[<-K,<-hA,bG _ _ _ (by simp_all)];exact heap_alloc_new _ _
  have n:R3 44 o (A+1) 0 0 0:=by rw[<-K,<-hA,<-World.size_alloc];exact R3.new _ _ _ _ _
  have zi:=rowIs_below HR X.below;have zE:f<A:=by rw[<-hA];exact HR.lt
  have E:=qH zi;have Y:Hid (∀u:AT,u.heap[A]?=o.heap[A]?->u.cell? (aq A 10)=some (Iq G)/\u.cell? (aq A 11)=some (Iq H)/\u.cell? (aq A 12)=some (Iq I)/\u.cell? (aq A 15)=some (Iq up)):=λu hu=>by refine⟨?_,?_,?_,?_⟩<;>(rw[Lib.cell_of_heap (hu.trans N)];rfl)
  obtain⟨zP,zQ,zR,zS⟩:=Y o rfl;have zv:=qH<|(aj.1 N).1;have zm:=qH n;have C:Hid (Below A wr o):=by rw[<-hA];exact X.below
  have zy:=qH<|HR;have HF:Hid (∀u B v1 v2,Below A wr u->B=a k->v1=b k->v2=d k->f<u.heap.size/\(∀j,u.frozen? (aq f j)=false)/\(∃v,u.cell? (aq f (k*3))=some v)/\(∃v,u.cell? (aq f (k*3+1))=some v)/\(∃v,u.cell? (aq f (k*3+2))=some v)/\Hid (Below f U (((u.setCell (aq f (k*3)) (Iq B)).setCell (aq f (k*3+1)) (Iq v1)).setCell (aq f (k*3+2)) (Iq v2)))/\Hid ((((u.setCell (aq f (k*3)) (Iq B)).setCell (aq f (k*3+1)) (Iq v1)).setCell (aq f (k*3+2)) (Iq v2)).rowIs f 44 (m*3) (sH a b d (k+1)))):=λu B v1 v2 hu h0 h1 h2=>by have l:=World.rowIs.of_block HR (hu.block f dg);have zo:=HB.trans (hu.mono dg);exact⟨l.lt,λj=>l.frozen j,⟨_,l.cell dg⟩,⟨_,l.cell dg⟩,⟨_,l.cell dg⟩,((zo.setCell (p:=(aq f (k*3))) LE _).setCell (p:=(aq f (k*3+1))) LE _).setCell (p:=(aq f (k*3+2))) LE _,Ci l B v1 v2 h0 h1 h2⟩
  have zA:A+1≠f:=dg;have c0:=n.c0;have c1:=n.c1;have c2:=n.c2;have fz:=n.fz;clear c N n zi ze zj HR;by_cases h0:0<=up;focus
   obtain⟨j,rfl⟩:∃j:Nat,up=(j:Int):=⟨up.toNat,dg⟩;have zC:j<k:=by have:=Z.out;omega
   have zD:(j:Int)<(m:Int):=dg;obtain⟨⟨u0,u1,u2⟩,hu⟩:=af (sty L j);have g0:o.cell? (aq f (j*3))=some (Iq u0):=by rw[E.cell dg];unfold sH;rw[if_pos dg,if_pos dg,show j*3/3=j by omega,(HA j).1,hu]
   have g1:o.cell? (aq f (j*3+1))=some (Iq u1):=by rw[E.cell dg];unfold sH;rw[if_pos dg,if_neg dg,if_pos dg,show(j*3+1)/3=j by omega,(HA j).2.1,hu]
   have g2:o.cell? (aq f (j*3+2))=some (Iq u2):=by rw[E.cell dg];unfold sH;rw[if_pos dg,if_neg dg,if_neg dg,show(j*3+2)/3=j by omega,(HA j).2.2,hu]
   obtain⟨S,T,V⟩:=h u0 u1 u2 (.inl ⟨h0,by rw[<-hu];rfl⟩);have y:Hid (∀u,Calls prog 97 #[sv u0 u1 u2,sv G H I] u λe u'=>e=.returned (sv (a k) (b k) (d k))/\Hid (Gr u u')):=λu=>by have:=lP u0 u1 u2 G H I u;rw[S,T,V]at this;exact this
   obtain⟨B,O⟩:=af (a k);obtain⟨v1,Q⟩:=af (b k);obtain⟨v2,R⟩:=af (d k);rw[O,Q,R]at y HF;unfold sv at y;obtain⟨W2,M⟩:=af (((o.setCell (aq (A+1) 0) (Iq u0)).setCell (aq (A+1) 1) (Iq u1)).setCell (aq (A+1) 2) (Iq u2));have w:R3 44 W2 (A+1) u0 u1 u2:=by rw[<-M];exact zm.set u0 u1 u2
   have W:Hid (Below A wr W2):=by rw[<-M];exact((C.setCell (p:=(aq (A+1) 0)) (by show A<=A+1;omega) _).setCell (p:=(aq (A+1) 1)) (by show A<=A+1;omega) _).setCell (p:=(aq (A+1) 2)) (by show A<=A+1;omega) _
   have zh:W2.heap[A]?=o.heap[A]?:=by rw[<-M,aM _ (aq (A+1) 2) _ A (by show A≠A+1;omega),aM _ (aq (A+1) 1) _ A (by show A≠A+1;omega),aM _ (aq (A+1) 0) _ A (by show A≠A+1;omega)]
   obtain⟨zL,zM,zN,zO⟩:=Y W2 zh;have s0:=w.c0;have s1:=w.c1;have s2:=w.c2;clear hu S T V w zh;go_wp2_with fail;refine Ut (y _) ?_;rintro u D;have HU:=qH<|W.trans (D.below.mono (by have:=W.size;omega))
  rotate_left;focus
   obtain⟨S,T,V⟩:=h 0 0 0 (.inr ⟨dg,rfl,rfl,rfl⟩);have y:Hid (∀u,Calls prog 97 #[sv 0 0 0,sv G H I] u λe u'=>e=.returned (sv (a k) (b k) (d k))/\Hid (Gr u u')):=λu=>by have:=lP 0 0 0 G H I u;rw[S,T,V]at this;exact this
   obtain⟨B,O⟩:=af (a k);obtain⟨v1,Q⟩:=af (b k);obtain⟨v2,R⟩:=af (d k);rw[O,Q,R]at y HF;unfold sv at y;clear S T V;go_wp2_with fail;refine Ut (y _) ?_;rintro u D;have HU:=qH<|C.trans (D.below.mono (by have:=C.size;omega))
  rotate_left;all_goals
   clear y;obtain⟨f1,f2,⟨x0,f3⟩,⟨x1,f4⟩,⟨x2,f5⟩,F1,F2⟩:=HF u B v1 v2 HU rfl rfl rfl;clear HF;go_wp2;go_roundw;.exact⟨k+1,zq,by go_num,F1,F2⟩
   .simp[intOf];omega
 .have zg:¬(k:Int)<(m:Int):=dg;obtain rfl:k=m:=dg;go_wp2;go_ret;exact⟨f,rfl,Jz HR,by rw[F.out];omega,by rw[F.out];exact HB⟩
def B7(a b c d:zzb)(k:Nat)(i:Nat):Fd:=Iq (if i/4<k then(if i %4=0 then a (i/4)else if i %4=1 then b (i/4)else if i %4=2 then c (i/4)else d (i/4))else 0)
def MM(w:AT)m a b c d T:(w.alloc (.cells (madeCells #[Iq 0,Iq 0,Iq 0,Iq 0] (m*4)) T)).rowIs w.heap.size T (m*4) (B7 a b c d 0):=by have:=World.rowIs_alloc w (madeCells #[Iq 0,Iq 0,Iq 0,Iq 0] (m*4)) T (B7 a b c d 0) (λi hi=>by rw[size_madeCells]at hi;unfold B7;rw[if_neg dg];simp only[madeCells];have:i %4=0\/i %4=1\/i %4=2\/i %4=3:=dg;rcases this with e|e|e|e<;>simp[e,hi]);rw[size_madeCells]at this;omega
def ML{W:AT}{b}{T}{m k}{a e c d}(h:W.rowIs b T (m*4) (B7 a e c d k))x y z u(f:x=a k)(hy:y=e k)(g:z=c k)(hu:u=d k):
 ((((W.setCell (aq b (k*4)) (Iq x)).setCell (aq b (k*4+1)) (Iq y)).setCell (aq b (k*4+2)) (Iq z)).setCell (aq b (k*4+3)) (Iq u)).rowIs b T (m*4) (B7 a e c d (k+1)):=by subst f hy g hu;refine((((h.set (k*4) (Iq (a k))).set (k*4+1) (Iq (e k))).set (k*4+2) (Iq (c k))).set (k*4+3) (Iq (d k))).congr λi hi=>?_;grind[B7]
def m5(W:AT)(lb m:Nat)(a b c d:zzb):Prop:=lb<W.heap.size/\∀j,j<m->W.cell? (aq lb (j*4))=some (Iq (a j))/\W.cell? (aq lb (j*4+1))=some (Iq (b j))/\W.cell? (aq lb (j*4+2))=some (Iq (c j))/\W.cell? (aq lb (j*4+3))=some (Iq (d j))
def PC{W}{e}{T}{m}{a b c d}(h:W.rowIs e T (m*4) (B7 a b c d m)):m5 W e m a b c d:=by
 refine⟨h.lt,λj f=>⟨?_,?_,?_,?_⟩⟩;.rw[h.cell dg];grind[B7]
 .rw[h.cell dg];grind[B7]
 .rw[h.cell dg];grind[B7]
 .rw[h.cell dg];grind[B7]
def Qn(U W:AT)(lb m:Nat)(a b c d:zzb):Prop:=m5 W lb m a b c d/\U.heap.size<=lb/\Bq U W
def MZ L d N a b:∃G:Nat->Int,∀g,bY L d N a b g->∀j,j<d.length->g j=G j:=by
 by_cases e:∃g,bY L d N a b g;.obtain⟨g,f⟩:=e;exact⟨g,λh c=>c.uniq f⟩
 simp_all
def yT{g h}{a}:∀k,(∀j,j<k->g j=h j)->offs g a k=offs h a k:=λk e=>by grind[offs,a_]
def iK(W:AT)(B:Nat)(p:zze)(m:Nat)(v:zzb):Prop:=m=0\/∃b o,p=some (aq b o)/\b<W.heap.size/\B<=b/\∀j,j<m->W.cell? (aq b (o+j))=some (Iq (v j))
def iK.below{W W'}{B m}{p}{v}(h:iK W B p m v)(c:Bq W W'):iK W' B p m v:=by
 rcases h with h|⟨b,o,e,a,d,f⟩;.exact .inl h
 .exact .inr ⟨b,o,e,zz006 a c.size,d,λj g=>(c.cell (p:=(aq b _)) a).trans (f j g)⟩
def iK.low{W}{B a m}{p}{v}(h:iK W B p m v)(g:a<=B):iK W a p m v:=by
 rcases h with h|⟨b,o,e,c,f,d⟩;.exact .inl h
 .exact .inr ⟨b,o,e,c,dg,d⟩
def mW{f g}{n}(h:∀j,j<n->f j=g j):ap f (List.range n)=ap g (List.range n):=a_ λj a=>h j (xQ.1 a)
def cO.congr{n}{q s t}{r}{g o}(h:cO n q s t r g)(e:∀j,j<n->g j=o j):cO n q s t r o:=by
 rcases h with⟨c,d⟩|⟨c,A,S,L,V,m,a⟩;.refine .inl ⟨c,λj b=>by rw[<-e j b];exact d.bd j b,by rw[<-mW e];exact d.sum,λi k f p l=>?_⟩;rw[<-e k p];exact d.behind i k f p (by rw[e i dg];exact l)
 .exact .inr ⟨c,A,S,L,V,m,a.perm,a.left,a.pos,a.weight,a.full,a.open_,a.miss,a.none_,a.sorted,λj b=>by rw[<-e j b];exact a.is j b⟩
def bY.congr{L}{c}{N}{a b}{g d}(h:bY L c N a b g)(e:∀j,j<c.length->g j=d j):bY L c N a b d:=cO.congr h e
def M4{u}{m l}{L}{b}{N}{a c}{G}(k:b.length=m)(y:m<=200)(h:fB u l 0 m (λj=>EX (ae L (aZ b j)) (N j)) (λj=>au (ae L (aZ b j)) 2) (λj=>au (ae L (aZ b j)) 3))(hG:∀g,bY L b N a c g->∀j,j<b.length->g j=G j):
 Cw 258 #[Iq a,Iq c,Sq l m m] u λe p=>∃q cq,e=Rw (.slice q m cq)/\iK p u.heap.size q m G/\Bq u p/\(b=[]\/bY L b N a c G):=by
 subst k;refine(mV _ b.length _ _ _ a c u ⟨_,_,rfl,.inr ⟨l,0,rfl,h⟩⟩ dg).mono ?_;rintro e p ⟨v,rfl,t⟩;have s:=t.below;rcases t with⟨f,rfl,hu⟩|⟨z,A,n,rfl,x,⟨r,w,o⟩,B⟩
 .have i:b=[]:=by
   rcases f with f|f;.grind
   .omega
  exact⟨none,0,by rw[i];rfl,.inl (by rw[i];rfl),s,.inl i⟩
 .refine⟨_,_,rfl,.inr ⟨n,0,rfl,w.1,x,λj d=>?_⟩,s,.inr (bY.congr o λj d=>hG r o j d)⟩;rw[<-hG r o j d];exact(w.2 j d).1
def Pr{u}{m l}{L}{c}{N}{a b}{G}(k:c.length=m)(y:m<=200)(h:fB u l 0 m (λj=>EX (ae L (aZ c j)) (N j)) (λj=>au (ae L (aZ c j)) 2) (λj=>au (ae L (aZ c j)) 3))(hG:∀g,bY L c N a b g->∀j,j<c.length->g j=G j):
 Cw 259 #[Iq a,Iq b,Sq l m m] u λe o=>∃q cq,e=Rw (.slice q m cq)/\iK o u.heap.size q m (offs G (cl b))/\Bq u o:=by
 subst k;refine(wH _ c.length _ _ _ a b u ⟨_,_,rfl,.inr ⟨l,0,rfl,h⟩⟩ dg).mono ?_;rintro e o ⟨v,rfl,r,d⟩;have p:=r.below;rcases r with⟨f,rfl,hu⟩|⟨z,A,n,g,rfl,s,w,B⟩
 .have x:c=[]:=by
   rcases f with f|f;.grind
   .omega
  exact⟨none,0,rn,.inl dg,p⟩
 .refine⟨_,_,rfl,.inr ⟨n,0,rfl,s.1,d _ _ _ _ rfl,λj t=>?_⟩,p⟩;rw[<-yT j (λi hi=>hG g w i dg)];exact(s.2 j t).1
def ss(P:zzj)(i:Nat):Fd:=Iq (P (i/10) (i %10))
def eQ(P:zzj)(c t:Nat)(x:Int):Nat->Nat->Int:=λq u=>if q=c/\u=t then x else P q u
def Px{W:AT}{b N}{T}{P}(h:W.rowIs b T N (ss P))c t(a:t<10)x:(W.setCell (aq b (c*10+t)) (Iq x)).rowIs b T N (ss (eQ P c t x)):=by refine(h.set (c*10+t) (Iq x)).congr λi hi=>?_;grind[ss,eQ]
def bj{W:AT}{b n}{T}{P}(h:W.rowIs b T (n*10) (ss P)){c t}(a:c<n)(d:t<10):W.cell? (aq b (c*10+t))=some (Iq (P c t)):=by rw[h.cell dg];grind[ss]
def og.kept{W W'}{r n k}{H}{p}{c off}(h:og W p k c off)(w:aU W r H n)(s:W.grownBy W' (some r)):og W' p k c off:=by
 rcases h with h|⟨b,o,e,l,f⟩;.exact .inl h
 .by_cases v:k=0;.exact .inl v
  .obtain⟨x,d,g⟩:=w.map;have i:b≠r:=λu=>by subst u;have:=(f 0 dg).1;simp[World.cell?,g]at this
   have m:=s.block b l (λq=>i rn);exact .inr ⟨b,o,e,zz006 l s.size,λj t=>⟨(aQ (a:=(aq b (o+j*2))) m).trans (f j t).1,(aQ (a:=(aq b (o+j*2+1))) m).trans (f j t).2⟩⟩
structure Pw(U0 W:AT)(r pb N:Nat)(P:zzj)(H:zzg)(n:Nat):Prop where
 g:U0.grownBy W (some r)
 m:aU W r H n
 row:W.rowIs pb 95 (N*10) (ss P)
def Pw.below{b W W'}{r c N n}{P}{H}(h:Pw b W r c N P H n)(a:Bq W W'):Pw b W' r c N P H n:=
 ⟨h.g.trans (aa a),h.m.grown_below a,rowIs_below h.row a⟩
def Pw.grown{d W a}{r c N n f}{P}{H}(h:Pw d W r c N P H n)(e:W.grownBy a (some r))(i:aU a r H f)(b:c≠r):Pw d a r c N P H f:=
 ⟨h.g.trans e,i,nH h.row e b⟩
def Pw.set{d W}{r b N n}{P}{H}(h:Pw d W r b N P H n)(f:d.heap.size<=b)(e:b≠r)c t(i:t<10)x:Pw d (W.setCell (aq b (c*10+t)) (Iq x)) r b N (eQ P c t x) H n:=
 ⟨iy h.g (a:=(aq b _)) f _,h.m.set (a:=(aq b _)) e _,Px h.row c t i x⟩
def Pw.mono{a W}{r c N n b}{P}{H}(h:Pw a W r c N P H n)(d:n<=b):Pw a W r c N P H b:=⟨h.g,h.m.mono d,h.row⟩
def eR(hh w:Int):Int:=max 0 (hh-w)
def Ai(mb r d N k f n:Nat)(P:zzj)(H:zzg)(i a1 a2 a3 a4 a5 a6 a7 a8 a9 b0 b1 up:Int)(tx:BY)(p:zze)(m c:Nat)(sp:zze)(I sc:Nat)(B off:zzb)(h U:AT)(hP:Hid (Pw h U r d N P H n))(zk:h.heap.size<=d)(V:d≠r)(hk:k<N)(hN:N<=1000)(hm:0<m)(zj:Hid (∃b o,p=some (aq b o)/\b<h.heap.size/\b≠r/\h.cell? (aq b o)=some (Iq (f:Int))))(hH:0<=H f (P k 2)/\H f (P k 2)<=100000)(Y:0<=P k 3/\P k 3<=100000)(HC:Hid (∀u,Pw h u r d N P H n->Cw 190 #[Pq mb,Iq (f:Int),Iq (P k 2)] u λe s=>e=Rw (Iq (H f (P k 2)))/\Hid (u.grownBy s (some r))/\Hid (aU s r H (n+100))))(OF:Hid (∀u P' n',Pw h u r d N P' H n'->Cw 191 #[Iq i,.slice sp I sc] u λe s=>e=Rw (Iq (gH i B off I))/\Hid (Bq u s))):
 Cw 114 #[Pq mb,.pointer (some (aq d (k*10))),eu 4 i a1 a2 a3 a4 a5 a6 a7 a8 a9 b0 b1 tx (.slice p m c) up,.slice sp I sc] U λe U'=>e=Rw (.tuple #[])/\Pw h U' r d N (eQ (eQ P k 9 (eR (H f (P k 2)) (P k 3))) k 8 (min (max 0 (gH i B off I)) (eR (H f (P k 2)) (P k 3)))) H (n+100)/\Hid (∀b,b<U.heap.size->b≠r->b≠d->U'.heap[b]?=U.heap[b]?):=by
 obtain⟨j,C,rfl,zB,zC,zA⟩:=zj.out;obtain⟨l,M⟩:=af (U.alloc (.cells #[Iq 4,Iq i,Iq a1,Iq a2,Iq a3,Iq a4,Iq a5,Iq a6,Iq a7,Iq a8,Iq a9,Iq b0,Iq b1,.string tx,.slice (some (aq j C)) m c,Iq up] 140));obtain⟨A,hA⟩:=af U.heap.size;have K:Hid (Bq U l):=by rw[<-M];exact((Gr.refl U).alloc _).below
 have z:l.heap[A]?=some (.cells #[Iq 4,Iq i,Iq a1,Iq a2,Iq a3,Iq a4,Iq a5,Iq a6,Iq a7,Iq a8,Iq a9,Iq b0,Iq b1,.string tx,.slice (some (aq j C)) m c,Iq up] 140 (0,0)):=by rw[<-M,<-hA];exact heap_alloc_new _ _
 have E:Hid (Pw h l r d N P H n):=hP.below K;have ze:Hid (U.heap.size=A):=hA;have zH:A≠r:=by have:=hP.m.lt;omega
 have zI:d<A:=by rw[<-hA];exact hP.row.lt
 obtain⟨w,hw⟩:=af (P k 2);obtain⟨hh,S⟩:=af (P k 3);obtain⟨y,hy⟩:=af (H f w);rw[hw]at HC hH|-;rw[S]at Y|-;rw[hy]at HC hH|-;have HS:Hid (∀u,Pw h u r d N P H n\/Pw h u r d N P H (n+100)->l.grownBy u (some r)->u.cell? (aq A 14)=some (.slice (some (aq j C)) m c)/\u.cell? (aq j C)=some (Iq (f:Int))/\u.cell? (aq d (k*10+2))=some (Iq w)/\u.cell? (aq d (k*10+3))=some (Iq hh)):=λu hu hg=>by
  have R:h.grownBy u (some r)/\u.rowIs d 95 (N*10) (ss P):=by rcases hu with q|q<;>exact⟨q.g,q.row⟩
  have zx:=(aj.1 z).1;have hb:u.heap[A]?=l.heap[A]?:=hg.block A zx (λe=>rn);refine⟨by rw[Lib.cell_of_heap (hb.trans z)];rfl,(aQ (a:=(aq j C)) (R.1.block j zB (λe=>zC rn))).trans zA,?_,?_⟩;.rw[<-hw];exact bj R.2 hk dg
  .rw[<-S];exact bj R.2 hk dg
 have zm:Hid (∀u,l.grownBy u (some r)->u.heap[A]?=some (.cells #[Iq 4,Iq i,Iq a1,Iq a2,Iq a3,Iq a4,Iq a5,Iq a6,Iq a7,Iq a8,Iq a9,Iq b0,Iq b1,.string tx,.slice (some (aq j C)) m c,Iq up] 140 (0,0))):=λu hg=>(hg.block A (aj.1 z).1 (λe=>rn)).trans z;have zg:Hid (∀u,(u=l\/u=l.drew)->Cw 190 #[Pq mb,Iq (f:Int),Iq w] u λe s=>e=Rw (Iq y)/\Hid (l.grownBy s (some r))/\Hid (Pw h s r d N P H (n+100))):=λu hu=>by
  have zy:l.grownBy u (some r):=by
   rcases hu with rfl|rfl;.exact aa Ok
   .exact jI (aa Ok)
  have zl:Pw h u r d N P H n:=by
   rcases hu with rfl|rfl;.exact E
   .exact E.below Ok.drew
  refine Ut (HC u zl) ?_;rintro s ⟨Z,q2⟩;exact⟨rfl,zy.trans Z,zl.grown Z q2 V⟩
 obtain⟨s1,s2,s3,s4⟩:=HS l (.inl E) (aa Ok);obtain⟨rm,X⟩:=af (eR y hh);have zD:max 0 (y-hh)=rm:=X;rw[X];have n1:¬A=d:=dg;have n3:¬j=d:=dg;have n4:¬d=j:=dg;have G:Hid (∀u n' P',Pw h u r d N P' H n'->(∃v,u.cell? (aq d (k*10+9))=some v)/\u.frozen? (aq d (k*10+9))=false/\d<u.heap.size/\(∃v,u.cell? (aq d (k*10+8))=some v)/\u.frozen? (aq d (k*10+8))=false):=λu n' P' hu=>⟨⟨_,bj hu.row hk dg⟩,hu.row.frozen _,hu.row.lt,⟨_,bj hu.row hk dg⟩,hu.row.frozen _⟩;obtain⟨⟨v9,r9⟩,f9,l9,_⟩:=G l n P E;have zi:Hid (∀u,Pw h u r d N P H (n+100)->l.grownBy u (some r)->(u.setCell (aq d (k*10+9)) (Iq rm)).cell? (aq A 14)=some (.slice (some (aq j C)) m c)/\(u.setCell (aq d (k*10+9)) (Iq rm)).cell? (aq j C)=some (Iq (f:Int))/\(u.setCell (aq d (k*10+9)) (Iq rm)).cell? (aq d (k*10+2))=some (Iq w)/\(u.setCell (aq d (k*10+9)) (Iq rm)).cell? (aq d (k*10+3))=some (Iq hh)):=λu hu hg=>by
  obtain⟨Z,q2,q3,q4⟩:=HS u (.inr hu) hg;refine⟨?_,?_,?_,?_⟩;.rw[cu _ _ _ _ (λe=>rn)];exact Z
  .rw[cu _ _ _ _ (λe=>rn)];exact q2
  .rw[cu _ _ _ _ (λe=>rn)];exact q3
  .rw[cu _ _ _ _ (λe=>rn)];exact q4
 clear z hP zj hy hw S X;unfold eu;go_enter func114,ntmps114;go_wp2_with fail;clear M hA;have zE:IntKind.i64.wrap (y-hh)=y-hh:=IntWalk.i64_in _ dg;go_cut[7]from 8 to 28 (λ_ wx=>Hid (Pw h wx r d N (eQ P k 9 rm) H (n+100))/\Hid (∀b,b<U.heap.size->b≠r->b≠d->wx.heap[b]?=U.heap[b]?)/\Hid (wx.heap[A]?=some (.cells #[Iq 4,Iq i,Iq a1,Iq a2,Iq a3,Iq a4,Iq a5,Iq a6,Iq a7,Iq a8,Iq a9,Iq b0,Iq b1,.string tx,.slice (some (aq j C)) m c,Iq up] 140 (0,0))))
 .go_region_held(λW=>W.cell? (aq A 14)=some (.slice (some (aq j C)) m c)/\W.cell? (aq j C)=some (Iq (f:Int))/\W.cell? (aq d (k*10+2))=some (Iq w)/\W.cell? (aq d (k*10+3))=some (Iq hh)) (go_keep) (first|(go_at_call 190;refine ag (zg _ rn) ?_;rintro e u1 ⟨rfl,D,F⟩;obtain⟨t1,t2,t3,t4⟩:=HS u1 (.inr F) D;obtain⟨⟨zO,zM⟩,zG,zK,_⟩:=G u1 _ _ F;obtain⟨o1,o2,o3,o4⟩:=zi u1 F D));all_goals go_wp2_with fail
  all_goals go_meet
  all_goals(refine⟨?_,?_,?_⟩)
  all_goals first
   |exact F.set zk V k 9 dg rm
   |exact λb h1 h2 Y=>(aM u1 (aq d (k*10+9)) _ b Y).trans ((D.block b (zz006 h1 K.size) (λe=>h2 rn)).trans (K.block b h1))
   |exact(aM u1 (aq d (k*10+9)) _ A n1).trans (zm u1 D)
 obtain⟨t,zo,J⟩:=hcut;have zw:wc.cell? (aq A 1)=some (Iq i):=by rw[Lib.cell_of_heap J.out];rfl
 have c9:wc.cell? (aq d (k*10+9))=some (Iq rm):=by rw[bj t.row hk dg];unfold eQ;rw[if_pos ⟨rfl,rfl⟩]
 obtain⟨ov,T⟩:=af (gH i B off I);rw[T]at OF;have zv:Hid (∀u,(u=wc\/u=wc.drew)->Cw 191 #[Iq i,.slice sp I sc] u λe s=>e=Rw (Iq ov)/\Hid (Bq wc s)/\s.cell? (aq A 1)=some (Iq i)/\s.cell? (aq d (k*10+9))=some (Iq rm)):=λu hu=>by
  have Q:Bq wc u:=by
   rcases hu with rfl|rfl;.exact Ok
   .exact Ok.drew
  refine Ut (OF u _ _ (t.below Q)) ?_;rintro s q;have O:=Q.trans (q.mono Q.size);exact⟨rfl,O,(O.cell (p:=(aq A 1)) (aj.1 J).1).trans zw,(O.cell (p:=(aq d _)) t.row.lt).trans c9⟩
 have zq:Hid (gH i B off I=ov):=T;have zh:Hid (∀u x,Bq wc u->x=min (max 0 ov) rm->Pw h (u.setCell (aq d (k*10+8)) (Iq x)) r d N (eQ (eQ P k 9 rm) k 8 (min (max 0 (gH i B off I)) rm)) H (n+100)):=λu x hu hx=>by rw[zq.out,<-hx];exact(t.below hu).set zk V k 8 dg x
 have zu:Hid (U.heap.size<=wc.heap.size):=by have:=(aj.1 J).1;show _<=_;have:=ze.out;omega
 have zn:Hid (∀(u:AT) (x:Fd),Bq wc u->∀b,b<U.heap.size->b≠r->b≠d->(u.setCell (aq d (k*10+8)) x).heap[b]?=U.heap[b]?):=λu x hu b h1 h2 Y=>(aM u (aq d (k*10+8)) _ b Y).trans ((hu.block b (zz006 h1 zu)).trans (zo b h1 h2 Y));have zr:Hid (∀u,Bq wc u->(∃v,u.cell? (aq d (k*10+8))=some v)/\u.frozen? (aq d (k*10+8))=false/\d<u.heap.size):=λu hu=>by obtain⟨_,_,q3,q4,q5⟩:=G u _ _ (t.below hu);exact⟨q4,q5,q3⟩
 have zt:Hid (∀(u:AT) (x:Int),u.cell? (aq A 1)=some (Iq i)->u.cell? (aq d (k*10+9))=some (Iq rm)->(u.setCell (aq d (k*10+8)) (Iq x)).cell? (aq A 1)=some (Iq i)/\(u.setCell (aq d (k*10+8)) (Iq x)).cell? (aq d (k*10+9))=some (Iq rm)):=λu x Z q2=>by
  refine⟨?_,?_⟩;.rw[cu _ _ _ _ (λe=>by injection e with e _ _;omega)];exact Z
  .rw[cu _ _ _ _ (λe=>by injection e with _ e _;omega)];exact q2
 clear T s1 s2 s3 s4 r9 f9 zg HS zi G zD zE;go_wp2_with fail;go_region_held(λW=>W.cell? (aq A 1)=some (Iq i)/\W.cell? (aq d (k*10+9))=some (Iq rm)) (go_keep) (first|(go_at_call 191;refine ag (zv _ rn) ?_;rintro e u1 ⟨rfl,L,t1,t2⟩;obtain⟨⟨zN,zL⟩,zF,zJ⟩:=zr u1 L;obtain⟨o1,o2⟩:=zt u1 (min (max 0 ov) rm) t1 t2));all_goals go_wp2;go_end0;exact⟨rfl,zh _ _ L dg,zn u1 _ L⟩
def OO:(prog.info? 93).map (λi=>(i.zero,i.size,i.bytes))=some (some (.agg #[Iq 0,Iq 0,Iq 0,Iq 0]),4,32):=pt
def ON(f r m:Nat)(x y a b s c:Int)(X Y P Q G:zzb)(L:zza)(l:zzh)(N:zzb)(H:zzg)(n:Nat)(v:Fd)(U0 U:AT)(hG:∀g,bY L l N s c g->∀j,j<l.length->g j=G j)(hf:Hid (f=192/\s=a/\(∀k,X k=x+offs G (cl c) k/\Y k=y/\P k=G k/\Q k=b)\/f=194/\s=b/\∀k,X k=x/\Y k=y+offs G (cl c) k/\P k=a/\Q k=G k))(zw:l.length=m)(hm:m<=200)(hr:r<U0.heap.size)(hx:-1000000000000<=x/\x<=1000000000000)(hy:-1000000000000<=y/\y<=1000000000000)(ha:0<=a/\a<=100000)(hb:0<=b/\b<=100000)(hv:Hid (fM U0 U r m L l N H n v)):
 Cw f #[rv x y a b,Iq c,v] U λe U'=>∃lb,e=Rw (Sq lb m m)/\Qn U U' lb m X Y P Q/\(l=[]\/bY L l N s c G)/\∀j,j<m->0<=G j/\G j<=100000:=by
 have zU:prog.follows .mixedOrders=true:=pt;obtain⟨i0,hi,zC,zD,zT⟩:=info_parts OO;have zR:∀W:AT,(Instr.makeSlice 216 (Iq (m:Int)) (Iq (m:Int))).run prog W=.ok (Sq W.heap.size m m) (W.alloc (.cells (madeCells #[Iq 0,Iq 0,Iq 0,Iq 0] (m*4)) 93)):=λW=>by have:=run_make (P:=prog) W 216 93 i0 _ underlying216 hi zC .i64 .i64 m m dg (ie _) rn dg;rw[zD,iO]at this;exact this
 clear hi zC zD zT;obtain⟨A,hA⟩:=af U.heap.size;obtain⟨lb,vv⟩:=hv.out;obtain⟨rfl,w1,w2,w3,w4⟩:=vv;have zr:=qH<|w1;have VF:=zz006 hr w3.size;obtain⟨d,S⟩:=af ((U.alloc (.cells #[Iq x,Iq y,Iq a,Iq b] 93)).alloc (.cells (madeCells #[Iq 0,Iq 0,Iq 0,Iq 0] (m*4)) 93));have i:Hid (Bq U d):=by rw[<-S];exact(((Gr.refl U).alloc _).alloc _).below
 have T:d.heap[A]?=some (.cells #[Iq x,Iq y,Iq a,Iq b] 93 (0,0)):=by rw[<-S,<-hA,bG _ _ _ (by simp_all)];exact heap_alloc_new _ _
 have ze:d.rowIs (A+1) 93 (m*4) (B7 X Y P Q 0):=by rw[<-S];have:=MM (U.alloc (.cells #[Iq x,Iq y,Iq a,Iq b] 93)) m X Y P Q 93;rw[ai,hA]at this;exact this
 have HS:Hid (∀u,Bq d u->u.cell? (aq A 0)=some (Iq x)/\u.cell? (aq A 1)=some (Iq y)/\u.cell? (aq A 2)=some (Iq a)/\u.cell? (aq A 3)=some (Iq b)):=λu hu=>by have zP:=(hu.block A (aj.1 T).1).trans T;refine⟨?_,?_,?_,?_⟩<;>(rw[Lib.cell_of_heap zP];rfl)
 have SP:Hid (∀u q0,q0=s->Bq d u->Cw 258 #[Iq q0,Iq c,Sq lb m m] u λe Z=>∃q cq,e=Rw (.slice q m cq)/\Hid (iK Z d.heap.size q m G)/\Hid (Bq d Z)/\Hid (Bq u Z)/\Hid (l=[]\/bY L l N s c G)):=λu q0 hq hu=>by have zl:Bq U u:=i.trans (hu.mono i.size);rw[hq];refine(M4 zw hm (zr.below zl) hG).mono ?_;rintro e Z ⟨q,cq,rfl,q1,V,q3⟩;exact⟨q,cq,rfl,q1.low hu.size,hu.trans (V.mono hu.size),V,q3⟩
 have OF:Hid (∀u q0,q0=s->Bq d u->Cw 259 #[Iq q0,Iq c,Sq lb m m] u λe Z=>∃q cq,e=Rw (.slice q m cq)/\Hid (iK Z d.heap.size q m (offs G (cl c)))/\Hid (Bq d Z)/\Hid (Bq u Z)):=λu q0 hq hu=>by have zl:Bq U u:=i.trans (hu.mono i.size);rw[hq];refine(Pr zw hm (zr.below zl) hG).mono ?_;rintro e Z ⟨q,cq,rfl,q1,V⟩;exact⟨q,cq,rfl,q1.low hu.size,hu.trans (V.mono hu.size),V⟩
 have t:=qH<|ze;have zE:=qH<|t.lt;have zF:=qH<|(aj.1 T).1;have w:=qH<|hA;obtain⟨z0,z1,z2,z3⟩:=HS d Ok;clear T ze w1 w2 w3 w4 hv;unfold rv;rcases hf.out with⟨rfl,hs,HX⟩|⟨rfl,hs,HX⟩;all_goals
  have HXX:=qH HX;have HQ:=qH hs.symm;clear hs HX hf;first
   |go_enter func192,ntmps192
   |go_enter func194,ntmps194
  go_wp2_with fail;clear S hA zR;go_cut[8,9]from 14 to 23 (λs1 s2 wx=>∃q1 c1 V c2,s1=.slice q1 m c1/\s2=.slice V m c2/\Hid (iK wx d.heap.size q1 m G)/\Hid (iK wx d.heap.size V m (offs G (cl c)))/\Hid (Bq d wx)/\Hid (l=[]\/bY L l N s c G))
  .go_region_held(λW=>W.cell? (aq A 2)=some (Iq a)/\W.cell? (aq A 3)=some (Iq b)) (go_keep) (first
    |(go_at_call 258;refine ag (SP _ _ HQ (by first|exact Ok|exact Ok.drew|exact K)) ?_;rintro e us ⟨qs,zk,rfl,zi,o,zt,zj⟩;obtain⟨s0,s1,s2,s3⟩:=HS us o)
    |(go_at_call 258;refine ag (SP _ _ HQ K) ?_;rintro e us ⟨qs,zk,rfl,zi,o,zt,zj⟩;obtain⟨s0,s1,s2,s3⟩:=HS us o)
    |(go_at_call 259;refine ag (OF _ _ HQ (by first|exact o|exact Ok|exact Ok.drew)) ?_;rintro e uo ⟨qo,zu,rfl,zm,K,zL⟩;obtain⟨o0,o1,o2,o3⟩:=HS uo K));all_goals go_wp2_with fail
   all_goals go_meet
   all_goals first
    |exact⟨qs,zk,qo,zu,rfl,rfl,zi.below zL,zm,K,zj⟩
    |exact⟨qs,zk,qo,zu,rfl,rfl,zi,zm.below zt,o,zj⟩
  obtain⟨q1,c1,V,c2,rfl,rfl,zG,zH,zh,zo⟩:=hcut;have M:Hid (∀j,j<m->0<=G j/\G j<=100000):=λj hj=>by
   rcases zo.out with e|hg;.grind
   .have t1:=(cO.tiles hg (fT _ _ _)).1 j dg;have t2:=fT (λj=>EX (ae L (aZ l j)) (N j)) (λj=>au (ae L (aZ l j)) 2) (λj=>au (ae L (aZ l j)) 3) j;omega
  have zn:Hid (∀j,j<m->0<=offs G (cl c) j/\offs G (cl c) j<=40000000):=λj hj=>by have:=oI M (eO c) j dg;omega
  have zK:=qH<|rowIs_below t zh;have R:=qH<|HS wc zh;clear SP OF z0 z1 z2 z3 HS t;go_wp2_with fail;go_loopw[26] (λkv wr=>∃k:Nat,k<=m/\kv=Iq (k:Int)/\Hid (wr.rowIs (A+1) 93 (m*4) (B7 X Y P Q k))/\Hid (Bq U wr)/\Hid (∀z,z≠A+1->z<wc.heap.size->wr.heap[z]?=wc.heap[z]?)/\Hid (wc.heap.size<=wr.heap.size)) (λkv _=>m-(intOf kv).toNat);.exact⟨0,LT,rfl,zK,i.trans (zh.mono i.size),λ_ _ _=>rfl,LE⟩
  obtain⟨k,hk,rfl,O,zg,HO,HZ⟩:=hrel;by_cases C:k<m
  .have zv:(k:Int)<(m:Int):=dg;obtain⟨b1,o1,rfl,l1,n1,d1⟩:=zG.resolve_left dg;obtain⟨b2,o2,rfl,l2,n2,d2⟩:=zH.resolve_left dg;have zO:=zF.out;have zM:A+1<d.heap.size\/d.heap.size<=A+1:=dg;have zN:=zE.out;have c0:=(aQ (HO A dg dg)).trans R.1;have c1:=(aQ (HO A dg dg)).trans R.2.1;have c2:=(aQ (HO A dg dg)).trans R.2.2.1;have c3:=(aQ (HO A dg dg)).trans R.2.2.2;have e1:=(aQ (HO b1 dg l1)).trans (d1 k C);have e2:=(aQ (HO b2 dg l2)).trans (d2 k C);have zQ:=M k C;have zS:=zn k C;have Vi:=λj=>O.frozen j;have zx:∃v,wr.cell? (aq (A+1) (k*4))=some v:=⟨_,O.cell dg⟩;have zy:∃v,wr.cell? (aq (A+1) (k*4+1))=some v:=⟨_,O.cell dg⟩;have zA:∃v,wr.cell? (aq (A+1) (k*4+2))=some v:=⟨_,O.cell dg⟩;have zB:∃v,wr.cell? (aq (A+1) (k*4+3))=some v:=⟨_,O.cell dg⟩;obtain⟨v0,zx⟩:=zx;obtain⟨v1,zy⟩:=zy;obtain⟨v2,zA⟩:=zA;obtain⟨v3,zB⟩:=zB;obtain⟨gk,B⟩:=af (G k);obtain⟨ok,D⟩:=af (offs G (cl c) k);have HV:=qH<|HXX k;rw[B,D]at HV;have zJ:Hid (∀E F I J:Int,X k=E/\Y k=F/\P k=I/\Q k=J->Hid (((((wr.setCell (aq (A+1) (k*4)) (Iq E)).setCell (aq (A+1) (k*4+1)) (Iq F)).setCell (aq (A+1) (k*4+2)) (Iq I)).setCell (aq (A+1) (k*4+3)) (Iq J)).rowIs (A+1) 93 (m*4) (B7 X Y P Q (k+1)))):=λE F I J h=>ML O E F I J h.1.symm h.2.1.symm h.2.2.1.symm h.2.2.2.symm;have zq:Hid (∀E F I J:Fd,Bq U ((((wr.setCell (aq (A+1) (k*4)) E).setCell (aq (A+1) (k*4+1)) F).setCell (aq (A+1) (k*4+2)) I).setCell (aq (A+1) (k*4+3)) J)):=λE F I J=>(((zg.setCell (p:=(aq (A+1) _)) (by rw[w.out];show A<=A+1;omega) _).setCell (p:=(aq (A+1) _)) (by rw[w.out];show A<=A+1;omega) _).setCell (p:=(aq (A+1) _)) (by rw[w.out];show A<=A+1;omega) _).setCell (p:=(aq (A+1) _)) (by rw[w.out];show A<=A+1;omega) _;have zI:Hid (∀E F I J:Fd,∀z,z≠A+1->z<wc.heap.size->((((wr.setCell (aq (A+1) (k*4)) E).setCell (aq (A+1) (k*4+1)) F).setCell (aq (A+1) (k*4+2)) I).setCell (aq (A+1) (k*4+3)) J).heap[z]?=wc.heap[z]?):=λE F I J z h1 h2=>by rw[aM _ (aq (A+1) (k*4+3)) _ _ h1,aM _ (aq (A+1) (k*4+2)) _ _ h1,aM _ (aq (A+1) (k*4+1)) _ _ h1,aM _ (aq (A+1) (k*4)) _ _ h1];exact HO z h1 h2
   rw[B]at zQ e1;rw[D]at zS e2;have hw1:IntKind.i64.wrap (x+ok)=x+ok:=IntWalk.i64_in _ dg;have hw2:IntKind.i64.wrap (y+ok)=y+ok:=IntWalk.i64_in _ dg;have XX:=O.lt;have zV:¬A=A+1:=dg;have zX:¬A+1=A:=dg;have zY:¬b1=A+1:=dg;have zZ:¬A+1=b1:=dg;have YG:¬b2=A+1:=dg;have YH:¬A+1=b2:=dg;clear B D zO zM zN d1 d2 O zg HO l1 l2 n1 n2 M zn;go_wp2_with fail;go_region_held(λW=>W.cell? (aq A 0)=some (Iq x)/\W.cell? (aq A 1)=some (Iq y)/\W.cell? (aq A 2)=some (Iq a)/\W.cell? (aq A 3)=some (Iq b)/\W.cell? (aq b1 (o1+k))=some (Iq gk)/\W.cell? (aq b2 (o2+k))=some (Iq ok)) (go_keep) (fail);all_goals
    go_wp2;go_roundw;.exact⟨k+1,C,by go_num,zJ _ _ _ _ HV,by first|exact(zq _ _ _ _).drew|exact zq _ _ _ _,zI _ _ _ _,by show _<=_;simpa using HZ.out⟩
    .simp[intOf];omega
  .have zv:¬(k:Int)<(m:Int):=dg;obtain rfl:k=m:=dg;go_wp2;go_ret;exact⟨A+1,rfl,⟨PC O,by rw[w.out];omega,zg⟩,zo,M⟩
def fZ(a b:zzb):Nat->List Fd
 |0=>[]
 |k+1=>fZ a b k++[Iq (a k),Iq (b k)]
def k9 a b:∀k,(fZ a b k).length=k*2
 |0=>rfl
 |k+1=>by rw[fZ,aN,k9 a b k];grind
def se a b:∀k j,j<k->(fZ a b k)[j*2]?=some (Iq (a j))/\(fZ a b k)[j*2+1]?=some (Iq (b j))
 |0,j,h=>dg
 |k+1,j,h=>by
  have c:=k9 a b k;by_cases e:j<k;.have:=se a b k j e;grind[fZ]
  grind[fZ]
def cell_two_new(w:AT)x y t:∀j u,[x,y][j]?=some u->(w.alloc (.cells #[x,y] t)).cell? (((aq w.heap.size 0):Addr).add j)=some u:=by
 intro j u h;have e:((aq w.heap.size 0):Addr).add j=(aq w.heap.size (0+j)):=by unfold Addr.add;split<;>simp_all
 simp_all
def yA:(prog.info? 154).map (λi=>(i.zero,i.size,i.bytes))=some (some (.agg #[Iq 0,Iq 0]),2,16):=pt
