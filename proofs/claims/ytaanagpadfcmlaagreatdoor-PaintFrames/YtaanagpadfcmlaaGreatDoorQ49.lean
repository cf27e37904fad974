import Derived.Test.YtaanagpadfcmlaaGreatDoorQ45
import Derived.Test.YtaanagpadfcmlaaGreatDoorQ25
import Derived.Test.YtaanagpadfcmlaaGreatDoorQ02
import Derived.Lib.Bytealg
import Derived.Test.YtaanagpadfcmlaaGreatDoorQ37
import Derived.Test.YtaanagpadfcmlaaGreatDoorQ43
import Derived.Test.YtaanagpadfcmlaaGreatDoorQ13
import Derived.Test.YtaanagpadfcmlaaGreatDoorQ46
set_option linter.all false
set_option maxRecDepth 100000
set_option maxHeartbeats 16000000
namespace Go.Proofs.YtaanagpadfcmlaaGreatDoor
open Go.RowKit Go.Proofs.Tryz
theorem EX(s:ByteArray)(c:UInt8)(w:World):Cw 234 #[.string s,.string ⟨#[c]⟩] w λe w'=>e=Rw (Iq (s.data.toList.count c:Nat))/\w'=w:=by
 have a:(({data:=#[c]}:ByteArray)[0]'(by show 0<1;omega))=c:=rfl;go_enter func234,ntmps234;go_wp2;rw[run_callFunc_extern func249 ns ns ns (e:=Extern.BytealgCount.count) ns,Lib.run_countString];simp only[Result.andThen];rw[Oper.upon_value];go_wp2;go_ret;refine⟨?_,rfl⟩;have:((c.toNat:Int).toNat.toUInt8)=c:=rn
 first|rw[this];rfl|simp[Lib.countByte]
end Go.Proofs.YtaanagpadfcmlaaGreatDoor
set_option linter.all false
set_option maxRecDepth 100000
set_option maxHeartbeats 16000000
namespace Go.Proofs.YtaanagpadfcmlaaGreatDoor
open Go.RowKit Go.Sort Go.Proofs.Tryz
theorem yC(d r g b h i X:Nat)(L:List Nd)(j:Nat->Value)(f:Nat->Int)(U:World)(c:qk U d r g b h L j f)(m:U.cell? (aj X 0)=some (Pq d))(hi:i<L.length):
 Cw 173 #[Iq (i:Int),Pq X] U λe k=>e=Rw (Iq (f i))/\k=U:=by
 have a:=c.ms;have n:U.cell? (aj d 1)=some (Sq h L.length L.length):=by unfold Ms at a;rw[Lib.cell_of_heap a];rfl
 have c1:=c.wd i hi;have l:(i:Int)<(L.length:Int):=dg;clear c a;go_enter func173,ntmps173;go_wp2;go_ret;simp_all
def gN(U W:World)(r m:Nat)(L:List Nd)(ks:List Nat)(N:Nat->Int)(H:Nat->Int->Int)(n:Nat)(v:Value):Prop:=∃lb,v=Sq lb m m/\Nj U W r lb m (λj=>sy (aa L (aH ks j)) (N j)) (λj=>ap (aa L (aH ks j)) 2) (λj=>ap (aa L (aH ks j)) 3) H n
theorem np(l r g b G y:Nat)(L:List Nd)(a:List Nat)(B:Nat->Value)(k:Nat->Int)(H:Nat->Int->Int)(Z I J K M N O P Q R S T V up:Int)(tx:ByteArray)(p:Option Addr)(c:Nat)(U:World)(Y:Hid (qk U l r g b G L B k))(D:Hid (bm U r H y))(hm:a.length<=1000)(q:Hid (∀j,j<a.length->aH a j<L.length))(hL:L.length<=1000000)(W:Hid (fL U r p a.length (λj=>(aH a j:Int))))(X:Hid (∀i,i<L.length->0<=k i/\k i<=100000)):
 Cw 92 #[Pq l,fB Z I J K M N O P Q R S T V tx (.slice p a.length c) up] U λe s=>∃v,e=Rw v/\gN U s r a.length L a (λj=>k (aH a j)) H y v:=by
 have zb:∀(fn:Fn) (first b:Array Value) (w:World),(Instr.makeFunc fn first b).run prog w=.ok (.func fn first b) w:=λ_ _ _ _=>rfl;obtain⟨m,x⟩:=ad a.length;obtain⟨n,o⟩:=ad ((U.alloc (.cells #[Pq l] 79)).alloc (.cells #[Iq Z,Iq I,Iq J,Iq K,Iq M,Iq N,Iq O,Iq P,Iq Q,Iq R,Iq S,Iq T,Iq V,.string tx,.slice p m c,Iq up] 57));obtain⟨A,hA⟩:=ad U.heap.size;have d:Bt U n:=by rw[<-o];exact(((Gr.refl U).alloc _).alloc _).below
 have f:U.grownBy n (some r):=ac d;have F:=D.lt;have h:n.heap[A]?=some (.cells #[Pq l] 79 (0,0)):=by rw[<-o,<-hA,cK _ _ _ (by simp_all)];exact heap_alloc_new _ _
 have z:Hid (Cw 172 #[Pq l,.slice p m c,.func (.func 173) #[] #[Pq A]] n λe s=>∃v,e=Rw v/\gN U s r m L a (λj=>k (aH a j)) H y v):=by
  have t:=Y.grown f;have hz:∀j,cS (λ_=>0) j=0:=λj=>by induction j with
   |zero=>rfl
   |succ j ih=>grind[cS]
  refine(ul _ _ _ l r g b G y m L B k H (aH a) (λj=>k (aH a j)) (λ_=>0) p c n (.inl ⟨rfl,A,rfl,rfl⟩) t (D.grown_below d) dg (by simp_all) hL (by rw[<-x];exact W.grown f) (λj hj=>X _ (q j dg)) (λj u hj hu E=>?_)).mono ?_
  ·refine(yC l r g b G (aH a j) A L B k u (t.grown hu) ?_ (q j dg)).mono ?_;·have C:=(aD.1 h).1;rw[Lib.cell_of_heap ((hu.block A C (λe=>rd)).trans h)];rfl
   ·rintro e u' ⟨rfl,rfl⟩;exact⟨rfl,ac (af _ _),E.mono rd⟩
  ·rintro e s ⟨lb,rfl,h1,h2,h3,h4⟩;refine⟨_,rfl,lb,rfl,h1,aF d.size h2,f.trans h3,h4.mono rd⟩
 have za:n.cell? (aj (A+1) 14)=some (.slice p m c):=by rw[<-o,World.cell?_alloc_at _ _ _ _ (by simp_all)];rfl
 have h0:n.cell? (aj A 0)=some (Pq l):=by rw[Lib.cell_of_heap h];rfl
 rw[x];unfold fB;clear d f F h Y D q W X;go_enter func92,ntmps92;go_wp2_with(go_at_call 172;refine z.mono ?_;rintro e s ⟨v,rfl,ho⟩);go_ret;simp_all
theorem wQ(b r i X Y n k:Nat)(w:Int)(H:Nat->Int->Int)(U:World)(g:U.cell? (aj X 0)=some (Pq b))(h:U.cell? (aj Y 0)=some (Iq w))(c:Hid (Cw 89 #[Pq b,Iq (i:Int),Iq w] U λe a=>e=Rw (Iq (H i w))/\Hid (U.grownBy a (some r))/\Hid (bm a r H k))):
 Cw 174 #[Iq (i:Int),Pq X,Pq Y] U λe a=>e=Rw (Iq (H i w))/\Hid (U.grownBy a (some r))/\Hid (bm a r H k):=by go_enter func174,ntmps174;go_wp2_with(go_at_call 89;refine c.mono ?_;rintro e d ⟨rfl,h1,f⟩);go_ret;simp_all
theorem uX(f r g b wb o:Nat)(w:Int)(L:List Nd)(a:List Nat)(s:Nat->Nat)(Y:Nat->Value)(Z:Nat->Int)(H:Nat->Int->Int)(W B C D E F G I J K M N O up:Int)(tx:ByteArray)(p:Option Addr)(c:Nat)(U:World)(hV:Hid (qk U f r g b wb L Y Z))(Q:Hid (bm U r H o))(hm:a.length<=1000)(x:Hid (∀j,j<a.length->aH a j<L.length))(hL:L.length<=1000000)(hK:Hid (fL U r p a.length (λj=>(aH a j:Int))))(hN:Hid (∀i w,i<L.length->0<=H i w/\H i w<=100000))(X:Hid (∀j u n',j<a.length->U.grownBy u (some r)->bm u r H n'->n'<=o+cS s j->Cw 89 #[Pq f,Iq (aH a j:Int),Iq w] u λe u'=>e=Rw (Iq (H (aH a j) w))/\Hid (u.grownBy u' (some r))/\Hid (bm u' r H (o+cS s (j+1))))):
 Cw 94 #[Pq f,fB W B C D E F G I J K M N O tx (.slice p a.length c) up,Iq w] U λe t=>∃v,e=Rw v/\gN U t r a.length L a (λj=>H (aH a j) w) H (o+cS s a.length) v:=by
 have zb:∀(fn:Fn) (first b:Array Value) (w:World),(Instr.makeFunc fn first b).run prog w=.ok (.func fn first b) w:=λ_ _ _ _=>rfl;obtain⟨m,y⟩:=ad a.length;obtain⟨n,k⟩:=ad (((U.alloc (.cells #[Pq f] 79)).alloc (.cells #[Iq W,Iq B,Iq C,Iq D,Iq E,Iq F,Iq G,Iq I,Iq J,Iq K,Iq M,Iq N,Iq O,.string tx,.slice p m c,Iq up] 57)).alloc (.cells #[Iq w] 3));obtain⟨A,hA⟩:=ad U.heap.size;have h:Bt U n:=by rw[<-k];exact((((Gr.refl U).alloc _).alloc _).alloc _).below
 have d:U.grownBy n (some r):=ac h;have V:=Q.lt;have l:n.heap[A]?=some (.cells #[Pq f] 79 (0,0)):=by rw[<-k,<-hA,cK _ _ _ (by rw[au,au];omega),cK _ _ _ (by simp_all)];exact heap_alloc_new _ _
 have q:n.heap[A+1+1]?=some (.cells #[Iq w] 3 (0,0)):=by have:=heap_alloc_new ((U.alloc (.cells #[Pq f] 79)).alloc (.cells #[Iq W,Iq B,Iq C,Iq D,Iq E,Iq F,Iq G,Iq I,Iq J,Iq K,Iq M,Iq N,Iq O,.string tx,.slice p m c,Iq up] 57)) (.cells #[Iq w] 3);rw[au,au,hA,k]at this;exact this
 have z:Hid (Cw 172 #[Pq f,.slice p m c,.func (.func 174) #[] #[Pq A,Pq (A+1+1)]] n λe t=>∃v,e=Rw v/\gN U t r m L a (λj=>H (aH a j) w) H (o+cS s m) v):=by
  have R:=hV.grown d;refine(ul _ _ _ f r g b wb o m L Y Z H (aH a) (λj=>H (aH a j) w) s p c n (.inr ⟨rfl,A,A+1+1,rfl,rfl⟩) R (Q.grown_below h) dg (by simp_all) hL (by rw[<-y];exact hK.grown d) (λj hj=>hN _ _ (x j dg)) (λj u hj hu T=>?_)).mono ?_
  ·have P:=(aD.1 l).1;have S:=(aD.1 q).1;refine wQ f r (aH a j) A (A+1+1) (o+cS s j) (o+cS s (j+1)) w H u ?_ ?_ (X j u _ dg (d.trans hu) T (ae _));·rw[Lib.cell_of_heap ((hu.block A P (λe=>rd)).trans l)];rfl
   ·rw[Lib.cell_of_heap ((hu.block (A+1+1) S (λe=>rd)).trans q)];rfl
  ·rintro e t ⟨lb,rfl,h1,h2,h3,h4⟩;exact⟨_,rfl,lb,rfl,h1,aF h.size h2,d.trans h3,h4⟩
 have za:n.cell? (aj (A+1) 14)=some (.slice p m c):=by rw[<-k,World.cell?_alloc_past _ _ _ (by simp_all),World.cell?_alloc_at _ _ _ _ (by simp_all)];rfl
 have h0:n.cell? (aj A 0)=some (Pq f):=by rw[Lib.cell_of_heap l];rfl
 rw[y];unfold fB;clear h d V l q hV Q x hK hN X;go_enter func94,ntmps94;go_wp2_with(go_at_call 172;refine z.mono ?_;rintro e t ⟨v,rfl,ho⟩);go_ret;simp_all
theorem yN{U u}{r m n}{L}{a}{N}{H}{v}{w b}(x:a.length=m)(y:m<=200)(h:gN U u r m L a N H n v)(B:r<U.heap.size):
 Cw 170 #[Iq w,Iq b,v] u λe q=>jP U q r m H (λV=>(a=[]\/bD L a N w b V)/\∀j,j<m->0<=V j/\V j<=100000) n e:=by
 subst x;obtain⟨z,rfl,h1,A,g,k⟩:=h;refine(lm _ a.length _ _ _ w b u ⟨_,_,rfl,.inr ⟨z,0,rfl,h1⟩⟩ dg).mono ?_;rintro e q ⟨v,rfl,l⟩;have c:=l.below;rcases l with⟨f,rfl,hu⟩|⟨C,D,i,rfl,E,⟨s,o,p⟩,F⟩
 ·have t:a=[]:=by
   rcases f with f|f;·grind
   ·omega
  refine⟨none,0,λ_=>0,⟨.inl t,λj d=>dg⟩,rd,.inl dg,g.trans (ac c),k.grown_below c⟩
 ·refine⟨_,_,s,⟨.inr p,λj d=>?_⟩,rfl,.inr ⟨i,0,rfl,o.1,?_,λj d=>(o.2 j d).1⟩,g.trans (ac c),k.grown_below c⟩;·have t1:=(p.tiles (fG _ _ _)).1 j d;have t2:=fG (λj=>sy (aa L (aH a j)) (N j)) (λj=>ap (aa L (aH a j)) 2) (λj=>ap (aa L (aH a j)) 3) j;grind
  ·have:=g.size;omega
def Gx(L:List Nd)(ks:List Nat)(kd a4 a5 a6 w:Int)(Wd:Nat->Int)(V:Nat->Int):Prop:=(kd=0->ks=[]\/bD L ks (λj=>Wd (aH ks j)) w a4 V)/\(kd≠0->∀j,j<ks.length->V j=max 0 (w-2*gS kd a5 a6))/\∀j,j<ks.length->0<=V j/\V j<=100000
theorem Ig{W:World}{r b m:Nat}{x:Int}{a:List Value}(h:W.heap[b]?=some (.cells a.toArray 3 (0,0)))(d:Az 1 a m m [Iq x])(c:b≠r):fL W r (some (aj b 0)) m (λ_=>x):=by refine .inr ⟨b,0,rfl,(aD.1 h).1,c,λj e=>?_⟩;have:=d.2 j 0 _ e rfl;rw[Nat.mul_one,nK]at this;rw[aZ,Lib.cell_of_heap h];simpa using this
theorem gN.g{U W}{r m}{L}{a}{N}{H}{n}{v}(h:gN U W r m L a N H n v):U.grownBy W (some r):=by obtain⟨_,_,_,_,h,_⟩:=h;exact h
theorem jP.g{U W}{r m}{H}{a}{n}{e}(h:jP U W r m H a n e):U.grownBy W (some r):=by obtain⟨_,_,_,_,_,_,h,_⟩:=h;exact h
theorem jP.base{U b W}{r m}{H}{a}{n}{e}(h:jP U W r m H a n e)(c:b.grownBy U (some r)):jP b W r m H a n e:=by obtain⟨q,cq,V,h1,d,f,g,i⟩:=h;exact⟨q,cq,V,h1,d,f,c.trans g,i⟩
theorem sX(mb r g za wb R:Nat)(w:Int)(L:List Nd)(z:List Nat)(KV:Nat->Value)(P:Nat->Int)(H:Nat->Int->Int)(y D E F G s d l I J K M N up:Int)(tx:ByteArray)(p:Option Addr)(c:Nat)(U:World)(hV:Hid (qk U mb r g za wb L KV P))(hM:Hid (bm U r H R))(hm:z.length<=200)(Y:Hid (∀j,j<z.length->aH z j<L.length))(hL:L.length<=1000000)(hK:Hid (fL U r p z.length (λj=>(aH z j:Int))))(hN:Hid (∀i,i<L.length->0<=P i/\P i<=100000))(hw:0<=w/\w<=100000)(h5:0<=d/\d<=1000000)(h6:0<=l/\l<=1000000):
 Cw 209 #[Pq mb,fB y D E F G s d l I J K M N tx (.slice p z.length c) up,Iq w] U λe U'=>jP U U' r z.length H (Gx L z y s d l w P) R e:=by
 have zv:prog.follows .mixedOrders=true:=ns;obtain⟨m,B⟩:=ad z.length;obtain⟨b,Q⟩:=ad (U.alloc (.cells #[Iq y,Iq D,Iq E,Iq F,Iq G,Iq s,Iq d,Iq l,Iq I,Iq J,Iq K,Iq M,Iq N,.string tx,.slice p m c,Iq up] 57));obtain⟨A,hA⟩:=ad U.heap.size;have o:Hid (Bt U b):=by rw[<-Q];exact((Gr.refl U).alloc _).below
 have T:Hid (U.grownBy b (some r)):=ac o;have C:b.heap[A]?=some (.cells #[Iq y,Iq D,Iq E,Iq F,Iq G,Iq s,Iq d,Iq l,Iq I,Iq J,Iq K,Iq M,Iq N,.string tx,.slice p m c,Iq up] 57 (0,0)):=by rw[<-Q,<-hA];exact heap_alloc_new _ _
 have a:Hid (∀(t:Nat) x,(#[Iq y,Iq D,Iq E,Iq F,Iq G,Iq s,Iq d,Iq l,Iq I,Iq J,Iq K,Iq M,Iq N,.string tx,.slice p m c,Iq up]:Array Value)[t]?=some x->b.cell? (aj A t)=some x):=λt x ht=>by rw[Lib.cell_of_heap C];exact ht
 have Z:=hM.lt;have HS:Hid (∀u,b.grownBy u (some r)->u.cell? (aj A 0)=some (Iq y)/\u.cell? (aj A 1)=some (Iq D)/\u.cell? (aj A 2)=some (Iq E)/\u.cell? (aj A 3)=some (Iq F)/\u.cell? (aj A 4)=some (Iq G)/\u.cell? (aj A 5)=some (Iq s)/\u.cell? (aj A 6)=some (Iq d)/\u.cell? (aj A 7)=some (Iq l)/\u.cell? (aj A 8)=some (Iq I)/\u.cell? (aj A 9)=some (Iq J)/\u.cell? (aj A 10)=some (Iq K)/\u.cell? (aj A 11)=some (Iq M)/\u.cell? (aj A 12)=some (Iq N)/\u.cell? (aj A 13)=some (.string tx)/\u.cell? (aj A 14)=some (.slice p m c)/\u.cell? (aj A 15)=some (Iq up)):=λu hu=>by have zi:=(aD.1 C).1;have S:=hu.block A zi (λe=>by injection e with e;omega);refine⟨?_,?_,?_,?_,?_,?_,?_,?_,?_,?_,?_,?_,?_,?_,?_,?_⟩<;>(rw[Lib.cell_of_heap (S.trans C)];rfl)
 have z0:b.cell? (aj A 0)=some (Iq y):=a 0 _ rfl;have z1:b.cell? (aj A 1)=some (Iq D):=a 1 _ rfl;have z2:b.cell? (aj A 2)=some (Iq E):=a 2 _ rfl;have z3:b.cell? (aj A 3)=some (Iq F):=a 3 _ rfl;have z4:b.cell? (aj A 4)=some (Iq G):=a 4 _ rfl;have z5:b.cell? (aj A 5)=some (Iq s):=a 5 _ rfl;have z6:b.cell? (aj A 6)=some (Iq d):=a 6 _ rfl;have z7:b.cell? (aj A 7)=some (Iq l):=a 7 _ rfl;have z8:b.cell? (aj A 8)=some (Iq I):=a 8 _ rfl;have z9:b.cell? (aj A 9)=some (Iq J):=a 9 _ rfl;have zA:b.cell? (aj A 10)=some (Iq K):=a 10 _ rfl;have zB:b.cell? (aj A 11)=some (Iq M):=a 11 _ rfl;have zC:b.cell? (aj A 12)=some (Iq N):=a 12 _ rfl;have zD:b.cell? (aj A 13)=some (.string tx):=a 13 _ rfl;have zE:b.cell? (aj A 14)=some (.slice p m c):=a 14 _ rfl;have zF:b.cell? (aj A 15)=some (Iq up):=a 15 _ rfl;by_cases h0:y=0
 ·subst h0;have RW:Hid (∀u,(u=b\/u=b.drew)->Cw 92 #[Pq mb,fB 0 D E F G s d l I J K M N tx (.slice p m c) up] u λe n=>∃v,e=Rw v/\Hid (gN b n r m L z (λj=>P (aH z j)) H R v)):=λu hu=>by
   have X:b.grownBy u (some r):=by
    rcases hu with rfl|rfl;·exact ac (af _ _)
    ·exact fS (ac (af _ _))
   have zl:bm u r H R:=by
    rcases hu with rfl|rfl;·exact hM.grown_below o
    ·exact(hM.grown_below o).drew
   have zg:=T.trans X;have:=np mb r g za wb R L z KV P H 0 D E F G s d l I J K M N up tx p c u (hV.grown zg) zl dg Y hL (hK.grown zg) hN;rw[B]at this;refine this.mono ?_;rintro e n ⟨v,rfl,lb,rfl,q1,q2,q3,q4⟩;exact⟨_,rfl,lb,rfl,q1,aF X.size q2,X.trans q3,q4⟩
  have SP:Hid (∀v u,gN b u r m L z (λj=>P (aH z j)) H R v->Cw 170 #[Iq w,Iq s,v] u λe n=>∃q cq,e=Rw (.slice q m cq)/\Hid (jP b n r m H (Gx L z 0 s d l w P) R (.returned (.slice q m cq)))):=λv u h=>by refine(yN B dg h (zz007 Z o.size)).mono ?_;rintro e n ⟨q,cq,V,⟨v1,v2⟩,rfl,q1,q2,q3⟩;exact⟨q,cq,rfl,q,cq,V,⟨λ_=>v1,λe=>absurd rfl e,by rw[B];exact v2⟩,rfl,q1,q2,q3⟩
  rw[B];unfold fB at RW⊢;clear C a hV hM Y hK hN h5 h6 o Z B;go_enter func209,ntmps209;go_wp2_with fail;clear Q hA;go_region_held(λW=>W.cell? (aj A 0)=some (Iq 0)/\W.cell? (aj A 1)=some (Iq D)/\W.cell? (aj A 2)=some (Iq E)/\W.cell? (aj A 3)=some (Iq F)/\W.cell? (aj A 4)=some (Iq G)/\W.cell? (aj A 5)=some (Iq s)/\W.cell? (aj A 6)=some (Iq d)/\W.cell? (aj A 7)=some (Iq l)/\W.cell? (aj A 8)=some (Iq I)/\W.cell? (aj A 9)=some (Iq J)/\W.cell? (aj A 10)=some (Iq K)/\W.cell? (aj A 11)=some (Iq M)/\W.cell? (aj A 12)=some (Iq N)/\W.cell? (aj A 13)=some (.string tx)/\W.cell? (aj A 14)=some (.slice p m c)/\W.cell? (aj A 15)=some (Iq up)) (go_keep) (first|(go_at_call 92;refine ag (RW _ (by first|exact .inl rfl|exact .inr rfl)) ?_;rintro e u1 ⟨v1,rfl,HO⟩;obtain⟨s0,s1,s2,s3,s4,s5,s6,s7,s8,s9,zn,zo,zq,zr,zt,zu⟩:=HS u1 HO.g)|(go_at_call 170;refine ag (SP _ _ HO) ?_;rintro e u2 ⟨q,cq,rfl,HZ⟩;obtain⟨t0,t1,t2,t3,t4,t5,t6,t7,t8,t9,t10,t11,t12,t13,t14,t15⟩:=HS u2 HZ.g));all_goals go_wp2;go_ret;exact HZ.base T
 ·have e0:(y==0)=false:=by simpa using h0
  have ze:=Bc (kd:=y) h5 h6;obtain⟨f,hf⟩:=ad (gS y d l);have FA:Hid (∀u,(u=b\/u=b.drew)->Cw 88 #[fB y D E F G s d l I J K M N tx (.slice p m c) up] u λe n=>e=Rw (Iq f)/\Hid (Bt b n)):=λu hu=>by
   have zc:Bt b u:=by
    rcases hu with rfl|rfl;·exact af _ _
    ·exact(af _ _).drew
   rw[<-hf];refine(kU y D E F G s d l I J K M N up tx p m c h5 h6 u).mono ?_;rintro e n ⟨rfl,q⟩;exact⟨rfl,zc.trans (q.mono zc.size)⟩
  obtain⟨x,hx⟩:=ad (max 0 (w-2*f));have zm:0<=x/\x<=100000:=by rw[hf]at ze;omega
  have RP:Hid (∀u,Bt b u->Cw 235 #[Sq u.heap.size 1 1,Iq (m:Int)] (u.alloc (.cells #[Iq x] 3)) λe n=>∃q cq,e=Rw (.slice q m cq)/\Hid (jP b n r m H (Gx L z y s d l w P) R (.returned (.slice q m cq)))):=λu hu=>by
   have O:Bt b (u.alloc (.cells #[Iq x] 3)):=hu.alloc hu.size _;have zb:∀n q cq,Bt b n->fL n r q m (λ_=>x)->jP b n r m H (Gx L z y s d l w P) R (.returned (.slice q m cq)):=λn q cq S hi=>
    ⟨q,cq,λ_=>x,⟨λe=>absurd e h0,λ_ j hj=>by rw[hf];exact hx.symm,λj hj=>zm⟩,rfl,hi,ac S,(hM.grown_below o).grown_below S⟩;by_cases hz:m=0;·rw[hz];refine(yy (.inl ⟨rfl,rfl,rfl,rfl⟩) (u.alloc (.cells #[Iq x] 3)) u.heap.size).mono ?_;rintro e n ⟨q,cq,rfl,S⟩;have:=zb n q cq (O.trans (S.mono O.size)) (.inl hz);rw[hz]at this;exact⟨q,cq,rfl,this⟩
   ·refine(vB (.inl ⟨rfl,rfl,rfl,rfl⟩) (u.alloc (.cells #[Iq x] 3)) [Iq x] rfl (λv hv=>by rw[lS.1 hv];rfl) u.heap.size m dg rn (λk v hk=>?_)).mono ?_;·rw[World.cell?_alloc_at _ _ _ _ rfl];match k with
     |0=>exact hk
     |k+1=>cases hk
    ·rintro e n ⟨rfl,⟨Ls,hl,zk⟩,S⟩;have zj:=O.trans (S.mono O.size);refine⟨_,_,rfl,zb n _ _ zj (Ig hl zk ?_)⟩;have:=O.size;have:=o.size;omega
  rw[hf]at ze;rw[B];unfold fB at FA⊢;have zh:=qH<|(aD.1 C).1;clear C a hV hM Y hK hN h5 h6 o Z B hf;go_enter func209,ntmps209;go_wp2_with fail;clear Q hA;have zw:IntKind.i64.wrap (2*f)=2*f:=IntWalk.i64_in _ dg;have zx:IntKind.i64.wrap (w-2*f)=w-2*f:=IntWalk.i64_in _ dg;have zy:(if(0:Int)<w-2*f then w-2*f else 0)=x:=by rw[<-hx];split<;>omega
  go_region_held(λW=>W.cell? (aj A 0)=some (Iq y)/\W.cell? (aj A 1)=some (Iq D)/\W.cell? (aj A 2)=some (Iq E)/\W.cell? (aj A 3)=some (Iq F)/\W.cell? (aj A 4)=some (Iq G)/\W.cell? (aj A 5)=some (Iq s)/\W.cell? (aj A 6)=some (Iq d)/\W.cell? (aj A 7)=some (Iq l)/\W.cell? (aj A 8)=some (Iq I)/\W.cell? (aj A 9)=some (Iq J)/\W.cell? (aj A 10)=some (Iq K)/\W.cell? (aj A 11)=some (Iq M)/\W.cell? (aj A 12)=some (Iq N)/\W.cell? (aj A 13)=some (.string tx)/\W.cell? (aj A 14)=some (.slice p m c)/\W.cell? (aj A 15)=some (Iq up)) (go_keep) (first|(go_at_call 88;refine ag (FA _ (by first|exact .inl rfl|exact .inr rfl)) ?_;rintro e u1 ⟨rfl,HO⟩;obtain⟨s0,s1,s2,s3,s4,s5,s6,s7,s8,s9,zn,zo,zq,zr,zt,zu⟩:=HS u1 (ac HO);have zz:¬A=u1.heap.size:=(by have:=HO.size;have:=zh.out;omega))|(go_at_call 235;refine ag (RP _ HO) ?_;rintro e u2 ⟨q,cq,rfl,HZ⟩;obtain⟨t0,t1,t2,t3,t4,t5,t6,t7,t8,t9,t10,t11,t12,t13,t14,t15⟩:=HS u2 HZ.g));all_goals go_wp2;go_ret;exact HZ.base T
theorem rZ(w G n o r s t v x z b B C D up:Int)(tx:ByteArray)(p:Option Addr)(m c:Nat)(U:World)(N:bN U)(R:tx.size<=4000)(S:0<=w/\w<=100000):
 Cw 208 #[fB G n o r s t v x z b B C D tx (.slice p m c) up,Iq w] U λe L=>e=Rw (Iq (mC b tx.data.toList w))/\Hid (Bt U L):=by
 obtain⟨i,g⟩:=ad (U.alloc (.cells #[Iq G,Iq n,Iq o,Iq r,Iq s,Iq t,Iq v,Iq x,Iq z,Iq b,Iq B,Iq C,Iq D,.string tx,.slice p m c,Iq up] 57));obtain⟨A,M⟩:=ad U.heap.size;have d:Hid (Bt U i):=by rw[<-g];exact((Gr.refl U).alloc _).below
 have h:i.heap[A]?=some (.cells #[Iq G,Iq n,Iq o,Iq r,Iq s,Iq t,Iq v,Iq x,Iq z,Iq b,Iq B,Iq C,Iq D,.string tx,.slice p m c,Iq up] 57 (0,0)):=by rw[<-g,<-M];exact heap_alloc_new _ _
 have T:i.cell? (aj A 9)=some (Iq b):=by rw[Lib.cell_of_heap h];rfl
 have O:i.cell? (aj A 13)=some (.string tx):=by rw[Lib.cell_of_heap h];rfl
 have F:tx.data.toList.count 10<=4000:=by
  have h1:=KH (a:=(10:UInt8)) (l:=tx.data.toList);have Q:tx.data.toList.length=tx.size:=by rw[dZ];rfl
  omega
 have I:Hid (∀u,Bt U u->Cw 233 #[.string tx,Iq w] u λe K=>e=Rw (Iq ((a_ (aG (ak tx.data.toList)) w).length:Int))/\Hid (Bt U K)):=λu hu=>by refine(EW tx w u (N.below hu) dg dg dg).mono ?_;rintro e K ⟨rfl,q⟩;exact⟨rfl,hu.trans (q.mono hu.size)⟩
 have H:=qH<|λu=>EX tx 10 u;obtain⟨k,J⟩:=ad (tx.data.toList.count 10);rw[J]at H F;unfold fB;by_cases h1:w<1
 ·have f:Hid (mC b tx.data.toList w=0):=by show _=_;unfold mC;rw[if_pos h1]
  go_enter func208,ntmps208;go_wp2;go_ret;exact⟨by rw[f.out];rfl,d⟩
 ·by_cases E:b=1
  ·subst E;have f:Hid (mC 1 tx.data.toList w=((a_ (aG (ak tx.data.toList)) w).length:Int)):=by show _=_;unfold mC;rw[if_neg h1,if_pos rfl]
   obtain⟨y,hy⟩:=ad ((a_ (aG (ak tx.data.toList)) w).length);rw[hy]at f I;go_enter func208,ntmps208;go_wp2_with(go_at_call 233;refine ag (I _ d) ?_;rintro e u ⟨rfl,j⟩);go_ret;exact⟨by rw[f.out];rfl,j⟩
  ·have P:(b==1)=false:=by simpa using E
   have f:Hid (mC b tx.data.toList w=(k:Int)+1):=by show _=_;unfold mC;rw[if_neg h1,if_neg E,J]
   go_enter func208,ntmps208;go_wp2_with(go_at_call 234;refine ag (H _) ?_;rintro e u ⟨rfl,hu⟩;obtain rfl:=hu.symm);go_ret;exact⟨by rw[f.out];rfl,d⟩
theorem bN.kept{W W'}{r n}{H}(h:bN W)(j:bm W r H n)(g:W.grownBy W' (some r)):bN W':=by
 obtain⟨l,a,d⟩:=j.map;have k:∀(o:Nat) v,W.cell? (aj 10 o)=some v->W'.cell? (aj 10 o)=some v:=λo v b=>by
  have f:10≠r:=λe=>by subst e;simp[World.cell?,d]at b
  have c:10<W.heap.size:=by
   by_cases q:10<W.heap.size;·exact q
   ·simp[World.cell?,Kz (KA q)]at b
  exact(bf (g.block _ c (λe=>f rd))).trans b
 intro i hi;obtain⟨h1,m,p⟩:=h i hi;grind
theorem vR(D:Nat)(w f g h i j k l n a r s t up:Int)(tx:ByteArray)(p:Option Addr)(m c:Nat)(U:World)(v:bN U)(B:tx.size<=4000)(C:0<=w/\w<=100000):
 Cw 168 #[Pq D,fB 5 f g h i j k l n a r s t tx (.slice p m c) up,Iq w] U λe A=>e=Rw (Iq (mC a tx.data.toList w))/\Hid (Bt U A):=by
 have d:Hid (∀u,Bt U u->Cw 208 #[fB 5 f g h i j k l n a r s t tx (.slice p m c) up,Iq w] u λe x=>e=Rw (Iq (mC a tx.data.toList w))/\Hid (Bt U x)):=λu hu=>by refine(rZ w 5 f g h i j k l n a r s t up tx p m c u (v.below hu) B C).mono ?_;rintro e x ⟨rfl,q⟩;exact⟨rfl,hu.trans (q.mono hu.size)⟩
 have b:Hid (∀o,Bt U (U.alloc o)):=λo=>((Gr.refl U).alloc _).below;obtain⟨y,hy⟩:=ad (mC a tx.data.toList w);rw[hy]at d⊢;clear hy v;unfold fB at d⊢;go_enter func168,ntmps168;go_wp2_with(go_at_call 208;refine ag (d _ (b _)) ?_;rintro e u ⟨rfl,z⟩);go_ret;simp_all
def cI(L:List Nd)(i:Nat):List Nat:=(aa L i).kids
structure Hs(U:World)(mb r g cap wb:Nat)(L:List Nd)(KV:Nat->Value)(Wd:Nat->Int)(H:Nat->Int->Int)(n:Nat):Prop where
 view:qk U mb r g cap wb L KV Wd
 memo:bm U r H n
 tab:bN U
theorem Hs.grown{U b}{f r g a j}{L}{c}{d}{H}{n i}(h:Hs U f r g a j L c d H n)(e:U.grownBy b (some r))(k:bm b r H i):Hs b f r g a j L c d H i:=
 ⟨h.view.grown e,k,h.tab.kept h.memo e⟩
theorem Hs.below{U c}{f r g a i}{L}{b}{d}{H}{n}(h:Hs U f r g a i L b d H n)(e:Bt U c):Hs c f r g a i L b d H n:=
 h.grown (ac e) (h.memo.grown_below e)
theorem Bh{s}{L}{M}{O}{H}C r g z wb(m:dp s L)(hS:Sz L O H):∀  f i   w   n   U,i<L.length->L.length-i<=f->0<=w->w<=100000->Hs U C r g z wb L M O H n->n+(vis (cI L) f i).length<1000000000000->
 Cw 89 #[Pq C,Iq (i:Int),Iq w] U λe N=>e=Rw (Iq (H i w))/\Hid (U.grownBy N (some r))/\Hid (bm N r H (n+(vis (cI L) f i).length)):=by
 intro f;induction f with
 |zero=>intro i w n U hi h1;omega
 |succ f ih=>
  intro i w n U hi hf I J o hn;have hc:=m.vl.cnt;have y:=MS (cI L) f i;have R:=m.vl.nv i hi;have zg:=R.bd;have zh:(cI L i).length<=100:=m.kids_le hi;obtain⟨k,Y⟩:=ad (cS (λj=>(vis (cI L) f (aH (cI L i) j)).length) (cI L i).length);rw[Y]at y;rw[y]at hn⊢;obtain⟨p,c,za,F⟩:=o.view.kid i hi;have h:=lh (o.view.len i hi) (M i);have G:=o.view.nd i hi;rw[h]at G;have S:pN (i:Int):=by unfold pN;omega
  have T:pN w:=by unfold pN;omega
  rw[show n+(k+1)=n+k+1 by omega];refine Fh C r g i n k L.length z w H _ ((aa L i).kind:Int) (ap (aa L i) 0) (ap (aa L i) 1) (ap (aa L i) 2) (ap (aa L i) 3) (ap (aa L i) 4) (ap (aa L i) 5) (ap (aa L i) 6) (ap (aa L i) 7) (ap (aa L i) 8) (ap (aa L i) 9) (ap (aa L i) 10) (ap (aa L i) 11) (aa L i).up ⟨(aa L i).text.toArray⟩ (M i) U o.view.ms o.memo hi dg S T dg o.view.gl o.view.gr (λt x ht=>G t x rd) (λW X l=>?_);rw[za];have A:=o.grown (ac X) l;by_cases Q:(aa L i).kind=5
  ·have zb:(⟨(aa L i).text.toArray⟩:ByteArray).size<=4000:=by have h1:=m.vl.tl i hi;have h2:=m.sz;show(aa L i).text.toArray.size<=4000;rw[jh];omega
   have:=vR C w (ap (aa L i) 0) (ap (aa L i) 1) (ap (aa L i) 2) (ap (aa L i) 3) (ap (aa L i) 4) (ap (aa L i) 5) (ap (aa L i) 6) (ap (aa L i) 7) (ap (aa L i) 8) (ap (aa L i) 9) (ap (aa L i) 10) (ap (aa L i) 11) (aa L i).up ⟨(aa L i).text.toArray⟩ p (aa L i).kids.length c W A.tab zb ⟨I,J⟩;rw[Q];refine this.mono ?_;rintro e N ⟨rfl,q⟩;exact⟨_,rfl,(hS.ht i w hi Q).symm,ac q,(l.grown_below q).mono dg⟩
  ·have E:((aa L i).kind:Int)≠5:=dg
   have:=MX C r n (aa L i).kids.length w H (Gx L (aa L i).kids (aa L i).kind (ap (aa L i) 4) (ap (aa L i) 5) (ap (aa L i) 6) w O) (aH (aa L i).kids) (λj=>(vis (cI L) f (aH (cI L i) j)).length)
    ((aa L i).kind:Int) (ap (aa L i) 0) (ap (aa L i) 1) (ap (aa L i) 2) (ap (aa L i) 3) (ap (aa L i) 4) (ap (aa L i) 5) (ap (aa L i) 6) (ap (aa L i) 7) (ap (aa L i) 8) (ap (aa L i) 9) (ap (aa L i) 10) (ap (aa L i) 11) (aa L i).up ⟨(aa L i).text.toArray⟩ p c W
    E (by grind[cI]) dg dg dg (λj v d=>hS.hb _ v (di m hi d).2) (λj d=>by grind[di]) l.lt l (F.grown (ac X))
    (λu hu B=>sX C r g z wb n w L (aa L i).kids M O H _ _ _ _ _ _ _ _ _ _ _ _ _ _ _ p c u (A.view.grown (ac hu)) B (by grind[cI]) (λj d=>(di m hi d).2) dg ((F.grown (ac X)).grown (ac hu)) (λj d=>hS.wb j d) ⟨I,J⟩ dg dg)
    (λV P j u nn d hu B zi=>by
     have Z:=di m hi d;have D:=P.2.2 j d;have ze:cS (λj=>(vis (cI L) f (aH (cI L i) j)).length) (j+1)<=k:=by
      rw[<-Y];have K:∀a b,a<=b->cS (λj=>(vis (cI L) f (aH (cI L i) j)).length) a<=cS (λj=>(vis (cI L) f (aH (cI L i) j)).length) b:=by
       intro a b zc;induction b with
       |zero=>grind
       |succ b zk=>grind[cS]
      exact K _ _ d
     have zj:cS (λj=>(vis (cI L) f (aH (cI L i) j)).length) (j+1)=cS (λj=>(vis (cI L) f (aH (cI L i) j)).length) j+(vis (cI L) f (aH (cI L i) j)).length:=rfl;have hr:=ih (aH (aa L i).kids j) (V j) nn u Z.2 dg D.1 D.2 (A.grown hu B) (by grind[vis,cI,aH]);refine hr.mono ?_;rintro e u' ⟨rfl,q1,q2⟩;refine⟨rfl,q1,q2.mono ?_⟩;grind[vis,cI,aH]);refine this.mono ?_;rintro e N ⟨V,P,rfl,q1,q2⟩;refine⟨_,rfl,?_,q1,q2.mono (by rw[<-Y];exact ae _)⟩;by_cases h0:(aa L i).kind=0;·rw[hS.hr i w V hi h0 (P.1 dg)];rfl
   ·rw[hS.ho i w hi Q h0];unfold m7;rw[rD λj d=>?_];rw[P.2.1 dg j d];rfl
theorem qT{s}{L}{l}{j}{H}h r g a k(c:dp s L)(hS:Sz L j H)i w n U(hi:i<L.length)(d:0<=w)(f:w<=100000)(m:Hs U h r g a k L l j H n)(t:n<=100000000):
 Cw 89 #[Pq h,Iq (i:Int),Iq w] U λe b=>e=Rw (Iq (H i w))/\Hid (U.grownBy b (some r))/\Hid (bm b r H (n+100)):=by have h1:=MT (kids:=cI L) c.nest L.length i hi;have q:=c.vl.cnt;refine(Bh h r g a k c hS L.length i w n U hi dg d f m dg).mono ?_;rintro e b ⟨rfl,o,p⟩;exact⟨rfl,o,p.mono dg⟩
theorem tg(B:Nat)(i j k l n r s t v w x z up:Int)(tx:ByteArray)(p:Option Addr)(m c:Nat)(U:World)(d:bN U)(A:tx.size<=4000):
 Cw 48 #[Pq B,fB 5 i j k l n r s t v w x z tx (.slice p m c) up] U λe h=>e=Rw (Iq (td tx.data.toList))/\Hid (Bt U h):=by
 have b:Hid (∀u,Bt U u->Cw 86 #[.string tx] u λe f=>e=Rw (Iq (td tx.data.toList))/\Hid (Bt U f)):=λu hu=>by refine(CQ tx u (d.below hu) A).mono ?_;rintro e f ⟨rfl,q⟩;exact⟨rfl,hu.trans (q.mono hu.size)⟩
 have a:Hid (∀o,Bt U (U.alloc o)):=λo=>((Gr.refl U).alloc _).below;obtain⟨y,hy⟩:=ad (td tx.data.toList);rw[hy]at b⊢;clear hy d;unfold fB;go_enter func48,ntmps48;go_wp2_with(go_at_call 86;refine ag (b _ (a _)) ?_;rintro e u ⟨rfl,g⟩);go_ret;simp_all
theorem vS(mb r W N m:Nat)(V:Nat->Int)(w:Nat->Nat)(g B C D E l n o F H I J K up:Int)(tx:ByteArray)(nv:Value)(p:Option Addr)(c:Nat)(U:World)(zc:g≠5)(hm:m<=1000)(hN:N<=1000000)(h4:0<=l/\l<=1000000)(h5:0<=n/\n<=1000000)(h6:0<=o/\o<=1000000)(hh:Hid (∀j,j<m->0<=V (w j)/\V (w j)<=100000))(ze:Hid (∀j,j<m->w j<N))(P:Ms U mb nv (Sq W N N) r)(zo:W<U.heap.size)(hK:Hid (fL U r p m (λj=>(w j:Int))))(hW:Hid (∀j,j<m->U.cell? (aj W (w j))=some (Iq (V (w j))))):
 Cw 48 #[Pq mb,fB g B C D E l n o F H I J K tx (.slice p m c) up] U λe U'=>e=Rw (Iq (nf g l n o (λj=>V (w j)) m))/\Hid (Bt U U'):=by
 have e5:(g==5)=false:=by simpa using zc
 obtain⟨h,zb⟩:∃h:Nat->Int,(λj=>V (w j))=h:=⟨_,rfl⟩;have M:Hid (∀j,V (w j)=h j):=λj=>rd;have s:Hid (∀j,j<m->0<=h j/\h j<=100000):=λj hj=>by rw[<-M j];exact hh j hj
 rw[zb];obtain⟨f,z⟩:=ad (U.alloc (.cells #[Iq g,Iq B,Iq C,Iq D,Iq E,Iq l,Iq n,Iq o,Iq F,Iq H,Iq I,Iq J,Iq K,.string tx,.slice p m c,Iq up] 57));obtain⟨A,hA⟩:=ad U.heap.size;have i:Hid (Bt U f):=by rw[<-z];exact((Gr.refl U).alloc _).below
 have Z:f.heap[A]?=some (.cells #[Iq g,Iq B,Iq C,Iq D,Iq E,Iq l,Iq n,Iq o,Iq F,Iq H,Iq I,Iq J,Iq K,.string tx,.slice p m c,Iq up] 57 (0,0)):=by rw[<-z,<-hA];exact heap_alloc_new _ _
 have a:Hid (∀(t:Nat) x,(#[Iq g,Iq B,Iq C,Iq D,Iq E,Iq l,Iq n,Iq o,Iq F,Iq H,Iq I,Iq J,Iq K,.string tx,.slice p m c,Iq up]:Array Value)[t]?=some x->f.cell? (aj A t)=some x):=λt x ht=>by rw[Lib.cell_of_heap Z];exact ht
 have z0:f.cell? (aj A 0)=some (Iq g):=a 0 _ rfl;have z1:f.cell? (aj A 1)=some (Iq B):=a 1 _ rfl;have z2:f.cell? (aj A 2)=some (Iq C):=a 2 _ rfl;have z3:f.cell? (aj A 3)=some (Iq D):=a 3 _ rfl;have z4:f.cell? (aj A 4)=some (Iq E):=a 4 _ rfl;have z5:f.cell? (aj A 5)=some (Iq l):=a 5 _ rfl;have z6:f.cell? (aj A 6)=some (Iq n):=a 6 _ rfl;have z7:f.cell? (aj A 7)=some (Iq o):=a 7 _ rfl;have z8:f.cell? (aj A 8)=some (Iq F):=a 8 _ rfl;have z9:f.cell? (aj A 9)=some (Iq H):=a 9 _ rfl;have zv:f.cell? (aj A 10)=some (Iq I):=a 10 _ rfl;have zw:f.cell? (aj A 11)=some (Iq J):=a 11 _ rfl;have zx:f.cell? (aj A 12)=some (Iq K):=a 12 _ rfl;have zy:f.cell? (aj A 13)=some (.string tx):=a 13 _ rfl;have zz:f.cell? (aj A 14)=some (.slice p m c):=a 14 _ rfl;have zA:f.cell? (aj A 15)=some (Iq up):=a 15 _ rfl;have m1:f.cell? (aj mb 1)=some (Sq W N N):=by have zn:=(aD.1 P).1;have hb:=(i.block mb zn).trans P;rw[Lib.cell_of_heap hb];rfl
 have X:=qH<|hK.grown (ac i);have Y:Hid (∀j,j<m->f.cell? (aj W (w j))=some (Iq (h j))):=λj hj=>by rw[<-M j];exact(i.cell (p:=(aj W _)) zo).trans (hW j hj)
 clear Z zb P hK hW hh M;unfold fB;go_enter func48,ntmps48;go_wp2_with fail;generalize zh:Value.agg #[Iq g,Iq B,Iq C,Iq D,Iq E,Iq l,Iq n,Iq o,Iq F,Iq H,Iq I,Iq J,Iq K,.string tx,.slice p m c,Iq up]=zu;go_loopw[5,6,18] (λsv gv kv wr=>∃k:Nat,k<=m/\kv=Iq (k:Int)/\sv=Iq (hS h k)/\gv=Iq (hG h k)/\wr=f) (λ_ _ kv _=>m-(intOf kv).toNat);case atStart=>exact⟨0,aR _,rfl,rfl,rfl,rfl⟩
 case round=>
  obtain⟨k,hk,rfl,rfl,rfl,zq⟩:=hrel;subst zq;by_cases v:k<m
  ·have zg:(k:Int)<(m:Int):=dg
   have R:=xq s k hk;have Q:=xp s k hk;have zk:=s k v;have zt:=ze k v;have zr:(w k:Int)<(N:Int):=dg;obtain⟨kb,ko,rfl,_,_,za⟩:=X.resolve_left dg;have ck:=za k v;have cv:=Y k v;obtain⟨S,b⟩:=ad (hS h k);obtain⟨G,y⟩:=ad (hG h k);obtain⟨x,hx⟩:=ad (h k);have zj:Hid (hS h (k+1)=S+x):=by show _=_;rw[<-b,<-hx];rfl
   have zi:Hid (hG h (k+1)=max G x):=by show _=_;rw[<-y,<-hx];rfl
   rw[b]at R;rw[y]at Q;rw[hx]at zk cv;rw[b,y];clear b y hx za z hA zh h4 h5 h6 zc i;go_wp2;all_goals
    go_roundw;case rel=>exact⟨k+1,v,by go_num,by rw[zj.out],by rw[zi.out],rd⟩
    grind[intOf]
  ·have zg:¬(k:Int)<(m:Int):=dg
   obtain rfl:k=m:=dg;have R:=xq s k hk;have Q:=xp s k hk;have GA:=qH<|λu=>xf g B C D E l n o F H I J K up tx p k c h4 dg u;have FA:=qH<|λu=>kU g B C D E l n o F H I J K up tx p k c h5 h6 u;have zm:0<=fE l k/\fE l k<=1000000000000:=by
    unfold fE;have T:0<=max 0 ((k:Int)-1)/\max 0 ((k:Int)-1)<=1000000:=dg;exact⟨gx h4.1 T.1,kP h4.2 T.2 T.1 dg⟩
   have zl:=Bc (kd:=g) h5 h6;unfold fB at GA FA;rw[zh]at GA FA;clear z hA s ze Y X m1;by_cases h0:g=0
   ·subst h0;have d:nf 0 l n o h k=hS h k+fE l k:=by unfold nf;rw[if_pos rfl]
    obtain⟨S,b⟩:=ad (hS h k);obtain⟨gg,q⟩:=ad (fE l k);rw[b,q]at d;have O:=qH<|d;rw[b]at R⊢;rw[q]at zm GA;clear b q d;go_wp2_with(go_at_call 87;refine(GA _).mono ?_;rintro e wz ⟨rfl,L⟩);go_ret;exact⟨by rw[O.out];rfl,i.trans (L.mono i.size)⟩
   ·have d:nf g l n o h k=hG h k+2*gS g n o:=by unfold nf;rw[if_neg h0]
    have e1:(g==0)=false:=by simpa using h0
    obtain⟨S,b⟩:=ad (hG h k);obtain⟨gg,q⟩:=ad (gS g n o);rw[b,q]at d;have O:=qH<|d;rw[b]at Q⊢;rw[q]at zl FA;clear b q d;go_wp2_with(go_at_call 88;refine(FA _).mono ?_;rintro e wz ⟨rfl,L⟩);go_ret;exact⟨by rw[O.out];rfl,i.trans (L.mono i.size)⟩
structure KX(U:World)(r g:Nat)(L:List Nd)(KV:Nat->Value):Prop where
 gl:g<U.heap.size
 gr:g≠r
 len:∀j,j<L.length->(aa L j).attr.length=12
 nd:∀j,j<L.length->∀(t:Nat) x,(bC (aa L j) (KV j))[t]?=some x->U.cell? (aj g (j*16+t))=some x
 kid:∀j,j<L.length->∃p c,KV j=.slice p (aa L j).kids.length c/\fL U r p (aa L j).kids.length (λt=>(aH (aa L j).kids t:Int))
theorem KX.grown{U f}{r g}{L}{d}(h:KX U r g L d)(a:U.grownBy f (some r)):KX f r g L d:=by refine⟨zz007 h.gl a.size,h.gr,h.len,λj b t x k=>(bf (a.block g h.gl (λq=>h.gr rd))).trans (h.nd j b t x k),λj b=>?_⟩;obtain⟨p,c,e,i⟩:=h.kid j b;exact⟨p,c,e,i.grown a⟩
theorem PN.ndv{W}{B g c r}{L}{f}(h:PN W B (Sq g L.length c) L f)(q:W.heap.size<=r):KX W r g L f:=by
 obtain⟨s,p⟩:=h.nr.row;have d:g<W.heap.size:=by
  rcases cU p with⟨e,_⟩|⟨k,a,e,_,m,_⟩;·cases e
  ·grind
 refine⟨d,dg,h.len,λj b t x o=>h.nr.cells g rfl j b t x o,λj b=>?_⟩;rcases cU (h.nr.kids j b)with⟨e,n⟩|⟨k,a,e,_,m,_⟩;·refine⟨none,0,rd,.inl n⟩
 ·refine⟨_,_,e,.inr ⟨k,0,rfl,m,dg,λi hi=>?_⟩⟩;have l:=h.nr.kids j b;rw[e]at l;rw[aZ,l.cellAt i dg];grind[iX,aH]
def Pm(Wd:Nat->Int)(k j:Nat):Value:=Iq (if j<k then 0 else Wd j)
structure Nm(U W:World)(mb r g cap wb:Nat)(L:List Nd)(KV:Nat->Value)(Wd:Nat->Int)(H:Nat->Int->Int)(k:Nat):Prop where
 bel:Bt U W
 nds:KX W r g L KV
 ms:Ms W mb (Sq g L.length cap) (Sq wb L.length L.length) r
 row:W.rowIs wb 3 L.length (Pm Wd k)
 mm:bm W r H 0
 hwb:U.heap.size<=wb
 ne:wb≠r/\wb≠mb/\wb≠g/\mb≠r
 tab:bN W
theorem Nm.below{U W W'}{c r g b f}{L}{d}{e}{H}{k}(h:Nm U W c r g b f L d e H k)(a:Bt W W'):Nm U W' c r g b f L d e H k:=
 ⟨h.bel.trans (a.mono h.bel.size),h.nds.grown (ac a),(a.block c (aD.1 h.ms).1).trans h.ms,rowIs_below h.row a,h.mm.grown_below a,h.hwb,h.ne,h.tab.below a⟩
theorem Nm.set{U W}{w r g k d i}{L}{n}{m}{H}(h:Nm U W w r g k d L n m H (i+1))(v:∀j p c,j<L.length->n j=.slice p (aa L j).kids.length c->∀b o,p=some (aj b o)->b≠d)(C:10≠d):Nm U (W.setCell (aj d i) (Iq (m i))) w r g k d L n m H i:=by
 have l:∀b,b≠d->(W.setCell (aj d i) (Iq (m i))).heap[b]?=W.heap[b]?:=λb s=>bK W (aj d i) _ b s;have z:=λb o s=>bf (a:=(aj b o)) (l b s);obtain⟨G,I,J,K⟩:=h.ne;refine⟨h.bel.setCell (p:=(aj d i)) h.hwb _,⟨by simpa using h.nds.gl,h.nds.gr,h.nds.len,λj f t x B=>(z g _ (λe=>J e.symm)).trans (h.nds.nd j f t x B),λj f=>?_⟩,(l w (λe=>I e.symm)).trans h.ms,(h.row.set i _).congr λj f=>?_,h.mm.set G _,h.hwb,h.ne,λj f=>?_⟩
 ·obtain⟨p,c,e,u⟩:=h.nds.kid j f;refine⟨p,c,e,?_⟩;rcases u with u|⟨b,o,y,D,E,F⟩;·exact .inl u
  ·exact .inr ⟨b,o,y,by simpa using D,E,λq A=>(z b _ (v j p c f e b o y)).trans (F q A)⟩
 ·grind[Pm]
 ·obtain⟨t1,t2,t3⟩:=h.tab j f;grind
theorem vq(w:World)n a:(w.alloc (.cells (madeCells #[Iq 0] n) 3)).rowIs w.heap.size 3 n (Pm a n):=
 (World.rowIs_made w (Iq 0) n _).congr λj b=>by grind[Pm]
theorem rh{s:ByteArray}{L:List Nd}{F:Nat->Value}{D:Nat->Int}{H:Nat->Int->Int}(g v:Nat)(I:dp s L)(hS:Sz L D H)(U:World)(B:Nat)(hP:PN U B (Sq g L.length v) L F)(ht:bN U):
 Cw 20 #[Sq g L.length v] U λe U'=>∃mb r a,e=Rw (Pq mb)/\Bt U U'/\Hs U' mb r g v a L F D H 0/\U.heap.size<=r:=by
 obtain⟨N,T⟩:=ad L.length;have hc:=I.vl.cnt;have zb:=I.pos;rw[T]at hc zb;obtain⟨a,hwb⟩:=ad U.heap.size;have zn:=run_make_row' (P:=prog) 55 3 (Iq 0) 8 underlying55 gn rfl .i64 .i64 N dg dg;obtain⟨W1,A⟩:=ad (((U.alloc (.cells (madeCells #[Iq 0] N) 3)).alloc (.map #[] 0)).alloc (.cells #[Sq g N v,Sq a N N,.map (some (a+1))] 121));have J:Bt U W1:=by rw[<-A];exact(((Gr.refl U).alloc _).alloc _).alloc _|>.below
 have C:KX U (a+1) g L F:=hP.ndv dg;have K:=C.gl;have zo:10<U.heap.size:=by
  obtain⟨h1,_⟩:=ht 0 (by decide);by_cases q:10<U.heap.size;·exact q
  ·simp[World.cell?,Kz (KA q)]at h1
 have ze:Hid (∀j p c,j<L.length->F j=.slice p (aa L j).kids.length c->∀b o,p=some (aj b o)->b≠a):=λj p c M e b o e2=>by rcases cU (hP.nr.kids j M)with⟨e3,h0⟩|⟨g',zu,e3,_,hl,_⟩;all_goals grind
 have zh:Hid (Nm U W1 (a+1+1) (a+1) g v a L F D H N):=by
  refine⟨J,C.grown (ac J),?_,?_,?_,dg,⟨dg,dg,dg,dg⟩,ht.below J⟩;·rw[T,<-A];have:=heap_alloc_new ((U.alloc (.cells (madeCells #[Iq 0] N) 3)).alloc (.map #[] 0)) (.cells #[Sq g N v,Sq a N N,.map (some (a+1))] 121);rw[au,au,hwb]at this;exact this
  ·rw[T,<-A,<-hwb];exact((vq U N D).alloc _).alloc _
  ·rw[<-A];have:=bm.new (U.alloc (.cells (madeCells #[Iq 0] N) 3)) H;rw[au,hwb]at this;exact this.alloc _
 have LN:=qH<|length_any;have zv:prog.follows .mixedOrders=true:=ns
 have zi:Hid (10≠a):=λe=>dg;have zj:=qH<|hwb;have Y:∀w:World,(Instr.makeMap 119 none).run prog w=.ok (.map (some w.heap.size)) (w.alloc (.map #[] 0)):=λ_=>rfl;rw[T];clear J C K zo hP ht;go_enter func20,ntmps20;go_wp2_with fail;clear A zn hwb Y;go_loopw[4] (λiv wr=>∃k:Nat,k<=N/\iv=Iq ((k:Int)-1)/\Hid (Nm U wr (a+1+1) (a+1) g v a L F D H k)) (λiv _=>(intOf iv+1).toNat);case atStart=>grind
 case round=>
  obtain⟨k,hk,rfl,HR⟩:=hrel;cases k with
  |zero=>
   have HV:Hid (Hs wr (a+1+1) (a+1) g v a L F D H 0):=by have h:=HR.out;obtain⟨n1,n2,n3,n4⟩:=h.ne;exact⟨⟨h.ms,h.nds.gl,h.row.lt,n4,h.nds.gr,n1,h.nds.len,h.nds.nd,h.nds.kid,λj M=>h.row.cell M⟩,h.mm,h.tab⟩
   go_wp2;go_ret;exact⟨_,_,a,rfl,HR.bel,HV,by rw[zj.out];omega⟩
  |succ i=>
   have ei:((i+1:Nat):Int)-1=(i:Int):=dg;rw[ei];have l:i<L.length:=dg;have zz:(i:Int)<(N:Int):=dg;have E:=HR.out;obtain⟨p,c,X,V⟩:=E.nds.kid i l;have y:=lh (E.nds.len i l) (F i);have d:=E.nds.nd i l;rw[y,X]at d;have O:=E.ms;rw[T]at O;have zk:=(I.vl.nv i l).bd;have zm:=I.kids_le l;have n:Hid (∀u,Bt wr u->Cw 48 #[Pq (a+1+1),fB (aa L i).kind (ap (aa L i) 0) (ap (aa L i) 1) (ap (aa L i) 2) (ap (aa L i) 3) (ap (aa L i) 4) (ap (aa L i) 5) (ap (aa L i) 6) (ap (aa L i) 7) (ap (aa L i) 8) (ap (aa L i) 9) (ap (aa L i) 10) (ap (aa L i) 11) ⟨(aa L i).text.toArray⟩ (.slice p (aa L i).kids.length c) (aa L i).up] u λe u'=>∃x,e=Rw (Iq x)/\aO x=D i/\Hid (Bt wr u')):=λu hu=>by
    have G:=E.below hu;rw[hS.w i l];unfold m8;by_cases h5:(aa L i).kind=5
    ·rw[if_pos h5];have zq:(⟨(aa L i).text.toArray⟩:ByteArray).size<=4000:=by have h1:=I.vl.tl i l;have h2:=I.sz;show(aa L i).text.toArray.size<=4000;rw[jh];omega
     have:=tg (a+1+1) (ap (aa L i) 0) (ap (aa L i) 1) (ap (aa L i) 2) (ap (aa L i) 3) (ap (aa L i) 4) (ap (aa L i) 5) (ap (aa L i) 6) (ap (aa L i) 7) (ap (aa L i) 8) (ap (aa L i) 9) (ap (aa L i) 10) (ap (aa L i) 11) (aa L i).up ⟨(aa L i).text.toArray⟩ p (aa L i).kids.length c u G.tab zq;rw[h5];refine this.mono ?_;rintro e u' ⟨rfl,q⟩;exact⟨_,rfl,rfl,hu.trans (q.mono hu.size)⟩
    ·rw[if_neg h5];refine(vS (a+1+1) (a+1) a L.length (aa L i).kids.length D (aH (aa L i).kids) (aa L i).kind (ap (aa L i) 0) (ap (aa L i) 1) (ap (aa L i) 2) (ap (aa L i) 3) (ap (aa L i) 4) (ap (aa L i) 5) (ap (aa L i) 6) (ap (aa L i) 7) (ap (aa L i) 8) (ap (aa L i) 9) (ap (aa L i) 10) (ap (aa L i) 11) (aa L i).up ⟨(aa L i).text.toArray⟩ _ p c u dg dg dg dg dg dg (λj M=>hS.wb _ (di I l M).2) (λj M=>(di I l M).2) G.ms G.row.lt (V.grown (ac hu)) (λj M=>?_)).mono ?_;·have zl:=di I l M;rw[G.row.cell zl.2];grind[Pm]
     ·rintro e u' ⟨rfl,q⟩;exact⟨_,rfl,rfl,hu.trans (q.mono hu.size)⟩
   have HNX:Hid (∀u,Bt wr u->Nm U (u.setCell (aj a i) (Iq (D i))) (a+1+1) (a+1) g v a L F D H i):=λu hu=>(E.below hu).set ze zi;have S:Hid (∀u,Bt wr u->u.cell? (aj a i)=some (Iq 0)/\u.frozen? (aj a i)=false/\a<u.heap.size):=λu hu=>by have hr:=(E.below hu).row;refine⟨?_,hr.frozen i,hr.lt⟩;rw[hr.cell l];grind[Pm]
   have Q:=(aD.1 O).1;have K:=E.nds.gl;have za:¬a=g:=E.ne.2.2.1;have zw:¬g=a:=λe=>za e.symm;have zx:¬a=a+1+1:=dg;have zy:¬a+1+1=a:=dg;generalize(aa L i).text.toArray=zt at d n;generalize((aa L i).kind:Int)=kd at d n;generalize ap (aa L i) 0=a0 at d n;generalize ap (aa L i) 1=a1 at d n;generalize ap (aa L i) 2=a2 at d n;generalize ap (aa L i) 3=a3 at d n;generalize ap (aa L i) 4=a4 at d n;generalize ap (aa L i) 5=a5 at d n;generalize ap (aa L i) 6=a6 at d n;generalize ap (aa L i) 7=a7 at d n;generalize ap (aa L i) 8=a8 at d n;generalize ap (aa L i) 9=a9 at d n;generalize ap (aa L i) 10=b0 at d n;generalize ap (aa L i) 11=b1 at d n;generalize(aa L i).up=up at d n;generalize(aa L i).kids.length=m at d n;obtain⟨tx,zc⟩:∃z:ByteArray,⟨zt⟩=z:=⟨_,rfl⟩;rw[zc]at d n;have HS:Hid (∀u,Bt wr u->u.cell? (aj (a+1+1) 1)=some (Sq a N N)/\u.cell? (aj g (i*16))=some (Iq kd)/\u.cell? (aj g (i*16+1))=some (Iq a0)/\u.cell? (aj g (i*16+2))=some (Iq a1)/\u.cell? (aj g (i*16+3))=some (Iq a2)/\u.cell? (aj g (i*16+4))=some (Iq a3)/\u.cell? (aj g (i*16+5))=some (Iq a4)/\u.cell? (aj g (i*16+6))=some (Iq a5)/\u.cell? (aj g (i*16+7))=some (Iq a6)/\u.cell? (aj g (i*16+8))=some (Iq a7)/\u.cell? (aj g (i*16+9))=some (Iq a8)/\u.cell? (aj g (i*16+10))=some (Iq a9)/\u.cell? (aj g (i*16+11))=some (Iq b0)/\u.cell? (aj g (i*16+12))=some (Iq b1)/\u.cell? (aj g (i*16+13))=some (.string tx)/\u.cell? (aj g (i*16+14))=some (.slice p m c)/\u.cell? (aj g (i*16+15))=some (Iq up)):=λu hu=>by
    have f:=λt x hx=>(hu.cell (p:=(aj g _)) K).trans (d t x hx);have Z:u.cell? (aj (a+1+1) 1)=some (Sq a N N):=by rw[Lib.cell_of_heap ((hu.block _ Q).trans O)];rfl
    exact⟨Z,f 0 _ rfl,f 1 _ rfl,f 2 _ rfl,f 3 _ rfl,f 4 _ rfl,f 5 _ rfl,f 6 _ rfl,f 7 _ rfl,f 8 _ rfl,f 9 _ rfl,f 10 _ rfl,f 11 _ rfl,f 12 _ rfl,f 13 _ rfl,f 14 _ rfl,f 15 _ rfl⟩
   obtain⟨q0,q1,q2,q3,q4,q5,q6,q7,q8,q9,zA,zB,zC,zD,zE,zF,zG⟩:=HS wr (af _ _);obtain⟨zO,zP,zQ⟩:=S wr (af _ _);unfold fB at n;clear E y d O zk zm X V zc Q K HR zh ei;go_wp2_with fail;go_region_held(λW=>W.cell? (aj (a+1+1) 1)=some (Sq a N N)/\W.cell? (aj g (i*16))=some (Iq kd)/\W.cell? (aj g (i*16+1))=some (Iq a0)/\W.cell? (aj g (i*16+2))=some (Iq a1)/\W.cell? (aj g (i*16+3))=some (Iq a2)/\W.cell? (aj g (i*16+4))=some (Iq a3)/\W.cell? (aj g (i*16+5))=some (Iq a4)/\W.cell? (aj g (i*16+6))=some (Iq a5)/\W.cell? (aj g (i*16+7))=some (Iq a6)/\W.cell? (aj g (i*16+8))=some (Iq a7)/\W.cell? (aj g (i*16+9))=some (Iq a8)/\W.cell? (aj g (i*16+10))=some (Iq a9)/\W.cell? (aj g (i*16+11))=some (Iq b0)/\W.cell? (aj g (i*16+12))=some (Iq b1)/\W.cell? (aj g (i*16+13))=some (.string tx)/\W.cell? (aj g (i*16+14))=some (.slice p m c)/\W.cell? (aj g (i*16+15))=some (Iq up)) (go_keep) (first|(go_at_call 48;refine ag (n _ (by first|exact af _ _|exact(af _ _).drew)) ?_;rintro e u1 ⟨x,rfl,hx,R⟩;obtain⟨s0,s1,s2,s3,s4,s5,s6,s7,s8,s9,zH,zI,zJ,zK,zL,zM,zN⟩:=HS u1 R;obtain⟨zR,zS,zT⟩:=S u1 R)|(go_at_call 47;refine ag (LN _ _) ?_;rintro e u2 ⟨rfl,zr⟩;obtain rfl:=zr.symm));all_goals
    have zg:=qH<|HNX _ R;go_wp2;go_roundw;case rel=>exact⟨i,dg,by go_num,zg⟩
    case measure=>simp[intOf]<;>omega
def NO(L:List Nd):Nat->Nat->Int×Int×Int
 |0,_=>(0,0,0)
 |f+1,i=>(ov (if 0<=(aa L i).up then(NO L f (aa L i).up.toNat).1 else 0) (ap (aa L i) 9),ov (if 0<=(aa L i).up then(NO L f (aa L i).up.toNat).2.1 else 0) (ap (aa L i) 10),sL (if 0<=(aa L i).up then(NO L f (aa L i).up.toNat).2.2 else 0) (ap (aa L i) 11))
theorem rW{L}(h:∀i,i<L.length->(aa L i).up<i):∀  f g i,i<L.length->i<f->i<g->NO L f i=NO L g i
 |0,_,_,_,h,_=>dg
 |_+1,0,_,_,_,h=>dg
 |f+1,g+1,i,hi,b,c=>by
  have hu:=h i hi;unfold NO;by_cases a:0<=(aa L i).up;·rw[if_pos a,if_pos a,if_pos a,if_pos a,if_pos a,if_pos a,rW h f g (aa L i).up.toNat dg dg dg]
  grind
def eZ(L:List Nd)(i:Nat):Int×Int×Int:=NO L (i+1) i
theorem JR{L}(h:∀i,i<L.length->(aa L i).up<i){i}(hi:i<L.length)u0 u1 u2(hu:(0<=(aa L i).up/\(u0,u1,u2)=eZ L (aa L i).up.toNat)\/((aa L i).up<0/\u0=0/\u1=0/\u2=0)):
 ov u0 (ap (aa L i) 9)=(eZ L i).1/\ov u1 (ap (aa L i) 10)=(eZ L i).2.1/\sL u2 (ap (aa L i) 11)=(eZ L i).2.2:=by grind[eZ,NO,aa,rW]
theorem LG:(prog.info? 50).map (λi=>(i.zero,i.size,i.bytes))=some (some (.agg #[Iq 0,Iq 0,Iq 0]),3,24):=ns
theorem vL{L:List Nd}{KV:Nat->Value}(hup:∀i:Nat,i<L.length->(aa L i).up<i)(zx:L.length<=100)(U:World)(r g zk:Nat)(hV:KX U r g L KV):
 Calls prog 12 #[Sq g L.length zk] U λe U'=>∃f,e=.returned (Sq f L.length L.length)/\dS U' f 0 L.length (λj=>(eZ L j).1) (λj=>(eZ L j).2.1) (λj=>(eZ L j).2.2)/\U.heap.size<=f/\Below U.heap.size U U':=by
 obtain⟨i0,hi,zh,zi,zo⟩:=info_parts LG;obtain⟨m,hm⟩:=ad L.length;have zn:(Instr.makeSlice 47 (Iq (m:Int)) (Iq (m:Int))).run prog U=.ok (Sq U.heap.size m m) (U.alloc (.cells (madeCells #[Iq 0,Iq 0,Iq 0] (m*3)) 50)):=by have:=run_make (P:=prog) U 47 50 i0 _ underlying47 hi zh .i64 .i64 m m dg (iD _) rd dg;rw[zi,jG]at this;exact this
 obtain⟨f,x⟩:=ad U.heap.size;obtain⟨a,ha⟩:=ad (λj=>(eZ L j).1);obtain⟨b,hb⟩:=ad (λj=>(eZ L j).2.1);obtain⟨d,hd⟩:=ad (λj=>(eZ L j).2.2);have HA:Hid (∀j,a j=(eZ L j).1/\b j=(eZ L j).2.1/\d j=(eZ L j).2.2):=λj=>rd;rw[ha,hb,hd];obtain⟨W0,J⟩:=ad (U.alloc (.cells (madeCells #[Iq 0,Iq 0,Iq 0] (m*3)) 50));have zu:Hid (W0.rowIs f 50 (m*3) (un a b d 0)):=by rw[<-J,<-x];exact D3 U m a b d _
 have zt:Hid (Below f U W0):=by rw[<-J,<-x];exact((Gr.refl U).alloc _).below
 have q:=qH hV;have HM:=qH hm;have F:=qH x;rw[hm];clear hV ha hb hd hi zh zi zo;go_enter func12,ntmps12;go_wp2_with fail;clear J x zn;go_loopw[12] (λkv wr=>∃k:Nat,k<=m/\kv=Iq (k:Int)/\Hid (Below f U wr)/\Hid (wr.rowIs f 50 (m*3) (un a b d k))) (λkv _=>m-(intOf kv).toNat);case atStart=>grind
 case round=>
  obtain⟨k,hk,rfl,HB,HR⟩:=hrel;by_cases zm:k<m
  ·have zb:(k:Int)<(m:Int):=dg
   have s:k<L.length:=by have:=HM.out;omega
   have c:=qH<|λt v hv=>(bf (a:=(aj g (k*16+t))) (HB.block g (by rw[<-F.out];exact q.gl))).trans (q.nd k s t v hv);rw[lh (q.len k s)]at c;obtain⟨pk,ck,za,_⟩:=q.kid k s;have Z:=qH<|hup k s;have h:Hid (∀u0 u1 u2,(0<=(aa L k).up/\(u0,u1,u2)=eZ L (aa L k).up.toNat)\/((aa L k).up<0/\u0=0/\u1=0/\u2=0)->ov u0 (ap (aa L k) 9)=a k/\ov u1 (ap (aa L k) 10)=b k/\sL u2 (ap (aa L k) 11)=d k):=λu0 u1 u2 hu=>by obtain⟨S,T,V⟩:=HA k;grind[JR]
   rw[za]at c;generalize(aa L k).text.toArray=zq at c;generalize((aa L k).kind:Int)=kd at c;generalize ap (aa L k) 0=a0 at c;generalize ap (aa L k) 1=a1 at c;generalize ap (aa L k) 2=a2 at c;generalize ap (aa L k) 3=a3 at c;generalize ap (aa L k) 4=a4 at c;generalize ap (aa L k) 5=a5 at c;generalize ap (aa L k) 6=a6 at c;generalize ap (aa L k) 7=a7 at c;generalize ap (aa L k) 8=a8 at c;generalize ap (aa L k) 9=G at c h;generalize ap (aa L k) 10=H at c h;generalize ap (aa L k) 11=I at c h;generalize(aa L k).up=up at c h Z;generalize(aa L k).kids.length=kl at c;obtain⟨tx,zg⟩:∃z:ByteArray,⟨zq⟩=z:=⟨_,rfl⟩;rw[zg]at c;have q0:wr.cell? (aj g (k*16))=some (Iq kd):=c 0 _ rfl;have q1:=c 1 _ rfl;have q2:=c 2 _ rfl;have q3:=c 3 _ rfl;have q4:=c 4 _ rfl;have q5:=c 5 _ rfl;have q6:=c 6 _ rfl;have q7:=c 7 _ rfl;have q8:=c 8 _ rfl;have q9:=c 9 _ rfl;have zB:=c 10 _ rfl;have zC:=c 11 _ rfl;have zD:=c 12 _ rfl;have zE:=c 13 _ rfl;have zF:=c 14 _ rfl;have zG:=c 15 _ rfl;obtain⟨A,hA⟩:=ad wr.heap.size;obtain⟨o,K⟩:=ad ((wr.alloc (.cells #[Iq kd,Iq a0,Iq a1,Iq a2,Iq a3,Iq a4,Iq a5,Iq a6,Iq a7,Iq a8,Iq G,Iq H,Iq I,.string tx,.slice pk kl ck,Iq up] 57)).alloc (.cells #[Iq 0,Iq 0,Iq 0] 50));have X:Hid (Gr wr o):=by rw[<-K];exact((Gr.refl wr).alloc _).alloc _
   have N:o.heap[A]?=some (.cells #[Iq kd,Iq a0,Iq a1,Iq a2,Iq a3,Iq a4,Iq a5,Iq a6,Iq a7,Iq a8,Iq G,Iq H,Iq I,.string tx,.slice pk kl ck,Iq up] 57 (0,0)):=by rw[<-K,<-hA,cK _ _ _ (by simp_all)];exact heap_alloc_new _ _
   have n:R3 50 o (A+1) 0 0 0:=by rw[<-K,<-hA,<-World.size_alloc];exact R3.new _ _ _ _ _
   have ze:=rowIs_below HR X.below;have zA:f<A:=by rw[<-hA];exact HR.lt
   have E:=qH ze;have Y:Hid (∀u:World,u.heap[A]?=o.heap[A]?->u.cell? (aj A 10)=some (Iq G)/\u.cell? (aj A 11)=some (Iq H)/\u.cell? (aj A 12)=some (Iq I)/\u.cell? (aj A 15)=some (Iq up)):=λu hu=>by refine⟨?_,?_,?_,?_⟩<;>(rw[Lib.cell_of_heap (hu.trans N)];rfl)
   obtain⟨zL,zM,zN,zO⟩:=Y o rfl;have zr:=qH<|(aD.1 N).1;have zj:=qH n;have C:Hid (Below A wr o):=by rw[<-hA];exact X.below
   have zv:=qH<|HR;have HF:Hid (∀u B v1 v2,Below A wr u->B=a k->v1=b k->v2=d k->f<u.heap.size/\(∀j,u.frozen? (aj f j)=false)/\(∃v,u.cell? (aj f (k*3))=some v)/\(∃v,u.cell? (aj f (k*3+1))=some v)/\(∃v,u.cell? (aj f (k*3+2))=some v)/\Hid (Below f U (((u.setCell (aj f (k*3)) (Iq B)).setCell (aj f (k*3+1)) (Iq v1)).setCell (aj f (k*3+2)) (Iq v2)))/\Hid ((((u.setCell (aj f (k*3)) (Iq B)).setCell (aj f (k*3+1)) (Iq v1)).setCell (aj f (k*3+2)) (Iq v2)).rowIs f 50 (m*3) (un a b d (k+1)))):=λu B v1 v2 hu h0 h1 h2=>by have l:=World.rowIs.of_block HR (hu.block f dg);have zl:=HB.trans (hu.mono dg);exact⟨l.lt,λj=>l.frozen j,⟨_,l.cell dg⟩,⟨_,l.cell dg⟩,⟨_,l.cell dg⟩,((zl.setCell (p:=(aj f (k*3))) (ae _) _).setCell (p:=(aj f (k*3+1))) (ae _) _).setCell (p:=(aj f (k*3+2))) (ae _) _,DZ l B v1 v2 h0 h1 h2⟩
   have zw:A+1≠f:=dg;have c0:=n.c0;have c1:=n.c1;have c2:=n.c2;have fz:=n.fz;clear c N n ze za zg HR;by_cases h0:0<=up;focus
    obtain⟨j,rfl⟩:∃j:Nat,up=(j:Int):=⟨up.toNat,dg⟩;have zy:j<k:=by have:=Z.out;omega
    have zz:(j:Int)<(m:Int):=dg;obtain⟨⟨u0,u1,u2⟩,hu⟩:=ad (eZ L j);have g0:o.cell? (aj f (j*3))=some (Iq u0):=by rw[E.cell dg];unfold un;rw[if_pos dg,if_pos dg,show j*3/3=j by omega,(HA j).1,hu]
    have g1:o.cell? (aj f (j*3+1))=some (Iq u1):=by rw[E.cell dg];unfold un;rw[if_pos dg,if_neg dg,if_pos dg,show(j*3+1)/3=j by omega,(HA j).2.1,hu]
    have g2:o.cell? (aj f (j*3+2))=some (Iq u2):=by rw[E.cell dg];unfold un;rw[if_pos dg,if_neg dg,if_neg dg,show(j*3+2)/3=j by omega,(HA j).2.2,hu]
    obtain⟨S,T,V⟩:=h u0 u1 u2 (.inl ⟨h0,by rw[<-hu];rfl⟩);have y:Hid (∀u,Calls prog 29 #[sv u0 u1 u2,sv G H I] u λe u'=>e=.returned (sv (a k) (b k) (d k))/\Hid (Gr u u')):=λu=>by have:=ro u0 u1 u2 G H I u;rw[S,T,V]at this;exact this
    obtain⟨B,O⟩:=ad (a k);obtain⟨v1,Q⟩:=ad (b k);obtain⟨v2,R⟩:=ad (d k);rw[O,Q,R]at y HF;unfold sv at y;obtain⟨W2,M⟩:=ad (((o.setCell (aj (A+1) 0) (Iq u0)).setCell (aj (A+1) 1) (Iq u1)).setCell (aj (A+1) 2) (Iq u2));have w:R3 50 W2 (A+1) u0 u1 u2:=by rw[<-M];exact zj.set u0 u1 u2
    have W:Hid (Below A wr W2):=by rw[<-M];exact((C.setCell (p:=(aj (A+1) 0)) (by show A<=A+1;omega) _).setCell (p:=(aj (A+1) 1)) (by show A<=A+1;omega) _).setCell (p:=(aj (A+1) 2)) (by show A<=A+1;omega) _
    have zc:W2.heap[A]?=o.heap[A]?:=by rw[<-M,bK _ (aj (A+1) 2) _ A (by show A≠A+1;omega),bK _ (aj (A+1) 1) _ A (by show A≠A+1;omega),bK _ (aj (A+1) 0) _ A (by show A≠A+1;omega)]
    obtain⟨zH,zI,zJ,zK⟩:=Y W2 zc;have s0:=w.c0;have s1:=w.c1;have s2:=w.c2;clear hu S T V w zc;go_wp2_with fail;refine(y _).mono ?_;rintro e u ⟨rfl,D⟩;have HU:=qH<|W.trans (D.below.mono (by have:=W.size;omega))
   rotate_left;focus
    obtain⟨S,T,V⟩:=h 0 0 0 (.inr ⟨dg,rfl,rfl,rfl⟩);have y:Hid (∀u,Calls prog 29 #[sv 0 0 0,sv G H I] u λe u'=>e=.returned (sv (a k) (b k) (d k))/\Hid (Gr u u')):=λu=>by have:=ro 0 0 0 G H I u;rw[S,T,V]at this;exact this
    obtain⟨B,O⟩:=ad (a k);obtain⟨v1,Q⟩:=ad (b k);obtain⟨v2,R⟩:=ad (d k);rw[O,Q,R]at y HF;unfold sv at y;clear S T V;go_wp2_with fail;refine(y _).mono ?_;rintro e u ⟨rfl,D⟩;have HU:=qH<|C.trans (D.below.mono (by have:=C.size;omega))
   rotate_left;all_goals
    clear y;obtain⟨f1,f2,⟨x0,f3⟩,⟨x1,f4⟩,⟨x2,f5⟩,F1,F2⟩:=HF u B v1 v2 HU rfl rfl rfl;clear HF;go_wp2;go_roundw;case rel=>exact⟨k+1,zm,by go_num,F1,F2⟩
    case measure=>simp[intOf];omega
  ·have zb:¬(k:Int)<(m:Int):=dg
   obtain rfl:k=m:=dg;go_wp2;go_ret;exact⟨f,rfl,J9 HR,by rw[F.out];omega,by rw[F.out];exact HB⟩
def DM(a b c d:Nat->Int)(k:Nat)(i:Nat):Value:=Iq (if i/4<k then(if i %4=0 then a (i/4)else if i %4=1 then b (i/4)else if i %4=2 then c (i/4)else d (i/4))else 0)
theorem Mq(w:World)m a b c d T:(w.alloc (.cells (madeCells #[Iq 0,Iq 0,Iq 0,Iq 0] (m*4)) T)).rowIs w.heap.size T (m*4) (DM a b c d 0):=by
 have:=World.rowIs_alloc w (madeCells #[Iq 0,Iq 0,Iq 0,Iq 0] (m*4)) T (DM a b c d 0) (λi hi=>by
  rw[size_madeCells]at hi;unfold DM;rw[if_neg dg];simp only[madeCells];have:i %4=0\/i %4=1\/i %4=2\/i %4=3:=dg;rcases this with e|e|e|e<;>simp[e,hi]);rw[size_madeCells]at this;omega
theorem Mp{W:World}{b}{T}{m k}{a e c d}(h:W.rowIs b T (m*4) (DM a e c d k))x y z u(f:x=a k)(hy:y=e k)(g:z=c k)(hu:u=d k):
 ((((W.setCell (aj b (k*4)) (Iq x)).setCell (aj b (k*4+1)) (Iq y)).setCell (aj b (k*4+2)) (Iq z)).setCell (aj b (k*4+3)) (Iq u)).rowIs b T (m*4) (DM a e c d (k+1)):=by subst f hy g hu;refine((((h.set (k*4) (Iq (a k))).set (k*4+1) (Iq (e k))).set (k*4+2) (Iq (c k))).set (k*4+3) (Iq (d k))).congr λi hi=>?_;grind[DM]
def oG(W:World)(lb m:Nat)(a b c d:Nat->Int):Prop:=lb<W.heap.size/\∀j,j<m->W.cell? (aj lb (j*4))=some (Iq (a j))/\W.cell? (aj lb (j*4+1))=some (Iq (b j))/\W.cell? (aj lb (j*4+2))=some (Iq (c j))/\W.cell? (aj lb (j*4+3))=some (Iq (d j))
theorem OT{W}{e}{T}{m}{a b c d}(h:W.rowIs e T (m*4) (DM a b c d m)):oG W e m a b c d:=by
 refine⟨h.lt,λj f=>⟨?_,?_,?_,?_⟩⟩;·rw[h.cell dg];grind[DM]
 ·rw[h.cell dg];grind[DM]
 ·rw[h.cell dg];grind[DM]
 ·rw[h.cell dg];grind[DM]
def PE(U W:World)(lb m:Nat)(a b c d:Nat->Int):Prop:=oG W lb m a b c d/\U.heap.size<=lb/\Bt U W
theorem MG L d N a b:∃G:Nat->Int,∀g,bD L d N a b g->∀j,j<d.length->g j=G j:=by
 by_cases e:∃g,bD L d N a b g;·obtain⟨g,f⟩:=e;exact⟨g,λh c=>c.uniq f⟩
 simp_all
theorem BM{g h}{a}:∀k,(∀j,j<k->g j=h j)->cd g a k=cd h a k:=λk e=>by grind[cd,bg]
def jA(W:World)(B:Nat)(p:Option Addr)(m:Nat)(v:Nat->Int):Prop:=m=0\/∃b o,p=some (aj b o)/\b<W.heap.size/\B<=b/\∀j,j<m->W.cell? (aj b (o+j))=some (Iq (v j))
theorem jA.below{W W'}{B m}{p}{v}(h:jA W B p m v)(a:Bt W W'):jA W' B p m v:=by
 rcases h with h|⟨b,o,e,h1,c,d⟩;·exact .inl h
 ·exact .inr ⟨b,o,e,zz007 h1 a.size,c,λj f=>(a.cell (p:=(aj b _)) h1).trans (d j f)⟩
theorem jA.low{W}{B a m}{p}{v}(h:jA W B p m v)(f:a<=B):jA W a p m v:=by
 rcases h with h|⟨b,o,e,h1,d,c⟩;·exact .inl h
 ·exact .inr ⟨b,o,e,h1,dg,c⟩
theorem oC{f g}{n}(h:∀j,j<n->f j=g j):aq f (List.range n)=aq g (List.range n):=bg λj a=>h j (uA.1 a)
theorem bY.congr{n}{o p q}{r}{g f}(h:bY n o p q r g)(e:∀j,j<n->g j=f j):bY n o p q r f:=by
 rcases h with⟨h1,b⟩|⟨h1,A,S,L,V,m,hp⟩;·refine .inl ⟨h1,λj a=>by rw[<-e j a];exact b.bd j a,by rw[<-oC e];exact b.sum,λi k c l d=>?_⟩;rw[<-e k l];exact b.behind i k c l (by rw[e i dg];exact d)
 ·exact .inr ⟨h1,A,S,L,V,m,hp.perm,hp.left,hp.pos,hp.weight,hp.full,hp.open_,hp.miss,hp.none_,hp.sorted,λj a=>by rw[<-e j a];exact hp.is j a⟩
theorem bD.congr{L}{ks}{N}{a b}{g c}(h:bD L ks N a b g)(e:∀j,j<ks.length->g j=c j):bD L ks N a b c:=bY.congr h e
theorem MH{u}{m l}{L}{b}{N}{a c}{G}(k:b.length=m)(y:m<=200)(h:dS u l 0 m (λj=>sy (aa L (aH b j)) (N j)) (λj=>ap (aa L (aH b j)) 2) (λj=>ap (aa L (aH b j)) 3))(hG:∀g,bD L b N a c g->∀j,j<b.length->g j=G j):
 Cw 170 #[Iq a,Iq c,Sq l m m] u λe p=>∃q cq,e=Rw (.slice q m cq)/\jA p u.heap.size q m G/\Bt u p/\(b=[]\/bD L b N a c G):=by
 subst k;refine(lm _ b.length _ _ _ a c u ⟨_,_,rfl,.inr ⟨l,0,rfl,h⟩⟩ dg).mono ?_;rintro e p ⟨v,rfl,t⟩;have s:=t.below;rcases t with⟨f,rfl,hu⟩|⟨z,A,n,rfl,x,⟨r,w,o⟩,B⟩
 ·have i:b=[]:=by
   rcases f with f|f;·grind
   ·omega
  exact⟨none,0,by rw[i];rfl,.inl (by rw[i];rfl),s,.inl i⟩
 ·refine⟨_,_,rfl,.inr ⟨n,0,rfl,w.1,x,λj d=>?_⟩,s,.inr (bD.congr o λj d=>hG r o j d)⟩;rw[<-hG r o j d];exact(w.2 j d).1
theorem OK{u}{m l}{L}{c}{N}{a b}{G}(k:c.length=m)(y:m<=200)(h:dS u l 0 m (λj=>sy (aa L (aH c j)) (N j)) (λj=>ap (aa L (aH c j)) 2) (λj=>ap (aa L (aH c j)) 3))(hG:∀g,bD L c N a b g->∀j,j<c.length->g j=G j):
 Cw 171 #[Iq a,Iq b,Sq l m m] u λe o=>∃q cq,e=Rw (.slice q m cq)/\jA o u.heap.size q m (cd G (cl b))/\Bt u o:=by
 subst k;refine(yc _ c.length _ _ _ a b u ⟨_,_,rfl,.inr ⟨l,0,rfl,h⟩⟩ dg).mono ?_;rintro e o ⟨v,rfl,r,d⟩;have p:=r.below;rcases r with⟨f,rfl,hu⟩|⟨z,A,n,g,rfl,s,w,B⟩
 ·have x:c=[]:=by
   rcases f with f|f;·grind
   ·omega
  exact⟨none,0,rd,.inl dg,p⟩
 ·refine⟨_,_,rfl,.inr ⟨n,0,rfl,s.1,d _ _ _ _ rfl,λj t=>?_⟩,p⟩;rw[<-BM j (λi hi=>hG g w i dg)];exact(s.2 j t).1
def js(P:Nat->Nat->Int)(i:Nat):Value:=Iq (P (i/10) (i %10))
def ba(P:Nat->Nat->Int)(c t:Nat)(x:Int):Nat->Nat->Int:=λq u=>if q=c/\u=t then x else P q u
theorem dy{W:World}{b N}{T}{P}(h:W.rowIs b T N (js P))c t(a:t<10)x:(W.setCell (aj b (c*10+t)) (Iq x)).rowIs b T N (js (ba P c t x)):=by refine(h.set (c*10+t) (Iq x)).congr λi hi=>?_;grind[js,ba]
theorem aS{W:World}{b n}{T}{P}(h:W.rowIs b T (n*10) (js P)){c t}(a:c<n)(d:t<10):W.cell? (aj b (c*10+t))=some (Iq (P c t)):=by rw[h.cell dg];grind[js]
theorem jB.kept{W W'}{r n k}{H}{p}{c off}(h:jB W p k c off)(v:bm W r H n)(m:W.grownBy W' (some r)):jB W' p k c off:=by
 rcases h with h|⟨b,o,e,h1,f⟩;·exact .inl h
 ·by_cases u:k=0;·exact .inl u
  ·obtain⟨w,d,g⟩:=v.map;have i:b≠r:=λt=>by subst t;have:=(f 0 dg).1;simp[World.cell?,g]at this
   have l:=m.block b h1 (λq=>i rd);exact .inr ⟨b,o,e,zz007 h1 m.size,λj s=>⟨(bf (a:=(aj b (o+j*2))) l).trans (f j s).1,(bf (a:=(aj b (o+j*2+1))) l).trans (f j s).2⟩⟩
structure Pw(U0 W:World)(r pb N:Nat)(P:Nat->Nat->Int)(H:Nat->Int->Int)(n:Nat):Prop where
 g:U0.grownBy W (some r)
 m:bm W r H n
 row:W.rowIs pb 59 (N*10) (js P)
theorem Pw.below{b W W'}{r c N n}{P}{H}(h:Pw b W r c N P H n)(a:Bt W W'):Pw b W' r c N P H n:=
 ⟨h.g.trans (ac a),h.m.grown_below a,rowIs_below h.row a⟩
theorem Pw.grown{d W a}{r c N n f}{P}{H}(h:Pw d W r c N P H n)(e:W.grownBy a (some r))(i:bm a r H f)(b:c≠r):Pw d a r c N P H f:=
 ⟨h.g.trans e,i,o5 h.row e b⟩
theorem Pw.set{d W}{r b N n}{P}{H}(h:Pw d W r b N P H n)(f:d.heap.size<=b)(e:b≠r)c t(i:t<10)x:Pw d (W.setCell (aj b (c*10+t)) (Iq x)) r b N (ba P c t x) H n:=
 ⟨ek h.g (a:=(aj b _)) f _,h.m.set (a:=(aj b _)) e _,dy h.row c t i x⟩
theorem Pw.mono{a W}{r c N n b}{P}{H}(h:Pw a W r c N P H n)(d:n<=b):Pw a W r c N P H b:=⟨h.g,h.m.mono d,h.row⟩
def dA(hh w:Int):Int:=max 0 (hh-w)
theorem Cl(mb r d N k f n:Nat)(P:Nat->Nat->Int)(H:Nat->Int->Int)(i a1 a2 a3 a4 a5 a6 a7 a8 a9 b0 b1 up:Int)(tx:ByteArray)(p:Option Addr)(m c:Nat)(sp:Option Addr)(I sc:Nat)(B off:Nat->Int)(h U:World)(hP:Hid (Pw h U r d N P H n))(zh:h.heap.size<=d)(V:d≠r)(hk:k<N)(hN:N<=1000)(hm:0<m)(zg:Hid (∃b o,p=some (aj b o)/\b<h.heap.size/\b≠r/\h.cell? (aj b o)=some (Iq (f:Int))))(hH:0<=H f (P k 2)/\H f (P k 2)<=100000)(Y:0<=P k 3/\P k 3<=100000)(HC:Hid (∀u,Pw h u r d N P H n->Cw 89 #[Pq mb,Iq (f:Int),Iq (P k 2)] u λe s=>e=Rw (Iq (H f (P k 2)))/\Hid (u.grownBy s (some r))/\Hid (bm s r H (n+100))))(OF:Hid (∀u P' n',Pw h u r d N P' H n'->Cw 90 #[Iq i,.slice sp I sc] u λe s=>e=Rw (Iq (fi i B off I))/\Hid (Bt u s))):
 Cw 49 #[Pq mb,.pointer (some (aj d (k*10))),fB 4 i a1 a2 a3 a4 a5 a6 a7 a8 a9 b0 b1 tx (.slice p m c) up,.slice sp I sc] U λe U'=>e=Rw (.tuple #[])/\Pw h U' r d N (ba (ba P k 9 (dA (H f (P k 2)) (P k 3))) k 8 (min (max 0 (fi i B off I)) (dA (H f (P k 2)) (P k 3)))) H (n+100)/\Hid (∀b,b<U.heap.size->b≠r->b≠d->U'.heap[b]?=U.heap[b]?):=by
 obtain⟨j,C,rfl,zx,zy,zw⟩:=zg.out;obtain⟨l,M⟩:=ad (U.alloc (.cells #[Iq 4,Iq i,Iq a1,Iq a2,Iq a3,Iq a4,Iq a5,Iq a6,Iq a7,Iq a8,Iq a9,Iq b0,Iq b1,.string tx,.slice (some (aj j C)) m c,Iq up] 57));obtain⟨A,hA⟩:=ad U.heap.size;have K:Hid (Bt U l):=by rw[<-M];exact((Gr.refl U).alloc _).below
 have z:l.heap[A]?=some (.cells #[Iq 4,Iq i,Iq a1,Iq a2,Iq a3,Iq a4,Iq a5,Iq a6,Iq a7,Iq a8,Iq a9,Iq b0,Iq b1,.string tx,.slice (some (aj j C)) m c,Iq up] 57 (0,0)):=by rw[<-M,<-hA];exact heap_alloc_new _ _
 have E:Hid (Pw h l r d N P H n):=hP.below K;have za:Hid (U.heap.size=A):=hA;have zD:A≠r:=by have:=hP.m.lt;omega
 have zE:d<A:=by rw[<-hA];exact hP.row.lt
 obtain⟨w,hw⟩:=ad (P k 2);obtain⟨hh,S⟩:=ad (P k 3);obtain⟨y,hy⟩:=ad (H f w);rw[hw]at HC hH⊢;rw[S]at Y⊢;rw[hy]at HC hH⊢;have HS:Hid (∀u,Pw h u r d N P H n\/Pw h u r d N P H (n+100)->l.grownBy u (some r)->u.cell? (aj A 14)=some (.slice (some (aj j C)) m c)/\u.cell? (aj j C)=some (Iq (f:Int))/\u.cell? (aj d (k*10+2))=some (Iq w)/\u.cell? (aj d (k*10+3))=some (Iq hh)):=λu hu hg=>by
  have R:h.grownBy u (some r)/\u.rowIs d 59 (N*10) (js P):=by rcases hu with q|q<;>exact⟨q.g,q.row⟩
  have zu:=(aD.1 z).1;have hb:u.heap[A]?=l.heap[A]?:=hg.block A zu (λe=>rd);refine⟨by rw[Lib.cell_of_heap (hb.trans z)];rfl,(bf (a:=(aj j C)) (R.1.block j zx (λe=>zy rd))).trans zw,?_,?_⟩;·rw[<-hw];exact aS R.2 hk dg
  ·rw[<-S];exact aS R.2 hk dg
 have zj:Hid (∀u,l.grownBy u (some r)->u.heap[A]?=some (.cells #[Iq 4,Iq i,Iq a1,Iq a2,Iq a3,Iq a4,Iq a5,Iq a6,Iq a7,Iq a8,Iq a9,Iq b0,Iq b1,.string tx,.slice (some (aj j C)) m c,Iq up] 57 (0,0))):=λu hg=>(hg.block A (aD.1 z).1 (λe=>rd)).trans z;have zb:Hid (∀u,(u=l\/u=l.drew)->Cw 89 #[Pq mb,Iq (f:Int),Iq w] u λe s=>e=Rw (Iq y)/\Hid (l.grownBy s (some r))/\Hid (Pw h s r d N P H (n+100))):=λu hu=>by
  have zv:l.grownBy u (some r):=by
   rcases hu with rfl|rfl;·exact ac (af _ _)
   ·exact fS (ac (af _ _))
  have zi:Pw h u r d N P H n:=by
   rcases hu with rfl|rfl;·exact E
   ·exact E.below (af _ _).drew
  refine(HC u zi).mono ?_;rintro e s ⟨rfl,Z,q2⟩;exact⟨rfl,zv.trans Z,zi.grown Z q2 V⟩
 obtain⟨s1,s2,s3,s4⟩:=HS l (.inl E) (ac (af _ _));obtain⟨rm,X⟩:=ad (dA y hh);have zz:max 0 (y-hh)=rm:=X;rw[X];have n1:¬A=d:=dg;have n3:¬j=d:=dg;have n4:¬d=j:=dg;have G:Hid (∀u n' P',Pw h u r d N P' H n'->(∃v,u.cell? (aj d (k*10+9))=some v)/\u.frozen? (aj d (k*10+9))=false/\d<u.heap.size/\(∃v,u.cell? (aj d (k*10+8))=some v)/\u.frozen? (aj d (k*10+8))=false):=λu n' P' hu=>⟨⟨_,aS hu.row hk dg⟩,hu.row.frozen _,hu.row.lt,⟨_,aS hu.row hk dg⟩,hu.row.frozen _⟩;obtain⟨⟨v9,r9⟩,f9,l9,_⟩:=G l n P E;have ze:Hid (∀u,Pw h u r d N P H (n+100)->l.grownBy u (some r)->(u.setCell (aj d (k*10+9)) (Iq rm)).cell? (aj A 14)=some (.slice (some (aj j C)) m c)/\(u.setCell (aj d (k*10+9)) (Iq rm)).cell? (aj j C)=some (Iq (f:Int))/\(u.setCell (aj d (k*10+9)) (Iq rm)).cell? (aj d (k*10+2))=some (Iq w)/\(u.setCell (aj d (k*10+9)) (Iq rm)).cell? (aj d (k*10+3))=some (Iq hh)):=λu hu hg=>by
  obtain⟨Z,q2,q3,q4⟩:=HS u (.inr hu) hg;refine⟨?_,?_,?_,?_⟩;·rw[c_ _ _ _ _ (λe=>rd)];exact Z
  ·rw[c_ _ _ _ _ (λe=>rd)];exact q2
  ·rw[c_ _ _ _ _ (λe=>rd)];exact q3
  ·rw[c_ _ _ _ _ (λe=>rd)];exact q4
 clear z hP zg hy hw S X;unfold fB;go_enter func49,ntmps49;go_wp2_with fail;clear M hA;have zA:IntKind.i64.wrap (y-hh)=y-hh:=IntWalk.i64_in _ dg;go_cut[7]from 8 to 28 (λ_ wx=>Hid (Pw h wx r d N (ba P k 9 rm) H (n+100))/\Hid (∀b,b<U.heap.size->b≠r->b≠d->wx.heap[b]?=U.heap[b]?)/\Hid (wx.heap[A]?=some (.cells #[Iq 4,Iq i,Iq a1,Iq a2,Iq a3,Iq a4,Iq a5,Iq a6,Iq a7,Iq a8,Iq a9,Iq b0,Iq b1,.string tx,.slice (some (aj j C)) m c,Iq up] 57 (0,0))));case first=>
  go_region_held(λW=>W.cell? (aj A 14)=some (.slice (some (aj j C)) m c)/\W.cell? (aj j C)=some (Iq (f:Int))/\W.cell? (aj d (k*10+2))=some (Iq w)/\W.cell? (aj d (k*10+3))=some (Iq hh)) (go_keep) (first|(go_at_call 89;refine ag (zb _ rd) ?_;rintro e u1 ⟨rfl,D,F⟩;obtain⟨t1,t2,t3,t4⟩:=HS u1 (.inr F) D;obtain⟨⟨zK,zI⟩,zC,zG,_⟩:=G u1 _ _ F;obtain⟨o1,o2,o3,o4⟩:=ze u1 F D));all_goals go_wp2_with fail
  all_goals go_meet
  all_goals(refine⟨?_,?_,?_⟩)
  all_goals first
   |exact F.set zh V k 9 dg rm
   |exact λb h1 h2 Y=>(bK u1 (aj d (k*10+9)) _ b Y).trans ((D.block b (zz007 h1 K.size) (λe=>h2 rd)).trans (K.block b h1))
   |exact(bK u1 (aj d (k*10+9)) _ A n1).trans (zj u1 D)
 case rest=>
  obtain⟨t,zl,J⟩:=hcut;have zt:wc.cell? (aj A 1)=some (Iq i):=by rw[Lib.cell_of_heap J.out];rfl
  have c9:wc.cell? (aj d (k*10+9))=some (Iq rm):=by rw[aS t.row hk dg];unfold ba;rw[if_pos ⟨rfl,rfl⟩]
  obtain⟨ov,T⟩:=ad (fi i B off I);rw[T]at OF;have zr:Hid (∀u,(u=wc\/u=wc.drew)->Cw 90 #[Iq i,.slice sp I sc] u λe s=>e=Rw (Iq ov)/\Hid (Bt wc s)/\s.cell? (aj A 1)=some (Iq i)/\s.cell? (aj d (k*10+9))=some (Iq rm)):=λu hu=>by
   have Q:Bt wc u:=by
    rcases hu with rfl|rfl;·exact af _ _
    ·exact(af _ _).drew
   refine(OF u _ _ (t.below Q)).mono ?_;rintro e s ⟨rfl,q⟩;have O:=Q.trans (q.mono Q.size);exact⟨rfl,O,(O.cell (p:=(aj A 1)) (aD.1 J).1).trans zt,(O.cell (p:=(aj d _)) t.row.lt).trans c9⟩
  have zm:Hid (fi i B off I=ov):=T;have zc:Hid (∀u x,Bt wc u->x=min (max 0 ov) rm->Pw h (u.setCell (aj d (k*10+8)) (Iq x)) r d N (ba (ba P k 9 rm) k 8 (min (max 0 (fi i B off I)) rm)) H (n+100)):=λu x hu hx=>by rw[zm.out,<-hx];exact(t.below hu).set zh V k 8 dg x
  have zq:Hid (U.heap.size<=wc.heap.size):=by have:=(aD.1 J).1;show _<=_;have:=za.out;omega
  have zk:Hid (∀(u:World) (x:Value),Bt wc u->∀b,b<U.heap.size->b≠r->b≠d->(u.setCell (aj d (k*10+8)) x).heap[b]?=U.heap[b]?):=λu x hu b h1 h2 Y=>(bK u (aj d (k*10+8)) _ b Y).trans ((hu.block b (zz007 h1 zq)).trans (zl b h1 h2 Y));have zn:Hid (∀u,Bt wc u->(∃v,u.cell? (aj d (k*10+8))=some v)/\u.frozen? (aj d (k*10+8))=false/\d<u.heap.size):=λu hu=>by obtain⟨_,_,q3,q4,q5⟩:=G u _ _ (t.below hu);exact⟨q4,q5,q3⟩
  have zo:Hid (∀(u:World) (x:Int),u.cell? (aj A 1)=some (Iq i)->u.cell? (aj d (k*10+9))=some (Iq rm)->(u.setCell (aj d (k*10+8)) (Iq x)).cell? (aj A 1)=some (Iq i)/\(u.setCell (aj d (k*10+8)) (Iq x)).cell? (aj d (k*10+9))=some (Iq rm)):=λu x Z q2=>by
   refine⟨?_,?_⟩;·rw[c_ _ _ _ _ (λe=>by injection e with e _ _;omega)];exact Z
   ·rw[c_ _ _ _ _ (λe=>by injection e with _ e _;omega)];exact q2
  clear T s1 s2 s3 s4 r9 f9 zb HS ze G zz zA;go_wp2_with fail;go_region_held(λW=>W.cell? (aj A 1)=some (Iq i)/\W.cell? (aj d (k*10+9))=some (Iq rm)) (go_keep) (first|(go_at_call 90;refine ag (zr _ rd) ?_;rintro e u1 ⟨rfl,L,t1,t2⟩;obtain⟨⟨zJ,zH⟩,zB,zF⟩:=zn u1 L;obtain⟨o1,o2⟩:=zo u1 (min (max 0 ov) rm) t1 t2));all_goals go_wp2;go_end0;exact⟨rfl,zc _ _ L dg,zk u1 _ L⟩
theorem Oo:(prog.info? 52).map (λi=>(i.zero,i.size,i.bytes))=some (some (.agg #[Iq 0,Iq 0,Iq 0,Iq 0]),4,32):=ns
theorem On(f r m:Nat)(x y a b s c:Int)(X Y P Q G:Nat->Int)(L:List Nd)(l:List Nat)(N:Nat->Int)(H:Nat->Int->Int)(n:Nat)(v:Value)(U0 U:World)(hG:∀g,bD L l N s c g->∀j,j<l.length->g j=G j)(hf:Hid (f=91/\s=a/\(∀k,X k=x+cd G (cl c) k/\Y k=y/\P k=G k/\Q k=b)\/f=93/\s=b/\∀k,X k=x/\Y k=y+cd G (cl c) k/\P k=a/\Q k=G k))(zt:l.length=m)(hm:m<=200)(hr:r<U0.heap.size)(hx:-1000000000000<=x/\x<=1000000000000)(hy:-1000000000000<=y/\y<=1000000000000)(ha:0<=a/\a<=100000)(hb:0<=b/\b<=100000)(hv:Hid (gN U0 U r m L l N H n v)):
 Cw f #[rv x y a b,Iq c,v] U λe U'=>∃lb,e=Rw (Sq lb m m)/\PE U U' lb m X Y P Q/\(l=[]\/bD L l N s c G)/\∀j,j<m->0<=G j/\G j<=100000:=by
 have zQ:prog.follows .mixedOrders=true:=ns;obtain⟨i0,hi,zy,zz,zP⟩:=info_parts Oo;have zN:∀W:World,(Instr.makeSlice 126 (Iq (m:Int)) (Iq (m:Int))).run prog W=.ok (Sq W.heap.size m m) (W.alloc (.cells (madeCells #[Iq 0,Iq 0,Iq 0,Iq 0] (m*4)) 52)):=λW=>by have:=run_make (P:=prog) W 126 52 i0 _ underlying126 hi zy .i64 .i64 m m dg (iD _) rd dg;rw[zz,jG]at this;exact this
 clear hi zy zz zP;obtain⟨A,hA⟩:=ad U.heap.size;obtain⟨lb,vv⟩:=hv.out;obtain⟨rfl,w1,w2,w3,w4⟩:=vv;have zn:=qH<|w1;have YG:=zz007 hr w3.size;obtain⟨d,S⟩:=ad ((U.alloc (.cells #[Iq x,Iq y,Iq a,Iq b] 52)).alloc (.cells (madeCells #[Iq 0,Iq 0,Iq 0,Iq 0] (m*4)) 52));have i:Hid (Bt U d):=by rw[<-S];exact(((Gr.refl U).alloc _).alloc _).below
 have T:d.heap[A]?=some (.cells #[Iq x,Iq y,Iq a,Iq b] 52 (0,0)):=by rw[<-S,<-hA,cK _ _ _ (by simp_all)];exact heap_alloc_new _ _
 have za:d.rowIs (A+1) 52 (m*4) (DM X Y P Q 0):=by rw[<-S];have:=Mq (U.alloc (.cells #[Iq x,Iq y,Iq a,Iq b] 52)) m X Y P Q 52;rw[au,hA]at this;exact this
 have HS:Hid (∀u,Bt d u->u.cell? (aj A 0)=some (Iq x)/\u.cell? (aj A 1)=some (Iq y)/\u.cell? (aj A 2)=some (Iq a)/\u.cell? (aj A 3)=some (Iq b)):=λu hu=>by have zL:=(hu.block A (aD.1 T).1).trans T;refine⟨?_,?_,?_,?_⟩<;>(rw[Lib.cell_of_heap zL];rfl)
 have SP:Hid (∀u q0,q0=s->Bt d u->Cw 170 #[Iq q0,Iq c,Sq lb m m] u λe Z=>∃q cq,e=Rw (.slice q m cq)/\Hid (jA Z d.heap.size q m G)/\Hid (Bt d Z)/\Hid (Bt u Z)/\Hid (l=[]\/bD L l N s c G)):=λu q0 hq hu=>by have zi:Bt U u:=i.trans (hu.mono i.size);rw[hq];refine(MH zt hm (zn.below zi) hG).mono ?_;rintro e Z ⟨q,cq,rfl,q1,V,q3⟩;exact⟨q,cq,rfl,q1.low hu.size,hu.trans (V.mono hu.size),V,q3⟩
 have OF:Hid (∀u q0,q0=s->Bt d u->Cw 171 #[Iq q0,Iq c,Sq lb m m] u λe Z=>∃q cq,e=Rw (.slice q m cq)/\Hid (jA Z d.heap.size q m (cd G (cl c)))/\Hid (Bt d Z)/\Hid (Bt u Z)):=λu q0 hq hu=>by have zi:Bt U u:=i.trans (hu.mono i.size);rw[hq];refine(OK zt hm (zn.below zi) hG).mono ?_;rintro e Z ⟨q,cq,rfl,q1,V⟩;exact⟨q,cq,rfl,q1.low hu.size,hu.trans (V.mono hu.size),V⟩
 have t:=qH<|za;have zA:=qH<|t.lt;have zB:=qH<|(aD.1 T).1;have w:=qH<|hA;obtain⟨z0,z1,z2,z3⟩:=HS d (af _ _);clear T za w1 w2 w3 w4 hv;unfold rv;rcases hf.out with⟨rfl,hs,HX⟩|⟨rfl,hs,HX⟩;all_goals
  have HXX:=qH HX;have HQ:=qH hs.symm;clear hs HX hf;first
   |go_enter func91,ntmps91
   |go_enter func93,ntmps93
  go_wp2_with fail;clear S hA zN;go_cut[8,9]from 14 to 23 (λs1 s2 wx=>∃q1 c1 V c2,s1=.slice q1 m c1/\s2=.slice V m c2/\Hid (jA wx d.heap.size q1 m G)/\Hid (jA wx d.heap.size V m (cd G (cl c)))/\Hid (Bt d wx)/\Hid (l=[]\/bD L l N s c G));case first=>
   go_region_held(λW=>W.cell? (aj A 2)=some (Iq a)/\W.cell? (aj A 3)=some (Iq b)) (go_keep) (first
    |(go_at_call 170;refine ag (SP _ _ HQ (by first|exact af _ _|exact(af _ _).drew|exact K)) ?_;rintro e us ⟨qs,zh,rfl,ze,o,zo,zg⟩;obtain⟨s0,s1,s2,s3⟩:=HS us o)
    |(go_at_call 170;refine ag (SP _ _ HQ K) ?_;rintro e us ⟨qs,zh,rfl,ze,o,zo,zg⟩;obtain⟨s0,s1,s2,s3⟩:=HS us o)
    |(go_at_call 171;refine ag (OF _ _ HQ (by first|exact o|exact af _ _|exact(af _ _).drew)) ?_;rintro e uo ⟨qo,zq,rfl,zj,K,zH⟩;obtain⟨o0,o1,o2,o3⟩:=HS uo K));all_goals go_wp2_with fail
   all_goals go_meet
   all_goals first
    |exact⟨qs,zh,qo,zq,rfl,rfl,ze.below zH,zj,K,zg⟩
    |exact⟨qs,zh,qo,zq,rfl,rfl,ze,zj.below zo,o,zg⟩
  case rest=>
   obtain⟨q1,c1,V,c2,rfl,rfl,zC,zD,zc,zl⟩:=hcut;have M:Hid (∀j,j<m->0<=G j/\G j<=100000):=λj hj=>by
    rcases zl.out with e|hg;·grind
    ·have t1:=(bY.tiles hg (fG _ _ _)).1 j dg;have t2:=fG (λj=>sy (aa L (aH l j)) (N j)) (λj=>ap (aa L (aH l j)) 2) (λj=>ap (aa L (aH l j)) 3) j;omega
   have zk:Hid (∀j,j<m->0<=cd G (cl c) j/\cd G (cl c) j<=40000000):=λj hj=>by have:=la M (dq c) j dg;omega
   have zG:=qH<|rowIs_below t zc;have R:=qH<|HS wc zc;clear SP OF z0 z1 z2 z3 HS t;go_wp2_with fail;go_loopw[26] (λkv wr=>∃k:Nat,k<=m/\kv=Iq (k:Int)/\Hid (wr.rowIs (A+1) 52 (m*4) (DM X Y P Q k))/\Hid (Bt U wr)/\Hid (∀z,z≠A+1->z<wc.heap.size->wr.heap[z]?=wc.heap[z]?)/\Hid (wc.heap.size<=wr.heap.size)) (λkv _=>m-(intOf kv).toNat);case atStart=>exact⟨0,aR _,rfl,zG,i.trans (zc.mono i.size),λ_ _ _=>rfl,ae _⟩
   case round=>
    obtain⟨k,hk,rfl,O,zb,HO,HZ⟩:=hrel;by_cases C:k<m
    ·have zr:(k:Int)<(m:Int):=dg
     obtain⟨b1,o1,rfl,l1,n1,d1⟩:=zC.resolve_left dg;obtain⟨b2,o2,rfl,l2,n2,d2⟩:=zD.resolve_left dg;have zK:=zB.out;have zI:A+1<d.heap.size\/d.heap.size<=A+1:=dg;have zJ:=zA.out;have c0:=(bf (HO A dg dg)).trans R.1;have c1:=(bf (HO A dg dg)).trans R.2.1;have c2:=(bf (HO A dg dg)).trans R.2.2.1;have c3:=(bf (HO A dg dg)).trans R.2.2.2;have e1:=(bf (HO b1 dg l1)).trans (d1 k C);have e2:=(bf (HO b2 dg l2)).trans (d2 k C);have zM:=M k C;have zO:=zk k C;have zZ:=λj=>O.frozen j;have zu:∃v,wr.cell? (aj (A+1) (k*4))=some v:=⟨_,O.cell dg⟩;have zv:∃v,wr.cell? (aj (A+1) (k*4+1))=some v:=⟨_,O.cell dg⟩;have zw:∃v,wr.cell? (aj (A+1) (k*4+2))=some v:=⟨_,O.cell dg⟩;have zx:∃v,wr.cell? (aj (A+1) (k*4+3))=some v:=⟨_,O.cell dg⟩;obtain⟨v0,zu⟩:=zu;obtain⟨v1,zv⟩:=zv;obtain⟨v2,zw⟩:=zw;obtain⟨v3,zx⟩:=zx;obtain⟨gk,B⟩:=ad (G k);obtain⟨ok,D⟩:=ad (cd G (cl c) k);have HV:=qH<|HXX k;rw[B,D]at HV;have zF:Hid (∀E F I J:Int,X k=E/\Y k=F/\P k=I/\Q k=J->Hid (((((wr.setCell (aj (A+1) (k*4)) (Iq E)).setCell (aj (A+1) (k*4+1)) (Iq F)).setCell (aj (A+1) (k*4+2)) (Iq I)).setCell (aj (A+1) (k*4+3)) (Iq J)).rowIs (A+1) 52 (m*4) (DM X Y P Q (k+1)))):=λE F I J h=>Mp O E F I J h.1.symm h.2.1.symm h.2.2.1.symm h.2.2.2.symm;have zm:Hid (∀E F I J:Value,Bt U ((((wr.setCell (aj (A+1) (k*4)) E).setCell (aj (A+1) (k*4+1)) F).setCell (aj (A+1) (k*4+2)) I).setCell (aj (A+1) (k*4+3)) J)):=λE F I J=>(((zb.setCell (p:=(aj (A+1) _)) (by rw[w.out];show A<=A+1;omega) _).setCell (p:=(aj (A+1) _)) (by rw[w.out];show A<=A+1;omega) _).setCell (p:=(aj (A+1) _)) (by rw[w.out];show A<=A+1;omega) _).setCell (p:=(aj (A+1) _)) (by rw[w.out];show A<=A+1;omega) _;have zE:Hid (∀E F I J:Value,∀z,z≠A+1->z<wc.heap.size->((((wr.setCell (aj (A+1) (k*4)) E).setCell (aj (A+1) (k*4+1)) F).setCell (aj (A+1) (k*4+2)) I).setCell (aj (A+1) (k*4+3)) J).heap[z]?=wc.heap[z]?):=λE F I J z h1 h2=>by rw[bK _ (aj (A+1) (k*4+3)) _ _ h1,bK _ (aj (A+1) (k*4+2)) _ _ h1,bK _ (aj (A+1) (k*4+1)) _ _ h1,bK _ (aj (A+1) (k*4)) _ _ h1];exact HO z h1 h2
     rw[B]at zM e1;rw[D]at zO e2;have Vn:IntKind.i64.wrap (x+ok)=x+ok:=IntWalk.i64_in _ dg;have hw2:IntKind.i64.wrap (y+ok)=y+ok:=IntWalk.i64_in _ dg;have zY:=O.lt;have zR:¬A=A+1:=dg;have zS:¬A+1=A:=dg;have zT:¬b1=A+1:=dg;have zU:¬A+1=b1:=dg;have zV:¬b2=A+1:=dg;have zX:¬A+1=b2:=dg;clear B D zK zI zJ d1 d2 O zb HO l1 l2 n1 n2 M zk;go_wp2_with fail;go_region_held(λW=>W.cell? (aj A 0)=some (Iq x)/\W.cell? (aj A 1)=some (Iq y)/\W.cell? (aj A 2)=some (Iq a)/\W.cell? (aj A 3)=some (Iq b)/\W.cell? (aj b1 (o1+k))=some (Iq gk)/\W.cell? (aj b2 (o2+k))=some (Iq ok)) (go_keep) (fail);all_goals
      go_wp2;go_roundw;case rel=>exact⟨k+1,C,by go_num,zF _ _ _ _ HV,by first|exact(zm _ _ _ _).drew|exact zm _ _ _ _,zE _ _ _ _,by show _<=_;simpa using HZ.out⟩
      case measure=>simp[intOf];omega
    ·have zr:¬(k:Int)<(m:Int):=dg
     obtain rfl:k=m:=dg;go_wp2;go_ret;exact⟨A+1,rfl,⟨OT O,by rw[w.out];omega,zb⟩,zl,M⟩
theorem o9{L:List Nd}(M:∀i:Nat,i<L.length->(aa L i).up<i)(zb:L.length<=100)(g I:Nat):∀f k,k<f->k<L.length->∀U,ip U g L.length (aa L)->
 Cw 36 #[Sq g L.length I,Iq (k:Int)] U λe U'=>e=Rw (sv (eZ L k).1 (eZ L k).2.1 (eZ L k).2.2)/\Hid (Bt U U')
 |0,k,h1,_,_,_=>dg
 |f+1,k,h1,h2,U,hN=>by
  have zh:prog.follows .mixedOrders=true:=ns;obtain⟨ab,kv,v⟩:=hN.nd k h2;have hu:=M k h2;obtain⟨kp,kc,ze,_⟩:=v.kids;subst ze;have OV:Hid (∀f g b f2 Y H u,Cw 71 #[.agg #[Iq f,Iq g,Iq b],.agg #[Iq f2,Iq Y,Iq H]] u λe w'=>e=Rw (.agg #[Iq (ov f f2),Iq (ov g Y),Iq (sL b H)])/\Hid (Bt u w')):=λf g b f2 Y H u=>(FN f g b f2 Y H u).mono λe w' q=>⟨q.1,q.2.below⟩;have Q:Hid (0<=(aa L k).up->∀u,Bt U u->Cw 36 #[Sq g L.length I,Iq (aa L k).up] u λe U'=>e=Rw (.agg #[Iq (eZ L (aa L k).up.toNat).1,Iq (eZ L (aa L k).up.toNat).2.1,Iq (eZ L (aa L k).up.toNat).2.2])/\Hid (Bt u U')):=λh0 u zg=>by have:=o9 M zb g I f (aa L k).up.toNat dg dg u (hN.below zg);rw[Int.toNat_of_nonneg h0]at this;exact this
  have j:=qH (JR M h2);obtain⟨A,hA⟩:=ad U.heap.size;obtain⟨W0,r⟩:=ad (U.alloc (.cells #[Iq 0,Iq 0,Iq 0] 75));have X:W0.heap.size=A+1:=by rw[<-r,au,hA]
  have m:Bt U W0:=by rw[<-r];exact((Gr.refl U).alloc _).below
  have c0:=an m v.c0;have c1:=an m v.c1;have c2:=an m v.c2;have c3:=an m v.c3;have c4:=an m v.c4;obtain⟨l,x⟩:=ad (W0.alloc (.cells #[Iq ((aa L k).kind:Int),Sq ab 12 12,.string ⟨(aa L k).text.toArray⟩,.slice kp (aa L k).kids.length kc,Iq (aa L k).up] 100));have z:l.heap[A+1]?=some (.cells #[Iq ((aa L k).kind:Int),Sq ab 12 12,.string ⟨(aa L k).text.toArray⟩,.slice kp (aa L k).kids.length kc,Iq (aa L k).up] 100 (0,0)):=by rw[<-x,<-X];exact heap_alloc_new _ _
  have T:Gr U l:=by rw[<-x,<-r];exact((Gr.refl U).alloc _).alloc _
  have V:R3 75 l A 0 0 0:=by rw[<-x,<-r,<-hA];exact(R3.new U 0 0 0 _).gr ((Gr.refl _).alloc _)
  have n:=qH T.below;have z1:l.cell? (aj (A+1) 1)=some (Sq ab 12 12):=by rw[Lib.cell_of_heap z];rfl
  have z4:l.cell? (aj (A+1) 4)=some (Iq (aa L k).up):=by rw[Lib.cell_of_heap z];rfl
  have y0:l.cell? (aj ab 9)=some (Iq (ap (aa L k) 9)):=an n (v.att 9 dg);have y1:l.cell? (aj ab 10)=some (Iq (ap (aa L k) 10)):=an n (v.att 10 dg);have y2:l.cell? (aj ab 11)=some (Iq (ap (aa L k) 11)):=an n (v.att 11 dg);generalize ap (aa L k) 9=R at y0 j;generalize ap (aa L k) 10=o at y1 j;generalize ap (aa L k) 11=p at y2 j;have O:=qH V;have zi:=qH z;have zj:(k:Int)<(L.length:Int):=dg;generalize(aa L k).up=up at*;generalize(aa L k).text=t at*;generalize(aa L k).kids.length=kl at*;generalize((aa L k).kind:Int)=kd at*;clear v z V hN m T;go_enter func36,ntmps36;go_wp2_with fail;go_region_held(λW=>W.cell? (aj (A+1) 1)=some (Sq ab 12 12)/\W.cell? (aj ab 9)=some (Iq R)/\W.cell? (aj ab 10)=some (Iq o)/\W.cell? (aj ab 11)=some (Iq p)) (go_keep) (fail);obtain⟨B,hB⟩:=ad l.heap.size;obtain⟨N,y⟩:=ad (l.alloc (.cells #[Iq R,Iq o,Iq p] 75)).drew;have d:Bt l N:=by rw[<-y];exact(((Gr.refl l).alloc _).below).drew
  have D:=qH<|n.trans (d.mono n.size);have s:R3 75 N B R o p:=by rw[<-y,<-hB];exact R3.new l R o p _
  have c:Hid (R3 75 N A 0 0 0):=(d.block A O.out.lt).trans O.out;have x4:=an d z4;have s0:=s.c0;have s1:=s.c1;have s2:=s.c2;have P:=qH s;rw[y,hB];clear y d s z1 z4 y0 y1 y2 x r X c0 c1 c2 c3 c4;have w:Hid (∀u Z v1 v2,Bt N u->(((u.setCell (aj A 0) Z).setCell (aj A 1) v1).setCell (aj A 2) v2).heap[A]?=some (.cells #[Z,v1,v2] 75 (0,0))/\Bt U (((u.setCell (aj A 0) Z).setCell (aj A 1) v1).setCell (aj A 2) v2)):=λu Z v1 v2 hu=>by have hb:=D.trans (hu.mono D.size);exact⟨DO ((hu.block A c.out.lt).trans c.out),((hb.setCell rd _).setCell rd _).setCell rd _⟩
  have G:Hid (∀u,Bt N u->R3 75 u A 0 0 0/\R3 75 u B R o p):=λu hu=>⟨(hu.block A c.out.lt).trans c.out,(hu.block B P.out.lt).trans P.out⟩;by_cases h0:up<0;·have HS:=qH (j.out 0 0 0 (.inr ⟨h0,rfl,rfl,rfl⟩));go_wp2_with(go_at_call 71;refine(OV _ _ _ _ _ _ _).mono ?_;rintro e u5 ⟨rfl,h⟩;obtain⟨a,_⟩:=G u5 h;have k0:=a.c0;have k1:=a.c1;have k2:=a.c2;have kf:=a.fz);refine bodyPost_ret (results_cell_row rfl _ _ A _ _ _ _ rfl (w _ _ _ _ h).1 underlying75 rfl ns) rfl ?_;obtain⟨e1,e2,e3⟩:=HS.out;exact⟨by rw[e1,e2,e3];rfl,(w _ _ _ _ h).2⟩
  ·have S:0<=up:=dg
   have KI:=qH (Q.out S);have HS:=qH (j.out (eZ L up.toNat).1 (eZ L up.toNat).2.1 (eZ L up.toNat).2.2 (.inl ⟨S,rfl⟩));generalize(eZ L up.toNat).1=b0 at*;generalize(eZ L up.toNat).2.1=b1 at*;generalize(eZ L up.toNat).2.2=H at*;clear Q j;go_wp2_with(first|(go_at_call 36;refine(KI _ D).mono ?_;rintro e u5 ⟨rfl,h⟩;obtain⟨C,hC⟩:=ad u5.heap.size;obtain⟨W3,zc⟩:=ad (u5.alloc (.cells #[Iq b0,Iq b1,Iq H] 75));have J:R3 75 W3 C b0 b1 H:=(by grind[R3.new]);have E:Hid (Bt N W3):=(by rw[<-zc];exact h.trans ((((Gr.refl u5).alloc _).below).mono h.size));obtain⟨_,K⟩:=G W3 E;have l0:=J.c0;have l1:=J.c1;have l2:=J.c2;have m0:=K.c0;have m1:=K.c1;have m2:=K.c2)|(go_at_call 71;refine(OV _ _ _ _ _ _ _).mono ?_;rintro e u6 ⟨rfl,za⟩;have F:=qH<|E.trans (za.mono E.size);obtain⟨a,_⟩:=G u6 F;have k0:=a.c0;have k1:=a.c1;have k2:=a.c2;have kf:=a.fz));refine bodyPost_ret (results_cell_row rfl _ _ A _ _ _ _ rfl (w _ _ _ _ F).1 underlying75 rfl ns) rfl ?_;obtain⟨e1,e2,e3⟩:=HS.out;exact⟨by rw[e1,e2,e3];rfl,(w _ _ _ _ F).2⟩
def gy(a b:Nat->Int):Nat->List Value
 |0=>[]
 |k+1=>gy a b k++[Iq (a k),Iq (b k)]
theorem mh a b:∀k,(gy a b k).length=k*2
 |0=>rfl
 |k+1=>by rw[gy,aU,mh a b k];grind
theorem tZ a b:∀k j,j<k->(gy a b k)[j*2]?=some (Iq (a j))/\(gy a b k)[j*2+1]?=some (Iq (b j))
 |0,j,h=>dg
 |k+1,j,h=>by
  have c:=mh a b k;by_cases e:j<k;·have:=tZ a b k j e;grind[gy]
  grind[gy]
theorem cell_two_new(w:World)x y t:∀j u,[x,y][j]?=some u->(w.alloc (.cells #[x,y] t)).cell? (((aj w.heap.size 0):Addr).add j)=some u:=by
 intro j u h;have e:((aj w.heap.size 0):Addr).add j=(aj w.heap.size (0+j)):=by unfold Addr.add;split<;>simp_all
 simp_all
theorem Bk:(prog.info? 33).map (λi=>(i.zero,i.size,i.bytes))=some (some (.agg #[Iq 0,Iq 0]),2,16):=ns
def R9(w w':World)(n:Nat)(dM off:Nat->Int)(e:Ending):Prop:=∃p c,e=Rw (.slice p n c)/\jB w' p n dM off/\(∀a:Addr,p=some a->w.heap.size<=a.block/\a.block<w'.heap.size)/\Bt w w'
theorem yI(p:Option Addr)(n B:Nat)(b off:Nat->Int)(w:World)(h:jB w p n b off)(hn:n<=8796093022208):
 Cw 4 #[.slice p n B] w λe w'=>R9 w w' n b off e:=by
 obtain⟨Z,hi,G,H,I⟩:=info_parts Bk;have Q:Hid (jB w p n b off):=h;clear h;go_enter func4,ntmps4;go_wp2;go_loopw[3,4] (λv i wr=>∃k:Nat,i=Iq k/\k<=n/\wr.ownsRow w.heap.size 33 2 v k (gy b off k)/\Bt w wr) (λ_ i _=>n-(intOf i).toNat);case atStart=>exact⟨0,rfl,aR _,eO _ _ _ _,af _ _⟩
 case round=>
  obtain⟨k,rfl,hk,d,f⟩:=hrel;by_cases E:k<n
  ·have O:(k:Int)<(n:Int):=dg
   have z:=Q.below f;obtain⟨R,o,rfl,hz,t⟩:=z.resolve_left dg;obtain⟨T,c1⟩:=t k E;obtain⟨L,l⟩:=ad (b k);obtain⟨M,m⟩:=ad (off k);rw[l]at T;rw[m]at c1;have Y:=f.size;have P:Hid (gy b off (k+1)=gy b off k++[Iq L,Iq M]):=by show _=_;rw[gy,l,m]
   clear z l m t;go_wp2_with fail;go_region_law(refine jE rfl (.tmp 11) (.tmp 23) 23 rfl w.heap.size 33 Z (.agg #[Iq 0,Iq 0]) 2 16 underlying23 hi G H I rfl (by decide) u3 k (gy b off k) (by simp[Act.eval]) (pd (w:=wr.drew) d _) _ 1 1 [Iq L,Iq M] (by simp[Act.eval]) rfl (cell_two_new _ _ _ _) (by intro u hu;simp at hu;rcases hu with rfl|rfl<;>rfl) (by unfold maxLen;omega) dg (by simp;omega) ?_;intro v' w1 F A);all_goals
    have C:=((f.trans (below_drewN (af _ _) 1)).alloc (by simp;omega) _).grown A (by simp;omega) (λq X=>(d.lt q X).1);clear A d f;go_wp2;go_roundw;case rel=>exact⟨k+1,by go_num,dg,by rw[P.out];omega,C⟩
    grind[intOf]
  ·have V:¬(k:Int)<(n:Int):=dg
   obtain rfl:n=k:=dg;have K:Hid (∃p c,u3=.slice p n c/\jB wr p n b off/\∀a:Addr,p=some a->w.heap.size<=a.block/\a.block<wr.heap.size):=by
    have N:=d;rcases d.2 with⟨rfl,rfl⟩|⟨g,s,U,rfl,hb,A,h1,h2,_⟩;·exact⟨none,0,rfl,.inl rfl,λa e=>by cases e⟩
    ·have D:=(aD.1 A).1;refine⟨some (aj g 0),s,rfl,.inr ⟨g,0,rfl,D,λj W=>?_⟩,λa e=>rd⟩;have:=tZ b off n j W;have hl:=mh b off n;rw[N.cellAt _ dg,N.cellAt _ dg,aZ];omega
   obtain⟨J,S,rfl,x,y⟩:=K.out;have r:Hid (jB wr J n b off/\∀a:Addr,J=some a->w.heap.size<=a.block/\a.block<wr.heap.size):=⟨x,y⟩;clear d K x y;go_wp2;go_ret;exact⟨J,S,rfl,r.1,r.2,f⟩
