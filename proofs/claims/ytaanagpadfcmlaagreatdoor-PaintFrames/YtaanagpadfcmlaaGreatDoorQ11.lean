import Derived.Test.YtaanagpadfcmlaaGreatDoorQ00
import Derived.Test.YtaanagpadfcmlaaGreatDoorProg
import Derived.WalkSpells
import Derived.WalkLawsBesides
import Derived.BigQuiet
import Derived.Deep.RegionWith
import Derived.Deep.RegionHeld
import Derived.Deep.CutRange
import Derived.Shelf.SlSortCmp.QuietGrown
set_option linter.all false
set_option maxRecDepth 100000
set_option maxHeartbeats 16000000
namespace Go.Proofs.YtaanagpadfcmlaaGreatDoor
open Go.RowKit Go.Sort Go.Proofs.Tryz
def aJ(n:Int):Int:=min (max n (-100000)) 100000
def aO(n:Int):Int:=min (max n 0) 100000
def rv(x y w h:Int):Value:=.agg #[Iq x,Iq y,Iq w,Iq h]
theorem cH n:-100000<=aJ n/\aJ n<=100000:=by grind[aJ]
theorem bQ n:0<=aO n/\aO n<=100000:=by grind[aO]
theorem length_any(n:Int)(w:World):Cw 47 #[Iq n] w λe w'=>e=Rw (Iq (aO n))/\w'=w:=by go_enter func47,ntmps47;go_wp2;all_goals go_ret;refine⟨?_,rfl⟩;refine congrArg (λn:Int=>Ending.returned (Iq n)) (?_:_=aO n);grind[aO]
theorem position_any(n:Int)(w:World):Cw 175 #[Iq n] w λe w'=>e=Rw (Iq (aJ n))/\w'=w:=by go_enter func175,ntmps175;go_wp2;all_goals go_ret;refine⟨?_,rfl⟩;refine congrArg (λn:Int=>Ending.returned (Iq n)) (?_:_=aJ n);grind[aJ]
theorem wN(x y a b:Int)(w:World):Cw 97 #[rv x y a b] w λe w'=>e=Rw (rv (aJ x) (aJ y) (aO a) (aO b))/\w'=((w.alloc (.cells #[Iq x,Iq y,Iq a,Iq b] 52)).alloc (.cells #[Iq (aJ x),Iq (aJ y),Iq (aO a),Iq (aO b)] 52)).drew:=by have P:=qH<|position_any;have G:=qH<|length_any;unfold rv;go_enter func97,ntmps97;go_wp2_with fail;obtain⟨A,h⟩:=ad (aJ x);obtain⟨D,i⟩:=ad (aJ y);obtain⟨q,f⟩:=ad (aO a);obtain⟨s,g⟩:=ad (aO b);have p:=P x;have P2:=P y;have m:=G a;have n:=G b;rw[h]at p;rw[i]at P2;rw[f]at m;rw[g]at n;go_region_held(λW=>W.cell? (aj w.heap.size 0)=some (Iq x)/\W.cell? (aj w.heap.size 1)=some (Iq y)/\W.cell? (aj w.heap.size 2)=some (Iq a)/\W.cell? (aj w.heap.size 3)=some (Iq b)) (go_keep) (first|(go_at_call 175;first|(refine(p _).mono ?_;rintro e j ⟨rfl,rfl⟩)|(refine(P2 _).mono ?_;rintro e j ⟨rfl,rfl⟩))|(go_at_call 47;first|(refine(m _).mono ?_;rintro e j ⟨rfl,rfl⟩)|(refine(n _).mono ?_;rintro e j ⟨rfl,rfl⟩)));go_wp2;refine bodyPost_ret (v:=rv A D q s) (by simp[results,Tryz.results97,go_sem,rv]) rfl ?_;subst h i f g;exact⟨rfl,rfl⟩
def Gr(w w':World):Prop:=∃q os,w'=grow (w.drewN q) os
theorem Gr.refl w:Gr w w:=⟨0,#[],by simp;rfl⟩
theorem Gr.trans{a b c}(h:Gr a b)(k:Gr b c):Gr a c:=by obtain⟨q,os,rfl⟩:=h;obtain⟨g,f,rfl⟩:=k;exact⟨q+g,os++f,by show grow (grow ((a.drewN q).drewN g) os) f=_;rw[grow_grow,World.drewN_drewN]⟩
theorem Gr.alloc{a b}(h:Gr a b)o:Gr a (b.alloc o):=h.trans ⟨0,#[o],alloc_eq_grow b o⟩
theorem Gr.drew{a b}(h:Gr a b):Gr a b.drew:=h.trans ⟨1,#[],by simp;rfl⟩
theorem Gr.drewN{a b}(h:Gr a b)n:Gr a (b.drewN n):=h.trans ⟨n,#[],rn⟩
theorem Gr.size{a b}(h:Gr a b):a.heap.size<=b.heap.size:=by obtain⟨q,os,rfl⟩:=h;simp_all
theorem Gr.block{a b}(h:Gr a b){k}(f:k<a.heap.size):b.heap[k]?=a.heap[k]?:=by obtain⟨q,os,rfl⟩:=h;exact heap_grow_old _ _ f
theorem Gr.set{a b}(h:Gr a b){k o}(f:a.heap.size<=k)v:Gr a (b.setCell (aj k o) v):=by obtain⟨q,os,rfl⟩:=h;exact⟨q,_,by unfold World.setCell grow;simp only;rw[modify_append_right (a.drewN q).heap os k _ f]⟩
theorem Gr.below{a b}(h:Gr a b):Bt a b:=⟨by obtain⟨q,os,rfl⟩:=h;rfl,by obtain⟨q,os,rfl⟩:=h;rfl,by obtain⟨q,os,rfl⟩:=h;rfl,h.size,λk f=>h.block f⟩
def R4(T:TypeId)(W:World)(b:Nat)(x y a c:Int):Prop:=W.heap[b]?=some (.cells #[Iq x,Iq y,Iq a,Iq c] T (0,0))
section
variable{T:TypeId} {W W':World} {b k o:Nat} {x y a c:Int}
theorem R4.lt(h:R4 T W b x y a c):b<W.heap.size:=(aD.1 h).1
theorem R4.c0(h:R4 T W b x y a c):W.cell? (aj b 0)=some (Iq x):=by unfold R4 at h;simp[World.cell?,h]
theorem R4.c1(h:R4 T W b x y a c):W.cell? (aj b 1)=some (Iq y):=by unfold R4 at h;simp[World.cell?,h]
theorem R4.c2(h:R4 T W b x y a c):W.cell? (aj b 2)=some (Iq a):=by unfold R4 at h;simp[World.cell?,h]
theorem R4.c3(h:R4 T W b x y a c):W.cell? (aj b 3)=some (Iq c):=by unfold R4 at h;simp[World.cell?,h]
theorem R4.fz(h:R4 T W b x y a c)j:W.frozen? (aj b j)=false:=frozen_of_row _ _ _ _ _ h
theorem R4.gr(h:R4 T W b x y a c)(g:Gr W W'):R4 T W' b x y a c:=(g.block h.lt).trans h
theorem R4.new(W:World)x y a c T:R4 T (W.alloc (.cells #[Iq x,Iq y,Iq a,Iq c] T)) W.heap.size x y a c:=heap_alloc_new _ _
theorem R4.other(h:R4 T W b x y a c)(f:b≠k)v:R4 T (W.setCell (aj k o) v) b x y a c:=(bK W (aj k o) v b f).trans h
theorem R4.set(h:R4 T W b x y a c)f g a' c':R4 T ((((W.setCell (aj b 0) (Iq f)).setCell (aj b 1) (Iq g)).setCell (aj b 2) (Iq a')).setCell (aj b 3) (Iq c')) b f g a' c':=
 heap_setCell_same _ b 3 _ T _ (heap_setCell_same _ b 2 _ T _ (heap_setCell_same _ b 1 _ T _ (heap_setCell_same _ b 0 _ T _ h)))
theorem R4.others(h:R4 T W b x y a c)(f:b≠k)g v1 v2 i:R4 T ((((W.setCell (aj k 0) g).setCell (aj k 1) v1).setCell (aj k 2) v2).setCell (aj k 3) i) b x y a c:=(((h.other f g).other f v1).other f v2).other f i
theorem Gr.set4(h:Gr W W')(f:W.heap.size<=k)g v1 v2 i:Gr W ((((W'.setCell (aj k 0) g).setCell (aj k 1) v1).setCell (aj k 2) v2).setCell (aj k 3) i):=(((h.set f g).set f v1).set f v2).set f i
end
theorem clamped_gr x y a b w:Cw 97 #[rv x y a b] w λe w'=>e=Rw (rv (aJ x) (aJ y) (aO a) (aO b))/\Gr w w':=
 (wN x y a b w).mono λe w' ⟨f,g⟩=>⟨f,by rw[g];exact(((Gr.refl w).alloc _).alloc _).drew⟩
def eQ(ax aw bx bw:Int):Int:=max (aJ ax) (aJ bx)
def fQ(ax aw bx bw:Int):Int:=min (aJ ax+aO aw) (aJ bx+aO bw)
def nW(ax ay aw ah bx mO bw bh:Int):Value:=if eQ ax aw bx bw>=fQ ax aw bx bw\/eQ ay ah mO bh>=fQ ay ah mO bh then rv 0 0 0 0 else rv (eQ ax aw bx bw) (eQ ay ah mO bh) (fQ ax aw bx bw-eQ ax aw bx bw) (fQ ay ah mO bh-eQ ay ah mO bh)
theorem De(O P N L U h S R:Int)(w:World):Cw 51 #[rv O P N L,rv U h S R] w λe w'=>e=Rw (nW O P N L U h S R)/\Gr w w':=by
 have CC:=qH<|clamped_gr;unfold rv at CC⊢;go_enter func51,ntmps51;go_wp2_with fail;obtain⟨A,hA⟩:=ad w.heap.size;obtain⟨W0,i⟩:=ad (((w.alloc (.cells #[Iq O,Iq P,Iq N,Iq L] 52)).alloc (.cells #[Iq U,Iq h,Iq S,Iq R] 52)).alloc (.cells #[Iq 0,Iq 0,Iq 0,Iq 0] 52));have G0:Hid (Gr w W0):=by rw[<-i];exact(((Gr.refl w).alloc _).alloc _).alloc _
 have RA:Hid (R4 52 W0 A O P N L):=by rw[<-i,<-hA];exact(R4.new w _ _ _ _ _).gr (((Gr.refl _).alloc _).alloc _)
 have RB:Hid (R4 52 W0 (A+1) U h S R):=by have:=R4.new (w.alloc (.cells #[Iq O,Iq P,Iq N,Iq L] 52)) U h S R 52;simp only[au,hA]at this;rw[<-i];exact this.gr ((Gr.refl _).alloc _)
 have RC:Hid (R4 52 W0 (A+1+1) 0 0 0 0):=by have:=R4.new ((w.alloc (.cells #[Iq O,Iq P,Iq N,Iq L] 52)).alloc (.cells #[Iq U,Iq h,Iq S,Iq R] 52)) 0 0 0 0 52;simp only[au,hA]at this;rw[<-i];exact this
 rw[i,hA];clear i;have HA:=qH<|hA;clear hA;have a0:=RA.c0;have a1:=RA.c1;have a2:=RA.c2;have a3:=RA.c3;have b0:=RB.c0;have b1:=RB.c1;have b2:=RB.c2;have b3:=RB.c3;obtain⟨j,zb⟩:=ad (aJ O);obtain⟨m,zc⟩:=ad (aJ P);obtain⟨E,Z⟩:=ad (aO N);obtain⟨F,za⟩:=ad (aO L);obtain⟨n,zh⟩:=ad (aJ U);obtain⟨p,zi⟩:=ad (aJ h);obtain⟨G,ze⟩:=ad (aO S);obtain⟨I,zg⟩:=ad (aO R);go_cut[2,3,4]from 9 to 12 (λu v t V=>u=Pq A/\v=Pq (A+1)/\t=Pq (A+1+1)/\Hid (R4 52 V A j m E F/\R4 52 V (A+1) n p G I/\R4 52 V (A+1+1) 0 0 0 0/\Gr w V));case first=>
  go_region_with(go_at_call 97;refine(CC _ _ _ _ _).mono ?_;rintro e wn ⟨rfl,Y⟩;have J:=qH<|(by first|exact((Gr.refl W0).drew).trans Y|exact Gr.trans (Hid.out (by assumption)) Y);have f:=qH<|RA.gr J;have g:=qH<|RB.gr J;clear Y;have m0:=f.c0;have m1:=f.c1;have m2:=f.c2;have m3:=f.c3;have n0:=g.c0;have n1:=g.c1;have n2:=g.c2;have n3:=g.c3;have f0:=f.fz 0;have f1:=f.fz 1;have f2:=f.fz 2;have f3:=f.fz 3;have g0:=g.fz 0;have g1:=g.fz 1;have g2:=g.fz 2;have g3:=g.fz 3);all_goals
   have s:Hid (R4 52 ((((((((wn.setCell (aj A 0) (Iq j)).setCell (aj A 1) (Iq m)).setCell (aj A 2) (Iq E)).setCell (aj A 3) (Iq F)).setCell (aj (A+1) 0) (Iq n)).setCell (aj (A+1) 1) (Iq p)).setCell (aj (A+1) 2) (Iq G)).setCell (aj (A+1) 3) (Iq I)) A j m E F/\R4 52 ((((((((wn.setCell (aj A 0) (Iq j)).setCell (aj A 1) (Iq m)).setCell (aj A 2) (Iq E)).setCell (aj A 3) (Iq F)).setCell (aj (A+1) 0) (Iq n)).setCell (aj (A+1) 1) (Iq p)).setCell (aj (A+1) 2) (Iq G)).setCell (aj (A+1) 3) (Iq I)) (A+1) n p G I/\R4 52 ((((((((wn.setCell (aj A 0) (Iq j)).setCell (aj A 1) (Iq m)).setCell (aj A 2) (Iq E)).setCell (aj A 3) (Iq F)).setCell (aj (A+1) 0) (Iq n)).setCell (aj (A+1) 1) (Iq p)).setCell (aj (A+1) 2) (Iq G)).setCell (aj (A+1) 3) (Iq I)) (A+1+1) 0 0 0 0/\Gr w ((((((((wn.setCell (aj A 0) (Iq j)).setCell (aj A 1) (Iq m)).setCell (aj A 2) (Iq E)).setCell (aj A 3) (Iq F)).setCell (aj (A+1) 0) (Iq n)).setCell (aj (A+1) 1) (Iq p)).setCell (aj (A+1) 2) (Iq G)).setCell (aj (A+1) 3) (Iq I))):=
    ⟨(f.set j m E F).others dg _ _ _ _,(g.others dg _ _ _ _).set n p G I,((RC.gr J).others dg _ _ _ _).others dg _ _ _ _,((G0.trans J).set4 (by rw[HA.out];omega) _ _ _ _).set4 (by rw[HA.out];omega) _ _ _ _⟩;clear m0 m1 m2 m3 n0 n1 n2 n3 f0 f1 f2 f3 g0 g1 g2 g3 a0 a1 a2 a3 b0 b1 b2 b3 f g;go_wp2_with fail;go_meet;grind
 case rest=>
  obtain⟨rfl,rfl,rfl,s⟩:=hcut;clear a0 a1 a2 a3 b0 b1 b2 b3 RA RB RC;have a0:=s.1.c0;have a1:=s.1.c1;have a2:=s.1.c2;have a3:=s.1.c3;have b0:=s.2.1.c0;have b1:=s.2.1.c1;have b2:=s.2.1.c2;have b3:=s.2.1.c3;have zl:=cH O;have zm:=cH P;have zj:=bQ N;have zk:=bQ L;have zq:=cH U;have zr:=cH h;have zn:=bQ S;have zo:=bQ R;rw[zb]at zl;rw[zc]at zm;rw[Z]at zj;rw[za]at zk;rw[zh]at zq;rw[zi]at zr;rw[ze]at zn;rw[zg]at zo;go_wp2_with fail;go_cut[5,6]from 13 to 28 (λu v V=>u=Iq (max j n)/\v=Iq (min (j+E) (n+G))/\∃q,V=wc.drewN q);case first=>by_cases h1:j<n;iterate 2 ·by_cases h2:j+E<=n+G;iterate 2 ·go_quiet(fail);go_wp2_with fail;go_meet;grind
  case rest=>
   obtain⟨rfl,rfl,q1,rfl⟩:=hcut;go_wp2_with fail;go_cut[7,8]from 29 to 44 (λu v V=>u=Iq (max m p)/\v=Iq (min (m+F) (p+I))/\∃q,V=wc.drewN q);case first=>by_cases h1:m<p;iterate 2 ·by_cases h2:m+F<=p+I;iterate 2 ·go_quiet(fail);go_wp2_with fail;go_meet;exact⟨congrArg (Value.int .i64) dg,congrArg (Value.int .i64) dg,q1+nq,by first|rfl|exact World.drewN_drewN _ _ _⟩
   case rest=>
    obtain⟨rfl,rfl,q2,rfl⟩:=hcut;obtain⟨W1,X⟩:=ad (wc.drewN q2);have G1:Hid (Gr wc W1):=by rw[<-X];exact(Gr.refl _).drewN _
    rw[X];have D:=qH<|s.2.2.1.gr G1;have GG:=qH<|s.2.2.2.trans G1;clear X a0 a1 a2 a3 b0 b1 b2 b3 s;have c0:=D.c0;have c1:=D.c1;have c2:=D.c2;have c3:=D.c3;have f0:=D.fz 0;have f1:=D.fz 1;have f2:=D.fz 2;have f3:=D.fz 3;obtain⟨l,hl⟩:=ad (max j n);obtain⟨r,hr⟩:=ad (min (j+E) (n+G));obtain⟨t,ht⟩:=ad (max m p);obtain⟨d,hd⟩:=ad (min (m+F) (p+I));have HV:Hid (nW O P N L U h S R=if l>=r\/t>=d then rv 0 0 0 0 else rv l t (r-l) (d-t)):=by show _=_;unfold nW eQ fQ;rw[zb,zc,Z,za,zh,zi,ze,zg,hl,hr,ht,hd]
    have bl:-100000<=l/\l<=100000:=dg;have br:-100000<=r/\r<=200000:=dg;have bt:-100000<=t/\t<=100000:=dg;have bd:-100000<=d/\d<=200000:=dg;rw[hl,hr,ht,hd];clear zb zc Z za zh zi ze zg hl hr ht hd zl zm zj zk zq zr zn zo;by_cases h1:r<=l;·have e1:=decide_eq_true h1;go_wp2;refine bodyPost_ret (results_cell_row rfl _ _ (A+1+1) _ _ _ _ rfl (D.set 0 0 0 0) underlying52 rfl ns) rfl ?_;exact⟨by rw[HV.out,if_pos (.inl h1)];rfl,GG.set4 (by rw[HA.out];omega) _ _ _ _⟩
    ·have e1:=decide_eq_false h1;by_cases h2:d<=t;·have e2:=decide_eq_true h2;go_wp2;refine bodyPost_ret (results_cell_row rfl _ _ (A+1+1) _ _ _ _ rfl (D.set 0 0 0 0) underlying52 rfl ns) rfl ?_;exact⟨by rw[HV.out,if_pos (.inr h2)];rfl,GG.set4 (by rw[HA.out];omega) _ _ _ _⟩
     ·have e2:=decide_eq_false h2;go_wp2;refine bodyPost_ret (results_cell_row rfl _ _ (A+1+1) _ _ _ _ rfl (D.set l t (r-l) (d-t)) underlying52 rfl ns) rfl ?_;exact⟨by rw[HV.out,if_neg dg];rfl,GG.set4 (by rw[HA.out];omega) _ _ _ _⟩
def gV(x y a b px py:Int):Bool:=decide (aJ x<=px/\px<aJ x+aO a/\aJ y<=py/\py<aJ y+aO b)
theorem Fi{x y a b f g}(h:aJ x<=f/\f<aJ x+aO a/\aJ y<=g/\g<aJ y+aO b):gV x y a b f g=true:=decide_eq_true h
theorem Is{x y a b f g}(h:¬(aJ x<=f/\f<aJ x+aO a/\aJ y<=g/\g<aJ y+aO b)):gV x y a b f g=false:=decide_eq_false h
theorem eY{n}(h:-100000<=n/\n<=100000):aJ n=n:=by grind[aJ]
theorem cN{n}(h:0<=n/\n<=100000):aO n=n:=by grind[aO]
theorem JI{a b c d a' f c' d'}(h:rv a b c d=rv a' f c' d'):a=a'/\b=f/\c=c'/\d=d':=by grind[rv]
theorem EC g f i h:eQ g f i h=eQ i h g f:=by grind[eQ]
theorem EE g f i h:fQ g f i h=fQ i h g f:=by grind[fQ]
theorem EF i j h g p f n m:nW i j h g p f n m=nW p f n m i j h g:=by grind[nW,EC,EE]
structure Ce where
 t:ByteArray
 f:Int
 g:Int
 b:Int
 p:Int
def O1:ByteArray:=⟨#[32]⟩
def Lo:ByteArray:=⟨#[]⟩
def bl(c:Ce):Ce:=⟨O1,c.f,c.g,c.b,0⟩
def bk(f g b:Int):Ce:=⟨O1,f,g,b,0⟩
theorem PX c:(bl c).p=0:=rfl
def span(r:Nat->Ce)(a z:Nat)(x:Nat->Ce):Nat->Ce:=λj=>
 if a<=j/\j<z then x j
 else if a<z/\j+1=a/\(r a).p=2 then bl (r j)
 else if a<z/\j=z/\(r (z-1)).p=1 then bl (r j)
 else r j
theorem ju{r}{a z}{x}{j}(h:a<=j/\j<z):span r a z x j=x j:=if_pos h
theorem ui{r}{a z}{x}(h:¬a<z):span r a z x=r:=by grind[span]
theorem kH{r}{a z}{x}{j}(h:¬(a<=j/\j<z)):
 (span r a z x j=r j/\¬(a<z/\j+1=a/\(r a).p=2)/\¬(a<z/\j=z/\(r (z-1)).p=1))\/(span r a z x j=bl (r j)/\((a<z/\j+1=a/\(r a).p=2)\/(a<z/\j=z/\(r (z-1)).p=1))):=by grind[span]
structure ly(W:Nat)(r:Nat->Ce):Prop where
 part:∀i,i<W->(r i).p=0\/(r i).p=1\/(r i).p=2
 head:∀i,i<W->(r i).p=1->i+1<W/\(r (i+1)).p=2/\(r (i+1)).f=(r i).f/\(r (i+1)).g=(r i).g/\(r (i+1)).b=(r i).b
 tail:∀i,i<W->(r i).p=2->∃k,i=k+1/\(r k).p=1/\(r i).t=Lo
section
variable{W a z:Nat} {r x:Nat->Ce}
theorem ly.beside(h:ly W r)(F:z<=W){i}(hi:i<W)(q:¬(a<=i/\i<z)):
 ((span r a z x i).p=0\/(span r a z x i).p=1\/(span r a z x i).p=2)
 /\((span r a z x i).p=1->span r a z x i=r i/\span r a z x (i+1)=r (i+1)/\(r i).p=1)
 /\((span r a z x i).p=2->span r a z x i=r i/\(r i).p=2/\∃k,i=k+1/\span r a z x k=r k):=by
 rcases kH (r:=r) (x:=x) q with⟨e,v,A⟩|⟨e,hh⟩
 ·rw[e];refine⟨h.part i hi,λhp=>⟨rfl,?_,hp⟩,λhp=>⟨rfl,hp,?_⟩⟩
  ·obtain⟨h1,s,_⟩:=h.head i hi hp;by_cases f:a<=i+1/\i+1<z;·grind
   ·rcases kH (r:=r) (x:=x) f with⟨g,_⟩|⟨g,j|j⟩;·exact g
    ·exfalso;obtain⟨k,n,m,_⟩:=h.tail a dg j.2.2;grind
    omega
  ·obtain⟨k,n,m,_⟩:=h.tail i hi hp;refine⟨k,n,?_⟩;by_cases f:a<=k/\k<z;·grind
   ·rcases kH (r:=r) (x:=x) f with⟨g,_⟩|⟨g,j|j⟩;·exact g
    ·omega
    ·exfalso;obtain⟨D,E,_⟩:=h.head (z-1) dg j.2.2;grind
 grind[PX]
theorem ly.span0(h:ly W r)(m:z<=W)(D:∀j,a<=j->j<z->(x j).p=0):ly W (span r a z x):=by
 refine⟨λi hi=>?_,λi hi hp=>?_,λi hi hp=>?_⟩<;>by_cases f:a<=i/\i<z;·grind[ju]
 ·exact(h.beside m hi f).1
 ·grind[ju]
 ·obtain⟨n,g,q⟩:=(h.beside m hi f).2.1 hp;rw[n,g];exact h.head i hi q
 ·grind[ju]
 ·obtain⟨n,g,k,A,q⟩:=(h.beside m hi f).2.2 hp;obtain⟨k',s,h1,v⟩:=h.tail i hi g;grind
theorem ly.span2(h:ly W r)(n:a+2<=W)(h1:(x a).p=1)(E:(x (a+1)).p=2)(G:(x (a+1)).f=(x a).f)(I:(x (a+1)).g=(x a).g)(F:(x (a+1)).b=(x a).b)(L:(x (a+1)).t=Lo):ly W (span r a (a+2) x):=by
 have A:span r a (a+2) x a=x a:=ju dg;have D:span r a (a+2) x (a+1)=x (a+1):=ju dg;refine⟨λi hi=>?_,λi hi hp=>?_,λi hi hp=>?_⟩<;>by_cases j:a<=i/\i<a+2;·grind
 ·exact(h.beside n hi j).1
 ·grind
 ·obtain⟨q,m,s⟩:=(h.beside n hi j).2.1 hp;rw[q,m];exact h.head i hi s
 ·grind
 ·obtain⟨q,m,k,J,s⟩:=(h.beside n hi j).2.2 hp;obtain⟨k',v,N,O⟩:=h.tail i hi m;grind
theorem ly.next(h:ly W r){m}(A:a<=m)(v:m<W)(F:∀j,(x j).p=0):span (span r a m x) m (m+1) x=span r a (m+1) x:=by
 by_cases e:a=m;·grind[ui]
 have i:a<m:=dg
 -- the cell at m,as it is f
 have E:(span r a m x m).p≠2/\((span r a m x m).p=1↔(r m).p=1):=by
  rcases kH (r:=r) (a:=a) (z:=m) (x:=x) (j:=m) dg with⟨g,_,G⟩|⟨g,h3|h3⟩;·rw[g];refine⟨λn=>?_,Iff.rfl⟩;obtain⟨k,D,s,_⟩:=h.tail m v n;grind
  ·omega
  ·rw[g,PX];refine⟨dg,λq=>dg,λq=>?_⟩;obtain⟨_,I,_⟩:=h.head (m-1) dg h3.2.2;grind
 grind[ju,span,bl]
end
def fill(c:Nat->Nat->Ce)(l r t d:Nat)(x:Nat->Ce):Nat->Nat->Ce:=λy=>if t<=y/\y<d then span (c y) l r x else c y
def PAll(W H:Nat)(c:Nat->Nat->Ce):Prop:=∀y,y<H->ly W (c y)
section
variable{W H l r t d:Nat} {c:Nat->Nat->Ce} {x:Nat->Ce}
theorem fR(h:¬(l<r/\t<d)):fill c l r t d x=c:=by grind[fill,ui]
theorem PAll.fill0(h:PAll W H c)(f:r<=W)(g:∀j,(x j).p=0):PAll W H (fill c l r t d x):=by
 intro y hy;unfold fill;split;·exact(h y hy).span0 f (λj _ _=>g j)
 ·exact h y hy
theorem PAll.fill2(h:PAll W H c)(s:l+2<=W)(h1:(x l).p=1)(i:(x (l+1)).p=2)(m:(x (l+1)).f=(x l).f)(n:(x (l+1)).g=(x l).g)(j:(x (l+1)).b=(x l).b)(q:(x (l+1)).t=Lo):PAll W H (fill c l (l+2) t d x):=by
 intro y hy;unfold fill;split;·exact(h y hy).span2 s h1 i m n j q
 ·exact h y hy
theorem tJ(f:t<=d):fill (fill c l r t d x) l r d (d+1) x=fill c l r t (d+1) x:=by grind[fill]
end
structure bp(M:Nat)(W W':World):Prop where
 os:W'.os=W.os
 tape:W'.tape=W.tape
 output:W'.output=W.output
 size:W.heap.size<=W'.heap.size
 block:∀b,b<W.heap.size->b≠M->W'.heap[b]?=W.heap[b]?
section
variable{M:Nat} {W W' W2:World}
theorem bp.refl M W:bp M W W:=⟨rfl,rfl,rfl,ae _,λ_ _ _=>rfl⟩
theorem bp.trans(h:bp M W W')(k:bp M W' W2):bp M W W2:=
 ⟨k.os.trans h.os,k.tape.trans h.tape,k.output.trans h.output,aF h.size k.size,λb h1 f=>(k.block b (zz007 h1 h.size) f).trans (h.block b h1 f)⟩
theorem bp.below(h:Bt W W'):bp M W W':=⟨h.os,h.tape,h.output,h.size,λb h1 _=>h.block b h1⟩
theorem bp.gr(h:Gr W W'):bp M W W':=bp.below h.below
theorem bp.thenGr(h:bp M W W')(k:Gr W' W2):bp M W W2:=h.trans (bp.gr k)
theorem bp.set(h:bp M W W'){k}(g:k=M\/W.heap.size<=k)o v:bp M W (W'.setCell (aj k o) v):=
 ⟨h.os,h.tape,h.output,by simpa[World.setCell]using h.size,λb h1 f=>(bK W' (aj k o) v b rd).trans (h.block b h1 f)⟩
theorem bp.low(h:bp M W W'){B}(j:B<=M)(i:B<=W.heap.size){f}(k:Below B f W):Below B f W':=
 ⟨h.os.trans k.os,h.tape.trans k.tape,h.output.trans k.output,aF k.size h.size,λb g=>(h.block b dg dg).trans (k.block b g)⟩
end
def c5(e:Ce):List Value:=[.string e.t,Iq e.f,Iq e.g,Iq e.b,Iq e.p]
theorem Hd e:(c5 e).length=5:=rfl
structure Cv(T:TypeId)(Q:World)(M W H:Nat)(c:Nat->Nat->Ce):Prop where
 arr:∃a,Q.heap[M]?=some (.cells a T (0,0))
 cell:∀y x,y<H->x<W->∀(k:Nat) u,(c5 (c y x))[k]?=some u->Q.cell? (aj M (y*W*5+x*5+k))=some u
def da(c:Nat->Nat->Ce)(y x:Nat)(e:Ce):Nat->Nat->Ce:=λy' x'=>if y'=y/\x'=x then e else c y' x'
theorem LC{W y x g f:Nat}(j:x<W)(i:f<W)(h:y*W+x=g*W+f):y=g/\x=f:=by
 have h1:(y*W+x)/W=y:=by rw[nM,Ko dg,Kq j,nK]
 have m:(g*W+f)/W=g:=by rw[nM,Ko dg,Kq i,nK]
 grind
theorem Ma{W y x k g f k'}(n:x<W)(j:f<W)(m:k<5)(i:k'<5)(h:y*W*5+x*5+k=g*W*5+f*5+k'):y=g/\x=f/\k=k':=by grind[LC]
section
variable{T:TypeId} {Q Q':World} {M W H:Nat} {c c':Nat->Nat->Ce}
theorem Cv.lt(h:Cv T Q M W H c):M<Q.heap.size:=by obtain⟨a,f⟩:=h.arr;grind
theorem Cv.fz(h:Cv T Q M W H c)j:Q.frozen? (aj M j)=false:=by obtain⟨a,f⟩:=h.arr;exact frozen_of_row _ _ _ _ _ f
theorem Cv.keep(h:Cv T Q M W H c)(f:Q'.heap[M]?=Q.heap[M]?):Cv T Q' M W H c:=by obtain⟨a,g⟩:=h.arr;exact⟨⟨a,f.trans g⟩,λy x hy i k u hu=>(bf (a:=(aj M _)) f).trans (h.cell y x hy i k u hu)⟩
theorem Cv.gr(h:Cv T Q M W H c)(g:Gr Q Q'):Cv T Q' M W H c:=h.keep (g.block h.lt)
theorem Cv.ch{N}(h:Cv T Q M W H c)(g:bp N Q Q')(f:M≠N):Cv T Q' M W H c:=h.keep (g.block M h.lt f)
theorem Cv.other{k}(h:Cv T Q M W H c)(f:M≠k)o v:Cv T (Q.setCell (aj k o) v) M W H c:=h.keep (bK Q (aj k o) v M f)
theorem Cv.same(h:Cv T Q M W H c)(g:∀y x,y<H->x<W->c y x=c' y x):Cv T Q M W H c':=
 ⟨h.arr,λy x hy f k u hu=>h.cell y x hy f k u rd⟩
theorem Cv.set1(h:Cv T Q M W H c){y x k}(hy:y<H)(F:x<W)(n:k<5)v(A:∀g f,c' g f=if g=y/\f=x then c' y x else c g f)(D:c5 (c' y x)=(c5 (c y x)).set k v):
 Cv T (Q.setCell (aj M (y*W*5+x*5+k)) v) M W H c':=by
 obtain⟨a,s⟩:=h.arr;refine⟨⟨_,heap_setCell_same _ M _ _ _ _ s⟩,λg f j i k' u hu=>?_⟩;have E:k'<5:=(lQ.1 hu).1;have m:=h.cell y x hy F k _ (dI (show k<(c5 (c y x)).length from n));by_cases e:g=y/\f=x
 ·obtain⟨rfl,rfl⟩:=e;rw[D]at hu;by_cases p:k'=k;·subst p;rw[Ke (show k'<(c5 (c g f)).length from n)]at hu;injection hu with hu;subst hu;exact sF _ _ _ m
  ·rw[sE dg]at hu;rw[c_ _ _ _ _ (λq=>rd)];exact h.cell g f j i k' u hu
 ·rw[A g f,if_neg e]at hu;rw[c_ _ _ _ _];·exact h.cell g f j i k' u hu
  grind[Ma]
theorem Cv.set(h:Cv T Q M W H c){y x}(hy:y<H)(i:x<W)e:
 Cv T (((((Q.setCell (aj M (y*W*5+x*5)) (.string e.t)).setCell (aj M (y*W*5+x*5+1)) (Iq e.f)).setCell (aj M (y*W*5+x*5+2)) (Iq e.g)).setCell (aj M (y*W*5+x*5+3)) (Iq e.b)).setCell (aj M (y*W*5+x*5+4)) (Iq e.p)) M W H (da c y x e):=by
 have u0:∀e,da c y x e y x=e:=λe=>by grind[da]
 have n:∀e q,∀m j,da c y x q m j=if m=y/\j=x then da c y x q y x else da c y x e m j:=λe q m j=>by grind[da]
 have s:=h.set1 (c':=da c y x {c y x with t:=e.t}) (k:=0) hy i dg (.string e.t) (λm j=>by rw[u0];rfl) (by rw[u0];rfl);have h1:=s.set1 (c':=da c y x {c y x with t:=e.t,f:=e.f}) (k:=1) hy i dg (Iq e.f) (n _ _) (by rw[u0,u0];rfl);have v:=h1.set1 (c':=da c y x {c y x with t:=e.t,f:=e.f,g:=e.g}) (k:=2) hy i dg (Iq e.g) (n _ _) (by rw[u0,u0];rfl);have A:=v.set1 (c':=da c y x {c y x with t:=e.t,f:=e.f,g:=e.g,b:=e.b}) (k:=3) hy i dg (Iq e.b) (n _ _) (by rw[u0,u0];rfl);exact A.set1 (c':=da c y x e) (k:=4) hy i dg (Iq e.p) (n _ _) (by rw[u0,u0];rfl)
theorem Cv.setPart(h:Cv T Q M W H c){y x}(hy:y<H)(f:x<W)p:
 Cv T (Q.setCell (aj M (y*W*5+x*5+4)) (Iq p)) M W H (da c y x {c y x with p:=p}):=
 h.set1 (k:=4) hy f dg _ (λi g=>by unfold da;simp) (by unfold da;rw[if_pos ⟨rfl,rfl⟩];rfl)
theorem Cv.setText(h:Cv T Q M W H c){y x}(hy:y<H)(f:x<W)s:
 Cv T (Q.setCell (aj M (y*W*5+x*5+0)) (.string s)) M W H (da c y x {c y x with t:=s}):=
 h.set1 (k:=0) hy f dg _ (λi g=>by unfold da;simp) (by unfold da;rw[if_pos ⟨rfl,rfl⟩];rfl)
theorem Cv.c0(h:Cv T Q M W H c){y x}(hy:y<H)(f:x<W):Q.cell? (aj M (y*W*5+x*5))=some (.string (c y x).t):=h.cell y x hy f 0 _ rfl
theorem Cv.c1(h:Cv T Q M W H c){y x}(hy:y<H)(g:x<W):Q.cell? (aj M (y*W*5+x*5+1))=some (Iq (c y x).f):=h.cell y x hy g 1 _ rfl
theorem Cv.c2(h:Cv T Q M W H c){y x}(hy:y<H)(f:x<W):Q.cell? (aj M (y*W*5+x*5+2))=some (Iq (c y x).g):=h.cell y x hy f 2 _ rfl
theorem Cv.c3(h:Cv T Q M W H c){y x}(hy:y<H)(f:x<W):Q.cell? (aj M (y*W*5+x*5+3))=some (Iq (c y x).b):=h.cell y x hy f 3 _ rfl
theorem Cv.c4(h:Cv T Q M W H c){y x}(hy:y<H)(f:x<W):Q.cell? (aj M (y*W*5+x*5+4))=some (Iq (c y x).p):=h.cell y x hy f 4 _ rfl
end
structure CS(TK T:TypeId)(Q:World)(K M cap W H:Nat)(c:Nat->Nat->Ce):Prop where
 kb:Q.heap[K]?=some (.cells #[Iq W,Iq H,Sq M (W*H) cap] TK (0,0))
 cv:Cv T Q M W H c
 ne:K≠M
 hc:W*H<=cap
section
variable{TK T:TypeId} {Q Q':World} {K M cap W H:Nat} {c c':Nat->Nat->Ce}
theorem CS.klt(h:CS TK T Q K M cap W H c):K<Q.heap.size:=(aD.1 h.kb).1
theorem CS.k0(h:CS TK T Q K M cap W H c):Q.cell? (aj K 0)=some (Iq W):=by have:=h.kb;simp[World.cell?,this]
theorem CS.k1(h:CS TK T Q K M cap W H c):Q.cell? (aj K 1)=some (Iq H):=by have:=h.kb;simp[World.cell?,this]
theorem CS.k2(h:CS TK T Q K M cap W H c):Q.cell? (aj K 2)=some (Sq M (W*H) cap):=by have:=h.kb;simp[World.cell?,this]
theorem CS.ch{N}(h:CS TK T Q K M cap W H c)(g:bp N Q Q')(h1:K≠N)(f:M≠N):CS TK T Q' K M cap W H c:=⟨(g.block K h.klt h1).trans h.kb,h.cv.ch g f,h.ne,h.hc⟩
theorem CS.gr(h:CS TK T Q K M cap W H c)(g:Gr Q Q'):CS TK T Q' K M cap W H c:=⟨(g.block h.klt).trans h.kb,h.cv.gr g,h.ne,h.hc⟩
theorem CS.put(h:CS TK T Q K M cap W H c)(g:bp M Q Q')(f:Cv T Q' M W H c'):CS TK T Q' K M cap W H c':=⟨(g.block K h.klt h.ne).trans h.kb,f,h.ne,h.hc⟩
end
def R3(T:TypeId)(W:World)(b:Nat)(x y a:Int):Prop:=W.heap[b]?=some (.cells #[Iq x,Iq y,Iq a] T (0,0))
section
variable{T:TypeId} {W W':World} {b k o:Nat} {x y a c:Int}
theorem R3.lt(h:R3 T W b x y a):b<W.heap.size:=(aD.1 h).1
theorem R3.c0(h:R3 T W b x y a):W.cell? (aj b 0)=some (Iq x):=by unfold R3 at h;simp[World.cell?,h]
theorem R3.c1(h:R3 T W b x y a):W.cell? (aj b 1)=some (Iq y):=by unfold R3 at h;simp[World.cell?,h]
theorem R3.c2(h:R3 T W b x y a):W.cell? (aj b 2)=some (Iq a):=by unfold R3 at h;simp[World.cell?,h]
theorem R3.fz(h:R3 T W b x y a)j:W.frozen? (aj b j)=false:=frozen_of_row _ _ _ _ _ h
theorem R3.gr(h:R3 T W b x y a)(g:Gr W W'):R3 T W' b x y a:=(g.block h.lt).trans h
theorem R3.new(W:World)x y a T:R3 T (W.alloc (.cells #[Iq x,Iq y,Iq a] T)) W.heap.size x y a:=heap_alloc_new _ _
theorem R3.other(h:R3 T W b x y a)(f:b≠k)v:R3 T (W.setCell (aj k o) v) b x y a:=(bK W (aj k o) v b f).trans h
theorem R3.set0(h:R3 T W b x y a)f:R3 T (W.setCell (aj b 0) (Iq f)) b f y a:=heap_setCell_same _ b 0 _ T _ h
theorem R3.set1(h:R3 T W b x y a)f:R3 T (W.setCell (aj b 1) (Iq f)) b x f a:=heap_setCell_same _ b 1 _ T _ h
theorem R3.set2(h:R3 T W b x y a)a':R3 T (W.setCell (aj b 2) (Iq a')) b x y a':=heap_setCell_same _ b 2 _ T _ h
theorem R3.set(h:R3 T W b x y a)f g a':R3 T (((W.setCell (aj b 0) (Iq f)).setCell (aj b 1) (Iq g)).setCell (aj b 2) (Iq a')) b f g a':=
 ((h.set0 f).set1 g).set2 a'
theorem R3.others(h:R3 T W b x y a)(f:b≠k)g v1 v2:R3 T (((W.setCell (aj k 0) g).setCell (aj k 1) v1).setCell (aj k 2) v2) b x y a:=((h.other f g).other f v1).other f v2
theorem Gr.set3(h:Gr W W')(f:W.heap.size<=k)g v1 v2:Gr W (((W'.setCell (aj k 0) g).setCell (aj k 1) v1).setCell (aj k 2) v2):=((h.set f g).set f v1).set f v2
end
def sv(f g b:Int):Value:=.agg #[Iq f,Iq g,Iq b]
def kn(n:Int):Int:=if n<0\/8<n then 0 else n
def bo(n:Int):Int:=if n=1 then 1 else 0
theorem ND n:0<=kn n/\kn n<=8:=by grind[kn]
theorem qu n:0<=bo n/\bo n<=1:=by grind[bo]
theorem Fu(n:Int)(w:World):Cw 128 #[Iq n] w λe w'=>e=Rw (Iq (kn n))/\w'=w:=by
 go_enter func128,ntmps128;by_cases h1:n<0;·go_wp2;go_ret;simp_all[kn]
 ·by_cases f:8<n;·go_wp2;go_ret;exact⟨by rw[show kn n=0 by unfold kn;rw[if_pos (.inr f)]];rfl,rfl⟩
  ·go_wp2;go_ret;exact⟨by rw[show kn n=n by unfold kn;rw[if_neg dg]];rfl,rfl⟩
theorem wT(f g b:Int)(w:World):Cw 59 #[sv f g b] w λe w'=>e=Rw (sv (kn f) (kn g) (bo b))/\Gr w w':=by
 have P:Hid (∀n w,Cw 128 #[Iq n] w λe w'=>e=Rw (Iq (kn n))/\w'=w):=Fu;obtain⟨x,j⟩:=ad (kn f);obtain⟨y,hy⟩:=ad (kn g);have i:=P f;have P2:=P g;rw[j]at i;rw[hy]at P2;unfold sv;go_enter func59,ntmps59;by_cases h:b=1;·subst h;go_wp2_with fail;go_region_held(λW=>W.cell? (aj w.heap.size 0)=some (Iq f)/\W.cell? (aj w.heap.size 1)=some (Iq g)/\W.cell? (aj w.heap.size 2)=some (Iq 1)) (go_keep) (first|(go_at_call 128;first|(with_reducible refine ag (i _) ?_;rintro e m ⟨rfl,rfl⟩)|(with_reducible refine ag (P2 _) ?_;rintro e m ⟨rfl,rfl⟩)));go_wp2;refine bodyPost_ret (v:=sv x y 1) (by simp[results,Tryz.results59,go_sem,sv]) rfl ?_;subst j hy;exact⟨rfl,(((Gr.refl w).alloc _).alloc _).drew⟩
 ·have p:bo b=0:=if_neg h;go_wp2_with fail;go_region_held(λW=>W.cell? (aj w.heap.size 0)=some (Iq f)/\W.cell? (aj w.heap.size 1)=some (Iq g)/\W.cell? (aj w.heap.size 2)=some (Iq 0)) (go_keep) (first|(go_at_call 128;first|(with_reducible refine ag (i _) ?_;rintro e m ⟨rfl,rfl⟩)|(with_reducible refine ag (P2 _) ?_;rintro e m ⟨rfl,rfl⟩)));go_wp2;refine bodyPost_ret (v:=sv x y 0) (by simp[results,Tryz.results59,go_sem,sv]) rfl ?_;subst j hy;exact⟨by rw[p];rfl,(((Gr.refl w).alloc _).alloc _).drew⟩
def ov(a b:Int):Int:=if kn b=0 then kn a else kn b
def sL(a b:Int):Int:=max (bo b) (bo a)
theorem QG a b:0<=ov a b/\ov a b<=8:=by have:=ND a;have:=ND b;unfold ov;split<;>omega
theorem OJ a b:0<=sL a b/\sL a b<=1:=by have:=qu a;have:=qu b;unfold sL;omega
theorem Qy{n}(h:0<=n/\n<=8):kn n=n:=if_neg dg
theorem PY{n}(h:0<=n/\n<=1):bo n=n:=by unfold bo;split<;>omega
theorem NE a b:kn (ov a b)=ov a b:=Qy (QG a b)
theorem N9 a b:bo (sL a b)=sL a b:=PY (OJ a b)
theorem DC a:ov 0 a=kn a:=by have:kn 0=0:=rfl;unfold ov;split<;>omega
theorem Jb a:sL 0 a=bo a:=by have:bo 0=0:=rfl;have:=qu a;unfold sL;omega
def P2(T:TypeId)(w u:World)(B C:Nat)(a b c:Int):Prop:=R3 T u B a b c/\R3 T u C 0 0 0/\Gr w u
section
variable{T:TypeId} {w u:World} {B C:Nat} {a b c:Int}
theorem P2.ch0(h:P2 T w u B C a b c)(i:C≠B)(g:w.heap.size<=B)(x:Int):∃f a',((a=0/\f=u.setCell (aj B 0) (Iq x)/\a'=x)\/(¬a=0/\f=u/\a'=a))/\P2 T w f B C a' b c:=by
 by_cases e:a=0;·exact⟨_,_,.inl ⟨e,rfl,rfl⟩,h.1.set0 x,h.2.1.other i _,h.2.2.set g _⟩
 ·exact⟨_,_,.inr ⟨e,rfl,rfl⟩,h⟩
theorem P2.ch1(h:P2 T w u B C a b c)(j:C≠B)(i:w.heap.size<=B)(x:Int):∃g f,((b=0/\g=u.setCell (aj B 1) (Iq x)/\f=x)\/(¬b=0/\g=u/\f=b))/\P2 T w g B C a f c:=by
 by_cases e:b=0;·exact⟨_,_,.inl ⟨e,rfl,rfl⟩,h.1.set1 x,h.2.1.other j _,h.2.2.set i _⟩
 ·exact⟨_,_,.inr ⟨e,rfl,rfl⟩,h⟩
theorem P2.set2(h:P2 T w u B C a b c)(g:C≠B)(f:w.heap.size<=B)(x:Int):P2 T w (u.setCell (aj B 2) (Iq x)) B C a b x:=⟨h.1.set2 x,h.2.1.other g _,h.2.2.set f _⟩
theorem Dp{p:Prop}{x y z:Int}{q r:Prop}[Decidable p](h:(p/\q/\z=x)\/(¬p/\r/\z=y)):(if p then x else y)=z:=rd
end
theorem ro(f g b f2 s p:Int)(w:World):Cw 29 #[sv f g b,sv f2 s p] w λe w'=>e=Rw (sv (ov f f2) (ov g s) (sL b p))/\Gr w w':=by
 have CC:Hid (∀f g b w,Cw 59 #[sv f g b] w λe w'=>e=Rw (sv (kn f) (kn g) (bo b))/\Gr w w'):=wT;unfold sv at CC⊢;go_enter func29,ntmps29;go_wp2_with fail;obtain⟨S,hS⟩:=ad w.heap.size;obtain⟨N,q⟩:=ad (((w.alloc (.cells #[Iq f,Iq g,Iq b] 50)).alloc (.cells #[Iq f2,Iq s,Iq p] 50)).alloc (.cells #[Iq 0,Iq 0,Iq 0] 50));have G0:Hid (Gr w N):=by rw[<-q];exact(((Gr.refl w).alloc _).alloc _).alloc _
 have P:Hid (R3 50 N S f g b):=by rw[<-q,<-hS];exact(R3.new w _ _ _ _).gr (((Gr.refl _).alloc _).alloc _)
 have R:Hid (R3 50 N (S+1) f2 s p):=by have:=R3.new (w.alloc (.cells #[Iq f,Iq g,Iq b] 50)) f2 s p 50;simp only[au,hS]at this;rw[<-q];exact this.gr ((Gr.refl _).alloc _)
 have RC:Hid (R3 50 N (S+1+1) 0 0 0):=by have:=R3.new ((w.alloc (.cells #[Iq f,Iq g,Iq b] 50)).alloc (.cells #[Iq f2,Iq s,Iq p] 50)) 0 0 0 50;simp only[au,hS]at this;rw[<-q];exact this
 rw[q,hS];clear q;have Y:Hid (w.heap.size=S):=hS;clear hS;have a0:=P.c0;have a1:=P.c1;have a2:=P.c2;have b0:=R.c0;have b1:=R.c1;have G:=R.c2;obtain⟨x,hx⟩:=ad (kn f);obtain⟨y,hy⟩:=ad (kn g);obtain⟨z,hz⟩:=ad (bo b);obtain⟨E,V⟩:=ad (kn f2);obtain⟨F,X⟩:=ad (kn s);obtain⟨m,J⟩:=ad (bo p);have HV:Hid (sv (ov f f2) (ov g s) (sL b p)=sv (if E=0 then x else E) (if F=0 then y else F) (max m z)):=by show _=_;unfold ov sL;rw[hx,hy,hz,V,X,J]
 have bz:=qu b;have za:=qu p;rw[hz]at bz;rw[J]at za;have C1:=CC f g b;have C2:=CC f2 s p;rw[hx,hy,hz]at C1;rw[V,X,J]at C2;go_cut[2,3,4]from 5 to 9 (λu v t wx=>u=Pq S/\v=Pq (S+1)/\t=Pq (S+1+1)/\Hid (R3 50 wx S x y z/\R3 50 wx (S+1) E F m/\R3 50 wx (S+1+1) 0 0 0/\Gr w wx));case first=>
  go_region_with(go_at_call 59;(first|(with_reducible refine ag (C1 _) ?_)|(with_reducible refine ag (C2 _) ?_));rintro e L ⟨rfl,I⟩;have A:Hid (Gr N L):=(by first|exact((Gr.refl N).drew).trans I|exact Gr.trans (Hid.out (by assumption)) I);have i:Hid (R3 50 L S f g b):=P.out.gr A.out;have j:Hid (R3 50 L (S+1) f2 s p):=R.out.gr A.out;clear I;have m0:=i.out.c0;have m1:=i.out.c1;have m2:=i.out.c2;have n0:=j.out.c0;have n1:=j.out.c1;have n2:=j.out.c2;have f0:=i.out.fz 0;have f1:=i.out.fz 1;have zb:=i.out.fz 2;have g0:=j.out.fz 0;have g1:=j.out.fz 1;have U:=j.out.fz 2);all_goals
   have n:Hid (R3 50 ((((((L.setCell (aj S 0) (Iq x)).setCell (aj S 1) (Iq y)).setCell (aj S 2) (Iq z)).setCell (aj (S+1) 0) (Iq E)).setCell (aj (S+1) 1) (Iq F)).setCell (aj (S+1) 2) (Iq m)) S x y z/\R3 50 ((((((L.setCell (aj S 0) (Iq x)).setCell (aj S 1) (Iq y)).setCell (aj S 2) (Iq z)).setCell (aj (S+1) 0) (Iq E)).setCell (aj (S+1) 1) (Iq F)).setCell (aj (S+1) 2) (Iq m)) (S+1) E F m/\R3 50 ((((((L.setCell (aj S 0) (Iq x)).setCell (aj S 1) (Iq y)).setCell (aj S 2) (Iq z)).setCell (aj (S+1) 0) (Iq E)).setCell (aj (S+1) 1) (Iq F)).setCell (aj (S+1) 2) (Iq m)) (S+1+1) 0 0 0/\Gr w ((((((L.setCell (aj S 0) (Iq x)).setCell (aj S 1) (Iq y)).setCell (aj S 2) (Iq z)).setCell (aj (S+1) 0) (Iq E)).setCell (aj (S+1) 1) (Iq F)).setCell (aj (S+1) 2) (Iq m))):=
    ⟨(i.set x y z).others dg _ _ _,(j.others dg _ _ _).set E F m,((RC.gr A).others dg _ _ _).others dg _ _ _,((G0.trans A).set3 (by rw[Y.out];omega) _ _ _).set3 (by rw[Y.out];omega) _ _ _⟩;clear m0 m1 m2 n0 n1 n2 f0 f1 zb g0 g1 U a0 a1 a2 b0 b1 G i j;go_wp2_with fail;go_meet;exact⟨rfl,rfl,rfl,n⟩
 case rest=>
  obtain⟨rfl,rfl,rfl,n⟩:=hcut;clear a0 a1 a2 b0 b1 G P R RC;have a0:=n.1.c0;have a1:=n.1.c1;have a2:=n.1.c2;have b0:=n.2.1.c0;have b1:=n.2.1.c1;have G:=n.2.1.c2;have g0:=n.2.1.fz 0;have g1:=n.2.1.fz 1;have U:=n.2.1.fz 2;have gg:=n.2.2.2;have hl:w.heap.size<=S+1:=by rw[Y.out];omega
  obtain⟨W1,x3,q1,p1⟩:=P2.ch0 (C:=S+1+1) (w:=w) n.out.2 dg hl x;obtain⟨W2,y3,q2,p2⟩:=p1.ch1 dg hl y;obtain⟨Z,O,q3,D⟩:∃Z O,((m<z/\m<=z/\Z=W2.setCell (aj (S+1) 2) (Iq z)/\O=z)\/(¬m<z/\z<=m/\Z=W2.setCell (aj (S+1) 2) (Iq m)/\O=m))/\P2 50 w Z (S+1) (S+1+1) x3 y3 O:=by
   by_cases h:m<z;·exact⟨_,_,.inl ⟨h,dg,rfl,rfl⟩,p2.set2 dg hl z⟩
   ·exact⟨_,_,.inr ⟨h,dg,rfl,rfl⟩,p2.set2 dg hl m⟩
  have HW:Hid (sv (ov f f2) (ov g s) (sL b p)=sv x3 y3 O):=by show _=_;rw[HV.out,Dp q1,Dp q2,show max m z=O by omega]
  clear p1 p2;rcases q1 with⟨h1,rfl,rfl⟩|⟨h1,rfl,rfl⟩<;>rcases q2 with⟨h2,rfl,rfl⟩|⟨h2,rfl,rfl⟩<;>rcases q3 with⟨h3,zc,rfl,rfl⟩|⟨h3,zc,rfl,rfl⟩;all_goals have n0:=D.1.c0;have n1:=D.1.c1;have n2:=D.1.c2;have o0:=D.2.1.c0;have o1:=D.2.1.c1;have o2:=D.2.1.c2;have k0:=D.2.1.fz;go_wp2;refine bodyPost_ret (results_cell_row rfl _ _ (S+1+1) _ _ _ _ rfl (D.2.1.set _ _ _) underlying50 rfl ns) rfl ?_;exact⟨by show _=Ending.returned (sv (ov f f2) (ov g s) (sL b p));rw[HW.out];rfl,D.2.2.set3 (by rw[Y.out];omega) _ _ _⟩
def Dg(e:Ce):Value:=.agg #[.string e.t,Iq e.f,Iq e.g,Iq e.b,Iq e.p]
theorem lZ(f g b:Int)(w:World):Cw 28 #[sv f g b] w λe w'=>e=Rw (Dg (bk f g b))/\Gr w w':=by unfold sv;go_enter func28,ntmps28;go_wp2;refine bodyPost_ret (v:=Dg (bk f g b)) (by simp[results,Tryz.results28,go_sem,Dg,bk,O1]) rfl ?_;exact⟨rfl,((Gr.refl w).alloc _).alloc _⟩
theorem qD(f g b:Int)(w:World):Cw 61 #[sv f g b] w λe w'=>e=Rw (sv (kn f) (kn g) (bo b))/\Gr w w':=by have s:Hid (∀f g b f2 n m w,Cw 29 #[sv f g b,sv f2 n m] w λe w'=>e=Rw (sv (ov f f2) (ov g n) (sL b m))/\Gr w w'):=ro;have i:=s 0 0 0 f g b;rw[DC,DC,Jb]at i;unfold sv at i⊢;go_enter func61,ntmps61;go_wp2_with(go_at_call 29;refine ag (i _) ?_;rintro e p ⟨rfl,j⟩;have h:Hid (R3 50 p (w.heap.size+1) 0 0 0):=((by have:=R3.new (w.alloc (.cells #[Iq f,Iq g,Iq b] 50)) 0 0 0 50;simp_all):R3 50 _ (w.heap.size+1) 0 0 0).gr j;have v:=h.c0;have c1:=h.c1;have c2:=h.c2;have f0:=h.fz 0;have f1:=h.fz 1;have f2:=h.fz 2;have q:Hid (Gr w p):=(((Gr.refl w).alloc _).alloc _).trans j;clear j);refine bodyPost_ret (results_cell_row rfl _ _ (w.heap.size+1) _ _ _ _ rfl (h.set _ _ _) underlying50 rfl ns) rfl ?_;exact⟨rfl,q.set3 dg _ _ _⟩
theorem JL(n:Int)(w:World):Cw 26 #[Iq n] w λe w'=>e=Rw (.bool (decide (1<=n/\n<=400)))/\w'=w:=by
 by_cases h1:1<=n
 ·by_cases f:n<=400;·rw[show decide (1<=n/\n<=400)=true from decide_eq_true ⟨h1,f⟩];go_enter func26,ntmps26;go_wp2;go_ret;simp_all
  ·rw[show decide (1<=n/\n<=400)=false from decide_eq_false dg];go_enter func26,ntmps26;go_wp2;go_ret;simp_all
 ·rw[show decide (1<=n/\n<=400)=false from decide_eq_false dg];go_enter func26,ntmps26;go_wp2;go_ret;simp_all
section
variable{K M cap W H:Nat} {c:Nat->Nat->Ce}
theorem Mu(w:World)(h:CS 91 73 w K M cap W H c)(v:0<W)(j:W<=400)(i:H<=400)(y:Nat)(hy:y<H):Cw 129 #[Pq K,Iq y] w λe w'=>e=Rw (.slice (some (aj M (y*W*5))) W W)/\Gr w w':=by
 have A:=h.k0;have q:=h.k2;have m:=h.hc;obtain⟨p,hp⟩:=ad (y*W);obtain⟨n,f⟩:=ad (W*H);have g:(y:Int)*(W:Int)=(p:Int):=by rw[<-hp];simp
 have s:((y:Int)+1)*(W:Int)=(p:Int)+(W:Int):=by rw[D_,g];omega
 have E:p+W<=n:=by rw[<-hp,<-f,nM W H,<-Nat.succ_mul];exact lR _ dg
 have D:n<=160000:=by rw[<-f];exact jJ j i
 rw[f]at q m;rw[hp];have F:¬W=0:=dg;have G:¬p+W=p:=dg;clear h f hp;go_enter func129,ntmps129;go_wp2_with fail;go_quiet(fail);go_wp2;go_ret;refine⟨?_,(Gr.refl w).drewN _⟩;simp_all
end
def eV(c:Nat->Nat->Ce)(y a:Nat):Nat->Nat->Ce:=λy' x'=>if y'=y/\x'+1=a/\(c y a).p=2 then bl (c y' x')else c y' x'
def AU(c:Nat->Nat->Ce)(y q:Nat):Nat->Nat->Ce:=λy' x'=>if y'=y/\x'=q+1/\(c y q).p=1 then bl (c y' x')else c y' x'
def cut(c:Nat->Nat->Ce)(y a q:Nat):Nat->Nat->Ce:=AU (eV c y a) y q
theorem nX{c}{y a}(h:¬(c y a).p=2):eV c y a=c:=by grind[eV]
theorem kT{c}{y a}(h:¬(c y a).p=1):AU c y a=c:=by grind[AU]
theorem nY{c}{y k}(h:(c y (k+1)).p=2):eV c y (k+1)=da c y k (bl (c y k)):=by grind[eV,da]
theorem nZ{c}{y q}(h:(c y q).p=1):AU c y q=da c y (q+1) (bl (c y (q+1))):=by grind[AU,da]
theorem pR{c}{y a x}(h:a<=x)f:eV c y a f x=c f x:=by grind[eV]
section
variable{K M cap W H:Nat} {c:Nat->Nat->Ce}
theorem yR(w:World)(h:CS 91 73 w K M cap W H c)(h0:0<W)(hW:W<=400)(hH:H<=400)(y a q:Nat)(hy:y<H)(za:a<=q)(hq:q<W)(hp:ly W (c y)):Cw 62 #[Pq K,Iq y,Iq a,Iq ((q:Int)+1)] w λe w'=>e=Rw (.slice (some (aj M (y*W*5+a*5))) (q+1-a) (q+1-a))/\Cv 73 w' M W H (cut c y a q)/\bp M w w':=by
 have U:Hid (Cw 129 #[Pq K,Iq y] w λe w'=>e=Rw (.slice (some (aj M (y*W*5))) W W)/\Gr w w'):=Mu w h h0 hW hH y hy;have L:Hid (∀f g b w,Cw 28 #[sv f g b] w λe w'=>e=Rw (Dg (bk f g b))/\Gr w w'):=lZ;have HV:Hid (Cv 73 w M W H c):=h.cv;have HP:Hid (ly W (c y)):=hp;obtain⟨o,I⟩:=ad (y*W*5);have n:Hid (y*W*5=o):=I;unfold sv Dg bk at L;rw[I]at U;clear h hp;rw[I];clear I;go_enter func62,ntmps62;go_wp2_with fail;refine ag U ?_;rintro e w1 ⟨rfl,g1⟩;have v:Hid (Cv 73 w1 M W H c):=HV.gr g1;have N:Hid (bp M w w1):=bp.gr g1;clear g1 HV U;have Z:=v.c4 hy (show a<W by omega);rw[n.out]at Z;obtain⟨pa,D⟩:=ad ((c y a).p);rw[D]at Z;have P:Hid ((c y a).p=pa):=D;clear D;go_upto_if 18 with fail;go_cut[9]from 13 to 29 (λu G=>u=.slice (some (aj M o)) W W/\Hid (Cv 73 G M W H (eV c y a)/\bp M w G));case first=>
  by_cases j:pa=2
  ·obtain⟨k,ze,zc,_⟩:=HP.tail a dg (P.trans j);subst ze;have R:Hid (eV c y (k+1)=da c y k (bl (c y k))):=nY (P.trans j);subst j;clear zc;have V:=v.c1 hy (show k<W by omega);have X:=v.c2 hy (show k<W by omega);have Y:=v.c3 hy (show k<W by omega);rw[n.out]at V X Y;go_wp2_with(go_at_call 28;refine ag (L _ _ _ _) ?_;rintro e F ⟨rfl,A⟩;have i:Hid (Cv 73 F M W H c):=v.gr A;have O:Hid (bp M w F):=N.thenGr A;clear A;have d0:=i.c0 hy (show k<W by omega);have d1:=i.c1 hy (show k<W by omega);have d2:=i.c2 hy (show k<W by omega);have d3:=i.c3 hy (show k<W by omega);have d4:=i.c4 hy (show k<W by omega);rw[n.out]at d0 d1 d2 d3 d4;have f0:=i.fz;have fl:=i.lt);go_meet;refine⟨rfl,?_,?_⟩;·rw[R.out,<-n.out];exact i.set hy (show k<W by omega) (bl (c y k))
   ·exact((((O.set (.inl rfl) _ _).set (.inl rfl) _ _).set (.inl rfl) _ _).set (.inl rfl) _ _).set (.inl rfl) _ _
  ·have zg:(pa==2)=false:=by simpa using j
   go_wp2_with fail;go_meet;exact⟨rfl,by rw[nX (by rw[P.out];exact j)];exact v,N⟩
 case rest=>
  obtain⟨rfl,s⟩:=hcut;clear v N Z;have cq:=s.1.c4 hy hq;rw[n.out]at cq;obtain⟨J,E⟩:=ad ((eV c y a y q).p);rw[E]at cq;have S:Hid ((eV c y a y q).p=J):=E;clear E;have zb:Hid ((c y q).p=J):=by have:=S.out;rw[pR za]at this;exact this
  go_upto_if 36 with fail;go_cut[9]from 13 to 45 (λu G=>u=.slice (some (aj M o)) W W/\Hid (Cv 73 G M W H (cut c y a q)/\bp M w G));case first=>
   by_cases j:J=1
   ·obtain⟨m,_⟩:=HP.head q hq (zb.trans j);have R:Hid (cut c y a q=da (eV c y a) y (q+1) (bl (eV c y a y (q+1)))):=nZ (S.trans j);subst j;have V:=s.1.c1 hy m;have X:=s.1.c2 hy m;have Y:=s.1.c3 hy m;rw[n.out]at V X Y;go_wp2_with(go_at_call 28;refine ag (L _ _ _ _) ?_;rintro e F ⟨rfl,A⟩;have i:Hid (Cv 73 F M W H (eV c y a)):=s.1.gr A;have O:Hid (bp M w F):=s.2.thenGr A;clear A;have d0:=i.c0 hy m;have d1:=i.c1 hy m;have d2:=i.c2 hy m;have d3:=i.c3 hy m;have d4:=i.c4 hy m;rw[n.out]at d0 d1 d2 d3 d4;have f0:=i.fz;have fl:=i.lt);go_meet;refine⟨rfl,?_,?_⟩;·rw[R.out,<-n.out];exact i.set hy m (bl (eV c y a y (q+1)))
    ·exact((((O.set (.inl rfl) _ _).set (.inl rfl) _ _).set (.inl rfl) _ _).set (.inl rfl) _ _).set (.inl rfl) _ _
   ·have zg:(J==1)=false:=by simpa using j
    go_wp2_with fail;go_meet;exact⟨rfl,by unfold cut;rw[kT (by rw[S.out];exact j)];exact s.1,s.2⟩
  case rest=>
   obtain⟨rfl,HZ⟩:=hcut;have zh:a<=W:=dg;have nz:¬q+1=a:=dg;go_wp2;go_ret;exact⟨rfl,HZ.1,HZ.2⟩
end
def d_(ax ay aw ah bx mO bw bh:Int):Int×Int×Int×Int:=if eQ ax aw bx bw>=fQ ax aw bx bw\/eQ ay ah mO bh>=fQ ay ah mO bh then(0,0,0,0)else(eQ ax aw bx bw,eQ ay ah mO bh,fQ ax aw bx bw-eQ ax aw bx bw,fQ ay ah mO bh-eQ ay ah mO bh)
theorem qw i j h g p f n m:nW i j h g p f n m=rv (d_ i j h g p f n m).1 (d_ i j h g p f n m).2.1 (d_ i j h g p f n m).2.2.1 (d_ i j h g p f n m).2.2.2:=by grind[nW,d_]
def cj(W H:Int)(x y a b cx cy ca cb:Int):Int×Int×Int×Int:=d_ 0 0 W H (d_ x y a b cx cy ca cb).1 (d_ x y a b cx cy ca cb).2.1 (d_ x y a b cx cy ca cb).2.2.1 (d_ x y a b cx cy ca cb).2.2.2
structure jQ(W H:Int)(x y a b cx cy ca cb:Int)(l t u v:Int):Prop where
 l0:0<=l
 t0:0<=t
 u0:0<=u
 v0:0<=v
 lu:l+u<=W
 tv:t+v<=H
 uv:0<u↔0<v
 mem:∀p q,(l<=p/\p<l+u/\t<=q/\q<t+v)↔((0<=p/\p<W/\0<=q/\q<H)/\(aJ x<=p/\p<aJ x+aO a/\aJ y<=q/\q<aJ y+aO b)/\(aJ cx<=p/\p<aJ cx+aO ca/\aJ cy<=q/\q<aJ cy+aO cb))
def cq(px py pa pb qx qy qa qb:Int):Int×Int×Int×Int:=if max px qx>=min (px+pa) (qx+qa)\/max py qy>=min (py+pb) (qy+qb)then(0,0,0,0)else(max px qx,max py qy,min (px+pa) (qx+qa)-max px qx,min (py+pb) (qy+qb)-max py qy)
theorem Hr f g h i qx qy qa qb p q:((cq f g h i qx qy qa qb).1<=p/\p<(cq f g h i qx qy qa qb).1+(cq f g h i qx qy qa qb).2.2.1/\(cq f g h i qx qy qa qb).2.1<=q/\q<(cq f g h i qx qy qa qb).2.1+(cq f g h i qx qy qa qb).2.2.2)↔((f<=p/\p<f+h/\g<=q/\q<g+i)/\(qx<=p/\p<qx+qa/\qy<=q/\q<qy+qb)):=by unfold cq;grind
theorem Np f g i j qx qy qa qb(h1:-100000<=f/\f<=100000)(m:-100000<=g/\g<=100000)(n:0<=i/\i<=100000)(p:0<=j/\j<=100000)(q:-100000<=qx/\qx<=100000)(s:-100000<=qy/\qy<=100000):
 (-100000<=(cq f g i j qx qy qa qb).1/\(cq f g i j qx qy qa qb).1<=100000)/\(-100000<=(cq f g i j qx qy qa qb).2.1/\(cq f g i j qx qy qa qb).2.1<=100000)/\(0<=(cq f g i j qx qy qa qb).2.2.1/\(cq f g i j qx qy qa qb).2.2.1<=100000)/\(0<=(cq f g i j qx qy qa qb).2.2.2/\(cq f g i j qx qy qa qb).2.2.2<=100000)/\(0<(cq f g i j qx qy qa qb).2.2.1↔0<(cq f g i j qx qy qa qb).2.2.2):=by by_cases h:max f qx>=min (f+i) (qx+qa)\/max g qy>=min (g+j) (qy+qb);all_goals grind[cq]
theorem P_{W H qx qy qa qb}(g:1<=W)(f:1<=H):0<=(cq 0 0 W H qx qy qa qb).1/\0<=(cq 0 0 W H qx qy qa qb).2.1/\(cq 0 0 W H qx qy qa qb).1+(cq 0 0 W H qx qy qa qb).2.2.1<=W/\(cq 0 0 W H qx qy qa qb).2.1+(cq 0 0 W H qx qy qa qb).2.2.2<=H:=by grind[cq]
theorem Dd i j h g p f n m:d_ i j h g p f n m=cq (aJ i) (aJ j) (aO h) (aO g) (aJ p) (aJ f) (aO n) (aO m):=rfl
theorem de{W H}(I:1<=W/\W<=400)(G:1<=H/\H<=400)x y a b f g h i:
 jQ W H x y a b f g h i (cj W H x y a b f g h i).1 (cj W H x y a b f g h i).2.1 (cj W H x y a b f g h i).2.2.1 (cj W H x y a b f g h i).2.2.2:=by have k:=Np (aJ x) (aJ y) (aO a) (aO b) (aJ f) (aJ g) (aO h) (aO i) (cH x) (cH y) (bQ a) (bQ b) (cH f) (cH g);have E:=Hr (aJ x) (aJ y) (aO a) (aO b) (aJ f) (aJ g) (aO h) (aO i);unfold cj;rw[Dd x y a b f g h i];generalize cq (aJ x) (aJ y) (aO a) (aO b) (aJ f) (aJ g) (aO h) (aO i)=z at k E⊢;obtain⟨m,s,v,A⟩:=z;simp only at k E⊢;rw[Dd,eY (n:=m) k.1,eY (n:=s) k.2.1,cN (n:=v) k.2.2.1,cN (n:=A) k.2.2.2.1,cN (n:=W) dg,cN (n:=H) dg,show aJ 0=0 from rfl];have D:=Np 0 0 W H m s v A dg dg dg dg k.1 k.2.1;have F:=Hr 0 0 W H m s v A;have j:=P_ (qx:=m) (qy:=s) (qa:=v) (qb:=A) I.1 G.1;generalize cq 0 0 W H m s v A=z at D F j⊢;obtain⟨J,L,N,O⟩:=z;simp only at D F j⊢;refine⟨j.1,j.2.1,D.2.2.1.1,D.2.2.2.1.1,j.2.2.1,j.2.2.2,D.2.2.2.2,λp q=>?_⟩;grind
section
variable{K M cap W H:Nat} {c:Nat->Nat->Ce}
theorem yJ(w:World)(h:CS 91 73 w K M cap W H c)(x y a b q A n p:Int):Cw 60 #[Pq K,rv x y a b,rv q A n p] w λe w'=>e=Rw (rv (cj W H x y a b q A n p).1 (cj W H x y a b q A n p).2.1 (cj W H x y a b q A n p).2.2.1 (cj W H x y a b q A n p).2.2.2)/\Gr w w':=by
 have k0:=h.k0;have k1:=h.k1;have kl:=h.klt;clear h;have CP:Hid (∀F G E D L i J I w,Cw 51 #[rv F G E D,rv L i J I] w λe w'=>e=Rw (rv (d_ F G E D L i J I).1 (d_ F G E D L i J I).2.1 (d_ F G E D L i J I).2.2.1 (d_ F G E D L i J I).2.2.2)/\Gr w w'):=λF G E D L i J I w=>by rw[<-qw];exact De F G E D L i J I w
 obtain⟨q1,O⟩:=ad (d_ x y a b q A n p);have U:=CP x y a b q A n p;rw[O]at U;obtain⟨i0,i1,i2,i3⟩:=q1;obtain⟨q2,P⟩:=ad (d_ 0 0 (W:Int) (H:Int) i0 i1 i2 i3);have V:=CP 0 0 W H i0 i1 i2 i3;rw[P]at V;obtain⟨j0,j1,j2,j3⟩:=q2;have HQ:Hid (cj W H x y a b q A n p=(j0,j1,j2,j3)):=by show _=_;unfold cj;rw[O];exact P
 rw[HQ.out];clear O P CP;unfold rv at U V⊢;simp only at U V⊢;go_enter func60,ntmps60;go_wp2_with fail;obtain⟨S,hS⟩:=ad w.heap.size;have HS:Hid (w.heap.size=S):=hS;obtain⟨m,j⟩:=ad (((w.alloc (.cells #[Iq x,Iq y,Iq a,Iq b] 52)).alloc (.cells #[Iq q,Iq A,Iq n,Iq p] 52)).alloc (.cells #[Iq 0,Iq 0,Iq 0,Iq 0] 52));have X:Hid (Gr w m):=by rw[<-j];exact(((Gr.refl w).alloc _).alloc _).alloc _
 have RA:Hid (R4 52 m S x y a b):=by rw[<-j,<-hS];exact(R4.new w _ _ _ _ _).gr (((Gr.refl _).alloc _).alloc _)
 have RB:Hid (R4 52 m (S+1) q A n p):=by have:=R4.new (w.alloc (.cells #[Iq x,Iq y,Iq a,Iq b] 52)) q A n p 52;simp only[au,hS]at this;rw[<-j];exact this.gr ((Gr.refl _).alloc _)
 have RC:Hid (R4 52 m (S+1+1) 0 0 0 0):=by have:=R4.new ((w.alloc (.cells #[Iq x,Iq y,Iq a,Iq b] 52)).alloc (.cells #[Iq q,Iq A,Iq n,Iq p] 52)) 0 0 0 0 52;simp only[au,hS]at this;rw[<-j];exact this
 have za:=(bf (a:=(aj K 0)) (X.block kl)).trans k0;have zb:=(bf (a:=(aj K 1)) (X.block kl)).trans k1;have sz:Hid (m.heap.size=S+3):=by show m.heap.size=S+3;rw[<-j];simp only[au,hS]
 have zc:K<m.heap.size:=by rw[sz.out,<-HS.out];omega
 rw[j,hS];clear j hS k0 k1;go_cut[4,5,6,7]from 8 to 16 (λu v t s R=>u=Pq S/\v=Pq (S+1)/\t=Pq (S+1+1)/\s=Pq m.heap.size/\Hid (R4 52 R S x y a b/\R4 52 R (S+1) q A n p/\R4 52 R (S+1+1) 0 0 0 0/\R4 52 R m.heap.size 0 0 W H/\Gr w R));case first=>go_region;all_goals go_wp2_with fail;go_meet;have Y:Gr m (m.alloc (.cells #[Iq 0,Iq 0,Iq W,Iq H] 52)).drew:=((Gr.refl m).alloc _).drew;exact⟨rfl,rfl,rfl,rfl,RA.gr Y,RB.gr Y,RC.gr Y,(R4.new m 0 0 W H _).gr ((Gr.refl _).drew),X.trans Y⟩
 case rest=>obtain⟨rfl,rfl,rfl,rfl,g⟩:=hcut;obtain⟨Z,hZ⟩:=ad m.heap.size;have HZ:Hid (Z=S+3):=hZ.symm.trans sz;rw[hZ]at g;rw[hZ];clear hZ RA RB RC zc za zb X sz;have a0:=g.1.c0;have a1:=g.1.c1;have a2:=g.1.c2;have a3:=g.1.c3;have b0:=g.2.1.c0;have b1:=g.2.1.c1;have b2:=g.2.1.c2;have b3:=g.2.1.c3;have z0:=g.2.2.2.1.c0;have z1:=g.2.2.2.1.c1;have z2:=g.2.2.2.1.c2;have z3:=g.2.2.2.1.c3;go_wp2_with fail;go_region_with(go_at_call 51;(first|(with_reducible refine ag (U _) ?_)|(with_reducible refine ag (V _) ?_));rintro e wn ⟨rfl,N⟩;have f:Hid (Gr wc wn):=(by first|exact((Gr.refl wc).drew).trans N|exact Gr.trans (Hid.out (by assumption)) N);clear N;have m0:=(g.out.1.gr f.out).c0;have m1:=(g.out.1.gr f.out).c1;have m2:=(g.out.1.gr f.out).c2;have m3:=(g.out.1.gr f.out).c3;have n0:=(g.out.2.1.gr f.out).c0;have n1:=(g.out.2.1.gr f.out).c1;have n2:=(g.out.2.1.gr f.out).c2;have n3:=(g.out.2.1.gr f.out).c3;have o0:=(g.out.2.2.2.1.gr f.out).c0;have o1:=(g.out.2.2.2.1.gr f.out).c1;have o2:=(g.out.2.2.2.1.gr f.out).c2;have o3:=(g.out.2.2.2.1.gr f.out).c3;have p0:=(g.out.2.2.1.gr f.out).c0;have p1:=(g.out.2.2.1.gr f.out).c1;have p2:=(g.out.2.2.1.gr f.out).c2;have p3:=(g.out.2.2.1.gr f.out).c3;have f0:=(g.out.2.2.1.gr f.out).fz 0;have f1:=(g.out.2.2.1.gr f.out).fz 1;have f2:=(g.out.2.2.1.gr f.out).fz 2;have f3:=(g.out.2.2.1.gr f.out).fz 3);all_goals go_wp2_with fail;refine bodyPost_ret (results_cell_row rfl _ _ (S+1+1) _ _ _ _ rfl ((g.2.2.1.gr f).set _ _ _ _) underlying52 rfl ns) rfl ?_;exact⟨rfl,(g.2.2.2.2.trans f).set4 (by rw[HS.out];omega) _ _ _ _⟩
end
def part(c:Nat->Nat->Ce)(y a q i:Nat)(x:Nat->Ce):Nat->Nat->Ce:=λy' x'=>if y'=y/\a<=x'/\x'<a+i then x x' else cut c y a q y' x'
theorem oy c y a q x:part c y a q 0 x=cut c y a q:=by grind[part]
theorem l5 c y a q i x:da (part c y a q i x) y (a+i) (x (a+i))=part c y a q (i+1) x:=by grind[part,da,cut]
theorem lf c y a q x(h:a<=q):part c y a q (q+1-a) x=fill c a (q+1) y (y+1) x:=by
 funext f g;unfold part fill;by_cases hy:f=y
 ·subst hy;rw[if_pos (c:=f<=f/\f<f+1) dg];unfold span;by_cases h1:a<=g/\g<q+1;·grind
  ·rw[if_neg dg,if_neg h1];unfold cut AU;grind[eV,pR]
 ·rw[if_neg (λk=>hy k.1),if_neg dg];simp_all[cut,AU,eV]
def R5(T:TypeId)(Q:World)(b:Nat)(e:Ce):Prop:=Q.heap[b]?=some (.cells #[.string e.t,Iq e.f,Iq e.g,Iq e.b,Iq e.p] T (0,0))
section
variable{T:TypeId} {Q Q':World} {b k:Nat} {e:Ce}
theorem R5.lt(h:R5 T Q b e):b<Q.heap.size:=(aD.1 h).1
theorem R5.c0(h:R5 T Q b e):Q.cell? (aj b 0)=some (.string e.t):=by unfold R5 at h;simp[World.cell?,h]
theorem R5.c1(h:R5 T Q b e):Q.cell? (aj b 1)=some (Iq e.f):=by unfold R5 at h;simp[World.cell?,h]
theorem R5.c2(h:R5 T Q b e):Q.cell? (aj b 2)=some (Iq e.g):=by unfold R5 at h;simp[World.cell?,h]
theorem R5.c3(h:R5 T Q b e):Q.cell? (aj b 3)=some (Iq e.b):=by unfold R5 at h;simp[World.cell?,h]
theorem R5.c4(h:R5 T Q b e):Q.cell? (aj b 4)=some (Iq e.p):=by unfold R5 at h;simp[World.cell?,h]
theorem R5.gr(h:R5 T Q b e)(g:Gr Q Q'):R5 T Q' b e:=(g.block h.lt).trans h
theorem R5.ch(h:R5 T Q b e)(g:bp k Q Q')(f:b≠k):R5 T Q' b e:=(g.block b h.lt f).trans h
theorem R5.new(Q:World)e T:R5 T (Q.alloc (.cells #[.string e.t,Iq e.f,Iq e.g,Iq e.b,Iq e.p] T)) Q.heap.size e:=heap_alloc_new _ _
end
theorem bp.set5{M f g i j m}{W W'}(h:bp M W W')n v1 v2 p q:bp M W (((((W'.setCell (aj M f) n).setCell (aj M g) v1).setCell (aj M i) v2).setCell (aj M j) p).setCell (aj M m) q):=
 ((((h.set (.inl rfl) _ _).set (.inl rfl) _ _).set (.inl rfl) _ _).set (.inl rfl) _ _).set (.inl rfl) _ _
theorem R4.ch{T}{Q Q'}{b k}{x y a c}(h:R4 T Q b x y a c)(g:bp k Q Q')(f:b≠k):R4 T Q' b x y a c:=(g.block b h.lt f).trans h
section
variable{K M cap W H:Nat} {c:Nat->Nat->Ce}
theorem o7 w(h:CS 91 73 w K M cap W H c)(g:1<=W/\W<=400)(f:H<=400)(hp:PAll W H c)(y a z:Int)(hy:0<=y/\y<H)(i:0<=a/\a<z)(j:z<=W):Cw 62 #[Pq K,Iq y,Iq a,Iq z] w λe w'=>e=Rw (.slice (some (aj M (y.toNat*W*5+a.toNat*5))) (z-a).toNat (z-a).toNat)/\Cv 73 w' M W H (cut c y.toNat a.toNat (z.toNat-1))/\bp M w w':=by obtain⟨Y,rfl⟩:=Al hy.1;obtain⟨A,rfl⟩:=Al i.1;obtain⟨Q,rfl⟩:∃Q:Nat,z=(Q:Int)+1:=⟨(z-1).toNat,dg⟩;have:=yR w h dg g.2 f Y A Q dg dg dg (hp Y dg);grind
theorem tG(w:World)(h:CS 91 73 w K M cap W H c)(hW:1<=W/\W<=400)(hH:1<=H/\H<=400)(hp:PAll W H c)(x y a b f g D O R L N:Int)(l t u v:Int)(hq:cj W H x y a b O R L N=(l,t,u,v)):
 Cw 30 #[Pq K,rv x y a b,sv f g D,rv O R L N] w λe w'=>e=Rw (.tuple #[])/\Cv 73 w' M W H (fill c l.toNat (l+u).toNat t.toNat (t+v).toNat (λ_=>bk (kn f) (kn g) (bo D)))/\bp M w w':=by
 have s:=de (W:=W) (H:=H) dg dg x y a b O R L N;have SN:Hid (∀w0,CS 91 73 w0 K M cap W H c->Cw 60 #[Pq K,rv x y a b,rv O R L N] w0 λe w'=>e=Rw (rv l t u v)/\Gr w0 w'):=λw0 h0=>by have:=yJ w0 h0 x y a b O R L N;grind
 rw[hq]at s;have CN:Hid (∀f g b w,Cw 61 #[sv f g b] w λe w'=>e=Rw (sv (kn f) (kn g) (bo b))/\Gr w w'):=qD;have BL:Hid (∀f g b w,Cw 28 #[sv f g b] w λe w'=>e=Rw (Dg (bk f g b))/\Gr w w'):=lZ;have J:Hid (CS 91 73 w K M cap W H c):=h;have HP:Hid (PAll W H c):=hp;clear h hp hq;obtain⟨e,he⟩:=ad (bk (kn f) (kn g) (bo D));have I:=BL (kn f) (kn g) (bo D);rw[he]at I⊢;have HE:Hid (e.p=0):=by rw[<-he];rfl
 clear he BL;have C1:=CN f g D;obtain⟨kf,X⟩:=ad (kn f);obtain⟨kg,Y⟩:=ad (kn g);obtain⟨kb,V⟩:=ad (bo D);rw[X,Y,V]at I C1;clear X Y V CN;unfold rv at SN;unfold rv sv;unfold sv Dg at I;unfold sv at C1;have l0:=s.l0;have t0:=s.t0;have u0:=s.u0;have v0:=s.v0;have lu:=s.lu;have tv:=s.tv;have HS:Hid (0<u↔0<v):=s.uv;clear s;go_enter func30,ntmps30;go_wp2_with fail;refine ag (SN _ (J.gr ((((Gr.refl w).alloc _).alloc _).alloc _))) ?_;rintro e1 G ⟨rfl,g1⟩;have G1:Hid (Gr w G):=((((Gr.refl w).alloc _).alloc _).alloc _).trans g1;have RS:Hid (R3 50 G (w.heap.size+1) f g D):=by have:=R3.new (w.alloc (.cells #[Iq x,Iq y,Iq a,Iq b] 52)) f g D 50;simp only[au]at this;exact(this.gr ((Gr.refl _).alloc _)).gr g1
 clear g1 SN;have s0:=RS.c0;have s1:=RS.c1;have s2:=RS.c2;have sl:=RS.lt;go_wp2_with fail;refine ag (C1 _) ?_;rintro e2 w2 ⟨rfl,g2⟩;have RR:Hid (R4 52 w2 G.heap.size l t u v):=(R4.new G _ _ _ _ _).gr g2;have G2:Hid (Gr w w2):=(G1.alloc _).trans g2;have Z1:Hid (w.heap.size<=G.heap.size):=G1.size;obtain⟨Z,hZ⟩:=ad G.heap.size;rw[hZ]at RR Z1;rw[hZ];clear hZ g2 s0 s1 s2 sl RS C1 G1;go_wp2_with fail;refine ag (I _) ?_;rintro e3 w3 ⟨rfl,g3⟩;have R2:Hid (R4 52 w3 Z l t u v):=RR.gr g3;have G3:Hid (Gr w w3):=G2.trans g3;clear g3 I RR G2;obtain⟨W4,A⟩:=ad (w3.alloc (.cells #[.string e.t,Iq e.f,Iq e.g,Iq e.b,Iq e.p] 73));have m:Hid (R4 52 W4 Z l t u v):=by rw[<-A];exact R2.gr ((Gr.refl _).alloc _)
 have G4:Hid (Gr w W4):=by rw[<-A];exact G3.alloc _
 have P4:Hid (R5 73 W4 w3.heap.size e):=by rw[<-A];exact R5.new w3 e _
 have Z2:Hid (w.heap.size<=w3.heap.size):=G3.size;obtain⟨P,hP⟩:=ad w3.heap.size;rw[hP]at P4 Z2;have HM:Hid (M<w.heap.size):=J.cv.lt;have ZM:Hid (Z≠M):=(λq=>by have:=HM.out;have:=Z1.out;omega:Z≠M);have PM:Hid (P≠M):=(λq=>by have:=HM.out;have:=Z2.out;omega:P≠M);have KM:Hid (K≠M):=J.ne;have x0:=m.c0;have x1:=m.c1;have x2:=m.c2;have x3:=m.c3;go_wp2_with fail;clear hP A R2 G3;go_loopw[10] (λyv wr=>∃k:Int,t<=k/\k<=t+v/\yv=Iq k/\Hid (Cv 73 wr M W H (fill c l.toNat (l+u).toNat t.toNat k.toNat (λ_=>e))/\bp M w wr/\R4 52 wr Z l t u v/\R5 73 wr P e)) (λyv _=>(t+v-intOf yv).toNat);case atStart=>exact⟨t,dg,dg,rfl,by rw[fR dg];exact J.cv.gr G4,bp.gr G4,m,P4⟩
 case round=>
  obtain⟨k,zg,zh,rfl,n⟩:=hrel;clear x0 x1 x2 x3 m P4 G4;have x0:=n.2.2.1.c0;have x1:=n.2.2.1.c1;have x2:=n.2.2.1.c2;have x3:=n.2.2.1.c3;by_cases zj:k<t+v
  ·have hv:0<v:=dg
   have hu:=HS.2 hv;obtain⟨U,hU⟩:∃U:Nat,(U:Int)=u:=⟨u.toNat,dg⟩;have ST:Hid (Cw 62 #[Pq K,Iq k,Iq l,Iq (l+u)] wr λe' w'=>e'=Rw (.slice (some (aj M (k.toNat*W*5+l.toNat*5))) U U)/\Cv 73 w' M W H (cut (fill c l.toNat (l+u).toNat t.toNat k.toNat (λ_=>e)) k.toNat l.toNat ((l+u).toNat-1))/\bp M wr w'):=by have:=o7 wr (J.put n.2.1 n.1) hW hH.2 (HP.fill0 dg (λ_=>HE)) k l (l+u) dg dg lu;rw[show(l+u-l).toNat=U by omega]at this;exact this
   obtain⟨o,ho⟩:=ad (k.toNat*W*5+l.toNat*5);have HO:Hid (k.toNat*W*5+l.toNat*5=o):=ho;rw[ho]at ST;clear ho;have zc:U<=400:=dg;have HU:Hid ((U:Int)=u):=hU;clear hU;have HQ:Hid ((l+u).toNat-1+1-l.toNat=U/\(l+u).toNat-1+1=(l+u).toNat/\l.toNat<=(l+u).toNat-1):=⟨by have:=HU.out;omega,dg,dg⟩;go_wp2_with(go_at_call 62;refine ag ST ?_;rintro e4 E ⟨rfl,V4,C4⟩;have zb:Hid (Cv 73 E M W H (part (fill c l.toNat (l+u).toNat t.toNat k.toNat (λ_=>e)) k.toNat l.toNat ((l+u).toNat-1) 0 (λ_=>e))/\bp M w E/\R4 52 E Z l t u v/\R5 73 E P e):=(⟨(by grind[oy]),n.2.1.trans C4,n.2.2.1.ch C4 ZM,n.2.2.2.ch C4 PM⟩:Cv 73 E M W H (part (fill c l.toNat (l+u).toNat t.toNat k.toNat (λ_=>e)) k.toNat l.toNat ((l+u).toNat-1) 0 (λ_=>e))/\bp M w E/\R4 52 E Z l t u v/\R5 73 E P e);clear V4 C4);go_loopw[43] (λiv wi=>∃i:Nat,i<=U/\iv=Iq i/\Hid (Cv 73 wi M W H (part (fill c l.toNat (l+u).toNat t.toNat k.toNat (λ_=>e)) k.toNat l.toNat ((l+u).toNat-1) i (λ_=>e))/\bp M w wi/\R4 52 wi Z l t u v/\R5 73 wi P e)) (λiv _=>U-(intOf iv).toNat);case atStart=>grind
   case round=>
    obtain⟨i,hi,rfl,j⟩:=hrel;by_cases ze:i<U
    ·have F:l.toNat+i<W:=by have:=HU.out;omega
     have hy:k.toNat<H:=dg;have d0:=j.1.c0 hy F;have d1:=j.1.c1 hy F;have d2:=j.1.c2 hy F;have d3:=j.1.c3 hy F;have d4:=j.1.c4 hy F;have eo:k.toNat*W*5+(l.toNat+i)*5=o+i*5:=by rw[<-HO.out];omega
     rw[eo]at d0 d1 d2 d3 d4;have EO:Hid (k.toNat*W*5+(l.toNat+i)*5=o+i*5):=eo;clear eo;have fz:=j.1.fz;have p0:=j.2.2.2.c0;have p1:=j.2.2.2.c1;have p2:=j.2.2.2.c2;have p3:=j.2.2.2.c3;have p4:=j.2.2.2.c4;have S:(i:Int)<(U:Int):=dg;go_wp2;go_roundw;case rel=>have VS:=j.1.set hy F e;rw[EO.out,l5 _ _ _ _ _ (λ_=>e)]at VS;exact⟨i+1,dg,by go_num,VS,j.2.1.set5 _ _ _ _ _,j.2.2.1.ch ((bp.refl M _).set5 _ _ _ _ _) ZM,j.2.2.2.ch ((bp.refl M _).set5 _ _ _ _ _) PM⟩
     case measure=>simp[intOf];omega
    ·have S:¬(i:Int)<(U:Int):=dg
     have za:i=U:=dg;have VD:Hid (Cv 73 wr M W H (fill c l.toNat (l+u).toNat t.toNat (k+1).toNat (λ_=>e))):=by have:=j.1;rw[za,<-HQ.1,lf _ _ _ _ _ HQ.2.2,HQ.2.1,tJ dg,show k.toNat+1=(k+1).toNat by omega]at this;exact this
     go_wp2;go_roundw;case rel=>exact⟨k+1,dg,dg,by go_num,VD,j.2⟩
     case measure=>simp[intOf];omega
  ·have zi:k=t+v:=dg
   go_wp2;go_end0;exact⟨rfl,by have:=n.1;grind,n.2.1⟩
end
def Fb(l:Nat)(wd:Int)(dR:ByteArray)(f g b:Int):Nat->Ce:=λj=>if wd=2 then(if j=l then⟨dR,f,g,b,1⟩else⟨Lo,f,g,b,2⟩)else⟨dR,f,g,b,0⟩
def putX(l u wd:Int)(dR:ByteArray)(f g b:Int):Nat->Ce:=if u<wd then λ_=>bk (kn f) (kn g) (bo b)else Fb l.toNat wd dR (kn f) (kn g) (bo b)
def vy(c:Nat->Nat->Ce)(wd:Int)(dR:ByteArray)(f g b:Int)(q:Int×Int×Int×Int):Nat->Nat->Ce:=
 if wd=1\/wd=2 then fill c q.1.toNat (q.1+q.2.2.1).toNat q.2.1.toNat (q.2.1+q.2.2.2).toNat (putX q.1 q.2.2.1 wd dR f g b)else c
def eT(W H:Nat)(c:Nat->Nat->Ce)(x y:Int)(dR:ByteArray)(wd:Int)(f g b cx cy ca cb:Int):Nat->Nat->Ce:=vy c wd dR f g b (cj W H x y wd 1 cx cy ca cb)
def ir(W H:Nat)(c:Nat->Nat->Ce)(x y a b f g bd cx cy ca cb:Int):Nat->Nat->Ce:=
 fill c (cj W H x y a b cx cy ca cb).1.toNat ((cj W H x y a b cx cy ca cb).1+(cj W H x y a b cx cy ca cb).2.2.1).toNat (cj W H x y a b cx cy ca cb).2.1.toNat ((cj W H x y a b cx cy ca cb).2.1+(cj W H x y a b cx cy ca cb).2.2.2).toNat (λ_=>bk (kn f) (kn g) (bo bd))
theorem jQ.whole{W H x y wd i j f g l t u v}(h:jQ W H x y wd 1 i j f g l t u v)(A:wd=1\/wd=2)(hu:wd<=u)(s:W<=400)(q:H<=400):l=x/\t=y/\u=wd/\v=1:=by have D:=h.l0;have t0:=h.t0;have E:=h.lu;have F:=h.tv;have G:=h.uv;have n:=(h.mem l t).1 dg;have p:=(h.mem (l+u-1) (t+v-1)).1 dg;have e:aO wd=wd:=cN dg;have m:aO 1=1:=rfl;rw[e,m]at n p;grind[cH,aJ]
theorem jQ.most{W H x y wd i j f g l t u v}(h:jQ W H x y wd 1 i j f g l t u v)(p:wd=1\/wd=2):u<=wd:=by
 by_cases hu:0<u;·have q:=h.uv;have m:=(h.mem l t).1 dg;have n:=(h.mem (l+u-1) (t+v-1)).1 dg;have e:aO wd=wd:=cN dg;rw[e]at m n;omega
 ·omega
theorem PAll.putX{W H}{c}(h:PAll W H c)(J:1<=W/\W<=400)(I:1<=H/\H<=400)x y dR wd f g b p s m n:PAll W H (eT W H c x y dR wd f g b p s m n):=by
 have i:=de (W:=W) (H:=H) dg dg x y wd 1 p s m n;unfold eT vy;obtain⟨q,A⟩:=ad (cj W H x y wd 1 p s m n);rw[A]at i⊢;obtain⟨l,t,u,v⟩:=q;simp only at i⊢;have N:=i.lu;have L:=i.l0;have u0:=i.u0;split
 ·rename_i hw;unfold Go.Proofs.YtaanagpadfcmlaaGreatDoor.putX;by_cases hu:u<wd;·rw[if_pos hu];exact h.fill0 dg (λ_=>rfl)
  ·rw[if_neg hu];obtain⟨D,E,F,G⟩:=i.whole hw dg dg dg;rcases hw with hw|hw;·refine h.fill0 dg (λj=>?_);unfold Fb;rw[if_neg dg]
   ·rw[show(l+u).toNat=l.toNat+2 by omega];refine h.fill2 dg ?_ ?_ ?_ ?_ ?_ ?_<;>(unfold Fb;simp[hw])
 ·exact h
theorem PAll.filX{W H}{c}(h:PAll W H c)(v:1<=W/\W<=400)(s:1<=H/\H<=400)x y a b f g q n p j m:PAll W H (ir W H c x y a b f g q n p j m):=by have i:=de (W:=W) (H:=H) dg dg x y a b n p j m;unfold ir;exact h.fill0 (by have:=i.lu;have:=i.l0;omega) (λ_=>rfl)
def kR(T:TypeId)(Q:World)(b:Nat)(dR:ByteArray)(wd:Int):Prop:=Q.heap[b]?=some (.cells #[.string dR,Iq wd] T (0,0))
section
variable{T:TypeId} {Q Q':World} {b k:Nat} {dR:ByteArray} {wd:Int}
theorem kR.lt(h:kR T Q b dR wd):b<Q.heap.size:=(aD.1 h).1
theorem kR.c0(h:kR T Q b dR wd):Q.cell? (aj b 0)=some (.string dR):=by unfold kR at h;simp[World.cell?,h]
theorem kR.c1(h:kR T Q b dR wd):Q.cell? (aj b 1)=some (Iq wd):=by unfold kR at h;simp[World.cell?,h]
theorem kR.gr(h:kR T Q b dR wd)(g:Gr Q Q'):kR T Q' b dR wd:=(g.block h.lt).trans h
theorem kR.ch(h:kR T Q b dR wd)(g:bp k Q Q')(f:b≠k):kR T Q' b dR wd:=(g.block b h.lt f).trans h
theorem kR.other(h:kR T Q b dR wd)(f:b≠k)o v:kR T (Q.setCell (aj k o) v) b dR wd:=(bK Q (aj k o) v b f).trans h
theorem kR.new(Q:World)dR wd T:kR T (Q.alloc (.cells #[.string dR,Iq wd] T)) Q.heap.size dR wd:=heap_alloc_new _ _
end
theorem R3.ch{T}{Q Q'}{b k}{x y a}(h:R3 T Q b x y a)(g:bp k Q Q')(f:b≠k):R3 T Q' b x y a:=(g.block b h.lt f).trans h
theorem Ml c Y X j i dR g h f:
 da (da (da (cut c Y X (X+1)) Y X ⟨dR,g,h,f,0⟩) Y X {da (cut c Y X (X+1)) Y X ⟨dR,g,h,f,0⟩ Y X with p:=1}) Y (X+1) ⟨Lo,g,h,f,2⟩ j i=part c Y X (X+1) (X+1+1-X) (Fb X 2 dR g h f) j i:=by grind[da,cut,part,Fb,Lo]
theorem Si a b c d W:Sem.run prog (Instr.field 52 (Value.agg #[a,b,c,d]) 2) W=Result.ok c W:=by unfold Instr.field;simp[go_sem];rfl
section
variable{K M cap W H:Nat} {c:Nat->Nat->Ce}
theorem Mk(w:World)(h:CS 91 73 w K M cap W H c)(hW:1<=W/\W<=400)(hH:1<=H/\H<=400)(hp:PAll W H c)(x y:Int)(dR:ByteArray)(wd f g b G I E F:Int):
 Calls prog 136 #[Pq K,Iq x,Iq y,.agg #[.string dR,Iq wd],sv f g b,rv G I E F] w λe w'=>e=.returned (.tuple #[])/\Cv 73 w' M W H (eT W H c x y dR wd f g b G I E F)/\bp M w w':=by
 have SF:=de (W:=W) (H:=H) dg dg x y wd 1 G I E F;unfold eT;obtain⟨q,hq⟩:=ad (cj W H x y wd 1 G I E F);have SN:Hid (∀O,CS 91 73 O K M cap W H c->Calls prog 60 #[Pq K,rv x y wd 1,rv G I E F] O λe w'=>e=.returned (rv q.1 q.2.1 q.2.2.1 q.2.2.2)/\Gr O w'):=λO h0=>by have:=yJ O h0 x y wd 1 G I E F;grind
 rw[hq]at SF⊢;obtain⟨l,t,u,v⟩:=q;have FL:Hid (∀O,CS 91 73 O K M cap W H c->Calls prog 30 #[Pq K,rv x y wd 1,sv f g b,rv G I E F] O λe w'=>e=.returned (.tuple #[])/\Cv 73 w' M W H (fill c l.toNat (l+u).toNat t.toNat (t+v).toNat (λ_=>bk (kn f) (kn g) (bo b)))/\bp M O w'):=λO h0=>tG O h0 hW hH hp x y wd 1 f g b G I E F l t u v hq;simp only at SN SF;unfold vy;simp only;have CN:Hid (∀f g b w,Calls prog 61 #[sv f g b] w λe w'=>e=.returned (sv (kn f) (kn g) (bo b))/\Gr w w'):=qD;have HC:Hid (CS 91 73 w K M cap W H c):=h;have HP:Hid (PAll W H c):=hp;have HF:Hid (jQ W H x y wd 1 G I E F l t u v):=SF;clear h hp hq SF;unfold rv at SN FL;unfold rv sv;unfold sv at CN FL;have C1:=CN f g b;obtain⟨S,hS⟩:=ad w.heap.size;have HS:Hid (w.heap.size=S):=hS;by_cases h1:wd=1\/wd=2
 ·have HI:Hid ((if wd=1\/wd=2 then fill c l.toNat (l+u).toNat t.toNat (t+v).toNat (putX l u wd dR f g b)else c)=fill c l.toNat (l+u).toNat t.toNat (t+v).toNat (putX l u wd dR f g b)):=if_pos h1;rw[HI.out];clear HI;have H1:=qH h1;obtain⟨n,N,hn⟩:∃n:Nat,(Hid (wd=1/\n=1)/\(wd !=1)=false\/Hid (wd=2/\n=2)/\(wd !=1)=true/\(wd !=2)=false)/\(n:Int)=wd:=by
   rcases h1 with rfl|rfl;·exact⟨1,.inl ⟨⟨rfl,rfl⟩,rfl⟩,rfl⟩
   ·exact⟨2,.inr ⟨⟨rfl,rfl⟩,rfl,rfl⟩,rfl⟩
  have zr:1<=wd/\wd<=2:=dg;clear h1;go_enter func136,ntmps136;rcases N with⟨N,n1⟩|⟨N,n1,n2⟩;all_goals
   go_wp2_with fail;obtain⟨V,Z⟩:=ad ((((w.alloc (.cells #[.string dR,Iq wd] 222)).alloc (.cells #[Iq f,Iq g,Iq b] 50)).alloc (.cells #[Iq G,Iq I,Iq E,Iq F] 52)).alloc (.cells #[Iq x,Iq y,Iq wd,Iq 1] 52));have G0:Hid (Gr w V):=by rw[<-Z];exact((((Gr.refl w).alloc _).alloc _).alloc _).alloc _
   have A:Hid (kR 222 V S dR wd/\R3 50 V (S+1) f g b/\R4 52 V (S+1+1) G I E F/\R4 52 V (S+1+1+1) x y wd 1):=by
    rw[<-Z,<-hS];refine⟨(kR.new w _ _ _).gr ((((Gr.refl _).alloc _).alloc _).alloc _),?_,?_,?_⟩;·have:=R3.new (w.alloc (.cells #[.string dR,Iq wd] 222)) f g b 50;simp only[au]at this;exact this.gr (((Gr.refl _).alloc _).alloc _)
    ·have:=R4.new ((w.alloc (.cells #[.string dR,Iq wd] 222)).alloc (.cells #[Iq f,Iq g,Iq b] 50)) G I E F 52;simp only[au]at this;exact this.gr ((Gr.refl _).alloc _)
    ·have:=R4.new (((w.alloc (.cells #[.string dR,Iq wd] 222)).alloc (.cells #[Iq f,Iq g,Iq b] 50)).alloc (.cells #[Iq G,Iq I,Iq E,Iq F] 52)) x y wd 1 52;simp_all
   rw[Z];clear Z hS;have q0:=A.1.c0;have q1:=A.1.c1;have r0:=A.2.2.1.c0;have r1:=A.2.2.1.c1;have r2:=A.2.2.1.c2;have r3:=A.2.2.1.c3;have m0:=A.2.2.2.c0;have m1:=A.2.2.2.c1;have m2:=A.2.2.2.c2;have m3:=A.2.2.2.c3;have zh:=Si (Iq l) (Iq t) (Iq u) (Iq v);by_cases hu:u<wd
   ·have HX:Hid (putX l u wd dR f g b=λ_=>bk (kn f) (kn g) (bo b)):=if_pos hu;go_cut[34]from 22 to 33 (λs P=>s=.bool true/\Hid (kR 222 P S dR wd/\R3 50 P (S+1) f g b/\R4 52 P (S+1+1) G I E F/\R4 52 P (S+1+1+1) x y wd 1/\Gr w P));case first=>go_region_with(go_at_call 60;refine ag (SN _ (HC.gr (by first|exact G0.drew|exact G0))) ?_;rintro e1 w1 ⟨rfl,L⟩;have J:Hid (Gr V w1):=(by first|exact((Gr.refl V).drew).trans L|exact L);clear L;have o1:=(A.1.gr J).c1);all_goals go_wp2_with fail;go_meet;exact⟨rfl,A.1.gr J,A.2.1.gr J,A.2.2.1.gr J,A.2.2.2.gr J,G0.trans J⟩
    case rest=>obtain⟨rfl,m⟩:=hcut;clear q0 q1 r0 r1 r2 r3 m0 m1 m2 m3 zh;have s0:=m.2.1.c0;have s1:=m.2.1.c1;have s2:=m.2.1.c2;have r0:=m.2.2.1.c0;have r1:=m.2.2.1.c1;have r2:=m.2.2.1.c2;have r3:=m.2.2.1.c3;have m0:=m.2.2.2.1.c0;have m1:=m.2.2.2.1.c1;have m2:=m.2.2.2.1.c2;have m3:=m.2.2.2.1.c3;go_wp2_with(go_at_call 30;refine ag (FL _ (HC.gr m.2.2.2.2)) ?_;rintro e2 w2 ⟨rfl,V2,C2⟩;have zg:Hid (Cv 73 w2 M W H (fill c l.toNat (l+u).toNat t.toNat (t+v).toNat (λ_=>bk (kn f) (kn g) (bo b)))/\bp M w w2):=(⟨V2,(bp.gr m.2.2.2.2).trans C2⟩:_/\_);clear V2 C2);refine bodyPost_ret (results_none rfl _ _ _) rfl ?_;exact⟨rfl,by rw[HX.out];exact zg.1,zg.2⟩
   have HX:Hid (putX l u wd dR f g b=Fb l.toNat wd dR (kn f) (kn g) (bo b)):=if_neg hu;have WH:=HF.whole H1.out (show wd<=u by omega) dg dg;have zk:=HF.lu;have zj:=HF.l0;have zm:=HF.tv;have zl:=HF.t0;have hx:0<=x/\x+wd<=W:=dg
   have hy:0<=y/\y<H:=dg;have HW:Hid (l=x/\t=y/\u=wd/\v=1):=WH;clear WH zk zj zm zl;go_cut[34]from 22 to 33 (λs P=>s=.bool false/\Hid (kR 222 P S dR wd/\R3 50 P (S+1) f g b/\R4 52 P (S+1+1) G I E F/\R4 52 P (S+1+1+1) x y wd 1/\Gr w P));case first=>have zq:=hu;go_region_with(go_at_call 60;refine ag (SN _ (HC.gr (by first|exact G0.drew|exact G0))) ?_;rintro e1 w1 ⟨rfl,L⟩;have J:Hid (Gr V w1):=(by first|exact((Gr.refl V).drew).trans L|exact L);clear L;have o1:=(A.1.gr J).c1);all_goals go_wp2_with fail;go_meet;exact⟨congrArg Value.bool (decide_eq_false dg),A.1.gr J,A.2.1.gr J,A.2.2.1.gr J,A.2.2.2.gr J,G0.trans J⟩
   obtain⟨rfl,m⟩:=hcut;clear q0 q1 r0 r1 r2 r3 m0 m1 m2 m3 zh;have s0:=m.2.1.c0;have s1:=m.2.1.c1;have s2:=m.2.1.c2;go_wp2_with fail;refine ag (C1 _) ?_;rintro e1 w1 ⟨rfl,L⟩;have R:Hid (kR 222 w1 S dR wd/\R3 50 w1 (S+1) f g b/\Gr w w1):=⟨m.1.gr L,m.2.1.gr L,m.2.2.2.2.trans L⟩;clear L s0 s1 s2 m C1;obtain⟨kf,zc⟩:=ad (kn f);obtain⟨kg,ze⟩:=ad (kn g);obtain⟨kb,zb⟩:=ad (bo b);rw[zc,ze,zb]at HX;rw[zc,ze,zb];clear zc ze zb;obtain⟨w2,zi⟩:=ad (((w1.setCell ⟨S+1,0,none⟩ (Iq kf)).setCell ⟨S+1,1,none⟩ (Iq kg)).setCell ⟨S+1,2,none⟩ (Iq kb));have R2:Hid (kR 222 w2 S dR wd/\R3 50 w2 (S+1) kf kg kb/\Gr w w2):=by rw[<-zi];exact⟨((R.1.other dg _ _).other dg _ _).other dg _ _,R.2.1.set _ _ _,R.2.2.set3 (by rw[HS.out];omega) _ _ _⟩
   have s0:=R.2.1.c0;have s1:=R.2.1.c1;have s2:=R.2.1.c2;have z0:=R.2.1.fz 0;have z1:=R.2.1.fz 1;have z2:=R.2.1.fz 2;have q1:=R2.1.c1;go_wp2_with fail;refine ag (o7 w2 (HC.gr R2.2.2) hW hH.2 HP y x (x+wd) hy dg hx.2) ?_;rintro e3 w3 ⟨rfl,V3,C3⟩;have HM:Hid (M<S):=(by rw[<-HS.out];exact HC.cv.lt:M<S);have p:Hid (kR 222 w3 S dR wd/\R3 50 w3 (S+1) kf kg kb/\bp M w w3):=⟨R2.1.ch C3 (by have:=HM.out;omega),R2.2.1.ch C3 (by have:=HM.out;omega),(bp.gr R2.2.2).trans C3⟩;obtain⟨X,hX⟩:=ad x.toNat;obtain⟨Y,hY⟩:=ad y.toNat;rw[hX,hY]at V3;rw[hX,hY];have D:Hid (Cv 73 w3 M W H (cut c Y X (X+n-1))):=by rw[show(x+wd).toNat-1=X+n-1 by omega]at V3;exact V3
   have U:Hid (x.toNat=X/\y.toNat=Y):=⟨hX,hY⟩;have zo:X+n<=W:=dg;have i:Y<H:=dg;rw[show(x+wd-x).toNat=n by omega];clear hX hY V3 C3 s0 s1 s2 z0 z1 z2 q1 zi R R2;obtain⟨o,ho⟩:=ad (Y*W*5+X*5);have HO:Hid (Y*W*5+X*5=o):=ho;have d0:=D.c0 i (show X<W by omega);have d1:=D.c1 i (show X<W by omega);have d2:=D.c2 i (show X<W by omega);have d3:=D.c3 i (show X<W by omega);have d4:=D.c4 i (show X<W by omega);rw[ho]at d0 d1 d2 d3 d4;rw[ho];clear ho;have fz:=D.fz;have q0:=p.1.c0;have q1:=p.1.c1;have s0:=p.2.1.c0;have s1:=p.2.1.c1;have s2:=p.2.1.c2;have sm:¬S=M:=by have:=HM.out;omega
   have zn:¬S+1=M:=by have:=HM.out;omega
   try dsimp only[Pq,Sq,aj]at d0 d1 d2 d3 d4 fz q0 q1 s0 s1 s2⊢
  ·obtain⟨rfl,rfl⟩:=N.out;go_wp2;go_end0;refine⟨rfl,?_,p.2.2.set5 _ _ _ _ _⟩;have VS:=D.set i (show X<W by omega) ⟨dR,kf,kg,kb,0⟩;rw[HO.out]at VS;refine VS.same ?_;intro y' x' _ _;rw[HX.out,HW.1,HW.2.1,HW.2.2.1,HW.2.2.2,show(x+1).toNat=x.toNat+1 by omega,show(y+1).toNat=y.toNat+1 by omega,U.1,U.2,<-lf c Y X X _ (ae _),show X+1-X=0+1 by omega,<-l5,oy];rfl
  ·obtain⟨rfl,rfl⟩:=N.out;go_upto_if 58 with fail;obtain⟨w4,za⟩:=ad (((((w3.setCell ⟨M,o,none⟩ (.string dR)).setCell ⟨M,o+1,none⟩ (Iq kf)).setCell ⟨M,o+2,none⟩ (Iq kg)).setCell ⟨M,o+3,none⟩ (Iq kb)).setCell ⟨M,o+4,none⟩ (Iq 0));have j:Hid (kR 222 w4 S dR 2/\R3 50 w4 (S+1) kf kg kb/\bp M w w4/\Cv 73 w4 M W H (da (cut c Y X (X+1)) Y X ⟨dR,kf,kg,kb,0⟩)):=by
    have VS:=D.set i (show X<W by omega) ⟨dR,kf,kg,kb,0⟩;rw[HO.out,za]at VS;have cc:bp M w3 w4:=by rw[<-za];exact(bp.refl M w3).set5 _ _ _ _ _
    exact⟨p.1.ch cc sm,p.2.1.ch cc zn,p.2.2.trans cc,VS⟩
   rw[za];clear za d0 d1 d2 d3 d4 fz q0 q1 s0 s1 s2 p D;have d4:=j.2.2.2.c4 i (show X<W by omega);rw[HO.out]at d4;have fz:=j.2.2.2.fz;have q1:=j.1.c1;have s0:=j.2.1.c0;have s1:=j.2.1.c1;have s2:=j.2.1.c2;have e0:=j.2.2.2.c0 i (show X+1<W by omega);have e1:=j.2.2.2.c1 i (show X+1<W by omega);have e2:=j.2.2.2.c2 i (show X+1<W by omega);have e3:=j.2.2.2.c3 i (show X+1<W by omega);have e4:=j.2.2.2.c4 i (show X+1<W by omega);have EO:Hid (Y*W*5+(X+1)*5=o+5):=(by rw[<-HO.out];omega:Y*W*5+(X+1)*5=o+5);rw[EO.out]at e0 e1 e2 e3 e4;go_wp2_with fail;go_end0;refine⟨rfl,?_,(j.2.2.1.set (.inl rfl) _ _).set5 _ _ _ _ _⟩;have VP:=j.2.2.2.setPart i (show X<W by omega) 1;rw[HO.out]at VP;have VS:=VP.set i (show X+1<W by omega) ⟨Lo,kf,kg,kb,2⟩;rw[EO.out]at VS;refine VS.same ?_;intro y' x' _ _;rw[HX.out,HW.1,HW.2.1,HW.2.2.1,HW.2.2.2,show(x+2).toNat=x.toNat+1+1 by omega,show(y+1).toNat=y.toNat+1 by omega,U.1,U.2,<-lf c Y X (X+1) _ dg];grind[Ml]
 ·have n1:(wd !=1)=true:=by simp;omega
  have n2:(wd !=2)=true:=by simp;omega
  have n3:¬wd=1:=dg;rw[if_neg h1];clear hS;go_enter func136,ntmps136;go_wp2;refine bodyPost_ret (results_none rfl _ _ _) rfl ?_;exact⟨rfl,HC.cv.gr ((((Gr.refl w).alloc _).alloc _).alloc _),bp.gr ((((Gr.refl w).alloc _).alloc _).alloc _)⟩
end
theorem an{U f}(g:Bt U f){a}{v}(h:U.cell? a=some v):f.cell? a=some v:=
 (bf (g.block a.block (jK U a h))).trans h
theorem km:aO 1=1:=rfl
theorem jQ.row{W H x y wd i j f g l t u v:Int}(h:jQ W H x y wd 1 i j f g l t u v)(hy:0<=y/\y<400)(hu:0<u):t=y/\v=1:=by have p:=h.uv.1 hu;have m:=(h.mem l t).1 dg;have n:=(h.mem l (t+v-1)).1 dg;grind[aJ,km]
theorem jQ.vis{W H x y wd f g i j l t u v:Int}(h:jQ W H x y wd 1 f g i j l t u v)(E:wd=1\/wd=2)(hy:0<=y/\y<400)(F:-1<=x/\x<400)(p:Int)(h1:x<=p)(D:p<x+wd):
 ((0<=p/\p<W/\0<=y/\y<H)/\(aJ f<=p/\p<aJ f+aO i/\aJ g<=y/\y<aJ g+aO j))↔(l<=p/\p<l+u):=by
 have m:=h.mem p y;have s:aJ x=x:=by unfold aJ;omega
 have A:aJ y=y:=by unfold aJ;omega
 have n:aO wd=wd:=cN dg;rw[s,A,n,km]at m;constructor;·omega
 ·intro q;have r:=h.row hy dg;omega
theorem jQ.within{W H x y wd i j f g l t u v:Int}(h:jQ W H x y wd 1 i j f g l t u v)(m:wd=1\/wd=2)(n:-1<=x/\x<400)(hu:0<u):x<=l/\l+u<=x+wd:=by have s:=h.uv.1 hu;have p:=(h.mem l t).1 dg;have q:=(h.mem (l+u-1) t).1 dg;grind[aJ,aO,cN]
theorem rA{W H:Nat}(E:1<=W/\W<=400)(D:1<=H/\H<=400)(c:Nat->Nat->Ce)(x y:Int)(dR:ByteArray)(wd f g b p s j n:Int)(h:¬(wd=1\/wd=2)\/y<0\/(H:Int)<=y\/x< -1\/(W:Int)<=x):eT W H c x y dR wd f g b p s j n=c:=by
 have i:=de (W:=W) (H:=H) dg dg x y wd 1 p s j n;unfold eT vy;generalize cj W H x y wd 1 p s j n=q at i⊢;obtain⟨l,t,u,v⟩:=q;simp only at i⊢;split;·rename_i F;refine fR (λhh=>?_);have G:=i.l0;have t0:=i.t0;have u0:=i.u0;have I:=i.v0;have m:=(i.mem l t).1 dg;have A:aO wd=wd:=cN dg;rw[A,km]at m;unfold aJ at m;omega
 ·rfl
theorem Jy(n:Int)(w:World):Cw 158 #[Iq n] w λe w'=>e=Rw (Iq (kn n))/\w'=w:=by
 go_enter func158,ntmps158;by_cases h1:n<0;·go_wp2;go_ret;simp_all[kn]
 ·by_cases f:8<n;·go_wp2;go_ret;simp_all[kn]
  ·go_wp2;go_ret;exact⟨by rw[show kn n=n by grind[kn]];rfl,rfl⟩
theorem IZ(f g b:Int)(w:World):Cw 46 #[sv f g b] w λe w'=>e=Rw (sv f g b)/\Gr w w':=by unfold sv;go_enter func46,ntmps46;go_wp2;refine bodyPost_ret (v:=sv f g b) (by simp[results,Tryz.results46,go_sem,sv]) rfl ?_;exact⟨rfl,((Gr.refl w).alloc _).alloc _⟩
theorem uh(f g b:Int)(w:World):Cw 75 #[sv f g b] w λe w'=>e=Rw (sv (kn f) (kn g) (bo b))/\Gr w w':=by
 have P:Hid (∀n w,Cw 158 #[Iq n] w λe w'=>e=Rw (Iq (kn n))/\w'=w):=Jy;obtain⟨x,j⟩:=ad (kn f);obtain⟨y,hy⟩:=ad (kn g);have i:=P f;have P2:=P g;rw[j]at i;rw[hy]at P2;unfold sv;go_enter func75,ntmps75;by_cases h:b=1;·subst h;go_wp2_with fail;go_region_held(λW=>W.cell? (aj w.heap.size 0)=some (Iq f)/\W.cell? (aj w.heap.size 1)=some (Iq g)) (go_keep) (first|(go_at_call 158;first|(with_reducible refine ag (i _) ?_;rintro e m ⟨rfl,rfl⟩)|(with_reducible refine ag (P2 _) ?_;rintro e m ⟨rfl,rfl⟩)));go_wp2;refine bodyPost_ret (v:=sv x y 1) (by simp[results,Tryz.results75,go_sem,sv]) rfl ?_;subst j hy;exact⟨rfl,(((Gr.refl w).alloc _).alloc _).drew⟩
 ·have p:bo b=0:=if_neg h;go_wp2_with fail;go_region_held(λW=>W.cell? (aj w.heap.size 0)=some (Iq f)/\W.cell? (aj w.heap.size 1)=some (Iq g)) (go_keep) (first|(go_at_call 158;first|(with_reducible refine ag (i _) ?_;rintro e m ⟨rfl,rfl⟩)|(with_reducible refine ag (P2 _) ?_;rintro e m ⟨rfl,rfl⟩)));go_wp2;refine bodyPost_ret (v:=sv x y 0) (by simp[results,Tryz.results75,go_sem,sv]) rfl ?_;subst j hy;exact⟨by rw[p];rfl,(((Gr.refl w).alloc _).alloc _).drew⟩
theorem BX{W H:Nat}(G:1<=W/\W<=400)(F:1<=H/\H<=400)(c:Nat->Nat->Ce)(X Y:Nat)(I:X<W)(J:Y<H)(f g b n p s A:Int)(h:aJ n<=(X:Int)/\(X:Int)<aJ n+aO s/\aJ p<=(Y:Int)/\(Y:Int)<aJ p+aO A):eT W H c X Y O1 1 f g b n p s A=fill c X (X+1) Y (Y+1) (λ_=>bk (kn f) (kn g) (bo b)):=by
 have i:=de (W:=W) (H:=H) dg dg X Y 1 1 n p s A;unfold eT vy;generalize cj W H X Y 1 1 n p s A=q at i⊢;obtain⟨l,t,u,v⟩:=q;simp only at i⊢;have m:=(i.vis (.inl rfl) dg dg X dg dg).1 ⟨dg,h⟩;have hu:0<u:=dg;have D:=i.row dg hu;have E:=i.within (.inl rfl) dg hu;obtain rfl:l=X:=dg;obtain rfl:u=1:=dg;obtain⟨rfl,rfl⟩:=D;rw[if_pos rn];have e:putX (X:Int) 1 1 O1 f g b=λ_=>bk (kn f) (kn g) (bo b):=by unfold putX;rw[if_neg dg];funext j;unfold Fb;rw[if_neg dg];rfl
 rw[e,show((X:Int)+1).toNat=X+1 by omega,show((Y:Int)+1).toNat=Y+1 by omega];rfl
theorem Ic{W l m y:Nat}{c:Nat->Nat->Ce}{x:Nat->Ce}(h:ly W (c y))(g:l<=m)(i:m<W)(n:∀j,(x j).p=0):fill (fill c l m y (y+1) x) m (m+1) y (y+1) x=fill c l (m+1) y (y+1) x:=by
 funext f;unfold fill;by_cases hy:y<=f/\f<y+1
 ·obtain rfl:f=y:=dg
  rw[if_pos hy,if_pos hy,if_pos hy];exact h.next g i n
 ·rw[if_neg hy,if_neg hy,if_neg hy]
theorem IY(n:Int)(w:World):Cw 8 #[Iq n] w λe w'=>e=Rw (Iq n)/\w'=w:=by go_enter func8,ntmps8;go_wp2;go_ret;simp_all
theorem R5.fz{T:TypeId}{Q:World}{b:Nat}{e:Ce}(h:R5 T Q b e)(j:Nat):Q.frozen? (aj b j)=false:=frozen_of_row _ _ _ _ _ h
theorem R5.set{T:TypeId}{Q:World}{b:Nat}{e:Ce}(h:R5 T Q b e)(i:Ce):R5 T (((((Q.setCell (aj b 0) (.string i.t)).setCell (aj b 1) (Iq i.f)).setCell (aj b 2) (Iq i.g)).setCell (aj b 3) (Iq i.b)).setCell (aj b 4) (Iq i.p)) b i:=by have j:R5 T (Q.setCell (aj b 0) (.string i.t)) b ⟨i.t,e.f,e.g,e.b,e.p⟩:=heap_setCell_same _ b 0 _ T _ h;have h1:R5 T _ b ⟨i.t,i.f,e.g,e.b,e.p⟩:=heap_setCell_same _ b 1 _ T (Iq i.f) j;have m:R5 T _ b ⟨i.t,i.f,i.g,e.b,e.p⟩:=heap_setCell_same _ b 2 _ T (Iq i.g) h1;have n:R5 T _ b ⟨i.t,i.f,i.g,i.b,e.p⟩:=heap_setCell_same _ b 3 _ T (Iq i.b) m;exact heap_setCell_same _ b 4 _ T (Iq i.p) n
theorem Gr.set5{Q Q':World}{k m n p q s:Nat}(h:Gr Q Q')(f:Q.heap.size<=k)(g v1 v2 i j:Value):Gr Q (((((Q'.setCell (aj k m) g).setCell (aj k n) v1).setCell (aj k p) v2).setCell (aj k q) i).setCell (aj k s) j):=((((h.set f g).set f v1).set f v2).set f i).set f j
theorem Hg(e:Ce)(w:World):Calls Tryz.prog 18 #[Dg e] w λr w'=>r=Rw (Dg e)/\Gr w w':=by
 have s:Hid (∀f g b w,Calls Tryz.prog 46 #[sv f g b] w λe w'=>e=Rw (sv f g b)/\Gr w w'):=IZ;obtain⟨t,f,g,b,p⟩:=e;unfold Dg;unfold sv at s;go_enter Tryz.func18,Tryz.ntmps18;go_wp2_with fail;obtain⟨S,hS⟩:=ad w.heap.size;obtain⟨n,h⟩:=ad ((w.alloc (.cells #[.string t,Iq f,Iq g,Iq b,Iq p] 77)).alloc (.cells #[.string ⟨#[]⟩,Iq 0,Iq 0,Iq 0,Iq 0] 73));have v:Hid (Gr w n):=by rw[<-h];exact((Gr.refl w).alloc _).alloc _
 have j:Hid (R5 77 n S ⟨t,f,g,b,p⟩):=by rw[<-h,<-hS];exact(R5.new w ⟨t,f,g,b,p⟩ _).gr ((Gr.refl _).alloc _)
 have m:Hid (R5 73 n (S+1) ⟨⟨#[]⟩,0,0,0,0⟩):=by have:=R5.new (w.alloc (.cells #[.string t,Iq f,Iq g,Iq b,Iq p] 77)) ⟨⟨#[]⟩,0,0,0,0⟩ 73;rw[au,hS]at this;rw[<-h];exact this
 rw[h,hS];have A:Hid (w.heap.size=S):=hS;clear h hS;have I:=j.c0;have J:=j.c1;have L:=j.c2;have N:=j.c3;have O:=j.c4;go_region_with(go_at_call 46;refine ag (s _ _ _ _) ?_;rintro E D ⟨rfl,q⟩;have i:Hid (Gr n D):=(by first|exact((Gr.refl n).drew).trans q|exact q);clear q;have F:=(j.gr i).c0;have G:=(j.gr i).c4;have u0:=(m.gr i).c0;have u1:=(m.gr i).c1;have u2:=(m.gr i).c2;have u3:=(m.gr i).c3;have u4:=(m.gr i).c4;have P:=(m.gr i).fz);all_goals go_wp2;refine bodyPost_ret (results_cell_row rfl _ _ (S+1) _ _ _ _ rfl ((m.gr i).set ⟨t,f,g,b,p⟩) Tryz.underlying73 rfl ns) rfl ?_;exact⟨rfl,(v.trans i).set5 (by rw[A.out];omega) _ _ _ _ _⟩
theorem Fv{W H i:Nat}(hi:i<W*H):∃y x,y<H/\x<W/\i=y*W+x:=by
 have f:0<W:=by
  rcases Nat.eq_zero_or_pos W with h|h;·subst h;simp at hi
  ·exact h
 refine⟨i/W,i %W,?_,Nat.mod_lt _ f,?_⟩;·exact Nat.div_lt_of_lt_mul hi
 ·rw[nM];exact(Nat.div_add_mod i W).symm
