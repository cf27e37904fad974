import Derived.Test.YtehgehanbnkdiaaGreatDoorQ00
import Derived.Test.YtehgehanbnkdiaaGreatDoorProg
import Derived.WalkSpells
import Derived.WalkLawsBesides
import Derived.BigQuiet
import Derived.Deep.RegionWith
import Derived.Deep.RegionHeld
import Derived.Deep.CutRange
import Derived.Shelf.SlSortCmp.QuietGrown
set_option linter.all false
set_option maxRecDepth 100000
set_option maxHeartbeats 16000000
namespace Go.Proofs.YtehgehanbnkdiaaGreatDoor
open Go.RowKit Go.Sort Go.Proofs.Tryz
def aM(n:Int):Int:=min (max n (-100000)) 100000
def aJ(n:Int):Int:=min (max n 0) 100000
def rv(x y w h:Int):Fd:=.agg #[Iq x,Iq y,Iq w,Iq h]
theorem bN n:-100000<=aM n/\aM n<=100000:=by grind[aM]
theorem bC n:0<=aJ n/\aJ n<=100000:=by grind[aJ]
theorem length_any(n:Int)(w:AT):Cw 112 #[Iq n] w λe w'=>e=Rw (Iq (aJ n))/\w'=w:=by go_enter func112,ntmps112;go_wp2;all_goals go_ret;refine⟨?_,rfl⟩;refine congrArg (λn:Int=>Ending.returned (Iq n)) (?_:_=aJ n);grind[aJ]
theorem position_any(n:Int)(w:AT):Cw 212 #[Iq n] w λe w'=>e=Rw (Iq (aM n))/\w'=w:=by go_enter func212,ntmps212;go_wp2;all_goals go_ret;refine⟨?_,rfl⟩;refine congrArg (λn:Int=>Ending.returned (Iq n)) (?_:_=aM n);grind[aM]
theorem uw(x y a b:Int)(w:AT):Cw 129 #[rv x y a b] w λe w'=>e=Rw (rv (aM x) (aM y) (aJ a) (aJ b))/\w'=((w.alloc (.cells #[Iq x,Iq y,Iq a,Iq b] 93)).alloc (.cells #[Iq (aM x),Iq (aM y),Iq (aJ a),Iq (aJ b)] 93)).drew:=by have P:=qH<|position_any;have G:=qH<|length_any;unfold rv;go_enter func129,ntmps129;go_wp2_with fail;obtain⟨A,h⟩:=af (aM x);obtain⟨D,i⟩:=af (aM y);obtain⟨q,f⟩:=af (aJ a);obtain⟨s,g⟩:=af (aJ b);have p:=P x;have P2:=P y;have m:=G a;have n:=G b;rw[h]at p;rw[i]at P2;rw[f]at m;rw[g]at n;go_region_held(λW=>W.cell? (aq w.heap.size 0)=some (Iq x)/\W.cell? (aq w.heap.size 1)=some (Iq y)/\W.cell? (aq w.heap.size 2)=some (Iq a)/\W.cell? (aq w.heap.size 3)=some (Iq b)) (go_keep) (first|(go_at_call 212;first|(refine(p _).mono ?_;rintro e j ⟨rfl,rfl⟩)|(refine(P2 _).mono ?_;rintro e j ⟨rfl,rfl⟩))|(go_at_call 112;first|(refine(m _).mono ?_;rintro e j ⟨rfl,rfl⟩)|(refine(n _).mono ?_;rintro e j ⟨rfl,rfl⟩)));go_wp2;refine bodyPost_ret (v:=rv A D q s) (by simp[results,Tryz.results129,go_sem,rv]) rfl ?_;subst h i f g;exact⟨rfl,rfl⟩
def Gr(w w':AT):Prop:=∃q os,w'=grow (w.drewN q) os
theorem Gr.refl w:Gr w w:=⟨0,#[],by simp;rfl⟩
theorem Gr.trans{a b c}(h:Gr a b)(k:Gr b c):Gr a c:=by obtain⟨q,os,rfl⟩:=h;obtain⟨g,f,rfl⟩:=k;exact⟨q+g,os++f,by show grow (grow ((a.drewN q).drewN g) os) f=_;rw[grow_grow,World.drewN_drewN]⟩
theorem Gr.alloc{a b}(h:Gr a b)o:Gr a (b.alloc o):=h.trans ⟨0,#[o],alloc_eq_grow b o⟩
theorem Gr.drew{a b}(h:Gr a b):Gr a b.drew:=h.trans ⟨1,#[],by simp;rfl⟩
theorem Gr.drewN{a b}(h:Gr a b)n:Gr a (b.drewN n):=h.trans ⟨n,#[],At⟩
theorem Gr.size{a b}(h:Gr a b):a.heap.size<=b.heap.size:=by obtain⟨q,os,rfl⟩:=h;simp_all
theorem Gr.block{a b}(h:Gr a b){k}(f:k<a.heap.size):b.heap[k]?=a.heap[k]?:=by obtain⟨q,os,rfl⟩:=h;exact heap_grow_old _ _ f
theorem Gr.set{a b}(h:Gr a b){k o}(f:a.heap.size<=k)v:Gr a (b.setCell (aq k o) v):=by obtain⟨q,os,rfl⟩:=h;exact⟨q,_,by unfold World.setCell grow;simp only;rw[modify_append_right (a.drewN q).heap os k _ f]⟩
theorem Gr.below{a b}(h:Gr a b):Bq a b:=⟨by obtain⟨q,os,rfl⟩:=h;rfl,by obtain⟨q,os,rfl⟩:=h;rfl,by obtain⟨q,os,rfl⟩:=h;rfl,h.size,λk f=>h.block f⟩
def R3(T:TypeId)(W:AT)(b:Nat)(x y a:Int):Prop:=W.heap[b]?=some (.cells #[Iq x,Iq y,Iq a] T (0,0))
section
variable{T:TypeId} {W W':AT} {b k o:Nat} {x y a c:Int}
theorem R3.lt(h:R3 T W b x y a):b<W.heap.size:=(aj.1 h).1
theorem R3.c0(h:R3 T W b x y a):W.cell? (aq b 0)=some (Iq x):=by unfold R3 at h;simp[World.cell?,h]
theorem R3.c1(h:R3 T W b x y a):W.cell? (aq b 1)=some (Iq y):=by unfold R3 at h;simp[World.cell?,h]
theorem R3.c2(h:R3 T W b x y a):W.cell? (aq b 2)=some (Iq a):=by unfold R3 at h;simp[World.cell?,h]
theorem R3.fz(h:R3 T W b x y a)j:W.frozen? (aq b j)=false:=frozen_of_row _ _ _ _ _ h
theorem R3.gr(h:R3 T W b x y a)(g:Gr W W'):R3 T W' b x y a:=(g.block h.lt).trans h
theorem R3.new(W:AT)x y a T:R3 T (W.alloc (.cells #[Iq x,Iq y,Iq a] T)) W.heap.size x y a:=heap_alloc_new _ _
theorem R3.other(h:R3 T W b x y a)(f:b≠k)v:R3 T (W.setCell (aq k o) v) b x y a:=(aH W (aq k o) v b f).trans h
theorem R3.set0(h:R3 T W b x y a)f:R3 T (W.setCell (aq b 0) (Iq f)) b f y a:=heap_setCell_same _ b 0 _ T _ h
theorem R3.set1(h:R3 T W b x y a)f:R3 T (W.setCell (aq b 1) (Iq f)) b x f a:=heap_setCell_same _ b 1 _ T _ h
theorem R3.set2(h:R3 T W b x y a)a':R3 T (W.setCell (aq b 2) (Iq a')) b x y a':=heap_setCell_same _ b 2 _ T _ h
theorem R3.set(h:R3 T W b x y a)f g a':R3 T (((W.setCell (aq b 0) (Iq f)).setCell (aq b 1) (Iq g)).setCell (aq b 2) (Iq a')) b f g a':=
 ((h.set0 f).set1 g).set2 a'
theorem R3.others(h:R3 T W b x y a)(f:b≠k)g v1 v2:R3 T (((W.setCell (aq k 0) g).setCell (aq k 1) v1).setCell (aq k 2) v2) b x y a:=((h.other f g).other f v1).other f v2
theorem Gr.set3(h:Gr W W')(f:W.heap.size<=k)g v1 v2:Gr W (((W'.setCell (aq k 0) g).setCell (aq k 1) v1).setCell (aq k 2) v2):=((h.set f g).set f v1).set f v2
end
def sv(f g b:Int):Fd:=.agg #[Iq f,Iq g,Iq b]
def kn(n:Int):Int:=if n<0\/8<n then 0 else n
def bo(n:Int):Int:=if n=1 then 1 else 0
theorem MY n:0<=kn n/\kn n<=8:=by grind[kn]
theorem rx n:0<=bo n/\bo n<=1:=by grind[bo]
theorem Du(n:Int)(w:AT):Cw 231 #[Iq n] w λe w'=>e=Rw (Iq (kn n))/\w'=w:=by
 go_enter func231,ntmps231;by_cases g:n<0;·go_wp2;go_ret;simp_all[kn]
 ·by_cases f:8<n;·go_wp2;go_ret;exact⟨by rw[show kn n=0 by unfold kn;rw[if_pos (.inr f)]];rfl,rfl⟩
  ·go_wp2;go_ret;exact⟨by rw[show kn n=n by unfold kn;rw[if_neg dg]];rfl,rfl⟩
theorem iR(f g b:Int)(w:AT):Cw 169 #[sv f g b] w λe w'=>e=Rw (sv (kn f) (kn g) (bo b))/\Gr w w':=by
 have P:Hid (∀n w,Cw 231 #[Iq n] w λe w'=>e=Rw (Iq (kn n))/\w'=w):=Du;obtain⟨x,j⟩:=af (kn f);obtain⟨y,hy⟩:=af (kn g);have i:=P f;have P2:=P g;rw[j]at i;rw[hy]at P2;unfold sv;go_enter func169,ntmps169;by_cases h:b=1;·subst h;go_wp2_with fail;go_region_held(λW=>W.cell? (aq w.heap.size 0)=some (Iq f)/\W.cell? (aq w.heap.size 1)=some (Iq g)/\W.cell? (aq w.heap.size 2)=some (Iq 1)) (go_keep) (first|(go_at_call 231;first|(with_reducible refine ag (i _) ?_;rintro e m ⟨rfl,rfl⟩)|(with_reducible refine ag (P2 _) ?_;rintro e m ⟨rfl,rfl⟩)));go_wp2;refine bodyPost_ret (v:=sv x y 1) (by simp[results,Tryz.results169,go_sem,sv]) rfl ?_;subst j hy;exact⟨rfl,(((Gr.refl w).alloc _).alloc _).drew⟩
 ·have p:bo b=0:=if_neg h;go_wp2_with fail;go_region_held(λW=>W.cell? (aq w.heap.size 0)=some (Iq f)/\W.cell? (aq w.heap.size 1)=some (Iq g)/\W.cell? (aq w.heap.size 2)=some (Iq 0)) (go_keep) (first|(go_at_call 231;first|(with_reducible refine ag (i _) ?_;rintro e m ⟨rfl,rfl⟩)|(with_reducible refine ag (P2 _) ?_;rintro e m ⟨rfl,rfl⟩)));go_wp2;refine bodyPost_ret (v:=sv x y 0) (by simp[results,Tryz.results169,go_sem,sv]) rfl ?_;subst j hy;exact⟨by rw[p];rfl,(((Gr.refl w).alloc _).alloc _).drew⟩
theorem Hv(n:Int)(w:AT):Cw 274 #[Iq n] w λe w'=>e=Rw (Iq (kn n))/\w'=w:=by
 go_enter func274,ntmps274;by_cases f:n<0;·go_wp2;go_ret;simp_all[kn]
 ·by_cases g:8<n;·go_wp2;go_ret;simp_all[kn]
  ·go_wp2;go_ret;exact⟨by rw[show kn n=n by grind[kn]];rfl,rfl⟩
theorem rZ(f g b:Int)(w:AT):Cw 215 #[sv f g b] w λe w'=>e=Rw (sv (kn f) (kn g) (bo b))/\Gr w w':=by
 have P:Hid (∀n w,Cw 274 #[Iq n] w λe w'=>e=Rw (Iq (kn n))/\w'=w):=Hv;obtain⟨x,j⟩:=af (kn f);obtain⟨y,hy⟩:=af (kn g);have i:=P f;have P2:=P g;rw[j]at i;rw[hy]at P2;unfold sv;go_enter func215,ntmps215;by_cases h:b=1;·subst h;go_wp2_with fail;go_region_held(λW=>W.cell? (aq w.heap.size 0)=some (Iq f)/\W.cell? (aq w.heap.size 1)=some (Iq g)) (go_keep) (first|(go_at_call 274;first|(with_reducible refine ag (i _) ?_;rintro e m ⟨rfl,rfl⟩)|(with_reducible refine ag (P2 _) ?_;rintro e m ⟨rfl,rfl⟩)));go_wp2;refine bodyPost_ret (v:=sv x y 1) (by simp[results,Tryz.results215,go_sem,sv]) rfl ?_;subst j hy;exact⟨rfl,(((Gr.refl w).alloc _).alloc _).drew⟩
 ·have p:bo b=0:=if_neg h;go_wp2_with fail;go_region_held(λW=>W.cell? (aq w.heap.size 0)=some (Iq f)/\W.cell? (aq w.heap.size 1)=some (Iq g)) (go_keep) (first|(go_at_call 274;first|(with_reducible refine ag (i _) ?_;rintro e m ⟨rfl,rfl⟩)|(with_reducible refine ag (P2 _) ?_;rintro e m ⟨rfl,rfl⟩)));go_wp2;refine bodyPost_ret (v:=sv x y 0) (by simp[results,Tryz.results215,go_sem,sv]) rfl ?_;subst j hy;exact⟨by rw[p];rfl,(((Gr.refl w).alloc _).alloc _).drew⟩
def R4(T:TypeId)(W:AT)(b:Nat)(x y a c:Int):Prop:=W.heap[b]?=some (.cells #[Iq x,Iq y,Iq a,Iq c] T (0,0))
section
variable{T:TypeId} {W W':AT} {b k o:Nat} {x y a c:Int}
theorem R4.lt(h:R4 T W b x y a c):b<W.heap.size:=(aj.1 h).1
theorem R4.c0(h:R4 T W b x y a c):W.cell? (aq b 0)=some (Iq x):=by unfold R4 at h;simp[World.cell?,h]
theorem R4.c1(h:R4 T W b x y a c):W.cell? (aq b 1)=some (Iq y):=by unfold R4 at h;simp[World.cell?,h]
theorem R4.c2(h:R4 T W b x y a c):W.cell? (aq b 2)=some (Iq a):=by unfold R4 at h;simp[World.cell?,h]
theorem R4.c3(h:R4 T W b x y a c):W.cell? (aq b 3)=some (Iq c):=by unfold R4 at h;simp[World.cell?,h]
theorem R4.fz(h:R4 T W b x y a c)j:W.frozen? (aq b j)=false:=frozen_of_row _ _ _ _ _ h
theorem R4.gr(h:R4 T W b x y a c)(g:Gr W W'):R4 T W' b x y a c:=(g.block h.lt).trans h
theorem R4.new(W:AT)x y a c T:R4 T (W.alloc (.cells #[Iq x,Iq y,Iq a,Iq c] T)) W.heap.size x y a c:=heap_alloc_new _ _
theorem R4.other(h:R4 T W b x y a c)(f:b≠k)v:R4 T (W.setCell (aq k o) v) b x y a c:=(aH W (aq k o) v b f).trans h
theorem R4.set(h:R4 T W b x y a c)f g a' c':R4 T ((((W.setCell (aq b 0) (Iq f)).setCell (aq b 1) (Iq g)).setCell (aq b 2) (Iq a')).setCell (aq b 3) (Iq c')) b f g a' c':=
 heap_setCell_same _ b 3 _ T _ (heap_setCell_same _ b 2 _ T _ (heap_setCell_same _ b 1 _ T _ (heap_setCell_same _ b 0 _ T _ h)))
theorem R4.others(h:R4 T W b x y a c)(f:b≠k)g v1 v2 i:R4 T ((((W.setCell (aq k 0) g).setCell (aq k 1) v1).setCell (aq k 2) v2).setCell (aq k 3) i) b x y a c:=(((h.other f g).other f v1).other f v2).other f i
theorem Gr.set4(h:Gr W W')(f:W.heap.size<=k)g v1 v2 i:Gr W ((((W'.setCell (aq k 0) g).setCell (aq k 1) v1).setCell (aq k 2) v2).setCell (aq k 3) i):=(((h.set f g).set f v1).set f v2).set f i
end
theorem clamped_gr x y a b w:Cw 129 #[rv x y a b] w λe w'=>e=Rw (rv (aM x) (aM y) (aJ a) (aJ b))/\Gr w w':=
 (uw x y a b w).mono λe w' ⟨f,g⟩=>⟨f,by rw[g];exact(((Gr.refl w).alloc _).alloc _).drew⟩
def dK(ax aw bx bw:Int):Int:=max (aM ax) (aM bx)
def fE(ax aw bx bw:Int):Int:=min (aM ax+aJ aw) (aM bx+aJ bw)
def ma(ax ay aw ah bx kV bw bh:Int):Fd:=if dK ax aw bx bw>=fE ax aw bx bw\/dK ay ah kV bh>=fE ay ah kV bh then rv 0 0 0 0 else rv (dK ax aw bx bw) (dK ay ah kV bh) (fE ax aw bx bw-dK ax aw bx bw) (fE ay ah kV bh-dK ay ah kV bh)
theorem AE(O P N L U h S R:Int)(w:AT):Cw 116 #[rv O P N L,rv U h S R] w λe w'=>e=Rw (ma O P N L U h S R)/\Gr w w':=by
 have CC:=qH<|clamped_gr;unfold rv at CC⊢;go_enter func116,ntmps116;go_wp2_with fail;obtain⟨A,hA⟩:=af w.heap.size;obtain⟨W0,i⟩:=af (((w.alloc (.cells #[Iq O,Iq P,Iq N,Iq L] 93)).alloc (.cells #[Iq U,Iq h,Iq S,Iq R] 93)).alloc (.cells #[Iq 0,Iq 0,Iq 0,Iq 0] 93));have G0:Hid (Gr w W0):=by rw[<-i];exact(((Gr.refl w).alloc _).alloc _).alloc _
 have RA:Hid (R4 93 W0 A O P N L):=by rw[<-i,<-hA];exact(R4.new w _ _ _ _ _).gr (((Gr.refl _).alloc _).alloc _)
 have RB:Hid (R4 93 W0 (A+1) U h S R):=by have:=R4.new (w.alloc (.cells #[Iq O,Iq P,Iq N,Iq L] 93)) U h S R 93;simp only[ai,hA]at this;rw[<-i];exact this.gr ((Gr.refl _).alloc _)
 have RC:Hid (R4 93 W0 (A+1+1) 0 0 0 0):=by have:=R4.new ((w.alloc (.cells #[Iq O,Iq P,Iq N,Iq L] 93)).alloc (.cells #[Iq U,Iq h,Iq S,Iq R] 93)) 0 0 0 0 93;simp only[ai,hA]at this;rw[<-i];exact this
 rw[i,hA];clear i;have HA:=qH<|hA;clear hA;have a0:=RA.c0;have a1:=RA.c1;have a2:=RA.c2;have a3:=RA.c3;have b0:=RB.c0;have b1:=RB.c1;have b2:=RB.c2;have b3:=RB.c3;obtain⟨j,zg⟩:=af (aM O);obtain⟨m,zh⟩:=af (aM P);obtain⟨E,Z⟩:=af (aJ N);obtain⟨F,ze⟩:=af (aJ L);obtain⟨n,zk⟩:=af (aM U);obtain⟨p,zl⟩:=af (aM h);obtain⟨G,zi⟩:=af (aJ S);obtain⟨I,zj⟩:=af (aJ R);go_cut[2,3,4]from 9 to 12 (λu v t V=>u=Pq A/\v=Pq (A+1)/\t=Pq (A+1+1)/\Hid (R4 93 V A j m E F/\R4 93 V (A+1) n p G I/\R4 93 V (A+1+1) 0 0 0 0/\Gr w V));case first=>
  go_region_with(go_at_call 129;refine(CC _ _ _ _ _).mono ?_;rintro e wn ⟨rfl,Y⟩;have J:=qH<|(by first|exact((Gr.refl W0).drew).trans Y|exact Gr.trans (Hid.out (by assumption)) Y);have f:=qH<|RA.gr J;have g:=qH<|RB.gr J;clear Y;have m0:=f.c0;have m1:=f.c1;have m2:=f.c2;have m3:=f.c3;have n0:=g.c0;have n1:=g.c1;have n2:=g.c2;have n3:=g.c3;have f0:=f.fz 0;have f1:=f.fz 1;have f2:=f.fz 2;have f3:=f.fz 3;have g0:=g.fz 0;have g1:=g.fz 1;have g2:=g.fz 2;have g3:=g.fz 3);all_goals
   have s:Hid (R4 93 ((((((((wn.setCell (aq A 0) (Iq j)).setCell (aq A 1) (Iq m)).setCell (aq A 2) (Iq E)).setCell (aq A 3) (Iq F)).setCell (aq (A+1) 0) (Iq n)).setCell (aq (A+1) 1) (Iq p)).setCell (aq (A+1) 2) (Iq G)).setCell (aq (A+1) 3) (Iq I)) A j m E F/\R4 93 ((((((((wn.setCell (aq A 0) (Iq j)).setCell (aq A 1) (Iq m)).setCell (aq A 2) (Iq E)).setCell (aq A 3) (Iq F)).setCell (aq (A+1) 0) (Iq n)).setCell (aq (A+1) 1) (Iq p)).setCell (aq (A+1) 2) (Iq G)).setCell (aq (A+1) 3) (Iq I)) (A+1) n p G I/\R4 93 ((((((((wn.setCell (aq A 0) (Iq j)).setCell (aq A 1) (Iq m)).setCell (aq A 2) (Iq E)).setCell (aq A 3) (Iq F)).setCell (aq (A+1) 0) (Iq n)).setCell (aq (A+1) 1) (Iq p)).setCell (aq (A+1) 2) (Iq G)).setCell (aq (A+1) 3) (Iq I)) (A+1+1) 0 0 0 0/\Gr w ((((((((wn.setCell (aq A 0) (Iq j)).setCell (aq A 1) (Iq m)).setCell (aq A 2) (Iq E)).setCell (aq A 3) (Iq F)).setCell (aq (A+1) 0) (Iq n)).setCell (aq (A+1) 1) (Iq p)).setCell (aq (A+1) 2) (Iq G)).setCell (aq (A+1) 3) (Iq I))):=
    ⟨(f.set j m E F).others dg _ _ _ _,(g.others dg _ _ _ _).set n p G I,((RC.gr J).others dg _ _ _ _).others dg _ _ _ _,((G0.trans J).set4 (by rw[HA.out];omega) _ _ _ _).set4 (by rw[HA.out];omega) _ _ _ _⟩;clear m0 m1 m2 m3 n0 n1 n2 n3 f0 f1 f2 f3 g0 g1 g2 g3 a0 a1 a2 a3 b0 b1 b2 b3 f g;go_wp2_with fail;go_meet;grind
 case rest=>
  obtain⟨rfl,rfl,rfl,s⟩:=hcut;clear a0 a1 a2 a3 b0 b1 b2 b3 RA RB RC;have a0:=s.1.c0;have a1:=s.1.c1;have a2:=s.1.c2;have a3:=s.1.c3;have b0:=s.2.1.c0;have b1:=s.2.1.c1;have b2:=s.2.1.c2;have b3:=s.2.1.c3;have zo:=bN O;have zq:=bN P;have zm:=bC N;have zn:=bC L;have zu:=bN U;have zv:=bN h;have zr:=bC S;have zt:=bC R;rw[zg]at zo;rw[zh]at zq;rw[Z]at zm;rw[ze]at zn;rw[zk]at zu;rw[zl]at zv;rw[zi]at zr;rw[zj]at zt;go_wp2_with fail;go_cut[5,6]from 13 to 28 (λu v V=>u=Iq (max j n)/\v=Iq (min (j+E) (n+G))/\∃q,V=wc.drewN q);case first=>by_cases h1:j<n;iterate 2 ·by_cases h2:j+E<=n+G;iterate 2 ·go_quiet(fail);go_wp2_with fail;go_meet;grind
  case rest=>
   obtain⟨rfl,rfl,q1,rfl⟩:=hcut;go_wp2_with fail;go_cut[7,8]from 29 to 44 (λu v V=>u=Iq (max m p)/\v=Iq (min (m+F) (p+I))/\∃q,V=wc.drewN q);case first=>by_cases h1:m<p;iterate 2 ·by_cases h2:m+F<=p+I;iterate 2 ·go_quiet(fail);go_wp2_with fail;go_meet;exact⟨congrArg (Value.int .i64) dg,congrArg (Value.int .i64) dg,q1+nq,by first|rfl|exact World.drewN_drewN _ _ _⟩
   case rest=>
    obtain⟨rfl,rfl,q2,rfl⟩:=hcut;obtain⟨W1,X⟩:=af (wc.drewN q2);have G1:Hid (Gr wc W1):=by rw[<-X];exact(Gr.refl _).drewN _
    rw[X];have D:=qH<|s.2.2.1.gr G1;have GG:=qH<|s.2.2.2.trans G1;clear X a0 a1 a2 a3 b0 b1 b2 b3 s;have c0:=D.c0;have c1:=D.c1;have c2:=D.c2;have c3:=D.c3;have f0:=D.fz 0;have f1:=D.fz 1;have f2:=D.fz 2;have f3:=D.fz 3;obtain⟨l,hl⟩:=af (max j n);obtain⟨r,hr⟩:=af (min (j+E) (n+G));obtain⟨t,ht⟩:=af (max m p);obtain⟨d,hd⟩:=af (min (m+F) (p+I));have HV:Hid (ma O P N L U h S R=if l>=r\/t>=d then rv 0 0 0 0 else rv l t (r-l) (d-t)):=by show _=_;unfold ma dK fE;rw[zg,zh,Z,ze,zk,zl,zi,zj,hl,hr,ht,hd]
    have bl:-100000<=l/\l<=100000:=dg;have br:-100000<=r/\r<=200000:=dg;have bt:-100000<=t/\t<=100000:=dg;have bd:-100000<=d/\d<=200000:=dg;rw[hl,hr,ht,hd];clear zg zh Z ze zk zl zi zj hl hr ht hd zo zq zm zn zu zv zr zt;by_cases h1:r<=l;·have e1:=decide_eq_true h1;go_wp2;refine bodyPost_ret (results_cell_row rfl _ _ (A+1+1) _ _ _ _ rfl (D.set 0 0 0 0) underlying93 rfl pt) rfl ?_;exact⟨by rw[HV.out,if_pos (.inl h1)];rfl,GG.set4 (by rw[HA.out];omega) _ _ _ _⟩
    ·have e1:=decide_eq_false h1;by_cases h2:d<=t;·have e2:=decide_eq_true h2;go_wp2;refine bodyPost_ret (results_cell_row rfl _ _ (A+1+1) _ _ _ _ rfl (D.set 0 0 0 0) underlying93 rfl pt) rfl ?_;exact⟨by rw[HV.out,if_pos (.inr h2)];rfl,GG.set4 (by rw[HA.out];omega) _ _ _ _⟩
     ·have e2:=decide_eq_false h2;go_wp2;refine bodyPost_ret (results_cell_row rfl _ _ (A+1+1) _ _ _ _ rfl (D.set l t (r-l) (d-t)) underlying93 rfl pt) rfl ?_;exact⟨by rw[HV.out,if_neg dg];rfl,GG.set4 (by rw[HA.out];omega) _ _ _ _⟩
def uU(x y a b px py:Int):Bool:=decide (aM x<=px/\px<aM x+aJ a/\aM y<=py/\py<aM y+aJ b)
theorem Dj{x y a b f g}(h:aM x<=f/\f<aM x+aJ a/\aM y<=g/\g<aM y+aJ b):uU x y a b f g=true:=decide_eq_true h
theorem FO{x y a b f g}(h:¬(aM x<=f/\f<aM x+aJ a/\aM y<=g/\g<aM y+aJ b)):uU x y a b f g=false:=decide_eq_false h
theorem Br{n}(h:-100000<=n/\n<=100000):aM n=n:=by grind[aM]
theorem jA{n}(h:0<=n/\n<=100000):aJ n=n:=by grind[aJ]
theorem tO{a b c d a' f c' d'}(h:rv a b c d=rv a' f c' d'):a=a'/\b=f/\c=c'/\d=d':=by grind[rv]
structure Ce where
 t:BY
 f:Int
 g:Int
 b:Int
 p:Int
abbrev zzd:=Nat->Nat->Ce
def O8:BY:=⟨#[32]⟩
def NL:BY:=⟨#[]⟩
def bl(c:Ce):Ce:=⟨O8,c.f,c.g,c.b,0⟩
def bk(f g b:Int):Ce:=⟨O8,f,g,b,0⟩
theorem PC c:(bl c).p=0:=rfl
def span(r:Nat->Ce)(a z:Nat)(x:Nat->Ce):Nat->Ce:=λj=>
 if a<=j/\j<z then x j
 else if a<z/\j+1=a/\(r a).p=2 then bl (r j)
 else if a<z/\j=z/\(r (z-1)).p=1 then bl (r j)
 else r j
theorem iq{r}{a z}{x}{j}(h:a<=j/\j<z):span r a z x j=x j:=if_pos h
theorem r_{r}{a z}{x}(h:¬a<z):span r a z x=r:=by grind[span]
theorem jd{r}{a z}{x}{j}(h:¬(a<=j/\j<z)):
 (span r a z x j=r j/\¬(a<z/\j+1=a/\(r a).p=2)/\¬(a<z/\j=z/\(r (z-1)).p=1))\/(span r a z x j=bl (r j)/\((a<z/\j+1=a/\(r a).p=2)\/(a<z/\j=z/\(r (z-1)).p=1))):=by grind[span]
structure lW(W:Nat)(r:Nat->Ce):Prop where
 part:∀i,i<W->(r i).p=0\/(r i).p=1\/(r i).p=2
 head:∀i,i<W->(r i).p=1->i+1<W/\(r (i+1)).p=2/\(r (i+1)).f=(r i).f/\(r (i+1)).g=(r i).g/\(r (i+1)).b=(r i).b
 tail:∀i,i<W->(r i).p=2->∃k,i=k+1/\(r k).p=1/\(r i).t=NL
section
variable{W a z:Nat} {r x:Nat->Ce}
theorem lW.beside(h:lW W r)(I:z<=W){i}(hi:i<W)(s:¬(a<=i/\i<z)):
 ((span r a z x i).p=0\/(span r a z x i).p=1\/(span r a z x i).p=2)
 /\((span r a z x i).p=1->span r a z x i=r i/\span r a z x (i+1)=r (i+1)/\(r i).p=1)
 /\((span r a z x i).p=2->span r a z x i=r i/\(r i).p=2/\∃k,i=k+1/\span r a z x k=r k):=by
 rcases jd (r:=r) (x:=x) s with⟨e,D,E⟩|⟨e,hh⟩
 ·rw[e];refine⟨h.part i hi,λm=>⟨rfl,?_,m⟩,λm=>⟨rfl,m,?_⟩⟩
  ·obtain⟨v,A,_⟩:=h.head i hi m;by_cases f:a<=i+1/\i+1<z;·grind
   ·rcases jd (r:=r) (x:=x) f with⟨g,_⟩|⟨g,j|j⟩;·exact g
    ·exfalso;obtain⟨k,q,n,_⟩:=h.tail a dg j.2.2;grind
    omega
  ·obtain⟨k,q,n,_⟩:=h.tail i hi m;refine⟨k,q,?_⟩;by_cases f:a<=k/\k<z;·grind
   ·rcases jd (r:=r) (x:=x) f with⟨g,_⟩|⟨g,j|j⟩;·exact g
    ·omega
    ·exfalso;obtain⟨F,G,_⟩:=h.head (z-1) dg j.2.2;grind
 grind[PC]
theorem lW.span0(h:lW W r)(n:z<=W)(F:∀j,a<=j->j<z->(x j).p=0):lW W (span r a z x):=by
 refine⟨λi hi=>?_,λi hi m=>?_,λi hi m=>?_⟩<;>by_cases f:a<=i/\i<z;·grind[iq]
 ·exact(h.beside n hi f).1
 ·grind[iq]
 ·obtain⟨q,g,s⟩:=(h.beside n hi f).2.1 m;rw[q,g];exact h.head i hi s
 ·grind[iq]
 ·obtain⟨q,g,k,E,s⟩:=(h.beside n hi f).2.2 m;obtain⟨k',v,A,D⟩:=h.tail i hi g;grind
theorem lW.span2(h:lW W r)(q:a+2<=W)(F:(x a).p=1)(G:(x (a+1)).p=2)(J:(x (a+1)).f=(x a).f)(L:(x (a+1)).g=(x a).g)(I:(x (a+1)).b=(x a).b)(O:(x (a+1)).t=NL):lW W (span r a (a+2) x):=by
 have D:span r a (a+2) x a=x a:=iq dg;have E:span r a (a+2) x (a+1)=x (a+1):=iq dg;refine⟨λi hi=>?_,λi hi m=>?_,λi hi m=>?_⟩<;>by_cases j:a<=i/\i<a+2;·grind
 ·exact(h.beside q hi j).1
 ·grind
 ·obtain⟨s,n,v⟩:=(h.beside q hi j).2.1 m;rw[s,n];exact h.head i hi v
 ·grind
 ·obtain⟨s,n,k,N,v⟩:=(h.beside q hi j).2.2 m;obtain⟨k',A,P,R⟩:=h.tail i hi n;grind
theorem lW.next(h:lW W r){m}(A:a<=m)(v:m<W)(F:∀j,(x j).p=0):span (span r a m x) m (m+1) x=span r a (m+1) x:=by
 by_cases e:a=m;·grind[r_]
 have i:a<m:=dg
 -- the cell at m,as it is f
 have E:(span r a m x m).p≠2/\((span r a m x m).p=1↔(r m).p=1):=by
  rcases jd (r:=r) (a:=a) (z:=m) (x:=x) (j:=m) dg with⟨g,_,G⟩|⟨g,h3|h3⟩;·rw[g];refine⟨λn=>?_,Iff.rfl⟩;obtain⟨k,D,s,_⟩:=h.tail m v n;grind
  ·omega
  ·rw[g,PC];refine⟨dg,λq=>dg,λq=>?_⟩;obtain⟨_,I,_⟩:=h.head (m-1) dg h3.2.2;grind
 grind[iq,span,bl]
end
def fill(c:zzd)(l r t d:Nat)(x:Nat->Ce):Nat->Nat->Ce:=λy=>if t<=y/\y<d then span (c y) l r x else c y
def PAll(W H:Nat)(c:zzd):Prop:=∀y,y<H->lW W (c y)
section
variable{W H l r t d:Nat} {c:zzd} {x:Nat->Ce}
theorem C_(h:¬(l<r/\t<d)):fill c l r t d x=c:=by grind[fill,r_]
theorem PAll.fill0(h:PAll W H c)(f:r<=W)(g:∀j,(x j).p=0):PAll W H (fill c l r t d x):=by
 intro y hy;unfold fill;split;·exact(h y hy).span0 f (λj _ _=>g j)
 ·exact h y hy
theorem PAll.fill2(h:PAll W H c)(v:l+2<=W)(i:(x l).p=1)(j:(x (l+1)).p=2)(n:(x (l+1)).f=(x l).f)(q:(x (l+1)).g=(x l).g)(m:(x (l+1)).b=(x l).b)(s:(x (l+1)).t=NL):PAll W H (fill c l (l+2) t d x):=by
 intro y hy;unfold fill;split;·exact(h y hy).span2 v i j n q m s
 ·exact h y hy
theorem C9(f:t<=d):fill (fill c l r t d x) l r d (d+1) x=fill c l r t (d+1) x:=by grind[fill]
theorem FC(h:PAll W H c)(s:r<=W){y j}(hy:y<H)(i:j<W)(n:¬(t<=y/\y<d/\l<=j/\j<r)):fill c l r t d x y j=c y j\/(fill c l r t d x y j=bl (c y j)/\(c y j).p≠0):=by
 unfold fill;by_cases f:t<=y/\y<d
 ·rw[if_pos f];rcases jd (r:=c y) (a:=l) (z:=r) (x:=x) (j:=j) dg with⟨e,_⟩|⟨e,hh|hh⟩;·grind
  ·refine .inr ⟨e,?_⟩;obtain⟨k,m,g,_⟩:=(h y hy).tail l dg hh.2.2;grind
  ·refine .inr ⟨e,?_⟩;obtain⟨_,q,_⟩:=(h y hy).head (r-1) dg hh.2.2;grind
 grind
end
def ov(a b:Int):Int:=if kn b=0 then kn a else kn b
def xG(a b:Int):Int:=max (bo b) (bo a)
theorem oy a:ov 0 a=kn a:=by have:kn 0=0:=rfl;unfold ov;split<;>omega
theorem vP a:xG 0 a=bo a:=by have:bo 0=0:=rfl;have:=rx a;unfold xG;omega
def P2(T:TypeId)(w u:AT)(B C:Nat)(a b c:Int):Prop:=R3 T u B a b c/\R3 T u C 0 0 0/\Gr w u
section
variable{T:TypeId} {w u:AT} {B C:Nat} {a b c:Int}
theorem P2.ch0(h:P2 T w u B C a b c)(i:C≠B)(g:w.heap.size<=B)(x:Int):∃f a',((a=0/\f=u.setCell (aq B 0) (Iq x)/\a'=x)\/(¬a=0/\f=u/\a'=a))/\P2 T w f B C a' b c:=by
 by_cases e:a=0;·exact⟨_,_,.inl ⟨e,rfl,rfl⟩,h.1.set0 x,h.2.1.other i _,h.2.2.set g _⟩
 ·exact⟨_,_,.inr ⟨e,rfl,rfl⟩,h⟩
theorem P2.ch1(h:P2 T w u B C a b c)(j:C≠B)(i:w.heap.size<=B)(x:Int):∃g f,((b=0/\g=u.setCell (aq B 1) (Iq x)/\f=x)\/(¬b=0/\g=u/\f=b))/\P2 T w g B C a f c:=by
 by_cases e:b=0;·exact⟨_,_,.inl ⟨e,rfl,rfl⟩,h.1.set1 x,h.2.1.other j _,h.2.2.set i _⟩
 ·exact⟨_,_,.inr ⟨e,rfl,rfl⟩,h⟩
theorem P2.set2(h:P2 T w u B C a b c)(g:C≠B)(f:w.heap.size<=B)(x:Int):P2 T w (u.setCell (aq B 2) (Iq x)) B C a b x:=⟨h.1.set2 x,h.2.1.other g _,h.2.2.set f _⟩
theorem AR{p:Prop}{x y z:Int}{q r:Prop}[Decidable p](h:(p/\q/\z=x)\/(¬p/\r/\z=y)):(if p then x else y)=z:=rn
end
theorem lB(f g b f2 s p:Int)(w:AT):Cw 97 #[sv f g b,sv f2 s p] w λe w'=>e=Rw (sv (ov f f2) (ov g s) (xG b p))/\Gr w w':=by
 have CC:Hid (∀f g b w,Cw 169 #[sv f g b] w λe w'=>e=Rw (sv (kn f) (kn g) (bo b))/\Gr w w'):=iR;unfold sv at CC⊢;go_enter func97,ntmps97;go_wp2_with fail;obtain⟨S,hS⟩:=af w.heap.size;obtain⟨N,q⟩:=af (((w.alloc (.cells #[Iq f,Iq g,Iq b] 44)).alloc (.cells #[Iq f2,Iq s,Iq p] 44)).alloc (.cells #[Iq 0,Iq 0,Iq 0] 44));have G0:Hid (Gr w N):=by rw[<-q];exact(((Gr.refl w).alloc _).alloc _).alloc _
 have P:Hid (R3 44 N S f g b):=by rw[<-q,<-hS];exact(R3.new w _ _ _ _).gr (((Gr.refl _).alloc _).alloc _)
 have R:Hid (R3 44 N (S+1) f2 s p):=by have:=R3.new (w.alloc (.cells #[Iq f,Iq g,Iq b] 44)) f2 s p 44;simp only[ai,hS]at this;rw[<-q];exact this.gr ((Gr.refl _).alloc _)
 have RC:Hid (R3 44 N (S+1+1) 0 0 0):=by have:=R3.new ((w.alloc (.cells #[Iq f,Iq g,Iq b] 44)).alloc (.cells #[Iq f2,Iq s,Iq p] 44)) 0 0 0 44;simp only[ai,hS]at this;rw[<-q];exact this
 rw[q,hS];clear q;have Y:Hid (w.heap.size=S):=hS;clear hS;have a0:=P.c0;have a1:=P.c1;have a2:=P.c2;have b0:=R.c0;have b1:=R.c1;have G:=R.c2;obtain⟨x,hx⟩:=af (kn f);obtain⟨y,hy⟩:=af (kn g);obtain⟨z,hz⟩:=af (bo b);obtain⟨E,V⟩:=af (kn f2);obtain⟨F,X⟩:=af (kn s);obtain⟨m,J⟩:=af (bo p);have HV:Hid (sv (ov f f2) (ov g s) (xG b p)=sv (if E=0 then x else E) (if F=0 then y else F) (max m z)):=by show _=_;unfold ov xG;rw[hx,hy,hz,V,X,J]
 have bz:=rx b;have ze:=rx p;rw[hz]at bz;rw[J]at ze;have C1:=CC f g b;have C2:=CC f2 s p;rw[hx,hy,hz]at C1;rw[V,X,J]at C2;go_cut[2,3,4]from 5 to 9 (λu v t wx=>u=Pq S/\v=Pq (S+1)/\t=Pq (S+1+1)/\Hid (R3 44 wx S x y z/\R3 44 wx (S+1) E F m/\R3 44 wx (S+1+1) 0 0 0/\Gr w wx));case first=>
  go_region_with(go_at_call 169;(first|(with_reducible refine ag (C1 _) ?_)|(with_reducible refine ag (C2 _) ?_));rintro e L ⟨rfl,I⟩;have A:Hid (Gr N L):=(by first|exact((Gr.refl N).drew).trans I|exact Gr.trans (Hid.out (by assumption)) I);have i:Hid (R3 44 L S f g b):=P.out.gr A.out;have j:Hid (R3 44 L (S+1) f2 s p):=R.out.gr A.out;clear I;have m0:=i.out.c0;have m1:=i.out.c1;have m2:=i.out.c2;have n0:=j.out.c0;have n1:=j.out.c1;have n2:=j.out.c2;have f0:=i.out.fz 0;have f1:=i.out.fz 1;have zg:=i.out.fz 2;have g0:=j.out.fz 0;have g1:=j.out.fz 1;have U:=j.out.fz 2);all_goals
   have n:Hid (R3 44 ((((((L.setCell (aq S 0) (Iq x)).setCell (aq S 1) (Iq y)).setCell (aq S 2) (Iq z)).setCell (aq (S+1) 0) (Iq E)).setCell (aq (S+1) 1) (Iq F)).setCell (aq (S+1) 2) (Iq m)) S x y z/\R3 44 ((((((L.setCell (aq S 0) (Iq x)).setCell (aq S 1) (Iq y)).setCell (aq S 2) (Iq z)).setCell (aq (S+1) 0) (Iq E)).setCell (aq (S+1) 1) (Iq F)).setCell (aq (S+1) 2) (Iq m)) (S+1) E F m/\R3 44 ((((((L.setCell (aq S 0) (Iq x)).setCell (aq S 1) (Iq y)).setCell (aq S 2) (Iq z)).setCell (aq (S+1) 0) (Iq E)).setCell (aq (S+1) 1) (Iq F)).setCell (aq (S+1) 2) (Iq m)) (S+1+1) 0 0 0/\Gr w ((((((L.setCell (aq S 0) (Iq x)).setCell (aq S 1) (Iq y)).setCell (aq S 2) (Iq z)).setCell (aq (S+1) 0) (Iq E)).setCell (aq (S+1) 1) (Iq F)).setCell (aq (S+1) 2) (Iq m))):=
    ⟨(i.set x y z).others dg _ _ _,(j.others dg _ _ _).set E F m,((RC.gr A).others dg _ _ _).others dg _ _ _,((G0.trans A).set3 (by rw[Y.out];omega) _ _ _).set3 (by rw[Y.out];omega) _ _ _⟩;clear m0 m1 m2 n0 n1 n2 f0 f1 zg g0 g1 U a0 a1 a2 b0 b1 G i j;go_wp2_with fail;go_meet;exact⟨rfl,rfl,rfl,n⟩
 case rest=>
  obtain⟨rfl,rfl,rfl,n⟩:=hcut;clear a0 a1 a2 b0 b1 G P R RC;have a0:=n.1.c0;have a1:=n.1.c1;have a2:=n.1.c2;have b0:=n.2.1.c0;have b1:=n.2.1.c1;have G:=n.2.1.c2;have g0:=n.2.1.fz 0;have g1:=n.2.1.fz 1;have U:=n.2.1.fz 2;have gg:=n.2.2.2;have hl:w.heap.size<=S+1:=by rw[Y.out];omega
  obtain⟨W1,x3,q1,p1⟩:=P2.ch0 (C:=S+1+1) (w:=w) n.out.2 dg hl x;obtain⟨W2,y3,q2,p2⟩:=p1.ch1 dg hl y;obtain⟨Z,O,q3,D⟩:∃Z O,((m<z/\m<=z/\Z=W2.setCell (aq (S+1) 2) (Iq z)/\O=z)\/(¬m<z/\z<=m/\Z=W2.setCell (aq (S+1) 2) (Iq m)/\O=m))/\P2 44 w Z (S+1) (S+1+1) x3 y3 O:=by
   by_cases h:m<z;·exact⟨_,_,.inl ⟨h,dg,rfl,rfl⟩,p2.set2 dg hl z⟩
   ·exact⟨_,_,.inr ⟨h,dg,rfl,rfl⟩,p2.set2 dg hl m⟩
  have HW:Hid (sv (ov f f2) (ov g s) (xG b p)=sv x3 y3 O):=by show _=_;rw[HV.out,AR q1,AR q2,show max m z=O by omega]
  clear p1 p2;rcases q1 with⟨h1,rfl,rfl⟩|⟨h1,rfl,rfl⟩<;>rcases q2 with⟨h2,rfl,rfl⟩|⟨h2,rfl,rfl⟩<;>rcases q3 with⟨h3,zh,rfl,rfl⟩|⟨h3,zh,rfl,rfl⟩;all_goals have n0:=D.1.c0;have n1:=D.1.c1;have n2:=D.1.c2;have o0:=D.2.1.c0;have o1:=D.2.1.c1;have o2:=D.2.1.c2;have k0:=D.2.1.fz;go_wp2;refine bodyPost_ret (results_cell_row rfl _ _ (S+1+1) _ _ _ _ rfl (D.2.1.set _ _ _) underlying44 rfl pt) rfl ?_;exact⟨by show _=Ending.returned (sv (ov f f2) (ov g s) (xG b p));rw[HW.out];rfl,D.2.2.set3 (by rw[Y.out];omega) _ _ _⟩
structure bG(M:Nat)(W W':AT):Prop where
 os:W'.os=W.os
 tape:W'.tape=W.tape
 output:W'.output=W.output
 size:W.heap.size<=W'.heap.size
 block:∀b,b<W.heap.size->b≠M->W'.heap[b]?=W.heap[b]?
section
variable{M:Nat} {W W' W2:AT}
theorem bG.refl M W:bG M W W:=⟨rfl,rfl,rfl,ad _,λ_ _ _=>rfl⟩
theorem bG.trans(h:bG M W W')(k:bG M W' W2):bG M W W2:=
 ⟨k.os.trans h.os,k.tape.trans h.tape,k.output.trans h.output,az h.size k.size,λb f g=>(k.block b (zz006 f h.size) g).trans (h.block b f g)⟩
theorem bG.below(h:Bq W W'):bG M W W':=⟨h.os,h.tape,h.output,h.size,λb f _=>h.block b f⟩
theorem bG.gr(h:Gr W W'):bG M W W':=bG.below h.below
theorem bG.thenGr(h:bG M W W')(k:Gr W' W2):bG M W W2:=h.trans (bG.gr k)
theorem bG.set(h:bG M W W'){k}(i:k=M\/W.heap.size<=k)o v:bG M W (W'.setCell (aq k o) v):=
 ⟨h.os,h.tape,h.output,by simpa[World.setCell]using h.size,λb f g=>(aH W' (aq k o) v b rn).trans (h.block b f g)⟩
theorem bG.low(h:bG M W W'){B}(j:B<=M)(i:B<=W.heap.size){f}(k:Below B f W):Below B f W':=
 ⟨h.os.trans k.os,h.tape.trans k.tape,h.output.trans k.output,az k.size h.size,λb g=>(h.block b dg dg).trans (k.block b g)⟩
end
def c5(e:Ce):List Fd:=[.string e.t,Iq e.f,Iq e.g,Iq e.b,Iq e.p]
theorem Nx e:(c5 e).length=5:=rfl
structure Cv(T:TypeId)(Q:AT)(M W H:Nat)(c:zzd):Prop where
 arr:∃a,Q.heap[M]?=some (.cells a T (0,0))
 cell:∀y x,y<H->x<W->∀(k:Nat) u,(c5 (c y x))[k]?=some u->Q.cell? (aq M (y*W*5+x*5+k))=some u
def dF(c:zzd)(y x:Nat)(e:Ce):Nat->Nat->Ce:=λy' x'=>if y'=y/\x'=x then e else c y' x'
theorem JZ{W y x g f:Nat}(j:x<W)(i:f<W)(h:y*W+x=g*W+f):y=g/\x=f:=by
 have m:(y*W+x)/W=y:=by rw[fd,IV dg,BT j,qn]
 have n:(g*W+f)/W=g:=by rw[fd,IV dg,BT i,qn]
 grind
theorem Lm{W y x k g f k'}(n:x<W)(j:f<W)(m:k<5)(i:k'<5)(h:y*W*5+x*5+k=g*W*5+f*5+k'):y=g/\x=f/\k=k':=by grind[JZ]
section
variable{T:TypeId} {Q Q':AT} {M W H:Nat} {c c':zzd}
theorem Cv.lt(h:Cv T Q M W H c):M<Q.heap.size:=by obtain⟨a,f⟩:=h.arr;grind
theorem Cv.fz(h:Cv T Q M W H c)j:Q.frozen? (aq M j)=false:=by obtain⟨a,f⟩:=h.arr;exact frozen_of_row _ _ _ _ _ f
theorem Cv.keep(h:Cv T Q M W H c)(f:Q'.heap[M]?=Q.heap[M]?):Cv T Q' M W H c:=by obtain⟨a,g⟩:=h.arr;exact⟨⟨a,f.trans g⟩,λy x hy i k u hu=>(aO (a:=(aq M _)) f).trans (h.cell y x hy i k u hu)⟩
theorem Cv.gr(h:Cv T Q M W H c)(g:Gr Q Q'):Cv T Q' M W H c:=h.keep (g.block h.lt)
theorem Cv.ch{N}(h:Cv T Q M W H c)(g:bG N Q Q')(f:M≠N):Cv T Q' M W H c:=h.keep (g.block M h.lt f)
theorem Cv.other{k}(h:Cv T Q M W H c)(f:M≠k)o v:Cv T (Q.setCell (aq k o) v) M W H c:=h.keep (aH Q (aq k o) v M f)
theorem Cv.same(h:Cv T Q M W H c)(g:∀y x,y<H->x<W->c y x=c' y x):Cv T Q M W H c':=
 ⟨h.arr,λy x hy f k u hu=>h.cell y x hy f k u rn⟩
theorem Cv.set1(h:Cv T Q M W H c){y x k}(hy:y<H)(F:x<W)(n:k<5)v(A:∀g f,c' g f=if g=y/\f=x then c' y x else c g f)(D:c5 (c' y x)=(c5 (c y x)).set k v):
 Cv T (Q.setCell (aq M (y*W*5+x*5+k)) v) M W H c':=by
 obtain⟨a,s⟩:=h.arr;refine⟨⟨_,heap_setCell_same _ M _ _ _ _ s⟩,λg f j i k' u hu=>?_⟩;have E:k'<5:=(nC.1 hu).1;have m:=h.cell y x hy F k _ (cW (show k<(c5 (c y x)).length from n));by_cases e:g=y/\f=x
 ·obtain⟨rfl,rfl⟩:=e;rw[D]at hu;by_cases p:k'=k;·subst p;rw[List.getElem?_set_self (show k'<(c5 (c g f)).length from n)]at hu;injection hu with hu;subst hu;exact jY _ _ _ m
  ·rw[qm dg]at hu;rw[b_ _ _ _ _ (λq=>rn)];exact h.cell g f j i k' u hu
 ·rw[A g f,if_neg e]at hu;rw[b_ _ _ _ _];·exact h.cell g f j i k' u hu
  grind[Lm]
theorem Cv.set(h:Cv T Q M W H c){y x}(hy:y<H)(i:x<W)e:
 Cv T (((((Q.setCell (aq M (y*W*5+x*5)) (.string e.t)).setCell (aq M (y*W*5+x*5+1)) (Iq e.f)).setCell (aq M (y*W*5+x*5+2)) (Iq e.g)).setCell (aq M (y*W*5+x*5+3)) (Iq e.b)).setCell (aq M (y*W*5+x*5+4)) (Iq e.p)) M W H (dF c y x e):=by
 have u0:∀e,dF c y x e y x=e:=λe=>by grind[dF]
 have n:∀e q,∀m j,dF c y x q m j=if m=y/\j=x then dF c y x q y x else dF c y x e m j:=λe q m j=>by grind[dF]
 have s:=h.set1 (c':=dF c y x {c y x with t:=e.t}) (k:=0) hy i dg (.string e.t) (λm j=>by rw[u0];rfl) (by rw[u0];rfl);have v:=s.set1 (c':=dF c y x {c y x with t:=e.t,f:=e.f}) (k:=1) hy i dg (Iq e.f) (n _ _) (by rw[u0,u0];rfl);have A:=v.set1 (c':=dF c y x {c y x with t:=e.t,f:=e.f,g:=e.g}) (k:=2) hy i dg (Iq e.g) (n _ _) (by rw[u0,u0];rfl);have D:=A.set1 (c':=dF c y x {c y x with t:=e.t,f:=e.f,g:=e.g,b:=e.b}) (k:=3) hy i dg (Iq e.b) (n _ _) (by rw[u0,u0];rfl);exact D.set1 (c':=dF c y x e) (k:=4) hy i dg (Iq e.p) (n _ _) (by rw[u0,u0];rfl)
theorem Cv.setPart(h:Cv T Q M W H c){y x}(hy:y<H)(f:x<W)p:
 Cv T (Q.setCell (aq M (y*W*5+x*5+4)) (Iq p)) M W H (dF c y x {c y x with p:=p}):=
 h.set1 (k:=4) hy f dg _ (λi g=>by unfold dF;simp) (by unfold dF;rw[if_pos ⟨rfl,rfl⟩];rfl)
theorem Cv.setText(h:Cv T Q M W H c){y x}(hy:y<H)(f:x<W)s:
 Cv T (Q.setCell (aq M (y*W*5+x*5+0)) (.string s)) M W H (dF c y x {c y x with t:=s}):=
 h.set1 (k:=0) hy f dg _ (λi g=>by unfold dF;simp) (by unfold dF;rw[if_pos ⟨rfl,rfl⟩];rfl)
theorem Cv.c0(h:Cv T Q M W H c){y x}(hy:y<H)(f:x<W):Q.cell? (aq M (y*W*5+x*5))=some (.string (c y x).t):=h.cell y x hy f 0 _ rfl
theorem Cv.c1(h:Cv T Q M W H c){y x}(hy:y<H)(g:x<W):Q.cell? (aq M (y*W*5+x*5+1))=some (Iq (c y x).f):=h.cell y x hy g 1 _ rfl
theorem Cv.c2(h:Cv T Q M W H c){y x}(hy:y<H)(f:x<W):Q.cell? (aq M (y*W*5+x*5+2))=some (Iq (c y x).g):=h.cell y x hy f 2 _ rfl
theorem Cv.c3(h:Cv T Q M W H c){y x}(hy:y<H)(f:x<W):Q.cell? (aq M (y*W*5+x*5+3))=some (Iq (c y x).b):=h.cell y x hy f 3 _ rfl
theorem Cv.c4(h:Cv T Q M W H c){y x}(hy:y<H)(f:x<W):Q.cell? (aq M (y*W*5+x*5+4))=some (Iq (c y x).p):=h.cell y x hy f 4 _ rfl
end
structure CS(TK T:TypeId)(Q:AT)(K M cap W H:Nat)(c:zzd):Prop where
 kb:Q.heap[K]?=some (.cells #[Iq W,Iq H,Sq M (W*H) cap] TK (0,0))
 cv:Cv T Q M W H c
 ne:K≠M
 hc:W*H<=cap
section
variable{TK T:TypeId} {Q Q':AT} {K M cap W H:Nat} {c c':zzd}
theorem CS.klt(h:CS TK T Q K M cap W H c):K<Q.heap.size:=(aj.1 h.kb).1
theorem CS.k0(h:CS TK T Q K M cap W H c):Q.cell? (aq K 0)=some (Iq W):=by have:=h.kb;simp[World.cell?,this]
theorem CS.k1(h:CS TK T Q K M cap W H c):Q.cell? (aq K 1)=some (Iq H):=by have:=h.kb;simp[World.cell?,this]
theorem CS.k2(h:CS TK T Q K M cap W H c):Q.cell? (aq K 2)=some (Sq M (W*H) cap):=by have:=h.kb;simp[World.cell?,this]
theorem CS.ch{N}(h:CS TK T Q K M cap W H c)(g:bG N Q Q')(f:K≠N)(i:M≠N):CS TK T Q' K M cap W H c:=⟨(g.block K h.klt f).trans h.kb,h.cv.ch g i,h.ne,h.hc⟩
theorem CS.gr(h:CS TK T Q K M cap W H c)(g:Gr Q Q'):CS TK T Q' K M cap W H c:=⟨(g.block h.klt).trans h.kb,h.cv.gr g,h.ne,h.hc⟩
theorem CS.put(h:CS TK T Q K M cap W H c)(g:bG M Q Q')(f:Cv T Q' M W H c'):CS TK T Q' K M cap W H c':=⟨(g.block K h.klt h.ne).trans h.kb,f,h.ne,h.hc⟩
end
def Fb(e:Ce):Fd:=.agg #[.string e.t,Iq e.f,Iq e.g,Iq e.b,Iq e.p]
theorem kz(f g b:Int)(w:AT):Cw 96 #[sv f g b] w λe w'=>e=Rw (Fb (bk f g b))/\Gr w w':=by unfold sv;go_enter func96,ntmps96;go_wp2;refine bodyPost_ret (v:=Fb (bk f g b)) (by simp[results,Tryz.results96,go_sem,Fb,bk,O8]) rfl ?_;exact⟨rfl,((Gr.refl w).alloc _).alloc _⟩
theorem oV(f g b:Int)(w:AT):Cw 171 #[sv f g b] w λe w'=>e=Rw (sv (kn f) (kn g) (bo b))/\Gr w w':=by have s:Hid (∀f g b f2 n m w,Cw 97 #[sv f g b,sv f2 n m] w λe w'=>e=Rw (sv (ov f f2) (ov g n) (xG b m))/\Gr w w'):=lB;have i:=s 0 0 0 f g b;rw[oy,oy,vP]at i;unfold sv at i⊢;go_enter func171,ntmps171;go_wp2_with(go_at_call 97;refine ag (i _) ?_;rintro e p ⟨rfl,j⟩;have h:Hid (R3 44 p (w.heap.size+1) 0 0 0):=((by have:=R3.new (w.alloc (.cells #[Iq f,Iq g,Iq b] 44)) 0 0 0 44;simp_all):R3 44 _ (w.heap.size+1) 0 0 0).gr j;have v:=h.c0;have c1:=h.c1;have c2:=h.c2;have f0:=h.fz 0;have f1:=h.fz 1;have f2:=h.fz 2;have q:Hid (Gr w p):=(((Gr.refl w).alloc _).alloc _).trans j;clear j);refine bodyPost_ret (results_cell_row rfl _ _ (w.heap.size+1) _ _ _ _ rfl (h.set _ _ _) underlying44 rfl pt) rfl ?_;exact⟨rfl,q.set3 dg _ _ _⟩
theorem Ih(n:Int)(w:AT):Cw 95 #[Iq n] w λe w'=>e=Rw (.bool (decide (1<=n/\n<=400)))/\w'=w:=by
 by_cases f:1<=n
 ·by_cases g:n<=400;·rw[show decide (1<=n/\n<=400)=true from decide_eq_true ⟨f,g⟩];go_enter func95,ntmps95;go_wp2;go_ret;simp_all
  ·rw[show decide (1<=n/\n<=400)=false from decide_eq_false dg];go_enter func95,ntmps95;go_wp2;go_ret;simp_all
 ·rw[show decide (1<=n/\n<=400)=false from decide_eq_false dg];go_enter func95,ntmps95;go_wp2;go_ret;simp_all
section
variable{K M cap W H:Nat} {c:zzd}
theorem LM(w:AT)(h:CS 196 46 w K M cap W H c)(A:0<W)(m:W<=400)(j:H<=400)(y:Nat)(hy:y<H):Cw 232 #[Pq K,Iq y] w λe w'=>e=Rw (.slice (some (aq M (y*W*5))) W W)/\Gr w w':=by
 have D:=h.k0;have s:=h.k2;have q:=h.hc;obtain⟨p,g⟩:=af (y*W);obtain⟨n,f⟩:=af (W*H);have i:(y:Int)*(W:Int)=(p:Int):=by rw[<-g];simp
 have v:((y:Int)+1)*(W:Int)=(p:Int)+(W:Int):=by rw[BU,i];omega
 have E:p+W<=n:=by rw[<-g,<-f,fd W H,<-Nat.succ_mul];exact iA _ dg
 have nb:n<=160000:=by rw[<-f];exact iE m j
 rw[f]at s q;rw[g];have F:¬W=0:=dg;have G:¬p+W=p:=dg;clear h f g;go_enter func232,ntmps232;go_wp2_with fail;go_quiet(fail);go_wp2;go_ret;refine⟨?_,(Gr.refl w).drewN _⟩;simp_all
end
def eV(c:zzd)(y a:Nat):Nat->Nat->Ce:=λy' x'=>if y'=y/\x'+1=a/\(c y a).p=2 then bl (c y' x')else c y' x'
def xO(c:zzd)(y q:Nat):Nat->Nat->Ce:=λy' x'=>if y'=y/\x'=q+1/\(c y q).p=1 then bl (c y' x')else c y' x'
def cut(c:zzd)(y a q:Nat):Nat->Nat->Ce:=xO (eV c y a) y q
theorem CY{c}{y a}(h:¬(c y a).p=2):eV c y a=c:=by grind[eV]
theorem C0{c}{y a}(h:¬(c y a).p=1):xO c y a=c:=by grind[xO]
theorem CZ{c}{y k}(h:(c y (k+1)).p=2):eV c y (k+1)=dF c y k (bl (c y k)):=by grind[eV,dF]
theorem C5{c}{y q}(h:(c y q).p=1):xO c y q=dF c y (q+1) (bl (c y (q+1))):=by grind[xO,dF]
theorem AJ{c}{y a x}(h:a<=x)f:eV c y a f x=c f x:=by grind[eV]
section
variable{K M cap W H:Nat} {c:zzd}
theorem wU(w:AT)(h:CS 196 46 w K M cap W H c)(h0:0<W)(hW:W<=400)(hH:H<=400)(y a q:Nat)(hy:y<H)(ze:a<=q)(hq:q<W)(hp:lW W (c y)):Cw 172 #[Pq K,Iq y,Iq a,Iq ((q:Int)+1)] w λe w'=>e=Rw (.slice (some (aq M (y*W*5+a*5))) (q+1-a) (q+1-a))/\Cv 46 w' M W H (cut c y a q)/\bG M w w':=by
 have U:Hid (Cw 232 #[Pq K,Iq y] w λe w'=>e=Rw (.slice (some (aq M (y*W*5))) W W)/\Gr w w'):=LM w h h0 hW hH y hy;have L:Hid (∀f g b w,Cw 96 #[sv f g b] w λe w'=>e=Rw (Fb (bk f g b))/\Gr w w'):=kz;have HV:Hid (Cv 46 w M W H c):=h.cv;have HP:Hid (lW W (c y)):=hp;obtain⟨o,I⟩:=af (y*W*5);have n:Hid (y*W*5=o):=I;unfold sv Fb bk at L;rw[I]at U;clear h hp;rw[I];clear I;go_enter func172,ntmps172;go_wp2_with fail;refine ag U ?_;rintro e w1 ⟨rfl,g1⟩;have v:Hid (Cv 46 w1 M W H c):=HV.gr g1;have N:Hid (bG M w w1):=bG.gr g1;clear g1 HV U;have Z:=v.c4 hy (show a<W by omega);rw[n.out]at Z;obtain⟨pa,D⟩:=af ((c y a).p);rw[D]at Z;have P:Hid ((c y a).p=pa):=D;clear D;go_upto_if 18 with fail;go_cut[9]from 13 to 29 (λu G=>u=.slice (some (aq M o)) W W/\Hid (Cv 46 G M W H (eV c y a)/\bG M w G));case first=>
  by_cases j:pa=2
  ·obtain⟨k,zi,zh,_⟩:=HP.tail a dg (P.trans j);subst zi;have R:Hid (eV c y (k+1)=dF c y k (bl (c y k))):=CZ (P.trans j);subst j;clear zh;have V:=v.c1 hy (show k<W by omega);have X:=v.c2 hy (show k<W by omega);have Y:=v.c3 hy (show k<W by omega);rw[n.out]at V X Y;go_wp2_with(go_at_call 96;refine ag (L _ _ _ _) ?_;rintro e F ⟨rfl,A⟩;have i:Hid (Cv 46 F M W H c):=v.gr A;have O:Hid (bG M w F):=N.thenGr A;clear A;have d0:=i.c0 hy (show k<W by omega);have d1:=i.c1 hy (show k<W by omega);have d2:=i.c2 hy (show k<W by omega);have d3:=i.c3 hy (show k<W by omega);have d4:=i.c4 hy (show k<W by omega);rw[n.out]at d0 d1 d2 d3 d4;have f0:=i.fz;have fl:=i.lt);go_meet;refine⟨rfl,?_,?_⟩;·rw[R.out,<-n.out];exact i.set hy (show k<W by omega) (bl (c y k))
   ·exact((((O.set (.inl rfl) _ _).set (.inl rfl) _ _).set (.inl rfl) _ _).set (.inl rfl) _ _).set (.inl rfl) _ _
  ·have zj:(pa==2)=false:=by simpa using j
   go_wp2_with fail;go_meet;exact⟨rfl,by rw[CY (by rw[P.out];exact j)];exact v,N⟩
 case rest=>
  obtain⟨rfl,s⟩:=hcut;clear v N Z;have cq:=s.1.c4 hy hq;rw[n.out]at cq;obtain⟨J,E⟩:=af ((eV c y a y q).p);rw[E]at cq;have S:Hid ((eV c y a y q).p=J):=E;clear E;have zg:Hid ((c y q).p=J):=by have:=S.out;rw[AJ ze]at this;exact this
  go_upto_if 36 with fail;go_cut[9]from 13 to 45 (λu G=>u=.slice (some (aq M o)) W W/\Hid (Cv 46 G M W H (cut c y a q)/\bG M w G));case first=>
   by_cases j:J=1
   ·obtain⟨m,_⟩:=HP.head q hq (zg.trans j);have R:Hid (cut c y a q=dF (eV c y a) y (q+1) (bl (eV c y a y (q+1)))):=C5 (S.trans j);subst j;have V:=s.1.c1 hy m;have X:=s.1.c2 hy m;have Y:=s.1.c3 hy m;rw[n.out]at V X Y;go_wp2_with(go_at_call 96;refine ag (L _ _ _ _) ?_;rintro e F ⟨rfl,A⟩;have i:Hid (Cv 46 F M W H (eV c y a)):=s.1.gr A;have O:Hid (bG M w F):=s.2.thenGr A;clear A;have d0:=i.c0 hy m;have d1:=i.c1 hy m;have d2:=i.c2 hy m;have d3:=i.c3 hy m;have d4:=i.c4 hy m;rw[n.out]at d0 d1 d2 d3 d4;have f0:=i.fz;have fl:=i.lt);go_meet;refine⟨rfl,?_,?_⟩;·rw[R.out,<-n.out];exact i.set hy m (bl (eV c y a y (q+1)))
    ·exact((((O.set (.inl rfl) _ _).set (.inl rfl) _ _).set (.inl rfl) _ _).set (.inl rfl) _ _).set (.inl rfl) _ _
   ·have zj:(J==1)=false:=by simpa using j
    go_wp2_with fail;go_meet;exact⟨rfl,by unfold cut;rw[C0 (by rw[S.out];exact j)];exact s.1,s.2⟩
  case rest=>
   obtain⟨rfl,HZ⟩:=hcut;have zk:a<=W:=dg;have nz:¬q+1=a:=dg;go_wp2;go_ret;exact⟨rfl,HZ.1,HZ.2⟩
end
def iQ(ax ay aw ah bx kV bw bh:Int):Int×Int×Int×Int:=if dK ax aw bx bw>=fE ax aw bx bw\/dK ay ah kV bh>=fE ay ah kV bh then(0,0,0,0)else(dK ax aw bx bw,dK ay ah kV bh,fE ax aw bx bw-dK ax aw bx bw,fE ay ah kV bh-dK ay ah kV bh)
theorem Nz i j h g p f n m:ma i j h g p f n m=rv (iQ i j h g p f n m).1 (iQ i j h g p f n m).2.1 (iQ i j h g p f n m).2.2.1 (iQ i j h g p f n m).2.2.2:=by grind[ma,iQ]
def dd(W H:Int)(x y a b cx cy ca cb:Int):Int×Int×Int×Int:=iQ 0 0 W H (iQ x y a b cx cy ca cb).1 (iQ x y a b cx cy ca cb).2.1 (iQ x y a b cx cy ca cb).2.2.1 (iQ x y a b cx cy ca cb).2.2.2
structure Cj(W H:Int)(x y a b cx cy ca cb:Int)(l t u v:Int):Prop where
 l0:0<=l
 t0:0<=t
 u0:0<=u
 v0:0<=v
 lu:l+u<=W
 tv:t+v<=H
 uv:0<u↔0<v
 mem:∀p q,(l<=p/\p<l+u/\t<=q/\q<t+v)↔((0<=p/\p<W/\0<=q/\q<H)/\(aM x<=p/\p<aM x+aJ a/\aM y<=q/\q<aM y+aJ b)/\(aM cx<=p/\p<aM cx+aJ ca/\aM cy<=q/\q<aM cy+aJ cb))
def cq(px py pa pb qx qy qa qb:Int):Int×Int×Int×Int:=if max px qx>=min (px+pa) (qx+qa)\/max py qy>=min (py+pb) (qy+qb)then(0,0,0,0)else(max px qx,max py qy,min (px+pa) (qx+qa)-max px qx,min (py+pb) (qy+qb)-max py qy)
theorem Fi f g h i qx qy qa qb p q:((cq f g h i qx qy qa qb).1<=p/\p<(cq f g h i qx qy qa qb).1+(cq f g h i qx qy qa qb).2.2.1/\(cq f g h i qx qy qa qb).2.1<=q/\q<(cq f g h i qx qy qa qb).2.1+(cq f g h i qx qy qa qb).2.2.2)↔((f<=p/\p<f+h/\g<=q/\q<g+i)/\(qx<=p/\p<qx+qa/\qy<=q/\q<qy+qb)):=by unfold cq;grind
theorem MH f g i j qx qy qa qb(m:-100000<=f/\f<=100000)(n:-100000<=g/\g<=100000)(p:0<=i/\i<=100000)(q:0<=j/\j<=100000)(s:-100000<=qx/\qx<=100000)(v:-100000<=qy/\qy<=100000):
 (-100000<=(cq f g i j qx qy qa qb).1/\(cq f g i j qx qy qa qb).1<=100000)/\(-100000<=(cq f g i j qx qy qa qb).2.1/\(cq f g i j qx qy qa qb).2.1<=100000)/\(0<=(cq f g i j qx qy qa qb).2.2.1/\(cq f g i j qx qy qa qb).2.2.1<=100000)/\(0<=(cq f g i j qx qy qa qb).2.2.2/\(cq f g i j qx qy qa qb).2.2.2<=100000)/\(0<(cq f g i j qx qy qa qb).2.2.1↔0<(cq f g i j qx qy qa qb).2.2.2):=by by_cases h:max f qx>=min (f+i) (qx+qa)\/max g qy>=min (g+j) (qy+qb);all_goals grind[cq]
theorem PK{W H qx qy qa qb}(g:1<=W)(f:1<=H):0<=(cq 0 0 W H qx qy qa qb).1/\0<=(cq 0 0 W H qx qy qa qb).2.1/\(cq 0 0 W H qx qy qa qb).1+(cq 0 0 W H qx qy qa qb).2.2.1<=W/\(cq 0 0 W H qx qy qa qb).2.1+(cq 0 0 W H qx qy qa qb).2.2.2<=H:=by grind[cq]
theorem AD i j h g p f n m:iQ i j h g p f n m=cq (aM i) (aM j) (aJ h) (aJ g) (aM p) (aM f) (aJ n) (aJ m):=rfl
theorem eM{W H}(I:1<=W/\W<=400)(G:1<=H/\H<=400)x y a b f g h i:
 Cj W H x y a b f g h i (dd W H x y a b f g h i).1 (dd W H x y a b f g h i).2.1 (dd W H x y a b f g h i).2.2.1 (dd W H x y a b f g h i).2.2.2:=by have k:=MH (aM x) (aM y) (aJ a) (aJ b) (aM f) (aM g) (aJ h) (aJ i) (bN x) (bN y) (bC a) (bC b) (bN f) (bN g);have E:=Fi (aM x) (aM y) (aJ a) (aJ b) (aM f) (aM g) (aJ h) (aJ i);unfold dd;rw[AD x y a b f g h i];generalize cq (aM x) (aM y) (aJ a) (aJ b) (aM f) (aM g) (aJ h) (aJ i)=z at k E⊢;obtain⟨m,s,v,A⟩:=z;simp only at k E⊢;rw[AD,Br (n:=m) k.1,Br (n:=s) k.2.1,jA (n:=v) k.2.2.1,jA (n:=A) k.2.2.2.1,jA (n:=W) dg,jA (n:=H) dg,show aM 0=0 from rfl];have D:=MH 0 0 W H m s v A dg dg dg dg k.1 k.2.1;have F:=Fi 0 0 W H m s v A;have j:=PK (qx:=m) (qy:=s) (qa:=v) (qb:=A) I.1 G.1;generalize cq 0 0 W H m s v A=z at D F j⊢;obtain⟨J,L,N,O⟩:=z;simp only at D F j⊢;refine⟨j.1,j.2.1,D.2.2.1.1,D.2.2.2.1.1,j.2.2.1,j.2.2.2,D.2.2.2.2,λp q=>?_⟩;grind
section
variable{K M cap W H:Nat} {c:zzd}
theorem wM(w:AT)(h:CS 196 46 w K M cap W H c)(x y a b q A n p:Int):Cw 170 #[Pq K,rv x y a b,rv q A n p] w λe w'=>e=Rw (rv (dd W H x y a b q A n p).1 (dd W H x y a b q A n p).2.1 (dd W H x y a b q A n p).2.2.1 (dd W H x y a b q A n p).2.2.2)/\Gr w w':=by
 have k0:=h.k0;have k1:=h.k1;have kl:=h.klt;clear h;have CP:Hid (∀F G E D L i J I w,Cw 116 #[rv F G E D,rv L i J I] w λe w'=>e=Rw (rv (iQ F G E D L i J I).1 (iQ F G E D L i J I).2.1 (iQ F G E D L i J I).2.2.1 (iQ F G E D L i J I).2.2.2)/\Gr w w'):=λF G E D L i J I w=>by rw[<-Nz];exact AE F G E D L i J I w
 obtain⟨q1,O⟩:=af (iQ x y a b q A n p);have U:=CP x y a b q A n p;rw[O]at U;obtain⟨i0,i1,i2,i3⟩:=q1;obtain⟨q2,P⟩:=af (iQ 0 0 (W:Int) (H:Int) i0 i1 i2 i3);have V:=CP 0 0 W H i0 i1 i2 i3;rw[P]at V;obtain⟨j0,j1,j2,j3⟩:=q2;have HQ:Hid (dd W H x y a b q A n p=(j0,j1,j2,j3)):=by show _=_;unfold dd;rw[O];exact P
 rw[HQ.out];clear O P CP;unfold rv at U V⊢;simp only at U V⊢;go_enter func170,ntmps170;go_wp2_with fail;obtain⟨S,hS⟩:=af w.heap.size;have HS:Hid (w.heap.size=S):=hS;obtain⟨m,j⟩:=af (((w.alloc (.cells #[Iq x,Iq y,Iq a,Iq b] 93)).alloc (.cells #[Iq q,Iq A,Iq n,Iq p] 93)).alloc (.cells #[Iq 0,Iq 0,Iq 0,Iq 0] 93));have X:Hid (Gr w m):=by rw[<-j];exact(((Gr.refl w).alloc _).alloc _).alloc _
 have RA:Hid (R4 93 m S x y a b):=by rw[<-j,<-hS];exact(R4.new w _ _ _ _ _).gr (((Gr.refl _).alloc _).alloc _)
 have RB:Hid (R4 93 m (S+1) q A n p):=by have:=R4.new (w.alloc (.cells #[Iq x,Iq y,Iq a,Iq b] 93)) q A n p 93;simp only[ai,hS]at this;rw[<-j];exact this.gr ((Gr.refl _).alloc _)
 have RC:Hid (R4 93 m (S+1+1) 0 0 0 0):=by have:=R4.new ((w.alloc (.cells #[Iq x,Iq y,Iq a,Iq b] 93)).alloc (.cells #[Iq q,Iq A,Iq n,Iq p] 93)) 0 0 0 0 93;simp only[ai,hS]at this;rw[<-j];exact this
 have ze:=(aO (a:=(aq K 0)) (X.block kl)).trans k0;have zg:=(aO (a:=(aq K 1)) (X.block kl)).trans k1;have sz:Hid (m.heap.size=S+3):=by show m.heap.size=S+3;rw[<-j];simp only[ai,hS]
 have zh:K<m.heap.size:=by rw[sz.out,<-HS.out];omega
 rw[j,hS];clear j hS k0 k1;go_cut[4,5,6,7]from 8 to 16 (λu v t s R=>u=Pq S/\v=Pq (S+1)/\t=Pq (S+1+1)/\s=Pq m.heap.size/\Hid (R4 93 R S x y a b/\R4 93 R (S+1) q A n p/\R4 93 R (S+1+1) 0 0 0 0/\R4 93 R m.heap.size 0 0 W H/\Gr w R));case first=>go_region;all_goals go_wp2_with fail;go_meet;have Y:Gr m (m.alloc (.cells #[Iq 0,Iq 0,Iq W,Iq H] 93)).drew:=((Gr.refl m).alloc _).drew;exact⟨rfl,rfl,rfl,rfl,RA.gr Y,RB.gr Y,RC.gr Y,(R4.new m 0 0 W H _).gr ((Gr.refl _).drew),X.trans Y⟩
 case rest=>obtain⟨rfl,rfl,rfl,rfl,g⟩:=hcut;obtain⟨Z,hZ⟩:=af m.heap.size;have HZ:Hid (Z=S+3):=hZ.symm.trans sz;rw[hZ]at g;rw[hZ];clear hZ RA RB RC zh ze zg X sz;have a0:=g.1.c0;have a1:=g.1.c1;have a2:=g.1.c2;have a3:=g.1.c3;have b0:=g.2.1.c0;have b1:=g.2.1.c1;have b2:=g.2.1.c2;have b3:=g.2.1.c3;have z0:=g.2.2.2.1.c0;have z1:=g.2.2.2.1.c1;have z2:=g.2.2.2.1.c2;have z3:=g.2.2.2.1.c3;go_wp2_with fail;go_region_with(go_at_call 116;(first|(with_reducible refine ag (U _) ?_)|(with_reducible refine ag (V _) ?_));rintro e wn ⟨rfl,N⟩;have f:Hid (Gr wc wn):=(by first|exact((Gr.refl wc).drew).trans N|exact Gr.trans (Hid.out (by assumption)) N);clear N;have m0:=(g.out.1.gr f.out).c0;have m1:=(g.out.1.gr f.out).c1;have m2:=(g.out.1.gr f.out).c2;have m3:=(g.out.1.gr f.out).c3;have n0:=(g.out.2.1.gr f.out).c0;have n1:=(g.out.2.1.gr f.out).c1;have n2:=(g.out.2.1.gr f.out).c2;have n3:=(g.out.2.1.gr f.out).c3;have o0:=(g.out.2.2.2.1.gr f.out).c0;have o1:=(g.out.2.2.2.1.gr f.out).c1;have o2:=(g.out.2.2.2.1.gr f.out).c2;have o3:=(g.out.2.2.2.1.gr f.out).c3;have p0:=(g.out.2.2.1.gr f.out).c0;have p1:=(g.out.2.2.1.gr f.out).c1;have p2:=(g.out.2.2.1.gr f.out).c2;have p3:=(g.out.2.2.1.gr f.out).c3;have f0:=(g.out.2.2.1.gr f.out).fz 0;have f1:=(g.out.2.2.1.gr f.out).fz 1;have f2:=(g.out.2.2.1.gr f.out).fz 2;have f3:=(g.out.2.2.1.gr f.out).fz 3);all_goals go_wp2_with fail;refine bodyPost_ret (results_cell_row rfl _ _ (S+1+1) _ _ _ _ rfl ((g.2.2.1.gr f).set _ _ _ _) underlying93 rfl pt) rfl ?_;exact⟨rfl,(g.2.2.2.2.trans f).set4 (by rw[HS.out];omega) _ _ _ _⟩
end
def part(c:zzd)(y a q i:Nat)(x:Nat->Ce):Nat->Nat->Ce:=λy' x'=>if y'=y/\a<=x'/\x'<a+i then x x' else cut c y a q y' x'
theorem rV c y a q x:part c y a q 0 x=cut c y a q:=by grind[part]
theorem oW c y a q i x:dF (part c y a q i x) y (a+i) (x (a+i))=part c y a q (i+1) x:=by grind[part,dF,cut]
theorem mC c y a q x(h:a<=q):part c y a q (q+1-a) x=fill c a (q+1) y (y+1) x:=by
 funext f g;unfold part fill;by_cases hy:f=y
 ·subst hy;rw[if_pos (c:=f<=f/\f<f+1) dg];unfold span;by_cases i:a<=g/\g<q+1;·grind
  ·rw[if_neg dg,if_neg i];unfold cut xO;grind[eV,AJ]
 ·rw[if_neg (λk=>hy k.1),if_neg dg];simp_all[cut,xO,eV]
def R5(T:TypeId)(Q:AT)(b:Nat)(e:Ce):Prop:=Q.heap[b]?=some (.cells #[.string e.t,Iq e.f,Iq e.g,Iq e.b,Iq e.p] T (0,0))
section
variable{T:TypeId} {Q Q':AT} {b k:Nat} {e:Ce}
theorem R5.lt(h:R5 T Q b e):b<Q.heap.size:=(aj.1 h).1
theorem R5.c0(h:R5 T Q b e):Q.cell? (aq b 0)=some (.string e.t):=by unfold R5 at h;simp[World.cell?,h]
theorem R5.c1(h:R5 T Q b e):Q.cell? (aq b 1)=some (Iq e.f):=by unfold R5 at h;simp[World.cell?,h]
theorem R5.c2(h:R5 T Q b e):Q.cell? (aq b 2)=some (Iq e.g):=by unfold R5 at h;simp[World.cell?,h]
theorem R5.c3(h:R5 T Q b e):Q.cell? (aq b 3)=some (Iq e.b):=by unfold R5 at h;simp[World.cell?,h]
theorem R5.c4(h:R5 T Q b e):Q.cell? (aq b 4)=some (Iq e.p):=by unfold R5 at h;simp[World.cell?,h]
theorem R5.gr(h:R5 T Q b e)(g:Gr Q Q'):R5 T Q' b e:=(g.block h.lt).trans h
theorem R5.ch(h:R5 T Q b e)(g:bG k Q Q')(f:b≠k):R5 T Q' b e:=(g.block b h.lt f).trans h
theorem R5.new(Q:AT)e T:R5 T (Q.alloc (.cells #[.string e.t,Iq e.f,Iq e.g,Iq e.b,Iq e.p] T)) Q.heap.size e:=heap_alloc_new _ _
end
theorem bG.set5{M f g i j m}{W W'}(h:bG M W W')n v1 v2 p q:bG M W (((((W'.setCell (aq M f) n).setCell (aq M g) v1).setCell (aq M i) v2).setCell (aq M j) p).setCell (aq M m) q):=
 ((((h.set (.inl rfl) _ _).set (.inl rfl) _ _).set (.inl rfl) _ _).set (.inl rfl) _ _).set (.inl rfl) _ _
theorem R4.ch{T}{Q Q'}{b k}{x y a c}(h:R4 T Q b x y a c)(g:bG k Q Q')(f:b≠k):R4 T Q' b x y a c:=(g.block b h.lt f).trans h
section
variable{K M cap W H:Nat} {c:zzd}
theorem nx w(h:CS 196 46 w K M cap W H c)(g:1<=W/\W<=400)(f:H<=400)(j:PAll W H c)(y a z:Int)(hy:0<=y/\y<H)(i:0<=a/\a<z)(m:z<=W):Cw 172 #[Pq K,Iq y,Iq a,Iq z] w λe w'=>e=Rw (.slice (some (aq M (y.toNat*W*5+a.toNat*5))) (z-a).toNat (z-a).toNat)/\Cv 46 w' M W H (cut c y.toNat a.toNat (z.toNat-1))/\bG M w w':=by obtain⟨Y,rfl⟩:=cU hy.1;obtain⟨A,rfl⟩:=cU i.1;obtain⟨Q,rfl⟩:∃Q:Nat,z=(Q:Int)+1:=⟨(z-1).toNat,dg⟩;have:=wU w h dg g.2 f Y A Q dg dg dg (j Y dg);grind
theorem rA(w:AT)(h:CS 196 46 w K M cap W H c)(hW:1<=W/\W<=400)(hH:1<=H/\H<=400)(hp:PAll W H c)(x y a b f g D O R L N:Int)(l t u v:Int)(hq:dd W H x y a b O R L N=(l,t,u,v)):
 Cw 98 #[Pq K,rv x y a b,sv f g D,rv O R L N] w λe w'=>e=Rw (.tuple #[])/\Cv 46 w' M W H (fill c l.toNat (l+u).toNat t.toNat (t+v).toNat (λ_=>bk (kn f) (kn g) (bo D)))/\bG M w w':=by
 have s:=eM (W:=W) (H:=H) dg dg x y a b O R L N;have SN:Hid (∀w0,CS 196 46 w0 K M cap W H c->Cw 170 #[Pq K,rv x y a b,rv O R L N] w0 λe w'=>e=Rw (rv l t u v)/\Gr w0 w'):=λw0 h0=>by have:=wM w0 h0 x y a b O R L N;grind
 rw[hq]at s;have CN:Hid (∀f g b w,Cw 171 #[sv f g b] w λe w'=>e=Rw (sv (kn f) (kn g) (bo b))/\Gr w w'):=oV;have BL:Hid (∀f g b w,Cw 96 #[sv f g b] w λe w'=>e=Rw (Fb (bk f g b))/\Gr w w'):=kz;have J:Hid (CS 196 46 w K M cap W H c):=h;have HP:Hid (PAll W H c):=hp;clear h hp hq;obtain⟨e,he⟩:=af (bk (kn f) (kn g) (bo D));have I:=BL (kn f) (kn g) (bo D);rw[he]at I⊢;have HE:Hid (e.p=0):=by rw[<-he];rfl
 clear he BL;have C1:=CN f g D;obtain⟨kf,X⟩:=af (kn f);obtain⟨kg,Y⟩:=af (kn g);obtain⟨kb,V⟩:=af (bo D);rw[X,Y,V]at I C1;clear X Y V CN;unfold rv at SN;unfold rv sv;unfold sv Fb at I;unfold sv at C1;have l0:=s.l0;have t0:=s.t0;have u0:=s.u0;have v0:=s.v0;have lu:=s.lu;have tv:=s.tv;have HS:Hid (0<u↔0<v):=s.uv;clear s;go_enter func98,ntmps98;go_wp2_with fail;refine ag (SN _ (J.gr ((((Gr.refl w).alloc _).alloc _).alloc _))) ?_;rintro e1 G ⟨rfl,g1⟩;have G1:Hid (Gr w G):=((((Gr.refl w).alloc _).alloc _).alloc _).trans g1;have RS:Hid (R3 44 G (w.heap.size+1) f g D):=by have:=R3.new (w.alloc (.cells #[Iq x,Iq y,Iq a,Iq b] 93)) f g D 44;simp only[ai]at this;exact(this.gr ((Gr.refl _).alloc _)).gr g1
 clear g1 SN;have s0:=RS.c0;have s1:=RS.c1;have s2:=RS.c2;have sl:=RS.lt;go_wp2_with fail;refine ag (C1 _) ?_;rintro e2 w2 ⟨rfl,g2⟩;have RR:Hid (R4 93 w2 G.heap.size l t u v):=(R4.new G _ _ _ _ _).gr g2;have G2:Hid (Gr w w2):=(G1.alloc _).trans g2;have Z1:Hid (w.heap.size<=G.heap.size):=G1.size;obtain⟨Z,hZ⟩:=af G.heap.size;rw[hZ]at RR Z1;rw[hZ];clear hZ g2 s0 s1 s2 sl RS C1 G1;go_wp2_with fail;refine ag (I _) ?_;rintro e3 w3 ⟨rfl,g3⟩;have R2:Hid (R4 93 w3 Z l t u v):=RR.gr g3;have G3:Hid (Gr w w3):=G2.trans g3;clear g3 I RR G2;obtain⟨W4,A⟩:=af (w3.alloc (.cells #[.string e.t,Iq e.f,Iq e.g,Iq e.b,Iq e.p] 46));have m:Hid (R4 93 W4 Z l t u v):=by rw[<-A];exact R2.gr ((Gr.refl _).alloc _)
 have G4:Hid (Gr w W4):=by rw[<-A];exact G3.alloc _
 have P4:Hid (R5 46 W4 w3.heap.size e):=by rw[<-A];exact R5.new w3 e _
 have Z2:Hid (w.heap.size<=w3.heap.size):=G3.size;obtain⟨P,hP⟩:=af w3.heap.size;rw[hP]at P4 Z2;have HM:Hid (M<w.heap.size):=J.cv.lt;have ZM:Hid (Z≠M):=(λq=>by have:=HM.out;have:=Z1.out;omega:Z≠M);have PM:Hid (P≠M):=(λq=>by have:=HM.out;have:=Z2.out;omega:P≠M);have KM:Hid (K≠M):=J.ne;have x0:=m.c0;have x1:=m.c1;have x2:=m.c2;have x3:=m.c3;go_wp2_with fail;clear hP A R2 G3;go_loopw[10] (λyv wr=>∃k:Int,t<=k/\k<=t+v/\yv=Iq k/\Hid (Cv 46 wr M W H (fill c l.toNat (l+u).toNat t.toNat k.toNat (λ_=>e))/\bG M w wr/\R4 93 wr Z l t u v/\R5 46 wr P e)) (λyv _=>(t+v-intOf yv).toNat);case atStart=>exact⟨t,dg,dg,rfl,by rw[C_ dg];exact J.cv.gr G4,bG.gr G4,m,P4⟩
 case round=>
  obtain⟨k,zj,zk,rfl,n⟩:=hrel;clear x0 x1 x2 x3 m P4 G4;have x0:=n.2.2.1.c0;have x1:=n.2.2.1.c1;have x2:=n.2.2.1.c2;have x3:=n.2.2.1.c3;by_cases zm:k<t+v
  ·have hv:0<v:=dg
   have hu:=HS.2 hv;obtain⟨U,hU⟩:∃U:Nat,(U:Int)=u:=⟨u.toNat,dg⟩;have ST:Hid (Cw 172 #[Pq K,Iq k,Iq l,Iq (l+u)] wr λe' w'=>e'=Rw (.slice (some (aq M (k.toNat*W*5+l.toNat*5))) U U)/\Cv 46 w' M W H (cut (fill c l.toNat (l+u).toNat t.toNat k.toNat (λ_=>e)) k.toNat l.toNat ((l+u).toNat-1))/\bG M wr w'):=by have:=nx wr (J.put n.2.1 n.1) hW hH.2 (HP.fill0 dg (λ_=>HE)) k l (l+u) dg dg lu;rw[show(l+u-l).toNat=U by omega]at this;exact this
   obtain⟨o,ho⟩:=af (k.toNat*W*5+l.toNat*5);have HO:Hid (k.toNat*W*5+l.toNat*5=o):=ho;rw[ho]at ST;clear ho;have zh:U<=400:=dg;have HU:Hid ((U:Int)=u):=hU;clear hU;have HQ:Hid ((l+u).toNat-1+1-l.toNat=U/\(l+u).toNat-1+1=(l+u).toNat/\l.toNat<=(l+u).toNat-1):=⟨by have:=HU.out;omega,dg,dg⟩;go_wp2_with(go_at_call 172;refine ag ST ?_;rintro e4 E ⟨rfl,V4,C4⟩;have zg:Hid (Cv 46 E M W H (part (fill c l.toNat (l+u).toNat t.toNat k.toNat (λ_=>e)) k.toNat l.toNat ((l+u).toNat-1) 0 (λ_=>e))/\bG M w E/\R4 93 E Z l t u v/\R5 46 E P e):=(⟨(by grind[rV]),n.2.1.trans C4,n.2.2.1.ch C4 ZM,n.2.2.2.ch C4 PM⟩:Cv 46 E M W H (part (fill c l.toNat (l+u).toNat t.toNat k.toNat (λ_=>e)) k.toNat l.toNat ((l+u).toNat-1) 0 (λ_=>e))/\bG M w E/\R4 93 E Z l t u v/\R5 46 E P e);clear V4 C4);go_loopw[43] (λiv wi=>∃i:Nat,i<=U/\iv=Iq i/\Hid (Cv 46 wi M W H (part (fill c l.toNat (l+u).toNat t.toNat k.toNat (λ_=>e)) k.toNat l.toNat ((l+u).toNat-1) i (λ_=>e))/\bG M w wi/\R4 93 wi Z l t u v/\R5 46 wi P e)) (λiv _=>U-(intOf iv).toNat);case atStart=>grind
   case round=>
    obtain⟨i,hi,rfl,j⟩:=hrel;by_cases zi:i<U
    ·have F:l.toNat+i<W:=by have:=HU.out;omega
     have hy:k.toNat<H:=dg;have d0:=j.1.c0 hy F;have d1:=j.1.c1 hy F;have d2:=j.1.c2 hy F;have d3:=j.1.c3 hy F;have d4:=j.1.c4 hy F;have eo:k.toNat*W*5+(l.toNat+i)*5=o+i*5:=by rw[<-HO.out];omega
     rw[eo]at d0 d1 d2 d3 d4;have EO:Hid (k.toNat*W*5+(l.toNat+i)*5=o+i*5):=eo;clear eo;have fz:=j.1.fz;have p0:=j.2.2.2.c0;have p1:=j.2.2.2.c1;have p2:=j.2.2.2.c2;have p3:=j.2.2.2.c3;have p4:=j.2.2.2.c4;have S:(i:Int)<(U:Int):=dg;go_wp2;go_roundw;case rel=>have VS:=j.1.set hy F e;rw[EO.out,oW _ _ _ _ _ (λ_=>e)]at VS;exact⟨i+1,dg,by go_num,VS,j.2.1.set5 _ _ _ _ _,j.2.2.1.ch ((bG.refl M _).set5 _ _ _ _ _) ZM,j.2.2.2.ch ((bG.refl M _).set5 _ _ _ _ _) PM⟩
     case measure=>simp[intOf];omega
    ·have S:¬(i:Int)<(U:Int):=dg
     have ze:i=U:=dg;have VD:Hid (Cv 46 wr M W H (fill c l.toNat (l+u).toNat t.toNat (k+1).toNat (λ_=>e))):=by have:=j.1;rw[ze,<-HQ.1,mC _ _ _ _ _ HQ.2.2,HQ.2.1,C9 dg,show k.toNat+1=(k+1).toNat by omega]at this;exact this
     go_wp2;go_roundw;case rel=>exact⟨k+1,dg,dg,by go_num,VD,j.2⟩
     case measure=>simp[intOf];omega
  ·have zl:k=t+v:=dg
   go_wp2;go_end0;exact⟨rfl,by have:=n.1;grind,n.2.1⟩
end
def NQ(l:Nat)(wd:Int)(cO:BY)(f g b:Int):Nat->Ce:=λj=>if wd=2 then(if j=l then⟨cO,f,g,b,1⟩else⟨NL,f,g,b,2⟩)else⟨cO,f,g,b,0⟩
def putX(l u wd:Int)(cO:BY)(f g b:Int):Nat->Ce:=if u<wd then λ_=>bk (kn f) (kn g) (bo b)else NQ l.toNat wd cO (kn f) (kn g) (bo b)
def Lx(c:zzd)(wd:Int)(cO:BY)(f g b:Int)(q:Int×Int×Int×Int):Nat->Nat->Ce:=
 if wd=1\/wd=2 then fill c q.1.toNat (q.1+q.2.2.1).toNat q.2.1.toNat (q.2.1+q.2.2.2).toNat (putX q.1 q.2.2.1 wd cO f g b)else c
def mF(W H:Nat)(c:zzd)(x y:Int)(cO:BY)(wd:Int)(f g b cx cy ca cb:Int):Nat->Nat->Ce:=Lx c wd cO f g b (dd W H x y wd 1 cx cy ca cb)
def nS(W H:Nat)(c:zzd)(x y a b f g bd cx cy ca cb:Int):Nat->Nat->Ce:=
 fill c (dd W H x y a b cx cy ca cb).1.toNat ((dd W H x y a b cx cy ca cb).1+(dd W H x y a b cx cy ca cb).2.2.1).toNat (dd W H x y a b cx cy ca cb).2.1.toNat ((dd W H x y a b cx cy ca cb).2.1+(dd W H x y a b cx cy ca cb).2.2.2).toNat (λ_=>bk (kn f) (kn g) (bo bd))
theorem Cj.whole{W H x y wd i j f g l t u v}(h:Cj W H x y wd 1 i j f g l t u v)(A:wd=1\/wd=2)(hu:wd<=u)(s:W<=400)(q:H<=400):l=x/\t=y/\u=wd/\v=1:=by have D:=h.l0;have t0:=h.t0;have E:=h.lu;have F:=h.tv;have G:=h.uv;have n:=(h.mem l t).1 dg;have p:=(h.mem (l+u-1) (t+v-1)).1 dg;have e:aJ wd=wd:=jA dg;have m:aJ 1=1:=rfl;rw[e,m]at n p;grind[bN,aM]
theorem Cj.most{W H x y wd i j f g l t u v}(h:Cj W H x y wd 1 i j f g l t u v)(p:wd=1\/wd=2):u<=wd:=by
 by_cases hu:0<u;·have q:=h.uv;have m:=(h.mem l t).1 dg;have n:=(h.mem (l+u-1) (t+v-1)).1 dg;have e:aJ wd=wd:=jA dg;rw[e]at m n;omega
 ·omega
theorem PAll.putX{W H}{c}(h:PAll W H c)(J:1<=W/\W<=400)(I:1<=H/\H<=400)x y cO wd f g b p s m n:PAll W H (mF W H c x y cO wd f g b p s m n):=by
 have i:=eM (W:=W) (H:=H) dg dg x y wd 1 p s m n;unfold mF Lx;obtain⟨q,A⟩:=af (dd W H x y wd 1 p s m n);rw[A]at i⊢;obtain⟨l,t,u,v⟩:=q;simp only at i⊢;have N:=i.lu;have L:=i.l0;have u0:=i.u0;split
 ·rename_i hw;unfold Go.Proofs.YtehgehanbnkdiaaGreatDoor.putX;by_cases hu:u<wd;·rw[if_pos hu];exact h.fill0 dg (λ_=>rfl)
  ·rw[if_neg hu];obtain⟨D,E,F,G⟩:=i.whole hw dg dg dg;rcases hw with hw|hw;·refine h.fill0 dg (λj=>?_);unfold NQ;rw[if_neg dg]
   ·rw[show(l+u).toNat=l.toNat+2 by omega];refine h.fill2 dg ?_ ?_ ?_ ?_ ?_ ?_<;>(unfold NQ;simp[hw])
 ·exact h
theorem PAll.filX{W H}{c}(h:PAll W H c)(v:1<=W/\W<=400)(s:1<=H/\H<=400)x y a b f g q n p j m:PAll W H (nS W H c x y a b f g q n p j m):=by have i:=eM (W:=W) (H:=H) dg dg x y a b n p j m;unfold nS;exact h.fill0 (by have:=i.lu;have:=i.l0;omega) (λ_=>rfl)
def k5(T:TypeId)(Q:AT)(b:Nat)(cO:BY)(wd:Int):Prop:=Q.heap[b]?=some (.cells #[.string cO,Iq wd] T (0,0))
section
variable{T:TypeId} {Q Q':AT} {b k:Nat} {cO:BY} {wd:Int}
theorem k5.lt(h:k5 T Q b cO wd):b<Q.heap.size:=(aj.1 h).1
theorem k5.c0(h:k5 T Q b cO wd):Q.cell? (aq b 0)=some (.string cO):=by unfold k5 at h;simp[World.cell?,h]
theorem k5.c1(h:k5 T Q b cO wd):Q.cell? (aq b 1)=some (Iq wd):=by unfold k5 at h;simp[World.cell?,h]
theorem k5.gr(h:k5 T Q b cO wd)(g:Gr Q Q'):k5 T Q' b cO wd:=(g.block h.lt).trans h
theorem k5.ch(h:k5 T Q b cO wd)(g:bG k Q Q')(f:b≠k):k5 T Q' b cO wd:=(g.block b h.lt f).trans h
theorem k5.other(h:k5 T Q b cO wd)(f:b≠k)o v:k5 T (Q.setCell (aq k o) v) b cO wd:=(aH Q (aq k o) v b f).trans h
theorem k5.new(Q:AT)cO wd T:k5 T (Q.alloc (.cells #[.string cO,Iq wd] T)) Q.heap.size cO wd:=heap_alloc_new _ _
end
theorem R3.ch{T}{Q Q'}{b k}{x y a}(h:R3 T Q b x y a)(g:bG k Q Q')(f:b≠k):R3 T Q' b x y a:=(g.block b h.lt f).trans h
theorem Lz c Y X j i cO g h f:
 dF (dF (dF (cut c Y X (X+1)) Y X ⟨cO,g,h,f,0⟩) Y X {dF (cut c Y X (X+1)) Y X ⟨cO,g,h,f,0⟩ Y X with p:=1}) Y (X+1) ⟨NL,g,h,f,2⟩ j i=part c Y X (X+1) (X+1+1-X) (NQ X 2 cO g h f) j i:=by grind[dF,cut,part,NQ,NL]
theorem Si a b c d W:Sem.run prog (Instr.field 93 (Value.agg #[a,b,c,d]) 2) W=Result.ok c W:=by unfold Instr.field;simp[go_sem];rfl
section
variable{K M cap W H:Nat} {c:zzd}
theorem Ly(w:AT)(h:CS 196 46 w K M cap W H c)(hW:1<=W/\W<=400)(hH:1<=H/\H<=400)(hp:PAll W H c)(x y:Int)(cO:BY)(wd f g b G I E F:Int):
 Calls prog 237 #[Pq K,Iq x,Iq y,.agg #[.string cO,Iq wd],sv f g b,rv G I E F] w λe w'=>e=.returned (.tuple #[])/\Cv 46 w' M W H (mF W H c x y cO wd f g b G I E F)/\bG M w w':=by
 have SF:=eM (W:=W) (H:=H) dg dg x y wd 1 G I E F;unfold mF;obtain⟨q,hq⟩:=af (dd W H x y wd 1 G I E F);have SN:Hid (∀O,CS 196 46 O K M cap W H c->Calls prog 170 #[Pq K,rv x y wd 1,rv G I E F] O λe w'=>e=.returned (rv q.1 q.2.1 q.2.2.1 q.2.2.2)/\Gr O w'):=λO h0=>by have:=wM O h0 x y wd 1 G I E F;grind
 rw[hq]at SF⊢;obtain⟨l,t,u,v⟩:=q;have FL:Hid (∀O,CS 196 46 O K M cap W H c->Calls prog 98 #[Pq K,rv x y wd 1,sv f g b,rv G I E F] O λe w'=>e=.returned (.tuple #[])/\Cv 46 w' M W H (fill c l.toNat (l+u).toNat t.toNat (t+v).toNat (λ_=>bk (kn f) (kn g) (bo b)))/\bG M O w'):=λO h0=>rA O h0 hW hH hp x y wd 1 f g b G I E F l t u v hq;simp only at SN SF;unfold Lx;simp only;have CN:Hid (∀f g b w,Calls prog 171 #[sv f g b] w λe w'=>e=.returned (sv (kn f) (kn g) (bo b))/\Gr w w'):=oV;have HC:Hid (CS 196 46 w K M cap W H c):=h;have HP:Hid (PAll W H c):=hp;have HF:Hid (Cj W H x y wd 1 G I E F l t u v):=SF;clear h hp hq SF;unfold rv at SN FL;unfold rv sv;unfold sv at CN FL;have C1:=CN f g b;obtain⟨S,hS⟩:=af w.heap.size;have HS:Hid (w.heap.size=S):=hS;by_cases h1:wd=1\/wd=2
 ·have HI:Hid ((if wd=1\/wd=2 then fill c l.toNat (l+u).toNat t.toNat (t+v).toNat (putX l u wd cO f g b)else c)=fill c l.toNat (l+u).toNat t.toNat (t+v).toNat (putX l u wd cO f g b)):=if_pos h1;rw[HI.out];clear HI;have H1:=qH h1;obtain⟨n,N,hn⟩:∃n:Nat,(Hid (wd=1/\n=1)/\(wd !=1)=false\/Hid (wd=2/\n=2)/\(wd !=1)=true/\(wd !=2)=false)/\(n:Int)=wd:=by
   rcases h1 with rfl|rfl;·exact⟨1,.inl ⟨⟨rfl,rfl⟩,rfl⟩,rfl⟩
   ·exact⟨2,.inr ⟨⟨rfl,rfl⟩,rfl,rfl⟩,rfl⟩
  have zv:1<=wd/\wd<=2:=dg;clear h1;go_enter func237,ntmps237;rcases N with⟨N,n1⟩|⟨N,n1,n2⟩;all_goals
   go_wp2_with fail;obtain⟨V,Z⟩:=af ((((w.alloc (.cells #[.string cO,Iq wd] 337)).alloc (.cells #[Iq f,Iq g,Iq b] 44)).alloc (.cells #[Iq G,Iq I,Iq E,Iq F] 93)).alloc (.cells #[Iq x,Iq y,Iq wd,Iq 1] 93));have G0:Hid (Gr w V):=by rw[<-Z];exact((((Gr.refl w).alloc _).alloc _).alloc _).alloc _
   have A:Hid (k5 337 V S cO wd/\R3 44 V (S+1) f g b/\R4 93 V (S+1+1) G I E F/\R4 93 V (S+1+1+1) x y wd 1):=by
    rw[<-Z,<-hS];refine⟨(k5.new w _ _ _).gr ((((Gr.refl _).alloc _).alloc _).alloc _),?_,?_,?_⟩;·have:=R3.new (w.alloc (.cells #[.string cO,Iq wd] 337)) f g b 44;simp only[ai]at this;exact this.gr (((Gr.refl _).alloc _).alloc _)
    ·have:=R4.new ((w.alloc (.cells #[.string cO,Iq wd] 337)).alloc (.cells #[Iq f,Iq g,Iq b] 44)) G I E F 93;simp only[ai]at this;exact this.gr ((Gr.refl _).alloc _)
    ·have:=R4.new (((w.alloc (.cells #[.string cO,Iq wd] 337)).alloc (.cells #[Iq f,Iq g,Iq b] 44)).alloc (.cells #[Iq G,Iq I,Iq E,Iq F] 93)) x y wd 1 93;simp_all
   rw[Z];clear Z hS;have q0:=A.1.c0;have q1:=A.1.c1;have r0:=A.2.2.1.c0;have r1:=A.2.2.1.c1;have r2:=A.2.2.1.c2;have r3:=A.2.2.1.c3;have m0:=A.2.2.2.c0;have m1:=A.2.2.2.c1;have m2:=A.2.2.2.c2;have m3:=A.2.2.2.c3;have zk:=Si (Iq l) (Iq t) (Iq u) (Iq v);by_cases hu:u<wd
   ·have HX:Hid (putX l u wd cO f g b=λ_=>bk (kn f) (kn g) (bo b)):=if_pos hu;go_cut[34]from 22 to 33 (λs P=>s=.bool true/\Hid (k5 337 P S cO wd/\R3 44 P (S+1) f g b/\R4 93 P (S+1+1) G I E F/\R4 93 P (S+1+1+1) x y wd 1/\Gr w P));case first=>go_region_with(go_at_call 170;refine ag (SN _ (HC.gr (by first|exact G0.drew|exact G0))) ?_;rintro e1 w1 ⟨rfl,L⟩;have J:Hid (Gr V w1):=(by first|exact((Gr.refl V).drew).trans L|exact L);clear L;have o1:=(A.1.gr J).c1);all_goals go_wp2_with fail;go_meet;exact⟨rfl,A.1.gr J,A.2.1.gr J,A.2.2.1.gr J,A.2.2.2.gr J,G0.trans J⟩
    case rest=>obtain⟨rfl,m⟩:=hcut;clear q0 q1 r0 r1 r2 r3 m0 m1 m2 m3 zk;have s0:=m.2.1.c0;have s1:=m.2.1.c1;have s2:=m.2.1.c2;have r0:=m.2.2.1.c0;have r1:=m.2.2.1.c1;have r2:=m.2.2.1.c2;have r3:=m.2.2.1.c3;have m0:=m.2.2.2.1.c0;have m1:=m.2.2.2.1.c1;have m2:=m.2.2.2.1.c2;have m3:=m.2.2.2.1.c3;go_wp2_with(go_at_call 98;refine ag (FL _ (HC.gr m.2.2.2.2)) ?_;rintro e2 w2 ⟨rfl,V2,C2⟩;have zj:Hid (Cv 46 w2 M W H (fill c l.toNat (l+u).toNat t.toNat (t+v).toNat (λ_=>bk (kn f) (kn g) (bo b)))/\bG M w w2):=(⟨V2,(bG.gr m.2.2.2.2).trans C2⟩:_/\_);clear V2 C2);refine bodyPost_ret (results_none rfl _ _ _) rfl ?_;exact⟨rfl,by rw[HX.out];exact zj.1,zj.2⟩
   have HX:Hid (putX l u wd cO f g b=NQ l.toNat wd cO (kn f) (kn g) (bo b)):=if_neg hu;have WH:=HF.whole H1.out (show wd<=u by omega) dg dg;have zn:=HF.lu;have zm:=HF.l0;have zq:=HF.tv;have zo:=HF.t0;have hx:0<=x/\x+wd<=W:=dg
   have hy:0<=y/\y<H:=dg;have HW:Hid (l=x/\t=y/\u=wd/\v=1):=WH;clear WH zn zm zq zo;go_cut[34]from 22 to 33 (λs P=>s=.bool false/\Hid (k5 337 P S cO wd/\R3 44 P (S+1) f g b/\R4 93 P (S+1+1) G I E F/\R4 93 P (S+1+1+1) x y wd 1/\Gr w P));case first=>have zu:=hu;go_region_with(go_at_call 170;refine ag (SN _ (HC.gr (by first|exact G0.drew|exact G0))) ?_;rintro e1 w1 ⟨rfl,L⟩;have J:Hid (Gr V w1):=(by first|exact((Gr.refl V).drew).trans L|exact L);clear L;have o1:=(A.1.gr J).c1);all_goals go_wp2_with fail;go_meet;exact⟨congrArg Value.bool (decide_eq_false dg),A.1.gr J,A.2.1.gr J,A.2.2.1.gr J,A.2.2.2.gr J,G0.trans J⟩
   obtain⟨rfl,m⟩:=hcut;clear q0 q1 r0 r1 r2 r3 m0 m1 m2 m3 zk;have s0:=m.2.1.c0;have s1:=m.2.1.c1;have s2:=m.2.1.c2;go_wp2_with fail;refine ag (C1 _) ?_;rintro e1 w1 ⟨rfl,L⟩;have R:Hid (k5 337 w1 S cO wd/\R3 44 w1 (S+1) f g b/\Gr w w1):=⟨m.1.gr L,m.2.1.gr L,m.2.2.2.2.trans L⟩;clear L s0 s1 s2 m C1;obtain⟨kf,zh⟩:=af (kn f);obtain⟨kg,zi⟩:=af (kn g);obtain⟨kb,zg⟩:=af (bo b);rw[zh,zi,zg]at HX;rw[zh,zi,zg];clear zh zi zg;obtain⟨w2,zl⟩:=af (((w1.setCell ⟨S+1,0,none⟩ (Iq kf)).setCell ⟨S+1,1,none⟩ (Iq kg)).setCell ⟨S+1,2,none⟩ (Iq kb));have R2:Hid (k5 337 w2 S cO wd/\R3 44 w2 (S+1) kf kg kb/\Gr w w2):=by rw[<-zl];exact⟨((R.1.other dg _ _).other dg _ _).other dg _ _,R.2.1.set _ _ _,R.2.2.set3 (by rw[HS.out];omega) _ _ _⟩
   have s0:=R.2.1.c0;have s1:=R.2.1.c1;have s2:=R.2.1.c2;have z0:=R.2.1.fz 0;have z1:=R.2.1.fz 1;have z2:=R.2.1.fz 2;have q1:=R2.1.c1;go_wp2_with fail;refine ag (nx w2 (HC.gr R2.2.2) hW hH.2 HP y x (x+wd) hy dg hx.2) ?_;rintro e3 w3 ⟨rfl,V3,C3⟩;have HM:Hid (M<S):=(by rw[<-HS.out];exact HC.cv.lt:M<S);have p:Hid (k5 337 w3 S cO wd/\R3 44 w3 (S+1) kf kg kb/\bG M w w3):=⟨R2.1.ch C3 (by have:=HM.out;omega),R2.2.1.ch C3 (by have:=HM.out;omega),(bG.gr R2.2.2).trans C3⟩;obtain⟨X,hX⟩:=af x.toNat;obtain⟨Y,hY⟩:=af y.toNat;rw[hX,hY]at V3;rw[hX,hY];have D:Hid (Cv 46 w3 M W H (cut c Y X (X+n-1))):=by rw[show(x+wd).toNat-1=X+n-1 by omega]at V3;exact V3
   have U:Hid (x.toNat=X/\y.toNat=Y):=⟨hX,hY⟩;have zt:X+n<=W:=dg;have i:Y<H:=dg;rw[show(x+wd-x).toNat=n by omega];clear hX hY V3 C3 s0 s1 s2 z0 z1 z2 q1 zl R R2;obtain⟨o,ho⟩:=af (Y*W*5+X*5);have HO:Hid (Y*W*5+X*5=o):=ho;have d0:=D.c0 i (show X<W by omega);have d1:=D.c1 i (show X<W by omega);have d2:=D.c2 i (show X<W by omega);have d3:=D.c3 i (show X<W by omega);have d4:=D.c4 i (show X<W by omega);rw[ho]at d0 d1 d2 d3 d4;rw[ho];clear ho;have fz:=D.fz;have q0:=p.1.c0;have q1:=p.1.c1;have s0:=p.2.1.c0;have s1:=p.2.1.c1;have s2:=p.2.1.c2;have sm:¬S=M:=by have:=HM.out;omega
   have zr:¬S+1=M:=by have:=HM.out;omega
   try dsimp only[Pq,Sq,aq]at d0 d1 d2 d3 d4 fz q0 q1 s0 s1 s2⊢
  ·obtain⟨rfl,rfl⟩:=N.out;go_wp2;go_end0;refine⟨rfl,?_,p.2.2.set5 _ _ _ _ _⟩;have VS:=D.set i (show X<W by omega) ⟨cO,kf,kg,kb,0⟩;rw[HO.out]at VS;refine VS.same ?_;intro y' x' _ _;rw[HX.out,HW.1,HW.2.1,HW.2.2.1,HW.2.2.2,show(x+1).toNat=x.toNat+1 by omega,show(y+1).toNat=y.toNat+1 by omega,U.1,U.2,<-mC c Y X X _ (ad _),show X+1-X=0+1 by omega,<-oW,rV];rfl
  ·obtain⟨rfl,rfl⟩:=N.out;go_upto_if 58 with fail;obtain⟨w4,ze⟩:=af (((((w3.setCell ⟨M,o,none⟩ (.string cO)).setCell ⟨M,o+1,none⟩ (Iq kf)).setCell ⟨M,o+2,none⟩ (Iq kg)).setCell ⟨M,o+3,none⟩ (Iq kb)).setCell ⟨M,o+4,none⟩ (Iq 0));have j:Hid (k5 337 w4 S cO 2/\R3 44 w4 (S+1) kf kg kb/\bG M w w4/\Cv 46 w4 M W H (dF (cut c Y X (X+1)) Y X ⟨cO,kf,kg,kb,0⟩)):=by
    have VS:=D.set i (show X<W by omega) ⟨cO,kf,kg,kb,0⟩;rw[HO.out,ze]at VS;have cc:bG M w3 w4:=by rw[<-ze];exact(bG.refl M w3).set5 _ _ _ _ _
    exact⟨p.1.ch cc sm,p.2.1.ch cc zr,p.2.2.trans cc,VS⟩
   rw[ze];clear ze d0 d1 d2 d3 d4 fz q0 q1 s0 s1 s2 p D;have d4:=j.2.2.2.c4 i (show X<W by omega);rw[HO.out]at d4;have fz:=j.2.2.2.fz;have q1:=j.1.c1;have s0:=j.2.1.c0;have s1:=j.2.1.c1;have s2:=j.2.1.c2;have e0:=j.2.2.2.c0 i (show X+1<W by omega);have e1:=j.2.2.2.c1 i (show X+1<W by omega);have e2:=j.2.2.2.c2 i (show X+1<W by omega);have e3:=j.2.2.2.c3 i (show X+1<W by omega);have e4:=j.2.2.2.c4 i (show X+1<W by omega);have EO:Hid (Y*W*5+(X+1)*5=o+5):=(by rw[<-HO.out];omega:Y*W*5+(X+1)*5=o+5);rw[EO.out]at e0 e1 e2 e3 e4;go_wp2_with fail;go_end0;refine⟨rfl,?_,(j.2.2.1.set (.inl rfl) _ _).set5 _ _ _ _ _⟩;have VP:=j.2.2.2.setPart i (show X<W by omega) 1;rw[HO.out]at VP;have VS:=VP.set i (show X+1<W by omega) ⟨NL,kf,kg,kb,2⟩;rw[EO.out]at VS;refine VS.same ?_;intro y' x' _ _;rw[HX.out,HW.1,HW.2.1,HW.2.2.1,HW.2.2.2,show(x+2).toNat=x.toNat+1+1 by omega,show(y+1).toNat=y.toNat+1 by omega,U.1,U.2,<-mC c Y X (X+1) _ dg];grind[Lz]
 ·have n1:(wd !=1)=true:=by simp;omega
  have n2:(wd !=2)=true:=by simp;omega
  have n3:¬wd=1:=dg;rw[if_neg h1];clear hS;go_enter func237,ntmps237;go_wp2;refine bodyPost_ret (results_none rfl _ _ _) rfl ?_;exact⟨rfl,HC.cv.gr ((((Gr.refl w).alloc _).alloc _).alloc _),bG.gr ((((Gr.refl w).alloc _).alloc _).alloc _)⟩
end
theorem ec{U f}(g:Bq U f){a}{v}(h:U.cell? a=some v):f.cell? a=some v:=
 (aO (g.block a.block (qp U a h))).trans h
