import Derived.Test.YtehgehanbnkdiaaGreatDoorQ00
import Derived.WalkSpells
import Derived.WalkLawsBesides
import Derived.BigQuiet
import Derived.Deep.RegionWith
import Derived.Deep.RegionHeld
import Derived.Deep.CutRange
import Derived.Shelf.SlSortCmp.QuietGrown
set_option linter.all false
set_option maxRecDepth 100000
set_option maxHeartbeats 16000000
namespace Go.Proofs.YtehgehanbnkdiaaGreatDoor
open Go.RowKit Go.Sort Go.Proofs.Tryz
def aH(n:Int):Int:=min (max n (-100000)) 100000
def aG(n:Int):Int:=min (max n 0) 100000
def rv(x y w h:Int):Fd:=.agg #[Iq x,Iq y,Iq w,Iq h]
theorem bQ n:-100000<=aH n/\aH n<=100000:=by grind[aH]
def bB n:0<=aG n/\aG n<=100000:=by grind[aG]
def length_any(n:Int)(w:AT):Cw 112 #[Iq n] w λe w'=>e=Rw (Iq (aG n))/\w'=w:=by go_enter func112,ntmps112;go_wp2;all_goals go_ret;refine⟨?_,rfl⟩;refine congrArg (λn:Int=>Ending.returned (Iq n)) (?_:_=aG n);grind[aG]
def position_any(n:Int)(w:AT):Cw 212 #[Iq n] w λe w'=>e=Rw (Iq (aH n))/\w'=w:=by go_enter func212,ntmps212;go_wp2;all_goals go_ret;refine⟨?_,rfl⟩;refine congrArg (λn:Int=>Ending.returned (Iq n)) (?_:_=aH n);grind[aH]
def uM(x y a b:Int)(w:AT):Cw 129 #[rv x y a b] w λe w'=>e=Rw (rv (aH x) (aH y) (aG a) (aG b))/\w'=((w.alloc (.cells #[Iq x,Iq y,Iq a,Iq b] 93)).alloc (.cells #[Iq (aH x),Iq (aH y),Iq (aG a),Iq (aG b)] 93)).drew:=by have P:=qH<|position_any;have G:=qH<|length_any;unfold rv;go_enter func129,ntmps129;go_wp2_with fail;obtain⟨A,h⟩:=af (aH x);obtain⟨D,i⟩:=af (aH y);obtain⟨q,f⟩:=af (aG a);obtain⟨s,g⟩:=af (aG b);have p:=P x;have P2:=P y;have m:=G a;have n:=G b;rw[h]at p;rw[i]at P2;rw[f]at m;rw[g]at n;go_region_held(λW=>W.cell? (aq w.heap.size 0)=some (Iq x)/\W.cell? (aq w.heap.size 1)=some (Iq y)/\W.cell? (aq w.heap.size 2)=some (Iq a)/\W.cell? (aq w.heap.size 3)=some (Iq b)) (go_keep) (first|(go_at_call 212;first|(refine Ut (p _) ?_;rintro j rfl)|(refine Ut (P2 _) ?_;rintro j rfl))|(go_at_call 112;first|(refine Ut (m _) ?_;rintro j rfl)|(refine Ut (n _) ?_;rintro j rfl)));go_wp2;refine bodyPost_ret (v:=rv A D q s) (by simp[results,Tryz.results129,go_sem,rv]) rfl ?_;subst h i f g;exact⟨rfl,rfl⟩
def Gr(w w':AT):Prop:=∃q os,w'=grow (w.drewN q) os
def Gr.refl w:Gr w w:=⟨0,#[],by simp;rfl⟩
def Gr.trans{a b c}(h:Gr a b)(k:Gr b c):Gr a c:=by obtain⟨q,os,rfl⟩:=h;obtain⟨g,f,rfl⟩:=k;exact⟨q+g,os++f,by show grow (grow ((a.drewN q).drewN g) os) f=_;rw[grow_grow,World.drewN_drewN]⟩
def Gr.alloc{a b}(h:Gr a b)o:Gr a (b.alloc o):=h.trans ⟨0,#[o],alloc_eq_grow b o⟩
def Gr.drew{a b}(h:Gr a b):Gr a b.drew:=h.trans ⟨1,#[],by simp;rfl⟩
def Gr.drewN{a b}(h:Gr a b)n:Gr a (b.drewN n):=h.trans ⟨n,#[],At⟩
def Gr.size{a b}(h:Gr a b):a.heap.size<=b.heap.size:=by obtain⟨q,os,rfl⟩:=h;simp_all
def Gr.block{a b}(h:Gr a b){k}(f:k<a.heap.size):b.heap[k]?=a.heap[k]?:=by obtain⟨q,os,rfl⟩:=h;exact heap_grow_old _ _ f
def Gr.set{a b}(h:Gr a b){k o}(f:a.heap.size<=k)v:Gr a (b.setCell (aq k o) v):=by obtain⟨q,os,rfl⟩:=h;exact⟨q,_,by unfold World.setCell grow;simp only;rw[modify_append_right (a.drewN q).heap os k _ f]⟩
def Gr.below{a b}(h:Gr a b):Bq a b:=⟨by obtain⟨q,os,rfl⟩:=h;rfl,by obtain⟨q,os,rfl⟩:=h;rfl,by obtain⟨q,os,rfl⟩:=h;rfl,h.size,λk f=>h.block f⟩
def R3(T:TypeId)(W:AT)(b:Nat)(x y a:Int):Prop:=W.heap[b]?=some (.cells #[Iq x,Iq y,Iq a] T (0,0))
section
variable{T:TypeId} {W W':AT} {b k o:Nat} {x y a c:Int}
def R3.lt(h:R3 T W b x y a):b<W.heap.size:=(aj.1 h).1
def R3.c0(h:R3 T W b x y a):W.cell? (aq b 0)=some (Iq x):=by unfold R3 at h;simp[World.cell?,h]
def R3.c1(h:R3 T W b x y a):W.cell? (aq b 1)=some (Iq y):=by unfold R3 at h;simp[World.cell?,h]
def R3.c2(h:R3 T W b x y a):W.cell? (aq b 2)=some (Iq a):=by unfold R3 at h;simp[World.cell?,h]
def R3.fz(h:R3 T W b x y a)j:W.frozen? (aq b j)=false:=frozen_of_row _ _ _ _ _ h
def R3.gr(h:R3 T W b x y a)(g:Gr W W'):R3 T W' b x y a:=(g.block h.lt).trans h
theorem R3.new(W:AT)x y a T:R3 T (W.alloc (.cells #[Iq x,Iq y,Iq a] T)) W.heap.size x y a:=heap_alloc_new _ _
def R3.other(h:R3 T W b x y a)(f:b≠k)v:R3 T (W.setCell (aq k o) v) b x y a:=(aM W (aq k o) v b f).trans h
def R3.set0(h:R3 T W b x y a)f:R3 T (W.setCell (aq b 0) (Iq f)) b f y a:=heap_setCell_same _ b 0 _ T _ h
def R3.set1(h:R3 T W b x y a)f:R3 T (W.setCell (aq b 1) (Iq f)) b x f a:=heap_setCell_same _ b 1 _ T _ h
def R3.set2(h:R3 T W b x y a)a':R3 T (W.setCell (aq b 2) (Iq a')) b x y a':=heap_setCell_same _ b 2 _ T _ h
def R3.set(h:R3 T W b x y a)f g a':R3 T (((W.setCell (aq b 0) (Iq f)).setCell (aq b 1) (Iq g)).setCell (aq b 2) (Iq a')) b f g a':=
 ((h.set0 f).set1 g).set2 a'
def R3.others(h:R3 T W b x y a)(f:b≠k)g v1 v2:R3 T (((W.setCell (aq k 0) g).setCell (aq k 1) v1).setCell (aq k 2) v2) b x y a:=((h.other f g).other f v1).other f v2
def Gr.set3(h:Gr W W')(f:W.heap.size<=k)g v1 v2:Gr W (((W'.setCell (aq k 0) g).setCell (aq k 1) v1).setCell (aq k 2) v2):=((h.set f g).set f v1).set f v2
end
def sv(f g b:Int):Fd:=.agg #[Iq f,Iq g,Iq b]
def kn(n:Int):Int:=if n<0\/8<n then 0 else n
def bo(n:Int):Int:=if n=1 then 1 else 0
def NX n:0<=kn n/\kn n<=8:=by grind[kn]
def rF n:0<=bo n/\bo n<=1:=by grind[bo]
def Ee(n:Int)(w:AT):Cw 231 #[Iq n] w λe w'=>e=Rw (Iq (kn n))/\w'=w:=by
 go_enter func231,ntmps231;by_cases g:n<0;.go_wp2;go_ret;simp_all[kn]
 .by_cases f:8<n;.go_wp2;go_ret;exact⟨by rw[show kn n=0 by unfold kn;rw[if_pos (.inr f)]];rfl,rfl⟩
  .go_wp2;go_ret;exact⟨by rw[show kn n=n by unfold kn;rw[if_neg dg]];rfl,rfl⟩
def jc(f g b:Int)(w:AT):Cw 169 #[sv f g b] w λe w'=>e=Rw (sv (kn f) (kn g) (bo b))/\Gr w w':=by
 have P:Hid (∀n w,Cw 231 #[Iq n] w λe w'=>e=Rw (Iq (kn n))/\w'=w):=Ee;obtain⟨x,j⟩:=af (kn f);obtain⟨y,hy⟩:=af (kn g);have i:=P f;have P2:=P g;rw[j]at i;rw[hy]at P2;unfold sv;go_enter func169,ntmps169;by_cases h:b=1;.subst h;go_wp2_with fail;go_region_held(λW=>W.cell? (aq w.heap.size 0)=some (Iq f)/\W.cell? (aq w.heap.size 1)=some (Iq g)/\W.cell? (aq w.heap.size 2)=some (Iq 1)) (go_keep) (first|(go_at_call 231;first|(with_reducible refine ag (i _) ?_;rintro e m ⟨rfl,rfl⟩)|(with_reducible refine ag (P2 _) ?_;rintro e m ⟨rfl,rfl⟩)));go_wp2;refine bodyPost_ret (v:=sv x y 1) (by simp[results,Tryz.results169,go_sem,sv]) rfl ?_;subst j hy;exact⟨rfl,(((Gr.refl w).alloc _).alloc _).drew⟩
 .have p:bo b=0:=if_neg h;go_wp2_with fail;go_region_held(λW=>W.cell? (aq w.heap.size 0)=some (Iq f)/\W.cell? (aq w.heap.size 1)=some (Iq g)/\W.cell? (aq w.heap.size 2)=some (Iq 0)) (go_keep) (first|(go_at_call 231;first|(with_reducible refine ag (i _) ?_;rintro e m ⟨rfl,rfl⟩)|(with_reducible refine ag (P2 _) ?_;rintro e m ⟨rfl,rfl⟩)));go_wp2;refine bodyPost_ret (v:=sv x y 0) (by simp[results,Tryz.results169,go_sem,sv]) rfl ?_;subst j hy;exact⟨by rw[p];rfl,(((Gr.refl w).alloc _).alloc _).drew⟩
def I5(n:Int)(w:AT):Cw 274 #[Iq n] w λe w'=>e=Rw (Iq (kn n))/\w'=w:=by
 go_enter func274,ntmps274;by_cases f:n<0;.go_wp2;go_ret;simp_all[kn]
 .by_cases g:8<n;.go_wp2;go_ret;simp_all[kn]
  .go_wp2;go_ret;exact⟨by rw[show kn n=n by grind[kn]];rfl,rfl⟩
def Ir(f g b:Int)(w:AT):Cw 87 #[sv f g b] w λe w'=>e=Rw (sv f g b)/\Gr w w':=by unfold sv;go_enter func87,ntmps87;go_wp2;refine bodyPost_ret (v:=sv f g b) (by simp[results,Tryz.results87,go_sem,sv]) rfl ?_;exact⟨rfl,((Gr.refl w).alloc _).alloc _⟩
def sC(f g b:Int)(w:AT):Cw 215 #[sv f g b] w λe w'=>e=Rw (sv (kn f) (kn g) (bo b))/\Gr w w':=by
 have P:Hid (∀n w,Cw 274 #[Iq n] w λe w'=>e=Rw (Iq (kn n))/\w'=w):=I5;obtain⟨x,j⟩:=af (kn f);obtain⟨y,hy⟩:=af (kn g);have i:=P f;have P2:=P g;rw[j]at i;rw[hy]at P2;unfold sv;go_enter func215,ntmps215;by_cases h:b=1;.subst h;go_wp2_with fail;go_region_held(λW=>W.cell? (aq w.heap.size 0)=some (Iq f)/\W.cell? (aq w.heap.size 1)=some (Iq g)) (go_keep) (first|(go_at_call 274;first|(with_reducible refine ag (i _) ?_;rintro e m ⟨rfl,rfl⟩)|(with_reducible refine ag (P2 _) ?_;rintro e m ⟨rfl,rfl⟩)));go_wp2;refine bodyPost_ret (v:=sv x y 1) (by simp[results,Tryz.results215,go_sem,sv]) rfl ?_;subst j hy;exact⟨rfl,(((Gr.refl w).alloc _).alloc _).drew⟩
 .have p:bo b=0:=if_neg h;go_wp2_with fail;go_region_held(λW=>W.cell? (aq w.heap.size 0)=some (Iq f)/\W.cell? (aq w.heap.size 1)=some (Iq g)) (go_keep) (first|(go_at_call 274;first|(with_reducible refine ag (i _) ?_;rintro e m ⟨rfl,rfl⟩)|(with_reducible refine ag (P2 _) ?_;rintro e m ⟨rfl,rfl⟩)));go_wp2;refine bodyPost_ret (v:=sv x y 0) (by simp[results,Tryz.results215,go_sem,sv]) rfl ?_;subst j hy;exact⟨by rw[p];rfl,(((Gr.refl w).alloc _).alloc _).drew⟩
def R4(T:TypeId)(W:AT)(b:Nat)(x y a c:Int):Prop:=W.heap[b]?=some (.cells #[Iq x,Iq y,Iq a,Iq c] T (0,0))
section
variable{T:TypeId} {W W':AT} {b k o:Nat} {x y a c:Int}
def R4.lt(h:R4 T W b x y a c):b<W.heap.size:=(aj.1 h).1
def R4.c0(h:R4 T W b x y a c):W.cell? (aq b 0)=some (Iq x):=by unfold R4 at h;simp[World.cell?,h]
def R4.c1(h:R4 T W b x y a c):W.cell? (aq b 1)=some (Iq y):=by unfold R4 at h;simp[World.cell?,h]
def R4.c2(h:R4 T W b x y a c):W.cell? (aq b 2)=some (Iq a):=by unfold R4 at h;simp[World.cell?,h]
def R4.c3(h:R4 T W b x y a c):W.cell? (aq b 3)=some (Iq c):=by unfold R4 at h;simp[World.cell?,h]
def R4.fz(h:R4 T W b x y a c)j:W.frozen? (aq b j)=false:=frozen_of_row _ _ _ _ _ h
def R4.gr(h:R4 T W b x y a c)(g:Gr W W'):R4 T W' b x y a c:=(g.block h.lt).trans h
def R4.new(W:AT)x y a c T:R4 T (W.alloc (.cells #[Iq x,Iq y,Iq a,Iq c] T)) W.heap.size x y a c:=heap_alloc_new _ _
def R4.other(h:R4 T W b x y a c)(f:b≠k)v:R4 T (W.setCell (aq k o) v) b x y a c:=(aM W (aq k o) v b f).trans h
def R4.set(h:R4 T W b x y a c)f g a' c':R4 T ((((W.setCell (aq b 0) (Iq f)).setCell (aq b 1) (Iq g)).setCell (aq b 2) (Iq a')).setCell (aq b 3) (Iq c')) b f g a' c':=
 heap_setCell_same _ b 3 _ T _ (heap_setCell_same _ b 2 _ T _ (heap_setCell_same _ b 1 _ T _ (heap_setCell_same _ b 0 _ T _ h)))
def R4.others(h:R4 T W b x y a c)(f:b≠k)g v1 v2 i:R4 T ((((W.setCell (aq k 0) g).setCell (aq k 1) v1).setCell (aq k 2) v2).setCell (aq k 3) i) b x y a c:=(((h.other f g).other f v1).other f v2).other f i
def Gr.set4(h:Gr W W')(f:W.heap.size<=k)g v1 v2 i:Gr W ((((W'.setCell (aq k 0) g).setCell (aq k 1) v1).setCell (aq k 2) v2).setCell (aq k 3) i):=(((h.set f g).set f v1).set f v2).set f i
end
def clamped_gr x y a b w:Cw 129 #[rv x y a b] w λe w'=>e=Rw (rv (aH x) (aH y) (aG a) (aG b))/\Gr w w':=
 (uM x y a b w).mono λe w' ⟨f,g⟩=>⟨f,by rw[g];exact(((Gr.refl w).alloc _).alloc _).drew⟩
def dV(ax aw bx bw:Int):Int:=max (aH ax) (aH bx)
def fO(ax aw bx bw:Int):Int:=min (aH ax+aG aw) (aH bx+aG bw)
def mz(ax ay aw ah bx lk bw bh:Int):Fd:=if dV ax aw bx bw>=fO ax aw bx bw\/dV ay ah lk bh>=fO ay ah lk bh then rv 0 0 0 0 else rv (dV ax aw bx bw) (dV ay ah lk bh) (fO ax aw bx bw-dV ax aw bx bw) (fO ay ah lk bh-dV ay ah lk bh)
def A_(O P N L U h S R:Int)(w:AT):Cw 116 #[rv O P N L,rv U h S R] w λe w'=>e=Rw (mz O P N L U h S R)/\Gr w w':=by
 have CC:=qH<|clamped_gr;unfold rv at CC|-;go_enter func116,ntmps116;go_wp2_with fail;obtain⟨A,hA⟩:=af w.heap.size;obtain⟨W0,i⟩:=af (((w.alloc (.cells #[Iq O,Iq P,Iq N,Iq L] 93)).alloc (.cells #[Iq U,Iq h,Iq S,Iq R] 93)).alloc (.cells #[Iq 0,Iq 0,Iq 0,Iq 0] 93));have G0:Hid (Gr w W0):=by rw[<-i];exact(((Gr.refl w).alloc _).alloc _).alloc _
 have RA:Hid (R4 93 W0 A O P N L):=by rw[<-i,<-hA];exact(R4.new w _ _ _ _ _).gr (((Gr.refl _).alloc _).alloc _)
 have RB:Hid (R4 93 W0 (A+1) U h S R):=by have:=R4.new (w.alloc (.cells #[Iq O,Iq P,Iq N,Iq L] 93)) U h S R 93;simp only[ai,hA]at this;rw[<-i];exact this.gr ((Gr.refl _).alloc _)
 have RC:Hid (R4 93 W0 (A+1+1) 0 0 0 0):=by have:=R4.new ((w.alloc (.cells #[Iq O,Iq P,Iq N,Iq L] 93)).alloc (.cells #[Iq U,Iq h,Iq S,Iq R] 93)) 0 0 0 0 93;simp only[ai,hA]at this;rw[<-i];exact this
 rw[i,hA];clear i;have HA:=qH<|hA;clear hA;have a0:=RA.c0;have a1:=RA.c1;have a2:=RA.c2;have a3:=RA.c3;have b0:=RB.c0;have b1:=RB.c1;have b2:=RB.c2;have b3:=RB.c3;obtain⟨j,zg⟩:=af (aH O);obtain⟨m,zh⟩:=af (aH P);obtain⟨E,Z⟩:=af (aG N);obtain⟨F,ze⟩:=af (aG L);obtain⟨n,zk⟩:=af (aH U);obtain⟨p,zl⟩:=af (aH h);obtain⟨G,zi⟩:=af (aG S);obtain⟨I,zj⟩:=af (aG R);go_cut[2,3,4]from 9 to 12 (λu v t V=>u=Pq A/\v=Pq (A+1)/\t=Pq (A+1+1)/\Hid (R4 93 V A j m E F/\R4 93 V (A+1) n p G I/\R4 93 V (A+1+1) 0 0 0 0/\Gr w V));.go_region_with(go_at_call 129;refine Ut (CC _ _ _ _ _) ?_;rintro wn Y;have J:=qH<|(by first|exact((Gr.refl W0).drew).trans Y|exact Gr.trans (Hid.out (by assumption)) Y);have f:=qH<|RA.gr J;have g:=qH<|RB.gr J;clear Y;have m0:=f.c0;have m1:=f.c1;have m2:=f.c2;have m3:=f.c3;have n0:=g.c0;have n1:=g.c1;have n2:=g.c2;have n3:=g.c3;have f0:=f.fz 0;have f1:=f.fz 1;have f2:=f.fz 2;have f3:=f.fz 3;have g0:=g.fz 0;have g1:=g.fz 1;have g2:=g.fz 2;have g3:=g.fz 3);all_goals
   have s:Hid (R4 93 ((((((((wn.setCell (aq A 0) (Iq j)).setCell (aq A 1) (Iq m)).setCell (aq A 2) (Iq E)).setCell (aq A 3) (Iq F)).setCell (aq (A+1) 0) (Iq n)).setCell (aq (A+1) 1) (Iq p)).setCell (aq (A+1) 2) (Iq G)).setCell (aq (A+1) 3) (Iq I)) A j m E F/\R4 93 ((((((((wn.setCell (aq A 0) (Iq j)).setCell (aq A 1) (Iq m)).setCell (aq A 2) (Iq E)).setCell (aq A 3) (Iq F)).setCell (aq (A+1) 0) (Iq n)).setCell (aq (A+1) 1) (Iq p)).setCell (aq (A+1) 2) (Iq G)).setCell (aq (A+1) 3) (Iq I)) (A+1) n p G I/\R4 93 ((((((((wn.setCell (aq A 0) (Iq j)).setCell (aq A 1) (Iq m)).setCell (aq A 2) (Iq E)).setCell (aq A 3) (Iq F)).setCell (aq (A+1) 0) (Iq n)).setCell (aq (A+1) 1) (Iq p)).setCell (aq (A+1) 2) (Iq G)).setCell (aq (A+1) 3) (Iq I)) (A+1+1) 0 0 0 0/\Gr w ((((((((wn.setCell (aq A 0) (Iq j)).setCell (aq A 1) (Iq m)).setCell (aq A 2) (Iq E)).setCell (aq A 3) (Iq F)).setCell (aq (A+1) 0) (Iq n)).setCell (aq (A+1) 1) (Iq p)).setCell (aq (A+1) 2) (Iq G)).setCell (aq (A+1) 3) (Iq I))):=
    ⟨(f.set j m E F).others dg _ _ _ _,(g.others dg _ _ _ _).set n p G I,((RC.gr J).others dg _ _ _ _).others dg _ _ _ _,((G0.trans J).set4 (by rw[HA.out];omega) _ _ _ _).set4 (by rw[HA.out];omega) _ _ _ _⟩;clear m0 m1 m2 m3 n0 n1 n2 n3 f0 f1 f2 f3 g0 g1 g2 g3 a0 a1 a2 a3 b0 b1 b2 b3 f g;go_wp2_with fail;go_meet;grind
 obtain⟨rfl,rfl,rfl,s⟩:=hcut;clear a0 a1 a2 a3 b0 b1 b2 b3 RA RB RC;have a0:=s.1.c0;have a1:=s.1.c1;have a2:=s.1.c2;have a3:=s.1.c3;have b0:=s.2.1.c0;have b1:=s.2.1.c1;have b2:=s.2.1.c2;have b3:=s.2.1.c3;have zo:=bQ O;have zq:=bQ P;have zm:=bB N;have zn:=bB L;have zu:=bQ U;have zv:=bQ h;have zr:=bB S;have zt:=bB R;rw[zg]at zo;rw[zh]at zq;rw[Z]at zm;rw[ze]at zn;rw[zk]at zu;rw[zl]at zv;rw[zi]at zr;rw[zj]at zt;go_wp2_with fail;go_cut[5,6]from 13 to 28 (λu v V=>u=Iq (max j n)/\v=Iq (min (j+E) (n+G))/\∃q,V=wc.drewN q);.by_cases h1:j<n;iterate 2 ·by_cases h2:j+E<=n+G;iterate 2 ·go_quiet(fail);go_wp2_with fail;go_meet;grind
 obtain⟨rfl,rfl,q1,rfl⟩:=hcut;go_wp2_with fail;go_cut[7,8]from 29 to 44 (λu v V=>u=Iq (max m p)/\v=Iq (min (m+F) (p+I))/\∃q,V=wc.drewN q);.by_cases h1:m<p;iterate 2 ·by_cases h2:m+F<=p+I;iterate 2 ·go_quiet(fail);go_wp2_with fail;go_meet;exact⟨congrArg (Value.int .i64) dg,congrArg (Value.int .i64) dg,q1+nq,by first|rfl|exact World.drewN_drewN _ _ _⟩
 obtain⟨rfl,rfl,q2,rfl⟩:=hcut;obtain⟨W1,X⟩:=af (wc.drewN q2);have G1:Hid (Gr wc W1):=by rw[<-X];exact(Gr.refl _).drewN _
 rw[X];have D:=qH<|s.2.2.1.gr G1;have GG:=qH<|s.2.2.2.trans G1;clear X a0 a1 a2 a3 b0 b1 b2 b3 s;have c0:=D.c0;have c1:=D.c1;have c2:=D.c2;have c3:=D.c3;have f0:=D.fz 0;have f1:=D.fz 1;have f2:=D.fz 2;have f3:=D.fz 3;obtain⟨l,hl⟩:=af (max j n);obtain⟨r,hr⟩:=af (min (j+E) (n+G));obtain⟨t,ht⟩:=af (max m p);obtain⟨d,hd⟩:=af (min (m+F) (p+I));have HV:Hid (mz O P N L U h S R=if l>=r\/t>=d then rv 0 0 0 0 else rv l t (r-l) (d-t)):=qH<|by unfold mz dV fO;rw[zg,zh,Z,ze,zk,zl,zi,zj,hl,hr,ht,hd]
 have bl:-100000<=l/\l<=100000:=dg;have br:-100000<=r/\r<=200000:=dg;have bt:-100000<=t/\t<=100000:=dg;have bd:-100000<=d/\d<=200000:=dg;rw[hl,hr,ht,hd];clear zg zh Z ze zk zl zi zj hl hr ht hd zo zq zm zn zu zv zr zt;by_cases h1:r<=l;.have e1:=decide_eq_true h1;go_wp2;refine bodyPost_ret (results_cell_row rfl _ _ (A+1+1) _ _ _ _ rfl (D.set 0 0 0 0) underlying93 rfl pt) rfl ?_;exact⟨by rw[HV.out,if_pos (.inl h1)];rfl,GG.set4 (by rw[HA.out];omega) _ _ _ _⟩
 .have e1:=decide_eq_false h1;by_cases h2:d<=t;.have e2:=decide_eq_true h2;go_wp2;refine bodyPost_ret (results_cell_row rfl _ _ (A+1+1) _ _ _ _ rfl (D.set 0 0 0 0) underlying93 rfl pt) rfl ?_;exact⟨by rw[HV.out,if_pos (.inr h2)];rfl,GG.set4 (by rw[HA.out];omega) _ _ _ _⟩
  .have e2:=decide_eq_false h2;go_wp2;refine bodyPost_ret (results_cell_row rfl _ _ (A+1+1) _ _ _ _ rfl (D.set l t (r-l) (d-t)) underlying93 rfl pt) rfl ?_;exact⟨by rw[HV.out,if_neg dg];rfl,GG.set4 (by rw[HA.out];omega) _ _ _ _⟩
def lJ(x y a b px py:Int):Bool:=decide (aH x<=px/\px<aH x+aG a/\aH y<=py/\py<aH y+aG b)
def rU{x y a b f g}(h:aH x<=f/\f<aH x+aG a/\aH y<=g/\g<aH y+aG b):lJ x y a b f g=true:=decide_eq_true h
def vm{x y a b f g}(h:¬(aH x<=f/\f<aH x+aG a/\aH y<=g/\g<aH y+aG b)):lJ x y a b f g=false:=decide_eq_false h
def BZ{n}(h:-100000<=n/\n<=100000):aH n=n:=by grind[aH]
def jP{n}(h:0<=n/\n<=100000):aG n=n:=by grind[aG]
theorem tZ{a b c d a' f c' d'}(h:rv a b c d=rv a' f c' d'):a=a'/\b=f/\c=c'/\d=d':=by grind[rv]
structure Ce where
 t:BY
 f:Int
 g:Int
 b:Int
 p:Int
abbrev zzd:=Nat->Nat->Ce
def P8:BY:=⟨#[32]⟩
def OE:BY:=⟨#[]⟩
def bl(c:Ce):Ce:=⟨P8,c.f,c.g,c.b,0⟩
def bk(f g b:Int):Ce:=⟨P8,f,g,b,0⟩
theorem Qz c:(bl c).p=0:=rfl
def span(r:Nat->Ce)(a z:Nat)(x:Nat->Ce):Nat->Ce:=λj=>
 if a<=j/\j<z then x j
 else if a<z/\j+1=a/\(r a).p=2 then bl (r j)
 else if a<z/\j=z/\(r (z-1)).p=1 then bl (r j)
 else r j
theorem iH{r}{a z}{x}{j}(h:a<=j/\j<z):span r a z x j=x j:=if_pos h
theorem sD{r}{a z}{x}(h:¬a<z):span r a z x=r:=by grind[span]
def js{r}{a z}{x}{j}(h:¬(a<=j/\j<z)):
 (span r a z x j=r j/\¬(a<z/\j+1=a/\(r a).p=2)/\¬(a<z/\j=z/\(r (z-1)).p=1))\/(span r a z x j=bl (r j)/\((a<z/\j+1=a/\(r a).p=2)\/(a<z/\j=z/\(r (z-1)).p=1))):=by grind[span]
structure mq(W:Nat)(r:Nat->Ce):Prop where
 part:∀i,i<W->(r i).p=0\/(r i).p=1\/(r i).p=2
 head:∀i,i<W->(r i).p=1->i+1<W/\(r (i+1)).p=2/\(r (i+1)).f=(r i).f/\(r (i+1)).g=(r i).g/\(r (i+1)).b=(r i).b
 tail:∀i,i<W->(r i).p=2->∃k,i=k+1/\(r k).p=1/\(r i).t=OE
section
variable{W a z:Nat} {r x:Nat->Ce}
def mq.beside(h:mq W r)(I:z<=W){i}(hi:i<W)(s:¬(a<=i/\i<z)):
 ((span r a z x i).p=0\/(span r a z x i).p=1\/(span r a z x i).p=2)
 /\((span r a z x i).p=1->span r a z x i=r i/\span r a z x (i+1)=r (i+1)/\(r i).p=1)
 /\((span r a z x i).p=2->span r a z x i=r i/\(r i).p=2/\∃k,i=k+1/\span r a z x k=r k):=by
 rcases js (r:=r) (x:=x) s with⟨e,D,E⟩|⟨e,hh⟩
 .rw[e];refine⟨h.part i hi,λm=>⟨rfl,?_,m⟩,λm=>⟨rfl,m,?_⟩⟩
  .obtain⟨v,A,_⟩:=h.head i hi m;by_cases f:a<=i+1/\i+1<z;.grind
   .rcases js (r:=r) (x:=x) f with⟨g,_⟩|⟨g,j|j⟩;.exact g
    .exfalso;obtain⟨k,q,n,_⟩:=h.tail a dg j.2.2;grind
    omega
  .obtain⟨k,q,n,_⟩:=h.tail i hi m;refine⟨k,q,?_⟩;by_cases f:a<=k/\k<z;.grind
   .rcases js (r:=r) (x:=x) f with⟨g,_⟩|⟨g,j|j⟩;.exact g
    .omega
    .exfalso;obtain⟨F,G,_⟩:=h.head (z-1) dg j.2.2;grind
 grind[Qz]
def mq.span0(h:mq W r)(n:z<=W)(F:∀j,a<=j->j<z->(x j).p=0):mq W (span r a z x):=by
 refine⟨λi hi=>?_,λi hi m=>?_,λi hi m=>?_⟩<;>by_cases f:a<=i/\i<z;.grind[iH]
 .exact(h.beside n hi f).1
 .grind[iH]
 .obtain⟨q,g,s⟩:=(h.beside n hi f).2.1 m;rw[q,g];exact h.head i hi s
 .grind[iH]
 .obtain⟨q,g,k,E,s⟩:=(h.beside n hi f).2.2 m;obtain⟨k',v,A,D⟩:=h.tail i hi g;grind
def mq.span2(h:mq W r)(q:a+2<=W)(F:(x a).p=1)(G:(x (a+1)).p=2)(J:(x (a+1)).f=(x a).f)(L:(x (a+1)).g=(x a).g)(I:(x (a+1)).b=(x a).b)(O:(x (a+1)).t=OE):mq W (span r a (a+2) x):=by
 have D:span r a (a+2) x a=x a:=iH dg;have E:span r a (a+2) x (a+1)=x (a+1):=iH dg;refine⟨λi hi=>?_,λi hi m=>?_,λi hi m=>?_⟩<;>by_cases j:a<=i/\i<a+2;.grind
 .exact(h.beside q hi j).1
 .grind
 .obtain⟨s,n,v⟩:=(h.beside q hi j).2.1 m;rw[s,n];exact h.head i hi v
 .grind
 .obtain⟨s,n,k,N,v⟩:=(h.beside q hi j).2.2 m;obtain⟨k',A,P,R⟩:=h.tail i hi n;grind
def mq.next(h:mq W r){m}(A:a<=m)(v:m<W)(F:∀j,(x j).p=0):span (span r a m x) m (m+1) x=span r a (m+1) x:=by
 by_cases e:a=m;.grind[sD]
 have i:a<m:=dg;have E:(span r a m x m).p≠2/\((span r a m x m).p=1↔(r m).p=1):=by
  rcases js (r:=r) (a:=a) (z:=m) (x:=x) (j:=m) dg with⟨g,_,G⟩|⟨g,h3|h3⟩;.rw[g];refine⟨λn=>?_,Iff.rfl⟩;obtain⟨k,D,s,_⟩:=h.tail m v n;grind
  .omega
  .rw[g,Qz];refine⟨dg,λq=>dg,λq=>?_⟩;obtain⟨_,I,_⟩:=h.head (m-1) dg h3.2.2;grind
 grind[iH,span,bl]
end
def fill(c:zzd)(l r t d:Nat)(x:Nat->Ce):Nat->Nat->Ce:=λy=>if t<=y/\y<d then span (c y) l r x else c y
def PAll(W H:Nat)(c:zzd):Prop:=∀y,y<H->mq W (c y)
section
variable{W H l r t d:Nat} {c:zzd} {x:Nat->Ce}
def DI(h:¬(l<r/\t<d)):fill c l r t d x=c:=by grind[fill,sD]
def PAll.fill0(h:PAll W H c)(f:r<=W)(g:∀j,(x j).p=0):PAll W H (fill c l r t d x):=by
 intro y hy;unfold fill;split;.exact(h y hy).span0 f (λj _ _=>g j)
 .exact h y hy
def PAll.fill2(h:PAll W H c)(v:l+2<=W)(i:(x l).p=1)(j:(x (l+1)).p=2)(n:(x (l+1)).f=(x l).f)(q:(x (l+1)).g=(x l).g)(m:(x (l+1)).b=(x l).b)(s:(x (l+1)).t=OE):PAll W H (fill c l (l+2) t d x):=by
 intro y hy;unfold fill;split;.exact(h y hy).span2 v i j n q m s
 .exact h y hy
def DH(f:t<=d):fill (fill c l r t d x) l r d (d+1) x=fill c l r t (d+1) x:=by grind[fill]
def GB(h:PAll W H c)(s:r<=W){y j}(hy:y<H)(i:j<W)(n:¬(t<=y/\y<d/\l<=j/\j<r)):fill c l r t d x y j=c y j\/(fill c l r t d x y j=bl (c y j)/\(c y j).p≠0):=by
 unfold fill;by_cases f:t<=y/\y<d
 .rw[if_pos f];rcases js (r:=c y) (a:=l) (z:=r) (x:=x) (j:=j) dg with⟨e,_⟩|⟨e,hh|hh⟩;.grind
  .refine .inr ⟨e,?_⟩;obtain⟨k,m,g,_⟩:=(h y hy).tail l dg hh.2.2;grind
  .refine .inr ⟨e,?_⟩;obtain⟨_,q,_⟩:=(h y hy).head (r-1) dg hh.2.2;grind
 grind
end
def ov(a b:Int):Int:=if kn b=0 then kn a else kn b
def xY(a b:Int):Int:=max (bo b) (bo a)
def oJ a:ov 0 a=kn a:=by have:kn 0=0:=rfl;unfold ov;split<;>omega
def wG a:xY 0 a=bo a:=by have:bo 0=0:=rfl;have:=rF a;unfold xY;omega
def P2(T:TypeId)(w u:AT)(B C:Nat)(a b c:Int):Prop:=R3 T u B a b c/\R3 T u C 0 0 0/\Gr w u
section
variable{T:TypeId} {w u:AT} {B C:Nat} {a b c:Int}
def P2.ch0(h:P2 T w u B C a b c)(i:C≠B)(g:w.heap.size<=B)(x:Int):∃f a',((a=0/\f=u.setCell (aq B 0) (Iq x)/\a'=x)\/(¬a=0/\f=u/\a'=a))/\P2 T w f B C a' b c:=by
 by_cases e:a=0;.exact⟨_,_,.inl ⟨e,rfl,rfl⟩,h.1.set0 x,h.2.1.other i _,h.2.2.set g _⟩
 .exact⟨_,_,.inr ⟨e,rfl,rfl⟩,h⟩
def P2.ch1(h:P2 T w u B C a b c)(j:C≠B)(i:w.heap.size<=B)(x:Int):∃g f,((b=0/\g=u.setCell (aq B 1) (Iq x)/\f=x)\/(¬b=0/\g=u/\f=b))/\P2 T w g B C a f c:=by
 by_cases e:b=0;.exact⟨_,_,.inl ⟨e,rfl,rfl⟩,h.1.set1 x,h.2.1.other j _,h.2.2.set i _⟩
 .exact⟨_,_,.inr ⟨e,rfl,rfl⟩,h⟩
def P2.set2(h:P2 T w u B C a b c)(g:C≠B)(f:w.heap.size<=B)(x:Int):P2 T w (u.setCell (aq B 2) (Iq x)) B C a b x:=⟨h.1.set2 x,h.2.1.other g _,h.2.2.set f _⟩
def Bn{p:Prop}{x y z:Int}{q r:Prop}[Decidable p](h:(p/\q/\z=x)\/(¬p/\r/\z=y)):(if p then x else y)=z:=rn
end
def lP(f g b f2 s p:Int)(w:AT):Cw 97 #[sv f g b,sv f2 s p] w λe w'=>e=Rw (sv (ov f f2) (ov g s) (xY b p))/\Gr w w':=by
 have CC:Hid (∀f g b w,Cw 169 #[sv f g b] w λe w'=>e=Rw (sv (kn f) (kn g) (bo b))/\Gr w w'):=jc;unfold sv at CC|-;go_enter func97,ntmps97;go_wp2_with fail;obtain⟨S,hS⟩:=af w.heap.size;obtain⟨N,q⟩:=af (((w.alloc (.cells #[Iq f,Iq g,Iq b] 44)).alloc (.cells #[Iq f2,Iq s,Iq p] 44)).alloc (.cells #[Iq 0,Iq 0,Iq 0] 44));have G0:Hid (Gr w N):=by rw[<-q];exact(((Gr.refl w).alloc _).alloc _).alloc _
 have P:Hid (R3 44 N S f g b):=by rw[<-q,<-hS];exact(R3.new w _ _ _ _).gr (((Gr.refl _).alloc _).alloc _)
 have R:Hid (R3 44 N (S+1) f2 s p):=by have:=R3.new (w.alloc (.cells #[Iq f,Iq g,Iq b] 44)) f2 s p 44;simp only[ai,hS]at this;rw[<-q];exact this.gr ((Gr.refl _).alloc _)
 have RC:Hid (R3 44 N (S+1+1) 0 0 0):=by have:=R3.new ((w.alloc (.cells #[Iq f,Iq g,Iq b] 44)).alloc (.cells #[Iq f2,Iq s,Iq p] 44)) 0 0 0 44;simp only[ai,hS]at this;rw[<-q];exact this
 rw[q,hS];clear q;have Y:Hid (w.heap.size=S):=hS;clear hS;have a0:=P.c0;have a1:=P.c1;have a2:=P.c2;have b0:=R.c0;have b1:=R.c1;have G:=R.c2;obtain⟨x,hx⟩:=af (kn f);obtain⟨y,hy⟩:=af (kn g);obtain⟨z,hz⟩:=af (bo b);obtain⟨E,V⟩:=af (kn f2);obtain⟨F,X⟩:=af (kn s);obtain⟨m,J⟩:=af (bo p);have HV:Hid (sv (ov f f2) (ov g s) (xY b p)=sv (if E=0 then x else E) (if F=0 then y else F) (max m z)):=qH<|by unfold ov xY;rw[hx,hy,hz,V,X,J]
 have bz:=rF b;have ze:=rF p;rw[hz]at bz;rw[J]at ze;have C1:=CC f g b;have C2:=CC f2 s p;rw[hx,hy,hz]at C1;rw[V,X,J]at C2;go_cut[2,3,4]from 5 to 9 (λu v t wx=>u=Pq S/\v=Pq (S+1)/\t=Pq (S+1+1)/\Hid (R3 44 wx S x y z/\R3 44 wx (S+1) E F m/\R3 44 wx (S+1+1) 0 0 0/\Gr w wx));.go_region_with(go_at_call 169;(first|(with_reducible refine ag (C1 _) ?_)|(with_reducible refine ag (C2 _) ?_));rintro e L ⟨rfl,I⟩;have A:Hid (Gr N L):=(by first|exact((Gr.refl N).drew).trans I|exact Gr.trans (Hid.out (by assumption)) I);have i:Hid (R3 44 L S f g b):=P.out.gr A.out;have j:Hid (R3 44 L (S+1) f2 s p):=R.out.gr A.out;clear I;have m0:=i.out.c0;have m1:=i.out.c1;have m2:=i.out.c2;have n0:=j.out.c0;have n1:=j.out.c1;have n2:=j.out.c2;have f0:=i.out.fz 0;have f1:=i.out.fz 1;have zg:=i.out.fz 2;have g0:=j.out.fz 0;have g1:=j.out.fz 1;have U:=j.out.fz 2);all_goals
   have n:Hid (R3 44 ((((((L.setCell (aq S 0) (Iq x)).setCell (aq S 1) (Iq y)).setCell (aq S 2) (Iq z)).setCell (aq (S+1) 0) (Iq E)).setCell (aq (S+1) 1) (Iq F)).setCell (aq (S+1) 2) (Iq m)) S x y z/\R3 44 ((((((L.setCell (aq S 0) (Iq x)).setCell (aq S 1) (Iq y)).setCell (aq S 2) (Iq z)).setCell (aq (S+1) 0) (Iq E)).setCell (aq (S+1) 1) (Iq F)).setCell (aq (S+1) 2) (Iq m)) (S+1) E F m/\R3 44 ((((((L.setCell (aq S 0) (Iq x)).setCell (aq S 1) (Iq y)).setCell (aq S 2) (Iq z)).setCell (aq (S+1) 0) (Iq E)).setCell (aq (S+1) 1) (Iq F)).setCell (aq (S+1) 2) (Iq m)) (S+1+1) 0 0 0/\Gr w ((((((L.setCell (aq S 0) (Iq x)).setCell (aq S 1) (Iq y)).setCell (aq S 2) (Iq z)).setCell (aq (S+1) 0) (Iq E)).setCell (aq (S+1) 1) (Iq F)).setCell (aq (S+1) 2) (Iq m))):=
    ⟨(i.set x y z).others dg _ _ _,(j.others dg _ _ _).set E F m,((RC.gr A).others dg _ _ _).others dg _ _ _,((G0.trans A).set3 (by rw[Y.out];omega) _ _ _).set3 (by rw[Y.out];omega) _ _ _⟩;clear m0 m1 m2 n0 n1 n2 f0 f1 zg g0 g1 U a0 a1 a2 b0 b1 G i j;go_wp2_with fail;go_meet;exact⟨rfl,rfl,rfl,n⟩
 obtain⟨rfl,rfl,rfl,n⟩:=hcut;clear a0 a1 a2 b0 b1 G P R RC;have a0:=n.1.c0;have a1:=n.1.c1;have a2:=n.1.c2;have b0:=n.2.1.c0;have b1:=n.2.1.c1;have G:=n.2.1.c2;have g0:=n.2.1.fz 0;have g1:=n.2.1.fz 1;have U:=n.2.1.fz 2;have gg:=n.2.2.2;have hl:w.heap.size<=S+1:=by rw[Y.out];omega
 obtain⟨W1,x3,q1,p1⟩:=P2.ch0 (C:=S+1+1) (w:=w) n.out.2 dg hl x;obtain⟨W2,y3,q2,p2⟩:=p1.ch1 dg hl y;obtain⟨Z,O,q3,D⟩:∃Z O,((m<z/\m<=z/\Z=W2.setCell (aq (S+1) 2) (Iq z)/\O=z)\/(¬m<z/\z<=m/\Z=W2.setCell (aq (S+1) 2) (Iq m)/\O=m))/\P2 44 w Z (S+1) (S+1+1) x3 y3 O:=by
  by_cases h:m<z;.exact⟨_,_,.inl ⟨h,dg,rfl,rfl⟩,p2.set2 dg hl z⟩
  .exact⟨_,_,.inr ⟨h,dg,rfl,rfl⟩,p2.set2 dg hl m⟩
 have HW:Hid (sv (ov f f2) (ov g s) (xY b p)=sv x3 y3 O):=qH<|by rw[HV.out,Bn q1,Bn q2,show max m z=O by omega]
 clear p1 p2;rcases q1 with⟨h1,rfl,rfl⟩|⟨h1,rfl,rfl⟩<;>rcases q2 with⟨h2,rfl,rfl⟩|⟨h2,rfl,rfl⟩<;>rcases q3 with⟨h3,zh,rfl,rfl⟩|⟨h3,zh,rfl,rfl⟩;all_goals have n0:=D.1.c0;have n1:=D.1.c1;have n2:=D.1.c2;have o0:=D.2.1.c0;have o1:=D.2.1.c1;have o2:=D.2.1.c2;have k0:=D.2.1.fz;go_wp2;refine bodyPost_ret (results_cell_row rfl _ _ (S+1+1) _ _ _ _ rfl (D.2.1.set _ _ _) underlying44 rfl pt) rfl ?_;exact⟨by show _=Ending.returned (sv (ov f f2) (ov g s) (xY b p));rw[HW.out];rfl,D.2.2.set3 (by rw[Y.out];omega) _ _ _⟩
structure bM(M:Nat)(W W':AT):Prop where
 os:W'.os=W.os
 tape:W'.tape=W.tape
 output:W'.output=W.output
 size:W.heap.size<=W'.heap.size
 block:∀b,b<W.heap.size->b≠M->W'.heap[b]?=W.heap[b]?
section
variable{M:Nat} {W W' W2:AT}
def bM.refl M W:bM M W W:=⟨rfl,rfl,rfl,LE,λ_ _ _=>rfl⟩
def bM.trans(h:bM M W W')(k:bM M W' W2):bM M W W2:=
 ⟨k.os.trans h.os,k.tape.trans h.tape,k.output.trans h.output,aA h.size k.size,λb f g=>(k.block b (zz006 f h.size) g).trans (h.block b f g)⟩
def bM.below(h:Bq W W'):bM M W W':=⟨h.os,h.tape,h.output,h.size,λb f _=>h.block b f⟩
def bM.gr(h:Gr W W'):bM M W W':=bM.below h.below
def bM.thenGr(h:bM M W W')(k:Gr W' W2):bM M W W2:=h.trans (bM.gr k)
def bM.set(h:bM M W W'){k}(i:k=M\/W.heap.size<=k)o v:bM M W (W'.setCell (aq k o) v):=
 ⟨h.os,h.tape,h.output,by simpa[World.setCell]using h.size,λb f g=>(aM W' (aq k o) v b rn).trans (h.block b f g)⟩
def bM.low(h:bM M W W'){B}(j:B<=M)(i:B<=W.heap.size){f}(k:Below B f W):Below B f W':=
 ⟨h.os.trans k.os,h.tape.trans k.tape,h.output.trans k.output,aA k.size h.size,λb g=>(h.block b dg dg).trans (k.block b g)⟩
end
def c5(e:Ce):List Fd:=[.string e.t,Iq e.f,Iq e.g,Iq e.b,Iq e.p]
theorem On e:(c5 e).length=5:=rfl
structure Cv(T:TypeId)(Q:AT)(M W H:Nat)(c:zzd):Prop where
 arr:∃a,Q.heap[M]?=some (.cells a T (0,0))
 cell:∀y x,y<H->x<W->∀(k:Nat) u,(c5 (c y x))[k]?=some u->Q.cell? (aq M (y*W*5+x*5+k))=some u
def dQ(c:zzd)(y x:Nat)(e:Ce):Nat->Nat->Ce:=λy' x'=>if y'=y/\x'=x then e else c y' x'
theorem Lr{W y x g f:Nat}(j:x<W)(i:f<W)(h:y*W+x=g*W+f):y=g/\x=f:=by
 have m:(y*W+x)/W=y:=by rw[eJ,JL dg,Ct j,qC]
 have n:(g*W+f)/W=g:=by rw[eJ,JL dg,Ct i,qC]
 grind
theorem Mt{W y x k g f k'}(n:x<W)(j:f<W)(m:k<5)(i:k'<5)(h:y*W*5+x*5+k=g*W*5+f*5+k'):y=g/\x=f/\k=k':=by grind[Lr]
section
variable{T:TypeId} {Q Q':AT} {M W H:Nat} {c c':zzd}
def Cv.lt(h:Cv T Q M W H c):M<Q.heap.size:=by obtain⟨a,f⟩:=h.arr;grind
def Cv.fz(h:Cv T Q M W H c)j:Q.frozen? (aq M j)=false:=by obtain⟨a,f⟩:=h.arr;exact frozen_of_row _ _ _ _ _ f
def Cv.keep(h:Cv T Q M W H c)(f:Q'.heap[M]?=Q.heap[M]?):Cv T Q' M W H c:=by obtain⟨a,g⟩:=h.arr;exact⟨⟨a,f.trans g⟩,λy x hy i k u hu=>(aQ (a:=(aq M _)) f).trans (h.cell y x hy i k u hu)⟩
def Cv.gr(h:Cv T Q M W H c)(g:Gr Q Q'):Cv T Q' M W H c:=h.keep (g.block h.lt)
def Cv.ch{N}(h:Cv T Q M W H c)(g:bM N Q Q')(f:M≠N):Cv T Q' M W H c:=h.keep (g.block M h.lt f)
def Cv.other{k}(h:Cv T Q M W H c)(f:M≠k)o v:Cv T (Q.setCell (aq k o) v) M W H c:=h.keep (aM Q (aq k o) v M f)
def Cv.same(h:Cv T Q M W H c)(g:∀y x,y<H->x<W->c y x=c' y x):Cv T Q M W H c':=
 ⟨h.arr,λy x hy f k u hu=>h.cell y x hy f k u rn⟩
def Cv.set1(h:Cv T Q M W H c){y x k}(hy:y<H)(F:x<W)(n:k<5)v(A:∀g f,c' g f=if g=y/\f=x then c' y x else c g f)(D:c5 (c' y x)=(c5 (c y x)).set k v):
 Cv T (Q.setCell (aq M (y*W*5+x*5+k)) v) M W H c':=by
 obtain⟨a,s⟩:=h.arr;refine⟨⟨_,heap_setCell_same _ M _ _ _ _ s⟩,λg f j i k' u hu=>?_⟩;have E:k'<5:=(nP.1 hu).1;have m:=h.cell y x hy F k _ (da (show k<(c5 (c y x)).length from n));by_cases e:g=y/\f=x
 .obtain⟨rfl,rfl⟩:=e;rw[D]at hu;by_cases p:k'=k;.subst p;rw[Co (show k'<(c5 (c g f)).length from n)]at hu;injection hu with hu;subst hu;exact kF _ _ _ m
  .rw[qB dg]at hu;rw[cu _ _ _ _ (λq=>rn)];exact h.cell g f j i k' u hu
 .rw[A g f,if_neg e]at hu;rw[cu _ _ _ _];.exact h.cell g f j i k' u hu
  grind[Mt]
def Cv.set(h:Cv T Q M W H c){y x}(hy:y<H)(i:x<W)e:
 Cv T (((((Q.setCell (aq M (y*W*5+x*5)) (.string e.t)).setCell (aq M (y*W*5+x*5+1)) (Iq e.f)).setCell (aq M (y*W*5+x*5+2)) (Iq e.g)).setCell (aq M (y*W*5+x*5+3)) (Iq e.b)).setCell (aq M (y*W*5+x*5+4)) (Iq e.p)) M W H (dQ c y x e):=by
 have u0:∀e,dQ c y x e y x=e:=λe=>by grind[dQ]
 have n:∀e q,∀m j,dQ c y x q m j=if m=y/\j=x then dQ c y x q y x else dQ c y x e m j:=λe q m j=>by grind[dQ]
 have s:=h.set1 (c':=dQ c y x {c y x with t:=e.t}) (k:=0) hy i dg (.string e.t) (λm j=>by rw[u0];rfl) (by rw[u0];rfl);have v:=s.set1 (c':=dQ c y x {c y x with t:=e.t,f:=e.f}) (k:=1) hy i dg (Iq e.f) (n _ _) (by rw[u0,u0];rfl);have A:=v.set1 (c':=dQ c y x {c y x with t:=e.t,f:=e.f,g:=e.g}) (k:=2) hy i dg (Iq e.g) (n _ _) (by rw[u0,u0];rfl);have D:=A.set1 (c':=dQ c y x {c y x with t:=e.t,f:=e.f,g:=e.g,b:=e.b}) (k:=3) hy i dg (Iq e.b) (n _ _) (by rw[u0,u0];rfl);exact D.set1 (c':=dQ c y x e) (k:=4) hy i dg (Iq e.p) (n _ _) (by rw[u0,u0];rfl)
def Cv.setPart(h:Cv T Q M W H c){y x}(hy:y<H)(f:x<W)p:
 Cv T (Q.setCell (aq M (y*W*5+x*5+4)) (Iq p)) M W H (dQ c y x {c y x with p:=p}):=
 h.set1 (k:=4) hy f dg _ (λi g=>by unfold dQ;simp) (by unfold dQ;rw[if_pos ⟨rfl,rfl⟩];rfl)
def Cv.setText(h:Cv T Q M W H c){y x}(hy:y<H)(f:x<W)s:
 Cv T (Q.setCell (aq M (y*W*5+x*5+0)) (.string s)) M W H (dQ c y x {c y x with t:=s}):=
 h.set1 (k:=0) hy f dg _ (λi g=>by unfold dQ;simp) (by unfold dQ;rw[if_pos ⟨rfl,rfl⟩];rfl)
def Cv.c0(h:Cv T Q M W H c){y x}(hy:y<H)(f:x<W):Q.cell? (aq M (y*W*5+x*5))=some (.string (c y x).t):=h.cell y x hy f 0 _ rfl
def Cv.c1(h:Cv T Q M W H c){y x}(hy:y<H)(g:x<W):Q.cell? (aq M (y*W*5+x*5+1))=some (Iq (c y x).f):=h.cell y x hy g 1 _ rfl
def Cv.c2(h:Cv T Q M W H c){y x}(hy:y<H)(f:x<W):Q.cell? (aq M (y*W*5+x*5+2))=some (Iq (c y x).g):=h.cell y x hy f 2 _ rfl
def Cv.c3(h:Cv T Q M W H c){y x}(hy:y<H)(f:x<W):Q.cell? (aq M (y*W*5+x*5+3))=some (Iq (c y x).b):=h.cell y x hy f 3 _ rfl
def Cv.c4(h:Cv T Q M W H c){y x}(hy:y<H)(f:x<W):Q.cell? (aq M (y*W*5+x*5+4))=some (Iq (c y x).p):=h.cell y x hy f 4 _ rfl
end
structure CS(TK T:TypeId)(Q:AT)(K M cap W H:Nat)(c:zzd):Prop where
 kb:Q.heap[K]?=some (.cells #[Iq W,Iq H,Sq M (W*H) cap] TK (0,0))
 cv:Cv T Q M W H c
 ne:K≠M
 hc:W*H<=cap
section
variable{TK T:TypeId} {Q Q':AT} {K M cap W H:Nat} {c c':zzd}
def CS.klt(h:CS TK T Q K M cap W H c):K<Q.heap.size:=(aj.1 h.kb).1
def CS.k0(h:CS TK T Q K M cap W H c):Q.cell? (aq K 0)=some (Iq W):=by have:=h.kb;simp[World.cell?,this]
def CS.k1(h:CS TK T Q K M cap W H c):Q.cell? (aq K 1)=some (Iq H):=by have:=h.kb;simp[World.cell?,this]
def CS.k2(h:CS TK T Q K M cap W H c):Q.cell? (aq K 2)=some (Sq M (W*H) cap):=by have:=h.kb;simp[World.cell?,this]
def CS.ch{N}(h:CS TK T Q K M cap W H c)(g:bM N Q Q')(f:K≠N)(i:M≠N):CS TK T Q' K M cap W H c:=⟨(g.block K h.klt f).trans h.kb,h.cv.ch g i,h.ne,h.hc⟩
def CS.gr(h:CS TK T Q K M cap W H c)(g:Gr Q Q'):CS TK T Q' K M cap W H c:=⟨(g.block h.klt).trans h.kb,h.cv.gr g,h.ne,h.hc⟩
def CS.put(h:CS TK T Q K M cap W H c)(g:bM M Q Q')(f:Cv T Q' M W H c'):CS TK T Q' K M cap W H c':=⟨(g.block K h.klt h.ne).trans h.kb,f,h.ne,h.hc⟩
end
def Ba(e:Ce):Fd:=.agg #[.string e.t,Iq e.f,Iq e.g,Iq e.b,Iq e.p]
def kR(f g b:Int)(w:AT):Cw 96 #[sv f g b] w λe w'=>e=Rw (Ba (bk f g b))/\Gr w w':=by unfold sv;go_enter func96,ntmps96;go_wp2;refine bodyPost_ret (v:=Ba (bk f g b)) (by simp[results,Tryz.results96,go_sem,Ba,bk,P8]) rfl ?_;exact⟨rfl,((Gr.refl w).alloc _).alloc _⟩
def pf(f g b:Int)(w:AT):Cw 171 #[sv f g b] w λe w'=>e=Rw (sv (kn f) (kn g) (bo b))/\Gr w w':=by have s:Hid (∀f g b f2 n m w,Cw 97 #[sv f g b,sv f2 n m] w λe w'=>e=Rw (sv (ov f f2) (ov g n) (xY b m))/\Gr w w'):=lP;have i:=s 0 0 0 f g b;rw[oJ,oJ,wG]at i;unfold sv at i|-;go_enter func171,ntmps171;go_wp2_with(go_at_call 97;refine ag (i _) ?_;rintro e p ⟨rfl,j⟩;have h:Hid (R3 44 p (w.heap.size+1) 0 0 0):=((by have:=R3.new (w.alloc (.cells #[Iq f,Iq g,Iq b] 44)) 0 0 0 44;simp_all):R3 44 _ (w.heap.size+1) 0 0 0).gr j;have v:=h.c0;have c1:=h.c1;have c2:=h.c2;have f0:=h.fz 0;have f1:=h.fz 1;have f2:=h.fz 2;have q:Hid (Gr w p):=(((Gr.refl w).alloc _).alloc _).trans j;clear j);refine bodyPost_ret (results_cell_row rfl _ _ (w.heap.size+1) _ _ _ _ rfl (h.set _ _ _) underlying44 rfl pt) rfl ?_;exact⟨rfl,q.set3 dg _ _ _⟩
def Jf(n:Int)(w:AT):Cw 95 #[Iq n] w λe w'=>e=Rw (.bool (decide (1<=n/\n<=400)))/\w'=w:=by
 by_cases f:1<=n
 .by_cases g:n<=400;.rw[show decide (1<=n/\n<=400)=true from decide_eq_true ⟨f,g⟩];go_enter func95,ntmps95;go_wp2;go_ret;simp_all
  .rw[show decide (1<=n/\n<=400)=false from decide_eq_false dg];go_enter func95,ntmps95;go_wp2;go_ret;simp_all
 .rw[show decide (1<=n/\n<=400)=false from decide_eq_false dg];go_enter func95,ntmps95;go_wp2;go_ret;simp_all
section
variable{K M cap W H:Nat} {c:zzd}
def MQ(w:AT)(h:CS 196 46 w K M cap W H c)(A:0<W)(m:W<=400)(j:H<=400)(y:Nat)(hy:y<H):Cw 232 #[Pq K,Iq y] w λe w'=>e=Rw (.slice (some (aq M (y*W*5))) W W)/\Gr w w':=by
 have D:=h.k0;have s:=h.k2;have q:=h.hc;obtain⟨p,g⟩:=af (y*W);obtain⟨n,f⟩:=af (W*H);have i:(y:Int)*(W:Int)=(p:Int):=by rw[<-g];simp
 have v:((y:Int)+1)*(W:Int)=(p:Int)+(W:Int):=by rw[Cu,i];omega
 have E:p+W<=n:=by rw[<-g,<-f,eJ W H,<-Nat.succ_mul];exact iN _ dg
 have nb:n<=160000:=by rw[<-f];exact ik m j
 rw[f]at s q;rw[g];have F:¬W=0:=dg;have G:¬p+W=p:=dg;clear h f g;go_enter func232,ntmps232;go_wp2_with fail;go_quiet(fail);go_wp2;go_ret;refine⟨?_,(Gr.refl w).drewN _⟩;simp_all
end
def fj(c:zzd)(y a:Nat):Nat->Nat->Ce:=λy' x'=>if y'=y/\x'+1=a/\(c y a).p=2 then bl (c y' x')else c y' x'
def yg(c:zzd)(y q:Nat):Nat->Nat->Ce:=λy' x'=>if y'=y/\x'=q+1/\(c y q).p=1 then bl (c y' x')else c y' x'
def cut(c:zzd)(y a q:Nat):Nat->Nat->Ce:=yg (fj c y a) y q
def Dy{c}{y a}(h:¬(c y a).p=2):fj c y a=c:=by grind[fj]
def DA{c}{y a}(h:¬(c y a).p=1):yg c y a=c:=by grind[yg]
def Dz{c}{y k}(h:(c y (k+1)).p=2):fj c y (k+1)=dQ c y k (bl (c y k)):=by grind[fj,dQ]
def DB{c}{y q}(h:(c y q).p=1):yg c y q=dQ c y (q+1) (bl (c y (q+1))):=by grind[yg,dQ]
theorem Be{c}{y a x}(h:a<=x)f:fj c y a f x=c f x:=by grind[fj]
section
variable{K M cap W H:Nat} {c:zzd}
def xn(w:AT)(h:CS 196 46 w K M cap W H c)(h0:0<W)(hW:W<=400)(hH:H<=400)(y a q:Nat)(hy:y<H)(ze:a<=q)(hq:q<W)(hp:mq W (c y)):Cw 172 #[Pq K,Iq y,Iq a,Iq ((q:Int)+1)] w λe w'=>e=Rw (.slice (some (aq M (y*W*5+a*5))) (q+1-a) (q+1-a))/\Cv 46 w' M W H (cut c y a q)/\bM M w w':=by
 have U:Hid (Cw 232 #[Pq K,Iq y] w λe w'=>e=Rw (.slice (some (aq M (y*W*5))) W W)/\Gr w w'):=MQ w h h0 hW hH y hy;have L:Hid (∀f g b w,Cw 96 #[sv f g b] w λe w'=>e=Rw (Ba (bk f g b))/\Gr w w'):=kR;have HV:Hid (Cv 46 w M W H c):=h.cv;have HP:Hid (mq W (c y)):=hp;obtain⟨o,I⟩:=af (y*W*5);have n:Hid (y*W*5=o):=I;unfold sv Ba bk at L;rw[I]at U;clear h hp;rw[I];clear I;go_enter func172,ntmps172;go_wp2_with fail;refine ag U ?_;rintro e w1 ⟨rfl,g1⟩;have v:Hid (Cv 46 w1 M W H c):=HV.gr g1;have N:Hid (bM M w w1):=bM.gr g1;clear g1 HV U;have Z:=v.c4 hy (show a<W by omega);rw[n.out]at Z;obtain⟨pa,D⟩:=af ((c y a).p);rw[D]at Z;have P:Hid ((c y a).p=pa):=D;clear D;go_upto_if 18 with fail;go_cut[9]from 13 to 29 (λu G=>u=.slice (some (aq M o)) W W/\Hid (Cv 46 G M W H (fj c y a)/\bM M w G))
 .by_cases j:pa=2
  .obtain⟨k,zi,zh,_⟩:=HP.tail a dg (P.trans j);subst zi;have R:Hid (fj c y (k+1)=dQ c y k (bl (c y k))):=Dz (P.trans j);subst j;clear zh;have V:=v.c1 hy (show k<W by omega);have X:=v.c2 hy (show k<W by omega);have Y:=v.c3 hy (show k<W by omega);rw[n.out]at V X Y;go_wp2_with(go_at_call 96;refine ag (L _ _ _ _) ?_;rintro e F ⟨rfl,A⟩;have i:Hid (Cv 46 F M W H c):=v.gr A;have O:Hid (bM M w F):=N.thenGr A;clear A;have d0:=i.c0 hy (show k<W by omega);have d1:=i.c1 hy (show k<W by omega);have d2:=i.c2 hy (show k<W by omega);have d3:=i.c3 hy (show k<W by omega);have d4:=i.c4 hy (show k<W by omega);rw[n.out]at d0 d1 d2 d3 d4;have f0:=i.fz;have fl:=i.lt);go_meet;refine⟨rfl,?_,?_⟩;.rw[R.out,<-n.out];exact i.set hy (show k<W by omega) (bl (c y k))
   .exact((((O.set (.inl rfl) _ _).set (.inl rfl) _ _).set (.inl rfl) _ _).set (.inl rfl) _ _).set (.inl rfl) _ _
  .have zj:(pa==2)=false:=by simpa using j
   go_wp2_with fail;go_meet;exact⟨rfl,by rw[Dy (by rw[P.out];exact j)];exact v,N⟩
 obtain⟨rfl,s⟩:=hcut;clear v N Z;have cq:=s.1.c4 hy hq;rw[n.out]at cq;obtain⟨J,E⟩:=af ((fj c y a y q).p);rw[E]at cq;have S:Hid ((fj c y a y q).p=J):=E;clear E;have zg:Hid ((c y q).p=J):=by have:=S.out;rw[Be ze]at this;exact this
 go_upto_if 36 with fail;go_cut[9]from 13 to 45 (λu G=>u=.slice (some (aq M o)) W W/\Hid (Cv 46 G M W H (cut c y a q)/\bM M w G))
 .by_cases j:J=1
  .obtain⟨m,_⟩:=HP.head q hq (zg.trans j);have R:Hid (cut c y a q=dQ (fj c y a) y (q+1) (bl (fj c y a y (q+1)))):=DB (S.trans j);subst j;have V:=s.1.c1 hy m;have X:=s.1.c2 hy m;have Y:=s.1.c3 hy m;rw[n.out]at V X Y;go_wp2_with(go_at_call 96;refine ag (L _ _ _ _) ?_;rintro e F ⟨rfl,A⟩;have i:Hid (Cv 46 F M W H (fj c y a)):=s.1.gr A;have O:Hid (bM M w F):=s.2.thenGr A;clear A;have d0:=i.c0 hy m;have d1:=i.c1 hy m;have d2:=i.c2 hy m;have d3:=i.c3 hy m;have d4:=i.c4 hy m;rw[n.out]at d0 d1 d2 d3 d4;have f0:=i.fz;have fl:=i.lt);go_meet;refine⟨rfl,?_,?_⟩;.rw[R.out,<-n.out];exact i.set hy m (bl (fj c y a y (q+1)))
   .exact((((O.set (.inl rfl) _ _).set (.inl rfl) _ _).set (.inl rfl) _ _).set (.inl rfl) _ _).set (.inl rfl) _ _
  .have zj:(J==1)=false:=by simpa using j
   go_wp2_with fail;go_meet;exact⟨rfl,by unfold cut;rw[DA (by rw[S.out];exact j)];exact s.1,s.2⟩
 obtain⟨rfl,HZ⟩:=hcut;have zk:a<=W:=dg;have nz:¬q+1=a:=dg;go_wp2;go_ret;exact⟨rfl,HZ.1,HZ.2⟩
end
def jb(ax ay aw ah bx lk bw bh:Int):Int×Int×Int×Int:=if dV ax aw bx bw>=fO ax aw bx bw\/dV ay ah lk bh>=fO ay ah lk bh then(0,0,0,0)else(dV ax aw bx bw,dV ay ah lk bh,fO ax aw bx bw-dV ax aw bx bw,fO ay ah lk bh-dV ay ah lk bh)
def Oq i j h g p f n m:mz i j h g p f n m=rv (jb i j h g p f n m).1 (jb i j h g p f n m).2.1 (jb i j h g p f n m).2.2.1 (jb i j h g p f n m).2.2.2:=by grind[mz,jb]
def dp(W H:Int)(x y a b cx cy ca cb:Int):Int×Int×Int×Int:=jb 0 0 W H (jb x y a b cx cy ca cb).1 (jb x y a b cx cy ca cb).2.1 (jb x y a b cx cy ca cb).2.2.1 (jb x y a b cx cy ca cb).2.2.2
structure Df(W H:Int)(x y a b cx cy ca cb:Int)(l t u v:Int):Prop where
 l0:0<=l
 t0:0<=t
 u0:0<=u
 v0:0<=v
 lu:l+u<=W
 tv:t+v<=H
 uv:0<u↔0<v
 mem:∀p q,(l<=p/\p<l+u/\t<=q/\q<t+v)↔((0<=p/\p<W/\0<=q/\q<H)/\(aH x<=p/\p<aH x+aG a/\aH y<=q/\q<aH y+aG b)/\(aH cx<=p/\p<aH cx+aG ca/\aH cy<=q/\q<aH cy+aG cb))
def cq(px py pa pb qx qy qa qb:Int):Int×Int×Int×Int:=if max px qx>=min (px+pa) (qx+qa)\/max py qy>=min (py+pb) (qy+qb)then(0,0,0,0)else(max px qx,max py qy,min (px+pa) (qx+qa)-max px qx,min (py+pb) (qy+qb)-max py qy)
def Gh f g h i qx qy qa qb p q:((cq f g h i qx qy qa qb).1<=p/\p<(cq f g h i qx qy qa qb).1+(cq f g h i qx qy qa qb).2.2.1/\(cq f g h i qx qy qa qb).2.1<=q/\q<(cq f g h i qx qy qa qb).2.1+(cq f g h i qx qy qa qb).2.2.2)↔((f<=p/\p<f+h/\g<=q/\q<g+i)/\(qx<=p/\p<qx+qa/\qy<=q/\q<qy+qb)):=by unfold cq;grind
def NH f g i j qx qy qa qb(m:-100000<=f/\f<=100000)(n:-100000<=g/\g<=100000)(p:0<=i/\i<=100000)(q:0<=j/\j<=100000)(s:-100000<=qx/\qx<=100000)(v:-100000<=qy/\qy<=100000):
 (-100000<=(cq f g i j qx qy qa qb).1/\(cq f g i j qx qy qa qb).1<=100000)/\(-100000<=(cq f g i j qx qy qa qb).2.1/\(cq f g i j qx qy qa qb).2.1<=100000)/\(0<=(cq f g i j qx qy qa qb).2.2.1/\(cq f g i j qx qy qa qb).2.2.1<=100000)/\(0<=(cq f g i j qx qy qa qb).2.2.2/\(cq f g i j qx qy qa qb).2.2.2<=100000)/\(0<(cq f g i j qx qy qa qb).2.2.1↔0<(cq f g i j qx qy qa qb).2.2.2):=by by_cases h:max f qx>=min (f+i) (qx+qa)\/max g qy>=min (g+j) (qy+qb);all_goals grind[cq]
def QH{W H qx qy qa qb}(g:1<=W)(f:1<=H):0<=(cq 0 0 W H qx qy qa qb).1/\0<=(cq 0 0 W H qx qy qa qb).2.1/\(cq 0 0 W H qx qy qa qb).1+(cq 0 0 W H qx qy qa qb).2.2.1<=W/\(cq 0 0 W H qx qy qa qb).2.1+(cq 0 0 W H qx qy qa qb).2.2.2<=H:=by grind[cq]
def A3 i j h g p f n m:jb i j h g p f n m=cq (aH i) (aH j) (aG h) (aG g) (aH p) (aH f) (aG n) (aG m):=rfl
def eY{W H}(I:1<=W/\W<=400)(G:1<=H/\H<=400)x y a b f g h i:
 Df W H x y a b f g h i (dp W H x y a b f g h i).1 (dp W H x y a b f g h i).2.1 (dp W H x y a b f g h i).2.2.1 (dp W H x y a b f g h i).2.2.2:=by have k:=NH (aH x) (aH y) (aG a) (aG b) (aH f) (aH g) (aG h) (aG i) (bQ x) (bQ y) (bB a) (bB b) (bQ f) (bQ g);have E:=Gh (aH x) (aH y) (aG a) (aG b) (aH f) (aH g) (aG h) (aG i);unfold dp;rw[A3 x y a b f g h i];generalize cq (aH x) (aH y) (aG a) (aG b) (aH f) (aH g) (aG h) (aG i)=z at k E|-;obtain⟨m,s,v,A⟩:=z;simp only at k E|-;rw[A3,BZ (n:=m) k.1,BZ (n:=s) k.2.1,jP (n:=v) k.2.2.1,jP (n:=A) k.2.2.2.1,jP (n:=W) dg,jP (n:=H) dg,show aH 0=0 from rfl];have D:=NH 0 0 W H m s v A dg dg dg dg k.1 k.2.1;have F:=Gh 0 0 W H m s v A;have j:=QH (qx:=m) (qy:=s) (qa:=v) (qb:=A) I.1 G.1;generalize cq 0 0 W H m s v A=z at D F j|-;obtain⟨J,L,N,O⟩:=z;simp only at D F j|-;refine⟨j.1,j.2.1,D.2.2.1.1,D.2.2.2.1.1,j.2.2.1,j.2.2.2,D.2.2.2.2,λp q=>?_⟩;grind
section
variable{K M cap W H:Nat} {c:zzd}
def xg(w:AT)(h:CS 196 46 w K M cap W H c)(x y a b q A n p:Int):Cw 170 #[Pq K,rv x y a b,rv q A n p] w λe w'=>e=Rw (rv (dp W H x y a b q A n p).1 (dp W H x y a b q A n p).2.1 (dp W H x y a b q A n p).2.2.1 (dp W H x y a b q A n p).2.2.2)/\Gr w w':=by
 have k0:=h.k0;have k1:=h.k1;have kl:=h.klt;clear h;have CP:Hid (∀F G E D L i J I w,Cw 116 #[rv F G E D,rv L i J I] w λe w'=>e=Rw (rv (jb F G E D L i J I).1 (jb F G E D L i J I).2.1 (jb F G E D L i J I).2.2.1 (jb F G E D L i J I).2.2.2)/\Gr w w'):=λF G E D L i J I w=>by rw[<-Oq];exact A_ F G E D L i J I w
 obtain⟨q1,O⟩:=af (jb x y a b q A n p);have U:=CP x y a b q A n p;rw[O]at U;obtain⟨i0,i1,i2,i3⟩:=q1;obtain⟨q2,P⟩:=af (jb 0 0 (W:Int) (H:Int) i0 i1 i2 i3);have V:=CP 0 0 W H i0 i1 i2 i3;rw[P]at V;obtain⟨j0,j1,j2,j3⟩:=q2;have HQ:Hid (dp W H x y a b q A n p=(j0,j1,j2,j3)):=qH<|by unfold dp;rw[O];exact P
 rw[HQ.out];clear O P CP;unfold rv at U V|-;simp only at U V|-;go_enter func170,ntmps170;go_wp2_with fail;obtain⟨S,hS⟩:=af w.heap.size;have HS:Hid (w.heap.size=S):=hS;obtain⟨m,j⟩:=af (((w.alloc (.cells #[Iq x,Iq y,Iq a,Iq b] 93)).alloc (.cells #[Iq q,Iq A,Iq n,Iq p] 93)).alloc (.cells #[Iq 0,Iq 0,Iq 0,Iq 0] 93));have X:Hid (Gr w m):=by rw[<-j];exact(((Gr.refl w).alloc _).alloc _).alloc _
 have RA:Hid (R4 93 m S x y a b):=by rw[<-j,<-hS];exact(R4.new w _ _ _ _ _).gr (((Gr.refl _).alloc _).alloc _)
 have RB:Hid (R4 93 m (S+1) q A n p):=by have:=R4.new (w.alloc (.cells #[Iq x,Iq y,Iq a,Iq b] 93)) q A n p 93;simp only[ai,hS]at this;rw[<-j];exact this.gr ((Gr.refl _).alloc _)
 have RC:Hid (R4 93 m (S+1+1) 0 0 0 0):=by have:=R4.new ((w.alloc (.cells #[Iq x,Iq y,Iq a,Iq b] 93)).alloc (.cells #[Iq q,Iq A,Iq n,Iq p] 93)) 0 0 0 0 93;simp only[ai,hS]at this;rw[<-j];exact this
 have ze:=(aQ (a:=(aq K 0)) (X.block kl)).trans k0;have zg:=(aQ (a:=(aq K 1)) (X.block kl)).trans k1;have sz:Hid (m.heap.size=S+3):=by show m.heap.size=S+3;rw[<-j];simp only[ai,hS]
 have zh:K<m.heap.size:=by rw[sz.out,<-HS.out];omega
 rw[j,hS];clear j hS k0 k1;go_cut[4,5,6,7]from 8 to 16 (λu v t s R=>u=Pq S/\v=Pq (S+1)/\t=Pq (S+1+1)/\s=Pq m.heap.size/\Hid (R4 93 R S x y a b/\R4 93 R (S+1) q A n p/\R4 93 R (S+1+1) 0 0 0 0/\R4 93 R m.heap.size 0 0 W H/\Gr w R));.go_region;all_goals go_wp2_with fail;go_meet;have Y:Gr m (m.alloc (.cells #[Iq 0,Iq 0,Iq W,Iq H] 93)).drew:=((Gr.refl m).alloc _).drew;exact⟨rfl,rfl,rfl,rfl,RA.gr Y,RB.gr Y,RC.gr Y,(R4.new m 0 0 W H _).gr ((Gr.refl _).drew),X.trans Y⟩
 obtain⟨rfl,rfl,rfl,rfl,g⟩:=hcut;obtain⟨Z,hZ⟩:=af m.heap.size;have HZ:Hid (Z=S+3):=hZ.symm.trans sz;rw[hZ]at g;rw[hZ];clear hZ RA RB RC zh ze zg X sz;have a0:=g.1.c0;have a1:=g.1.c1;have a2:=g.1.c2;have a3:=g.1.c3;have b0:=g.2.1.c0;have b1:=g.2.1.c1;have b2:=g.2.1.c2;have b3:=g.2.1.c3;have z0:=g.2.2.2.1.c0;have z1:=g.2.2.2.1.c1;have z2:=g.2.2.2.1.c2;have z3:=g.2.2.2.1.c3;go_wp2_with fail;go_region_with(go_at_call 116;(first|(with_reducible refine ag (U _) ?_)|(with_reducible refine ag (V _) ?_));rintro e wn ⟨rfl,N⟩;have f:Hid (Gr wc wn):=(by first|exact((Gr.refl wc).drew).trans N|exact Gr.trans (Hid.out (by assumption)) N);clear N;have m0:=(g.out.1.gr f.out).c0;have m1:=(g.out.1.gr f.out).c1;have m2:=(g.out.1.gr f.out).c2;have m3:=(g.out.1.gr f.out).c3;have n0:=(g.out.2.1.gr f.out).c0;have n1:=(g.out.2.1.gr f.out).c1;have n2:=(g.out.2.1.gr f.out).c2;have n3:=(g.out.2.1.gr f.out).c3;have o0:=(g.out.2.2.2.1.gr f.out).c0;have o1:=(g.out.2.2.2.1.gr f.out).c1;have o2:=(g.out.2.2.2.1.gr f.out).c2;have o3:=(g.out.2.2.2.1.gr f.out).c3;have p0:=(g.out.2.2.1.gr f.out).c0;have p1:=(g.out.2.2.1.gr f.out).c1;have p2:=(g.out.2.2.1.gr f.out).c2;have p3:=(g.out.2.2.1.gr f.out).c3;have f0:=(g.out.2.2.1.gr f.out).fz 0;have f1:=(g.out.2.2.1.gr f.out).fz 1;have f2:=(g.out.2.2.1.gr f.out).fz 2;have f3:=(g.out.2.2.1.gr f.out).fz 3);all_goals go_wp2_with fail;refine bodyPost_ret (results_cell_row rfl _ _ (S+1+1) _ _ _ _ rfl ((g.2.2.1.gr f).set _ _ _ _) underlying93 rfl pt) rfl ?_;exact⟨rfl,(g.2.2.2.2.trans f).set4 (by rw[HS.out];omega) _ _ _ _⟩
end
def part(c:zzd)(y a q i:Nat)(x:Nat->Ce):Nat->Nat->Ce:=λy' x'=>if y'=y/\a<=x'/\x'<a+i then x x' else cut c y a q y' x'
theorem so c y a q x:part c y a q 0 x=cut c y a q:=by grind[part]
def ph c y a q i x:dQ (part c y a q i x) y (a+i) (x (a+i))=part c y a q (i+1) x:=by grind[part,dQ,cut]
def mQ c y a q x(h:a<=q):part c y a q (q+1-a) x=fill c a (q+1) y (y+1) x:=by
 funext f g;unfold part fill;by_cases hy:f=y
 .subst hy;rw[if_pos (c:=f<=f/\f<f+1) dg];unfold span;by_cases i:a<=g/\g<q+1;.grind
  .rw[if_neg dg,if_neg i];unfold cut yg;grind[fj,Be]
 .rw[if_neg (λk=>hy k.1),if_neg dg];simp_all[cut,yg,fj]
def R5(T:TypeId)(Q:AT)(b:Nat)(e:Ce):Prop:=Q.heap[b]?=some (.cells #[.string e.t,Iq e.f,Iq e.g,Iq e.b,Iq e.p] T (0,0))
section
variable{T:TypeId} {Q Q':AT} {b k:Nat} {e:Ce}
def R5.lt(h:R5 T Q b e):b<Q.heap.size:=(aj.1 h).1
def R5.c0(h:R5 T Q b e):Q.cell? (aq b 0)=some (.string e.t):=by unfold R5 at h;simp[World.cell?,h]
def R5.c1(h:R5 T Q b e):Q.cell? (aq b 1)=some (Iq e.f):=by unfold R5 at h;simp[World.cell?,h]
def R5.c2(h:R5 T Q b e):Q.cell? (aq b 2)=some (Iq e.g):=by unfold R5 at h;simp[World.cell?,h]
def R5.c3(h:R5 T Q b e):Q.cell? (aq b 3)=some (Iq e.b):=by unfold R5 at h;simp[World.cell?,h]
def R5.c4(h:R5 T Q b e):Q.cell? (aq b 4)=some (Iq e.p):=by unfold R5 at h;simp[World.cell?,h]
def R5.gr(h:R5 T Q b e)(g:Gr Q Q'):R5 T Q' b e:=(g.block h.lt).trans h
def R5.ch(h:R5 T Q b e)(g:bM k Q Q')(f:b≠k):R5 T Q' b e:=(g.block b h.lt f).trans h
def R5.new(Q:AT)e T:R5 T (Q.alloc (.cells #[.string e.t,Iq e.f,Iq e.g,Iq e.b,Iq e.p] T)) Q.heap.size e:=heap_alloc_new _ _
end
def bM.set5{M f g i j m}{W W'}(h:bM M W W')n v1 v2 p q:bM M W (((((W'.setCell (aq M f) n).setCell (aq M g) v1).setCell (aq M i) v2).setCell (aq M j) p).setCell (aq M m) q):=
 ((((h.set (.inl rfl) _ _).set (.inl rfl) _ _).set (.inl rfl) _ _).set (.inl rfl) _ _).set (.inl rfl) _ _
def R4.ch{T}{Q Q'}{b k}{x y a c}(h:R4 T Q b x y a c)(g:bM k Q Q')(f:b≠k):R4 T Q' b x y a c:=(g.block b h.lt f).trans h
section
variable{K M cap W H:Nat} {c:zzd}
def nL w(h:CS 196 46 w K M cap W H c)(g:1<=W/\W<=400)(f:H<=400)(j:PAll W H c)(y a z:Int)(hy:0<=y/\y<H)(i:0<=a/\a<z)(m:z<=W):Cw 172 #[Pq K,Iq y,Iq a,Iq z] w λe w'=>e=Rw (.slice (some (aq M (y.toNat*W*5+a.toNat*5))) (z-a).toNat (z-a).toNat)/\Cv 46 w' M W H (cut c y.toNat a.toNat (z.toNat-1))/\bM M w w':=by obtain⟨Y,rfl⟩:=db hy.1;obtain⟨A,rfl⟩:=db i.1;obtain⟨Q,rfl⟩:∃Q:Nat,z=(Q:Int)+1:=⟨(z-1).toNat,dg⟩;have:=xn w h dg g.2 f Y A Q dg dg dg (j Y dg);grind
def rI(w:AT)(h:CS 196 46 w K M cap W H c)(hW:1<=W/\W<=400)(hH:1<=H/\H<=400)(hp:PAll W H c)(x y a b f g D O R L N:Int)(l t u v:Int)(hq:dp W H x y a b O R L N=(l,t,u,v)):
 Cw 98 #[Pq K,rv x y a b,sv f g D,rv O R L N] w λe w'=>e=Rw (.tuple #[])/\Cv 46 w' M W H (fill c l.toNat (l+u).toNat t.toNat (t+v).toNat (λ_=>bk (kn f) (kn g) (bo D)))/\bM M w w':=by
 have s:=eY (W:=W) (H:=H) dg dg x y a b O R L N;have SN:Hid (∀w0,CS 196 46 w0 K M cap W H c->Cw 170 #[Pq K,rv x y a b,rv O R L N] w0 λe w'=>e=Rw (rv l t u v)/\Gr w0 w'):=λw0 h0=>by have:=xg w0 h0 x y a b O R L N;grind
 rw[hq]at s;have CN:Hid (∀f g b w,Cw 171 #[sv f g b] w λe w'=>e=Rw (sv (kn f) (kn g) (bo b))/\Gr w w'):=pf;have BL:Hid (∀f g b w,Cw 96 #[sv f g b] w λe w'=>e=Rw (Ba (bk f g b))/\Gr w w'):=kR;have J:Hid (CS 196 46 w K M cap W H c):=h;have HP:Hid (PAll W H c):=hp;clear h hp hq;obtain⟨e,he⟩:=af (bk (kn f) (kn g) (bo D));have I:=BL (kn f) (kn g) (bo D);rw[he]at I|-;have HE:Hid (e.p=0):=by rw[<-he];rfl
 clear he BL;have C1:=CN f g D;obtain⟨kf,X⟩:=af (kn f);obtain⟨kg,Y⟩:=af (kn g);obtain⟨kb,V⟩:=af (bo D);rw[X,Y,V]at I C1;clear X Y V CN;unfold rv at SN;unfold rv sv;unfold sv Ba at I;unfold sv at C1;have l0:=s.l0;have t0:=s.t0;have u0:=s.u0;have v0:=s.v0;have lu:=s.lu;have tv:=s.tv;have HS:Hid (0<u↔0<v):=s.uv;clear s;go_enter func98,ntmps98;go_wp2_with fail;refine ag (SN _ (J.gr ((((Gr.refl w).alloc _).alloc _).alloc _))) ?_;rintro e1 G ⟨rfl,g1⟩;have G1:Hid (Gr w G):=((((Gr.refl w).alloc _).alloc _).alloc _).trans g1;have RS:Hid (R3 44 G (w.heap.size+1) f g D):=by have:=R3.new (w.alloc (.cells #[Iq x,Iq y,Iq a,Iq b] 93)) f g D 44;simp only[ai]at this;exact(this.gr ((Gr.refl _).alloc _)).gr g1
 clear g1 SN;have s0:=RS.c0;have s1:=RS.c1;have s2:=RS.c2;have sl:=RS.lt;go_wp2_with fail;refine ag (C1 _) ?_;rintro e2 w2 ⟨rfl,g2⟩;have RR:Hid (R4 93 w2 G.heap.size l t u v):=(R4.new G _ _ _ _ _).gr g2;have G2:Hid (Gr w w2):=(G1.alloc _).trans g2;have Z1:Hid (w.heap.size<=G.heap.size):=G1.size;obtain⟨Z,hZ⟩:=af G.heap.size;rw[hZ]at RR Z1;rw[hZ];clear hZ g2 s0 s1 s2 sl RS C1 G1;go_wp2_with fail;refine ag (I _) ?_;rintro e3 w3 ⟨rfl,g3⟩;have R2:Hid (R4 93 w3 Z l t u v):=RR.gr g3;have G3:Hid (Gr w w3):=G2.trans g3;clear g3 I RR G2;obtain⟨W4,A⟩:=af (w3.alloc (.cells #[.string e.t,Iq e.f,Iq e.g,Iq e.b,Iq e.p] 46));have m:Hid (R4 93 W4 Z l t u v):=by rw[<-A];exact R2.gr ((Gr.refl _).alloc _)
 have G4:Hid (Gr w W4):=by rw[<-A];exact G3.alloc _
 have P4:Hid (R5 46 W4 w3.heap.size e):=by rw[<-A];exact R5.new w3 e _
 have Z2:Hid (w.heap.size<=w3.heap.size):=G3.size;obtain⟨P,hP⟩:=af w3.heap.size;rw[hP]at P4 Z2;have HM:Hid (M<w.heap.size):=J.cv.lt;have ZM:Hid (Z≠M):=(λq=>by have:=HM.out;have:=Z1.out;omega:Z≠M);have PM:Hid (P≠M):=(λq=>by have:=HM.out;have:=Z2.out;omega:P≠M);have KM:Hid (K≠M):=J.ne;have x0:=m.c0;have x1:=m.c1;have x2:=m.c2;have x3:=m.c3;go_wp2_with fail;clear hP A R2 G3;go_loopw[10] (λyv wr=>∃k:Int,t<=k/\k<=t+v/\yv=Iq k/\Hid (Cv 46 wr M W H (fill c l.toNat (l+u).toNat t.toNat k.toNat (λ_=>e))/\bM M w wr/\R4 93 wr Z l t u v/\R5 46 wr P e)) (λyv _=>(t+v-intOf yv).toNat);.exact⟨t,dg,dg,rfl,by rw[DI dg];exact J.cv.gr G4,bM.gr G4,m,P4⟩
 obtain⟨k,zj,zk,rfl,n⟩:=hrel;clear x0 x1 x2 x3 m P4 G4;have x0:=n.2.2.1.c0;have x1:=n.2.2.1.c1;have x2:=n.2.2.1.c2;have x3:=n.2.2.1.c3;by_cases zm:k<t+v
 .have hv:0<v:=dg;have hu:=HS.2 hv;obtain⟨U,hU⟩:∃U:Nat,(U:Int)=u:=⟨u.toNat,dg⟩;have ST:Hid (Cw 172 #[Pq K,Iq k,Iq l,Iq (l+u)] wr λe' w'=>e'=Rw (.slice (some (aq M (k.toNat*W*5+l.toNat*5))) U U)/\Cv 46 w' M W H (cut (fill c l.toNat (l+u).toNat t.toNat k.toNat (λ_=>e)) k.toNat l.toNat ((l+u).toNat-1))/\bM M wr w'):=by have:=nL wr (J.put n.2.1 n.1) hW hH.2 (HP.fill0 dg (λ_=>HE)) k l (l+u) dg dg lu;rw[show(l+u-l).toNat=U by omega]at this;exact this
  obtain⟨o,ho⟩:=af (k.toNat*W*5+l.toNat*5);have HO:Hid (k.toNat*W*5+l.toNat*5=o):=ho;rw[ho]at ST;clear ho;have zh:U<=400:=dg;have HU:Hid ((U:Int)=u):=hU;clear hU;have HQ:Hid ((l+u).toNat-1+1-l.toNat=U/\(l+u).toNat-1+1=(l+u).toNat/\l.toNat<=(l+u).toNat-1):=⟨by have:=HU.out;omega,dg,dg⟩;go_wp2_with(go_at_call 172;refine ag ST ?_;rintro e4 E ⟨rfl,V4,C4⟩;have zg:Hid (Cv 46 E M W H (part (fill c l.toNat (l+u).toNat t.toNat k.toNat (λ_=>e)) k.toNat l.toNat ((l+u).toNat-1) 0 (λ_=>e))/\bM M w E/\R4 93 E Z l t u v/\R5 46 E P e):=(⟨(by grind[so]),n.2.1.trans C4,n.2.2.1.ch C4 ZM,n.2.2.2.ch C4 PM⟩:Cv 46 E M W H (part (fill c l.toNat (l+u).toNat t.toNat k.toNat (λ_=>e)) k.toNat l.toNat ((l+u).toNat-1) 0 (λ_=>e))/\bM M w E/\R4 93 E Z l t u v/\R5 46 E P e);clear V4 C4);go_loopw[43] (λiv wi=>∃i:Nat,i<=U/\iv=Iq i/\Hid (Cv 46 wi M W H (part (fill c l.toNat (l+u).toNat t.toNat k.toNat (λ_=>e)) k.toNat l.toNat ((l+u).toNat-1) i (λ_=>e))/\bM M w wi/\R4 93 wi Z l t u v/\R5 46 wi P e)) (λiv _=>U-(intOf iv).toNat);.grind
  obtain⟨i,hi,rfl,j⟩:=hrel;by_cases zi:i<U
  .have F:l.toNat+i<W:=by have:=HU.out;omega
   have hy:k.toNat<H:=dg;have d0:=j.1.c0 hy F;have d1:=j.1.c1 hy F;have d2:=j.1.c2 hy F;have d3:=j.1.c3 hy F;have d4:=j.1.c4 hy F;have eo:k.toNat*W*5+(l.toNat+i)*5=o+i*5:=by rw[<-HO.out];omega
   rw[eo]at d0 d1 d2 d3 d4;have EO:Hid (k.toNat*W*5+(l.toNat+i)*5=o+i*5):=eo;clear eo;have fz:=j.1.fz;have p0:=j.2.2.2.c0;have p1:=j.2.2.2.c1;have p2:=j.2.2.2.c2;have p3:=j.2.2.2.c3;have p4:=j.2.2.2.c4;have S:(i:Int)<(U:Int):=dg;go_wp2;go_roundw;.have VS:=j.1.set hy F e;rw[EO.out,ph _ _ _ _ _ (λ_=>e)]at VS;exact⟨i+1,dg,by go_num,VS,j.2.1.set5 _ _ _ _ _,j.2.2.1.ch ((bM.refl M _).set5 _ _ _ _ _) ZM,j.2.2.2.ch ((bM.refl M _).set5 _ _ _ _ _) PM⟩
   .simp[intOf];omega
  .have S:¬(i:Int)<(U:Int):=dg;have ze:i=U:=dg;have VD:Hid (Cv 46 wr M W H (fill c l.toNat (l+u).toNat t.toNat (k+1).toNat (λ_=>e))):=by have:=j.1;rw[ze,<-HQ.1,mQ _ _ _ _ _ HQ.2.2,HQ.2.1,DH dg,show k.toNat+1=(k+1).toNat by omega]at this;exact this
   go_wp2;go_roundw;.exact⟨k+1,dg,dg,by go_num,VD,j.2⟩
   .simp[intOf];omega
 .have zl:k=t+v:=dg;go_wp2;go_end0;exact⟨rfl,by have:=n.1;grind,n.2.1⟩
end
def OJ(l:Nat)(wd:Int)(cW:BY)(f g b:Int):Nat->Ce:=λj=>if wd=2 then(if j=l then⟨cW,f,g,b,1⟩else⟨OE,f,g,b,2⟩)else⟨cW,f,g,b,0⟩
def putX(l u wd:Int)(cW:BY)(f g b:Int):Nat->Ce:=if u<wd then λ_=>bk (kn f) (kn g) (bo b)else OJ l.toNat wd cW (kn f) (kn g) (bo b)
def ME(c:zzd)(wd:Int)(cW:BY)(f g b:Int)(q:Int×Int×Int×Int):Nat->Nat->Ce:=
 if wd=1\/wd=2 then fill c q.1.toNat (q.1+q.2.2.1).toNat q.2.1.toNat (q.2.1+q.2.2.2).toNat (putX q.1 q.2.2.1 wd cW f g b)else c
def mT(W H:Nat)(c:zzd)(x y:Int)(cW:BY)(wd:Int)(f g b cx cy ca cb:Int):Nat->Nat->Ce:=ME c wd cW f g b (dp W H x y wd 1 cx cy ca cb)
def oj(W H:Nat)(c:zzd)(x y a b f g bd cx cy ca cb:Int):Nat->Nat->Ce:=
 fill c (dp W H x y a b cx cy ca cb).1.toNat ((dp W H x y a b cx cy ca cb).1+(dp W H x y a b cx cy ca cb).2.2.1).toNat (dp W H x y a b cx cy ca cb).2.1.toNat ((dp W H x y a b cx cy ca cb).2.1+(dp W H x y a b cx cy ca cb).2.2.2).toNat (λ_=>bk (kn f) (kn g) (bo bd))
def Df.whole{W H x y wd i j f g l t u v}(h:Df W H x y wd 1 i j f g l t u v)(A:wd=1\/wd=2)(hu:wd<=u)(s:W<=400)(q:H<=400):l=x/\t=y/\u=wd/\v=1:=by have D:=h.l0;have t0:=h.t0;have E:=h.lu;have F:=h.tv;have G:=h.uv;have n:=(h.mem l t).1 dg;have p:=(h.mem (l+u-1) (t+v-1)).1 dg;have e:aG wd=wd:=jP dg;have m:aG 1=1:=rfl;rw[e,m]at n p;grind[bQ,aH]
def Df.most{W H x y wd i j f g l t u v}(h:Df W H x y wd 1 i j f g l t u v)(p:wd=1\/wd=2):u<=wd:=by
 by_cases hu:0<u;.have q:=h.uv;have m:=(h.mem l t).1 dg;have n:=(h.mem (l+u-1) (t+v-1)).1 dg;have e:aG wd=wd:=jP dg;rw[e]at m n;omega
 .omega
def PAll.putX{W H}{c}(h:PAll W H c)(J:1<=W/\W<=400)(I:1<=H/\H<=400)x y cW wd f g b p s m n:PAll W H (mT W H c x y cW wd f g b p s m n):=by
 have i:=eY (W:=W) (H:=H) dg dg x y wd 1 p s m n;unfold mT ME;obtain⟨q,A⟩:=af (dp W H x y wd 1 p s m n);rw[A]at i|-;obtain⟨l,t,u,v⟩:=q;simp only at i|-;have N:=i.lu;have L:=i.l0;have u0:=i.u0;split
 .rename_i hw;unfold Go.Proofs.YtehgehanbnkdiaaGreatDoor.putX;by_cases hu:u<wd;.rw[if_pos hu];exact h.fill0 dg (λ_=>rfl)
  .rw[if_neg hu];obtain⟨D,E,F,G⟩:=i.whole hw dg dg dg;rcases hw with hw|hw;.refine h.fill0 dg (λj=>?_);unfold OJ;rw[if_neg dg]
   .rw[show(l+u).toNat=l.toNat+2 by omega];refine h.fill2 dg ?_ ?_ ?_ ?_ ?_ ?_<;>(unfold OJ;simp[hw])
 .exact h
def PAll.filX{W H}{c}(h:PAll W H c)(v:1<=W/\W<=400)(s:1<=H/\H<=400)x y a b f g q n p j m:PAll W H (oj W H c x y a b f g q n p j m):=by have i:=eY (W:=W) (H:=H) dg dg x y a b n p j m;unfold oj;exact h.fill0 (by have:=i.lu;have:=i.l0;omega) (λ_=>rfl)
def lz(T:TypeId)(Q:AT)(b:Nat)(cW:BY)(wd:Int):Prop:=Q.heap[b]?=some (.cells #[.string cW,Iq wd] T (0,0))
section
variable{T:TypeId} {Q Q':AT} {b k:Nat} {cW:BY} {wd:Int}
def lz.lt(h:lz T Q b cW wd):b<Q.heap.size:=(aj.1 h).1
def lz.c0(h:lz T Q b cW wd):Q.cell? (aq b 0)=some (.string cW):=by unfold lz at h;simp[World.cell?,h]
def lz.c1(h:lz T Q b cW wd):Q.cell? (aq b 1)=some (Iq wd):=by unfold lz at h;simp[World.cell?,h]
def lz.gr(h:lz T Q b cW wd)(g:Gr Q Q'):lz T Q' b cW wd:=(g.block h.lt).trans h
def lz.ch(h:lz T Q b cW wd)(g:bM k Q Q')(f:b≠k):lz T Q' b cW wd:=(g.block b h.lt f).trans h
def lz.other(h:lz T Q b cW wd)(f:b≠k)o v:lz T (Q.setCell (aq k o) v) b cW wd:=(aM Q (aq k o) v b f).trans h
def lz.new(Q:AT)cW wd T:lz T (Q.alloc (.cells #[.string cW,Iq wd] T)) Q.heap.size cW wd:=heap_alloc_new _ _
end
def R3.ch{T}{Q Q'}{b k}{x y a}(h:R3 T Q b x y a)(g:bM k Q Q')(f:b≠k):R3 T Q' b x y a:=(g.block b h.lt f).trans h
theorem MG c Y X j i cW g h f:
 dQ (dQ (dQ (cut c Y X (X+1)) Y X ⟨cW,g,h,f,0⟩) Y X {dQ (cut c Y X (X+1)) Y X ⟨cW,g,h,f,0⟩ Y X with p:=1}) Y (X+1) ⟨OE,g,h,f,2⟩ j i=part c Y X (X+1) (X+1+1-X) (OJ X 2 cW g h f) j i:=by grind[dQ,cut,part,OJ,OE]
def Tj a b c d W:Sem.run prog (Instr.field 93 (Value.agg #[a,b,c,d]) 2) W=Result.ok c W:=by unfold Instr.field;simp[go_sem];rfl
section
variable{K M cap W H:Nat} {c:zzd}
def MF(w:AT)(h:CS 196 46 w K M cap W H c)(hW:1<=W/\W<=400)(hH:1<=H/\H<=400)(hp:PAll W H c)(x y:Int)(cW:BY)(wd f g b G I E F:Int):
 Calls prog 237 #[Pq K,Iq x,Iq y,.agg #[.string cW,Iq wd],sv f g b,rv G I E F] w λe w'=>e=.returned (.tuple #[])/\Cv 46 w' M W H (mT W H c x y cW wd f g b G I E F)/\bM M w w':=by
 have SF:=eY (W:=W) (H:=H) dg dg x y wd 1 G I E F;unfold mT;obtain⟨q,hq⟩:=af (dp W H x y wd 1 G I E F);have SN:Hid (∀O,CS 196 46 O K M cap W H c->Calls prog 170 #[Pq K,rv x y wd 1,rv G I E F] O λe w'=>e=.returned (rv q.1 q.2.1 q.2.2.1 q.2.2.2)/\Gr O w'):=λO h0=>by have:=xg O h0 x y wd 1 G I E F;grind
 rw[hq]at SF|-;obtain⟨l,t,u,v⟩:=q;have FL:Hid (∀O,CS 196 46 O K M cap W H c->Calls prog 98 #[Pq K,rv x y wd 1,sv f g b,rv G I E F] O λe w'=>e=.returned (.tuple #[])/\Cv 46 w' M W H (fill c l.toNat (l+u).toNat t.toNat (t+v).toNat (λ_=>bk (kn f) (kn g) (bo b)))/\bM M O w'):=λO h0=>rI O h0 hW hH hp x y wd 1 f g b G I E F l t u v hq;simp only at SN SF;unfold ME;simp only;have CN:Hid (∀f g b w,Calls prog 171 #[sv f g b] w λe w'=>e=.returned (sv (kn f) (kn g) (bo b))/\Gr w w'):=pf;have HC:Hid (CS 196 46 w K M cap W H c):=h;have HP:Hid (PAll W H c):=hp;have HF:Hid (Df W H x y wd 1 G I E F l t u v):=SF;clear h hp hq SF;unfold rv at SN FL;unfold rv sv;unfold sv at CN FL;have C1:=CN f g b;obtain⟨S,hS⟩:=af w.heap.size;have HS:Hid (w.heap.size=S):=hS;by_cases h1:wd=1\/wd=2
 .have HI:Hid ((if wd=1\/wd=2 then fill c l.toNat (l+u).toNat t.toNat (t+v).toNat (putX l u wd cW f g b)else c)=fill c l.toNat (l+u).toNat t.toNat (t+v).toNat (putX l u wd cW f g b)):=if_pos h1;rw[HI.out];clear HI;have H1:=qH h1;obtain⟨n,N,hn⟩:∃n:Nat,(Hid (wd=1/\n=1)/\(wd !=1)=false\/Hid (wd=2/\n=2)/\(wd !=1)=true/\(wd !=2)=false)/\(n:Int)=wd:=by
   rcases h1 with rfl|rfl;.exact⟨1,.inl ⟨⟨rfl,rfl⟩,rfl⟩,rfl⟩
   .exact⟨2,.inr ⟨⟨rfl,rfl⟩,rfl,rfl⟩,rfl⟩
  have zv:1<=wd/\wd<=2:=dg;clear h1;go_enter func237,ntmps237;rcases N with⟨N,n1⟩|⟨N,n1,n2⟩;all_goals
   go_wp2_with fail;obtain⟨V,Z⟩:=af ((((w.alloc (.cells #[.string cW,Iq wd] 337)).alloc (.cells #[Iq f,Iq g,Iq b] 44)).alloc (.cells #[Iq G,Iq I,Iq E,Iq F] 93)).alloc (.cells #[Iq x,Iq y,Iq wd,Iq 1] 93));have G0:Hid (Gr w V):=by rw[<-Z];exact((((Gr.refl w).alloc _).alloc _).alloc _).alloc _
   have A:Hid (lz 337 V S cW wd/\R3 44 V (S+1) f g b/\R4 93 V (S+1+1) G I E F/\R4 93 V (S+1+1+1) x y wd 1):=by
    rw[<-Z,<-hS];refine⟨(lz.new w _ _ _).gr ((((Gr.refl _).alloc _).alloc _).alloc _),?_,?_,?_⟩;.have:=R3.new (w.alloc (.cells #[.string cW,Iq wd] 337)) f g b 44;simp only[ai]at this;exact this.gr (((Gr.refl _).alloc _).alloc _)
    .have:=R4.new ((w.alloc (.cells #[.string cW,Iq wd] 337)).alloc (.cells #[Iq f,Iq g,Iq b] 44)) G I E F 93;simp only[ai]at this;exact this.gr ((Gr.refl _).alloc _)
    .have:=R4.new (((w.alloc (.cells #[.string cW,Iq wd] 337)).alloc (.cells #[Iq f,Iq g,Iq b] 44)).alloc (.cells #[Iq G,Iq I,Iq E,Iq F] 93)) x y wd 1 93;simp_all
   rw[Z];clear Z hS;have q0:=A.1.c0;have q1:=A.1.c1;have r0:=A.2.2.1.c0;have r1:=A.2.2.1.c1;have r2:=A.2.2.1.c2;have r3:=A.2.2.1.c3;have m0:=A.2.2.2.c0;have m1:=A.2.2.2.c1;have m2:=A.2.2.2.c2;have m3:=A.2.2.2.c3;have zk:=Tj (Iq l) (Iq t) (Iq u) (Iq v);by_cases hu:u<wd
   .have HX:Hid (putX l u wd cW f g b=λ_=>bk (kn f) (kn g) (bo b)):=if_pos hu;go_cut[34]from 22 to 33 (λs P=>s=.bool true/\Hid (lz 337 P S cW wd/\R3 44 P (S+1) f g b/\R4 93 P (S+1+1) G I E F/\R4 93 P (S+1+1+1) x y wd 1/\Gr w P));.go_region_with(go_at_call 170;refine ag (SN _ (HC.gr (by first|exact G0.drew|exact G0))) ?_;rintro e1 w1 ⟨rfl,L⟩;have J:Hid (Gr V w1):=(by first|exact((Gr.refl V).drew).trans L|exact L);clear L;have o1:=(A.1.gr J).c1);all_goals go_wp2_with fail;go_meet;exact⟨rfl,A.1.gr J,A.2.1.gr J,A.2.2.1.gr J,A.2.2.2.gr J,G0.trans J⟩
    obtain⟨rfl,m⟩:=hcut;clear q0 q1 r0 r1 r2 r3 m0 m1 m2 m3 zk;have s0:=m.2.1.c0;have s1:=m.2.1.c1;have s2:=m.2.1.c2;have r0:=m.2.2.1.c0;have r1:=m.2.2.1.c1;have r2:=m.2.2.1.c2;have r3:=m.2.2.1.c3;have m0:=m.2.2.2.1.c0;have m1:=m.2.2.2.1.c1;have m2:=m.2.2.2.1.c2;have m3:=m.2.2.2.1.c3;go_wp2_with(go_at_call 98;refine ag (FL _ (HC.gr m.2.2.2.2)) ?_;rintro e2 w2 ⟨rfl,V2,C2⟩;have zj:Hid (Cv 46 w2 M W H (fill c l.toNat (l+u).toNat t.toNat (t+v).toNat (λ_=>bk (kn f) (kn g) (bo b)))/\bM M w w2):=(⟨V2,(bM.gr m.2.2.2.2).trans C2⟩:_/\_);clear V2 C2);refine bodyPost_ret (results_none rfl _ _ _) rfl ?_;exact⟨rfl,by rw[HX.out];exact zj.1,zj.2⟩
   have HX:Hid (putX l u wd cW f g b=OJ l.toNat wd cW (kn f) (kn g) (bo b)):=if_neg hu;have WH:=HF.whole H1.out (show wd<=u by omega) dg dg;have zn:=HF.lu;have zm:=HF.l0;have zq:=HF.tv;have zo:=HF.t0;have hx:0<=x/\x+wd<=W:=dg;have hy:0<=y/\y<H:=dg;have HW:Hid (l=x/\t=y/\u=wd/\v=1):=WH;clear WH zn zm zq zo;go_cut[34]from 22 to 33 (λs P=>s=.bool false/\Hid (lz 337 P S cW wd/\R3 44 P (S+1) f g b/\R4 93 P (S+1+1) G I E F/\R4 93 P (S+1+1+1) x y wd 1/\Gr w P));.have zu:=hu;go_region_with(go_at_call 170;refine ag (SN _ (HC.gr (by first|exact G0.drew|exact G0))) ?_;rintro e1 w1 ⟨rfl,L⟩;have J:Hid (Gr V w1):=(by first|exact((Gr.refl V).drew).trans L|exact L);clear L;have o1:=(A.1.gr J).c1);all_goals go_wp2_with fail;go_meet;exact⟨congrArg Value.bool (decide_eq_false dg),A.1.gr J,A.2.1.gr J,A.2.2.1.gr J,A.2.2.2.gr J,G0.trans J⟩
   obtain⟨rfl,m⟩:=hcut;clear q0 q1 r0 r1 r2 r3 m0 m1 m2 m3 zk;have s0:=m.2.1.c0;have s1:=m.2.1.c1;have s2:=m.2.1.c2;go_wp2_with fail;refine ag (C1 _) ?_;rintro e1 w1 ⟨rfl,L⟩;have R:Hid (lz 337 w1 S cW wd/\R3 44 w1 (S+1) f g b/\Gr w w1):=⟨m.1.gr L,m.2.1.gr L,m.2.2.2.2.trans L⟩;clear L s0 s1 s2 m C1;obtain⟨kf,zh⟩:=af (kn f);obtain⟨kg,zi⟩:=af (kn g);obtain⟨kb,zg⟩:=af (bo b);rw[zh,zi,zg]at HX;rw[zh,zi,zg];clear zh zi zg;obtain⟨w2,zl⟩:=af (((w1.setCell ⟨S+1,0,none⟩ (Iq kf)).setCell ⟨S+1,1,none⟩ (Iq kg)).setCell ⟨S+1,2,none⟩ (Iq kb));have R2:Hid (lz 337 w2 S cW wd/\R3 44 w2 (S+1) kf kg kb/\Gr w w2):=by rw[<-zl];exact⟨((R.1.other dg _ _).other dg _ _).other dg _ _,R.2.1.set _ _ _,R.2.2.set3 (by rw[HS.out];omega) _ _ _⟩
   have s0:=R.2.1.c0;have s1:=R.2.1.c1;have s2:=R.2.1.c2;have z0:=R.2.1.fz 0;have z1:=R.2.1.fz 1;have z2:=R.2.1.fz 2;have q1:=R2.1.c1;go_wp2_with fail;refine ag (nL w2 (HC.gr R2.2.2) hW hH.2 HP y x (x+wd) hy dg hx.2) ?_;rintro e3 w3 ⟨rfl,V3,C3⟩;have HM:Hid (M<S):=(by rw[<-HS.out];exact HC.cv.lt:M<S);have p:Hid (lz 337 w3 S cW wd/\R3 44 w3 (S+1) kf kg kb/\bM M w w3):=⟨R2.1.ch C3 (by have:=HM.out;omega),R2.2.1.ch C3 (by have:=HM.out;omega),(bM.gr R2.2.2).trans C3⟩;obtain⟨X,hX⟩:=af x.toNat;obtain⟨Y,hY⟩:=af y.toNat;rw[hX,hY]at V3;rw[hX,hY];have D:Hid (Cv 46 w3 M W H (cut c Y X (X+n-1))):=by rw[show(x+wd).toNat-1=X+n-1 by omega]at V3;exact V3
   have U:Hid (x.toNat=X/\y.toNat=Y):=⟨hX,hY⟩;have zt:X+n<=W:=dg;have i:Y<H:=dg;rw[show(x+wd-x).toNat=n by omega];clear hX hY V3 C3 s0 s1 s2 z0 z1 z2 q1 zl R R2;obtain⟨o,ho⟩:=af (Y*W*5+X*5);have HO:Hid (Y*W*5+X*5=o):=ho;have d0:=D.c0 i (show X<W by omega);have d1:=D.c1 i (show X<W by omega);have d2:=D.c2 i (show X<W by omega);have d3:=D.c3 i (show X<W by omega);have d4:=D.c4 i (show X<W by omega);rw[ho]at d0 d1 d2 d3 d4;rw[ho];clear ho;have fz:=D.fz;have q0:=p.1.c0;have q1:=p.1.c1;have s0:=p.2.1.c0;have s1:=p.2.1.c1;have s2:=p.2.1.c2;have sm:¬S=M:=by have:=HM.out;omega
   have zr:¬S+1=M:=by have:=HM.out;omega
   try dsimp only[Pq,Sq,aq]at d0 d1 d2 d3 d4 fz q0 q1 s0 s1 s2|-
  .obtain⟨rfl,rfl⟩:=N.out;go_wp2;go_end0;refine⟨rfl,?_,p.2.2.set5 _ _ _ _ _⟩;have VS:=D.set i (show X<W by omega) ⟨cW,kf,kg,kb,0⟩;rw[HO.out]at VS;refine VS.same ?_;intro y' x' _ _;rw[HX.out,HW.1,HW.2.1,HW.2.2.1,HW.2.2.2,show(x+1).toNat=x.toNat+1 by omega,show(y+1).toNat=y.toNat+1 by omega,U.1,U.2,<-mQ c Y X X _ LE,show X+1-X=0+1 by omega,<-ph,so];rfl
  .obtain⟨rfl,rfl⟩:=N.out;go_upto_if 58 with fail;obtain⟨w4,ze⟩:=af (((((w3.setCell ⟨M,o,none⟩ (.string cW)).setCell ⟨M,o+1,none⟩ (Iq kf)).setCell ⟨M,o+2,none⟩ (Iq kg)).setCell ⟨M,o+3,none⟩ (Iq kb)).setCell ⟨M,o+4,none⟩ (Iq 0));have j:Hid (lz 337 w4 S cW 2/\R3 44 w4 (S+1) kf kg kb/\bM M w w4/\Cv 46 w4 M W H (dQ (cut c Y X (X+1)) Y X ⟨cW,kf,kg,kb,0⟩)):=by
    have VS:=D.set i (show X<W by omega) ⟨cW,kf,kg,kb,0⟩;rw[HO.out,ze]at VS;have cc:bM M w3 w4:=by rw[<-ze];exact(bM.refl M w3).set5 _ _ _ _ _
    exact⟨p.1.ch cc sm,p.2.1.ch cc zr,p.2.2.trans cc,VS⟩
   rw[ze];clear ze d0 d1 d2 d3 d4 fz q0 q1 s0 s1 s2 p D;have d4:=j.2.2.2.c4 i (show X<W by omega);rw[HO.out]at d4;have fz:=j.2.2.2.fz;have q1:=j.1.c1;have s0:=j.2.1.c0;have s1:=j.2.1.c1;have s2:=j.2.1.c2;have e0:=j.2.2.2.c0 i (show X+1<W by omega);have e1:=j.2.2.2.c1 i (show X+1<W by omega);have e2:=j.2.2.2.c2 i (show X+1<W by omega);have e3:=j.2.2.2.c3 i (show X+1<W by omega);have e4:=j.2.2.2.c4 i (show X+1<W by omega);have EO:Hid (Y*W*5+(X+1)*5=o+5):=(by rw[<-HO.out];omega:Y*W*5+(X+1)*5=o+5);rw[EO.out]at e0 e1 e2 e3 e4;go_wp2_with fail;go_end0;refine⟨rfl,?_,(j.2.2.1.set (.inl rfl) _ _).set5 _ _ _ _ _⟩;have VP:=j.2.2.2.setPart i (show X<W by omega) 1;rw[HO.out]at VP;have VS:=VP.set i (show X+1<W by omega) ⟨OE,kf,kg,kb,2⟩;rw[EO.out]at VS;refine VS.same ?_;intro y' x' _ _;rw[HX.out,HW.1,HW.2.1,HW.2.2.1,HW.2.2.2,show(x+2).toNat=x.toNat+1+1 by omega,show(y+1).toNat=y.toNat+1 by omega,U.1,U.2,<-mQ c Y X (X+1) _ dg];grind[MG]
 .have n1:(wd !=1)=true:=by simp;omega
  have n2:(wd !=2)=true:=by simp;omega
  have n3:¬wd=1:=dg;rw[if_neg h1];clear hS;go_enter func237,ntmps237;go_wp2;refine bodyPost_ret (results_none rfl _ _ _) rfl ?_;exact⟨rfl,HC.cv.gr ((((Gr.refl w).alloc _).alloc _).alloc _),bM.gr ((((Gr.refl w).alloc _).alloc _).alloc _)⟩
end
def R5.fz{T:TypeId}{Q:AT}{b:Nat}{e:Ce}(h:R5 T Q b e)(j:Nat):Q.frozen? (aq b j)=false:=frozen_of_row _ _ _ _ _ h
def R5.set{T:TypeId}{Q:AT}{b:Nat}{e:Ce}(h:R5 T Q b e)(i:Ce):R5 T (((((Q.setCell (aq b 0) (.string i.t)).setCell (aq b 1) (Iq i.f)).setCell (aq b 2) (Iq i.g)).setCell (aq b 3) (Iq i.b)).setCell (aq b 4) (Iq i.p)) b i:=by have j:R5 T (Q.setCell (aq b 0) (.string i.t)) b ⟨i.t,e.f,e.g,e.b,e.p⟩:=heap_setCell_same _ b 0 _ T _ h;have m:R5 T _ b ⟨i.t,i.f,e.g,e.b,e.p⟩:=heap_setCell_same _ b 1 _ T (Iq i.f) j;have n:R5 T _ b ⟨i.t,i.f,i.g,e.b,e.p⟩:=heap_setCell_same _ b 2 _ T (Iq i.g) m;have q:R5 T _ b ⟨i.t,i.f,i.g,i.b,e.p⟩:=heap_setCell_same _ b 3 _ T (Iq i.b) n;exact heap_setCell_same _ b 4 _ T (Iq i.p) q
def Gr.set5{Q Q':AT}{k m n p q s:Nat}(h:Gr Q Q')(f:Q.heap.size<=k)(g v1 v2 i j:Fd):Gr Q (((((Q'.setCell (aq k m) g).setCell (aq k n) v1).setCell (aq k p) v2).setCell (aq k q) i).setCell (aq k s) j):=((((h.set f g).set f v1).set f v2).set f i).set f j
def F7(e:Ce)(w:AT):Calls Tryz.prog 52 #[Ba e] w λr w'=>r=Rw (Ba e)/\Gr w w':=by
 have s:Hid (∀f g b w,Calls Tryz.prog 87 #[sv f g b] w λe w'=>e=Rw (sv f g b)/\Gr w w'):=Ir;obtain⟨t,f,g,b,p⟩:=e;unfold Ba;unfold sv at s;go_enter Tryz.func52,Tryz.ntmps52;go_wp2_with fail;obtain⟨S,hS⟩:=af w.heap.size;obtain⟨n,h⟩:=af ((w.alloc (.cells #[.string t,Iq f,Iq g,Iq b,Iq p] 119)).alloc (.cells #[.string ⟨#[]⟩,Iq 0,Iq 0,Iq 0,Iq 0] 46));have v:Hid (Gr w n):=by rw[<-h];exact((Gr.refl w).alloc _).alloc _
 have j:Hid (R5 119 n S ⟨t,f,g,b,p⟩):=by rw[<-h,<-hS];exact(R5.new w ⟨t,f,g,b,p⟩ _).gr ((Gr.refl _).alloc _)
 have m:Hid (R5 46 n (S+1) ⟨⟨#[]⟩,0,0,0,0⟩):=by have:=R5.new (w.alloc (.cells #[.string t,Iq f,Iq g,Iq b,Iq p] 119)) ⟨⟨#[]⟩,0,0,0,0⟩ 46;rw[ai,hS]at this;rw[<-h];exact this
 rw[h,hS];have A:Hid (w.heap.size=S):=hS;clear h hS;have I:=j.c0;have J:=j.c1;have L:=j.c2;have N:=j.c3;have O:=j.c4;go_region_with(go_at_call 87;refine ag (s _ _ _ _) ?_;rintro E D ⟨rfl,q⟩;have i:Hid (Gr n D):=(by first|exact((Gr.refl n).drew).trans q|exact q);clear q;have F:=(j.gr i).c0;have G:=(j.gr i).c4;have u0:=(m.gr i).c0;have u1:=(m.gr i).c1;have u2:=(m.gr i).c2;have u3:=(m.gr i).c3;have u4:=(m.gr i).c4;have P:=(m.gr i).fz);all_goals go_wp2;refine bodyPost_ret (results_cell_row rfl _ _ (S+1) _ _ _ _ rfl ((m.gr i).set ⟨t,f,g,b,p⟩) Tryz.underlying46 rfl pt) rfl ?_;exact⟨rfl,(v.trans i).set5 (by rw[A.out];omega) _ _ _ _ _⟩
def Ef{W H i:Nat}(hi:i<W*H):∃y x,y<H/\x<W/\i=y*W+x:=by
 have f:0<W:=by
  rcases Cp W with h|h;.subst h;simp at hi
  .exact h
 refine⟨i/W,i %W,?_,Cx _ f,?_⟩;.exact Cy hi
 .rw[eJ];exact(Cz i W).symm
def ez{U f}(g:Bq U f){a}{v}(h:U.cell? a=some v):f.cell? a=some v:=
 (aQ (g.block a.block (nR U a h))).trans h
def DZ(x y a b f g:Int)(w:AT):Cw 85 #[rv x y a b,Iq f,Iq g] w λe w'=>e=Rw (.bool (lJ x y a b f g))/\Gr w w':=by
 have E:Hid (∀x y a b w,Cw 129 #[rv x y a b] w λe w'=>e=Rw (rv (aH x) (aH y) (aG a) (aG b))/\Gr w w'):=clamped_gr;have n:Hid ((aH x<=f/\f<aH x+aG a/\aH y<=g/\g<aH y+aG b)->lJ x y a b f g=true):=rU;have m:Hid (¬(aH x<=f/\f<aH x+aG a/\aH y<=g/\g<aH y+aG b)->lJ x y a b f g=false):=vm;have G:=bQ x;have I:=bQ y;have J:=bB a;have L:=bB b;obtain⟨A,p⟩:=af (aH x);obtain⟨B,q⟩:=af (aH y);obtain⟨C,s⟩:=af (aG a);obtain⟨D,v⟩:=af (aG b);rw[p,q,s,v]at n m;rw[p]at G;rw[q]at I;rw[s]at J;rw[v]at L;unfold rv at E|-;go_enter func85,ntmps85;go_wp2_with(go_at_call 129;refine Ut (E _ _ _ _ _) ?_;rintro F i;have j:Hid (Gr w F):=((Gr.refl w).alloc _).trans i;have h:Hid (R4 93 F w.heap.size x y a b):=(R4.new w x y a b _).gr i;clear i;have N:=h.c0;have c1:=h.c1;have c2:=h.c2;have c3:=h.c3;have f0:=h.fz 0;have f1:=h.fz 1;have f2:=h.fz 2;have f3:=h.fz 3;rw[p,q,s,v];by_cases O:A<=f;by_cases P:f<A+C;by_cases R:B<=g;by_cases S:g<B+D);all_goals
  go_ret;first
   |exact⟨by rw[n dg];rfl,j.set4 LE _ _ _ _⟩
   |exact⟨by rw[m dg];rfl,j.set4 LE _ _ _ _⟩
   |exact⟨by rw[n dg];exact congrArg (λz=>Ending.returned (Value.bool z)) (decide_eq_true dg),j.set4 LE _ _ _ _⟩
   |exact⟨by rw[m dg];exact congrArg (λz=>Ending.returned (Value.bool z)) (decide_eq_false dg),j.set4 LE _ _ _ _⟩
