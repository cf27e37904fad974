import Derived.Test.YtadhgppeafpdgaaGreatDoorQ00
import Derived.Test.YtadhgppeafpdgaaGreatDoorProg
import Derived.WalkSpells
import Derived.WalkLawsBesides
import Derived.BigQuiet
import Derived.Deep.RegionWith
import Derived.Deep.RegionHeld
import Derived.Deep.CutRange
import Derived.Shelf.SlSortCmp.QuietGrown
set_option linter.all false
set_option maxRecDepth 100000
set_option maxHeartbeats 16000000
namespace Go.Proofs.YtadhgppeafpdgaaGreatDoor
open Go.RowKit Go.Sort Go.Proofs.Tryz
def bM(n:Int):Int:=min (max n (-100000)) 100000
def bD(n:Int):Int:=min (max n 0) 100000
def rv(x y w h:Int):Value:=.agg #[Iq x,Iq y,Iq w,Iq h]
theorem eO  n  :-100000<=bM n/\bM n<=100000:=by grind[bM]
theorem dq  n  :0<=bD n/\bD n<=100000:=by grind[bD]
theorem length_any(n:Int)(w:World):Cw 118 #[Iq n] w fun e w'=>e=Rw (Iq (bD n))/\w'=w:=by go_enter func118,ntmps118;go_wp2;all_goals go_ret;refine⟨?_,rfl⟩;refine congrArg (fun n:Int=>Ending.returned (Iq n)) (?_:_=bD n);grind[bD]
theorem position_any(n:Int)(w:World):Cw 204 #[Iq n] w fun e w'=>e=Rw (Iq (bM n))/\w'=w:=by go_enter func204,ntmps204;go_wp2;all_goals go_ret;refine⟨?_,rfl⟩;refine congrArg (fun n:Int=>Ending.returned (Iq n)) (?_:_=bM n);grind[bM]
theorem Bc(x y a b:Int)(w:World):Cw 166 #[rv x y a b] w fun e w'=>e=Rw (rv (bM x) (bM y) (bD a) (bD b))/\w'=((w.alloc (.cells #[Iq x,Iq y,Iq a,Iq b] 100)).alloc (.cells #[Iq (bM x),Iq (bM y),Iq (bD a),Iq (bD b)] 100)).drew:=by have P:=qH<|position_any;have G:=qH<|length_any;unfold rv;go_enter func166,ntmps166;go_wp2_with fail;obtain⟨px,Hw⟩:=af (bM x);obtain⟨py,RV⟩:=af (bM y);obtain⟨la,hla⟩:=af (bD a);obtain⟨lb,hlb⟩:=af (bD b);have P1:=P x;have P2:=P y;have G1:=G a;have G2:=G b;rw[Hw]at P1;rw[RV]at P2;rw[hla]at G1;rw[hlb]at G2;go_region_held(fun W=>W.cell? (aq w.heap.size 0)=some (Iq x)/\W.cell? (aq w.heap.size 1)=some (Iq y)/\W.cell? (aq w.heap.size 2)=some (Iq a)/\W.cell? (aq w.heap.size 3)=some (Iq b)) (go_keep) (first|(go_at_call 204;first|(refine(P1 _).mono ?_;rintro e w2 ⟨rfl,rfl⟩)|(refine(P2 _).mono ?_;rintro e w2 ⟨rfl,rfl⟩))|(go_at_call 118;first|(refine(G1 _).mono ?_;rintro e w2 ⟨rfl,rfl⟩)|(refine(G2 _).mono ?_;rintro e w2 ⟨rfl,rfl⟩)));go_wp2;refine bodyPost_ret (v:=rv px py la lb) (by simp[results,Tryz.results166,go_sem,rv]) rfl ?_;subst Hw RV hla hlb;exact⟨rfl,rfl⟩
def Gr(w w':World):Prop:=∃q os,w'=grow (w.drewN q) os
theorem Gr.refl  w  :Gr w w:=⟨0,#[],by simp;rfl⟩
theorem Gr.trans{a b c}(h:Gr a b)(k:Gr b c):Gr a c:=by obtain⟨q,os,rfl⟩:=h;obtain⟨q2,os2,rfl⟩:=k;exact⟨q+q2,os++os2,by show grow (grow ((a.drewN q).drewN q2) os) os2=_;rw[grow_grow,World.drewN_drewN]⟩
theorem Gr.alloc{a b}(h:Gr a b)  o  :Gr a (b.alloc o):=h.trans ⟨0,#[o],alloc_eq_grow b o⟩
theorem Gr.drew{a b}(h:Gr a b):Gr a b.drew:=h.trans ⟨1,#[],by simp;rfl⟩
theorem Gr.drewN{a b}(h:Gr a b)  n  :Gr a (b.drewN n):=h.trans ⟨n,#[],by simp⟩
theorem Gr.size{a b}(h:Gr a b):a.heap.size<=b.heap.size:=by obtain⟨q,os,rfl⟩:=h;simp_all
theorem Gr.block{a b}(h:Gr a b){k}(hk:k<a.heap.size):b.heap[k]?=a.heap[k]?:=by obtain⟨q,os,rfl⟩:=h;exact heap_grow_old _ _ hk
theorem Gr.set{a b}(h:Gr a b){k o}(hk:a.heap.size<=k)  v  :Gr a (b.setCell (aq k o) v):=by obtain⟨q,os,rfl⟩:=h;exact⟨q,_,by unfold World.setCell grow;simp only;rw[modify_append_right (a.drewN q).heap os k _ hk]⟩
theorem Gr.below{a b}(h:Gr a b):Bt a b:=⟨by obtain⟨q,os,rfl⟩:=h;rfl,by obtain⟨q,os,rfl⟩:=h;rfl,by obtain⟨q,os,rfl⟩:=h;rfl,h.size,fun k hk=>h.block hk⟩
def R4(T:TypeId)(W:World)(b:Nat)(x y a c:Int):Prop:=W.heap[b]?=some (.cells #[Iq x,Iq y,Iq a,Iq c] T (0,0))
section
variable{T:TypeId} {W W':World} {b k o:Nat} {x y a c:Int}
theorem R4.lt(h:R4 T W b x y a c):b<W.heap.size:=(az.1 h).1
theorem R4.c0(h:R4 T W b x y a c):W.cell? (aq b 0)=some (Iq x):=by unfold R4 at h;simp[World.cell?,h]
theorem R4.c1(h:R4 T W b x y a c):W.cell? (aq b 1)=some (Iq y):=by unfold R4 at h;simp[World.cell?,h]
theorem R4.c2(h:R4 T W b x y a c):W.cell? (aq b 2)=some (Iq a):=by unfold R4 at h;simp[World.cell?,h]
theorem R4.c3(h:R4 T W b x y a c):W.cell? (aq b 3)=some (Iq c):=by unfold R4 at h;simp[World.cell?,h]
theorem R4.fz(h:R4 T W b x y a c)  j  :W.frozen? (aq b j)=false:=frozen_of_row _ _ _ _ _ h
theorem R4.gr(h:R4 T W b x y a c)(g:Gr W W'):R4 T W' b x y a c:=(g.block h.lt).trans h
theorem R4.new(W:World)  x y a c   T  :R4 T (W.alloc (.cells #[Iq x,Iq y,Iq a,Iq c] T)) W.heap.size x y a c:=heap_alloc_new _ _
theorem R4.other(h:R4 T W b x y a c)(hk:b≠k)  v  :R4 T (W.setCell (aq k o) v) b x y a c:=(bv W (aq k o) v b hk).trans h
theorem R4.set(h:R4 T W b x y a c)  x' y' a' c'  :R4 T ((((W.setCell (aq b 0) (Iq x')).setCell (aq b 1) (Iq y')).setCell (aq b 2) (Iq a')).setCell (aq b 3) (Iq c')) b x' y' a' c':=
 heap_setCell_same _ b 3 _ T _ (heap_setCell_same _ b 2 _ T _ (heap_setCell_same _ b 1 _ T _ (heap_setCell_same _ b 0 _ T _ h)))
theorem R4.others(h:R4 T W b x y a c)(hk:b≠k)  v0 v1 v2 v3  :R4 T ((((W.setCell (aq k 0) v0).setCell (aq k 1) v1).setCell (aq k 2) v2).setCell (aq k 3) v3) b x y a c:=(((h.other hk v0).other hk v1).other hk v2).other hk v3
theorem Gr.set4(h:Gr W W')(hk:W.heap.size<=k)  v0 v1 v2 v3  :Gr W ((((W'.setCell (aq k 0) v0).setCell (aq k 1) v1).setCell (aq k 2) v2).setCell (aq k 3) v3):=(((h.set hk v0).set hk v1).set hk v2).set hk v3
end
theorem clamped_gr  x y a b   w  :Cw 166 #[rv x y a b] w fun e w'=>e=Rw (rv (bM x) (bM y) (bD a) (bD b))/\Gr w w':=
 (Bc x y a b w).mono fun e w' ⟨he,hw⟩=>⟨he,by rw[hw];exact(((Gr.refl w).alloc _).alloc _).drew⟩
def gd(ax aw bx bw:Int):Int:=max (bM ax) (bM bx)
def ji(ax aw bx bw:Int):Int:=min (bM ax+bD aw) (bM bx+bD bw)
def EE(ax ay aw ah bx eG bw bh:Int):Value:=if gd ax aw bx bw>=ji ax aw bx bw\/gd ay ah eG bh>=ji ay ah eG bh then rv 0 0 0 0 else rv (gd ax aw bx bw) (gd ay ah eG bh) (ji ax aw bx bw-gd ax aw bx bw) (ji ay ah eG bh-gd ay ah eG bh)
theorem G_(ax ay aw ah bx eG bw bh:Int)(w:World):Cw 122 #[rv ax ay aw ah,rv bx eG bw bh] w fun e w'=>e=Rw (EE ax ay aw ah bx eG bw bh)/\Gr w w':=by
 have CC:=qH<|clamped_gr;unfold rv at CC⊢;go_enter func122,ntmps122;go_wp2_with fail;obtain⟨A,hA⟩:=af w.heap.size;obtain⟨W0,bc⟩:=af (((w.alloc (.cells #[Iq ax,Iq ay,Iq aw,Iq ah] 100)).alloc (.cells #[Iq bx,Iq eG,Iq bw,Iq bh] 100)).alloc (.cells #[Iq 0,Iq 0,Iq 0,Iq 0] 100));have G0:Hid (Gr w W0):=by rw[<-bc];exact(((Gr.refl w).alloc _).alloc _).alloc _
 have RA:Hid (R4 100 W0 A ax ay aw ah):=by rw[<-bc,<-hA];exact(R4.new w _ _ _ _ _).gr (((Gr.refl _).alloc _).alloc _)
 have RB:Hid (R4 100 W0 (A+1) bx eG bw bh):=by have:=R4.new (w.alloc (.cells #[Iq ax,Iq ay,Iq aw,Iq ah] 100)) bx eG bw bh 100;simp only[aA,hA]at this;rw[<-bc];exact this.gr ((Gr.refl _).alloc _)
 have RC:Hid (R4 100 W0 (A+1+1) 0 0 0 0):=by have:=R4.new ((w.alloc (.cells #[Iq ax,Iq ay,Iq aw,Iq ah] 100)).alloc (.cells #[Iq bx,Iq eG,Iq bw,Iq bh] 100)) 0 0 0 0 100;simp only[aA,hA]at this;rw[<-bc];exact this
 rw[bc,hA];clear bc;have HA:=qH<|hA;clear hA;have a0:=RA.c0;have a1:=RA.c1;have a2:=RA.c2;have a3:=RA.c3;have b0:=RB.c0;have b1:=RB.c1;have b2:=RB.c2;have b3:=RB.c3;obtain⟨px,Hw⟩:=af (bM ax);obtain⟨py,RV⟩:=af (bM ay);obtain⟨pa,L9⟩:=af (bD aw);obtain⟨pb,ql⟩:=af (bD ah);obtain⟨qx,hqx⟩:=af (bM bx);obtain⟨qy,hqy⟩:=af (bM eG);obtain⟨qa,hqa⟩:=af (bD bw);obtain⟨qb,hqb⟩:=af (bD bh);go_cut[2,3,4]from 9 to 12 (fun u v t wx=>u=Pq A/\v=Pq (A+1)/\t=Pq (A+1+1)/\Hid (R4 100 wx A px py pa pb/\R4 100 wx (A+1) qx qy qa qb/\R4 100 wx (A+1+1) 0 0 0 0/\Gr w wx));case first=>
  go_region_with(go_at_call 166;refine(CC _ _ _ _ _).mono ?_;rintro e wn ⟨rfl,E8⟩;have k_:=qH<|(by first|exact((Gr.refl W0).drew).trans E8|exact Gr.trans (rR (by assumption)) E8);have mV:=qH<|RA.gr k_;have pN:=qH<|RB.gr k_;clear E8;have m0:=mV.c0;have m1:=mV.c1;have m2:=mV.c2;have m3:=mV.c3;have n0:=pN.c0;have n1:=pN.c1;have n2:=pN.c2;have n3:=pN.c3;have f0:=mV.fz 0;have f1:=mV.fz 1;have f2:=mV.fz 2;have f3:=mV.fz 3;have g0:=pN.fz 0;have g1:=pN.fz 1;have g2:=pN.fz 2;have g3:=pN.fz 3);all_goals
   have HO:Hid (R4 100 ((((((((wn.setCell (aq A 0) (Iq px)).setCell (aq A 1) (Iq py)).setCell (aq A 2) (Iq pa)).setCell (aq A 3) (Iq pb)).setCell (aq (A+1) 0) (Iq qx)).setCell (aq (A+1) 1) (Iq qy)).setCell (aq (A+1) 2) (Iq qa)).setCell (aq (A+1) 3) (Iq qb)) A px py pa pb/\R4 100 ((((((((wn.setCell (aq A 0) (Iq px)).setCell (aq A 1) (Iq py)).setCell (aq A 2) (Iq pa)).setCell (aq A 3) (Iq pb)).setCell (aq (A+1) 0) (Iq qx)).setCell (aq (A+1) 1) (Iq qy)).setCell (aq (A+1) 2) (Iq qa)).setCell (aq (A+1) 3) (Iq qb)) (A+1) qx qy qa qb/\R4 100 ((((((((wn.setCell (aq A 0) (Iq px)).setCell (aq A 1) (Iq py)).setCell (aq A 2) (Iq pa)).setCell (aq A 3) (Iq pb)).setCell (aq (A+1) 0) (Iq qx)).setCell (aq (A+1) 1) (Iq qy)).setCell (aq (A+1) 2) (Iq qa)).setCell (aq (A+1) 3) (Iq qb)) (A+1+1) 0 0 0 0/\Gr w ((((((((wn.setCell (aq A 0) (Iq px)).setCell (aq A 1) (Iq py)).setCell (aq A 2) (Iq pa)).setCell (aq A 3) (Iq pb)).setCell (aq (A+1) 0) (Iq qx)).setCell (aq (A+1) 1) (Iq qy)).setCell (aq (A+1) 2) (Iq qa)).setCell (aq (A+1) 3) (Iq qb))):=
    ⟨(mV.set px py pa pb).others (by omega) _ _ _ _,(pN.others (by omega) _ _ _ _).set qx qy qa qb,((RC.gr k_).others (by omega) _ _ _ _).others (by omega) _ _ _ _,((G0.trans k_).set4 (by rw[HA.out];omega) _ _ _ _).set4 (by rw[HA.out];omega) _ _ _ _⟩;clear m0 m1 m2 m3 n0 n1 n2 n3 f0 f1 f2 f3 g0 g1 g2 g3 a0 a1 a2 a3 b0 b1 b2 b3 mV pN;go_wp2_with fail;go_meet;grind
 case rest=>
  obtain⟨rfl,rfl,rfl,HO⟩:=hcut;clear a0 a1 a2 a3 b0 b1 b2 b3 RA RB RC;have a0:=HO.1.c0;have a1:=HO.1.c1;have a2:=HO.1.c2;have a3:=HO.1.c3;have b0:=HO.2.1.c0;have b1:=HO.2.1.c1;have b2:=HO.2.1.c2;have b3:=HO.2.1.c3;have bpx:=eO ax;have bpy:=eO ay;have bpa:=dq aw;have bpb:=dq ah;have bqx:=eO bx;have bqy:=eO eG;have bqa:=dq bw;have bqb:=dq bh;rw[Hw]at bpx;rw[RV]at bpy;rw[L9]at bpa;rw[ql]at bpb;rw[hqx]at bqx;rw[hqy]at bqy;rw[hqa]at bqa;rw[hqb]at bqb;go_wp2_with fail;go_cut[5,6]from 13 to 28 (fun u v wx=>u=Iq (max px qx)/\v=Iq (min (px+pa) (qx+qa))/\∃q,wx=wc.drewN q);case first=>by_cases h1:px<qx;iterate 2 ·by_cases h2:px+pa<=qx+qa;iterate 2 ·go_quiet(fail);go_wp2_with fail;go_meet;grind
  case rest=>
   obtain⟨rfl,rfl,q1,rfl⟩:=hcut;go_wp2_with fail;go_cut[7,8]from 29 to 44 (fun u v wx=>u=Iq (max py qy)/\v=Iq (min (py+pb) (qy+qb))/\∃q,wx=wc.drewN q);case first=>by_cases h1:py<qy;iterate 2 ·by_cases h2:py+pb<=qy+qb;iterate 2 ·go_quiet(fail);go_wp2_with fail;go_meet;exact⟨congrArg (Value.int .i64) (by omega),congrArg (Value.int .i64) (by omega),q1+nq,by first|rfl|exact World.drewN_drewN _ _ _⟩
   case rest=>
    obtain⟨rfl,rfl,q2,rfl⟩:=hcut;obtain⟨W1,bZ⟩:=af (wc.drewN q2);have G1:Hid (Gr wc W1):=by rw[<-bZ];exact(Gr.refl _).drewN _
    rw[bZ];have R1:=qH<|HO.2.2.1.gr G1;have GG:=qH<|HO.2.2.2.trans G1;clear bZ a0 a1 a2 a3 b0 b1 b2 b3 HO;have c0:=R1.c0;have c1:=R1.c1;have c2:=R1.c2;have c3:=R1.c3;have f0:=R1.fz 0;have f1:=R1.fz 1;have f2:=R1.fz 2;have f3:=R1.fz 3;obtain⟨l,hl⟩:=af (max px qx);obtain⟨r,hr⟩:=af (min (px+pa) (qx+qa));obtain⟨t,ht⟩:=af (max py qy);obtain⟨d,hd⟩:=af (min (py+pb) (qy+qb));have HV:Hid (EE ax ay aw ah bx eG bw bh=if l>=r\/t>=d then rv 0 0 0 0 else rv l t (r-l) (d-t)):=by show _=_;unfold EE gd ji;rw[Hw,RV,L9,ql,hqx,hqy,hqa,hqb,hl,hr,ht,hd]
    have bl:-100000<=l/\l<=100000:=by omega
    have br:-100000<=r/\r<=200000:=by omega
    have bt:-100000<=t/\t<=100000:=by omega
    have bd:-100000<=d/\d<=200000:=by omega
    rw[hl,hr,ht,hd];clear Hw RV L9 ql hqx hqy hqa hqb hl hr ht hd bpx bpy bpa bpb bqx bqy bqa bqb;by_cases h1:r<=l;·have e1:=decide_eq_true h1;go_wp2;refine bodyPost_ret (results_cell_row rfl _ _ (A+1+1) _ _ _ _ rfl (R1.set 0 0 0 0) underlying100 rfl (by kernel_rfl)) rfl ?_;exact⟨by rw[HV.out,if_pos (.inl h1)];rfl,GG.set4 (by rw[HA.out];omega) _ _ _ _⟩
    ·have e1:=decide_eq_false h1;by_cases h2:d<=t;·have e2:=decide_eq_true h2;go_wp2;refine bodyPost_ret (results_cell_row rfl _ _ (A+1+1) _ _ _ _ rfl (R1.set 0 0 0 0) underlying100 rfl (by kernel_rfl)) rfl ?_;exact⟨by rw[HV.out,if_pos (.inr h2)];rfl,GG.set4 (by rw[HA.out];omega) _ _ _ _⟩
     ·have e2:=decide_eq_false h2;go_wp2;refine bodyPost_ret (results_cell_row rfl _ _ (A+1+1) _ _ _ _ rfl (R1.set l t (r-l) (d-t)) underlying100 rfl (by kernel_rfl)) rfl ?_;exact⟨by rw[HV.out,if_neg (by omega)];rfl,GG.set4 (by rw[HA.out];omega) _ _ _ _⟩
theorem mH{n}(h:-100000<=n/\n<=100000):bM n=n:=by grind[bM]
theorem dP{n}(h:0<=n/\n<=100000):bD n=n:=by grind[bD]
theorem zU{a b c d a' b' c' d'}(h:rv a b c d=rv a' b' c' d'):a=a'/\b=b'/\c=c'/\d=d':=by grind[rv]
structure Ce where
 t:ByteArray
 f:Int
 g:Int
 b:Int
 p:Int
def _N:ByteArray:=⟨#[32]⟩
def XS:ByteArray:=⟨#[]⟩
def bl(c:Ce):Ce:=⟨_N,c.f,c.g,c.b,0⟩
def bk(f g b:Int):Ce:=⟨_N,f,g,b,0⟩
theorem SL  c  :(bl c).p=0:=rfl
def span(r:Nat->Ce)(a z:Nat)(x:Nat->Ce):Nat->Ce:=fun j=>
 if a<=j/\j<z then x j
 else if a<z/\j+1=a/\(r a).p=2 then bl (r j)
 else if a<z/\j=z/\(r (z-1)).p=1 then bl (r j)
 else r j
theorem dQ{r}{a z}{x}{j}(h:a<=j/\j<z):span r a z x j=x j:=if_pos h
theorem jY{r}{a z}{x}(h:¬a<z):span r a z x=r:=by grind[span]
theorem lO{r}{a z}{x}{j}(h:¬(a<=j/\j<z)):
 (span r a z x j=r j/\¬(a<z/\j+1=a/\(r a).p=2)/\¬(a<z/\j=z/\(r (z-1)).p=1))\/(span r a z x j=bl (r j)/\((a<z/\j+1=a/\(r a).p=2)\/(a<z/\j=z/\(r (z-1)).p=1))):=by grind[span]
structure pS(W:Nat)(r:Nat->Ce):Prop where
 part:∀i,i<W->(r i).p=0\/(r i).p=1\/(r i).p=2
 head:∀i,i<W->(r i).p=1->i+1<W/\(r (i+1)).p=2/\(r (i+1)).f=(r i).f/\(r (i+1)).g=(r i).g/\(r (i+1)).b=(r i).b
 tail:∀i,i<W->(r i).p=2->∃k,i=k+1/\(r k).p=1/\(r i).t=XS
section
variable{W a z:Nat} {r x:Nat->Ce}
theorem pS.beside(h:pS W r)(zW:z<=W){i}(hi:i<W)(ho:¬(a<=i/\i<z)):
 ((span r a z x i).p=0\/(span r a z x i).p=1\/(span r a z x i).p=2)
 /\((span r a z x i).p=1->span r a z x i=r i/\span r a z x (i+1)=r (i+1)/\(r i).p=1)
 /\((span r a z x i).p=2->span r a z x i=r i/\(r i).p=2/\∃k,i=k+1/\span r a z x k=r k):=by
 rcases lO (r:=r) (x:=x) ho with⟨e,n1,n2⟩|⟨e,hh⟩
 ·rw[e];refine⟨h.part i hi,fun hp=>⟨rfl,?_,hp⟩,fun hp=>⟨rfl,hp,?_⟩⟩
  ·obtain⟨h1,h2,_⟩:=h.head i hi hp;by_cases eU:a<=i+1/\i+1<z;·grind
   ·rcases lO (r:=r) (x:=x) eU with⟨e2,_⟩|⟨e2,h3|h3⟩;·exact e2
    ·exfalso;obtain⟨k,hk,El,_⟩:=h.tail a (by omega) h3.2.2;grind
    omega
  ·obtain⟨k,hk,El,_⟩:=h.tail i hi hp;refine⟨k,hk,?_⟩;by_cases eU:a<=k/\k<z;·grind
   ·rcases lO (r:=r) (x:=x) eU with⟨e2,_⟩|⟨e2,h3|h3⟩;·exact e2
    ·omega
    ·exfalso;obtain⟨q1,q2,_⟩:=h.head (z-1) (by omega) h3.2.2;grind
 grind[SL]
theorem pS.span0(h:pS W r)(zW:z<=W)(hx:∀j,a<=j->j<z->(x j).p=0):pS W (span r a z x):=by
 refine⟨fun i hi=>?_,fun i hi hp=>?_,fun i hi hp=>?_⟩<;>by_cases eU:a<=i/\i<z;·grind[dQ]
 ·exact(h.beside zW hi eU).1
 ·grind[dQ]
 ·obtain⟨e1,e2,e3⟩:=(h.beside zW hi eU).2.1 hp;rw[e1,e2];exact h.head i hi e3
 ·grind[dQ]
 ·obtain⟨e1,e2,k,hk,e3⟩:=(h.beside zW hi eU).2.2 hp;obtain⟨k',KB,h1,h2⟩:=h.tail i hi e2;grind
theorem pS.span2(h:pS W r)(zW:a+2<=W)(h1:(x a).p=1)(h2:(x (a+1)).p=2)(hf:(x (a+1)).f=(x a).f)(hg:(x (a+1)).g=(x a).g)(hb:(x (a+1)).b=(x a).b)(ht:(x (a+1)).t=XS):pS W (span r a (a+2) x):=by
 have e0:span r a (a+2) x a=x a:=dQ (by omega);have e1:span r a (a+2) x (a+1)=x (a+1):=dQ (by omega);refine⟨fun i hi=>?_,fun i hi hp=>?_,fun i hi hp=>?_⟩<;>by_cases eU:a<=i/\i<a+2;·grind
 ·exact(h.beside zW hi eU).1
 ·grind
 ·obtain⟨q1,q2,q3⟩:=(h.beside zW hi eU).2.1 hp;rw[q1,q2];exact h.head i hi q3
 ·grind
 ·obtain⟨q1,q2,k,hk,q3⟩:=(h.beside zW hi eU).2.2 hp;obtain⟨k',KB,r1,r2⟩:=h.tail i hi q2;grind
theorem pS.next(h:pS W r){m}(am:a<=m)(mW:m<W)(hx:∀j,(x j).p=0):span (span r a m x) m (m+1) x=span r a (m+1) x:=by
 by_cases e:a=m;·grind[jY]
 have am':a<m:=by omega
 -- the cell at m,as it is yS
 have hm:(span r a m x m).p≠2/\((span r a m x m).p=1↔(r m).p=1):=by
  rcases lO (r:=r) (a:=a) (z:=m) (x:=x) (j:=m) (by omega)with⟨e1,_,n2⟩|⟨e1,h3|h3⟩;·rw[e1];refine⟨fun h2=>?_,Iff.rfl⟩;obtain⟨k,hk,El,_⟩:=h.tail m mW h2;grind
  ·omega
  ·rw[e1,SL];refine⟨by omega,fun q=>by omega,fun q=>?_⟩;obtain⟨_,q2,_⟩:=h.head (m-1) (by omega) h3.2.2;grind
 grind[dQ,span,bl]
end
def fill(c:Nat->Nat->Ce)(l r t d:Nat)(x:Nat->Ce):Nat->Nat->Ce:=fun y=>if t<=y/\y<d then span (c y) l r x else c y
def PAll(W H:Nat)(c:Nat->Nat->Ce):Prop:=∀y,y<H->pS W (c y)
section
variable{W H l r t d:Nat} {c:Nat->Nat->Ce} {x:Nat->Ce}
theorem Kb(h:¬(l<r/\t<d)):fill c l r t d x=c:=by grind[fill,jY]
theorem PAll.fill0(h:PAll W H c)(hr:r<=W)(hx:∀j,(x j).p=0):PAll W H (fill c l r t d x):=by
 intro y hy;unfold fill;split;·exact(h y hy).span0 hr (fun j _ _=>hx j)
 ·exact h y hy
theorem PAll.fill2(h:PAll W H c)(zW:l+2<=W)(h1:(x l).p=1)(h2:(x (l+1)).p=2)(hf:(x (l+1)).f=(x l).f)(hg:(x (l+1)).g=(x l).g)(hb:(x (l+1)).b=(x l).b)(ht:(x (l+1)).t=XS):PAll W H (fill c l (l+2) t d x):=by
 intro y hy;unfold fill;split;·exact(h y hy).span2 zW h1 h2 hf hg hb ht
 ·exact h y hy
theorem Ka(htd:t<=d):fill (fill c l r t d x) l r d (d+1) x=fill c l r t (d+1) x:=by grind[fill]
theorem Bz(h:PAll W H c)(hr:r<=W){y j}(hy:y<H)(hj:j<W)(ho:¬(t<=y/\y<d/\l<=j/\j<r)):fill c l r t d x y j=c y j\/(fill c l r t d x y j=bl (c y j)/\(c y j).p≠0):=by
 unfold fill;by_cases h1:t<=y/\y<d
 ·rw[if_pos h1];rcases lO (r:=c y) (a:=l) (z:=r) (x:=x) (j:=j) (by omega)with⟨e,_⟩|⟨e,hh|hh⟩;·grind
  ·refine .inr ⟨e,?_⟩;obtain⟨k,hk,El,_⟩:=(h y hy).tail l (by omega) hh.2.2;grind
  ·refine .inr ⟨e,?_⟩;obtain⟨_,q,_⟩:=(h y hy).head (r-1) (by omega) hh.2.2;grind
 grind
end
structure bK(M:Nat)(W W':World):Prop where
 os:W'.os=W.os
 tape:W'.tape=W.tape
 output:W'.output=W.output
 size:W.heap.size<=W'.heap.size
 block:∀b,b<W.heap.size->b≠M->W'.heap[b]?=W.heap[b]?
section
variable{M:Nat} {W W' W2:World}
theorem bK.refl  M   W  :bK M W W:=⟨rfl,rfl,rfl,ae _,fun _ _ _=>rfl⟩
theorem bK.trans(h:bK M W W')(k:bK M W' W2):bK M W W2:=
 ⟨k.os.trans h.os,k.tape.trans h.tape,k.output.trans h.output,aH h.size k.size,fun b h1 h2=>(k.block b (zz007 h1 h.size) h2).trans (h.block b h1 h2)⟩
theorem bK.below(h:Bt W W'):bK M W W':=⟨h.os,h.tape,h.output,h.size,fun b h1 _=>h.block b h1⟩
theorem bK.gr(h:Gr W W'):bK M W W':=bK.below h.below
theorem bK.thenGr(h:bK M W W')(k:Gr W' W2):bK M W W2:=h.trans (bK.gr k)
theorem bK.set(h:bK M W W'){k}(hk:k=M\/W.heap.size<=k)  o   v  :bK M W (W'.setCell (aq k o) v):=
 ⟨h.os,h.tape,h.output,by simpa[World.setCell]using h.size,fun b h1 h2=>(bv W' (aq k o) v b (by grind)).trans (h.block b h1 h2)⟩
theorem bK.low(h:bK M W W'){B}(hM:B<=M)(hB:B<=W.heap.size){W0}(k:Below B W0 W):Below B W0 W':=
 ⟨h.os.trans k.os,h.tape.trans k.tape,h.output.trans k.output,aH k.size h.size,fun b hb=>(h.block b (by omega) (by omega)).trans (k.block b hb)⟩
end
def c5(e:Ce):List Value:=[.string e.t,Iq e.f,Iq e.g,Iq e.b,Iq e.p]
theorem yU  e  :(c5 e).length=5:=rfl
structure Cv(T:TypeId)(Q:World)(M W H:Nat)(c:Nat->Nat->Ce):Prop where
 arr:∃a,Q.heap[M]?=some (.cells a T (0,0))
 cell:∀y x,y<H->x<W->∀(k:Nat) u,(c5 (c y x))[k]?=some u->Q.cell? (aq M (y*W*5+x*5+k))=some u
def eZ(c:Nat->Nat->Ce)(y x:Nat)(e:Ce):Nat->Nat->Ce:=fun y' x'=>if y'=y/\x'=x then e else c y' x'
theorem TU{W y x y' x':Nat}(hx:x<W)(hx':x'<W)(h:y*W+x=y'*W+x'):y=y'/\x=x':=by
 have h1:(y*W+x)/W=y:=by rw[jc,Q7 (by omega),yi hx,vJ]
 have h2:(y'*W+x')/W=y':=by rw[jc,Q7 (by omega),yi hx',vJ]
 grind
theorem UB{W y x k y' x' k'}(hx:x<W)(hx':x'<W)(hk:k<5)(KB:k'<5)(h:y*W*5+x*5+k=y'*W*5+x'*5+k'):y=y'/\x=x'/\k=k':=by grind[TU]
section
variable{T:TypeId} {Q Q':World} {M W H:Nat} {c c':Nat->Nat->Ce}
theorem Cv.lt(h:Cv T Q M W H c):M<Q.heap.size:=by obtain⟨a,ha⟩:=h.arr;grind
theorem Cv.fz(h:Cv T Q M W H c)  j  :Q.frozen? (aq M j)=false:=by obtain⟨a,ha⟩:=h.arr;exact frozen_of_row _ _ _ _ _ ha
theorem Cv.keep(h:Cv T Q M W H c)(hb:Q'.heap[M]?=Q.heap[M]?):Cv T Q' M W H c:=by obtain⟨a,ha⟩:=h.arr;exact⟨⟨a,hb.trans ha⟩,fun y x hy hx k u hu=>(ba (a:=(aq M _)) hb).trans (h.cell y x hy hx k u hu)⟩
theorem Cv.gr(h:Cv T Q M W H c)(g:Gr Q Q'):Cv T Q' M W H c:=h.keep (g.block h.lt)
theorem Cv.ch{N}(h:Cv T Q M W H c)(g:bK N Q Q')(hN:M≠N):Cv T Q' M W H c:=h.keep (g.block M h.lt hN)
theorem Cv.other{k}(h:Cv T Q M W H c)(hk:M≠k)  o   v  :Cv T (Q.setCell (aq k o) v) M W H c:=h.keep (bv Q (aq k o) v M hk)
theorem Cv.same(h:Cv T Q M W H c)(hc:∀y x,y<H->x<W->c y x=c' y x):Cv T Q M W H c':=
 ⟨h.arr,fun y x hy hx k u hu=>h.cell y x hy hx k u (by grind)⟩
theorem Cv.set1(h:Cv T Q M W H c){y x k}(hy:y<H)(hx:x<W)(hk:k<5)  v  (hc:∀y' x',c' y' x'=if y'=y/\x'=x then c' y x else c y' x') (he:c5 (c' y x)=(c5 (c y x)).set k v):
 Cv T (Q.setCell (aq M (y*W*5+x*5+k)) v) M W H c':=by
 obtain⟨a,ha⟩:=h.arr;refine⟨⟨_,heap_setCell_same _ M _ _ _ _ ha⟩,fun y' x' WB hx' k' u hu=>?_⟩;have KB:k'<5:=(np.1 hu).1;have old:=h.cell y x hy hx k _ (di (show k<(c5 (c y x)).length from hk));by_cases e:y'=y/\x'=x
 ·obtain⟨rfl,rfl⟩:=e;rw[he]at hu;by_cases e2:k'=k;·subst e2;rw[List.getElem?_set_self (show k'<(c5 (c y' x')).length from hk)]at hu;injection hu with hu;subst hu;exact yk _ _ _ old
  ·rw[vH (by omega)]at hu;rw[dy _ _ _ _ (fun q=>by grind)];exact h.cell y' x' WB hx' k' u hu
 ·rw[hc y' x',if_neg e]at hu;rw[dy _ _ _ _];·exact h.cell y' x' WB hx' k' u hu
  grind[UB]
theorem Cv.set(h:Cv T Q M W H c){y x}(hy:y<H)(hx:x<W)  e  :
 Cv T (((((Q.setCell (aq M (y*W*5+x*5)) (.string e.t)).setCell (aq M (y*W*5+x*5+1)) (Iq e.f)).setCell (aq M (y*W*5+x*5+2)) (Iq e.g)).setCell (aq M (y*W*5+x*5+3)) (Iq e.b)).setCell (aq M (y*W*5+x*5+4)) (Iq e.p)) M W H (eZ c y x e):=by
 have u0:∀e,eZ c y x e y x=e:=fun e=>by grind[eZ]
 have nx:∀e e',∀y' x',eZ c y x e' y' x'=if y'=y/\x'=x then eZ c y x e' y x else eZ c y x e y' x':=fun e e' y' x'=>by grind[eZ]
 have h0:=h.set1 (c':=eZ c y x {c y x with t:=e.t}) (k:=0) hy hx (by omega) (.string e.t) (fun y' x'=>by rw[u0];rfl) (by rw[u0];rfl);have h1:=h0.set1 (c':=eZ c y x {c y x with t:=e.t,f:=e.f}) (k:=1) hy hx (by omega) (Iq e.f) (nx _ _) (by rw[u0,u0];rfl);have h2:=h1.set1 (c':=eZ c y x {c y x with t:=e.t,f:=e.f,g:=e.g}) (k:=2) hy hx (by omega) (Iq e.g) (nx _ _) (by rw[u0,u0];rfl);have h3:=h2.set1 (c':=eZ c y x {c y x with t:=e.t,f:=e.f,g:=e.g,b:=e.b}) (k:=3) hy hx (by omega) (Iq e.b) (nx _ _) (by rw[u0,u0];rfl);exact h3.set1 (c':=eZ c y x e) (k:=4) hy hx (by omega) (Iq e.p) (nx _ _) (by rw[u0,u0];rfl)
theorem Cv.setPart(h:Cv T Q M W H c){y x}(hy:y<H)(hx:x<W)  p  :
 Cv T (Q.setCell (aq M (y*W*5+x*5+4)) (Iq p)) M W H (eZ c y x {c y x with p:=p}):=
 h.set1 (k:=4) hy hx (by omega) _ (fun y' x'=>by unfold eZ;simp) (by unfold eZ;rw[if_pos ⟨rfl,rfl⟩];rfl)
theorem Cv.setText(h:Cv T Q M W H c){y x}(hy:y<H)(hx:x<W)  s  :
 Cv T (Q.setCell (aq M (y*W*5+x*5+0)) (.string s)) M W H (eZ c y x {c y x with t:=s}):=
 h.set1 (k:=0) hy hx (by omega) _ (fun y' x'=>by unfold eZ;simp) (by unfold eZ;rw[if_pos ⟨rfl,rfl⟩];rfl)
theorem Cv.c0(h:Cv T Q M W H c){y x}(hy:y<H)(hx:x<W):Q.cell? (aq M (y*W*5+x*5))=some (.string (c y x).t):=h.cell y x hy hx 0 _ rfl
theorem Cv.c1(h:Cv T Q M W H c){y x}(hy:y<H)(hx:x<W):Q.cell? (aq M (y*W*5+x*5+1))=some (Iq (c y x).f):=h.cell y x hy hx 1 _ rfl
theorem Cv.c2(h:Cv T Q M W H c){y x}(hy:y<H)(hx:x<W):Q.cell? (aq M (y*W*5+x*5+2))=some (Iq (c y x).g):=h.cell y x hy hx 2 _ rfl
theorem Cv.c3(h:Cv T Q M W H c){y x}(hy:y<H)(hx:x<W):Q.cell? (aq M (y*W*5+x*5+3))=some (Iq (c y x).b):=h.cell y x hy hx 3 _ rfl
theorem Cv.c4(h:Cv T Q M W H c){y x}(hy:y<H)(hx:x<W):Q.cell? (aq M (y*W*5+x*5+4))=some (Iq (c y x).p):=h.cell y x hy hx 4 _ rfl
end
structure CS(TK T:TypeId)(Q:World)(K M cap W H:Nat)(c:Nat->Nat->Ce):Prop where
 kb:Q.heap[K]?=some (.cells #[Iq W,Iq H,Sq M (W*H) cap] TK (0,0))
 cv:Cv T Q M W H c
 ne:K≠M
 hc:W*H<=cap
section
variable{TK T:TypeId} {Q Q':World} {K M cap W H:Nat} {c c':Nat->Nat->Ce}
theorem CS.klt(h:CS TK T Q K M cap W H c):K<Q.heap.size:=(az.1 h.kb).1
theorem CS.k0(h:CS TK T Q K M cap W H c):Q.cell? (aq K 0)=some (Iq W):=by have:=h.kb;simp[World.cell?,this]
theorem CS.k1(h:CS TK T Q K M cap W H c):Q.cell? (aq K 1)=some (Iq H):=by have:=h.kb;simp[World.cell?,this]
theorem CS.k2(h:CS TK T Q K M cap W H c):Q.cell? (aq K 2)=some (Sq M (W*H) cap):=by have:=h.kb;simp[World.cell?,this]
theorem CS.ch{N}(h:CS TK T Q K M cap W H c)(g:bK N Q Q')(h1:K≠N)(h2:M≠N):CS TK T Q' K M cap W H c:=⟨(g.block K h.klt h1).trans h.kb,h.cv.ch g h2,h.ne,h.hc⟩
theorem CS.gr(h:CS TK T Q K M cap W H c)(g:Gr Q Q'):CS TK T Q' K M cap W H c:=⟨(g.block h.klt).trans h.kb,h.cv.gr g,h.ne,h.hc⟩
theorem CS.put(h:CS TK T Q K M cap W H c)(g:bK M Q Q')(hc:Cv T Q' M W H c'):CS TK T Q' K M cap W H c':=⟨(g.block K h.klt h.ne).trans h.kb,hc,h.ne,h.hc⟩
end
def R3(T:TypeId)(W:World)(b:Nat)(x y a:Int):Prop:=W.heap[b]?=some (.cells #[Iq x,Iq y,Iq a] T (0,0))
section
variable{T:TypeId} {W W':World} {b k o:Nat} {x y a c:Int}
theorem R3.lt(h:R3 T W b x y a):b<W.heap.size:=(az.1 h).1
theorem R3.c0(h:R3 T W b x y a):W.cell? (aq b 0)=some (Iq x):=by unfold R3 at h;simp[World.cell?,h]
theorem R3.c1(h:R3 T W b x y a):W.cell? (aq b 1)=some (Iq y):=by unfold R3 at h;simp[World.cell?,h]
theorem R3.c2(h:R3 T W b x y a):W.cell? (aq b 2)=some (Iq a):=by unfold R3 at h;simp[World.cell?,h]
theorem R3.fz(h:R3 T W b x y a)  j  :W.frozen? (aq b j)=false:=frozen_of_row _ _ _ _ _ h
theorem R3.gr(h:R3 T W b x y a)(g:Gr W W'):R3 T W' b x y a:=(g.block h.lt).trans h
theorem R3.new(W:World)  x y a   T  :R3 T (W.alloc (.cells #[Iq x,Iq y,Iq a] T)) W.heap.size x y a:=heap_alloc_new _ _
theorem R3.other(h:R3 T W b x y a)(hk:b≠k)  v  :R3 T (W.setCell (aq k o) v) b x y a:=(bv W (aq k o) v b hk).trans h
theorem R3.set0(h:R3 T W b x y a)  x'  :R3 T (W.setCell (aq b 0) (Iq x')) b x' y a:=heap_setCell_same _ b 0 _ T _ h
theorem R3.set1(h:R3 T W b x y a)  y'  :R3 T (W.setCell (aq b 1) (Iq y')) b x y' a:=heap_setCell_same _ b 1 _ T _ h
theorem R3.set2(h:R3 T W b x y a)  a'  :R3 T (W.setCell (aq b 2) (Iq a')) b x y a':=heap_setCell_same _ b 2 _ T _ h
theorem R3.set(h:R3 T W b x y a)  x' y' a'  :R3 T (((W.setCell (aq b 0) (Iq x')).setCell (aq b 1) (Iq y')).setCell (aq b 2) (Iq a')) b x' y' a':=
 ((h.set0 x').set1 y').set2 a'
theorem R3.others(h:R3 T W b x y a)(hk:b≠k)  v0 v1 v2  :R3 T (((W.setCell (aq k 0) v0).setCell (aq k 1) v1).setCell (aq k 2) v2) b x y a:=((h.other hk v0).other hk v1).other hk v2
theorem Gr.set3(h:Gr W W')(hk:W.heap.size<=k)  v0 v1 v2  :Gr W (((W'.setCell (aq k 0) v0).setCell (aq k 1) v1).setCell (aq k 2) v2):=((h.set hk v0).set hk v1).set hk v2
end
def sv(f g b:Int):Value:=.agg #[Iq f,Iq g,Iq b]
def kn(n:Int):Int:=if n<0\/8<n then 0 else n
def bo(n:Int):Int:=if n=1 then 1 else 0
theorem Ck  n  :0<=kn n/\kn n<=8:=by grind[kn]
theorem xo  n  :0<=bo n/\bo n<=1:=by grind[bo]
theorem rr  n  :kn (kn n)=kn n:=by grind[kn]
theorem G6  n  :bo (bo n)=bo n:=by grind[bo]
theorem KU(n:Int)(w:World):Cw 171 #[Iq n] w fun e w'=>e=Rw (Iq (kn n))/\w'=w:=by
 go_enter func171,ntmps171;by_cases h1:n<0;·go_wp2;go_ret;simp_all[kn]
 ·by_cases h2:8<n;·go_wp2;go_ret;exact⟨by rw[show kn n=0 by unfold kn;rw[if_pos (.inr h2)]];rfl,rfl⟩
  ·go_wp2;go_ret;exact⟨by rw[show kn n=n by unfold kn;rw[if_neg (by omega)]];rfl,rfl⟩
theorem jm(f g b:Int)(w:World):Cw 128 #[sv f g b] w fun e w'=>e=Rw (sv (kn f) (kn g) (bo b))/\Gr w w':=by
 have P:Hid (∀n w,Cw 171 #[Iq n] w fun e w'=>e=Rw (Iq (kn n))/\w'=w):=KU;obtain⟨x,hx⟩:=af (kn f);obtain⟨y,hy⟩:=af (kn g);have P1:=P f;have P2:=P g;rw[hx]at P1;rw[hy]at P2;unfold sv;go_enter func128,ntmps128;by_cases h:b=1;·subst h;go_wp2_with fail;go_region_held(fun W=>W.cell? (aq w.heap.size 0)=some (Iq f)/\W.cell? (aq w.heap.size 1)=some (Iq g)/\W.cell? (aq w.heap.size 2)=some (Iq 1)) (go_keep) (first|(go_at_call 171;first|(with_reducible refine ai (P1 _) ?_;rintro e w2 ⟨rfl,rfl⟩)|(with_reducible refine ai (P2 _) ?_;rintro e w2 ⟨rfl,rfl⟩)));go_wp2;refine bodyPost_ret (v:=sv x y 1) (by simp[results,Tryz.results128,go_sem,sv]) rfl ?_;subst hx hy;exact⟨rfl,(((Gr.refl w).alloc _).alloc _).drew⟩
 ·have hb:bo b=0:=if_neg h;go_wp2_with fail;go_region_held(fun W=>W.cell? (aq w.heap.size 0)=some (Iq f)/\W.cell? (aq w.heap.size 1)=some (Iq g)/\W.cell? (aq w.heap.size 2)=some (Iq 0)) (go_keep) (first|(go_at_call 171;first|(with_reducible refine ai (P1 _) ?_;rintro e w2 ⟨rfl,rfl⟩)|(with_reducible refine ai (P2 _) ?_;rintro e w2 ⟨rfl,rfl⟩)));go_wp2;refine bodyPost_ret (v:=sv x y 0) (by simp[results,Tryz.results128,go_sem,sv]) rfl ?_;subst hx hy;exact⟨by rw[hb];rfl,(((Gr.refl w).alloc _).alloc _).drew⟩
def ov(a b:Int):Int:=if kn b=0 then kn a else kn b
def PI(a b:Int):Int:=max (bo b) (bo a)
theorem WF{n}(h:0<=n/\n<=8):kn n=n:=if_neg (by omega)
theorem zaT{n}(h:0<=n/\n<=1):bo n=n:=by unfold bo;split<;>omega
theorem td  a  :ov 0 a=kn a:=by have:kn 0=0:=rfl;unfold ov;split<;>omega
theorem C7  a  :PI 0 a=bo a:=by have:bo 0=0:=rfl;have:=xo a;unfold PI;omega
def P2(T:TypeId)(w u:World)(B C:Nat)(a b c:Int):Prop:=R3 T u B a b c/\R3 T u C 0 0 0/\Gr w u
section
variable{T:TypeId} {w u:World} {B C:Nat} {a b c:Int}
theorem P2.ch0(h:P2 T w u B C a b c)(hn:C≠B)(hl:w.heap.size<=B)(x:Int):∃u' a',((a=0/\u'=u.setCell (aq B 0) (Iq x)/\a'=x)\/(¬a=0/\u'=u/\a'=a))/\P2 T w u' B C a' b c:=by
 by_cases e:a=0;·exact⟨_,_,.inl ⟨e,rfl,rfl⟩,h.1.set0 x,h.2.1.other hn _,h.2.2.set hl _⟩
 ·exact⟨_,_,.inr ⟨e,rfl,rfl⟩,h⟩
theorem P2.ch1(h:P2 T w u B C a b c)(hn:C≠B)(hl:w.heap.size<=B)(x:Int):∃u' b',((b=0/\u'=u.setCell (aq B 1) (Iq x)/\b'=x)\/(¬b=0/\u'=u/\b'=b))/\P2 T w u' B C a b' c:=by
 by_cases e:b=0;·exact⟨_,_,.inl ⟨e,rfl,rfl⟩,h.1.set1 x,h.2.1.other hn _,h.2.2.set hl _⟩
 ·exact⟨_,_,.inr ⟨e,rfl,rfl⟩,h⟩
theorem P2.set2(h:P2 T w u B C a b c)(hn:C≠B)(hl:w.heap.size<=B)(x:Int):P2 T w (u.setCell (aq B 2) (Iq x)) B C a b x:=⟨h.1.set2 x,h.2.1.other hn _,h.2.2.set hl _⟩
theorem WD{p:Prop}{x y z:Int}{q r:Prop}[Decidable p](h:(p/\q/\z=x)\/(¬p/\r/\z=y)):(if p then x else y)=z:=by grind
end
theorem oZ(f g b f2 g2 b2:Int)(w:World):Cw 71 #[sv f g b,sv f2 g2 b2] w fun e w'=>e=Rw (sv (ov f f2) (ov g g2) (PI b b2))/\Gr w w':=by
 have CC:Hid (∀f g b w,Cw 128 #[sv f g b] w fun e w'=>e=Rw (sv (kn f) (kn g) (bo b))/\Gr w w'):=jm;unfold sv at CC⊢;go_enter func71,ntmps71;go_wp2_with fail;obtain⟨S,hS⟩:=af w.heap.size;obtain⟨W0,bc⟩:=af (((w.alloc (.cells #[Iq f,Iq g,Iq b] 45)).alloc (.cells #[Iq f2,Iq g2,Iq b2] 45)).alloc (.cells #[Iq 0,Iq 0,Iq 0] 45));have G0:Hid (Gr w W0):=by rw[<-bc];exact(((Gr.refl w).alloc _).alloc _).alloc _
 have RA:Hid (R3 45 W0 S f g b):=by rw[<-bc,<-hS];exact(R3.new w _ _ _ _).gr (((Gr.refl _).alloc _).alloc _)
 have RB:Hid (R3 45 W0 (S+1) f2 g2 b2):=by have:=R3.new (w.alloc (.cells #[Iq f,Iq g,Iq b] 45)) f2 g2 b2 45;simp only[aA,hS]at this;rw[<-bc];exact this.gr ((Gr.refl _).alloc _)
 have RC:Hid (R3 45 W0 (S+1+1) 0 0 0):=by have:=R3.new ((w.alloc (.cells #[Iq f,Iq g,Iq b] 45)).alloc (.cells #[Iq f2,Iq g2,Iq b2] 45)) 0 0 0 45;simp only[aA,hS]at this;rw[<-bc];exact this
 rw[bc,hS];clear bc;have HS:Hid (w.heap.size=S):=hS;clear hS;have a0:=RA.c0;have a1:=RA.c1;have a2:=RA.c2;have b0:=RB.c0;have b1:=RB.c1;have Nl:=RB.c2;obtain⟨x,hx⟩:=af (kn f);obtain⟨y,hy⟩:=af (kn g);obtain⟨z,hz⟩:=af (bo b);obtain⟨x2,ky⟩:=af (kn f2);obtain⟨y2,zy⟩:=af (kn g2);obtain⟨z2,fB⟩:=af (bo b2);have HV:Hid (sv (ov f f2) (ov g g2) (PI b b2)=sv (if x2=0 then x else x2) (if y2=0 then y else y2) (max z2 z)):=by show _=_;unfold ov PI;rw[hx,hy,hz,ky,zy,fB]
 have bz:=xo b;have bz2:=xo b2;rw[hz]at bz;rw[fB]at bz2;have C1:=CC f g b;have C2:=CC f2 g2 b2;rw[hx,hy,hz]at C1;rw[ky,zy,fB]at C2;go_cut[2,3,4]from 5 to 9 (fun u v t wx=>u=Pq S/\v=Pq (S+1)/\t=Pq (S+1+1)/\Hid (R3 45 wx S x y z/\R3 45 wx (S+1) x2 y2 z2/\R3 45 wx (S+1+1) 0 0 0/\Gr w wx));case first=>
  go_region_with(go_at_call 128;(first|(with_reducible refine ai (C1 _) ?_)|(with_reducible refine ai (C2 _) ?_));rintro e wn ⟨rfl,E8⟩;have k_:Hid (Gr W0 wn):=(by first|exact((Gr.refl W0).drew).trans E8|exact Gr.trans (rR (by assumption)) E8);have mV:Hid (R3 45 wn S f g b):=RA.out.gr k_.out;have pN:Hid (R3 45 wn (S+1) f2 g2 b2):=RB.out.gr k_.out;clear E8;have m0:=mV.out.c0;have m1:=mV.out.c1;have m2:=mV.out.c2;have n0:=pN.out.c0;have n1:=pN.out.c1;have n2:=pN.out.c2;have f0:=mV.out.fz 0;have f1:=mV.out.fz 1;have f2':=mV.out.fz 2;have g0:=pN.out.fz 0;have g1:=pN.out.fz 1;have We:=pN.out.fz 2);all_goals
   have HO:Hid (R3 45 ((((((wn.setCell (aq S 0) (Iq x)).setCell (aq S 1) (Iq y)).setCell (aq S 2) (Iq z)).setCell (aq (S+1) 0) (Iq x2)).setCell (aq (S+1) 1) (Iq y2)).setCell (aq (S+1) 2) (Iq z2)) S x y z/\R3 45 ((((((wn.setCell (aq S 0) (Iq x)).setCell (aq S 1) (Iq y)).setCell (aq S 2) (Iq z)).setCell (aq (S+1) 0) (Iq x2)).setCell (aq (S+1) 1) (Iq y2)).setCell (aq (S+1) 2) (Iq z2)) (S+1) x2 y2 z2/\R3 45 ((((((wn.setCell (aq S 0) (Iq x)).setCell (aq S 1) (Iq y)).setCell (aq S 2) (Iq z)).setCell (aq (S+1) 0) (Iq x2)).setCell (aq (S+1) 1) (Iq y2)).setCell (aq (S+1) 2) (Iq z2)) (S+1+1) 0 0 0/\Gr w ((((((wn.setCell (aq S 0) (Iq x)).setCell (aq S 1) (Iq y)).setCell (aq S 2) (Iq z)).setCell (aq (S+1) 0) (Iq x2)).setCell (aq (S+1) 1) (Iq y2)).setCell (aq (S+1) 2) (Iq z2))):=
    ⟨(mV.set x y z).others (by omega) _ _ _,(pN.others (by omega) _ _ _).set x2 y2 z2,((RC.gr k_).others (by omega) _ _ _).others (by omega) _ _ _,((G0.trans k_).set3 (by rw[HS.out];omega) _ _ _).set3 (by rw[HS.out];omega) _ _ _⟩;clear m0 m1 m2 n0 n1 n2 f0 f1 f2' g0 g1 We a0 a1 a2 b0 b1 Nl mV pN;go_wp2_with fail;go_meet;exact⟨rfl,rfl,rfl,HO⟩
 case rest=>
  obtain⟨rfl,rfl,rfl,HO⟩:=hcut;clear a0 a1 a2 b0 b1 Nl RA RB RC;have a0:=HO.1.c0;have a1:=HO.1.c1;have a2:=HO.1.c2;have b0:=HO.2.1.c0;have b1:=HO.2.1.c1;have Nl:=HO.2.1.c2;have g0:=HO.2.1.fz 0;have g1:=HO.2.1.fz 1;have We:=HO.2.1.fz 2;have gg:=HO.2.2.2;have hl:w.heap.size<=S+1:=by rw[HS.out];omega
  obtain⟨W1,x3,q1,p1⟩:=P2.ch0 (C:=S+1+1) (w:=w) HO.out.2 (by omega) hl x;obtain⟨W2,y3,q2,p2⟩:=p1.ch1 (by omega) hl y;obtain⟨W3,z3,q3,p3⟩:∃W3 z3,((z2<z/\z2<=z/\W3=W2.setCell (aq (S+1) 2) (Iq z)/\z3=z)\/(¬z2<z/\z<=z2/\W3=W2.setCell (aq (S+1) 2) (Iq z2)/\z3=z2))/\P2 45 w W3 (S+1) (S+1+1) x3 y3 z3:=by
   by_cases h:z2<z;·exact⟨_,_,.inl ⟨h,by omega,rfl,rfl⟩,p2.set2 (by omega) hl z⟩
   ·exact⟨_,_,.inr ⟨h,by omega,rfl,rfl⟩,p2.set2 (by omega) hl z2⟩
  have HW:Hid (sv (ov f f2) (ov g g2) (PI b b2)=sv x3 y3 z3):=by show _=_;rw[HV.out,WD q1,WD q2,show max z2 z=z3 by omega]
  clear p1 p2;rcases q1 with⟨h1,rfl,rfl⟩|⟨h1,rfl,rfl⟩<;>rcases q2 with⟨h2,rfl,rfl⟩|⟨h2,rfl,rfl⟩<;>rcases q3 with⟨h3,h3',rfl,rfl⟩|⟨h3,h3',rfl,rfl⟩;all_goals have n0:=p3.1.c0;have n1:=p3.1.c1;have n2:=p3.1.c2;have o0:=p3.2.1.c0;have o1:=p3.2.1.c1;have o2:=p3.2.1.c2;have k0:=p3.2.1.fz;go_wp2;refine bodyPost_ret (results_cell_row rfl _ _ (S+1+1) _ _ _ _ rfl (p3.2.1.set _ _ _) underlying45 rfl (by kernel_rfl)) rfl ?_;exact⟨by show _=Ending.returned (sv (ov f f2) (ov g g2) (PI b b2));rw[HW.out];rfl,p3.2.2.set3 (by rw[HS.out];omega) _ _ _⟩
def NG(e:Ce):Value:=.agg #[.string e.t,Iq e.f,Iq e.g,Iq e.b,Iq e.p]
theorem nK(f g b:Int)(w:World):Cw 30 #[sv f g b] w fun e w'=>e=Rw (NG (bk f g b))/\Gr w w':=by unfold sv;go_enter func30,ntmps30;go_wp2;refine bodyPost_ret (v:=NG (bk f g b)) (by simp[results,Tryz.results30,go_sem,NG,bk,_N]) rfl ?_;exact⟨rfl,((Gr.refl w).alloc _).alloc _⟩
theorem tY(f g b:Int)(w:World):Cw 130 #[sv f g b] w fun e w'=>e=Rw (sv (kn f) (kn g) (bo b))/\Gr w w':=by have OV:Hid (∀f g b f2 g2 b2 w,Cw 71 #[sv f g b,sv f2 g2 b2] w fun e w'=>e=Rw (sv (ov f f2) (ov g g2) (PI b b2))/\Gr w w'):=oZ;have O1:=OV 0 0 0 f g b;rw[td,td,C7]at O1;unfold sv at O1⊢;go_enter func130,ntmps130;go_wp2_with(go_at_call 71;refine ai (O1 _) ?_;rintro e w1 ⟨rfl,g1⟩;have RC:Hid (R3 45 w1 (w.heap.size+1) 0 0 0):=((by have:=R3.new (w.alloc (.cells #[Iq f,Iq g,Iq b] 45)) 0 0 0 45;simp_all):R3 45 _ (w.heap.size+1) 0 0 0).gr g1;have c0:=RC.c0;have c1:=RC.c1;have c2:=RC.c2;have f0:=RC.fz 0;have f1:=RC.fz 1;have f2:=RC.fz 2;have GG:Hid (Gr w w1):=(((Gr.refl w).alloc _).alloc _).trans g1;clear g1);refine bodyPost_ret (results_cell_row rfl _ _ (w.heap.size+1) _ _ _ _ rfl (RC.set _ _ _) underlying45 rfl (by kernel_rfl)) rfl ?_;exact⟨rfl,GG.set3 (by omega) _ _ _⟩
theorem DB(n:Int)(w:World):Cw 28 #[Iq n] w fun e w'=>e=Rw (.bool (decide (1<=n/\n<=400)))/\w'=w:=by
 by_cases h1:1<=n
 ·by_cases h2:n<=400;·rw[show decide (1<=n/\n<=400)=true from decide_eq_true ⟨h1,h2⟩];go_enter func28,ntmps28;go_wp2;go_ret;simp_all
  ·rw[show decide (1<=n/\n<=400)=false from decide_eq_false (by omega)];go_enter func28,ntmps28;go_wp2;go_ret;simp_all
 ·rw[show decide (1<=n/\n<=400)=false from decide_eq_false (by omega)];go_enter func28,ntmps28;go_wp2;go_ret;simp_all
section
variable{K M cap W H:Nat} {c:Nat->Nat->Ce}
theorem UX(w:World)(h:CS 84 47 w K M cap W H c)(h0:0<W)(hW:W<=400)(hH:H<=400)(y:Nat)(hy:y<H):Cw 172 #[Pq K,Iq y] w fun e w'=>e=Rw (.slice (some (aq M (y*W*5))) W W)/\Gr w w':=by
 have k0:=h.k0;have k2:=h.k2;have hc:=h.hc;obtain⟨p,hp⟩:=af (y*W);obtain⟨n,hn⟩:=af (W*H);have e1:(y:Int)*(W:Int)=(p:Int):=by rw[<-hp];simp
 have e2:((y:Int)+1)*(W:Int)=(p:Int)+(W:Int):=by rw[IZ,e1];omega
 have pn:p+W<=n:=by rw[<-hp,<-hn,jc W H,<-Nat.succ_mul];exact jw _ (by omega)
 have nb:n<=160000:=by rw[<-hn];exact pJ hW hH
 rw[hn]at k2 hc;rw[hp];have w0:¬W=0:=by omega
 have w1:¬p+W=p:=by omega
 clear h hn hp;go_enter func172,ntmps172;go_wp2_with fail;go_quiet(fail);go_wp2;go_ret;refine⟨?_,(Gr.refl w).drewN _⟩;simp_all
end
def gR(c:Nat->Nat->Ce)(y a:Nat):Nat->Nat->Ce:=fun y' x'=>if y'=y/\x'+1=a/\(c y a).p=2 then bl (c y' x')else c y' x'
def EJ(c:Nat->Nat->Ce)(y q:Nat):Nat->Nat->Ce:=fun y' x'=>if y'=y/\x'=q+1/\(c y q).p=1 then bl (c y' x')else c y' x'
def cut(c:Nat->Nat->Ce)(y a q:Nat):Nat->Nat->Ce:=EJ (gR c y a) y q
theorem JZ{c}{y a}(h:¬(c y a).p=2):gR c y a=c:=by grind[gR]
theorem J3{c}{y a}(h:¬(c y a).p=1):EJ c y a=c:=by grind[EJ]
theorem J0{c}{y k}(h:(c y (k+1)).p=2):gR c y (k+1)=eZ c y k (bl (c y k)):=by grind[gR,eZ]
theorem J4{c}{y q}(h:(c y q).p=1):EJ c y q=eZ c y (q+1) (bl (c y (q+1))):=by grind[EJ,eZ]
theorem Hd{c}{y a x}(h:a<=x)  y'  :gR c y a y' x=c y' x:=by grind[gR]
section
variable{K M cap W H:Nat} {c:Nat->Nat->Ce}
theorem DM(w:World)(h:CS 84 47 w K M cap W H c)(h0:0<W)(hW:W<=400)(hH:H<=400)(y a q:Nat)(hy:y<H)(haq:a<=q)(hq:q<W)(hp:pS W (c y)):Cw 131 #[Pq K,Iq y,Iq a,Iq ((q:Int)+1)] w fun e w'=>e=Rw (.slice (some (aq M (y*W*5+a*5))) (q+1-a) (q+1-a))/\Cv 47 w' M W H (cut c y a q)/\bK M w w':=by
 have RC:Hid (Cw 172 #[Pq K,Iq y] w fun e w'=>e=Rw (.slice (some (aq M (y*W*5))) W W)/\Gr w w'):=UX w h h0 hW hH y hy;have BC:Hid (∀f g b w,Cw 30 #[sv f g b] w fun e w'=>e=Rw (NG (bk f g b))/\Gr w w'):=nK;have HV:Hid (Cv 47 w M W H c):=h.cv;have HP:Hid (pS W (c y)):=hp;obtain⟨o,ho⟩:=af (y*W*5);have HO:Hid (y*W*5=o):=ho;unfold sv NG bk at BC;rw[ho]at RC;clear h hp;rw[ho];clear ho;go_enter func131,ntmps131;go_wp2_with fail;refine ai RC ?_;rintro e w1 ⟨rfl,g1⟩;have V1:Hid (Cv 47 w1 M W H c):=HV.gr g1;have C1:Hid (bK M w w1):=bK.gr g1;clear g1 HV RC;have ca:=V1.c4 hy (show a<W by omega);rw[HO.out]at ca;obtain⟨pa,L9⟩:=af ((c y a).p);rw[L9]at ca;have HA:Hid ((c y a).p=pa):=L9;clear L9;go_upto_if 18 with fail;go_cut[9]from 13 to 29 (fun u wx=>u=.slice (some (aq M o)) W W/\Hid (Cv 47 wx M W H (gR c y a)/\bK M w wx));case first=>
  by_cases ht:pa=2
  ·obtain⟨k,OB,El,_⟩:=HP.tail a (by omega) (HA.trans ht);subst OB;have HC:Hid (gR c y (k+1)=eZ c y k (bl (c y k))):=J0 (HA.trans ht);subst ht;clear El;have b1:=V1.c1 hy (show k<W by omega);have b2:=V1.c2 hy (show k<W by omega);have b3:=V1.c3 hy (show k<W by omega);rw[HO.out]at b1 b2 b3;go_wp2_with(go_at_call 30;refine ai (BC _ _ _ _) ?_;rintro e w2 ⟨rfl,g2⟩;have V2:Hid (Cv 47 w2 M W H c):=V1.gr g2;have C2:Hid (bK M w w2):=C1.thenGr g2;clear g2;have d0:=V2.c0 hy (show k<W by omega);have d1:=V2.c1 hy (show k<W by omega);have d2:=V2.c2 hy (show k<W by omega);have d3:=V2.c3 hy (show k<W by omega);have d4:=V2.c4 hy (show k<W by omega);rw[HO.out]at d0 d1 d2 d3 d4;have f0:=V2.fz;have fl:=V2.lt);go_meet;refine⟨rfl,?_,?_⟩;·rw[HC.out,<-HO.out];exact V2.set hy (show k<W by omega) (bl (c y k))
   ·exact((((C2.set (.inl rfl) _ _).set (.inl rfl) _ _).set (.inl rfl) _ _).set (.inl rfl) _ _).set (.inl rfl) _ _
  ·have ht':(pa==2)=false:=by simpa using ht
   go_wp2_with fail;go_meet;exact⟨rfl,by rw[JZ (by rw[HA.out];exact ht)];exact V1,C1⟩
 case rest=>
  obtain⟨rfl,HR⟩:=hcut;clear V1 C1 ca;have cq:=HR.1.c4 hy hq;rw[HO.out]at cq;obtain⟨pq,hpq⟩:=af ((gR c y a y q).p);rw[hpq]at cq;have HQ:Hid ((gR c y a y q).p=pq):=hpq;clear hpq;have hcc:Hid ((c y q).p=pq):=by have:=HQ.out;rw[Hd haq]at this;exact this
  go_upto_if 36 with fail;go_cut[9]from 13 to 45 (fun u wx=>u=.slice (some (aq M o)) W W/\Hid (Cv 47 wx M W H (cut c y a q)/\bK M w wx));case first=>
   by_cases ht:pq=1
   ·obtain⟨hl,_⟩:=HP.head q hq (hcc.trans ht);have HC:Hid (cut c y a q=eZ (gR c y a) y (q+1) (bl (gR c y a y (q+1)))):=J4 (HQ.trans ht);subst ht;have b1:=HR.1.c1 hy hl;have b2:=HR.1.c2 hy hl;have b3:=HR.1.c3 hy hl;rw[HO.out]at b1 b2 b3;go_wp2_with(go_at_call 30;refine ai (BC _ _ _ _) ?_;rintro e w2 ⟨rfl,g2⟩;have V2:Hid (Cv 47 w2 M W H (gR c y a)):=HR.1.gr g2;have C2:Hid (bK M w w2):=HR.2.thenGr g2;clear g2;have d0:=V2.c0 hy hl;have d1:=V2.c1 hy hl;have d2:=V2.c2 hy hl;have d3:=V2.c3 hy hl;have d4:=V2.c4 hy hl;rw[HO.out]at d0 d1 d2 d3 d4;have f0:=V2.fz;have fl:=V2.lt);go_meet;refine⟨rfl,?_,?_⟩;·rw[HC.out,<-HO.out];exact V2.set hy hl (bl (gR c y a y (q+1)))
    ·exact((((C2.set (.inl rfl) _ _).set (.inl rfl) _ _).set (.inl rfl) _ _).set (.inl rfl) _ _).set (.inl rfl) _ _
   ·have ht':(pq==1)=false:=by simpa using ht
    go_wp2_with fail;go_meet;exact⟨rfl,by unfold cut;rw[J3 (by rw[HQ.out];exact ht)];exact HR.1,HR.2⟩
  case rest=>
   obtain⟨rfl,HZ⟩:=hcut;have hl1:a<=W:=by omega
   have nz:¬q+1=a:=by omega
   go_wp2;go_ret;exact⟨rfl,HZ.1,HZ.2⟩
end
def kR(ax ay aw ah bx eG bw bh:Int):Int×Int×Int×Int:=if gd ax aw bx bw>=ji ax aw bx bw\/gd ay ah eG bh>=ji ay ah eG bh then(0,0,0,0)else(gd ax aw bx bw,gd ay ah eG bh,ji ax aw bx bw-gd ax aw bx bw,ji ay ah eG bh-gd ay ah eG bh)
theorem XH  ax ay aw ah bx eG bw bh  :EE ax ay aw ah bx eG bw bh=rv (kR ax ay aw ah bx eG bw bh).1 (kR ax ay aw ah bx eG bw bh).2.1 (kR ax ay aw ah bx eG bw bh).2.2.1 (kR ax ay aw ah bx eG bw bh).2.2.2:=by grind[EE,kR]
def dx(W H:Int)(x y a b cx cy ca cb:Int):Int×Int×Int×Int:=kR 0 0 W H (kR x y a b cx cy ca cb).1 (kR x y a b cx cy ca cb).2.1 (kR x y a b cx cy ca cb).2.2.1 (kR x y a b cx cy ca cb).2.2.2
structure Jw(W H:Int)(x y a b cx cy ca cb:Int)(l t u v:Int):Prop where
 l0:0<=l
 t0:0<=t
 u0:0<=u
 v0:0<=v
 lu:l+u<=W
 tv:t+v<=H
 uv:0<u↔0<v
 mem:∀p q,(l<=p/\p<l+u/\t<=q/\q<t+v)↔((0<=p/\p<W/\0<=q/\q<H)/\(bM x<=p/\p<bM x+bD a/\bM y<=q/\q<bM y+bD b)/\(bM cx<=p/\p<bM cx+bD ca/\bM cy<=q/\q<bM cy+bD cb))
def cq(px py pa pb qx qy qa qb:Int):Int×Int×Int×Int:=if max px qx>=min (px+pa) (qx+qa)\/max py qy>=min (py+pb) (qy+qb)then(0,0,0,0)else(max px qx,max py qy,min (px+pa) (qx+qa)-max px qx,min (py+pb) (qy+qb)-max py qy)
theorem NP  px py pa pb qx qy qa qb p q  :((cq px py pa pb qx qy qa qb).1<=p/\p<(cq px py pa pb qx qy qa qb).1+(cq px py pa pb qx qy qa qb).2.2.1/\(cq px py pa pb qx qy qa qb).2.1<=q/\q<(cq px py pa pb qx qy qa qb).2.1+(cq px py pa pb qx qy qa qb).2.2.2)↔((px<=p/\p<px+pa/\py<=q/\q<py+pb)/\(qx<=p/\p<qx+qa/\qy<=q/\q<qy+qb)):=by unfold cq;grind
theorem Wa  px py pa pb qx qy qa qb  (h1:-100000<=px/\px<=100000) (h2:-100000<=py/\py<=100000) (h3:0<=pa/\pa<=100000) (h4:0<=pb/\pb<=100000) (h5:-100000<=qx/\qx<=100000) (h6:-100000<=qy/\qy<=100000):
 (-100000<=(cq px py pa pb qx qy qa qb).1/\(cq px py pa pb qx qy qa qb).1<=100000)/\(-100000<=(cq px py pa pb qx qy qa qb).2.1/\(cq px py pa pb qx qy qa qb).2.1<=100000)/\(0<=(cq px py pa pb qx qy qa qb).2.2.1/\(cq px py pa pb qx qy qa qb).2.2.1<=100000)/\(0<=(cq px py pa pb qx qy qa qb).2.2.2/\(cq px py pa pb qx qy qa qb).2.2.2<=100000)/\(0<(cq px py pa pb qx qy qa qb).2.2.1↔0<(cq px py pa pb qx qy qa qb).2.2.2):=by by_cases h:max px qx>=min (px+pa) (qx+qa)\/max py qy>=min (py+pb) (qy+qb);all_goals grind[cq]
theorem zaW{W H qx qy qa qb}(hW:1<=W)(hH:1<=H):0<=(cq 0 0 W H qx qy qa qb).1/\0<=(cq 0 0 W H qx qy qa qb).2.1/\(cq 0 0 W H qx qy qa qb).1+(cq 0 0 W H qx qy qa qb).2.2.1<=W/\(cq 0 0 W H qx qy qa qb).2.1+(cq 0 0 W H qx qy qa qb).2.2.2<=H:=by grind[cq]
theorem sP  ax ay aw ah bx eG bw bh  :kR ax ay aw ah bx eG bw bh=cq (bM ax) (bM ay) (bD aw) (bD ah) (bM bx) (bM eG) (bD bw) (bD bh):=rfl
theorem eF{W H}(hW:1<=W/\W<=400)(hH:1<=H/\H<=400)  x y a b cx cy ca cb  :
 Jw W H x y a b cx cy ca cb (dx W H x y a b cx cy ca cb).1 (dx W H x y a b cx cy ca cb).2.1 (dx W H x y a b cx cy ca cb).2.2.1 (dx W H x y a b cx cy ca cb).2.2.2:=by have k:=Wa (bM x) (bM y) (bD a) (bD b) (bM cx) (bM cy) (bD ca) (bD cb) (eO x) (eO y) (dq a) (dq b) (eO cx) (eO cy);have m1:=NP (bM x) (bM y) (bD a) (bD b) (bM cx) (bM cy) (bD ca) (bD cb);unfold dx;rw[sP x y a b cx cy ca cb];generalize cq (bM x) (bM y) (bD a) (bD b) (bM cx) (bM cy) (bD ca) (bD cb)=z at k m1⊢;obtain⟨i0,i1,i2,i3⟩:=z;simp only at k m1⊢;rw[sP,mH (n:=i0) k.1,mH (n:=i1) k.2.1,dP (n:=i2) k.2.2.1,dP (n:=i3) k.2.2.2.1,dP (n:=W) (by omega),dP (n:=H) (by omega),show bM 0=0 from rfl];have k2:=Wa 0 0 W H i0 i1 i2 i3 (by omega) (by omega) (by omega) (by omega) k.1 k.2.1;have m2:=NP 0 0 W H i0 i1 i2 i3;have k3:=zaW (qx:=i0) (qy:=i1) (qa:=i2) (qb:=i3) hW.1 hH.1;generalize cq 0 0 W H i0 i1 i2 i3=z at k2 m2 k3⊢;obtain⟨j0,j1,j2,j3⟩:=z;simp only at k2 m2 k3⊢;refine⟨k3.1,k3.2.1,k2.2.2.1.1,k2.2.2.2.1.1,k3.2.2.1,k3.2.2.2,k2.2.2.2.2,fun p q=>?_⟩;grind
section
variable{K M cap W H:Nat} {c:Nat->Nat->Ce}
theorem DA(w:World)(h:CS 84 47 w K M cap W H c)(x y a b cx cy ca cb:Int):Cw 129 #[Pq K,rv x y a b,rv cx cy ca cb] w fun e w'=>e=Rw (rv (dx W H x y a b cx cy ca cb).1 (dx W H x y a b cx cy ca cb).2.1 (dx W H x y a b cx cy ca cb).2.2.1 (dx W H x y a b cx cy ca cb).2.2.2)/\Gr w w':=by
 have k0:=h.k0;have k1:=h.k1;have kl:=h.klt;clear h;have CP:Hid (∀ax ay aw ah bx eG bw bh w,Cw 122 #[rv ax ay aw ah,rv bx eG bw bh] w fun e w'=>e=Rw (rv (kR ax ay aw ah bx eG bw bh).1 (kR ax ay aw ah bx eG bw bh).2.1 (kR ax ay aw ah bx eG bw bh).2.2.1 (kR ax ay aw ah bx eG bw bh).2.2.2)/\Gr w w'):=fun ax ay aw ah bx eG bw bh w=>by rw[<-XH];exact G_ ax ay aw ah bx eG bw bh w
 obtain⟨q1,lA⟩:=af (kR x y a b cx cy ca cb);have C1:=CP x y a b cx cy ca cb;rw[lA]at C1;obtain⟨i0,i1,i2,i3⟩:=q1;obtain⟨q2,nT⟩:=af (kR 0 0 (W:Int) (H:Int) i0 i1 i2 i3);have C2:=CP 0 0 W H i0 i1 i2 i3;rw[nT]at C2;obtain⟨j0,j1,j2,j3⟩:=q2;have HQ:Hid (dx W H x y a b cx cy ca cb=(j0,j1,j2,j3)):=by show _=_;unfold dx;rw[lA];exact nT
 rw[HQ.out];clear lA nT CP;unfold rv at C1 C2⊢;simp only at C1 C2⊢;go_enter func129,ntmps129;go_wp2_with fail;obtain⟨S,hS⟩:=af w.heap.size;have HS:Hid (w.heap.size=S):=hS;obtain⟨W0,bc⟩:=af (((w.alloc (.cells #[Iq x,Iq y,Iq a,Iq b] 100)).alloc (.cells #[Iq cx,Iq cy,Iq ca,Iq cb] 100)).alloc (.cells #[Iq 0,Iq 0,Iq 0,Iq 0] 100));have G0:Hid (Gr w W0):=by rw[<-bc];exact(((Gr.refl w).alloc _).alloc _).alloc _
 have RA:Hid (R4 100 W0 S x y a b):=by rw[<-bc,<-hS];exact(R4.new w _ _ _ _ _).gr (((Gr.refl _).alloc _).alloc _)
 have RB:Hid (R4 100 W0 (S+1) cx cy ca cb):=by have:=R4.new (w.alloc (.cells #[Iq x,Iq y,Iq a,Iq b] 100)) cx cy ca cb 100;simp only[aA,hS]at this;rw[<-bc];exact this.gr ((Gr.refl _).alloc _)
 have RC:Hid (R4 100 W0 (S+1+1) 0 0 0 0):=by have:=R4.new ((w.alloc (.cells #[Iq x,Iq y,Iq a,Iq b] 100)).alloc (.cells #[Iq cx,Iq cy,Iq ca,Iq cb] 100)) 0 0 0 0 100;simp only[aA,hS]at this;rw[<-bc];exact this
 have k0':=(ba (a:=(aq K 0)) (G0.block kl)).trans k0;have k1':=(ba (a:=(aq K 1)) (G0.block kl)).trans k1;have sz:Hid (W0.heap.size=S+3):=by show W0.heap.size=S+3;rw[<-bc];simp only[aA,hS]
 have kl0:K<W0.heap.size:=by rw[sz.out,<-HS.out];omega
 rw[bc,hS];clear bc hS k0 k1;go_cut[4,5,6,7]from 8 to 16 (fun u v t s wx=>u=Pq S/\v=Pq (S+1)/\t=Pq (S+1+1)/\s=Pq W0.heap.size/\Hid (R4 100 wx S x y a b/\R4 100 wx (S+1) cx cy ca cb/\R4 100 wx (S+1+1) 0 0 0 0/\R4 100 wx W0.heap.size 0 0 W H/\Gr w wx));case first=>go_region;all_goals go_wp2_with fail;go_meet;have gz:Gr W0 (W0.alloc (.cells #[Iq 0,Iq 0,Iq W,Iq H] 100)).drew:=((Gr.refl W0).alloc _).drew;exact⟨rfl,rfl,rfl,rfl,RA.gr gz,RB.gr gz,RC.gr gz,(R4.new W0 0 0 W H _).gr ((Gr.refl _).drew),G0.trans gz⟩
 case rest=>obtain⟨rfl,rfl,rfl,rfl,HR⟩:=hcut;obtain⟨Z,hZ⟩:=af W0.heap.size;have HZ:Hid (Z=S+3):=hZ.symm.trans sz;rw[hZ]at HR;rw[hZ];clear hZ RA RB RC kl0 k0' k1' G0 sz;have a0:=HR.1.c0;have a1:=HR.1.c1;have a2:=HR.1.c2;have a3:=HR.1.c3;have b0:=HR.2.1.c0;have b1:=HR.2.1.c1;have b2:=HR.2.1.c2;have b3:=HR.2.1.c3;have z0:=HR.2.2.2.1.c0;have z1:=HR.2.2.2.1.c1;have z2:=HR.2.2.2.1.c2;have z3:=HR.2.2.2.1.c3;go_wp2_with fail;go_region_with(go_at_call 122;(first|(with_reducible refine ai (C1 _) ?_)|(with_reducible refine ai (C2 _) ?_));rintro e wn ⟨rfl,E8⟩;have k_:Hid (Gr wc wn):=(by first|exact((Gr.refl wc).drew).trans E8|exact Gr.trans (rR (by assumption)) E8);clear E8;have m0:=(HR.out.1.gr k_.out).c0;have m1:=(HR.out.1.gr k_.out).c1;have m2:=(HR.out.1.gr k_.out).c2;have m3:=(HR.out.1.gr k_.out).c3;have n0:=(HR.out.2.1.gr k_.out).c0;have n1:=(HR.out.2.1.gr k_.out).c1;have n2:=(HR.out.2.1.gr k_.out).c2;have n3:=(HR.out.2.1.gr k_.out).c3;have o0:=(HR.out.2.2.2.1.gr k_.out).c0;have o1:=(HR.out.2.2.2.1.gr k_.out).c1;have o2:=(HR.out.2.2.2.1.gr k_.out).c2;have o3:=(HR.out.2.2.2.1.gr k_.out).c3;have p0:=(HR.out.2.2.1.gr k_.out).c0;have p1:=(HR.out.2.2.1.gr k_.out).c1;have p2:=(HR.out.2.2.1.gr k_.out).c2;have p3:=(HR.out.2.2.1.gr k_.out).c3;have f0:=(HR.out.2.2.1.gr k_.out).fz 0;have f1:=(HR.out.2.2.1.gr k_.out).fz 1;have f2:=(HR.out.2.2.1.gr k_.out).fz 2;have f3:=(HR.out.2.2.1.gr k_.out).fz 3);all_goals go_wp2_with fail;refine bodyPost_ret (results_cell_row rfl _ _ (S+1+1) _ _ _ _ rfl ((HR.2.2.1.gr k_).set _ _ _ _) underlying100 rfl (by kernel_rfl)) rfl ?_;exact⟨rfl,(HR.2.2.2.2.trans k_).set4 (by rw[HS.out];omega) _ _ _ _⟩
end
def part(c:Nat->Nat->Ce)(y a q i:Nat)(x:Nat->Ce):Nat->Nat->Ce:=fun y' x'=>if y'=y/\a<=x'/\x'<a+i then x x' else cut c y a q y' x'
theorem xR  c   y a q   x  :part c y a q 0 x=cut c y a q:=by grind[part]
theorem tZ  c   y a q i   x  :eZ (part c y a q i x) y (a+i) (x (a+i))=part c y a q (i+1) x:=by grind[part,eZ,cut]
theorem qJ  c   y a q   x  (h:a<=q):part c y a q (q+1-a) x=fill c a (q+1) y (y+1) x:=by
 funext y' x';unfold part fill;by_cases hy:y'=y
 ·subst hy;rw[if_pos (c:=y'<=y'/\y'<y'+1) (by omega)];unfold span;by_cases h1:a<=x'/\x'<q+1;·grind
  ·rw[if_neg (by omega),if_neg h1];unfold cut EJ;grind[gR,Hd]
 ·rw[if_neg (fun k=>hy k.1),if_neg (by omega)];simp_all[cut,EJ,gR]
def R5(T:TypeId)(Q:World)(b:Nat)(e:Ce):Prop:=Q.heap[b]?=some (.cells #[.string e.t,Iq e.f,Iq e.g,Iq e.b,Iq e.p] T (0,0))
section
variable{T:TypeId} {Q Q':World} {b k:Nat} {e:Ce}
theorem R5.lt(h:R5 T Q b e):b<Q.heap.size:=(az.1 h).1
theorem R5.c0(h:R5 T Q b e):Q.cell? (aq b 0)=some (.string e.t):=by unfold R5 at h;simp[World.cell?,h]
theorem R5.c1(h:R5 T Q b e):Q.cell? (aq b 1)=some (Iq e.f):=by unfold R5 at h;simp[World.cell?,h]
theorem R5.c2(h:R5 T Q b e):Q.cell? (aq b 2)=some (Iq e.g):=by unfold R5 at h;simp[World.cell?,h]
theorem R5.c3(h:R5 T Q b e):Q.cell? (aq b 3)=some (Iq e.b):=by unfold R5 at h;simp[World.cell?,h]
theorem R5.c4(h:R5 T Q b e):Q.cell? (aq b 4)=some (Iq e.p):=by unfold R5 at h;simp[World.cell?,h]
theorem R5.gr(h:R5 T Q b e)(g:Gr Q Q'):R5 T Q' b e:=(g.block h.lt).trans h
theorem R5.ch(h:R5 T Q b e)(g:bK k Q Q')(hk:b≠k):R5 T Q' b e:=(g.block b h.lt hk).trans h
theorem R5.new(Q:World)  e   T  :R5 T (Q.alloc (.cells #[.string e.t,Iq e.f,Iq e.g,Iq e.b,Iq e.p] T)) Q.heap.size e:=heap_alloc_new _ _
end
theorem bK.set5{M o0 o1 o2 o3 o4}{W W'}(h:bK M W W')  v0 v1 v2 v3 v4  :bK M W (((((W'.setCell (aq M o0) v0).setCell (aq M o1) v1).setCell (aq M o2) v2).setCell (aq M o3) v3).setCell (aq M o4) v4):=
 ((((h.set (.inl rfl) _ _).set (.inl rfl) _ _).set (.inl rfl) _ _).set (.inl rfl) _ _).set (.inl rfl) _ _
theorem R4.ch{T}{Q Q'}{b k}{x y a c}(h:R4 T Q b x y a c)(g:bK k Q Q')(hk:b≠k):R4 T Q' b x y a c:=(g.block b h.lt hk).trans h
section
variable{K M cap W H:Nat} {c:Nat->Nat->Ce}
theorem rN  w  (h:CS 84 47 w K M cap W H c) (hW:1<=W/\W<=400) (hH:H<=400) (hp:PAll W H c) (y a z:Int) (hy:0<=y/\y<H) (ha:0<=a/\a<z) (hz:z<=W):Cw 131 #[Pq K,Iq y,Iq a,Iq z] w fun e w'=>e=Rw (.slice (some (aq M (y.toNat*W*5+a.toNat*5))) (z-a).toNat (z-a).toNat)/\Cv 47 w' M W H (cut c y.toNat a.toNat (z.toNat-1))/\bK M w w':=by obtain⟨Y,rfl⟩:=Int.eq_ofNat_of_zero_le hy.1;obtain⟨A,rfl⟩:=Int.eq_ofNat_of_zero_le ha.1;obtain⟨Q,rfl⟩:∃Q:Nat,z=(Q:Int)+1:=⟨(z-1).toNat,by omega⟩;have:=DM w h (by omega) hW.2 hH Y A Q (by omega) (by omega) (by omega) (hp Y (by omega));grind
theorem pZ(w:World)(h:CS 84 47 w K M cap W H c)(hW:1<=W/\W<=400)(hH:1<=H/\H<=400)(hp:PAll W H c)(x y a b f g bd cx cy ca cb:Int)(l t u v:Int)(hq:dx W H x y a b cx cy ca cb=(l,t,u,v)):
 Cw 72 #[Pq K,rv x y a b,sv f g bd,rv cx cy ca cb] w fun e w'=>e=Rw (.tuple #[])/\Cv 47 w' M W H (fill c l.toNat (l+u).toNat t.toNat (t+v).toNat (fun _=>bk (kn f) (kn g) (bo bd)))/\bK M w w':=by
 have SF:=eF (W:=W) (H:=H) (by omega) (by omega) x y a b cx cy ca cb;have SN:Hid (∀w0,CS 84 47 w0 K M cap W H c->Cw 129 #[Pq K,rv x y a b,rv cx cy ca cb] w0 fun e w'=>e=Rw (rv l t u v)/\Gr w0 w'):=fun w0 h0=>by have:=DA w0 h0 x y a b cx cy ca cb;grind
 rw[hq]at SF;have CN:Hid (∀f g b w,Cw 130 #[sv f g b] w fun e w'=>e=Rw (sv (kn f) (kn g) (bo b))/\Gr w w'):=tY;have BL:Hid (∀f g b w,Cw 30 #[sv f g b] w fun e w'=>e=Rw (NG (bk f g b))/\Gr w w'):=nK;have HC:Hid (CS 84 47 w K M cap W H c):=h;have HP:Hid (PAll W H c):=hp;clear h hp hq;obtain⟨e,he⟩:=af (bk (kn f) (kn g) (bo bd));have B1:=BL (kn f) (kn g) (bo bd);rw[he]at B1⊢;have HE:Hid (e.p=0):=by rw[<-he];rfl
 clear he BL;have C1:=CN f g bd;obtain⟨kf,OC⟩:=af (kn f);obtain⟨kg,KC⟩:=af (kn g);obtain⟨kb,L6⟩:=af (bo bd);rw[OC,KC,L6]at B1 C1;clear OC KC L6 CN;unfold rv at SN;unfold rv sv;unfold sv NG at B1;unfold sv at C1;have l0:=SF.l0;have t0:=SF.t0;have u0:=SF.u0;have v0:=SF.v0;have lu:=SF.lu;have tv:=SF.tv;have HS:Hid (0<u↔0<v):=SF.uv;clear SF;go_enter func72,ntmps72;go_wp2_with fail;refine ai (SN _ (HC.gr ((((Gr.refl w).alloc _).alloc _).alloc _))) ?_;rintro e1 w1 ⟨rfl,g1⟩;have G1:Hid (Gr w w1):=((((Gr.refl w).alloc _).alloc _).alloc _).trans g1;have RS:Hid (R3 45 w1 (w.heap.size+1) f g bd):=by have:=R3.new (w.alloc (.cells #[Iq x,Iq y,Iq a,Iq b] 100)) f g bd 45;simp only[aA]at this;exact(this.gr ((Gr.refl _).alloc _)).gr g1
 clear g1 SN;have s0:=RS.c0;have s1:=RS.c1;have s2:=RS.c2;have sl:=RS.lt;go_wp2_with fail;refine ai (C1 _) ?_;rintro e2 w2 ⟨rfl,g2⟩;have RR:Hid (R4 100 w2 w1.heap.size l t u v):=(R4.new w1 _ _ _ _ _).gr g2;have G2:Hid (Gr w w2):=(G1.alloc _).trans g2;have Z1:Hid (w.heap.size<=w1.heap.size):=G1.size;obtain⟨Z,hZ⟩:=af w1.heap.size;rw[hZ]at RR Z1;rw[hZ];clear hZ g2 s0 s1 s2 sl RS C1 G1;go_wp2_with fail;refine ai (B1 _) ?_;rintro e3 w3 ⟨rfl,g3⟩;have R2:Hid (R4 100 w3 Z l t u v):=RR.gr g3;have G3:Hid (Gr w w3):=G2.trans g3;clear g3 B1 RR G2;obtain⟨W4,vR⟩:=af (w3.alloc (.cells #[.string e.t,Iq e.f,Iq e.g,Iq e.b,Iq e.p] 47));have MI:Hid (R4 100 W4 Z l t u v):=by rw[<-vR];exact R2.gr ((Gr.refl _).alloc _)
 have G4:Hid (Gr w W4):=by rw[<-vR];exact G3.alloc _
 have P4:Hid (R5 47 W4 w3.heap.size e):=by rw[<-vR];exact R5.new w3 e _
 have Z2:Hid (w.heap.size<=w3.heap.size):=G3.size;obtain⟨P,hP⟩:=af w3.heap.size;rw[hP]at P4 Z2;have HM:Hid (M<w.heap.size):=HC.cv.lt;have ZM:Hid (Z≠M):=(fun q=>by have:=HM.out;have:=Z1.out;omega:Z≠M);have PM:Hid (P≠M):=(fun q=>by have:=HM.out;have:=Z2.out;omega:P≠M);have KM:Hid (K≠M):=HC.ne;have x0:=MI.c0;have x1:=MI.c1;have x2:=MI.c2;have x3:=MI.c3;go_wp2_with fail;clear hP vR R2 G3;go_loopw[10] (fun yv wr=>∃k:Int,t<=k/\k<=t+v/\yv=Iq k/\Hid (Cv 47 wr M W H (fill c l.toNat (l+u).toNat t.toNat k.toNat (fun _=>e))/\bK M w wr/\R4 100 wr Z l t u v/\R5 47 wr P e)) (fun yv _=>(t+v-intOf yv).toNat);case atStart=>exact⟨t,by omega,by omega,rfl,by rw[Kb (by omega)];exact HC.cv.gr G4,bK.gr G4,MI,P4⟩
 case round=>
  obtain⟨k,El,Wr,rfl,HR⟩:=hrel;clear x0 x1 x2 x3 MI P4 G4;have x0:=HR.2.2.1.c0;have x1:=HR.2.2.1.c1;have x2:=HR.2.2.1.c2;have x3:=HR.2.2.1.c3;by_cases hlt:k<t+v
  ·have hv:0<v:=by omega
   have hu:=HS.2 hv;obtain⟨U,hU⟩:∃U:Nat,(U:Int)=u:=⟨u.toNat,by omega⟩;have ST:Hid (Cw 131 #[Pq K,Iq k,Iq l,Iq (l+u)] wr fun e' w'=>e'=Rw (.slice (some (aq M (k.toNat*W*5+l.toNat*5))) U U)/\Cv 47 w' M W H (cut (fill c l.toNat (l+u).toNat t.toNat k.toNat (fun _=>e)) k.toNat l.toNat ((l+u).toNat-1))/\bK M wr w'):=by have:=rN wr (HC.put HR.2.1 HR.1) hW hH.2 (HP.fill0 (by omega) (fun _=>HE)) k l (l+u) (by omega) (by omega) lu;rw[show(l+u-l).toNat=U by omega]at this;exact this
   obtain⟨o,ho⟩:=af (k.toNat*W*5+l.toNat*5);have HO:Hid (k.toNat*W*5+l.toNat*5=o):=ho;rw[ho]at ST;clear ho;have hUb:U<=400:=by omega
   have HU:Hid ((U:Int)=u):=hU;clear hU;have HQ:Hid ((l+u).toNat-1+1-l.toNat=U/\(l+u).toNat-1+1=(l+u).toNat/\l.toNat<=(l+u).toNat-1):=⟨by have:=HU.out;omega,by omega,by omega⟩;go_wp2_with(go_at_call 131;refine ai ST ?_;rintro e4 w4 ⟨rfl,V4,C4⟩;have VN:Hid (Cv 47 w4 M W H (part (fill c l.toNat (l+u).toNat t.toNat k.toNat (fun _=>e)) k.toNat l.toNat ((l+u).toNat-1) 0 (fun _=>e))/\bK M w w4/\R4 100 w4 Z l t u v/\R5 47 w4 P e):=(⟨(by grind[xR]),HR.2.1.trans C4,HR.2.2.1.ch C4 ZM,HR.2.2.2.ch C4 PM⟩:Cv 47 w4 M W H (part (fill c l.toNat (l+u).toNat t.toNat k.toNat (fun _=>e)) k.toNat l.toNat ((l+u).toNat-1) 0 (fun _=>e))/\bK M w w4/\R4 100 w4 Z l t u v/\R5 47 w4 P e);clear V4 C4);go_loopw[43] (fun iv wi=>∃i:Nat,i<=U/\iv=Iq i/\Hid (Cv 47 wi M W H (part (fill c l.toNat (l+u).toNat t.toNat k.toNat (fun _=>e)) k.toNat l.toNat ((l+u).toNat-1) i (fun _=>e))/\bK M w wi/\R4 100 wi Z l t u v/\R5 47 wi P e)) (fun iv _=>U-(intOf iv).toNat);case atStart=>grind
   case round=>
    obtain⟨i,hi,rfl,HI⟩:=hrel;by_cases Oz:i<U
    ·have hx:l.toNat+i<W:=by have:=HU.out;omega
     have hy:k.toNat<H:=by omega
     have d0:=HI.1.c0 hy hx;have d1:=HI.1.c1 hy hx;have d2:=HI.1.c2 hy hx;have d3:=HI.1.c3 hy hx;have d4:=HI.1.c4 hy hx;have eo:k.toNat*W*5+(l.toNat+i)*5=o+i*5:=by rw[<-HO.out];omega
     rw[eo]at d0 d1 d2 d3 d4;have EO:Hid (k.toNat*W*5+(l.toNat+i)*5=o+i*5):=eo;clear eo;have fz:=HI.1.fz;have p0:=HI.2.2.2.c0;have p1:=HI.2.2.2.c1;have p2:=HI.2.2.2.c2;have p3:=HI.2.2.2.c3;have p4:=HI.2.2.2.c4;have zgI:(i:Int)<(U:Int):=by omega
     go_wp2;go_roundw;case rel=>have VS:=HI.1.set hy hx e;rw[EO.out,tZ _ _ _ _ _ (fun _=>e)]at VS;exact⟨i+1,by omega,by go_num,VS,HI.2.1.set5 _ _ _ _ _,HI.2.2.1.ch ((bK.refl M _).set5 _ _ _ _ _) ZM,HI.2.2.2.ch ((bK.refl M _).set5 _ _ _ _ _) PM⟩
     case measure=>simp[intOf];omega
    ·have zgI:¬(i:Int)<(U:Int):=by omega
     have hiU:i=U:=by omega
     have VD:Hid (Cv 47 wr M W H (fill c l.toNat (l+u).toNat t.toNat (k+1).toNat (fun _=>e))):=by have:=HI.1;rw[hiU,<-HQ.1,qJ _ _ _ _ _ HQ.2.2,HQ.2.1,Ka (by omega),show k.toNat+1=(k+1).toNat by omega]at this;exact this
     go_wp2;go_roundw;case rel=>exact⟨k+1,by omega,by omega,by go_num,VD,HI.2⟩
     case measure=>simp[intOf];omega
  ·have jd:k=t+v:=by omega
   go_wp2;go_end0;exact⟨rfl,by have:=HR.1;grind,HR.2.1⟩
end
def xB(l:Nat)(wd:Int)(fk:ByteArray)(f g b:Int):Nat->Ce:=fun j=>if wd=2 then(if j=l then⟨fk,f,g,b,1⟩else⟨XS,f,g,b,2⟩)else⟨fk,f,g,b,0⟩
def putX(l u wd:Int)(fk:ByteArray)(f g b:Int):Nat->Ce:=if u<wd then fun _=>bk (kn f) (kn g) (bo b)else xB l.toNat wd fk (kn f) (kn g) (bo b)
def Ld(c:Nat->Nat->Ce)(wd:Int)(fk:ByteArray)(f g b:Int)(q:Int×Int×Int×Int):Nat->Nat->Ce:=
 if wd=1\/wd=2 then fill c q.1.toNat (q.1+q.2.2.1).toNat q.2.1.toNat (q.2.1+q.2.2.2).toNat (putX q.1 q.2.2.1 wd fk f g b)else c
def iY(W H:Nat)(c:Nat->Nat->Ce)(x y:Int)(fk:ByteArray)(wd:Int)(f g b cx cy ca cb:Int):Nat->Nat->Ce:=Ld c wd fk f g b (dx W H x y wd 1 cx cy ca cb)
def kq(W H:Nat)(c:Nat->Nat->Ce)(x y a b f g bd cx cy ca cb:Int):Nat->Nat->Ce:=
 fill c (dx W H x y a b cx cy ca cb).1.toNat ((dx W H x y a b cx cy ca cb).1+(dx W H x y a b cx cy ca cb).2.2.1).toNat (dx W H x y a b cx cy ca cb).2.1.toNat ((dx W H x y a b cx cy ca cb).2.1+(dx W H x y a b cx cy ca cb).2.2.2).toNat (fun _=>bk (kn f) (kn g) (bo bd))
theorem Jw.whole{W H x y wd cx cy ca cb l t u v}(h:Jw W H x y wd 1 cx cy ca cb l t u v)(hw:wd=1\/wd=2)(hu:wd<=u)(hW:W<=400)(hH:H<=400):l=x/\t=y/\u=wd/\v=1:=by have l0:=h.l0;have t0:=h.t0;have lu:=h.lu;have tv:=h.tv;have uv:=h.uv;have m1:=(h.mem l t).1 (by omega);have m2:=(h.mem (l+u-1) (t+v-1)).1 (by omega);have e:bD wd=wd:=dP (by omega);have e1:bD 1=1:=rfl;rw[e,e1]at m1 m2;grind[eO,bM]
theorem Jw.most{W H x y wd cx cy ca cb l t u v}(h:Jw W H x y wd 1 cx cy ca cb l t u v)(hw:wd=1\/wd=2):u<=wd:=by
 by_cases hu:0<u;·have uv:=h.uv;have m1:=(h.mem l t).1 (by omega);have m2:=(h.mem (l+u-1) (t+v-1)).1 (by omega);have e:bD wd=wd:=dP (by omega);rw[e]at m1 m2;omega
 ·omega
theorem PAll.putX{W H}{c}(h:PAll W H c)(hW:1<=W/\W<=400)(hH:1<=H/\H<=400)  x y   fk   wd f g b cx cy ca cb  :PAll W H (iY W H c x y fk wd f g b cx cy ca cb):=by
 have SF:=eF (W:=W) (H:=H) (by omega) (by omega) x y wd 1 cx cy ca cb;unfold iY Ld;obtain⟨q,hq⟩:=af (dx W H x y wd 1 cx cy ca cb);rw[hq]at SF⊢;obtain⟨l,t,u,v⟩:=q;simp only at SF⊢;have lu:=SF.lu;have l0:=SF.l0;have u0:=SF.u0;split
 ·rename_i hw;unfold Go.Proofs.YtadhgppeafpdgaaGreatDoor.putX;by_cases hu:u<wd;·rw[if_pos hu];exact h.fill0 (by omega) (fun _=>rfl)
  ·rw[if_neg hu];obtain⟨e1,e2,e3,e4⟩:=SF.whole hw (by omega) (by omega) (by omega);rcases hw with hw|hw;·refine h.fill0 (by omega) (fun j=>?_);unfold xB;rw[if_neg (by omega)]
   ·rw[show(l+u).toNat=l.toNat+2 by omega];refine h.fill2 (by omega) ?_ ?_ ?_ ?_ ?_ ?_<;>(unfold xB;simp[hw])
 ·exact h
theorem PAll.filX{W H}{c}(h:PAll W H c)(hW:1<=W/\W<=400)(hH:1<=H/\H<=400)  x y a b f g bd cx cy ca cb  :PAll W H (kq W H c x y a b f g bd cx cy ca cb):=by have SF:=eF (W:=W) (H:=H) (by omega) (by omega) x y a b cx cy ca cb;unfold kq;exact h.fill0 (by have:=SF.lu;have:=SF.l0;omega) (fun _=>rfl)
def ou(T:TypeId)(Q:World)(b:Nat)(fk:ByteArray)(wd:Int):Prop:=Q.heap[b]?=some (.cells #[.string fk,Iq wd] T (0,0))
section
variable{T:TypeId} {Q Q':World} {b k:Nat} {fk:ByteArray} {wd:Int}
theorem ou.lt(h:ou T Q b fk wd):b<Q.heap.size:=(az.1 h).1
theorem ou.c0(h:ou T Q b fk wd):Q.cell? (aq b 0)=some (.string fk):=by unfold ou at h;simp[World.cell?,h]
theorem ou.c1(h:ou T Q b fk wd):Q.cell? (aq b 1)=some (Iq wd):=by unfold ou at h;simp[World.cell?,h]
theorem ou.gr(h:ou T Q b fk wd)(g:Gr Q Q'):ou T Q' b fk wd:=(g.block h.lt).trans h
theorem ou.ch(h:ou T Q b fk wd)(g:bK k Q Q')(hk:b≠k):ou T Q' b fk wd:=(g.block b h.lt hk).trans h
theorem ou.other(h:ou T Q b fk wd)(hk:b≠k)  o   v  :ou T (Q.setCell (aq k o) v) b fk wd:=(bv Q (aq k o) v b hk).trans h
theorem ou.new(Q:World)  fk   wd   T  :ou T (Q.alloc (.cells #[.string fk,Iq wd] T)) Q.heap.size fk wd:=heap_alloc_new _ _
end
theorem R3.ch{T}{Q Q'}{b k}{x y a}(h:R3 T Q b x y a)(g:bK k Q Q')(hk:b≠k):R3 T Q' b x y a:=(g.block b h.lt hk).trans h
theorem UM  c   Y X y' x'   fk   kf kg kb  :
 eZ (eZ (eZ (cut c Y X (X+1)) Y X ⟨fk,kf,kg,kb,0⟩) Y X {eZ (cut c Y X (X+1)) Y X ⟨fk,kf,kg,kb,0⟩ Y X with p:=1}) Y (X+1) ⟨XS,kf,kg,kb,2⟩ y' x'=part c Y X (X+1) (X+1+1-X) (xB X 2 fk kf kg kb) y' x':=by grind[eZ,cut,part,xB,XS]
theorem zfN  a b c d   W  :Sem.run prog (Instr.field 100 (Value.agg #[a,b,c,d]) 2) W=Result.ok c W:=by unfold Instr.field;simp[go_sem];rfl
section
variable{K M cap W H:Nat} {c:Nat->Nat->Ce}
theorem Iv(w:World)(h:CS 84 47 w K M cap W H c)(hW:1<=W/\W<=400)(hH:1<=H/\H<=400)(hp:PAll W H c)(x y:Int)(fk:ByteArray)(wd f g b cx cy ca cb:Int):
 Calls prog 146 #[Pq K,Iq x,Iq y,.agg #[.string fk,Iq wd],sv f g b,rv cx cy ca cb] w fun e w'=>e=.returned (.tuple #[])/\Cv 47 w' M W H (iY W H c x y fk wd f g b cx cy ca cb)/\bK M w w':=by
 have SF:=eF (W:=W) (H:=H) (by omega) (by omega) x y wd 1 cx cy ca cb;unfold iY;obtain⟨q,hq⟩:=af (dx W H x y wd 1 cx cy ca cb);have SN:Hid (∀w0,CS 84 47 w0 K M cap W H c->Calls prog 129 #[Pq K,rv x y wd 1,rv cx cy ca cb] w0 fun e w'=>e=.returned (rv q.1 q.2.1 q.2.2.1 q.2.2.2)/\Gr w0 w'):=fun w0 h0=>by have:=DA w0 h0 x y wd 1 cx cy ca cb;grind
 rw[hq]at SF⊢;obtain⟨l,t,u,v⟩:=q;have FL:Hid (∀w0,CS 84 47 w0 K M cap W H c->Calls prog 72 #[Pq K,rv x y wd 1,sv f g b,rv cx cy ca cb] w0 fun e w'=>e=.returned (.tuple #[])/\Cv 47 w' M W H (fill c l.toNat (l+u).toNat t.toNat (t+v).toNat (fun _=>bk (kn f) (kn g) (bo b)))/\bK M w0 w'):=fun w0 h0=>pZ w0 h0 hW hH hp x y wd 1 f g b cx cy ca cb l t u v hq;simp only at SN SF;unfold Ld;simp only;have CN:Hid (∀f g b w,Calls prog 130 #[sv f g b] w fun e w'=>e=.returned (sv (kn f) (kn g) (bo b))/\Gr w w'):=tY;have HC:Hid (CS 84 47 w K M cap W H c):=h;have HP:Hid (PAll W H c):=hp;have HF:Hid (Jw W H x y wd 1 cx cy ca cb l t u v):=SF;clear h hp hq SF;unfold rv at SN FL;unfold rv sv;unfold sv at CN FL;have C1:=CN f g b;obtain⟨S,hS⟩:=af w.heap.size;have HS:Hid (w.heap.size=S):=hS;by_cases h1:wd=1\/wd=2
 ·have HI:Hid ((if wd=1\/wd=2 then fill c l.toNat (l+u).toNat t.toNat (t+v).toNat (putX l u wd fk f g b)else c)=fill c l.toNat (l+u).toNat t.toNat (t+v).toNat (putX l u wd fk f g b)):=if_pos h1;rw[HI.out];clear HI;have H1:=qH h1;obtain⟨n,HWD,hn⟩:∃n:Nat,(Hid (wd=1/\n=1)/\(wd !=1)=false\/Hid (wd=2/\n=2)/\(wd !=1)=true/\(wd !=2)=false)/\(n:Int)=wd:=by
   rcases h1 with rfl|rfl;·exact⟨1,.inl ⟨⟨rfl,rfl⟩,rfl⟩,rfl⟩
   ·exact⟨2,.inr ⟨⟨rfl,rfl⟩,rfl,rfl⟩,rfl⟩
  have OW:1<=wd/\wd<=2:=by omega
  clear h1;go_enter func146,ntmps146;rcases HWD with⟨HWD,n1⟩|⟨HWD,n1,n2⟩;all_goals
   go_wp2_with fail;obtain⟨W0,bc⟩:=af ((((w.alloc (.cells #[.string fk,Iq wd] 57)).alloc (.cells #[Iq f,Iq g,Iq b] 45)).alloc (.cells #[Iq cx,Iq cy,Iq ca,Iq cb] 100)).alloc (.cells #[Iq x,Iq y,Iq wd,Iq 1] 100));have G0:Hid (Gr w W0):=by rw[<-bc];exact((((Gr.refl w).alloc _).alloc _).alloc _).alloc _
   have R0:Hid (ou 57 W0 S fk wd/\R3 45 W0 (S+1) f g b/\R4 100 W0 (S+1+1) cx cy ca cb/\R4 100 W0 (S+1+1+1) x y wd 1):=by
    rw[<-bc,<-hS];refine⟨(ou.new w _ _ _).gr ((((Gr.refl _).alloc _).alloc _).alloc _),?_,?_,?_⟩;·have:=R3.new (w.alloc (.cells #[.string fk,Iq wd] 57)) f g b 45;simp only[aA]at this;exact this.gr (((Gr.refl _).alloc _).alloc _)
    ·have:=R4.new ((w.alloc (.cells #[.string fk,Iq wd] 57)).alloc (.cells #[Iq f,Iq g,Iq b] 45)) cx cy ca cb 100;simp only[aA]at this;exact this.gr ((Gr.refl _).alloc _)
    ·have:=R4.new (((w.alloc (.cells #[.string fk,Iq wd] 57)).alloc (.cells #[Iq f,Iq g,Iq b] 45)).alloc (.cells #[Iq cx,Iq cy,Iq ca,Iq cb] 100)) x y wd 1 100;simp_all
   rw[bc];clear bc hS;have q0:=R0.1.c0;have q1:=R0.1.c1;have r0:=R0.2.2.1.c0;have r1:=R0.2.2.1.c1;have r2:=R0.2.2.1.c2;have r3:=R0.2.2.1.c3;have m0:=R0.2.2.2.c0;have m1:=R0.2.2.2.c1;have m2:=R0.2.2.2.c2;have m3:=R0.2.2.2.c3;have RQ:=zfN (Iq l) (Iq t) (Iq u) (Iq v);by_cases hu:u<wd
   ·have HX:Hid (putX l u wd fk f g b=fun _=>bk (kn f) (kn g) (bo b)):=if_pos hu;go_cut[34]from 22 to 33 (fun s wx=>s=.bool true/\Hid (ou 57 wx S fk wd/\R3 45 wx (S+1) f g b/\R4 100 wx (S+1+1) cx cy ca cb/\R4 100 wx (S+1+1+1) x y wd 1/\Gr w wx));case first=>go_region_with(go_at_call 129;refine ai (SN _ (HC.gr (by first|exact G0.drew|exact G0))) ?_;rintro e1 w1 ⟨rfl,g1⟩;have G1:Hid (Gr W0 w1):=(by first|exact((Gr.refl W0).drew).trans g1|exact g1);clear g1;have o1:=(R0.1.gr G1).c1);all_goals go_wp2_with fail;go_meet;exact⟨rfl,R0.1.gr G1,R0.2.1.gr G1,R0.2.2.1.gr G1,R0.2.2.2.gr G1,G0.trans G1⟩
    case rest=>obtain⟨rfl,HR⟩:=hcut;clear q0 q1 r0 r1 r2 r3 m0 m1 m2 m3 RQ;have s0:=HR.2.1.c0;have s1:=HR.2.1.c1;have s2:=HR.2.1.c2;have r0:=HR.2.2.1.c0;have r1:=HR.2.2.1.c1;have r2:=HR.2.2.1.c2;have r3:=HR.2.2.1.c3;have m0:=HR.2.2.2.1.c0;have m1:=HR.2.2.2.1.c1;have m2:=HR.2.2.2.1.c2;have m3:=HR.2.2.2.1.c3;go_wp2_with(go_at_call 72;refine ai (FL _ (HC.gr HR.2.2.2.2)) ?_;rintro e2 w2 ⟨rfl,V2,C2⟩;have Mw:Hid (Cv 47 w2 M W H (fill c l.toNat (l+u).toNat t.toNat (t+v).toNat (fun _=>bk (kn f) (kn g) (bo b)))/\bK M w w2):=(⟨V2,(bK.gr HR.2.2.2.2).trans C2⟩:_/\_);clear V2 C2);refine bodyPost_ret (results_none rfl _ _ _) rfl ?_;exact⟨rfl,by rw[HX.out];exact Mw.1,Mw.2⟩
   have HX:Hid (putX l u wd fk f g b=xB l.toNat wd fk (kn f) (kn g) (bo b)):=if_neg hu;have WH:=HF.whole H1.out (show wd<=u by omega) (by omega) (by omega);have hlu:=HF.lu;have TB:=HF.l0;have htv:=HF.tv;have TN:=HF.t0;have hx:0<=x/\x+wd<=W:=by omega
   have hy:0<=y/\y<H:=by omega
   have HW:Hid (l=x/\t=y/\u=wd/\v=1):=WH;clear WH hlu TB htv TN;go_cut[34]from 22 to 33 (fun s wx=>s=.bool false/\Hid (ou 57 wx S fk wd/\R3 45 wx (S+1) f g b/\R4 100 wx (S+1+1) cx cy ca cb/\R4 100 wx (S+1+1+1) x y wd 1/\Gr w wx));case first=>have hu':=hu;go_region_with(go_at_call 129;refine ai (SN _ (HC.gr (by first|exact G0.drew|exact G0))) ?_;rintro e1 w1 ⟨rfl,g1⟩;have G1:Hid (Gr W0 w1):=(by first|exact((Gr.refl W0).drew).trans g1|exact g1);clear g1;have o1:=(R0.1.gr G1).c1);all_goals go_wp2_with fail;go_meet;exact⟨congrArg Value.bool (decide_eq_false (by omega)),R0.1.gr G1,R0.2.1.gr G1,R0.2.2.1.gr G1,R0.2.2.2.gr G1,G0.trans G1⟩
   obtain⟨rfl,HR⟩:=hcut;clear q0 q1 r0 r1 r2 r3 m0 m1 m2 m3 RQ;have s0:=HR.2.1.c0;have s1:=HR.2.1.c1;have s2:=HR.2.1.c2;go_wp2_with fail;refine ai (C1 _) ?_;rintro e1 w1 ⟨rfl,g1⟩;have R1:Hid (ou 57 w1 S fk wd/\R3 45 w1 (S+1) f g b/\Gr w w1):=⟨HR.1.gr g1,HR.2.1.gr g1,HR.2.2.2.2.trans g1⟩;clear g1 s0 s1 s2 HR C1;obtain⟨kf,OC⟩:=af (kn f);obtain⟨kg,KC⟩:=af (kn g);obtain⟨kb,L6⟩:=af (bo b);rw[OC,KC,L6]at HX;rw[OC,KC,L6];clear OC KC L6;obtain⟨w2,sW⟩:=af (((w1.setCell ⟨S+1,0,none⟩ (Iq kf)).setCell ⟨S+1,1,none⟩ (Iq kg)).setCell ⟨S+1,2,none⟩ (Iq kb));have R2:Hid (ou 57 w2 S fk wd/\R3 45 w2 (S+1) kf kg kb/\Gr w w2):=by rw[<-sW];exact⟨((R1.1.other (by omega) _ _).other (by omega) _ _).other (by omega) _ _,R1.2.1.set _ _ _,R1.2.2.set3 (by rw[HS.out];omega) _ _ _⟩
   have s0:=R1.2.1.c0;have s1:=R1.2.1.c1;have s2:=R1.2.1.c2;have z0:=R1.2.1.fz 0;have z1:=R1.2.1.fz 1;have z2:=R1.2.1.fz 2;have q1:=R2.1.c1;go_wp2_with fail;refine ai (rN w2 (HC.gr R2.2.2) hW hH.2 HP y x (x+wd) hy (by omega) hx.2) ?_;rintro e3 w3 ⟨rfl,V3,C3⟩;have HM:Hid (M<S):=(by rw[<-HS.out];exact HC.cv.lt:M<S);have Jv:Hid (ou 57 w3 S fk wd/\R3 45 w3 (S+1) kf kg kb/\bK M w w3):=⟨R2.1.ch C3 (by have:=HM.out;omega),R2.2.1.ch C3 (by have:=HM.out;omega),(bK.gr R2.2.2).trans C3⟩;obtain⟨X,hX⟩:=af x.toNat;obtain⟨Y,hY⟩:=af y.toNat;rw[hX,hY]at V3;rw[hX,hY];have GH:Hid (Cv 47 w3 M W H (cut c Y X (X+n-1))):=by rw[show(x+wd).toNat-1=X+n-1 by omega]at V3;exact V3
   have qV:Hid (x.toNat=X/\y.toNat=Y):=⟨hX,hY⟩;have hXW:X+n<=W:=by omega
   have EZ:Y<H:=by omega
   rw[show(x+wd-x).toNat=n by omega];clear hX hY V3 C3 s0 s1 s2 z0 z1 z2 q1 sW R1 R2;obtain⟨o,ho⟩:=af (Y*W*5+X*5);have HO:Hid (Y*W*5+X*5=o):=ho;have d0:=GH.c0 EZ (show X<W by omega);have d1:=GH.c1 EZ (show X<W by omega);have d2:=GH.c2 EZ (show X<W by omega);have d3:=GH.c3 EZ (show X<W by omega);have d4:=GH.c4 EZ (show X<W by omega);rw[ho]at d0 d1 d2 d3 d4;rw[ho];clear ho;have fz:=GH.fz;have q0:=Jv.1.c0;have q1:=Jv.1.c1;have s0:=Jv.2.1.c0;have s1:=Jv.2.1.c1;have s2:=Jv.2.1.c2;have sm:¬S=M:=by have:=HM.out;omega
   have sm1:¬S+1=M:=by have:=HM.out;omega
   try dsimp only[Pq,Sq,aq]at d0 d1 d2 d3 d4 fz q0 q1 s0 s1 s2⊢
  ·obtain⟨rfl,rfl⟩:=HWD.out;go_wp2;go_end0;refine⟨rfl,?_,Jv.2.2.set5 _ _ _ _ _⟩;have VS:=GH.set EZ (show X<W by omega) ⟨fk,kf,kg,kb,0⟩;rw[HO.out]at VS;refine VS.same ?_;intro y' x' _ _;rw[HX.out,HW.1,HW.2.1,HW.2.2.1,HW.2.2.2,show(x+1).toNat=x.toNat+1 by omega,show(y+1).toNat=y.toNat+1 by omega,qV.1,qV.2,<-qJ c Y X X _ (ae _),show X+1-X=0+1 by omega,<-tZ,xR];rfl
  ·obtain⟨rfl,rfl⟩:=HWD.out;go_upto_if 58 with fail;obtain⟨w4,_A⟩:=af (((((w3.setCell ⟨M,o,none⟩ (.string fk)).setCell ⟨M,o+1,none⟩ (Iq kf)).setCell ⟨M,o+2,none⟩ (Iq kg)).setCell ⟨M,o+3,none⟩ (Iq kb)).setCell ⟨M,o+4,none⟩ (Iq 0));have vN:Hid (ou 57 w4 S fk 2/\R3 45 w4 (S+1) kf kg kb/\bK M w w4/\Cv 47 w4 M W H (eZ (cut c Y X (X+1)) Y X ⟨fk,kf,kg,kb,0⟩)):=by
    have VS:=GH.set EZ (show X<W by omega) ⟨fk,kf,kg,kb,0⟩;rw[HO.out,_A]at VS;have cc:bK M w3 w4:=by rw[<-_A];exact(bK.refl M w3).set5 _ _ _ _ _
    exact⟨Jv.1.ch cc sm,Jv.2.1.ch cc sm1,Jv.2.2.trans cc,VS⟩
   rw[_A];clear _A d0 d1 d2 d3 d4 fz q0 q1 s0 s1 s2 Jv GH;have d4:=vN.2.2.2.c4 EZ (show X<W by omega);rw[HO.out]at d4;have fz:=vN.2.2.2.fz;have q1:=vN.1.c1;have s0:=vN.2.1.c0;have s1:=vN.2.1.c1;have s2:=vN.2.1.c2;have e0:=vN.2.2.2.c0 EZ (show X+1<W by omega);have e1:=vN.2.2.2.c1 EZ (show X+1<W by omega);have e2:=vN.2.2.2.c2 EZ (show X+1<W by omega);have e3:=vN.2.2.2.c3 EZ (show X+1<W by omega);have e4:=vN.2.2.2.c4 EZ (show X+1<W by omega);have EO:Hid (Y*W*5+(X+1)*5=o+5):=(by rw[<-HO.out];omega:Y*W*5+(X+1)*5=o+5);rw[EO.out]at e0 e1 e2 e3 e4;go_wp2_with fail;go_end0;refine⟨rfl,?_,(vN.2.2.1.set (.inl rfl) _ _).set5 _ _ _ _ _⟩;have VP:=vN.2.2.2.setPart EZ (show X<W by omega) 1;rw[HO.out]at VP;have VS:=VP.set EZ (show X+1<W by omega) ⟨XS,kf,kg,kb,2⟩;rw[EO.out]at VS;refine VS.same ?_;intro y' x' _ _;rw[HX.out,HW.1,HW.2.1,HW.2.2.1,HW.2.2.2,show(x+2).toNat=x.toNat+1+1 by omega,show(y+1).toNat=y.toNat+1 by omega,qV.1,qV.2,<-qJ c Y X (X+1) _ (by omega)];grind[UM]
 ·have n1:(wd !=1)=true:=by simp;omega
  have n2:(wd !=2)=true:=by simp;omega
  have n3:¬wd=1:=by omega
  rw[if_neg h1];clear hS;go_enter func146,ntmps146;go_wp2;refine bodyPost_ret (results_none rfl _ _ _) rfl ?_;exact⟨rfl,HC.cv.gr ((((Gr.refl w).alloc _).alloc _).alloc _),bK.gr ((((Gr.refl w).alloc _).alloc _).alloc _)⟩
end
theorem cW{U U'}(hb:Bt U U'){a}{v}(h:U.cell? a=some v):U'.cell? a=some v:=
 (ba (hb.block a.block (rS U a h))).trans h
section
variable{K M cap W H:Nat} {c:Nat->Nat->Ce}
theorem Qu(w:World)(h:CS 84 47 w K M cap W H c):Cw 145 #[Pq K] w fun e w'=>e=Rw (.tuple #[Iq W,Iq H])/\Gr w w':=by have k0:=h.k0;have k1:=h.k1;clear h;go_enter func145,ntmps145;go_wp2_with fail;go_quiet(fail);go_wp2;go_ret2;exact⟨rfl,(Gr.refl w).drewN _⟩
end
theorem Cq(n:Int)(w:World):Cw 7 #[Iq n] w fun e w'=>e=Rw (Iq n)/\w'=w:=by go_enter func7,ntmps7;go_wp2;go_ret;simp_all
