import Derived.Test.YtiaimhjebnobnaaGreatDoorQ00
import Derived.Test.YtiaimhjebnobnaaGreatDoorProg
import Derived.WalkSpells
import Derived.WalkLawsBesides
import Derived.BigQuiet
import Derived.Deep.RegionWith
import Derived.Deep.RegionHeld
import Derived.Deep.CutRange
import Derived.Shelf.SlSortCmp.QuietGrown
set_option linter.all false
set_option maxRecDepth 100000
set_option maxHeartbeats 16000000
namespace Go.Proofs.YtiaimhjebnobnaaGreatDoor
open Go.RowKit Go.Sort Go.Proofs.Tryz
def bn(n:Int):Int:=min (max n (-100000)) 100000
def bc(n:Int):Int:=min (max n 0) 100000
def rv(x y w h:Int):Value:=.agg #[Iq x,Iq y,Iq w,Iq h]
theorem di  n  :-100000<=bn n/\bn n<=100000:=by grind[bn]
theorem cH  n  :0<=bc n/\bc n<=100000:=by grind[bc]
theorem length_any(n:Int)(w:World):Cw 57 #[Iq n] w fun e w'=>e=Rw (Iq (bc n))/\w'=w:=by go_enter func57,ntmps57;go_wp2;all_goals go_ret;refine⟨?_,rfl⟩;refine congrArg (fun n:Int=>Ending.returned (Iq n)) (?_:_=bc n);grind[bc]
theorem position_any(n:Int)(w:World):Cw 174 #[Iq n] w fun e w'=>e=Rw (Iq (bn n))/\w'=w:=by go_enter func174,ntmps174;go_wp2;all_goals go_ret;refine⟨?_,rfl⟩;refine congrArg (fun n:Int=>Ending.returned (Iq n)) (?_:_=bn n);grind[bn]
theorem Cm(x y a b:Int)(w:World):Cw 113 #[rv x y a b] w fun e w'=>e=Rw (rv (bn x) (bn y) (bc a) (bc b))/\w'=((w.alloc (.cells #[Iq x,Iq y,Iq a,Iq b] 58)).alloc (.cells #[Iq (bn x),Iq (bn y),Iq (bc a),Iq (bc b)] 58)).drew:=by have P:=qH<|position_any;have G:=qH<|length_any;unfold rv;go_enter func113,ntmps113;go_wp2_with fail;obtain⟨px,Fy⟩:=ag (bn x);obtain⟨py,MP⟩:=ag (bn y);obtain⟨la,Zb⟩:=ag (bc a);obtain⟨lb,hlb⟩:=ag (bc b);have P1:=P x;have P2:=P y;have G1:=G a;have G2:=G b;rw[Fy]at P1;rw[MP]at P2;rw[Zb]at G1;rw[hlb]at G2;go_region_held(fun W=>W.cell? (az w.heap.size 0)=some (Iq x)/\W.cell? (az w.heap.size 1)=some (Iq y)/\W.cell? (az w.heap.size 2)=some (Iq a)/\W.cell? (az w.heap.size 3)=some (Iq b)) (go_keep) (first|(go_at_call 174;first|(refine(P1 _).mono ?_;rintro e w2 ⟨rfl,rfl⟩)|(refine(P2 _).mono ?_;rintro e w2 ⟨rfl,rfl⟩))|(go_at_call 57;first|(refine(G1 _).mono ?_;rintro e w2 ⟨rfl,rfl⟩)|(refine(G2 _).mono ?_;rintro e w2 ⟨rfl,rfl⟩)));go_wp2;refine bodyPost_ret (v:=rv px py la lb) (by simp[results,Tryz.results113,go_sem,rv]) rfl ?_;subst Fy MP Zb hlb;exact⟨rfl,rfl⟩
def Gr(w w':World):Prop:=∃q os,w'=grow (w.drewN q) os
theorem Gr.refl  w  :Gr w w:=⟨0,#[],by simp;rfl⟩
theorem Gr.trans{a b c}(h:Gr a b)(k:Gr b c):Gr a c:=by obtain⟨q,os,rfl⟩:=h;obtain⟨q2,os2,rfl⟩:=k;exact⟨q+q2,os++os2,by show grow (grow ((a.drewN q).drewN q2) os) os2=_;rw[grow_grow,World.drewN_drewN]⟩
theorem Gr.alloc{a b}(h:Gr a b)  o  :Gr a (b.alloc o):=h.trans ⟨0,#[o],alloc_eq_grow b o⟩
theorem Gr.drew{a b}(h:Gr a b):Gr a b.drew:=h.trans ⟨1,#[],by simp;rfl⟩
theorem Gr.drewN{a b}(h:Gr a b)  n  :Gr a (b.drewN n):=h.trans ⟨n,#[],by simp⟩
theorem Gr.size{a b}(h:Gr a b):a.heap.size<=b.heap.size:=by obtain⟨q,os,rfl⟩:=h;simp_all
theorem Gr.block{a b}(h:Gr a b){k}(hk:k<a.heap.size):b.heap[k]?=a.heap[k]?:=by obtain⟨q,os,rfl⟩:=h;exact heap_grow_old _ _ hk
theorem Gr.set{a b}(h:Gr a b){k o}(hk:a.heap.size<=k)  v  :Gr a (b.setCell (az k o) v):=by obtain⟨q,os,rfl⟩:=h;exact⟨q,_,by unfold World.setCell grow;simp only;rw[modify_append_right (a.drewN q).heap os k _ hk]⟩
theorem Gr.below{a b}(h:Gr a b):Bt a b:=⟨by obtain⟨q,os,rfl⟩:=h;rfl,by obtain⟨q,os,rfl⟩:=h;rfl,by obtain⟨q,os,rfl⟩:=h;rfl,h.size,fun k hk=>h.block hk⟩
def R4(T:TypeId)(W:World)(b:Nat)(x y a c:Int):Prop:=W.heap[b]?=some (.cells #[Iq x,Iq y,Iq a,Iq c] T (0,0))
section
variable{T:TypeId} {W W':World} {b k o:Nat} {x y a c:Int}
theorem R4.lt(h:R4 T W b x y a c):b<W.heap.size:=(aM.1 h).1
theorem R4.c0(h:R4 T W b x y a c):W.cell? (az b 0)=some (Iq x):=by unfold R4 at h;simp[World.cell?,h]
theorem R4.c1(h:R4 T W b x y a c):W.cell? (az b 1)=some (Iq y):=by unfold R4 at h;simp[World.cell?,h]
theorem R4.c2(h:R4 T W b x y a c):W.cell? (az b 2)=some (Iq a):=by unfold R4 at h;simp[World.cell?,h]
theorem R4.c3(h:R4 T W b x y a c):W.cell? (az b 3)=some (Iq c):=by unfold R4 at h;simp[World.cell?,h]
theorem R4.fz(h:R4 T W b x y a c)  j  :W.frozen? (az b j)=false:=frozen_of_row _ _ _ _ _ h
theorem R4.gr(h:R4 T W b x y a c)(g:Gr W W'):R4 T W' b x y a c:=(g.block h.lt).trans h
theorem R4.new(W:World)  x y a c   T  :R4 T (W.alloc (.cells #[Iq x,Iq y,Iq a,Iq c] T)) W.heap.size x y a c:=heap_alloc_new _ _
theorem R4.other(h:R4 T W b x y a c)(hk:b≠k)  v  :R4 T (W.setCell (az k o) v) b x y a c:=(cF W (az k o) v b hk).trans h
theorem R4.set(h:R4 T W b x y a c)  x' y' a' c'  :R4 T ((((W.setCell (az b 0) (Iq x')).setCell (az b 1) (Iq y')).setCell (az b 2) (Iq a')).setCell (az b 3) (Iq c')) b x' y' a' c':=
 heap_setCell_same _ b 3 _ T _ (heap_setCell_same _ b 2 _ T _ (heap_setCell_same _ b 1 _ T _ (heap_setCell_same _ b 0 _ T _ h)))
theorem R4.others(h:R4 T W b x y a c)(hk:b≠k)  v0 v1 v2 v3  :R4 T ((((W.setCell (az k 0) v0).setCell (az k 1) v1).setCell (az k 2) v2).setCell (az k 3) v3) b x y a c:=(((h.other hk v0).other hk v1).other hk v2).other hk v3
theorem Gr.set4(h:Gr W W')(hk:W.heap.size<=k)  v0 v1 v2 v3  :Gr W ((((W'.setCell (az k 0) v0).setCell (az k 1) v1).setCell (az k 2) v2).setCell (az k 3) v3):=(((h.set hk v0).set hk v1).set hk v2).set hk v3
end
theorem clamped_gr  x y a b   w  :Cw 113 #[rv x y a b] w fun e w'=>e=Rw (rv (bn x) (bn y) (bc a) (bc b))/\Gr w w':=
 (Cm x y a b w).mono fun e w' ⟨he,hw⟩=>⟨he,by rw[hw];exact(((Gr.refl w).alloc _).alloc _).drew⟩
def g_(ax aw bx bw:Int):Int:=max (bn ax) (bn bx)
def jy(ax aw bx bw:Int):Int:=min (bn ax+bc aw) (bn bx+bc bw)
def xA(ax ay aw ah bx fy bw bh:Int):Value:=if g_ ax aw bx bw>=jy ax aw bx bw\/g_ ay ah fy bh>=jy ay ah fy bh then rv 0 0 0 0 else rv (g_ ax aw bx bw) (g_ ay ah fy bh) (jy ax aw bx bw-g_ ax aw bx bw) (jy ay ah fy bh-g_ ay ah fy bh)
theorem IA(ax ay aw ah bx fy bw bh:Int)(w:World):Cw 61 #[rv ax ay aw ah,rv bx fy bw bh] w fun e w'=>e=Rw (xA ax ay aw ah bx fy bw bh)/\Gr w w':=by
 have CC:=qH<|clamped_gr;unfold rv at CC⊢;go_enter func61,ntmps61;go_wp2_with fail;obtain⟨A,hA⟩:=ag w.heap.size;obtain⟨W0,cK⟩:=ag (((w.alloc (.cells #[Iq ax,Iq ay,Iq aw,Iq ah] 58)).alloc (.cells #[Iq bx,Iq fy,Iq bw,Iq bh] 58)).alloc (.cells #[Iq 0,Iq 0,Iq 0,Iq 0] 58));have G0:Hid (Gr w W0):=by rw[<-cK];exact(((Gr.refl w).alloc _).alloc _).alloc _
 have RA:Hid (R4 58 W0 A ax ay aw ah):=by rw[<-cK,<-hA];exact(R4.new w _ _ _ _ _).gr (((Gr.refl _).alloc _).alloc _)
 have RB:Hid (R4 58 W0 (A+1) bx fy bw bh):=by have:=R4.new (w.alloc (.cells #[Iq ax,Iq ay,Iq aw,Iq ah] 58)) bx fy bw bh 58;simp only[aI,hA]at this;rw[<-cK];exact this.gr ((Gr.refl _).alloc _)
 have RC:Hid (R4 58 W0 (A+1+1) 0 0 0 0):=by have:=R4.new ((w.alloc (.cells #[Iq ax,Iq ay,Iq aw,Iq ah] 58)).alloc (.cells #[Iq bx,Iq fy,Iq bw,Iq bh] 58)) 0 0 0 0 58;simp only[aI,hA]at this;rw[<-cK];exact this
 rw[cK,hA];clear cK;have HA:=qH<|hA;clear hA;have a0:=RA.c0;have a1:=RA.c1;have a2:=RA.c2;have a3:=RA.c3;have b0:=RB.c0;have b1:=RB.c1;have b2:=RB.c2;have b3:=RB.c3;obtain⟨px,Fy⟩:=ag (bn ax);obtain⟨py,MP⟩:=ag (bn ay);obtain⟨pa,I6⟩:=ag (bc aw);obtain⟨pb,lR⟩:=ag (bc ah);obtain⟨qx,Xe⟩:=ag (bn bx);obtain⟨qy,Xf⟩:=ag (bn fy);obtain⟨qa,Xd⟩:=ag (bc bw);obtain⟨qb,Pk⟩:=ag (bc bh);go_cut[2,3,4]from 9 to 12 (fun u v t wx=>u=Pq A/\v=Pq (A+1)/\t=Pq (A+1+1)/\Hid (R4 58 wx A px py pa pb/\R4 58 wx (A+1) qx qy qa qb/\R4 58 wx (A+1+1) 0 0 0 0/\Gr w wx));case first=>
  go_region_with(go_at_call 113;refine(CC _ _ _ _ _).mono ?_;rintro e wn ⟨rfl,O5⟩;have ol:=qH<|(by first|exact((Gr.refl W0).drew).trans O5|exact Gr.trans (Hid.out (by assumption)) O5);have uq:=qH<|RA.gr ol;have zu:=qH<|RB.gr ol;clear O5;have m0:=uq.c0;have m1:=uq.c1;have m2:=uq.c2;have m3:=uq.c3;have n0:=zu.c0;have n1:=zu.c1;have n2:=zu.c2;have n3:=zu.c3;have f0:=uq.fz 0;have f1:=uq.fz 1;have f2:=uq.fz 2;have f3:=uq.fz 3;have g0:=zu.fz 0;have g1:=zu.fz 1;have g2:=zu.fz 2;have g3:=zu.fz 3);all_goals
   have HO:Hid (R4 58 ((((((((wn.setCell (az A 0) (Iq px)).setCell (az A 1) (Iq py)).setCell (az A 2) (Iq pa)).setCell (az A 3) (Iq pb)).setCell (az (A+1) 0) (Iq qx)).setCell (az (A+1) 1) (Iq qy)).setCell (az (A+1) 2) (Iq qa)).setCell (az (A+1) 3) (Iq qb)) A px py pa pb/\R4 58 ((((((((wn.setCell (az A 0) (Iq px)).setCell (az A 1) (Iq py)).setCell (az A 2) (Iq pa)).setCell (az A 3) (Iq pb)).setCell (az (A+1) 0) (Iq qx)).setCell (az (A+1) 1) (Iq qy)).setCell (az (A+1) 2) (Iq qa)).setCell (az (A+1) 3) (Iq qb)) (A+1) qx qy qa qb/\R4 58 ((((((((wn.setCell (az A 0) (Iq px)).setCell (az A 1) (Iq py)).setCell (az A 2) (Iq pa)).setCell (az A 3) (Iq pb)).setCell (az (A+1) 0) (Iq qx)).setCell (az (A+1) 1) (Iq qy)).setCell (az (A+1) 2) (Iq qa)).setCell (az (A+1) 3) (Iq qb)) (A+1+1) 0 0 0 0/\Gr w ((((((((wn.setCell (az A 0) (Iq px)).setCell (az A 1) (Iq py)).setCell (az A 2) (Iq pa)).setCell (az A 3) (Iq pb)).setCell (az (A+1) 0) (Iq qx)).setCell (az (A+1) 1) (Iq qy)).setCell (az (A+1) 2) (Iq qa)).setCell (az (A+1) 3) (Iq qb))):=
    ⟨(uq.set px py pa pb).others (by omega) _ _ _ _,(zu.others (by omega) _ _ _ _).set qx qy qa qb,((RC.gr ol).others (by omega) _ _ _ _).others (by omega) _ _ _ _,((G0.trans ol).set4 (by rw[HA.out];omega) _ _ _ _).set4 (by rw[HA.out];omega) _ _ _ _⟩;clear m0 m1 m2 m3 n0 n1 n2 n3 f0 f1 f2 f3 g0 g1 g2 g3 a0 a1 a2 a3 b0 b1 b2 b3 uq zu;go_wp2_with fail;go_meet;grind
 case rest=>
  obtain⟨rfl,rfl,rfl,HO⟩:=hcut;clear a0 a1 a2 a3 b0 b1 b2 b3 RA RB RC;have a0:=HO.1.c0;have a1:=HO.1.c1;have a2:=HO.1.c2;have a3:=HO.1.c3;have b0:=HO.2.1.c0;have b1:=HO.2.1.c1;have b2:=HO.2.1.c2;have b3:=HO.2.1.c3;have bpx:=di ax;have bpy:=di ay;have bpa:=cH aw;have bpb:=cH ah;have bqx:=di bx;have bqy:=di fy;have bqa:=cH bw;have bqb:=cH bh;rw[Fy]at bpx;rw[MP]at bpy;rw[I6]at bpa;rw[lR]at bpb;rw[Xe]at bqx;rw[Xf]at bqy;rw[Xd]at bqa;rw[Pk]at bqb;go_wp2_with fail;go_cut[5,6]from 13 to 28 (fun u v wx=>u=Iq (max px qx)/\v=Iq (min (px+pa) (qx+qa))/\∃q,wx=wc.drewN q);case first=>by_cases h1:px<qx;iterate 2 ·by_cases h2:px+pa<=qx+qa;iterate 2 ·go_quiet(fail);go_wp2_with fail;go_meet;grind
  case rest=>
   obtain⟨rfl,rfl,q1,rfl⟩:=hcut;go_wp2_with fail;go_cut[7,8]from 29 to 44 (fun u v wx=>u=Iq (max py qy)/\v=Iq (min (py+pb) (qy+qb))/\∃q,wx=wc.drewN q);case first=>by_cases h1:py<qy;iterate 2 ·by_cases h2:py+pb<=qy+qb;iterate 2 ·go_quiet(fail);go_wp2_with fail;go_meet;exact⟨congrArg (Value.int .i64) (by omega),congrArg (Value.int .i64) (by omega),q1+nq,by first|rfl|exact World.drewN_drewN _ _ _⟩
   case rest=>
    obtain⟨rfl,rfl,q2,rfl⟩:=hcut;obtain⟨W1,cC⟩:=ag (wc.drewN q2);have G1:Hid (Gr wc W1):=by rw[<-cC];exact(Gr.refl _).drewN _
    rw[cC];have R1:=qH<|HO.2.2.1.gr G1;have GG:=qH<|HO.2.2.2.trans G1;clear cC a0 a1 a2 a3 b0 b1 b2 b3 HO;have c0:=R1.c0;have c1:=R1.c1;have c2:=R1.c2;have c3:=R1.c3;have f0:=R1.fz 0;have f1:=R1.fz 1;have f2:=R1.fz 2;have f3:=R1.fz 3;obtain⟨l,hl⟩:=ag (max px qx);obtain⟨r,hr⟩:=ag (min (px+pa) (qx+qa));obtain⟨t,ht⟩:=ag (max py qy);obtain⟨d,hd⟩:=ag (min (py+pb) (qy+qb));have HV:Hid (xA ax ay aw ah bx fy bw bh=if l>=r\/t>=d then rv 0 0 0 0 else rv l t (r-l) (d-t)):=by show _=_;unfold xA g_ jy;rw[Fy,MP,I6,lR,Xe,Xf,Xd,Pk,hl,hr,ht,hd]
    have bl:-100000<=l/\l<=100000:=by omega
    have br:-100000<=r/\r<=200000:=by omega
    have bt:-100000<=t/\t<=100000:=by omega
    have bd:-100000<=d/\d<=200000:=by omega
    rw[hl,hr,ht,hd];clear Fy MP I6 lR Xe Xf Xd Pk hl hr ht hd bpx bpy bpa bpb bqx bqy bqa bqb;by_cases h1:r<=l;·have e1:=decide_eq_true h1;go_wp2;refine bodyPost_ret (results_cell_row rfl _ _ (A+1+1) _ _ _ _ rfl (R1.set 0 0 0 0) underlying58 rfl (by kernel_rfl)) rfl ?_;exact⟨by rw[HV.out,if_pos (.inl h1)];rfl,GG.set4 (by rw[HA.out];omega) _ _ _ _⟩
    ·have e1:=decide_eq_false h1;by_cases h2:d<=t;·have e2:=decide_eq_true h2;go_wp2;refine bodyPost_ret (results_cell_row rfl _ _ (A+1+1) _ _ _ _ rfl (R1.set 0 0 0 0) underlying58 rfl (by kernel_rfl)) rfl ?_;exact⟨by rw[HV.out,if_pos (.inr h2)];rfl,GG.set4 (by rw[HA.out];omega) _ _ _ _⟩
     ·have e2:=decide_eq_false h2;go_wp2;refine bodyPost_ret (results_cell_row rfl _ _ (A+1+1) _ _ _ _ rfl (R1.set l t (r-l) (d-t)) underlying58 rfl (by kernel_rfl)) rfl ?_;exact⟨by rw[HV.out,if_neg (by omega)];rfl,GG.set4 (by rw[HA.out];omega) _ _ _ _⟩
def yB(x y a b px py:Int):Bool:=decide (bn x<=px/\px<bn x+bc a/\bn y<=py/\py<bn y+bc b)
theorem Lh{x y a b px py}(h:bn x<=px/\px<bn x+bc a/\bn y<=py/\py<bn y+bc b):yB x y a b px py=true:=decide_eq_true h
theorem Ph{x y a b px py}(h:¬(bn x<=px/\px<bn x+bc a/\bn y<=py/\py<bn y+bc b)):yB x y a b px py=false:=decide_eq_false h
theorem nT{n}(h:-100000<=n/\n<=100000):bn n=n:=by grind[bn]
theorem gG{n}(h:0<=n/\n<=100000):bc n=n:=by grind[bc]
theorem QR{a b c d a' b' c' d'}(h:rv a b c d=rv a' b' c' d'):a=a'/\b=b'/\c=c'/\d=d':=by grind[rv]
structure Ce where
 t:ByteArray
 f:Int
 g:Int
 b:Int
 p:Int
def spc:ByteArray:=⟨#[32]⟩
def YA:ByteArray:=⟨#[]⟩
def bl(c:Ce):Ce:=⟨spc,c.f,c.g,c.b,0⟩
def bk(f g b:Int):Ce:=⟨spc,f,g,b,0⟩
theorem zbF  c  :(bl c).p=0:=rfl
def span(r:Nat->Ce)(a z:Nat)(x:Nat->Ce):Nat->Ce:=fun j=>
 if a<=j/\j<z then x j
 else if a<z/\j+1=a/\(r a).p=2 then bl (r j)
 else if a<z/\j=z/\(r (z-1)).p=1 then bl (r j)
 else r j
theorem lK{r}{a z}{x}{j}(h:a<=j/\j<z):span r a z x j=x j:=if_pos h
theorem yX{r}{a z}{x}(h:¬a<z):span r a z x=r:=by grind[span]
theorem m_{r}{a z}{x}{j}(h:¬(a<=j/\j<z)):
 (span r a z x j=r j/\¬(a<z/\j+1=a/\(r a).p=2)/\¬(a<z/\j=z/\(r (z-1)).p=1))\/(span r a z x j=bl (r j)/\((a<z/\j+1=a/\(r a).p=2)\/(a<z/\j=z/\(r (z-1)).p=1))):=by grind[span]
structure qZ(W:Nat)(r:Nat->Ce):Prop where
 part:∀i,i<W->(r i).p=0\/(r i).p=1\/(r i).p=2
 head:∀i,i<W->(r i).p=1->i+1<W/\(r (i+1)).p=2/\(r (i+1)).f=(r i).f/\(r (i+1)).g=(r i).g/\(r (i+1)).b=(r i).b
 tail:∀i,i<W->(r i).p=2->∃k,i=k+1/\(r k).p=1/\(r i).t=YA
section
variable{W a z:Nat} {r x:Nat->Ce}
theorem qZ.beside(h:qZ W r)(zW:z<=W){i}(hi:i<W)(ho:¬(a<=i/\i<z)):
 ((span r a z x i).p=0\/(span r a z x i).p=1\/(span r a z x i).p=2)
 /\((span r a z x i).p=1->span r a z x i=r i/\span r a z x (i+1)=r (i+1)/\(r i).p=1)
 /\((span r a z x i).p=2->span r a z x i=r i/\(r i).p=2/\∃k,i=k+1/\span r a z x k=r k):=by
 rcases m_ (r:=r) (x:=x) ho with⟨e,n1,n2⟩|⟨e,hh⟩
 ·rw[e];refine⟨h.part i hi,fun hp=>⟨rfl,?_,hp⟩,fun hp=>⟨rfl,hp,?_⟩⟩
  ·obtain⟨h1,h2,_⟩:=h.head i hi hp;by_cases gA:a<=i+1/\i+1<z;·grind
   ·rcases m_ (r:=r) (x:=x) gA with⟨e2,_⟩|⟨e2,h3|h3⟩;·exact e2
    ·exfalso;obtain⟨k,hk,Ag,_⟩:=h.tail a (by omega) h3.2.2;grind
    omega
  ·obtain⟨k,hk,Ag,_⟩:=h.tail i hi hp;refine⟨k,hk,?_⟩;by_cases gA:a<=k/\k<z;·grind
   ·rcases m_ (r:=r) (x:=x) gA with⟨e2,_⟩|⟨e2,h3|h3⟩;·exact e2
    ·omega
    ·exfalso;obtain⟨q1,q2,_⟩:=h.head (z-1) (by omega) h3.2.2;grind
 grind[zbF]
theorem qZ.span0(h:qZ W r)(zW:z<=W)(hx:∀j,a<=j->j<z->(x j).p=0):qZ W (span r a z x):=by
 refine⟨fun i hi=>?_,fun i hi hp=>?_,fun i hi hp=>?_⟩<;>by_cases gA:a<=i/\i<z;·grind[lK]
 ·exact(h.beside zW hi gA).1
 ·grind[lK]
 ·obtain⟨e1,e2,e3⟩:=(h.beside zW hi gA).2.1 hp;rw[e1,e2];exact h.head i hi e3
 ·grind[lK]
 ·obtain⟨e1,e2,k,hk,e3⟩:=(h.beside zW hi gA).2.2 hp;obtain⟨k',hk',h1,h2⟩:=h.tail i hi e2;grind
theorem qZ.span2(h:qZ W r)(zW:a+2<=W)(h1:(x a).p=1)(h2:(x (a+1)).p=2)(hf:(x (a+1)).f=(x a).f)(hg:(x (a+1)).g=(x a).g)(hb:(x (a+1)).b=(x a).b)(ht:(x (a+1)).t=YA):qZ W (span r a (a+2) x):=by
 have e0:span r a (a+2) x a=x a:=lK (by omega);have e1:span r a (a+2) x (a+1)=x (a+1):=lK (by omega);refine⟨fun i hi=>?_,fun i hi hp=>?_,fun i hi hp=>?_⟩<;>by_cases gA:a<=i/\i<a+2;·grind
 ·exact(h.beside zW hi gA).1
 ·grind
 ·obtain⟨q1,q2,q3⟩:=(h.beside zW hi gA).2.1 hp;rw[q1,q2];exact h.head i hi q3
 ·grind
 ·obtain⟨q1,q2,k,hk,q3⟩:=(h.beside zW hi gA).2.2 hp;obtain⟨k',hk',r1,r2⟩:=h.tail i hi q2;grind
theorem qZ.next(h:qZ W r){m}(am:a<=m)(mW:m<W)(hx:∀j,(x j).p=0):span (span r a m x) m (m+1) x=span r a (m+1) x:=by
 by_cases e:a=m;·grind[yX]
 have am':a<m:=by omega
 -- the cell at m,as it is zN
 have hm:(span r a m x m).p≠2/\((span r a m x m).p=1↔(r m).p=1):=by
  rcases m_ (r:=r) (a:=a) (z:=m) (x:=x) (j:=m) (by omega)with⟨e1,_,n2⟩|⟨e1,h3|h3⟩;·rw[e1];refine⟨fun h2=>?_,Iff.rfl⟩;obtain⟨k,hk,Ag,_⟩:=h.tail m mW h2;grind
  ·omega
  ·rw[e1,zbF];refine⟨by omega,fun q=>by omega,fun q=>?_⟩;obtain⟨_,q2,_⟩:=h.head (m-1) (by omega) h3.2.2;grind
 grind[lK,span,bl]
end
def fill(c:Nat->Nat->Ce)(l r t d:Nat)(x:Nat->Ce):Nat->Nat->Ce:=fun y=>if t<=y/\y<d then span (c y) l r x else c y
def PAll(W H:Nat)(c:Nat->Nat->Ce):Prop:=∀y,y<H->qZ W (c y)
section
variable{W H l r t d:Nat} {c:Nat->Nat->Ce} {x:Nat->Ce}
theorem KJ(h:¬(l<r/\t<d)):fill c l r t d x=c:=by grind[fill,yX]
theorem PAll.fill0(h:PAll W H c)(hr:r<=W)(hx:∀j,(x j).p=0):PAll W H (fill c l r t d x):=by
 intro y hy;unfold fill;split;·exact(h y hy).span0 hr (fun j _ _=>hx j)
 ·exact h y hy
theorem PAll.fill2(h:PAll W H c)(zW:l+2<=W)(h1:(x l).p=1)(h2:(x (l+1)).p=2)(hf:(x (l+1)).f=(x l).f)(hg:(x (l+1)).g=(x l).g)(hb:(x (l+1)).b=(x l).b)(ht:(x (l+1)).t=YA):PAll W H (fill c l (l+2) t d x):=by
 intro y hy;unfold fill;split;·exact(h y hy).span2 zW h1 h2 hf hg hb ht
 ·exact h y hy
theorem KH(UG:t<=d):fill (fill c l r t d x) l r d (d+1) x=fill c l r t (d+1) x:=by grind[fill]
end
structure cN(M:Nat)(W W':World):Prop where
 os:W'.os=W.os
 tape:W'.tape=W.tape
 output:W'.output=W.output
 size:W.heap.size<=W'.heap.size
 block:∀b,b<W.heap.size->b≠M->W'.heap[b]?=W.heap[b]?
section
variable{M:Nat} {W W' W2:World}
theorem cN.refl  M   W  :cN M W W:=⟨rfl,rfl,rfl,ai _,fun _ _ _=>rfl⟩
theorem cN.trans(h:cN M W W')(k:cN M W' W2):cN M W W2:=
 ⟨k.os.trans h.os,k.tape.trans h.tape,k.output.trans h.output,aO h.size k.size,fun b h1 h2=>(k.block b (zz008 h1 h.size) h2).trans (h.block b h1 h2)⟩
theorem cN.below(h:Bt W W'):cN M W W':=⟨h.os,h.tape,h.output,h.size,fun b h1 _=>h.block b h1⟩
theorem cN.gr(h:Gr W W'):cN M W W':=cN.below h.below
theorem cN.thenGr(h:cN M W W')(k:Gr W' W2):cN M W W2:=h.trans (cN.gr k)
theorem cN.set(h:cN M W W'){k}(hk:k=M\/W.heap.size<=k)  o   v  :cN M W (W'.setCell (az k o) v):=
 ⟨h.os,h.tape,h.output,by simpa[World.setCell]using h.size,fun b h1 h2=>(cF W' (az k o) v b (by grind)).trans (h.block b h1 h2)⟩
theorem cN.low(h:cN M W W'){B}(hM:B<=M)(hB:B<=W.heap.size){W0}(k:Below B W0 W):Below B W0 W':=
 ⟨h.os.trans k.os,h.tape.trans k.tape,h.output.trans k.output,aO k.size h.size,fun b hb=>(h.block b (by omega) (by omega)).trans (k.block b hb)⟩
end
def c5(e:Ce):List Value:=[.string e.t,Iq e.f,Iq e.g,Iq e.b,Iq e.p]
theorem Yr  e  :(c5 e).length=5:=rfl
structure Cv(T:TypeId)(Q:World)(M W H:Nat)(c:Nat->Nat->Ce):Prop where
 arr:∃a,Q.heap[M]?=some (.cells a T (0,0))
 cell:∀y x,y<H->x<W->∀(k:Nat) u,(c5 (c y x))[k]?=some u->Q.cell? (az M (y*W*5+x*5+k))=some u
def gy(c:Nat->Nat->Ce)(y x:Nat)(e:Ce):Nat->Nat->Ce:=fun y' x'=>if y'=y/\x'=x then e else c y' x'
theorem UL{W y x y' x':Nat}(hx:x<W)(hx':x'<W)(h:y*W+x=y'*W+x'):y=y'/\x=x':=by
 have h1:(y*W+x)/W=y:=by rw[s_,Ry (by omega),Rz hx,w_]
 have h2:(y'*W+x')/W=y':=by rw[s_,Ry (by omega),Rz hx',w_]
 grind
theorem Vf{W y x k y' x' k'}(hx:x<W)(hx':x'<W)(hk:k<5)(hk':k'<5)(h:y*W*5+x*5+k=y'*W*5+x'*5+k'):y=y'/\x=x'/\k=k':=by grind[UL]
section
variable{T:TypeId} {Q Q':World} {M W H:Nat} {c c':Nat->Nat->Ce}
theorem Cv.lt(h:Cv T Q M W H c):M<Q.heap.size:=by obtain⟨a,ha⟩:=h.arr;grind
theorem Cv.fz(h:Cv T Q M W H c)  j  :Q.frozen? (az M j)=false:=by obtain⟨a,ha⟩:=h.arr;exact frozen_of_row _ _ _ _ _ ha
theorem Cv.keep(h:Cv T Q M W H c)(hb:Q'.heap[M]?=Q.heap[M]?):Cv T Q' M W H c:=by obtain⟨a,ha⟩:=h.arr;exact⟨⟨a,hb.trans ha⟩,fun y x hy hx k u hu=>(bU (a:=(az M _)) hb).trans (h.cell y x hy hx k u hu)⟩
theorem Cv.gr(h:Cv T Q M W H c)(g:Gr Q Q'):Cv T Q' M W H c:=h.keep (g.block h.lt)
theorem Cv.ch{N}(h:Cv T Q M W H c)(g:cN N Q Q')(hN:M≠N):Cv T Q' M W H c:=h.keep (g.block M h.lt hN)
theorem Cv.other{k}(h:Cv T Q M W H c)(hk:M≠k)  o   v  :Cv T (Q.setCell (az k o) v) M W H c:=h.keep (cF Q (az k o) v M hk)
theorem Cv.same(h:Cv T Q M W H c)(hc:∀y x,y<H->x<W->c y x=c' y x):Cv T Q M W H c':=
 ⟨h.arr,fun y x hy hx k u hu=>h.cell y x hy hx k u (by grind)⟩
theorem Cv.set1(h:Cv T Q M W H c){y x k}(hy:y<H)(hx:x<W)(hk:k<5)  v  (hc:∀y' x',c' y' x'=if y'=y/\x'=x then c' y x else c y' x') (he:c5 (c' y x)=(c5 (c y x)).set k v):
 Cv T (Q.setCell (az M (y*W*5+x*5+k)) v) M W H c':=by
 obtain⟨a,ha⟩:=h.arr;refine⟨⟨_,heap_setCell_same _ M _ _ _ _ ha⟩,fun y' x' Xk hx' k' u hu=>?_⟩;have hk':k'<5:=(qM.1 hu).1;have old:=h.cell y x hy hx k _ (eR (show k<(c5 (c y x)).length from hk));by_cases e:y'=y/\x'=x
 ·obtain⟨rfl,rfl⟩:=e;rw[he]at hu;by_cases e2:k'=k;·subst e2;rw[Ro (show k'<(c5 (c y' x')).length from hk)]at hu;injection hu with hu;subst hu;exact xa _ _ _ old
  ·rw[wZ (by omega)]at hu;rw[eu _ _ _ _ (fun q=>by grind)];exact h.cell y' x' Xk hx' k' u hu
 ·rw[hc y' x',if_neg e]at hu;rw[eu _ _ _ _];·exact h.cell y' x' Xk hx' k' u hu
  grind[Vf]
theorem Cv.set(h:Cv T Q M W H c){y x}(hy:y<H)(hx:x<W)  e  :
 Cv T (((((Q.setCell (az M (y*W*5+x*5)) (.string e.t)).setCell (az M (y*W*5+x*5+1)) (Iq e.f)).setCell (az M (y*W*5+x*5+2)) (Iq e.g)).setCell (az M (y*W*5+x*5+3)) (Iq e.b)).setCell (az M (y*W*5+x*5+4)) (Iq e.p)) M W H (gy c y x e):=by
 have u0:∀e,gy c y x e y x=e:=fun e=>by grind[gy]
 have nx:∀e e',∀y' x',gy c y x e' y' x'=if y'=y/\x'=x then gy c y x e' y x else gy c y x e y' x':=fun e e' y' x'=>by grind[gy]
 have h0:=h.set1 (c':=gy c y x {c y x with t:=e.t}) (k:=0) hy hx (by omega) (.string e.t) (fun y' x'=>by rw[u0];rfl) (by rw[u0];rfl);have h1:=h0.set1 (c':=gy c y x {c y x with t:=e.t,f:=e.f}) (k:=1) hy hx (by omega) (Iq e.f) (nx _ _) (by rw[u0,u0];rfl);have h2:=h1.set1 (c':=gy c y x {c y x with t:=e.t,f:=e.f,g:=e.g}) (k:=2) hy hx (by omega) (Iq e.g) (nx _ _) (by rw[u0,u0];rfl);have h3:=h2.set1 (c':=gy c y x {c y x with t:=e.t,f:=e.f,g:=e.g,b:=e.b}) (k:=3) hy hx (by omega) (Iq e.b) (nx _ _) (by rw[u0,u0];rfl);exact h3.set1 (c':=gy c y x e) (k:=4) hy hx (by omega) (Iq e.p) (nx _ _) (by rw[u0,u0];rfl)
theorem Cv.setPart(h:Cv T Q M W H c){y x}(hy:y<H)(hx:x<W)  p  :
 Cv T (Q.setCell (az M (y*W*5+x*5+4)) (Iq p)) M W H (gy c y x {c y x with p:=p}):=
 h.set1 (k:=4) hy hx (by omega) _ (fun y' x'=>by unfold gy;simp) (by unfold gy;rw[if_pos ⟨rfl,rfl⟩];rfl)
theorem Cv.setText(h:Cv T Q M W H c){y x}(hy:y<H)(hx:x<W)  s  :
 Cv T (Q.setCell (az M (y*W*5+x*5+0)) (.string s)) M W H (gy c y x {c y x with t:=s}):=
 h.set1 (k:=0) hy hx (by omega) _ (fun y' x'=>by unfold gy;simp) (by unfold gy;rw[if_pos ⟨rfl,rfl⟩];rfl)
theorem Cv.c0(h:Cv T Q M W H c){y x}(hy:y<H)(hx:x<W):Q.cell? (az M (y*W*5+x*5))=some (.string (c y x).t):=h.cell y x hy hx 0 _ rfl
theorem Cv.c1(h:Cv T Q M W H c){y x}(hy:y<H)(hx:x<W):Q.cell? (az M (y*W*5+x*5+1))=some (Iq (c y x).f):=h.cell y x hy hx 1 _ rfl
theorem Cv.c2(h:Cv T Q M W H c){y x}(hy:y<H)(hx:x<W):Q.cell? (az M (y*W*5+x*5+2))=some (Iq (c y x).g):=h.cell y x hy hx 2 _ rfl
theorem Cv.c3(h:Cv T Q M W H c){y x}(hy:y<H)(hx:x<W):Q.cell? (az M (y*W*5+x*5+3))=some (Iq (c y x).b):=h.cell y x hy hx 3 _ rfl
theorem Cv.c4(h:Cv T Q M W H c){y x}(hy:y<H)(hx:x<W):Q.cell? (az M (y*W*5+x*5+4))=some (Iq (c y x).p):=h.cell y x hy hx 4 _ rfl
end
structure CS(TK T:TypeId)(Q:World)(K M cap W H:Nat)(c:Nat->Nat->Ce):Prop where
 kb:Q.heap[K]?=some (.cells #[Iq W,Iq H,Sq M (W*H) cap] TK (0,0))
 cv:Cv T Q M W H c
 ne:K≠M
 hc:W*H<=cap
section
variable{TK T:TypeId} {Q Q':World} {K M cap W H:Nat} {c c':Nat->Nat->Ce}
theorem CS.klt(h:CS TK T Q K M cap W H c):K<Q.heap.size:=(aM.1 h.kb).1
theorem CS.k0(h:CS TK T Q K M cap W H c):Q.cell? (az K 0)=some (Iq W):=by have:=h.kb;simp[World.cell?,this]
theorem CS.k1(h:CS TK T Q K M cap W H c):Q.cell? (az K 1)=some (Iq H):=by have:=h.kb;simp[World.cell?,this]
theorem CS.k2(h:CS TK T Q K M cap W H c):Q.cell? (az K 2)=some (Sq M (W*H) cap):=by have:=h.kb;simp[World.cell?,this]
theorem CS.ch{N}(h:CS TK T Q K M cap W H c)(g:cN N Q Q')(h1:K≠N)(h2:M≠N):CS TK T Q' K M cap W H c:=⟨(g.block K h.klt h1).trans h.kb,h.cv.ch g h2,h.ne,h.hc⟩
theorem CS.gr(h:CS TK T Q K M cap W H c)(g:Gr Q Q'):CS TK T Q' K M cap W H c:=⟨(g.block h.klt).trans h.kb,h.cv.gr g,h.ne,h.hc⟩
theorem CS.put(h:CS TK T Q K M cap W H c)(g:cN M Q Q')(hc:Cv T Q' M W H c'):CS TK T Q' K M cap W H c':=⟨(g.block K h.klt h.ne).trans h.kb,hc,h.ne,h.hc⟩
end
def R3(T:TypeId)(W:World)(b:Nat)(x y a:Int):Prop:=W.heap[b]?=some (.cells #[Iq x,Iq y,Iq a] T (0,0))
section
variable{T:TypeId} {W W':World} {b k o:Nat} {x y a c:Int}
theorem R3.lt(h:R3 T W b x y a):b<W.heap.size:=(aM.1 h).1
theorem R3.c0(h:R3 T W b x y a):W.cell? (az b 0)=some (Iq x):=by unfold R3 at h;simp[World.cell?,h]
theorem R3.c1(h:R3 T W b x y a):W.cell? (az b 1)=some (Iq y):=by unfold R3 at h;simp[World.cell?,h]
theorem R3.c2(h:R3 T W b x y a):W.cell? (az b 2)=some (Iq a):=by unfold R3 at h;simp[World.cell?,h]
theorem R3.fz(h:R3 T W b x y a)  j  :W.frozen? (az b j)=false:=frozen_of_row _ _ _ _ _ h
theorem R3.gr(h:R3 T W b x y a)(g:Gr W W'):R3 T W' b x y a:=(g.block h.lt).trans h
theorem R3.new(W:World)  x y a   T  :R3 T (W.alloc (.cells #[Iq x,Iq y,Iq a] T)) W.heap.size x y a:=heap_alloc_new _ _
theorem R3.other(h:R3 T W b x y a)(hk:b≠k)  v  :R3 T (W.setCell (az k o) v) b x y a:=(cF W (az k o) v b hk).trans h
theorem R3.set0(h:R3 T W b x y a)  x'  :R3 T (W.setCell (az b 0) (Iq x')) b x' y a:=heap_setCell_same _ b 0 _ T _ h
theorem R3.set1(h:R3 T W b x y a)  y'  :R3 T (W.setCell (az b 1) (Iq y')) b x y' a:=heap_setCell_same _ b 1 _ T _ h
theorem R3.set2(h:R3 T W b x y a)  a'  :R3 T (W.setCell (az b 2) (Iq a')) b x y a':=heap_setCell_same _ b 2 _ T _ h
theorem R3.set(h:R3 T W b x y a)  x' y' a'  :R3 T (((W.setCell (az b 0) (Iq x')).setCell (az b 1) (Iq y')).setCell (az b 2) (Iq a')) b x' y' a':=
 ((h.set0 x').set1 y').set2 a'
theorem R3.others(h:R3 T W b x y a)(hk:b≠k)  v0 v1 v2  :R3 T (((W.setCell (az k 0) v0).setCell (az k 1) v1).setCell (az k 2) v2) b x y a:=((h.other hk v0).other hk v1).other hk v2
theorem Gr.set3(h:Gr W W')(hk:W.heap.size<=k)  v0 v1 v2  :Gr W (((W'.setCell (az k 0) v0).setCell (az k 1) v1).setCell (az k 2) v2):=((h.set hk v0).set hk v1).set hk v2
end
def sv(f g b:Int):Value:=.agg #[Iq f,Iq g,Iq b]
def kn(n:Int):Int:=if n<0\/8<n then 0 else n
def bo(n:Int):Int:=if n=1 then 1 else 0
theorem Xn  n  :0<=kn n/\kn n<=8:=by grind[kn]
theorem uL  n  :0<=bo n/\bo n<=1:=by grind[bo]
theorem Lx(n:Int)(w:World):Cw 144 #[Iq n] w fun e w'=>e=Rw (Iq (kn n))/\w'=w:=by
 go_enter func144,ntmps144;by_cases h1:n<0;·go_wp2;go_ret;simp_all[kn]
 ·by_cases h2:8<n;·go_wp2;go_ret;exact⟨by rw[show kn n=0 by unfold kn;rw[if_pos (.inr h2)]];rfl,rfl⟩
  ·go_wp2;go_ret;exact⟨by rw[show kn n=n by unfold kn;rw[if_neg (by omega)]];rfl,rfl⟩
theorem Cr(f g b:Int)(w:World):Cw 69 #[sv f g b] w fun e w'=>e=Rw (sv (kn f) (kn g) (bo b))/\Gr w w':=by
 have P:Hid (∀n w,Cw 144 #[Iq n] w fun e w'=>e=Rw (Iq (kn n))/\w'=w):=Lx;obtain⟨x,hx⟩:=ag (kn f);obtain⟨y,hy⟩:=ag (kn g);have P1:=P f;have P2:=P g;rw[hx]at P1;rw[hy]at P2;unfold sv;go_enter func69,ntmps69;by_cases h:b=1;·subst h;go_wp2_with fail;go_region_held(fun W=>W.cell? (az w.heap.size 0)=some (Iq f)/\W.cell? (az w.heap.size 1)=some (Iq g)/\W.cell? (az w.heap.size 2)=some (Iq 1)) (go_keep) (first|(go_at_call 144;first|(with_reducible refine ao (P1 _) ?_;rintro e w2 ⟨rfl,rfl⟩)|(with_reducible refine ao (P2 _) ?_;rintro e w2 ⟨rfl,rfl⟩)));go_wp2;refine bodyPost_ret (v:=sv x y 1) (by simp[results,Tryz.results69,go_sem,sv]) rfl ?_;subst hx hy;exact⟨rfl,(((Gr.refl w).alloc _).alloc _).drew⟩
 ·have hb:bo b=0:=if_neg h;go_wp2_with fail;go_region_held(fun W=>W.cell? (az w.heap.size 0)=some (Iq f)/\W.cell? (az w.heap.size 1)=some (Iq g)/\W.cell? (az w.heap.size 2)=some (Iq 0)) (go_keep) (first|(go_at_call 144;first|(with_reducible refine ao (P1 _) ?_;rintro e w2 ⟨rfl,rfl⟩)|(with_reducible refine ao (P2 _) ?_;rintro e w2 ⟨rfl,rfl⟩)));go_wp2;refine bodyPost_ret (v:=sv x y 0) (by simp[results,Tryz.results69,go_sem,sv]) rfl ?_;subst hx hy;exact⟨by rw[hb];rfl,(((Gr.refl w).alloc _).alloc _).drew⟩
def ov(a b:Int):Int:=if kn b=0 then kn a else kn b
def xn(a b:Int):Int:=max (bo b) (bo a)
theorem zdz  a b  :0<=ov a b/\ov a b<=8:=by have:=Xn a;have:=Xn b;unfold ov;split<;>omega
theorem ZU  a b  :0<=xn a b/\xn a b<=1:=by have:=uL a;have:=uL b;unfold xn;omega
theorem zdq{n}(h:0<=n/\n<=8):kn n=n:=if_neg (by omega)
theorem zbG{n}(h:0<=n/\n<=1):bo n=n:=by unfold bo;split<;>omega
theorem Xo  a b  :kn (ov a b)=ov a b:=zdq (zdz a b)
theorem Yp  a b  :bo (xn a b)=xn a b:=zbG (ZU a b)
theorem Jj  a  :ov 0 a=kn a:=by have:kn 0=0:=rfl;unfold ov;split<;>omega
theorem Ql  a  :xn 0 a=bo a:=by have:bo 0=0:=rfl;have:=uL a;unfold xn;omega
def P2(T:TypeId)(w u:World)(B C:Nat)(a b c:Int):Prop:=R3 T u B a b c/\R3 T u C 0 0 0/\Gr w u
section
variable{T:TypeId} {w u:World} {B C:Nat} {a b c:Int}
theorem P2.ch0(h:P2 T w u B C a b c)(hn:C≠B)(hl:w.heap.size<=B)(x:Int):∃u' a',((a=0/\u'=u.setCell (az B 0) (Iq x)/\a'=x)\/(¬a=0/\u'=u/\a'=a))/\P2 T w u' B C a' b c:=by
 by_cases e:a=0;·exact⟨_,_,.inl ⟨e,rfl,rfl⟩,h.1.set0 x,h.2.1.other hn _,h.2.2.set hl _⟩
 ·exact⟨_,_,.inr ⟨e,rfl,rfl⟩,h⟩
theorem P2.ch1(h:P2 T w u B C a b c)(hn:C≠B)(hl:w.heap.size<=B)(x:Int):∃u' b',((b=0/\u'=u.setCell (az B 1) (Iq x)/\b'=x)\/(¬b=0/\u'=u/\b'=b))/\P2 T w u' B C a b' c:=by
 by_cases e:b=0;·exact⟨_,_,.inl ⟨e,rfl,rfl⟩,h.1.set1 x,h.2.1.other hn _,h.2.2.set hl _⟩
 ·exact⟨_,_,.inr ⟨e,rfl,rfl⟩,h⟩
theorem P2.set2(h:P2 T w u B C a b c)(hn:C≠B)(hl:w.heap.size<=B)(x:Int):P2 T w (u.setCell (az B 2) (Iq x)) B C a b x:=⟨h.1.set2 x,h.2.1.other hn _,h.2.2.set hl _⟩
theorem I9{p:Prop}{x y z:Int}{q r:Prop}[Decidable p](h:(p/\q/\z=x)\/(¬p/\r/\z=y)):(if p then x else y)=z:=by grind
end
theorem vM(f g b f2 g2 b2:Int)(w:World):Cw 38 #[sv f g b,sv f2 g2 b2] w fun e w'=>e=Rw (sv (ov f f2) (ov g g2) (xn b b2))/\Gr w w':=by
 have CC:Hid (∀f g b w,Cw 69 #[sv f g b] w fun e w'=>e=Rw (sv (kn f) (kn g) (bo b))/\Gr w w'):=Cr;unfold sv at CC⊢;go_enter func38,ntmps38;go_wp2_with fail;obtain⟨S,hS⟩:=ag w.heap.size;obtain⟨W0,cK⟩:=ag (((w.alloc (.cells #[Iq f,Iq g,Iq b] 37)).alloc (.cells #[Iq f2,Iq g2,Iq b2] 37)).alloc (.cells #[Iq 0,Iq 0,Iq 0] 37));have G0:Hid (Gr w W0):=by rw[<-cK];exact(((Gr.refl w).alloc _).alloc _).alloc _
 have RA:Hid (R3 37 W0 S f g b):=by rw[<-cK,<-hS];exact(R3.new w _ _ _ _).gr (((Gr.refl _).alloc _).alloc _)
 have RB:Hid (R3 37 W0 (S+1) f2 g2 b2):=by have:=R3.new (w.alloc (.cells #[Iq f,Iq g,Iq b] 37)) f2 g2 b2 37;simp only[aI,hS]at this;rw[<-cK];exact this.gr ((Gr.refl _).alloc _)
 have RC:Hid (R3 37 W0 (S+1+1) 0 0 0):=by have:=R3.new ((w.alloc (.cells #[Iq f,Iq g,Iq b] 37)).alloc (.cells #[Iq f2,Iq g2,Iq b2] 37)) 0 0 0 37;simp only[aI,hS]at this;rw[<-cK];exact this
 rw[cK,hS];clear cK;have HS:Hid (w.heap.size=S):=hS;clear hS;have a0:=RA.c0;have a1:=RA.c1;have a2:=RA.c2;have b0:=RB.c0;have b1:=RB.c1;have b2':=RB.c2;obtain⟨x,hx⟩:=ag (kn f);obtain⟨y,hy⟩:=ag (kn g);obtain⟨z,hz⟩:=ag (bo b);obtain⟨x2,nD⟩:=ag (kn f2);obtain⟨y2,SQ⟩:=ag (kn g2);obtain⟨z2,gd⟩:=ag (bo b2);have HV:Hid (sv (ov f f2) (ov g g2) (xn b b2)=sv (if x2=0 then x else x2) (if y2=0 then y else y2) (max z2 z)):=by show _=_;unfold ov xn;rw[hx,hy,hz,nD,SQ,gd]
 have bz:=uL b;have bz2:=uL b2;rw[hz]at bz;rw[gd]at bz2;have C1:=CC f g b;have C2:=CC f2 g2 b2;rw[hx,hy,hz]at C1;rw[nD,SQ,gd]at C2;go_cut[2,3,4]from 5 to 9 (fun u v t wx=>u=Pq S/\v=Pq (S+1)/\t=Pq (S+1+1)/\Hid (R3 37 wx S x y z/\R3 37 wx (S+1) x2 y2 z2/\R3 37 wx (S+1+1) 0 0 0/\Gr w wx));case first=>
  go_region_with(go_at_call 69;(first|(with_reducible refine ao (C1 _) ?_)|(with_reducible refine ao (C2 _) ?_));rintro e wn ⟨rfl,O5⟩;have ol:Hid (Gr W0 wn):=(by first|exact((Gr.refl W0).drew).trans O5|exact Gr.trans (Hid.out (by assumption)) O5);have uq:Hid (R3 37 wn S f g b):=RA.out.gr ol.out;have zu:Hid (R3 37 wn (S+1) f2 g2 b2):=RB.out.gr ol.out;clear O5;have m0:=uq.out.c0;have m1:=uq.out.c1;have m2:=uq.out.c2;have n0:=zu.out.c0;have n1:=zu.out.c1;have n2:=zu.out.c2;have f0:=uq.out.fz 0;have f1:=uq.out.fz 1;have f2':=uq.out.fz 2;have g0:=zu.out.fz 0;have g1:=zu.out.fz 1;have g2':=zu.out.fz 2);all_goals
   have HO:Hid (R3 37 ((((((wn.setCell (az S 0) (Iq x)).setCell (az S 1) (Iq y)).setCell (az S 2) (Iq z)).setCell (az (S+1) 0) (Iq x2)).setCell (az (S+1) 1) (Iq y2)).setCell (az (S+1) 2) (Iq z2)) S x y z/\R3 37 ((((((wn.setCell (az S 0) (Iq x)).setCell (az S 1) (Iq y)).setCell (az S 2) (Iq z)).setCell (az (S+1) 0) (Iq x2)).setCell (az (S+1) 1) (Iq y2)).setCell (az (S+1) 2) (Iq z2)) (S+1) x2 y2 z2/\R3 37 ((((((wn.setCell (az S 0) (Iq x)).setCell (az S 1) (Iq y)).setCell (az S 2) (Iq z)).setCell (az (S+1) 0) (Iq x2)).setCell (az (S+1) 1) (Iq y2)).setCell (az (S+1) 2) (Iq z2)) (S+1+1) 0 0 0/\Gr w ((((((wn.setCell (az S 0) (Iq x)).setCell (az S 1) (Iq y)).setCell (az S 2) (Iq z)).setCell (az (S+1) 0) (Iq x2)).setCell (az (S+1) 1) (Iq y2)).setCell (az (S+1) 2) (Iq z2))):=
    ⟨(uq.set x y z).others (by omega) _ _ _,(zu.others (by omega) _ _ _).set x2 y2 z2,((RC.gr ol).others (by omega) _ _ _).others (by omega) _ _ _,((G0.trans ol).set3 (by rw[HS.out];omega) _ _ _).set3 (by rw[HS.out];omega) _ _ _⟩;clear m0 m1 m2 n0 n1 n2 f0 f1 f2' g0 g1 g2' a0 a1 a2 b0 b1 b2' uq zu;go_wp2_with fail;go_meet;exact⟨rfl,rfl,rfl,HO⟩
 case rest=>
  obtain⟨rfl,rfl,rfl,HO⟩:=hcut;clear a0 a1 a2 b0 b1 b2' RA RB RC;have a0:=HO.1.c0;have a1:=HO.1.c1;have a2:=HO.1.c2;have b0:=HO.2.1.c0;have b1:=HO.2.1.c1;have b2':=HO.2.1.c2;have g0:=HO.2.1.fz 0;have g1:=HO.2.1.fz 1;have g2':=HO.2.1.fz 2;have gg:=HO.2.2.2;have hl:w.heap.size<=S+1:=by rw[HS.out];omega
  obtain⟨W1,x3,q1,p1⟩:=P2.ch0 (C:=S+1+1) (w:=w) HO.out.2 (by omega) hl x;obtain⟨W2,y3,q2,p2⟩:=p1.ch1 (by omega) hl y;obtain⟨W3,z3,q3,p3⟩:∃W3 z3,((z2<z/\z2<=z/\W3=W2.setCell (az (S+1) 2) (Iq z)/\z3=z)\/(¬z2<z/\z<=z2/\W3=W2.setCell (az (S+1) 2) (Iq z2)/\z3=z2))/\P2 37 w W3 (S+1) (S+1+1) x3 y3 z3:=by
   by_cases h:z2<z;·exact⟨_,_,.inl ⟨h,by omega,rfl,rfl⟩,p2.set2 (by omega) hl z⟩
   ·exact⟨_,_,.inr ⟨h,by omega,rfl,rfl⟩,p2.set2 (by omega) hl z2⟩
  have HW:Hid (sv (ov f f2) (ov g g2) (xn b b2)=sv x3 y3 z3):=by show _=_;rw[HV.out,I9 q1,I9 q2,show max z2 z=z3 by omega]
  clear p1 p2;rcases q1 with⟨h1,rfl,rfl⟩|⟨h1,rfl,rfl⟩<;>rcases q2 with⟨h2,rfl,rfl⟩|⟨h2,rfl,rfl⟩<;>rcases q3 with⟨h3,h3',rfl,rfl⟩|⟨h3,h3',rfl,rfl⟩;all_goals have n0:=p3.1.c0;have n1:=p3.1.c1;have n2:=p3.1.c2;have o0:=p3.2.1.c0;have o1:=p3.2.1.c1;have o2:=p3.2.1.c2;have k0:=p3.2.1.fz;go_wp2;refine bodyPost_ret (results_cell_row rfl _ _ (S+1+1) _ _ _ _ rfl (p3.2.1.set _ _ _) underlying37 rfl (by kernel_rfl)) rfl ?_;exact⟨by show _=Ending.returned (sv (ov f f2) (ov g g2) (xn b b2));rw[HW.out];rfl,p3.2.2.set3 (by rw[HS.out];omega) _ _ _⟩
def TF(e:Ce):Value:=.agg #[.string e.t,Iq e.f,Iq e.g,Iq e.b,Iq e.p]
theorem oR(f g b:Int)(w:World):Cw 37 #[sv f g b] w fun e w'=>e=Rw (TF (bk f g b))/\Gr w w':=by unfold sv;go_enter func37,ntmps37;go_wp2;refine bodyPost_ret (v:=TF (bk f g b)) (by simp[results,Tryz.results37,go_sem,TF,bk,spc]) rfl ?_;exact⟨rfl,((Gr.refl w).alloc _).alloc _⟩
theorem uR(f g b:Int)(w:World):Cw 71 #[sv f g b] w fun e w'=>e=Rw (sv (kn f) (kn g) (bo b))/\Gr w w':=by have OV:Hid (∀f g b f2 g2 b2 w,Cw 38 #[sv f g b,sv f2 g2 b2] w fun e w'=>e=Rw (sv (ov f f2) (ov g g2) (xn b b2))/\Gr w w'):=vM;have O1:=OV 0 0 0 f g b;rw[Jj,Jj,Ql]at O1;unfold sv at O1⊢;go_enter func71,ntmps71;go_wp2_with(go_at_call 38;refine ao (O1 _) ?_;rintro e w1 ⟨rfl,g1⟩;have RC:Hid (R3 37 w1 (w.heap.size+1) 0 0 0):=((by have:=R3.new (w.alloc (.cells #[Iq f,Iq g,Iq b] 37)) 0 0 0 37;simp_all):R3 37 _ (w.heap.size+1) 0 0 0).gr g1;have c0:=RC.c0;have c1:=RC.c1;have c2:=RC.c2;have f0:=RC.fz 0;have f1:=RC.fz 1;have f2:=RC.fz 2;have GG:Hid (Gr w w1):=(((Gr.refl w).alloc _).alloc _).trans g1;clear g1);refine bodyPost_ret (results_cell_row rfl _ _ (w.heap.size+1) _ _ _ _ rfl (RC.set _ _ _) underlying37 rfl (by kernel_rfl)) rfl ?_;exact⟨rfl,GG.set3 (by omega) _ _ _⟩
theorem QU(n:Int)(w:World):Cw 35 #[Iq n] w fun e w'=>e=Rw (.bool (decide (1<=n/\n<=400)))/\w'=w:=by
 by_cases h1:1<=n
 ·by_cases h2:n<=400;·rw[show decide (1<=n/\n<=400)=true from decide_eq_true ⟨h1,h2⟩];go_enter func35,ntmps35;go_wp2;go_ret;simp_all
  ·rw[show decide (1<=n/\n<=400)=false from decide_eq_false (by omega)];go_enter func35,ntmps35;go_wp2;go_ret;simp_all
 ·rw[show decide (1<=n/\n<=400)=false from decide_eq_false (by omega)];go_enter func35,ntmps35;go_wp2;go_ret;simp_all
section
variable{K M cap W H:Nat} {c:Nat->Nat->Ce}
theorem Vw(w:World)(h:CS 100 42 w K M cap W H c)(h0:0<W)(hW:W<=400)(hH:H<=400)(y:Nat)(hy:y<H):Cw 145 #[Pq K,Iq y] w fun e w'=>e=Rw (.slice (some (az M (y*W*5))) W W)/\Gr w w':=by
 have k0:=h.k0;have k2:=h.k2;have hc:=h.hc;obtain⟨p,hp⟩:=ag (y*W);obtain⟨n,hn⟩:=ag (W*H);have e1:(y:Int)*(W:Int)=(p:Int):=by rw[<-hp];simp
 have e2:((y:Int)+1)*(W:Int)=(p:Int)+(W:Int):=by rw[JG,e1];omega
 have pn:p+W<=n:=by rw[<-hp,<-hn,s_ W H,<-Nat.succ_mul];exact sW _ (by omega)
 have nb:n<=160000:=by rw[<-hn];exact tc hW hH
 rw[hn]at k2 hc;rw[hp];have w0:¬W=0:=by omega
 have w1:¬p+W=p:=by omega
 clear h hn hp;go_enter func145,ntmps145;go_wp2_with fail;go_quiet(fail);go_wp2;go_ret;refine⟨?_,(Gr.refl w).drewN _⟩;simp_all
end
def iR(c:Nat->Nat->Ce)(y a:Nat):Nat->Nat->Ce:=fun y' x'=>if y'=y/\x'+1=a/\(c y a).p=2 then bl (c y' x')else c y' x'
def FY(c:Nat->Nat->Ce)(y q:Nat):Nat->Nat->Ce:=fun y' x'=>if y'=y/\x'=q+1/\(c y q).p=1 then bl (c y' x')else c y' x'
def cut(c:Nat->Nat->Ce)(y a q:Nat):Nat->Nat->Ce:=FY (iR c y a) y q
theorem Ku{c}{y a}(h:¬(c y a).p=2):iR c y a=c:=by grind[iR]
theorem Kw{c}{y a}(h:¬(c y a).p=1):FY c y a=c:=by grind[FY]
theorem Kv{c}{y k}(h:(c y (k+1)).p=2):iR c y (k+1)=gy c y k (bl (c y k)):=by grind[iR,gy]
theorem Kx{c}{y q}(h:(c y q).p=1):FY c y q=gy c y (q+1) (bl (c y (q+1))):=by grind[FY,gy]
theorem ID{c}{y a x}(h:a<=x)  y'  :iR c y a y' x=c y' x:=by grind[iR]
section
variable{K M cap W H:Nat} {c:Nat->Nat->Ce}
theorem EJ(w:World)(h:CS 100 42 w K M cap W H c)(h0:0<W)(hW:W<=400)(hH:H<=400)(y a q:Nat)(hy:y<H)(Uc:a<=q)(hq:q<W)(hp:qZ W (c y)):Cw 72 #[Pq K,Iq y,Iq a,Iq ((q:Int)+1)] w fun e w'=>e=Rw (.slice (some (az M (y*W*5+a*5))) (q+1-a) (q+1-a))/\Cv 42 w' M W H (cut c y a q)/\cN M w w':=by
 have RC:Hid (Cw 145 #[Pq K,Iq y] w fun e w'=>e=Rw (.slice (some (az M (y*W*5))) W W)/\Gr w w'):=Vw w h h0 hW hH y hy;have BC:Hid (∀f g b w,Cw 37 #[sv f g b] w fun e w'=>e=Rw (TF (bk f g b))/\Gr w w'):=oR;have HV:Hid (Cv 42 w M W H c):=h.cv;have HP:Hid (qZ W (c y)):=hp;obtain⟨o,ho⟩:=ag (y*W*5);have HO:Hid (y*W*5=o):=ho;unfold sv TF bk at BC;rw[ho]at RC;clear h hp;rw[ho];clear ho;go_enter func72,ntmps72;go_wp2_with fail;refine ao RC ?_;rintro e w1 ⟨rfl,g1⟩;have V1:Hid (Cv 42 w1 M W H c):=HV.gr g1;have C1:Hid (cN M w w1):=cN.gr g1;clear g1 HV RC;have ca:=V1.c4 hy (show a<W by omega);rw[HO.out]at ca;obtain⟨pa,I6⟩:=ag ((c y a).p);rw[I6]at ca;have HA:Hid ((c y a).p=pa):=I6;clear I6;go_upto_if 18 with fail;go_cut[9]from 13 to 29 (fun u wx=>u=.slice (some (az M o)) W W/\Hid (Cv 42 wx M W H (iR c y a)/\cN M w wx));case first=>
  by_cases ht:pa=2
  ·obtain⟨k,I4,Ag,_⟩:=HP.tail a (by omega) (HA.trans ht);subst I4;have HC:Hid (iR c y (k+1)=gy c y k (bl (c y k))):=Kv (HA.trans ht);subst ht;clear Ag;have b1:=V1.c1 hy (show k<W by omega);have b2:=V1.c2 hy (show k<W by omega);have b3:=V1.c3 hy (show k<W by omega);rw[HO.out]at b1 b2 b3;go_wp2_with(go_at_call 37;refine ao (BC _ _ _ _) ?_;rintro e w2 ⟨rfl,g2⟩;have V2:Hid (Cv 42 w2 M W H c):=V1.gr g2;have C2:Hid (cN M w w2):=C1.thenGr g2;clear g2;have d0:=V2.c0 hy (show k<W by omega);have d1:=V2.c1 hy (show k<W by omega);have d2:=V2.c2 hy (show k<W by omega);have d3:=V2.c3 hy (show k<W by omega);have d4:=V2.c4 hy (show k<W by omega);rw[HO.out]at d0 d1 d2 d3 d4;have f0:=V2.fz;have fl:=V2.lt);go_meet;refine⟨rfl,?_,?_⟩;·rw[HC.out,<-HO.out];exact V2.set hy (show k<W by omega) (bl (c y k))
   ·exact((((C2.set (.inl rfl) _ _).set (.inl rfl) _ _).set (.inl rfl) _ _).set (.inl rfl) _ _).set (.inl rfl) _ _
  ·have ht':(pa==2)=false:=by simpa using ht
   go_wp2_with fail;go_meet;exact⟨rfl,by rw[Ku (by rw[HA.out];exact ht)];exact V1,C1⟩
 case rest=>
  obtain⟨rfl,HR⟩:=hcut;clear V1 C1 ca;have cq:=HR.1.c4 hy hq;rw[HO.out]at cq;obtain⟨pq,Xc⟩:=ag ((iR c y a y q).p);rw[Xc]at cq;have HQ:Hid ((iR c y a y q).p=pq):=Xc;clear Xc;have hcc:Hid ((c y q).p=pq):=by have:=HQ.out;rw[ID Uc]at this;exact this
  go_upto_if 36 with fail;go_cut[9]from 13 to 45 (fun u wx=>u=.slice (some (az M o)) W W/\Hid (Cv 42 wx M W H (cut c y a q)/\cN M w wx));case first=>
   by_cases ht:pq=1
   ·obtain⟨hl,_⟩:=HP.head q hq (hcc.trans ht);have HC:Hid (cut c y a q=gy (iR c y a) y (q+1) (bl (iR c y a y (q+1)))):=Kx (HQ.trans ht);subst ht;have b1:=HR.1.c1 hy hl;have b2:=HR.1.c2 hy hl;have b3:=HR.1.c3 hy hl;rw[HO.out]at b1 b2 b3;go_wp2_with(go_at_call 37;refine ao (BC _ _ _ _) ?_;rintro e w2 ⟨rfl,g2⟩;have V2:Hid (Cv 42 w2 M W H (iR c y a)):=HR.1.gr g2;have C2:Hid (cN M w w2):=HR.2.thenGr g2;clear g2;have d0:=V2.c0 hy hl;have d1:=V2.c1 hy hl;have d2:=V2.c2 hy hl;have d3:=V2.c3 hy hl;have d4:=V2.c4 hy hl;rw[HO.out]at d0 d1 d2 d3 d4;have f0:=V2.fz;have fl:=V2.lt);go_meet;refine⟨rfl,?_,?_⟩;·rw[HC.out,<-HO.out];exact V2.set hy hl (bl (iR c y a y (q+1)))
    ·exact((((C2.set (.inl rfl) _ _).set (.inl rfl) _ _).set (.inl rfl) _ _).set (.inl rfl) _ _).set (.inl rfl) _ _
   ·have ht':(pq==1)=false:=by simpa using ht
    go_wp2_with fail;go_meet;exact⟨rfl,by unfold cut;rw[Kw (by rw[HQ.out];exact ht)];exact HR.1,HR.2⟩
  case rest=>
   obtain⟨rfl,HZ⟩:=hcut;have hl1:a<=W:=by omega
   have nz:¬q+1=a:=by omega
   go_wp2;go_ret;exact⟨rfl,HZ.1,HZ.2⟩
end
def mF(ax ay aw ah bx fy bw bh:Int):Int×Int×Int×Int:=if g_ ax aw bx bw>=jy ax aw bx bw\/g_ ay ah fy bh>=jy ay ah fy bh then(0,0,0,0)else(g_ ax aw bx bw,g_ ay ah fy bh,jy ax aw bx bw-g_ ax aw bx bw,jy ay ah fy bh-g_ ay ah fy bh)
theorem Ys  ax ay aw ah bx fy bw bh  :xA ax ay aw ah bx fy bw bh=rv (mF ax ay aw ah bx fy bw bh).1 (mF ax ay aw ah bx fy bw bh).2.1 (mF ax ay aw ah bx fy bw bh).2.2.1 (mF ax ay aw ah bx fy bw bh).2.2.2:=by grind[xA,mF]
def dG(W H:Int)(x y a b cx cy ca cb:Int):Int×Int×Int×Int:=mF 0 0 W H (mF x y a b cx cy ca cb).1 (mF x y a b cx cy ca cb).2.1 (mF x y a b cx cy ca cb).2.2.1 (mF x y a b cx cy ca cb).2.2.2
structure J5(W H:Int)(x y a b cx cy ca cb:Int)(l t u v:Int):Prop where
 l0:0<=l
 t0:0<=t
 u0:0<=u
 v0:0<=v
 lu:l+u<=W
 tv:t+v<=H
 uv:0<u↔0<v
 mem:∀p q,(l<=p/\p<l+u/\t<=q/\q<t+v)↔((0<=p/\p<W/\0<=q/\q<H)/\(bn x<=p/\p<bn x+bc a/\bn y<=q/\q<bn y+bc b)/\(bn cx<=p/\p<bn cx+bc ca/\bn cy<=q/\q<bn cy+bc cb))
def cq(px py pa pb qx qy qa qb:Int):Int×Int×Int×Int:=if max px qx>=min (px+pa) (qx+qa)\/max py qy>=min (py+pb) (qy+qb)then(0,0,0,0)else(max px qx,max py qy,min (px+pa) (qx+qa)-max px qx,min (py+pb) (qy+qb)-max py qy)
theorem Oj  px py pa pb qx qy qa qb p q  :((cq px py pa pb qx qy qa qb).1<=p/\p<(cq px py pa pb qx qy qa qb).1+(cq px py pa pb qx qy qa qb).2.2.1/\(cq px py pa pb qx qy qa qb).2.1<=q/\q<(cq px py pa pb qx qy qa qb).2.1+(cq px py pa pb qx qy qa qb).2.2.2)↔((px<=p/\p<px+pa/\py<=q/\q<py+pb)/\(qx<=p/\p<qx+qa/\qy<=q/\q<qy+qb)):=by unfold cq;grind
theorem WF  px py pa pb qx qy qa qb  (h1:-100000<=px/\px<=100000) (h2:-100000<=py/\py<=100000) (h3:0<=pa/\pa<=100000) (h4:0<=pb/\pb<=100000) (h5:-100000<=qx/\qx<=100000) (h6:-100000<=qy/\qy<=100000):
 (-100000<=(cq px py pa pb qx qy qa qb).1/\(cq px py pa pb qx qy qa qb).1<=100000)/\(-100000<=(cq px py pa pb qx qy qa qb).2.1/\(cq px py pa pb qx qy qa qb).2.1<=100000)/\(0<=(cq px py pa pb qx qy qa qb).2.2.1/\(cq px py pa pb qx qy qa qb).2.2.1<=100000)/\(0<=(cq px py pa pb qx qy qa qb).2.2.2/\(cq px py pa pb qx qy qa qb).2.2.2<=100000)/\(0<(cq px py pa pb qx qy qa qb).2.2.1↔0<(cq px py pa pb qx qy qa qb).2.2.2):=by by_cases h:max px qx>=min (px+pa) (qx+qa)\/max py qy>=min (py+pb) (qy+qb);all_goals grind[cq]
theorem zbL{W H qx qy qa qb}(hW:1<=W)(hH:1<=H):0<=(cq 0 0 W H qx qy qa qb).1/\0<=(cq 0 0 W H qx qy qa qb).2.1/\(cq 0 0 W H qx qy qa qb).1+(cq 0 0 W H qx qy qa qb).2.2.1<=W/\(cq 0 0 W H qx qy qa qb).2.1+(cq 0 0 W H qx qy qa qb).2.2.2<=H:=by grind[cq]
theorem Iz  ax ay aw ah bx fy bw bh  :mF ax ay aw ah bx fy bw bh=cq (bn ax) (bn ay) (bc aw) (bc ah) (bn bx) (bn fy) (bc bw) (bc bh):=rfl
theorem jP{W H}(hW:1<=W/\W<=400)(hH:1<=H/\H<=400)  x y a b cx cy ca cb  :
 J5 W H x y a b cx cy ca cb (dG W H x y a b cx cy ca cb).1 (dG W H x y a b cx cy ca cb).2.1 (dG W H x y a b cx cy ca cb).2.2.1 (dG W H x y a b cx cy ca cb).2.2.2:=by have k:=WF (bn x) (bn y) (bc a) (bc b) (bn cx) (bn cy) (bc ca) (bc cb) (di x) (di y) (cH a) (cH b) (di cx) (di cy);have m1:=Oj (bn x) (bn y) (bc a) (bc b) (bn cx) (bn cy) (bc ca) (bc cb);unfold dG;rw[Iz x y a b cx cy ca cb];generalize cq (bn x) (bn y) (bc a) (bc b) (bn cx) (bn cy) (bc ca) (bc cb)=z at k m1⊢;obtain⟨i0,i1,i2,i3⟩:=z;simp only at k m1⊢;rw[Iz,nT (n:=i0) k.1,nT (n:=i1) k.2.1,gG (n:=i2) k.2.2.1,gG (n:=i3) k.2.2.2.1,gG (n:=W) (by omega),gG (n:=H) (by omega),show bn 0=0 from rfl];have k2:=WF 0 0 W H i0 i1 i2 i3 (by omega) (by omega) (by omega) (by omega) k.1 k.2.1;have m2:=Oj 0 0 W H i0 i1 i2 i3;have k3:=zbL (qx:=i0) (qy:=i1) (qa:=i2) (qb:=i3) hW.1 hH.1;generalize cq 0 0 W H i0 i1 i2 i3=z at k2 m2 k3⊢;obtain⟨j0,j1,j2,j3⟩:=z;simp only at k2 m2 k3⊢;refine⟨k3.1,k3.2.1,k2.2.2.1.1,k2.2.2.2.1.1,k3.2.2.1,k3.2.2.2,k2.2.2.2.2,fun p q=>?_⟩;grind
section
variable{K M cap W H:Nat} {c:Nat->Nat->Ce}
theorem Ey(w:World)(h:CS 100 42 w K M cap W H c)(x y a b cx cy ca cb:Int):Cw 70 #[Pq K,rv x y a b,rv cx cy ca cb] w fun e w'=>e=Rw (rv (dG W H x y a b cx cy ca cb).1 (dG W H x y a b cx cy ca cb).2.1 (dG W H x y a b cx cy ca cb).2.2.1 (dG W H x y a b cx cy ca cb).2.2.2)/\Gr w w':=by
 have k0:=h.k0;have k1:=h.k1;have kl:=h.klt;clear h;have CP:Hid (∀ax ay aw ah bx fy bw bh w,Cw 61 #[rv ax ay aw ah,rv bx fy bw bh] w fun e w'=>e=Rw (rv (mF ax ay aw ah bx fy bw bh).1 (mF ax ay aw ah bx fy bw bh).2.1 (mF ax ay aw ah bx fy bw bh).2.2.1 (mF ax ay aw ah bx fy bw bh).2.2.2)/\Gr w w'):=fun ax ay aw ah bx fy bw bh w=>by rw[<-Ys];exact IA ax ay aw ah bx fy bw bh w
 obtain⟨q1,tF⟩:=ag (mF x y a b cx cy ca cb);have C1:=CP x y a b cx cy ca cb;rw[tF]at C1;obtain⟨i0,i1,i2,i3⟩:=q1;obtain⟨q2,vq⟩:=ag (mF 0 0 (W:Int) (H:Int) i0 i1 i2 i3);have C2:=CP 0 0 W H i0 i1 i2 i3;rw[vq]at C2;obtain⟨j0,j1,j2,j3⟩:=q2;have HQ:Hid (dG W H x y a b cx cy ca cb=(j0,j1,j2,j3)):=by show _=_;unfold dG;rw[tF];exact vq
 rw[HQ.out];clear tF vq CP;unfold rv at C1 C2⊢;simp only at C1 C2⊢;go_enter func70,ntmps70;go_wp2_with fail;obtain⟨S,hS⟩:=ag w.heap.size;have HS:Hid (w.heap.size=S):=hS;obtain⟨W0,cK⟩:=ag (((w.alloc (.cells #[Iq x,Iq y,Iq a,Iq b] 58)).alloc (.cells #[Iq cx,Iq cy,Iq ca,Iq cb] 58)).alloc (.cells #[Iq 0,Iq 0,Iq 0,Iq 0] 58));have G0:Hid (Gr w W0):=by rw[<-cK];exact(((Gr.refl w).alloc _).alloc _).alloc _
 have RA:Hid (R4 58 W0 S x y a b):=by rw[<-cK,<-hS];exact(R4.new w _ _ _ _ _).gr (((Gr.refl _).alloc _).alloc _)
 have RB:Hid (R4 58 W0 (S+1) cx cy ca cb):=by have:=R4.new (w.alloc (.cells #[Iq x,Iq y,Iq a,Iq b] 58)) cx cy ca cb 58;simp only[aI,hS]at this;rw[<-cK];exact this.gr ((Gr.refl _).alloc _)
 have RC:Hid (R4 58 W0 (S+1+1) 0 0 0 0):=by have:=R4.new ((w.alloc (.cells #[Iq x,Iq y,Iq a,Iq b] 58)).alloc (.cells #[Iq cx,Iq cy,Iq ca,Iq cb] 58)) 0 0 0 0 58;simp only[aI,hS]at this;rw[<-cK];exact this
 have k0':=(bU (a:=(az K 0)) (G0.block kl)).trans k0;have k1':=(bU (a:=(az K 1)) (G0.block kl)).trans k1;have sz:Hid (W0.heap.size=S+3):=by show W0.heap.size=S+3;rw[<-cK];simp only[aI,hS]
 have kl0:K<W0.heap.size:=by rw[sz.out,<-HS.out];omega
 rw[cK,hS];clear cK hS k0 k1;go_cut[4,5,6,7]from 8 to 16 (fun u v t s wx=>u=Pq S/\v=Pq (S+1)/\t=Pq (S+1+1)/\s=Pq W0.heap.size/\Hid (R4 58 wx S x y a b/\R4 58 wx (S+1) cx cy ca cb/\R4 58 wx (S+1+1) 0 0 0 0/\R4 58 wx W0.heap.size 0 0 W H/\Gr w wx));case first=>go_region;all_goals go_wp2_with fail;go_meet;have gz:Gr W0 (W0.alloc (.cells #[Iq 0,Iq 0,Iq W,Iq H] 58)).drew:=((Gr.refl W0).alloc _).drew;exact⟨rfl,rfl,rfl,rfl,RA.gr gz,RB.gr gz,RC.gr gz,(R4.new W0 0 0 W H _).gr ((Gr.refl _).drew),G0.trans gz⟩
 case rest=>obtain⟨rfl,rfl,rfl,rfl,HR⟩:=hcut;obtain⟨Z,hZ⟩:=ag W0.heap.size;have HZ:Hid (Z=S+3):=hZ.symm.trans sz;rw[hZ]at HR;rw[hZ];clear hZ RA RB RC kl0 k0' k1' G0 sz;have a0:=HR.1.c0;have a1:=HR.1.c1;have a2:=HR.1.c2;have a3:=HR.1.c3;have b0:=HR.2.1.c0;have b1:=HR.2.1.c1;have b2:=HR.2.1.c2;have b3:=HR.2.1.c3;have z0:=HR.2.2.2.1.c0;have z1:=HR.2.2.2.1.c1;have z2:=HR.2.2.2.1.c2;have z3:=HR.2.2.2.1.c3;go_wp2_with fail;go_region_with(go_at_call 61;(first|(with_reducible refine ao (C1 _) ?_)|(with_reducible refine ao (C2 _) ?_));rintro e wn ⟨rfl,O5⟩;have ol:Hid (Gr wc wn):=(by first|exact((Gr.refl wc).drew).trans O5|exact Gr.trans (Hid.out (by assumption)) O5);clear O5;have m0:=(HR.out.1.gr ol.out).c0;have m1:=(HR.out.1.gr ol.out).c1;have m2:=(HR.out.1.gr ol.out).c2;have m3:=(HR.out.1.gr ol.out).c3;have n0:=(HR.out.2.1.gr ol.out).c0;have n1:=(HR.out.2.1.gr ol.out).c1;have n2:=(HR.out.2.1.gr ol.out).c2;have n3:=(HR.out.2.1.gr ol.out).c3;have o0:=(HR.out.2.2.2.1.gr ol.out).c0;have o1:=(HR.out.2.2.2.1.gr ol.out).c1;have o2:=(HR.out.2.2.2.1.gr ol.out).c2;have o3:=(HR.out.2.2.2.1.gr ol.out).c3;have p0:=(HR.out.2.2.1.gr ol.out).c0;have p1:=(HR.out.2.2.1.gr ol.out).c1;have p2:=(HR.out.2.2.1.gr ol.out).c2;have p3:=(HR.out.2.2.1.gr ol.out).c3;have f0:=(HR.out.2.2.1.gr ol.out).fz 0;have f1:=(HR.out.2.2.1.gr ol.out).fz 1;have f2:=(HR.out.2.2.1.gr ol.out).fz 2;have f3:=(HR.out.2.2.1.gr ol.out).fz 3);all_goals go_wp2_with fail;refine bodyPost_ret (results_cell_row rfl _ _ (S+1+1) _ _ _ _ rfl ((HR.2.2.1.gr ol).set _ _ _ _) underlying58 rfl (by kernel_rfl)) rfl ?_;exact⟨rfl,(HR.2.2.2.2.trans ol).set4 (by rw[HS.out];omega) _ _ _ _⟩
end
def part(c:Nat->Nat->Ce)(y a q i:Nat)(x:Nat->Ce):Nat->Nat->Ce:=fun y' x'=>if y'=y/\a<=x'/\x'<a+i then x x' else cut c y a q y' x'
theorem yQ  c   y a q   x  :part c y a q 0 x=cut c y a q:=by grind[part]
theorem uS  c   y a q i   x  :gy (part c y a q i x) y (a+i) (x (a+i))=part c y a q (i+1) x:=by grind[part,gy,cut]
theorem rN  c   y a q   x  (h:a<=q):part c y a q (q+1-a) x=fill c a (q+1) y (y+1) x:=by
 funext y' x';unfold part fill;by_cases hy:y'=y
 ·subst hy;rw[if_pos (c:=y'<=y'/\y'<y'+1) (by omega)];unfold span;by_cases h1:a<=x'/\x'<q+1;·grind
  ·rw[if_neg (by omega),if_neg h1];unfold cut FY;grind[iR,ID]
 ·rw[if_neg (fun k=>hy k.1),if_neg (by omega)];simp_all[cut,FY,iR]
def R5(T:TypeId)(Q:World)(b:Nat)(e:Ce):Prop:=Q.heap[b]?=some (.cells #[.string e.t,Iq e.f,Iq e.g,Iq e.b,Iq e.p] T (0,0))
section
variable{T:TypeId} {Q Q':World} {b k:Nat} {e:Ce}
theorem R5.lt(h:R5 T Q b e):b<Q.heap.size:=(aM.1 h).1
theorem R5.c0(h:R5 T Q b e):Q.cell? (az b 0)=some (.string e.t):=by unfold R5 at h;simp[World.cell?,h]
theorem R5.c1(h:R5 T Q b e):Q.cell? (az b 1)=some (Iq e.f):=by unfold R5 at h;simp[World.cell?,h]
theorem R5.c2(h:R5 T Q b e):Q.cell? (az b 2)=some (Iq e.g):=by unfold R5 at h;simp[World.cell?,h]
theorem R5.c3(h:R5 T Q b e):Q.cell? (az b 3)=some (Iq e.b):=by unfold R5 at h;simp[World.cell?,h]
theorem R5.c4(h:R5 T Q b e):Q.cell? (az b 4)=some (Iq e.p):=by unfold R5 at h;simp[World.cell?,h]
theorem R5.gr(h:R5 T Q b e)(g:Gr Q Q'):R5 T Q' b e:=(g.block h.lt).trans h
theorem R5.ch(h:R5 T Q b e)(g:cN k Q Q')(hk:b≠k):R5 T Q' b e:=(g.block b h.lt hk).trans h
theorem R5.new(Q:World)  e   T  :R5 T (Q.alloc (.cells #[.string e.t,Iq e.f,Iq e.g,Iq e.b,Iq e.p] T)) Q.heap.size e:=heap_alloc_new _ _
end
theorem cN.set5{M o0 o1 o2 o3 o4}{W W'}(h:cN M W W')  v0 v1 v2 v3 v4  :cN M W (((((W'.setCell (az M o0) v0).setCell (az M o1) v1).setCell (az M o2) v2).setCell (az M o3) v3).setCell (az M o4) v4):=
 ((((h.set (.inl rfl) _ _).set (.inl rfl) _ _).set (.inl rfl) _ _).set (.inl rfl) _ _).set (.inl rfl) _ _
theorem R4.ch{T}{Q Q'}{b k}{x y a c}(h:R4 T Q b x y a c)(g:cN k Q Q')(hk:b≠k):R4 T Q' b x y a c:=(g.block b h.lt hk).trans h
section
variable{K M cap W H:Nat} {c:Nat->Nat->Ce}
theorem sU  w  (h:CS 100 42 w K M cap W H c) (hW:1<=W/\W<=400) (hH:H<=400) (hp:PAll W H c) (y a z:Int) (hy:0<=y/\y<H) (ha:0<=a/\a<z) (hz:z<=W):Cw 72 #[Pq K,Iq y,Iq a,Iq z] w fun e w'=>e=Rw (.slice (some (az M (y.toNat*W*5+a.toNat*5))) (z-a).toNat (z-a).toNat)/\Cv 42 w' M W H (cut c y.toNat a.toNat (z.toNat-1))/\cN M w w':=by obtain⟨Y,rfl⟩:=Fa hy.1;obtain⟨A,rfl⟩:=Fa ha.1;obtain⟨Q,rfl⟩:∃Q:Nat,z=(Q:Int)+1:=⟨(z-1).toNat,by omega⟩;have:=EJ w h (by omega) hW.2 hH Y A Q (by omega) (by omega) (by omega) (hp Y (by omega));grind
theorem yq(w:World)(h:CS 100 42 w K M cap W H c)(hW:1<=W/\W<=400)(hH:1<=H/\H<=400)(hp:PAll W H c)(x y a b f g bd cx cy ca cb:Int)(l t u v:Int)(hq:dG W H x y a b cx cy ca cb=(l,t,u,v)):
 Cw 39 #[Pq K,rv x y a b,sv f g bd,rv cx cy ca cb] w fun e w'=>e=Rw (.tuple #[])/\Cv 42 w' M W H (fill c l.toNat (l+u).toNat t.toNat (t+v).toNat (fun _=>bk (kn f) (kn g) (bo bd)))/\cN M w w':=by
 have SF:=jP (W:=W) (H:=H) (by omega) (by omega) x y a b cx cy ca cb;have SN:Hid (∀w0,CS 100 42 w0 K M cap W H c->Cw 70 #[Pq K,rv x y a b,rv cx cy ca cb] w0 fun e w'=>e=Rw (rv l t u v)/\Gr w0 w'):=fun w0 h0=>by have:=Ey w0 h0 x y a b cx cy ca cb;grind
 rw[hq]at SF;have CN:Hid (∀f g b w,Cw 71 #[sv f g b] w fun e w'=>e=Rw (sv (kn f) (kn g) (bo b))/\Gr w w'):=uR;have BL:Hid (∀f g b w,Cw 37 #[sv f g b] w fun e w'=>e=Rw (TF (bk f g b))/\Gr w w'):=oR;have HC:Hid (CS 100 42 w K M cap W H c):=h;have HP:Hid (PAll W H c):=hp;clear h hp hq;obtain⟨e,he⟩:=ag (bk (kn f) (kn g) (bo bd));have B1:=BL (kn f) (kn g) (bo bd);rw[he]at B1⊢;have HE:Hid (e.p=0):=by rw[<-he];rfl
 clear he BL;have C1:=CN f g bd;obtain⟨kf,hkf⟩:=ag (kn f);obtain⟨kg,Fw⟩:=ag (kn g);obtain⟨kb,MJ⟩:=ag (bo bd);rw[hkf,Fw,MJ]at B1 C1;clear hkf Fw MJ CN;unfold rv at SN;unfold rv sv;unfold sv TF at B1;unfold sv at C1;have l0:=SF.l0;have t0:=SF.t0;have u0:=SF.u0;have v0:=SF.v0;have lu:=SF.lu;have tv:=SF.tv;have HS:Hid (0<u↔0<v):=SF.uv;clear SF;go_enter func39,ntmps39;go_wp2_with fail;refine ao (SN _ (HC.gr ((((Gr.refl w).alloc _).alloc _).alloc _))) ?_;rintro e1 w1 ⟨rfl,g1⟩;have G1:Hid (Gr w w1):=((((Gr.refl w).alloc _).alloc _).alloc _).trans g1;have RS:Hid (R3 37 w1 (w.heap.size+1) f g bd):=by have:=R3.new (w.alloc (.cells #[Iq x,Iq y,Iq a,Iq b] 58)) f g bd 37;simp only[aI]at this;exact(this.gr ((Gr.refl _).alloc _)).gr g1
 clear g1 SN;have s0:=RS.c0;have s1:=RS.c1;have s2:=RS.c2;have sl:=RS.lt;go_wp2_with fail;refine ao (C1 _) ?_;rintro e2 w2 ⟨rfl,g2⟩;have RR:Hid (R4 58 w2 w1.heap.size l t u v):=(R4.new w1 _ _ _ _ _).gr g2;have G2:Hid (Gr w w2):=(G1.alloc _).trans g2;have Z1:Hid (w.heap.size<=w1.heap.size):=G1.size;obtain⟨Z,hZ⟩:=ag w1.heap.size;rw[hZ]at RR Z1;rw[hZ];clear hZ g2 s0 s1 s2 sl RS C1 G1;go_wp2_with fail;refine ao (B1 _) ?_;rintro e3 w3 ⟨rfl,g3⟩;have R2:Hid (R4 58 w3 Z l t u v):=RR.gr g3;have G3:Hid (Gr w w3):=G2.trans g3;clear g3 B1 RR G2;obtain⟨W4,MH⟩:=ag (w3.alloc (.cells #[.string e.t,Iq e.f,Iq e.g,Iq e.b,Iq e.p] 42));have _J:Hid (R4 58 W4 Z l t u v):=by rw[<-MH];exact R2.gr ((Gr.refl _).alloc _)
 have G4:Hid (Gr w W4):=by rw[<-MH];exact G3.alloc _
 have P4:Hid (R5 42 W4 w3.heap.size e):=by rw[<-MH];exact R5.new w3 e _
 have Z2:Hid (w.heap.size<=w3.heap.size):=G3.size;obtain⟨P,hP⟩:=ag w3.heap.size;rw[hP]at P4 Z2;have HM:Hid (M<w.heap.size):=HC.cv.lt;have ZM:Hid (Z≠M):=(fun q=>by have:=HM.out;have:=Z1.out;omega:Z≠M);have PM:Hid (P≠M):=(fun q=>by have:=HM.out;have:=Z2.out;omega:P≠M);have KM:Hid (K≠M):=HC.ne;have x0:=_J.c0;have x1:=_J.c1;have x2:=_J.c2;have x3:=_J.c3;go_wp2_with fail;clear hP MH R2 G3;go_loopw[10] (fun yv wr=>∃k:Int,t<=k/\k<=t+v/\yv=Iq k/\Hid (Cv 42 wr M W H (fill c l.toNat (l+u).toNat t.toNat k.toNat (fun _=>e))/\cN M w wr/\R4 58 wr Z l t u v/\R5 42 wr P e)) (fun yv _=>(t+v-intOf yv).toNat);case atStart=>exact⟨t,by omega,by omega,rfl,by rw[KJ (by omega)];exact HC.cv.gr G4,cN.gr G4,_J,P4⟩
 case round=>
  obtain⟨k,Ag,I2,rfl,HR⟩:=hrel;clear x0 x1 x2 x3 _J P4 G4;have x0:=HR.2.2.1.c0;have x1:=HR.2.2.1.c1;have x2:=HR.2.2.1.c2;have x3:=HR.2.2.1.c3;by_cases hlt:k<t+v
  ·have hv:0<v:=by omega
   have hu:=HS.2 hv;obtain⟨U,hU⟩:∃U:Nat,(U:Int)=u:=⟨u.toNat,by omega⟩;have ST:Hid (Cw 72 #[Pq K,Iq k,Iq l,Iq (l+u)] wr fun e' w'=>e'=Rw (.slice (some (az M (k.toNat*W*5+l.toNat*5))) U U)/\Cv 42 w' M W H (cut (fill c l.toNat (l+u).toNat t.toNat k.toNat (fun _=>e)) k.toNat l.toNat ((l+u).toNat-1))/\cN M wr w'):=by have:=sU wr (HC.put HR.2.1 HR.1) hW hH.2 (HP.fill0 (by omega) (fun _=>HE)) k l (l+u) (by omega) (by omega) lu;rw[show(l+u-l).toNat=U by omega]at this;exact this
   obtain⟨o,ho⟩:=ag (k.toNat*W*5+l.toNat*5);have HO:Hid (k.toNat*W*5+l.toNat*5=o):=ho;rw[ho]at ST;clear ho;have hUb:U<=400:=by omega
   have HU:Hid ((U:Int)=u):=hU;clear hU;have HQ:Hid ((l+u).toNat-1+1-l.toNat=U/\(l+u).toNat-1+1=(l+u).toNat/\l.toNat<=(l+u).toNat-1):=⟨by have:=HU.out;omega,by omega,by omega⟩;go_wp2_with(go_at_call 72;refine ao ST ?_;rintro e4 w4 ⟨rfl,V4,C4⟩;have HV4:Hid (Cv 42 w4 M W H (part (fill c l.toNat (l+u).toNat t.toNat k.toNat (fun _=>e)) k.toNat l.toNat ((l+u).toNat-1) 0 (fun _=>e))/\cN M w w4/\R4 58 w4 Z l t u v/\R5 42 w4 P e):=(⟨(by grind[yQ]),HR.2.1.trans C4,HR.2.2.1.ch C4 ZM,HR.2.2.2.ch C4 PM⟩:Cv 42 w4 M W H (part (fill c l.toNat (l+u).toNat t.toNat k.toNat (fun _=>e)) k.toNat l.toNat ((l+u).toNat-1) 0 (fun _=>e))/\cN M w w4/\R4 58 w4 Z l t u v/\R5 42 w4 P e);clear V4 C4);go_loopw[43] (fun iv wi=>∃i:Nat,i<=U/\iv=Iq i/\Hid (Cv 42 wi M W H (part (fill c l.toNat (l+u).toNat t.toNat k.toNat (fun _=>e)) k.toNat l.toNat ((l+u).toNat-1) i (fun _=>e))/\cN M w wi/\R4 58 wi Z l t u v/\R5 42 wi P e)) (fun iv _=>U-(intOf iv).toNat);case atStart=>grind
   case round=>
    obtain⟨i,hi,rfl,HI⟩:=hrel;by_cases K8:i<U
    ·have hx:l.toNat+i<W:=by have:=HU.out;omega
     have hy:k.toNat<H:=by omega
     have d0:=HI.1.c0 hy hx;have d1:=HI.1.c1 hy hx;have d2:=HI.1.c2 hy hx;have d3:=HI.1.c3 hy hx;have d4:=HI.1.c4 hy hx;have eo:k.toNat*W*5+(l.toNat+i)*5=o+i*5:=by rw[<-HO.out];omega
     rw[eo]at d0 d1 d2 d3 d4;have EO:Hid (k.toNat*W*5+(l.toNat+i)*5=o+i*5):=eo;clear eo;have fz:=HI.1.fz;have p0:=HI.2.2.2.c0;have p1:=HI.2.2.2.c1;have p2:=HI.2.2.2.c2;have p3:=HI.2.2.2.c3;have p4:=HI.2.2.2.c4;have zh3:(i:Int)<(U:Int):=by omega
     go_wp2;go_roundw;case rel=>have VS:=HI.1.set hy hx e;rw[EO.out,uS _ _ _ _ _ (fun _=>e)]at VS;exact⟨i+1,by omega,by go_num,VS,HI.2.1.set5 _ _ _ _ _,HI.2.2.1.ch ((cN.refl M _).set5 _ _ _ _ _) ZM,HI.2.2.2.ch ((cN.refl M _).set5 _ _ _ _ _) PM⟩
     case measure=>simp[intOf];omega
    ·have zh3:¬(i:Int)<(U:Int):=by omega
     have hiU:i=U:=by omega
     have VD:Hid (Cv 42 wr M W H (fill c l.toNat (l+u).toNat t.toNat (k+1).toNat (fun _=>e))):=by have:=HI.1;rw[hiU,<-HQ.1,rN _ _ _ _ _ HQ.2.2,HQ.2.1,KH (by omega),show k.toNat+1=(k+1).toNat by omega]at this;exact this
     go_wp2;go_roundw;case rel=>exact⟨k+1,by omega,by omega,by go_num,VD,HI.2⟩
     case measure=>simp[intOf];omega
  ·have ke:k=t+v:=by omega
   go_wp2;go_end0;exact⟨rfl,by have:=HR.1;grind,HR.2.1⟩
end
def YE(l:Nat)(wd:Int)(iK:ByteArray)(f g b:Int):Nat->Ce:=fun j=>if wd=2 then(if j=l then⟨iK,f,g,b,1⟩else⟨YA,f,g,b,2⟩)else⟨iK,f,g,b,0⟩
def putX(l u wd:Int)(iK:ByteArray)(f g b:Int):Nat->Ce:=if u<wd then fun _=>bk (kn f) (kn g) (bo b)else YE l.toNat wd iK (kn f) (kn g) (bo b)
def Vn(c:Nat->Nat->Ce)(wd:Int)(iK:ByteArray)(f g b:Int)(q:Int×Int×Int×Int):Nat->Nat->Ce:=
 if wd=1\/wd=2 then fill c q.1.toNat (q.1+q.2.2.1).toNat q.2.1.toNat (q.2.1+q.2.2.2).toNat (putX q.1 q.2.2.1 wd iK f g b)else c
def rQ(W H:Nat)(c:Nat->Nat->Ce)(x y:Int)(iK:ByteArray)(wd:Int)(f g b cx cy ca cb:Int):Nat->Nat->Ce:=Vn c wd iK f g b (dG W H x y wd 1 cx cy ca cb)
def tu(W H:Nat)(c:Nat->Nat->Ce)(x y a b f g bd cx cy ca cb:Int):Nat->Nat->Ce:=
 fill c (dG W H x y a b cx cy ca cb).1.toNat ((dG W H x y a b cx cy ca cb).1+(dG W H x y a b cx cy ca cb).2.2.1).toNat (dG W H x y a b cx cy ca cb).2.1.toNat ((dG W H x y a b cx cy ca cb).2.1+(dG W H x y a b cx cy ca cb).2.2.2).toNat (fun _=>bk (kn f) (kn g) (bo bd))
theorem J5.whole{W H x y wd cx cy ca cb l t u v}(h:J5 W H x y wd 1 cx cy ca cb l t u v)(hw:wd=1\/wd=2)(hu:wd<=u)(hW:W<=400)(hH:H<=400):l=x/\t=y/\u=wd/\v=1:=by have l0:=h.l0;have t0:=h.t0;have lu:=h.lu;have tv:=h.tv;have uv:=h.uv;have m1:=(h.mem l t).1 (by omega);have m2:=(h.mem (l+u-1) (t+v-1)).1 (by omega);have e:bc wd=wd:=gG (by omega);have e1:bc 1=1:=rfl;rw[e,e1]at m1 m2;grind[di,bn]
theorem J5.most{W H x y wd cx cy ca cb l t u v}(h:J5 W H x y wd 1 cx cy ca cb l t u v)(hw:wd=1\/wd=2):u<=wd:=by
 by_cases hu:0<u;·have uv:=h.uv;have m1:=(h.mem l t).1 (by omega);have m2:=(h.mem (l+u-1) (t+v-1)).1 (by omega);have e:bc wd=wd:=gG (by omega);rw[e]at m1 m2;omega
 ·omega
theorem PAll.putX{W H}{c}(h:PAll W H c)(hW:1<=W/\W<=400)(hH:1<=H/\H<=400)  x y   iK   wd f g b cx cy ca cb  :PAll W H (rQ W H c x y iK wd f g b cx cy ca cb):=by
 have SF:=jP (W:=W) (H:=H) (by omega) (by omega) x y wd 1 cx cy ca cb;unfold rQ Vn;obtain⟨q,hq⟩:=ag (dG W H x y wd 1 cx cy ca cb);rw[hq]at SF⊢;obtain⟨l,t,u,v⟩:=q;simp only at SF⊢;have lu:=SF.lu;have l0:=SF.l0;have u0:=SF.u0;split
 ·rename_i hw;unfold Go.Proofs.YtiaimhjebnobnaaGreatDoor.putX;by_cases hu:u<wd;·rw[if_pos hu];exact h.fill0 (by omega) (fun _=>rfl)
  ·rw[if_neg hu];obtain⟨e1,e2,e3,e4⟩:=SF.whole hw (by omega) (by omega) (by omega);rcases hw with hw|hw;·refine h.fill0 (by omega) (fun j=>?_);unfold YE;rw[if_neg (by omega)]
   ·rw[show(l+u).toNat=l.toNat+2 by omega];refine h.fill2 (by omega) ?_ ?_ ?_ ?_ ?_ ?_<;>(unfold YE;simp[hw])
 ·exact h
theorem PAll.filX{W H}{c}(h:PAll W H c)(hW:1<=W/\W<=400)(hH:1<=H/\H<=400)  x y a b f g bd cx cy ca cb  :PAll W H (tu W H c x y a b f g bd cx cy ca cb):=by have SF:=jP (W:=W) (H:=H) (by omega) (by omega) x y a b cx cy ca cb;unfold tu;exact h.fill0 (by have:=SF.lu;have:=SF.l0;omega) (fun _=>rfl)
def pJ(T:TypeId)(Q:World)(b:Nat)(iK:ByteArray)(wd:Int):Prop:=Q.heap[b]?=some (.cells #[.string iK,Iq wd] T (0,0))
section
variable{T:TypeId} {Q Q':World} {b k:Nat} {iK:ByteArray} {wd:Int}
theorem pJ.lt(h:pJ T Q b iK wd):b<Q.heap.size:=(aM.1 h).1
theorem pJ.c0(h:pJ T Q b iK wd):Q.cell? (az b 0)=some (.string iK):=by unfold pJ at h;simp[World.cell?,h]
theorem pJ.c1(h:pJ T Q b iK wd):Q.cell? (az b 1)=some (Iq wd):=by unfold pJ at h;simp[World.cell?,h]
theorem pJ.gr(h:pJ T Q b iK wd)(g:Gr Q Q'):pJ T Q' b iK wd:=(g.block h.lt).trans h
theorem pJ.ch(h:pJ T Q b iK wd)(g:cN k Q Q')(hk:b≠k):pJ T Q' b iK wd:=(g.block b h.lt hk).trans h
theorem pJ.other(h:pJ T Q b iK wd)(hk:b≠k)  o   v  :pJ T (Q.setCell (az k o) v) b iK wd:=(cF Q (az k o) v b hk).trans h
theorem pJ.new(Q:World)  iK   wd   T  :pJ T (Q.alloc (.cells #[.string iK,Iq wd] T)) Q.heap.size iK wd:=heap_alloc_new _ _
end
theorem R3.ch{T}{Q Q'}{b k}{x y a}(h:R3 T Q b x y a)(g:cN k Q Q')(hk:b≠k):R3 T Q' b x y a:=(g.block b h.lt hk).trans h
theorem Vp  c   Y X y' x'   iK   kf kg kb  :
 gy (gy (gy (cut c Y X (X+1)) Y X ⟨iK,kf,kg,kb,0⟩) Y X {gy (cut c Y X (X+1)) Y X ⟨iK,kf,kg,kb,0⟩ Y X with p:=1}) Y (X+1) ⟨YA,kf,kg,kb,2⟩ y' x'=part c Y X (X+1) (X+1+1-X) (YE X 2 iK kf kg kb) y' x':=by grind[gy,cut,part,YE,YA]
theorem zg5  a b c d   W  :Sem.run prog (Instr.field 58 (Value.agg #[a,b,c,d]) 2) W=Result.ok c W:=by unfold Instr.field;simp[go_sem];rfl
section
variable{K M cap W H:Nat} {c:Nat->Nat->Ce}
theorem Vo(w:World)(h:CS 100 42 w K M cap W H c)(hW:1<=W/\W<=400)(hH:1<=H/\H<=400)(hp:PAll W H c)(x y:Int)(iK:ByteArray)(wd f g b cx cy ca cb:Int):
 Calls prog 152 #[Pq K,Iq x,Iq y,.agg #[.string iK,Iq wd],sv f g b,rv cx cy ca cb] w fun e w'=>e=.returned (.tuple #[])/\Cv 42 w' M W H (rQ W H c x y iK wd f g b cx cy ca cb)/\cN M w w':=by
 have SF:=jP (W:=W) (H:=H) (by omega) (by omega) x y wd 1 cx cy ca cb;unfold rQ;obtain⟨q,hq⟩:=ag (dG W H x y wd 1 cx cy ca cb);have SN:Hid (∀w0,CS 100 42 w0 K M cap W H c->Calls prog 70 #[Pq K,rv x y wd 1,rv cx cy ca cb] w0 fun e w'=>e=.returned (rv q.1 q.2.1 q.2.2.1 q.2.2.2)/\Gr w0 w'):=fun w0 h0=>by have:=Ey w0 h0 x y wd 1 cx cy ca cb;grind
 rw[hq]at SF⊢;obtain⟨l,t,u,v⟩:=q;have FL:Hid (∀w0,CS 100 42 w0 K M cap W H c->Calls prog 39 #[Pq K,rv x y wd 1,sv f g b,rv cx cy ca cb] w0 fun e w'=>e=.returned (.tuple #[])/\Cv 42 w' M W H (fill c l.toNat (l+u).toNat t.toNat (t+v).toNat (fun _=>bk (kn f) (kn g) (bo b)))/\cN M w0 w'):=fun w0 h0=>yq w0 h0 hW hH hp x y wd 1 f g b cx cy ca cb l t u v hq;simp only at SN SF;unfold Vn;simp only;have CN:Hid (∀f g b w,Calls prog 71 #[sv f g b] w fun e w'=>e=.returned (sv (kn f) (kn g) (bo b))/\Gr w w'):=uR;have HC:Hid (CS 100 42 w K M cap W H c):=h;have HP:Hid (PAll W H c):=hp;have HF:Hid (J5 W H x y wd 1 cx cy ca cb l t u v):=SF;clear h hp hq SF;unfold rv at SN FL;unfold rv sv;unfold sv at CN FL;have C1:=CN f g b;obtain⟨S,hS⟩:=ag w.heap.size;have HS:Hid (w.heap.size=S):=hS;by_cases h1:wd=1\/wd=2
 ·have HI:Hid ((if wd=1\/wd=2 then fill c l.toNat (l+u).toNat t.toNat (t+v).toNat (putX l u wd iK f g b)else c)=fill c l.toNat (l+u).toNat t.toNat (t+v).toNat (putX l u wd iK f g b)):=if_pos h1;rw[HI.out];clear HI;have H1:=qH h1;obtain⟨n,Nt,hn⟩:∃n:Nat,(Hid (wd=1/\n=1)/\(wd !=1)=false\/Hid (wd=2/\n=2)/\(wd !=1)=true/\(wd !=2)=false)/\(n:Int)=wd:=by
   rcases h1 with rfl|rfl;·exact⟨1,.inl ⟨⟨rfl,rfl⟩,rfl⟩,rfl⟩
   ·exact⟨2,.inr ⟨⟨rfl,rfl⟩,rfl,rfl⟩,rfl⟩
  have MS:1<=wd/\wd<=2:=by omega
  clear h1;go_enter func152,ntmps152;rcases Nt with⟨Nt,n1⟩|⟨Nt,n1,n2⟩;all_goals
   go_wp2_with fail;obtain⟨W0,cK⟩:=ag ((((w.alloc (.cells #[.string iK,Iq wd] 227)).alloc (.cells #[Iq f,Iq g,Iq b] 37)).alloc (.cells #[Iq cx,Iq cy,Iq ca,Iq cb] 58)).alloc (.cells #[Iq x,Iq y,Iq wd,Iq 1] 58));have G0:Hid (Gr w W0):=by rw[<-cK];exact((((Gr.refl w).alloc _).alloc _).alloc _).alloc _
   have R0:Hid (pJ 227 W0 S iK wd/\R3 37 W0 (S+1) f g b/\R4 58 W0 (S+1+1) cx cy ca cb/\R4 58 W0 (S+1+1+1) x y wd 1):=by
    rw[<-cK,<-hS];refine⟨(pJ.new w _ _ _).gr ((((Gr.refl _).alloc _).alloc _).alloc _),?_,?_,?_⟩;·have:=R3.new (w.alloc (.cells #[.string iK,Iq wd] 227)) f g b 37;simp only[aI]at this;exact this.gr (((Gr.refl _).alloc _).alloc _)
    ·have:=R4.new ((w.alloc (.cells #[.string iK,Iq wd] 227)).alloc (.cells #[Iq f,Iq g,Iq b] 37)) cx cy ca cb 58;simp only[aI]at this;exact this.gr ((Gr.refl _).alloc _)
    ·have:=R4.new (((w.alloc (.cells #[.string iK,Iq wd] 227)).alloc (.cells #[Iq f,Iq g,Iq b] 37)).alloc (.cells #[Iq cx,Iq cy,Iq ca,Iq cb] 58)) x y wd 1 58;simp_all
   rw[cK];clear cK hS;have q0:=R0.1.c0;have q1:=R0.1.c1;have r0:=R0.2.2.1.c0;have r1:=R0.2.2.1.c1;have r2:=R0.2.2.1.c2;have r3:=R0.2.2.1.c3;have m0:=R0.2.2.2.c0;have m1:=R0.2.2.2.c1;have m2:=R0.2.2.2.c2;have m3:=R0.2.2.2.c3;have hfl:=zg5 (Iq l) (Iq t) (Iq u) (Iq v);by_cases hu:u<wd
   ·have HX:Hid (putX l u wd iK f g b=fun _=>bk (kn f) (kn g) (bo b)):=if_pos hu;go_cut[34]from 22 to 33 (fun s wx=>s=.bool true/\Hid (pJ 227 wx S iK wd/\R3 37 wx (S+1) f g b/\R4 58 wx (S+1+1) cx cy ca cb/\R4 58 wx (S+1+1+1) x y wd 1/\Gr w wx));case first=>go_region_with(go_at_call 70;refine ao (SN _ (HC.gr (by first|exact G0.drew|exact G0))) ?_;rintro e1 w1 ⟨rfl,g1⟩;have G1:Hid (Gr W0 w1):=(by first|exact((Gr.refl W0).drew).trans g1|exact g1);clear g1;have o1:=(R0.1.gr G1).c1);all_goals go_wp2_with fail;go_meet;exact⟨rfl,R0.1.gr G1,R0.2.1.gr G1,R0.2.2.1.gr G1,R0.2.2.2.gr G1,G0.trans G1⟩
    case rest=>obtain⟨rfl,HR⟩:=hcut;clear q0 q1 r0 r1 r2 r3 m0 m1 m2 m3 hfl;have s0:=HR.2.1.c0;have s1:=HR.2.1.c1;have s2:=HR.2.1.c2;have r0:=HR.2.2.1.c0;have r1:=HR.2.2.1.c1;have r2:=HR.2.2.1.c2;have r3:=HR.2.2.1.c3;have m0:=HR.2.2.2.1.c0;have m1:=HR.2.2.2.1.c1;have m2:=HR.2.2.2.1.c2;have m3:=HR.2.2.2.1.c3;go_wp2_with(go_at_call 39;refine ao (FL _ (HC.gr HR.2.2.2.2)) ?_;rintro e2 w2 ⟨rfl,V2,C2⟩;have J0:Hid (Cv 42 w2 M W H (fill c l.toNat (l+u).toNat t.toNat (t+v).toNat (fun _=>bk (kn f) (kn g) (bo b)))/\cN M w w2):=(⟨V2,(cN.gr HR.2.2.2.2).trans C2⟩:_/\_);clear V2 C2);refine bodyPost_ret (results_none rfl _ _ _) rfl ?_;exact⟨rfl,by rw[HX.out];exact J0.1,J0.2⟩
   have HX:Hid (putX l u wd iK f g b=YE l.toNat wd iK (kn f) (kn g) (bo b)):=if_neg hu;have WH:=HF.whole H1.out (show wd<=u by omega) (by omega) (by omega);have hlu:=HF.lu;have hl0:=HF.l0;have htv:=HF.tv;have UE:=HF.t0;have hx:0<=x/\x+wd<=W:=by omega
   have hy:0<=y/\y<H:=by omega
   have HW:Hid (l=x/\t=y/\u=wd/\v=1):=WH;clear WH hlu hl0 htv UE;go_cut[34]from 22 to 33 (fun s wx=>s=.bool false/\Hid (pJ 227 wx S iK wd/\R3 37 wx (S+1) f g b/\R4 58 wx (S+1+1) cx cy ca cb/\R4 58 wx (S+1+1+1) x y wd 1/\Gr w wx));case first=>have hu':=hu;go_region_with(go_at_call 70;refine ao (SN _ (HC.gr (by first|exact G0.drew|exact G0))) ?_;rintro e1 w1 ⟨rfl,g1⟩;have G1:Hid (Gr W0 w1):=(by first|exact((Gr.refl W0).drew).trans g1|exact g1);clear g1;have o1:=(R0.1.gr G1).c1);all_goals go_wp2_with fail;go_meet;exact⟨congrArg Value.bool (decide_eq_false (by omega)),R0.1.gr G1,R0.2.1.gr G1,R0.2.2.1.gr G1,R0.2.2.2.gr G1,G0.trans G1⟩
   obtain⟨rfl,HR⟩:=hcut;clear q0 q1 r0 r1 r2 r3 m0 m1 m2 m3 hfl;have s0:=HR.2.1.c0;have s1:=HR.2.1.c1;have s2:=HR.2.1.c2;go_wp2_with fail;refine ao (C1 _) ?_;rintro e1 w1 ⟨rfl,g1⟩;have R1:Hid (pJ 227 w1 S iK wd/\R3 37 w1 (S+1) f g b/\Gr w w1):=⟨HR.1.gr g1,HR.2.1.gr g1,HR.2.2.2.2.trans g1⟩;clear g1 s0 s1 s2 HR C1;obtain⟨kf,hkf⟩:=ag (kn f);obtain⟨kg,Fw⟩:=ag (kn g);obtain⟨kb,MJ⟩:=ag (bo b);rw[hkf,Fw,MJ]at HX;rw[hkf,Fw,MJ];clear hkf Fw MJ;obtain⟨w2,vt⟩:=ag (((w1.setCell ⟨S+1,0,none⟩ (Iq kf)).setCell ⟨S+1,1,none⟩ (Iq kg)).setCell ⟨S+1,2,none⟩ (Iq kb));have R2:Hid (pJ 227 w2 S iK wd/\R3 37 w2 (S+1) kf kg kb/\Gr w w2):=by rw[<-vt];exact⟨((R1.1.other (by omega) _ _).other (by omega) _ _).other (by omega) _ _,R1.2.1.set _ _ _,R1.2.2.set3 (by rw[HS.out];omega) _ _ _⟩
   have s0:=R1.2.1.c0;have s1:=R1.2.1.c1;have s2:=R1.2.1.c2;have z0:=R1.2.1.fz 0;have z1:=R1.2.1.fz 1;have z2:=R1.2.1.fz 2;have q1:=R2.1.c1;go_wp2_with fail;refine ao (sU w2 (HC.gr R2.2.2) hW hH.2 HP y x (x+wd) hy (by omega) hx.2) ?_;rintro e3 w3 ⟨rfl,V3,C3⟩;have HM:Hid (M<S):=(by rw[<-HS.out];exact HC.cv.lt:M<S);have Sm:Hid (pJ 227 w3 S iK wd/\R3 37 w3 (S+1) kf kg kb/\cN M w w3):=⟨R2.1.ch C3 (by have:=HM.out;omega),R2.2.1.ch C3 (by have:=HM.out;omega),(cN.gr R2.2.2).trans C3⟩;obtain⟨X,hX⟩:=ag x.toNat;obtain⟨Y,hY⟩:=ag y.toNat;rw[hX,hY]at V3;rw[hX,hY];have Bo:Hid (Cv 42 w3 M W H (cut c Y X (X+n-1))):=by rw[show(x+wd).toNat-1=X+n-1 by omega]at V3;exact V3
   have HXY:Hid (x.toNat=X/\y.toNat=Y):=⟨hX,hY⟩;have hXW:X+n<=W:=by omega
   have Gd:Y<H:=by omega
   rw[show(x+wd-x).toNat=n by omega];clear hX hY V3 C3 s0 s1 s2 z0 z1 z2 q1 vt R1 R2;obtain⟨o,ho⟩:=ag (Y*W*5+X*5);have HO:Hid (Y*W*5+X*5=o):=ho;have d0:=Bo.c0 Gd (show X<W by omega);have d1:=Bo.c1 Gd (show X<W by omega);have d2:=Bo.c2 Gd (show X<W by omega);have d3:=Bo.c3 Gd (show X<W by omega);have d4:=Bo.c4 Gd (show X<W by omega);rw[ho]at d0 d1 d2 d3 d4;rw[ho];clear ho;have fz:=Bo.fz;have q0:=Sm.1.c0;have q1:=Sm.1.c1;have s0:=Sm.2.1.c0;have s1:=Sm.2.1.c1;have s2:=Sm.2.1.c2;have sm:¬S=M:=by have:=HM.out;omega
   have sm1:¬S+1=M:=by have:=HM.out;omega
   try dsimp only[Pq,Sq,az]at d0 d1 d2 d3 d4 fz q0 q1 s0 s1 s2⊢
  ·obtain⟨rfl,rfl⟩:=Nt.out;go_wp2;go_end0;refine⟨rfl,?_,Sm.2.2.set5 _ _ _ _ _⟩;have VS:=Bo.set Gd (show X<W by omega) ⟨iK,kf,kg,kb,0⟩;rw[HO.out]at VS;refine VS.same ?_;intro y' x' _ _;rw[HX.out,HW.1,HW.2.1,HW.2.2.1,HW.2.2.2,show(x+1).toNat=x.toNat+1 by omega,show(y+1).toNat=y.toNat+1 by omega,HXY.1,HXY.2,<-rN c Y X X _ (ai _),show X+1-X=0+1 by omega,<-uS,yQ];rfl
  ·obtain⟨rfl,rfl⟩:=Nt.out;go_upto_if 58 with fail;obtain⟨w4,Du⟩:=ag (((((w3.setCell ⟨M,o,none⟩ (.string iK)).setCell ⟨M,o+1,none⟩ (Iq kf)).setCell ⟨M,o+2,none⟩ (Iq kg)).setCell ⟨M,o+3,none⟩ (Iq kb)).setCell ⟨M,o+4,none⟩ (Iq 0));have HR4:Hid (pJ 227 w4 S iK 2/\R3 37 w4 (S+1) kf kg kb/\cN M w w4/\Cv 42 w4 M W H (gy (cut c Y X (X+1)) Y X ⟨iK,kf,kg,kb,0⟩)):=by
    have VS:=Bo.set Gd (show X<W by omega) ⟨iK,kf,kg,kb,0⟩;rw[HO.out,Du]at VS;have cc:cN M w3 w4:=by rw[<-Du];exact(cN.refl M w3).set5 _ _ _ _ _
    exact⟨Sm.1.ch cc sm,Sm.2.1.ch cc sm1,Sm.2.2.trans cc,VS⟩
   rw[Du];clear Du d0 d1 d2 d3 d4 fz q0 q1 s0 s1 s2 Sm Bo;have d4:=HR4.2.2.2.c4 Gd (show X<W by omega);rw[HO.out]at d4;have fz:=HR4.2.2.2.fz;have q1:=HR4.1.c1;have s0:=HR4.2.1.c0;have s1:=HR4.2.1.c1;have s2:=HR4.2.1.c2;have e0:=HR4.2.2.2.c0 Gd (show X+1<W by omega);have e1:=HR4.2.2.2.c1 Gd (show X+1<W by omega);have e2:=HR4.2.2.2.c2 Gd (show X+1<W by omega);have e3:=HR4.2.2.2.c3 Gd (show X+1<W by omega);have e4:=HR4.2.2.2.c4 Gd (show X+1<W by omega);have EO:Hid (Y*W*5+(X+1)*5=o+5):=(by rw[<-HO.out];omega:Y*W*5+(X+1)*5=o+5);rw[EO.out]at e0 e1 e2 e3 e4;go_wp2_with fail;go_end0;refine⟨rfl,?_,(HR4.2.2.1.set (.inl rfl) _ _).set5 _ _ _ _ _⟩;have VP:=HR4.2.2.2.setPart Gd (show X<W by omega) 1;rw[HO.out]at VP;have VS:=VP.set Gd (show X+1<W by omega) ⟨YA,kf,kg,kb,2⟩;rw[EO.out]at VS;refine VS.same ?_;intro y' x' _ _;rw[HX.out,HW.1,HW.2.1,HW.2.2.1,HW.2.2.2,show(x+2).toNat=x.toNat+1+1 by omega,show(y+1).toNat=y.toNat+1 by omega,HXY.1,HXY.2,<-rN c Y X (X+1) _ (by omega)];grind[Vp]
 ·have n1:(wd !=1)=true:=by simp;omega
  have n2:(wd !=2)=true:=by simp;omega
  have n3:¬wd=1:=by omega
  rw[if_neg h1];clear hS;go_enter func152,ntmps152;go_wp2;refine bodyPost_ret (results_none rfl _ _ _) rfl ?_;exact⟨rfl,HC.cv.gr ((((Gr.refl w).alloc _).alloc _).alloc _),cN.gr ((((Gr.refl w).alloc _).alloc _).alloc _)⟩
end
theorem aC{U U'}(hb:Bt U U'){a}{v}(h:U.cell? a=some v):U'.cell? a=some v:=
 (bU (hb.block a.block (l8 U a h))).trans h
theorem QI(n:Int)(w:World):Cw 95 #[Iq n] w fun e w'=>e=Rw (Iq (kn n))/\w'=w:=by
 go_enter func95,ntmps95;by_cases h1:n<0;·go_wp2;go_ret;simp_all[kn]
 ·by_cases h2:8<n;·go_wp2;go_ret;simp_all[kn]
  ·go_wp2;go_ret;exact⟨by rw[show kn n=n by grind[kn]];rfl,rfl⟩
theorem P_(f g b:Int)(w:World):Cw 10 #[sv f g b] w fun e w'=>e=Rw (sv f g b)/\Gr w w':=by unfold sv;go_enter func10,ntmps10;go_wp2;refine bodyPost_ret (v:=sv f g b) (by simp[results,Tryz.results10,go_sem,sv]) rfl ?_;exact⟨rfl,((Gr.refl w).alloc _).alloc _⟩
theorem Mi(f g b:Int)(w:World):Cw 48 #[sv f g b] w fun e w'=>e=Rw (sv (kn f) (kn g) (bo b))/\Gr w w':=by
 have P:Hid (∀n w,Cw 95 #[Iq n] w fun e w'=>e=Rw (Iq (kn n))/\w'=w):=QI;obtain⟨x,hx⟩:=ag (kn f);obtain⟨y,hy⟩:=ag (kn g);have P1:=P f;have P2:=P g;rw[hx]at P1;rw[hy]at P2;unfold sv;go_enter func48,ntmps48;by_cases h:b=1;·subst h;go_wp2_with fail;go_region_held(fun W=>W.cell? (az w.heap.size 0)=some (Iq f)/\W.cell? (az w.heap.size 1)=some (Iq g)) (go_keep) (first|(go_at_call 95;first|(with_reducible refine ao (P1 _) ?_;rintro e w2 ⟨rfl,rfl⟩)|(with_reducible refine ao (P2 _) ?_;rintro e w2 ⟨rfl,rfl⟩)));go_wp2;refine bodyPost_ret (v:=sv x y 1) (by simp[results,Tryz.results48,go_sem,sv]) rfl ?_;subst hx hy;exact⟨rfl,(((Gr.refl w).alloc _).alloc _).drew⟩
 ·have hb:bo b=0:=if_neg h;go_wp2_with fail;go_region_held(fun W=>W.cell? (az w.heap.size 0)=some (Iq f)/\W.cell? (az w.heap.size 1)=some (Iq g)) (go_keep) (first|(go_at_call 95;first|(with_reducible refine ao (P1 _) ?_;rintro e w2 ⟨rfl,rfl⟩)|(with_reducible refine ao (P2 _) ?_;rintro e w2 ⟨rfl,rfl⟩)));go_wp2;refine bodyPost_ret (v:=sv x y 0) (by simp[results,Tryz.results48,go_sem,sv]) rfl ?_;subst hx hy;exact⟨by rw[hb];rfl,(((Gr.refl w).alloc _).alloc _).drew⟩
theorem lnum_any(n:Int)(w:World):Cw 7 #[Iq n] w fun e w'=>e=Rw (Iq n)/\w'=w:=by go_enter func7,ntmps7;go_wp2;go_ret;simp_all
