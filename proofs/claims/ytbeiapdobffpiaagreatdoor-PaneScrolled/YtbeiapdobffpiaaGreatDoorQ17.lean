import Derived.Test.YtbeiapdobffpiaaGreatDoorProg
import Derived.WalkSpells
import Derived.WalkLawsBesides
import Derived.BigQuiet
import Derived.Deep.RegionWith
import Derived.Deep.RegionHeld
import Derived.Deep.CutRange
import Derived.Shelf.SlSortCmp.QuietGrown
import Derived.Test.YtbeiapdobffpiaaGreatDoorQ00
set_option linter.all false
set_option maxRecDepth 100000
set_option maxHeartbeats 16000000
namespace Go.Proofs.YtbeiapdobffpiaaGreatDoor
open Go.RowKit Go.Sort Go.Proofs.Tryz
def Gr(w w':World):Prop:=∃q os,w'=grow (w.drewN q) os
theorem Gr.refl  w  :Gr w w:=⟨0,#[],by simp;rfl⟩
theorem Gr.trans{a b c}(h:Gr a b)(k:Gr b c):Gr a c:=by obtain⟨q,os,rfl⟩:=h;obtain⟨q2,os2,rfl⟩:=k;exact⟨q+q2,os++os2,by show grow (grow ((a.drewN q).drewN q2) os) os2=_;rw[grow_grow,World.drewN_drewN]⟩
theorem Gr.alloc{a b}(h:Gr a b)  o  :Gr a (b.alloc o):=h.trans ⟨0,#[o],alloc_eq_grow b o⟩
theorem Gr.drew{a b}(h:Gr a b):Gr a b.drew:=h.trans ⟨1,#[],by simp;rfl⟩
theorem Gr.drewN{a b}(h:Gr a b)  n  :Gr a (b.drewN n):=h.trans ⟨n,#[],by simp⟩
theorem Gr.size{a b}(h:Gr a b):a.heap.size<=b.heap.size:=by obtain⟨q,os,rfl⟩:=h;simp_all
theorem Gr.block{a b}(h:Gr a b){k}(hk:k<a.heap.size):b.heap[k]?=a.heap[k]?:=by obtain⟨q,os,rfl⟩:=h;exact heap_grow_old _ _ hk
theorem Gr.set{a b}(h:Gr a b){k o}(hk:a.heap.size<=k)  v  :Gr a (b.setCell (az k o) v):=by obtain⟨q,os,rfl⟩:=h;exact⟨q,_,by unfold World.setCell grow;simp only;rw[modify_append_right (a.drewN q).heap os k _ hk]⟩
theorem Gr.below{a b}(h:Gr a b):Bt a b:=⟨by obtain⟨q,os,rfl⟩:=h;rfl,by obtain⟨q,os,rfl⟩:=h;rfl,by obtain⟨q,os,rfl⟩:=h;rfl,h.size,fun k hk=>h.block hk⟩
def dq(n:Int):Int:=min (max n (-100000)) 100000
def bT(n:Int):Int:=min (max n 0) 100000
def rv(x y w h:Int):Value:=.agg #[Iq x,Iq y,Iq w,Iq h]
theorem ef  n  :-100000<=dq n/\dq n<=100000:=by grind[dq]
theorem cJ  n  :0<=bT n/\bT n<=100000:=by grind[bT]
theorem length_any(n:Int)(w:World):Cw 55 #[Iq n] w fun e w'=>e=Rw (Iq (bT n))/\w'=w:=by go_enter func55,ntmps55;go_wp2;all_goals go_ret;refine⟨?_,rfl⟩;refine congrArg (fun n:Int=>Ending.returned (Iq n)) (?_:_=bT n);grind[bT]
theorem position_any(n:Int)(w:World):Cw 143 #[Iq n] w fun e w'=>e=Rw (Iq (dq n))/\w'=w:=by go_enter func143,ntmps143;go_wp2;all_goals go_ret;refine⟨?_,rfl⟩;refine congrArg (fun n:Int=>Ending.returned (Iq n)) (?_:_=dq n);grind[dq]
theorem yt(x y a b:Int)(w:World):Cw 109 #[rv x y a b] w fun e w'=>e=Rw (rv (dq x) (dq y) (bT a) (bT b))/\w'=((w.alloc (.cells #[Iq x,Iq y,Iq a,Iq b] 74)).alloc (.cells #[Iq (dq x),Iq (dq y),Iq (bT a),Iq (bT b)] 74)).drew:=by have P:=qH<|position_any;have G:=qH<|length_any;unfold rv;go_enter func109,ntmps109;go_wp2_with fail;obtain⟨px,BG⟩:=aj (dq x);obtain⟨py,Ik⟩:=aj (dq y);obtain⟨la,Ta⟩:=aj (bT a);obtain⟨lb,hlb⟩:=aj (bT b);have P1:=P x;have P2:=P y;have G1:=G a;have G2:=G b;rw[BG]at P1;rw[Ik]at P2;rw[Ta]at G1;rw[hlb]at G2;go_region_held(fun W=>W.cell? (az w.heap.size 0)=some (Iq x)/\W.cell? (az w.heap.size 1)=some (Iq y)/\W.cell? (az w.heap.size 2)=some (Iq a)/\W.cell? (az w.heap.size 3)=some (Iq b)) (go_keep) (first|(go_at_call 143;first|(refine(P1 _).mono ?_;rintro e w2 ⟨rfl,rfl⟩)|(refine(P2 _).mono ?_;rintro e w2 ⟨rfl,rfl⟩))|(go_at_call 55;first|(refine(G1 _).mono ?_;rintro e w2 ⟨rfl,rfl⟩)|(refine(G2 _).mono ?_;rintro e w2 ⟨rfl,rfl⟩)));go_wp2;refine bodyPost_ret (v:=rv px py la lb) (by simp[results,Tryz.results109,go_sem,rv]) rfl ?_;subst BG Ik Ta hlb;exact⟨rfl,rfl⟩
def R4(T:TypeId)(W:World)(b:Nat)(x y a c:Int):Prop:=W.heap[b]?=some (.cells #[Iq x,Iq y,Iq a,Iq c] T (0,0))
section
variable{T:TypeId} {W W':World} {b k o:Nat} {x y a c:Int}
theorem R4.lt(h:R4 T W b x y a c):b<W.heap.size:=(aS.1 h).1
theorem R4.c0(h:R4 T W b x y a c):W.cell? (az b 0)=some (Iq x):=by unfold R4 at h;simp[World.cell?,h]
theorem R4.c1(h:R4 T W b x y a c):W.cell? (az b 1)=some (Iq y):=by unfold R4 at h;simp[World.cell?,h]
theorem R4.c2(h:R4 T W b x y a c):W.cell? (az b 2)=some (Iq a):=by unfold R4 at h;simp[World.cell?,h]
theorem R4.c3(h:R4 T W b x y a c):W.cell? (az b 3)=some (Iq c):=by unfold R4 at h;simp[World.cell?,h]
theorem R4.fz(h:R4 T W b x y a c)  j  :W.frozen? (az b j)=false:=frozen_of_row _ _ _ _ _ h
theorem R4.gr(h:R4 T W b x y a c)(g:Gr W W'):R4 T W' b x y a c:=(g.block h.lt).trans h
theorem R4.new(W:World)  x y a c   T  :R4 T (W.alloc (.cells #[Iq x,Iq y,Iq a,Iq c] T)) W.heap.size x y a c:=heap_alloc_new _ _
theorem R4.other(h:R4 T W b x y a c)(hk:b≠k)  v  :R4 T (W.setCell (az k o) v) b x y a c:=(cF W (az k o) v b hk).trans h
theorem R4.set(h:R4 T W b x y a c)  x' y' a' c'  :R4 T ((((W.setCell (az b 0) (Iq x')).setCell (az b 1) (Iq y')).setCell (az b 2) (Iq a')).setCell (az b 3) (Iq c')) b x' y' a' c':=
 heap_setCell_same _ b 3 _ T _ (heap_setCell_same _ b 2 _ T _ (heap_setCell_same _ b 1 _ T _ (heap_setCell_same _ b 0 _ T _ h)))
theorem R4.others(h:R4 T W b x y a c)(hk:b≠k)  v0 v1 v2 v3  :R4 T ((((W.setCell (az k 0) v0).setCell (az k 1) v1).setCell (az k 2) v2).setCell (az k 3) v3) b x y a c:=(((h.other hk v0).other hk v1).other hk v2).other hk v3
theorem Gr.set4(h:Gr W W')(hk:W.heap.size<=k)  v0 v1 v2 v3  :Gr W ((((W'.setCell (az k 0) v0).setCell (az k 1) v1).setCell (az k 2) v2).setCell (az k 3) v3):=(((h.set hk v0).set hk v1).set hk v2).set hk v3
end
theorem clamped_gr  x y a b   w  :Cw 109 #[rv x y a b] w fun e w'=>e=Rw (rv (dq x) (dq y) (bT a) (bT b))/\Gr w w':=
 (yt x y a b w).mono fun e w' ⟨he,hw⟩=>⟨he,by rw[hw];exact(((Gr.refl w).alloc _).alloc _).drew⟩
def jt(ax aw bx bw:Int):Int:=max (dq ax) (dq bx)
def lM(ax aw bx bw:Int):Int:=min (dq ax+bT aw) (dq bx+bT bw)
def yq(ax ay aw ah bx fR bw bh:Int):Value:=if jt ax aw bx bw>=lM ax aw bx bw\/jt ay ah fR bh>=lM ay ah fR bh then rv 0 0 0 0 else rv (jt ax aw bx bw) (jt ay ah fR bh) (lM ax aw bx bw-jt ax aw bx bw) (lM ay ah fR bh-jt ay ah fR bh)
theorem N1(ax ay aw ah bx fR bw bh:Int)(w:World):Cw 59 #[rv ax ay aw ah,rv bx fR bw bh] w fun e w'=>e=Rw (yq ax ay aw ah bx fR bw bh)/\Gr w w':=by
 have CC:=qH<|clamped_gr;unfold rv at CC⊢;go_enter func59,ntmps59;go_wp2_with fail;obtain⟨A,hA⟩:=aj w.heap.size;obtain⟨W0,dG⟩:=aj (((w.alloc (.cells #[Iq ax,Iq ay,Iq aw,Iq ah] 74)).alloc (.cells #[Iq bx,Iq fR,Iq bw,Iq bh] 74)).alloc (.cells #[Iq 0,Iq 0,Iq 0,Iq 0] 74));have G0:Hid (Gr w W0):=by rw[<-dG];exact(((Gr.refl w).alloc _).alloc _).alloc _
 have RA:Hid (R4 74 W0 A ax ay aw ah):=by rw[<-dG,<-hA];exact(R4.new w _ _ _ _ _).gr (((Gr.refl _).alloc _).alloc _)
 have RB:Hid (R4 74 W0 (A+1) bx fR bw bh):=by have:=R4.new (w.alloc (.cells #[Iq ax,Iq ay,Iq aw,Iq ah] 74)) bx fR bw bh 74;simp only[aO,hA]at this;rw[<-dG];exact this.gr ((Gr.refl _).alloc _)
 have RC:Hid (R4 74 W0 (A+1+1) 0 0 0 0):=by have:=R4.new ((w.alloc (.cells #[Iq ax,Iq ay,Iq aw,Iq ah] 74)).alloc (.cells #[Iq bx,Iq fR,Iq bw,Iq bh] 74)) 0 0 0 0 74;simp only[aO,hA]at this;rw[<-dG];exact this
 rw[dG,hA];clear dG;have HA:=qH<|hA;clear hA;have a0:=RA.c0;have a1:=RA.c1;have a2:=RA.c2;have a3:=RA.c3;have b0:=RB.c0;have b1:=RB.c1;have b2:=RB.c2;have b3:=RB.c3;obtain⟨px,BG⟩:=aj (dq ax);obtain⟨py,Ik⟩:=aj (dq ay);obtain⟨pa,Q0⟩:=aj (bT aw);obtain⟨pb,j5⟩:=aj (bT ah);obtain⟨qx,Q6⟩:=aj (dq bx);obtain⟨qy,Q7⟩:=aj (dq fR);obtain⟨qa,Q5⟩:=aj (bT bw);obtain⟨qb,Kh⟩:=aj (bT bh);go_cut[2,3,4]from 9 to 12 (fun u v t wx=>u=Pq A/\v=Pq (A+1)/\t=Pq (A+1+1)/\Hid (R4 74 wx A px py pa pb/\R4 74 wx (A+1) qx qy qa qb/\R4 74 wx (A+1+1) 0 0 0 0/\Gr w wx));case first=>
  go_region_with(go_at_call 109;refine(CC _ _ _ _ _).mono ?_;rintro e wn ⟨rfl,hgn⟩;have YO:=qH<|(by first|exact((Gr.refl W0).drew).trans hgn|exact Gr.trans (Hid.out (by assumption)) hgn);have DY:=qH<|RA.gr YO;have ME:=qH<|RB.gr YO;clear hgn;have m0:=DY.c0;have m1:=DY.c1;have m2:=DY.c2;have m3:=DY.c3;have n0:=ME.c0;have n1:=ME.c1;have n2:=ME.c2;have n3:=ME.c3;have f0:=DY.fz 0;have f1:=DY.fz 1;have f2:=DY.fz 2;have f3:=DY.fz 3;have g0:=ME.fz 0;have g1:=ME.fz 1;have g2:=ME.fz 2;have g3:=ME.fz 3);all_goals
   have HO:Hid (R4 74 ((((((((wn.setCell (az A 0) (Iq px)).setCell (az A 1) (Iq py)).setCell (az A 2) (Iq pa)).setCell (az A 3) (Iq pb)).setCell (az (A+1) 0) (Iq qx)).setCell (az (A+1) 1) (Iq qy)).setCell (az (A+1) 2) (Iq qa)).setCell (az (A+1) 3) (Iq qb)) A px py pa pb/\R4 74 ((((((((wn.setCell (az A 0) (Iq px)).setCell (az A 1) (Iq py)).setCell (az A 2) (Iq pa)).setCell (az A 3) (Iq pb)).setCell (az (A+1) 0) (Iq qx)).setCell (az (A+1) 1) (Iq qy)).setCell (az (A+1) 2) (Iq qa)).setCell (az (A+1) 3) (Iq qb)) (A+1) qx qy qa qb/\R4 74 ((((((((wn.setCell (az A 0) (Iq px)).setCell (az A 1) (Iq py)).setCell (az A 2) (Iq pa)).setCell (az A 3) (Iq pb)).setCell (az (A+1) 0) (Iq qx)).setCell (az (A+1) 1) (Iq qy)).setCell (az (A+1) 2) (Iq qa)).setCell (az (A+1) 3) (Iq qb)) (A+1+1) 0 0 0 0/\Gr w ((((((((wn.setCell (az A 0) (Iq px)).setCell (az A 1) (Iq py)).setCell (az A 2) (Iq pa)).setCell (az A 3) (Iq pb)).setCell (az (A+1) 0) (Iq qx)).setCell (az (A+1) 1) (Iq qy)).setCell (az (A+1) 2) (Iq qa)).setCell (az (A+1) 3) (Iq qb))):=
    ⟨(DY.set px py pa pb).others (by omega) _ _ _ _,(ME.others (by omega) _ _ _ _).set qx qy qa qb,((RC.gr YO).others (by omega) _ _ _ _).others (by omega) _ _ _ _,((G0.trans YO).set4 (by rw[HA.out];omega) _ _ _ _).set4 (by rw[HA.out];omega) _ _ _ _⟩;clear m0 m1 m2 m3 n0 n1 n2 n3 f0 f1 f2 f3 g0 g1 g2 g3 a0 a1 a2 a3 b0 b1 b2 b3 DY ME;go_wp2_with fail;go_meet;grind
 case rest=>
  obtain⟨rfl,rfl,rfl,HO⟩:=hcut;clear a0 a1 a2 a3 b0 b1 b2 b3 RA RB RC;have a0:=HO.1.c0;have a1:=HO.1.c1;have a2:=HO.1.c2;have a3:=HO.1.c3;have b0:=HO.2.1.c0;have b1:=HO.2.1.c1;have b2:=HO.2.1.c2;have b3:=HO.2.1.c3;have Zg:=ef ax;have Zh:=ef ay;have Ze:=cJ aw;have Zf:=cJ ah;have Zk:=ef bx;have Zl:=ef fR;have Zi:=cJ bw;have Zj:=cJ bh;rw[BG]at Zg;rw[Ik]at Zh;rw[Q0]at Ze;rw[j5]at Zf;rw[Q6]at Zk;rw[Q7]at Zl;rw[Q5]at Zi;rw[Kh]at Zj;go_wp2_with fail;go_cut[5,6]from 13 to 28 (fun u v wx=>u=Iq (max px qx)/\v=Iq (min (px+pa) (qx+qa))/\∃q,wx=wc.drewN q);case first=>by_cases h1:px<qx;iterate 2 ·by_cases h2:px+pa<=qx+qa;iterate 2 ·go_quiet(fail);go_wp2_with fail;go_meet;grind
  case rest=>
   obtain⟨rfl,rfl,q1,rfl⟩:=hcut;go_wp2_with fail;go_cut[7,8]from 29 to 44 (fun u v wx=>u=Iq (max py qy)/\v=Iq (min (py+pb) (qy+qb))/\∃q,wx=wc.drewN q);case first=>by_cases h1:py<qy;iterate 2 ·by_cases h2:py+pb<=qy+qb;iterate 2 ·go_quiet(fail);go_wp2_with fail;go_meet;exact⟨congrArg (Value.int .i64) (by omega),congrArg (Value.int .i64) (by omega),q1+nq,by first|rfl|exact World.drewN_drewN _ _ _⟩
   case rest=>
    obtain⟨rfl,rfl,q2,rfl⟩:=hcut;obtain⟨W1,cE⟩:=aj (wc.drewN q2);have G1:Hid (Gr wc W1):=by rw[<-cE];exact(Gr.refl _).drewN _
    rw[cE];have R1:=qH<|HO.2.2.1.gr G1;have GG:=qH<|HO.2.2.2.trans G1;clear cE a0 a1 a2 a3 b0 b1 b2 b3 HO;have c0:=R1.c0;have c1:=R1.c1;have c2:=R1.c2;have c3:=R1.c3;have f0:=R1.fz 0;have f1:=R1.fz 1;have f2:=R1.fz 2;have f3:=R1.fz 3;obtain⟨l,hl⟩:=aj (max px qx);obtain⟨r,hr⟩:=aj (min (px+pa) (qx+qa));obtain⟨t,ht⟩:=aj (max py qy);obtain⟨d,hd⟩:=aj (min (py+pb) (qy+qb));have HV:Hid (yq ax ay aw ah bx fR bw bh=if l>=r\/t>=d then rv 0 0 0 0 else rv l t (r-l) (d-t)):=by show _=_;unfold yq jt lM;rw[BG,Ik,Q0,j5,Q6,Q7,Q5,Kh,hl,hr,ht,hd]
    have bl:-100000<=l/\l<=100000:=by omega
    have br:-100000<=r/\r<=200000:=by omega
    have bt:-100000<=t/\t<=100000:=by omega
    have bd:-100000<=d/\d<=200000:=by omega
    rw[hl,hr,ht,hd];clear BG Ik Q0 j5 Q6 Q7 Q5 Kh hl hr ht hd Zg Zh Ze Zf Zk Zl Zi Zj;by_cases h1:r<=l;·have e1:=decide_eq_true h1;go_wp2;refine bodyPost_ret (results_cell_row rfl _ _ (A+1+1) _ _ _ _ rfl (R1.set 0 0 0 0) underlying74 rfl (by kernel_rfl)) rfl ?_;exact⟨by rw[HV.out,if_pos (.inl h1)];rfl,GG.set4 (by rw[HA.out];omega) _ _ _ _⟩
    ·have e1:=decide_eq_false h1;by_cases h2:d<=t;·have e2:=decide_eq_true h2;go_wp2;refine bodyPost_ret (results_cell_row rfl _ _ (A+1+1) _ _ _ _ rfl (R1.set 0 0 0 0) underlying74 rfl (by kernel_rfl)) rfl ?_;exact⟨by rw[HV.out,if_pos (.inr h2)];rfl,GG.set4 (by rw[HA.out];omega) _ _ _ _⟩
     ·have e2:=decide_eq_false h2;go_wp2;refine bodyPost_ret (results_cell_row rfl _ _ (A+1+1) _ _ _ _ rfl (R1.set l t (r-l) (d-t)) underlying74 rfl (by kernel_rfl)) rfl ?_;exact⟨by rw[HV.out,if_neg (by omega)];rfl,GG.set4 (by rw[HA.out];omega) _ _ _ _⟩
theorem rv4{a b c d a' b' c' d'}(h0:a=a')(h1:b=b')(h2:c=c')(h3:d=d'):Ending.returned (.agg #[Iq a,Iq b,Iq c,Iq d])=Ending.returned (rv a' b' c' d'):=by subst h0 h1 h2 h3;rfl
def qI(x y a b n:Int):Value:=rv (dq x+min (bT n) (bT a/2)) (dq y+min (bT n) (bT b/2)) (max 0 (bT a-2*bT n)) (max 0 (bT b-2*bT n))
theorem GH(x y a b n:Int)(w:World):Cw 107 #[rv x y a b,Iq n] w fun e w'=>e=Rw (qI x y a b n)/\Gr w w':=by
 have CC:Hid (∀x y a b w,Cw 109 #[rv x y a b] w fun e w'=>e=Rw (rv (dq x) (dq y) (bT a) (bT b))/\Gr w w'):=clamped_gr;have LL:Hid (∀n w,Cw 55 #[Iq n] w fun e w'=>e=Rw (Iq (bT n))/\w'=w):=length_any;have b1:=ef x;have b2:=ef y;have b3:=cJ a;have b4:=cJ b;have b5:=cJ n;obtain⟨A,hA⟩:=aj (dq x);obtain⟨B,hB⟩:=aj (dq y);obtain⟨C,hC⟩:=aj (bT a);obtain⟨D,hD⟩:=aj (bT b);obtain⟨m,hm⟩:=aj (bT n);have HV:Hid (qI x y a b n=rv (A+min m (C/2)) (B+min m (D/2)) (max 0 (C-2*m)) (max 0 (D-2*m))):=by show _=_;unfold qI;rw[hA,hB,hC,hD,hm]
 rw[hA]at b1;rw[hB]at b2;rw[hC]at b3;rw[hD]at b4;rw[hm]at b5;unfold rv at CC⊢;go_enter func107,ntmps107;go_wp2_with fail;obtain⟨W0,dG⟩:=aj ((w.alloc (.cells #[Iq x,Iq y,Iq a,Iq b] 74)).alloc (.cells #[Iq 0,Iq 0,Iq 0,Iq 0] 74));obtain⟨S,hS⟩:=aj w.heap.size;have HS:Hid (w.heap.size=S):=hS;have G0:Hid (Gr w W0):=by rw[<-dG];exact((Gr.refl w).alloc _).alloc _
 have RA:Hid (R4 74 W0 S x y a b):=by rw[<-dG,<-hS];exact(R4.new w _ _ _ _ _).gr ((Gr.refl _).alloc _)
 have RC:Hid (R4 74 W0 (S+1) 0 0 0 0):=by have:=R4.new (w.alloc (.cells #[Iq x,Iq y,Iq a,Iq b] 74)) 0 0 0 0 74;simp only[aO,hS]at this;rw[<-dG];exact this
 rw[dG,hS];clear dG hS;refine(CC _ _ _ _ _).mono ?_;rintro e w2 ⟨rfl,lN⟩;have HG:Hid (Gr w w2):=G0.trans lN;have R2:Hid (R4 74 w2 S x y a b):=RA.gr lN;have Qv:Hid (R4 74 w2 (S+1) 0 0 0 0):=RC.gr lN;clear lN RA RC G0;have c0:=R2.c0;have c1:=R2.c1;have c2:=R2.c2;have c3:=R2.c3;have f0:=R2.fz 0;have f1:=R2.fz 1;have f2:=R2.fz 2;have f3:=R2.fz 3;rw[hA,hB,hC,hD];go_wp2_with fail;obtain⟨w3,qE⟩:=aj ((((w2.setCell (az S 0) (Iq A)).setCell (az S 1) (Iq B)).setCell (az S 2) (Iq C)).setCell (az S 3) (Iq D));have BK:Hid (Gr w w3):=by rw[<-qE];exact HG.set4 (by rw[HS.out];omega) _ _ _ _
 have R3:Hid (R4 74 w3 S A B C D):=by rw[<-qE];exact R2.set A B C D
 have tu:Hid (R4 74 w3 (S+1) 0 0 0 0):=by rw[<-qE];exact Qv.others (by omega) _ _ _ _
 rw[qE];clear qE c0 c1 c2 c3 f0 f1 f2 f3 R2 Qv HG;refine(LL _ _).mono ?_;rintro e w4 ⟨rfl,Im⟩;obtain rfl:=Im.symm;rw[hm];have c0:=R3.c0;have c1:=R3.c1;have c2:=R3.c2;have c3:=R3.c3;have d0:=tu.c0;have d1:=tu.c1;have d2:=tu.c2;have d3:=tu.c3;have f0:=tu.fz 0;have f1:=tu.fz 1;have f2:=tu.fz 2;have f3:=tu.fz 3;clear hA hB hC hD hm;have q1:C.tdiv 2=C/2:=vy b3.1;have q2:D.tdiv 2=D/2:=vy b4.1;obtain⟨p,hp⟩:=aj (C/2);obtain⟨q,hq⟩:=aj (D/2);rw[hp]at q1 HV;rw[hq]at q2 HV;have k1:2*p<=C/\C<=2*p+1:=by omega
 have k2:2*q<=D/\D<=2*q+1:=by omega
 clear hp hq;rcases(by omega:(2*m<=C/\m<=p/\0<=C-2*m)\/(C<2*m/\p<=m/\C-2*m<0))with⟨h1,tK,zaY⟩|⟨h1,tK,zaY⟩<;>rcases(by omega:(2*m<=D/\m<=q/\0<=D-2*m)\/(D<2*m/\q<=m/\D-2*m<0))with⟨h2,qX,za4⟩|⟨h2,qX,za4⟩;all_goals go_wp2
 all_goals refine bodyPost_ret (results_cell_row rfl _ _ (S+1) _ _ _ _ rfl (tu.set _ _ _ _) underlying74 rfl (by kernel_rfl)) rfl ?_;exact⟨by rw[HV.out];grind[rv4],BK.set4 (by rw[HS.out];omega) _ _ _ _⟩
theorem xo{a b c d a' b' c' d'}(h:rv a b c d=rv a' b' c' d'):a=a'/\b=b'/\c=c'/\d=d':=by grind[rv]
theorem least_any(a b:Int)(w:World):Cw 122 #[Iq a,Iq b] w fun e w'=>e=Rw (Iq (min a b))/\w'=w:=by
 go_enter func122,ntmps122;by_cases h:a<b;·go_wp2;go_ret;exact⟨by rw[show min a b=a by omega];rfl,rfl⟩
 ·have h':b<=a:=by omega
  go_wp2;go_ret;exact⟨by rw[show min a b=b by omega];rfl,rfl⟩
theorem greatest_any(a b:Int)(w:World):Cw 119 #[Iq a,Iq b] w fun e w'=>e=Rw (Iq (max a b))/\w'=w:=by
 go_enter func119,ntmps119;by_cases h:b<a;·go_wp2;go_ret;exact⟨by rw[show max a b=a by omega];rfl,rfl⟩
 ·have h':a<=b:=by omega
  go_wp2;go_ret;exact⟨by rw[show max a b=b by omega];rfl,rfl⟩
theorem rClamped_any(n:Int)(w:World):Cw 162 #[Iq n] w fun e w'=>e=Rw (Iq (bT n))/\w'=w:=by
 go_enter func162,ntmps162;by_cases h:n<0;·go_wp2;go_ret;exact⟨by rw[show bT n=0 by grind[bT]];rfl,rfl⟩
 ·by_cases h2:100000<n;·have h':=h;go_wp2;go_ret;exact⟨by rw[show bT n=100000 by grind[bT]];rfl,rfl⟩
  ·have h':n<=100000:=by omega
   have h0:0<=n:=by omega
   go_wp2;go_ret;exact⟨by rw[show bT n=n by grind[bT]];rfl,rfl⟩
theorem yC(x y a b:Int)(w:World):Cw 163 #[rv x y a b] w fun e w'=>e=Rw (rv (dq x) (dq y) (bT a) (bT b))/\Gr w w':=by
 have LS:=qH<|least_any;have GS:=qH<|greatest_any;have CS:=qH<|rClamped_any;obtain⟨px,BG⟩:=aj (max (-100000) (min 100000 x));obtain⟨py,Ik⟩:=aj (max (-100000) (min 100000 y));have ex:dq x=px:=by unfold dq;omega
 have ey:dq y=py:=by unfold dq;omega
 rw[ex,ey];obtain⟨la,Ta⟩:=aj (bT a);obtain⟨lb,hlb⟩:=aj (bT b);unfold rv;rw[Ta,hlb];go_enter func163,ntmps163;go_wp2_with(first|(go_at_call 122;refine(LS _ _ _).mono ?_;rintro e w2 ⟨rfl,rfl⟩)|(go_at_call 119;refine(GS _ _ _).mono ?_;rintro e w2 ⟨rfl,rfl⟩));go_region_held(fun W=>W.cell? (az w.heap.size 2)=some (Iq a)/\W.cell? (az w.heap.size 3)=some (Iq b)) (go_keep) (first|(go_at_call 162;refine(CS _ _).mono ?_;rintro e w2 ⟨rfl,rfl⟩));all_goals
  try rw[Ta,hlb]
  go_wp2;refine bodyPost_ret (v:=rv px py la lb) (by simp[results,Tryz.results163,go_sem,rv]) rfl ?_;exact⟨rfl,(((Gr.refl w).alloc _).alloc _).drew⟩
theorem aN{U U'}(hb:Bt U U'){a}{v}(h:U.cell? a=some v):U'.cell? a=some v:=
 (bU (hb.block a.block (ln U a h))).trans h
theorem Lo(ax ay aw ah bx fR bw bh:Int)(w:World):Cw 123 #[rv ax ay aw ah,rv bx fR bw bh] w fun e w'=>e=Rw (yq ax ay aw ah bx fR bw bh)/\Gr w w':=by
 have CC:Hid (∀x y a b w,Cw 163 #[rv x y a b] w fun e w'=>e=Rw (rv (dq x) (dq y) (bT a) (bT b))/\Gr w w'):=yC;have LS:Hid (∀a b w,Cw 122 #[Iq a,Iq b] w fun e w'=>e=Rw (Iq (min a b))/\w'=w):=least_any;have GS:Hid (∀a b w,Cw 119 #[Iq a,Iq b] w fun e w'=>e=Rw (Iq (max a b))/\w'=w):=greatest_any;unfold rv at CC⊢;go_enter func123,ntmps123;go_wp2_with fail;obtain⟨A,hA⟩:=aj w.heap.size;obtain⟨W0,dG⟩:=aj (((w.alloc (.cells #[Iq ax,Iq ay,Iq aw,Iq ah] 80)).alloc (.cells #[Iq bx,Iq fR,Iq bw,Iq bh] 80)).alloc (.cells #[Iq 0,Iq 0,Iq 0,Iq 0] 80));have G0:Hid (Gr w W0):=by rw[<-dG];exact(((Gr.refl w).alloc _).alloc _).alloc _
 have RA:Hid (R4 80 W0 A ax ay aw ah):=by rw[<-dG,<-hA];exact(R4.new w _ _ _ _ _).gr (((Gr.refl _).alloc _).alloc _)
 have RB:Hid (R4 80 W0 (A+1) bx fR bw bh):=by have:=R4.new (w.alloc (.cells #[Iq ax,Iq ay,Iq aw,Iq ah] 80)) bx fR bw bh 80;simp only[aO,hA]at this;rw[<-dG];exact this.gr ((Gr.refl _).alloc _)
 have RC:Hid (R4 80 W0 (A+1+1) 0 0 0 0):=by have:=R4.new ((w.alloc (.cells #[Iq ax,Iq ay,Iq aw,Iq ah] 80)).alloc (.cells #[Iq bx,Iq fR,Iq bw,Iq bh] 80)) 0 0 0 0 80;simp only[aO,hA]at this;rw[<-dG];exact this
 rw[dG,hA];clear dG;have HA:Hid (w.heap.size=A):=hA;clear hA;have a0:=RA.c0;have a1:=RA.c1;have a2:=RA.c2;have a3:=RA.c3;have b0:=RB.c0;have b1:=RB.c1;have b2:=RB.c2;have b3:=RB.c3;obtain⟨px,BG⟩:=aj (dq ax);obtain⟨py,Ik⟩:=aj (dq ay);obtain⟨pa,Q0⟩:=aj (bT aw);obtain⟨pb,j5⟩:=aj (bT ah);obtain⟨qx,Q6⟩:=aj (dq bx);obtain⟨qy,Q7⟩:=aj (dq fR);obtain⟨qa,Q5⟩:=aj (bT bw);obtain⟨qb,Kh⟩:=aj (bT bh);clear a0 a1 a2 a3 b0 b1 b2 b3;refine(CC _ _ _ _ _).mono ?_;rintro e w2 ⟨rfl,lN⟩;have HG:Hid (Gr w w2):=G0.trans lN;have MM:Hid (R4 80 w2 A ax ay aw ah):=RA.gr lN;have UH:Hid (R4 80 w2 (A+1) bx fR bw bh):=RB.gr lN;have Qv:Hid (R4 80 w2 (A+1+1) 0 0 0 0):=RC.gr lN;clear lN RA RB RC G0;have a0:=MM.c0;have a1:=MM.c1;have a2:=MM.c2;have a3:=MM.c3;have f0:=MM.fz 0;have f1:=MM.fz 1;have f2:=MM.fz 2;have f3:=MM.fz 3;have b0:=UH.c0;have b1:=UH.c1;have b2:=UH.c2;have b3:=UH.c3;rw[BG,Ik,Q0,j5];go_wp2_with fail;obtain⟨w3,qE⟩:=aj ((((w2.setCell (az A 0) (Iq px)).setCell (az A 1) (Iq py)).setCell (az A 2) (Iq pa)).setCell (az A 3) (Iq pb));have BK:Hid (Gr w w3):=by rw[<-qE];exact HG.set4 (by rw[HA.out];omega) _ _ _ _
 have RA3:Hid (R4 80 w3 A px py pa pb):=by rw[<-qE];exact MM.set px py pa pb
 have RB3:Hid (R4 80 w3 (A+1) bx fR bw bh):=by rw[<-qE];exact UH.others (by omega) _ _ _ _
 have tu:Hid (R4 80 w3 (A+1+1) 0 0 0 0):=by rw[<-qE];exact Qv.others (by omega) _ _ _ _
 rw[qE];clear qE a0 a1 a2 a3 b0 b1 b2 b3 f0 f1 f2 f3 HG MM UH Qv;refine(CC _ _ _ _ _).mono ?_;rintro e w4 ⟨rfl,OG⟩;have HG4:Hid (Gr w w4):=BK.trans OG;have UG:Hid (R4 80 w4 A px py pa pb):=RA3.gr OG;have MO:Hid (R4 80 w4 (A+1) bx fR bw bh):=RB3.gr OG;have RC4:Hid (R4 80 w4 (A+1+1) 0 0 0 0):=tu.gr OG;clear OG RA3 RB3 tu BK;have b0:=MO.c0;have b1:=MO.c1;have b2:=MO.c2;have b3:=MO.c3;have f0:=MO.fz 0;have f1:=MO.fz 1;have f2:=MO.fz 2;have f3:=MO.fz 3;have a0:=UG.c0;have a1:=UG.c1;have a2:=UG.c2;have a3:=UG.c3;rw[Q6,Q7,Q5,Kh];go_wp2_with fail;obtain⟨w5,tB⟩:=aj ((((w4.setCell (az (A+1) 0) (Iq qx)).setCell (az (A+1) 1) (Iq qy)).setCell (az (A+1) 2) (Iq qa)).setCell (az (A+1) 3) (Iq qb));have VG:Hid (Gr w w5):=by rw[<-tB];exact HG4.set4 (by rw[HA.out];omega) _ _ _ _
 have Y9:Hid (R4 80 w5 A px py pa pb):=by rw[<-tB];exact UG.others (by omega) _ _ _ _
 have Y_:Hid (R4 80 w5 (A+1) qx qy qa qb):=by rw[<-tB];exact MO.set qx qy qa qb
 have I2:Hid (R4 80 w5 (A+1+1) 0 0 0 0):=by rw[<-tB];exact RC4.others (by omega) _ _ _ _
 rw[tB];clear tB a0 a1 a2 a3 b0 b1 b2 b3 f0 f1 f2 f3 HG4 UG MO RC4;have a0:=Y9.c0;have a1:=Y9.c1;have a2:=Y9.c2;have a3:=Y9.c3;have b0:=Y_.c0;have b1:=Y_.c1;have b2:=Y_.c2;have b3:=Y_.c3;have c0:=I2.c0;have c1:=I2.c1;have c2:=I2.c2;have c3:=I2.c3;have f0:=I2.fz 0;have f1:=I2.fz 1;have f2:=I2.fz 2;have f3:=I2.fz 3;have Zg:=ef ax;have Zh:=ef ay;have Ze:=cJ aw;have Zf:=cJ ah;have Zk:=ef bx;have Zl:=ef fR;have Zi:=cJ bw;have Zj:=cJ bh;rw[BG]at Zg;rw[Ik]at Zh;rw[Q0]at Ze;rw[j5]at Zf;rw[Q6]at Zk;rw[Q7]at Zl;rw[Q5]at Zi;rw[Kh]at Zj;obtain⟨l,hl⟩:=aj (max px qx);obtain⟨r,hr⟩:=aj (min (px+pa) (qx+qa));obtain⟨t,ht⟩:=aj (max py qy);obtain⟨d,hd⟩:=aj (min (py+pb) (qy+qb));have HV:Hid (yq ax ay aw ah bx fR bw bh=if l>=r\/t>=d then rv 0 0 0 0 else rv l t (r-l) (d-t)):=by show _=_;unfold yq jt lM;rw[BG,Ik,Q0,j5,Q6,Q7,Q5,Kh,hl,hr,ht,hd]
 have L1:Hid (∀w,Cw 122 #[Iq (px+pa),Iq (qx+qa)] w fun e w'=>e=Rw (Iq r)/\w'=w):=fun w=>by have:=LS (px+pa) (qx+qa) w;rw[hr]at this;exact this
 have L2:Hid (∀w,Cw 122 #[Iq (py+pb),Iq (qy+qb)] w fun e w'=>e=Rw (Iq d)/\w'=w):=fun w=>by have:=LS (py+pb) (qy+qb) w;rw[hd]at this;exact this
 have G1:Hid (∀w,Cw 119 #[Iq px,Iq qx] w fun e w'=>e=Rw (Iq l)/\w'=w):=fun w=>by have:=GS px qx w;rw[hl]at this;exact this
 have G2:Hid (∀w,Cw 119 #[Iq py,Iq qy] w fun e w'=>e=Rw (Iq t)/\w'=w):=fun w=>by have:=GS py qy w;rw[ht]at this;exact this
 have bl:-100000<=l/\l<=100000:=by omega
 have br:-100000<=r/\r<=200000:=by omega
 have bt:-100000<=t/\t<=100000:=by omega
 have bd:-100000<=d/\d<=200000:=by omega
 clear BG Ik Q0 j5 Q6 Q7 Q5 Kh hl hr ht hd;go_wp2_with fail;refine(G1 _).mono ?_;rintro e w6 ⟨rfl,M9⟩;obtain rfl:=M9.symm;go_wp2_with fail;refine(G2 _).mono ?_;rintro e w7 ⟨rfl,X9⟩;obtain rfl:=X9.symm;go_wp2_with fail;refine(L1 _).mono ?_;rintro e w8 ⟨rfl,hw8⟩;obtain rfl:=hw8.symm;go_wp2_with fail;refine(L2 _).mono ?_;rintro e w9 ⟨rfl,X_⟩;obtain rfl:=X_.symm;by_cases h1:r-l<=0;·have e1:=decide_eq_true h1;go_wp2;refine bodyPost_ret (results_cell_row rfl _ _ (A+1+1) _ _ _ _ rfl (I2.set _ _ _ _) underlying80 rfl (by kernel_rfl)) rfl ?_;exact⟨by rw[HV.out,if_pos (by omega)];rfl,VG.set4 (by rw[HA.out];omega) _ _ _ _⟩
 ·have e1:=decide_eq_false h1;by_cases h2:d-t<=0;·have e2:=decide_eq_true h2;go_wp2;refine bodyPost_ret (results_cell_row rfl _ _ (A+1+1) _ _ _ _ rfl (I2.set _ _ _ _) underlying80 rfl (by kernel_rfl)) rfl ?_;exact⟨by rw[HV.out,if_pos (by omega)];rfl,VG.set4 (by rw[HA.out];omega) _ _ _ _⟩
  ·have e2:=decide_eq_false h2;go_wp2;refine bodyPost_ret (results_cell_row rfl _ _ (A+1+1) _ _ _ _ rfl (I2.set _ _ _ _) underlying80 rfl (by kernel_rfl)) rfl ?_;exact⟨by rw[HV.out,if_neg (by omega)];rfl,VG.set4 (by rw[HA.out];omega) _ _ _ _⟩
theorem Du(x y a b n:Int)(w:World):Cw 117 #[rv x y a b,Iq n] w fun e w'=>e=Rw (qI x y a b n)/\Gr w w':=by
 have CC:Hid (∀x y a b w,Cw 163 #[rv x y a b] w fun e w'=>e=Rw (rv (dq x) (dq y) (bT a) (bT b))/\Gr w w'):=yC;have LL:Hid (∀n w,Cw 162 #[Iq n] w fun e w'=>e=Rw (Iq (bT n))/\w'=w):=rClamped_any;have LS:Hid (∀a b w,Cw 122 #[Iq a,Iq b] w fun e w'=>e=Rw (Iq (min a b))/\w'=w):=least_any;have b1:=ef x;have b2:=ef y;have b3:=cJ a;have b4:=cJ b;have b5:=cJ n;obtain⟨A,hA⟩:=aj (dq x);obtain⟨B,hB⟩:=aj (dq y);obtain⟨C,hC⟩:=aj (bT a);obtain⟨D,hD⟩:=aj (bT b);obtain⟨m,hm⟩:=aj (bT n);have HV:Hid (qI x y a b n=rv (A+min m (C/2)) (B+min m (D/2)) (max 0 (C-2*m)) (max 0 (D-2*m))):=by show _=_;unfold qI;rw[hA,hB,hC,hD,hm]
 rw[hA]at b1;rw[hB]at b2;rw[hC]at b3;rw[hD]at b4;rw[hm]at b5;unfold rv at CC⊢;go_enter func117,ntmps117;go_wp2_with fail;obtain⟨W0,dG⟩:=aj ((w.alloc (.cells #[Iq x,Iq y,Iq a,Iq b] 80)).alloc (.cells #[Iq 0,Iq 0,Iq 0,Iq 0] 80));obtain⟨S,hS⟩:=aj w.heap.size;have HS:Hid (w.heap.size=S):=hS;have G0:Hid (Gr w W0):=by rw[<-dG];exact((Gr.refl w).alloc _).alloc _
 have RA:Hid (R4 80 W0 S x y a b):=by rw[<-dG,<-hS];exact(R4.new w _ _ _ _ _).gr ((Gr.refl _).alloc _)
 have RC:Hid (R4 80 W0 (S+1) 0 0 0 0):=by have:=R4.new (w.alloc (.cells #[Iq x,Iq y,Iq a,Iq b] 80)) 0 0 0 0 80;simp only[aO,hS]at this;rw[<-dG];exact this
 rw[dG,hS];clear dG hS;refine(CC _ _ _ _ _).mono ?_;rintro e w2 ⟨rfl,lN⟩;have HG:Hid (Gr w w2):=G0.trans lN;have R2:Hid (R4 80 w2 S x y a b):=RA.gr lN;have Qv:Hid (R4 80 w2 (S+1) 0 0 0 0):=RC.gr lN;clear lN RA RC G0;have c0:=R2.c0;have c1:=R2.c1;have c2:=R2.c2;have c3:=R2.c3;have f0:=R2.fz 0;have f1:=R2.fz 1;have f2:=R2.fz 2;have f3:=R2.fz 3;rw[hA,hB,hC,hD];go_wp2_with fail;obtain⟨w3,qE⟩:=aj ((((w2.setCell (az S 0) (Iq A)).setCell (az S 1) (Iq B)).setCell (az S 2) (Iq C)).setCell (az S 3) (Iq D));have BK:Hid (Gr w w3):=by rw[<-qE];exact HG.set4 (by rw[HS.out];omega) _ _ _ _
 have R3:Hid (R4 80 w3 S A B C D):=by rw[<-qE];exact R2.set A B C D
 have tu:Hid (R4 80 w3 (S+1) 0 0 0 0):=by rw[<-qE];exact Qv.others (by omega) _ _ _ _
 rw[qE];clear qE c0 c1 c2 c3 f0 f1 f2 f3 R2 Qv HG;refine(LL _ _).mono ?_;rintro e w4 ⟨rfl,Im⟩;obtain rfl:=Im.symm;rw[hm];have c0:=R3.c0;have c1:=R3.c1;have c2:=R3.c2;have c3:=R3.c3;have d0:=tu.c0;have d1:=tu.c1;have d2:=tu.c2;have d3:=tu.c3;have f0:=tu.fz 0;have f1:=tu.fz 1;have f2:=tu.fz 2;have f3:=tu.fz 3;clear hA hB hC hD hm;have q1:C.tdiv 2=C/2:=vy b3.1;have q2:D.tdiv 2=D/2:=vy b4.1;obtain⟨p,hp⟩:=aj (C/2);obtain⟨q,hq⟩:=aj (D/2);rw[hp]at q1 HV;rw[hq]at q2 HV;have k1:2*p<=C/\C<=2*p+1:=by omega
 have k2:2*q<=D/\D<=2*q+1:=by omega
 clear hp hq;rcases(by omega:(C<=2*m/\min m p=p)\/(2*m<C/\min m p=m))with⟨h1,tK⟩|⟨h1,tK⟩<;>rcases(by omega:(D<=2*m/\min m q=q)\/(2*m<D/\min m q=m))with⟨h2,qX⟩|⟨h2,qX⟩;all_goals go_wp2_with(first|(go_at_call 122;refine(LS _ _ _).mono ?_;rintro e w5 ⟨rfl,tB⟩;obtain rfl:=tB.symm;first|rw[tK]|rw[qX]|skip))
 all_goals refine bodyPost_ret (results_cell_row rfl _ _ (S+1) _ _ _ _ rfl (tu.set _ _ _ _) underlying80 rfl (by kernel_rfl)) rfl ?_;exact⟨by rw[HV.out];grind[rv4],BK.set4 (by rw[HS.out];omega) _ _ _ _⟩
theorem sC(n:Int)(w:World):Cw 9 #[Iq n] w fun e w'=>e=Rw (Iq n)/\w'=w:=by go_enter func9,ntmps9;go_wp2;go_ret;simp_all
