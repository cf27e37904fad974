import Derived.Test.YtmbefonnkkhfgaaGreatDoorProg
import Derived.WalkKit
import Derived.WalkSpells
import Derived.WalkLawsBesides
import Derived.RegionTactic
import Derived.BigRegion
import Derived.BigQuiet
import Derived.Deep.QuietTactic
import Derived.Deep.RegionWith
import Derived.Deep.RegionHeld
import Derived.Deep.Cut
import Derived.Deep.CutRange
import Derived.Shelf.SlSortCmp.QuietGrown
import Derived.Test.YtmbefonnkkhfgaaGreatDoorQ00
import Derived.Laws.AppendOwn
set_option linter.unusedVariables false
set_option maxRecDepth 100000
set_option maxHeartbeats 16000000
namespace Go.Proofs.YtmbefonnkkhfgaaGreatDoor
section
open Go.RowKit Go.Sort
def Gr(w w':World):Prop:=∃q os,w'=grow (w.drewN q) os
theorem Gr.refl(w:World):Gr w w:=⟨0,#[],by simp;rfl⟩
theorem Gr.trans{a b c:World}(h:Gr a b)(k:Gr b c):Gr a c:=by obtain⟨q,os,rfl⟩:=h;obtain⟨q2,os2,rfl⟩:=k;exact⟨q+q2,os++os2,by show grow (grow ((a.drewN q).drewN q2) os) os2=_;rw[grow_grow,World.drewN_drewN]⟩
theorem Gr.alloc{a b:World}(h:Gr a b)(o:Obj):Gr a (b.alloc o):=h.trans ⟨0,#[o],alloc_eq_grow b o⟩
theorem Gr.drew{a b:World}(h:Gr a b):Gr a b.drew:=h.trans ⟨1,#[],by simp;rfl⟩
theorem Gr.drewN{a b:World}(h:Gr a b)(n:Nat):Gr a (b.drewN n):=h.trans ⟨n,#[],by simp⟩
theorem Gr.size{a b:World}(h:Gr a b):a.heap.size≤b.heap.size:=by obtain⟨q,os,rfl⟩:=h;rw[size_grow];exact Nat.le_add_right _ _
theorem Gr.block{a b:World}(h:Gr a b){k:Nat}(hk:k<a.heap.size):b.heap[k]?=a.heap[k]?:=by obtain⟨q,os,rfl⟩:=h;exact heap_grow_old _ _ hk
theorem Gr.set{a b:World}(h:Gr a b){k o:Nat}(hk:a.heap.size≤k)(v:Value):Gr a (b.setCell ⟨k,o,none⟩ v):=by obtain⟨q,os,rfl⟩:=h;exact⟨q,_,by unfold World.setCell grow;simp only;rw[modify_append_right (a.drewN q).heap os k _ hk]⟩
theorem Gr.below{a b:World}(h:Gr a b):Below a.heap.size a b:=⟨by obtain⟨q,os,rfl⟩:=h;rfl,by obtain⟨q,os,rfl⟩:=h;rfl,by obtain⟨q,os,rfl⟩:=h;rfl,h.size,fun k hk=>h.block hk⟩
end
section
open Go.RowKit Go.Proofs.Tryz
def posI(n:Int):Int:=min (max n (-100000)) 100000
def lenI(n:Int):Int:=min (max n 0) 100000
def rv(x y w h:Int):Value:=.agg #[Iq x,Iq y,Iq w,Iq h]
theorem posI_bd(n:Int):-100000≤posI n∧posI n≤100000:=by unfold posI;omega
theorem lenI_bd(n:Int):0≤lenI n∧lenI n≤100000:=by unfold lenI;omega
theorem length_any(n:Int)(w:World):Calls prog 50 #[Iq n] w fun e w'=>e=.returned (Iq (lenI n))∧w'=w:=by go_enter func50,ntmps50;go_wp2;all_goals go_ret;refine⟨?_,rfl⟩;refine congrArg (fun n:Int=>Ending.returned (Iq n)) (?_:_=lenI n);unfold lenI;omega
theorem position_any(n:Int)(w:World):Calls prog 141 #[Iq n] w fun e w'=>e=.returned (Iq (posI n))∧w'=w:=by go_enter func141,ntmps141;go_wp2;all_goals go_ret;refine⟨?_,rfl⟩;refine congrArg (fun n:Int=>Ending.returned (Iq n)) (?_:_=posI n);unfold posI;omega
theorem clamped_any(x y a b:Int)(w:World):Calls prog 89 #[rv x y a b] w fun e w'=>e=.returned (rv (posI x) (posI y) (lenI a) (lenI b))∧w'=((w.alloc (.cells #[Iq x,Iq y,Iq a,Iq b] 56)).alloc (.cells #[Iq (posI x),Iq (posI y),Iq (lenI a),Iq (lenI b)] 56)).drew:=by have P:=qH<|position_any;have G:=qH<|length_any;unfold rv;go_enter func89,ntmps89;go_wp2_with fail;obtain⟨px,hpx⟩:=nmd (posI x);obtain⟨py,hpy⟩:=nmd (posI y);obtain⟨la,hla⟩:=nmd (lenI a);obtain⟨lb,hlb⟩:=nmd (lenI b);have P1:=P x;have P2:=P y;have G1:=G a;have G2:=G b;rw[hpx]at P1;rw[hpy]at P2;rw[hla]at G1;rw[hlb]at G2;go_region_held(fun W=>W.cell? ⟨w.heap.size,0,none⟩=some (Iq x)∧W.cell? ⟨w.heap.size,1,none⟩=some (Iq y)∧W.cell? ⟨w.heap.size,2,none⟩=some (Iq a)∧W.cell? ⟨w.heap.size,3,none⟩=some (Iq b)) (go_keep) (first|(go_at_call 141;first|(refine(P1 _).mono ?_;rintro e w2 ⟨rfl,rfl⟩)|(refine(P2 _).mono ?_;rintro e w2 ⟨rfl,rfl⟩))|(go_at_call 50;first|(refine(G1 _).mono ?_;rintro e w2 ⟨rfl,rfl⟩)|(refine(G2 _).mono ?_;rintro e w2 ⟨rfl,rfl⟩)));go_wp2;refine bodyPost_ret (v:=rv px py la lb) (by simp[results,Tryz.results89,go_sem,rv]) rfl ?_;subst hpx hpy hla hlb;exact⟨rfl,rfl⟩
end
section
open Go.RowKit Go.Sort Go.Proofs.Tryz
def R4(T:TypeId)(W:World)(b:Nat)(x y a c:Int):Prop:=W.heap[b]?=some (.cells #[Iq x,Iq y,Iq a,Iq c] T (0,0))
section
variable{T:TypeId} {W W':World} {b k o:Nat} {x y a c:Int}
theorem R4.lt(h:R4 T W b x y a c):b<W.heap.size:=(Array.getElem?_eq_some_iff.1 h).1
theorem R4.c0(h:R4 T W b x y a c):W.cell? ⟨b,0,none⟩=some (Iq x):=by unfold R4 at h;simp[World.cell?,h]
theorem R4.c1(h:R4 T W b x y a c):W.cell? ⟨b,1,none⟩=some (Iq y):=by unfold R4 at h;simp[World.cell?,h]
theorem R4.c2(h:R4 T W b x y a c):W.cell? ⟨b,2,none⟩=some (Iq a):=by unfold R4 at h;simp[World.cell?,h]
theorem R4.c3(h:R4 T W b x y a c):W.cell? ⟨b,3,none⟩=some (Iq c):=by unfold R4 at h;simp[World.cell?,h]
theorem R4.fz(h:R4 T W b x y a c)(j:Nat):W.frozen? ⟨b,j,none⟩=false:=frozen_of_row _ _ _ _ _ h
theorem R4.gr(h:R4 T W b x y a c)(g:Gr W W'):R4 T W' b x y a c:=(g.block h.lt).trans h
theorem R4.new(W:World)(x y a c:Int)(T:TypeId):R4 T (W.alloc (.cells #[Iq x,Iq y,Iq a,Iq c] T)) W.heap.size x y a c:=heap_alloc_new _ _
theorem R4.other(h:R4 T W b x y a c)(hk:b≠k)(v:Value):R4 T (W.setCell ⟨k,o,none⟩ v) b x y a c:=(Below.heap_setCell W ⟨k,o,none⟩ v b hk).trans h
theorem R4.set(h:R4 T W b x y a c)(x' y' a' c':Int):R4 T ((((W.setCell ⟨b,0,none⟩ (Iq x')).setCell ⟨b,1,none⟩ (Iq y')).setCell ⟨b,2,none⟩ (Iq a')).setCell ⟨b,3,none⟩ (Iq c')) b x' y' a' c':=
 heap_setCell_same _ b 3 _ T _ (heap_setCell_same _ b 2 _ T _ (heap_setCell_same _ b 1 _ T _ (heap_setCell_same _ b 0 _ T _ h)))
theorem R4.others(h:R4 T W b x y a c)(hk:b≠k)(v0 v1 v2 v3:Value):R4 T ((((W.setCell ⟨k,0,none⟩ v0).setCell ⟨k,1,none⟩ v1).setCell ⟨k,2,none⟩ v2).setCell ⟨k,3,none⟩ v3) b x y a c:=(((h.other hk v0).other hk v1).other hk v2).other hk v3
theorem Gr.set4(h:Gr W W')(hk:W.heap.size≤k)(v0 v1 v2 v3:Value):Gr W ((((W'.setCell ⟨k,0,none⟩ v0).setCell ⟨k,1,none⟩ v1).setCell ⟨k,2,none⟩ v2).setCell ⟨k,3,none⟩ v3):=(((h.set hk v0).set hk v1).set hk v2).set hk v3
end
theorem clamped_gr(x y a b:Int)(w:World):Calls prog 89 #[rv x y a b] w fun e w'=>e=.returned (rv (posI x) (posI y) (lenI a) (lenI b))∧Gr w w':=
 (clamped_any x y a b w).mono fun e w' ⟨he,hw⟩=>⟨he,by rw[hw];exact(((Gr.refl w).alloc _).alloc _).drew⟩
def capL(ax aw bx bw:Int):Int:=max (posI ax) (posI bx)
def capR(ax aw bx bw:Int):Int:=min (posI ax+lenI aw) (posI bx+lenI bw)
def capV(ax ay aw ah bx by_ bw bh:Int):Value:=if capL ax aw bx bw≥capR ax aw bx bw∨capL ay ah by_ bh≥capR ay ah by_ bh then rv 0 0 0 0 else rv (capL ax aw bx bw) (capL ay ah by_ bh) (capR ax aw bx bw-capL ax aw bx bw) (capR ay ah by_ bh-capL ay ah by_ bh)
theorem cap_any(ax ay aw ah bx by_ bw bh:Int)(w:World):Calls prog 54 #[rv ax ay aw ah,rv bx by_ bw bh] w fun e w'=>e=.returned (capV ax ay aw ah bx by_ bw bh)∧Gr w w':=by
 have CC:=qH<|clamped_gr;unfold rv at CC⊢;go_enter func54,ntmps54;go_wp2_with fail;obtain⟨A,hA⟩:=nmd w.heap.size;obtain⟨W0,hW0⟩:=nmd (((w.alloc (.cells #[Iq ax,Iq ay,Iq aw,Iq ah] 56)).alloc (.cells #[Iq bx,Iq by_,Iq bw,Iq bh] 56)).alloc (.cells #[Iq 0,Iq 0,Iq 0,Iq 0] 56));have G0:Hid (Gr w W0):=by rw[<-hW0];exact(((Gr.refl w).alloc _).alloc _).alloc _
 have RA:Hid (R4 56 W0 A ax ay aw ah):=by rw[<-hW0,<-hA];exact(R4.new w _ _ _ _ _).gr (((Gr.refl _).alloc _).alloc _)
 have RB:Hid (R4 56 W0 (A+1) bx by_ bw bh):=by have:=R4.new (w.alloc (.cells #[Iq ax,Iq ay,Iq aw,Iq ah] 56)) bx by_ bw bh 56;simp only[World.size_alloc,hA]at this;rw[<-hW0];exact this.gr ((Gr.refl _).alloc _)
 have RC:Hid (R4 56 W0 (A+1+1) 0 0 0 0):=by have:=R4.new ((w.alloc (.cells #[Iq ax,Iq ay,Iq aw,Iq ah] 56)).alloc (.cells #[Iq bx,Iq by_,Iq bw,Iq bh] 56)) 0 0 0 0 56;simp only[World.size_alloc,hA]at this;rw[<-hW0];exact this
 rw[hW0,hA];clear hW0;have HA:=qH<|hA;clear hA;have a0:=RA.c0;have a1:=RA.c1;have a2:=RA.c2;have a3:=RA.c3;have b0:=RB.c0;have b1:=RB.c1;have b2:=RB.c2;have b3:=RB.c3;obtain⟨px,hpx⟩:=nmd (posI ax);obtain⟨py,hpy⟩:=nmd (posI ay);obtain⟨pa,hpa⟩:=nmd (lenI aw);obtain⟨pb,hpb⟩:=nmd (lenI ah);obtain⟨qx,hqx⟩:=nmd (posI bx);obtain⟨qy,hqy⟩:=nmd (posI by_);obtain⟨qa,hqa⟩:=nmd (lenI bw);obtain⟨qb,hqb⟩:=nmd (lenI bh);go_cut[2,3,4]from 9 to 12 (fun u v t wx=>u=Pq A∧v=Pq (A+1)∧t=Pq (A+1+1)∧Hid (R4 56 wx A px py pa pb∧R4 56 wx (A+1) qx qy qa qb∧R4 56 wx (A+1+1) 0 0 0 0∧Gr w wx));case first=>
  go_region_with(go_at_call 89;refine(CC _ _ _ _ _).mono ?_;rintro e wn ⟨rfl,hgn⟩;have HGn:=qH<|(by first|exact((Gr.refl W0).drew).trans hgn|exact Gr.trans (Hid.out (by assumption)) hgn);have HAn:=qH<|RA.gr HGn;have HBn:=qH<|RB.gr HGn;clear hgn;have m0:=HAn.c0;have m1:=HAn.c1;have m2:=HAn.c2;have m3:=HAn.c3;have n0:=HBn.c0;have n1:=HBn.c1;have n2:=HBn.c2;have n3:=HBn.c3;have f0:=HAn.fz 0;have f1:=HAn.fz 1;have f2:=HAn.fz 2;have f3:=HAn.fz 3;have g0:=HBn.fz 0;have g1:=HBn.fz 1;have g2:=HBn.fz 2;have g3:=HBn.fz 3);all_goals
   have HO:Hid (R4 56 ((((((((wn.setCell ⟨A,0,none⟩ (Iq px)).setCell ⟨A,1,none⟩ (Iq py)).setCell ⟨A,2,none⟩ (Iq pa)).setCell ⟨A,3,none⟩ (Iq pb)).setCell ⟨A+1,0,none⟩ (Iq qx)).setCell ⟨A+1,1,none⟩ (Iq qy)).setCell ⟨A+1,2,none⟩ (Iq qa)).setCell ⟨A+1,3,none⟩ (Iq qb)) A px py pa pb∧R4 56 ((((((((wn.setCell ⟨A,0,none⟩ (Iq px)).setCell ⟨A,1,none⟩ (Iq py)).setCell ⟨A,2,none⟩ (Iq pa)).setCell ⟨A,3,none⟩ (Iq pb)).setCell ⟨A+1,0,none⟩ (Iq qx)).setCell ⟨A+1,1,none⟩ (Iq qy)).setCell ⟨A+1,2,none⟩ (Iq qa)).setCell ⟨A+1,3,none⟩ (Iq qb)) (A+1) qx qy qa qb∧R4 56 ((((((((wn.setCell ⟨A,0,none⟩ (Iq px)).setCell ⟨A,1,none⟩ (Iq py)).setCell ⟨A,2,none⟩ (Iq pa)).setCell ⟨A,3,none⟩ (Iq pb)).setCell ⟨A+1,0,none⟩ (Iq qx)).setCell ⟨A+1,1,none⟩ (Iq qy)).setCell ⟨A+1,2,none⟩ (Iq qa)).setCell ⟨A+1,3,none⟩ (Iq qb)) (A+1+1) 0 0 0 0∧Gr w ((((((((wn.setCell ⟨A,0,none⟩ (Iq px)).setCell ⟨A,1,none⟩ (Iq py)).setCell ⟨A,2,none⟩ (Iq pa)).setCell ⟨A,3,none⟩ (Iq pb)).setCell ⟨A+1,0,none⟩ (Iq qx)).setCell ⟨A+1,1,none⟩ (Iq qy)).setCell ⟨A+1,2,none⟩ (Iq qa)).setCell ⟨A+1,3,none⟩ (Iq qb))):=
    ⟨(HAn.set px py pa pb).others (by omega) _ _ _ _,(HBn.others (by omega) _ _ _ _).set qx qy qa qb,((RC.gr HGn).others (by omega) _ _ _ _).others (by omega) _ _ _ _,((G0.trans HGn).set4 (by rw[HA.out];omega) _ _ _ _).set4 (by rw[HA.out];omega) _ _ _ _⟩;clear m0 m1 m2 m3 n0 n1 n2 n3 f0 f1 f2 f3 g0 g1 g2 g3 a0 a1 a2 a3 b0 b1 b2 b3 HAn HBn;go_wp2_with fail;go_meet;exact⟨rfl,rfl,rfl,HO⟩
 case rest=>
  obtain⟨rfl,rfl,rfl,HO⟩:=hcut;clear a0 a1 a2 a3 b0 b1 b2 b3 RA RB RC;have a0:=HO.1.c0;have a1:=HO.1.c1;have a2:=HO.1.c2;have a3:=HO.1.c3;have b0:=HO.2.1.c0;have b1:=HO.2.1.c1;have b2:=HO.2.1.c2;have b3:=HO.2.1.c3;have bpx:=posI_bd ax;have bpy:=posI_bd ay;have bpa:=lenI_bd aw;have bpb:=lenI_bd ah;have bqx:=posI_bd bx;have bqy:=posI_bd by_;have bqa:=lenI_bd bw;have bqb:=lenI_bd bh;rw[hpx]at bpx;rw[hpy]at bpy;rw[hpa]at bpa;rw[hpb]at bpb;rw[hqx]at bqx;rw[hqy]at bqy;rw[hqa]at bqa;rw[hqb]at bqb;go_wp2_with fail;go_cut[5,6]from 13 to 28 (fun u v wx=>u=Iq (max px qx)∧v=Iq (min (px+pa) (qx+qa))∧∃q,wx=wc.drewN q);case first=>by_cases h1:px<qx;iterate 2 ·by_cases h2:px+pa≤qx+qa;iterate 2 ·go_quiet(fail);go_wp2_with fail;go_meet;exact⟨congrArg (Value.int .i64) (by omega),congrArg (Value.int .i64) (by omega),_,rfl⟩
  case rest=>
   obtain⟨rfl,rfl,q1,rfl⟩:=hcut;go_wp2_with fail;go_cut[7,8]from 29 to 44 (fun u v wx=>u=Iq (max py qy)∧v=Iq (min (py+pb) (qy+qb))∧∃q,wx=wc.drewN q);case first=>by_cases h1:py<qy;iterate 2 ·by_cases h2:py+pb≤qy+qb;iterate 2 ·go_quiet(fail);go_wp2_with fail;go_meet;exact⟨congrArg (Value.int .i64) (by omega),congrArg (Value.int .i64) (by omega),q1+nq,by first|rfl|exact World.drewN_drewN _ _ _⟩
   case rest=>
    obtain⟨rfl,rfl,q2,rfl⟩:=hcut;obtain⟨W1,hW1⟩:=nmd (wc.drewN q2);have G1:Hid (Gr wc W1):=by rw[<-hW1];exact(Gr.refl _).drewN _
    rw[hW1];have R1:=qH<|HO.2.2.1.gr G1;have GG:=qH<|HO.2.2.2.trans G1;clear hW1 a0 a1 a2 a3 b0 b1 b2 b3 HO;have c0:=R1.c0;have c1:=R1.c1;have c2:=R1.c2;have c3:=R1.c3;have f0:=R1.fz 0;have f1:=R1.fz 1;have f2:=R1.fz 2;have f3:=R1.fz 3;obtain⟨l,hl⟩:=nmd (max px qx);obtain⟨r,hr⟩:=nmd (min (px+pa) (qx+qa));obtain⟨t,ht⟩:=nmd (max py qy);obtain⟨d,hd⟩:=nmd (min (py+pb) (qy+qb));have HV:Hid (capV ax ay aw ah bx by_ bw bh=if l≥r∨t≥d then rv 0 0 0 0 else rv l t (r-l) (d-t)):=by show _=_;unfold capV capL capR;rw[hpx,hpy,hpa,hpb,hqx,hqy,hqa,hqb,hl,hr,ht,hd]
    have bl:-100000≤l∧l≤100000:=by omega
    have br:-100000≤r∧r≤200000:=by omega
    have bt:-100000≤t∧t≤100000:=by omega
    have bd:-100000≤d∧d≤200000:=by omega
    rw[hl,hr,ht,hd];clear hpx hpy hpa hpb hqx hqy hqa hqb hl hr ht hd bpx bpy bpa bpb bqx bqy bqa bqb;by_cases h1:r≤l;·have e1:=decide_eq_true h1;go_wp2;refine bodyPost_ret (results_cell_row rfl _ _ (A+1+1) _ _ _ _ rfl (R1.set 0 0 0 0) underlying56 rfl (by kernel_rfl)) rfl ?_;exact⟨by rw[HV.out,if_pos (.inl h1)];rfl,GG.set4 (by rw[HA.out];omega) _ _ _ _⟩
    ·have e1:=decide_eq_false h1;by_cases h2:d≤t;·have e2:=decide_eq_true h2;go_wp2;refine bodyPost_ret (results_cell_row rfl _ _ (A+1+1) _ _ _ _ rfl (R1.set 0 0 0 0) underlying56 rfl (by kernel_rfl)) rfl ?_;exact⟨by rw[HV.out,if_pos (.inr h2)];rfl,GG.set4 (by rw[HA.out];omega) _ _ _ _⟩
     ·have e2:=decide_eq_false h2;go_wp2;refine bodyPost_ret (results_cell_row rfl _ _ (A+1+1) _ _ _ _ rfl (R1.set l t (r-l) (d-t)) underlying56 rfl (by kernel_rfl)) rfl ?_;exact⟨by rw[HV.out,if_neg (by omega)];rfl,GG.set4 (by rw[HA.out];omega) _ _ _ _⟩
end
section
theorem posI_id{n:Int}(h:-100000≤n∧n≤100000):posI n=n:=by unfold posI;omega
theorem lenI_id{n:Int}(h:0≤n∧n≤100000):lenI n=n:=by unfold lenI;omega
theorem rv_inj{a b c d a' b' c' d':Int}(h:rv a b c d=rv a' b' c' d'):a=a'∧b=b'∧c=c'∧d=d':=by unfold rv at h;simpa using h
end
section
structure Ce where
 t:ByteArray
 f:Int
 g:Int
 b:Int
 p:Int
def spc:ByteArray:=⟨#[32]⟩
def ept:ByteArray:=⟨#[]⟩
def bl(c:Ce):Ce:=⟨spc,c.f,c.g,c.b,0⟩
def bk(f g b:Int):Ce:=⟨spc,f,g,b,0⟩
theorem bl_p(c:Ce):(bl c).p=0:=rfl
def span(r:Nat->Ce)(a z:Nat)(x:Nat->Ce):Nat->Ce:=fun j=>
 if a≤j∧j<z then x j
 else if a<z∧j+1=a∧(r a).p=2 then bl (r j)
 else if a<z∧j=z∧(r (z-1)).p=1 then bl (r j)
 else r j
theorem span_in{r:Nat->Ce}{a z:Nat}{x:Nat->Ce}{j:Nat}(h:a≤j∧j<z):span r a z x j=x j:=if_pos h
theorem span_none{r:Nat->Ce}{a z:Nat}{x:Nat->Ce}(h:¬a<z):span r a z x=r:=by funext j;unfold span;rw[if_neg (by omega),if_neg (fun q=>h q.1),if_neg (fun q=>h q.1)]
theorem span_out{r:Nat->Ce}{a z:Nat}{x:Nat->Ce}{j:Nat}(h:¬(a≤j∧j<z)):
 (span r a z x j=r j∧¬(a<z∧j+1=a∧(r a).p=2)∧¬(a<z∧j=z∧(r (z-1)).p=1))∨(span r a z x j=bl (r j)∧((a<z∧j+1=a∧(r a).p=2)∨(a<z∧j=z∧(r (z-1)).p=1))):=by
 unfold span;rw[if_neg h];by_cases h1:a<z∧j+1=a∧(r a).p=2;·right;rw[if_pos h1];exact⟨rfl,.inl h1⟩
 ·rw[if_neg h1];by_cases h2:a<z∧j=z∧(r (z-1)).p=1;·right;rw[if_pos h2];exact⟨rfl,.inr h2⟩
  ·left;rw[if_neg h2];exact⟨rfl,h1,h2⟩
structure PRow(W:Nat)(r:Nat->Ce):Prop where
 part:∀i,i<W->(r i).p=0∨(r i).p=1∨(r i).p=2
 head:∀i,i<W->(r i).p=1->i+1<W∧(r (i+1)).p=2∧(r (i+1)).f=(r i).f∧(r (i+1)).g=(r i).g∧(r (i+1)).b=(r i).b
 tail:∀i,i<W->(r i).p=2->∃k,i=k+1∧(r k).p=1∧(r i).t=ept
section
variable{W a z:Nat} {r x:Nat->Ce}
theorem PRow.beside(h:PRow W r)(zW:z≤W){i:Nat}(hi:i<W)(ho:¬(a≤i∧i<z)):
 ((span r a z x i).p=0∨(span r a z x i).p=1∨(span r a z x i).p=2)
 ∧((span r a z x i).p=1->span r a z x i=r i∧span r a z x (i+1)=r (i+1)∧(r i).p=1)
 ∧((span r a z x i).p=2->span r a z x i=r i∧(r i).p=2∧∃k,i=k+1∧span r a z x k=r k):=by
 rcases span_out (r:=r) (x:=x) ho with⟨e,n1,n2⟩|⟨e,hh⟩
 ·rw[e];refine⟨h.part i hi,fun hp=>⟨rfl,?_,hp⟩,fun hp=>⟨rfl,hp,?_⟩⟩
  ·obtain⟨h1,h2,_⟩:=h.head i hi hp;by_cases hin:a≤i+1∧i+1<z
   ·exfalso;have:i+1=a:=by omega
    subst this;exact n1 ⟨by omega,rfl,h2⟩
   ·rcases span_out (r:=r) (x:=x) hin with⟨e2,_⟩|⟨e2,h3|h3⟩;·exact e2
    ·exfalso;obtain⟨k,hk,hk1,_⟩:=h.tail a (by omega) h3.2.2;have:k=i+1:=by omega
     subst this;rw[h2]at hk1;omega
    ·exfalso;omega
  ·obtain⟨k,hk,hk1,_⟩:=h.tail i hi hp;refine⟨k,hk,?_⟩;by_cases hin:a≤k∧k<z
   ·exfalso;have:i=z:=by omega
    subst this;refine n2 ⟨by omega,rfl,?_⟩;rw[hk,show k+1-1=k by omega];exact hk1
   ·rcases span_out (r:=r) (x:=x) hin with⟨e2,_⟩|⟨e2,h3|h3⟩;·exact e2
    ·exfalso;omega
    ·exfalso;obtain⟨q1,q2,_⟩:=h.head (z-1) (by omega) h3.2.2;have:z-1+1=k:=by omega
     rw[this,hk1]at q2;omega
 ·rw[e];refine⟨.inl rfl,fun hp=>?_,fun hp=>?_⟩<;>(rw[bl_p]at hp;omega)
theorem PRow.span0(h:PRow W r)(zW:z≤W)(hx:∀j,a≤j->j<z->(x j).p=0):PRow W (span r a z x):=by
 refine⟨fun i hi=>?_,fun i hi hp=>?_,fun i hi hp=>?_⟩<;>by_cases hin:a≤i∧i<z;·rw[span_in hin];exact .inl (hx i hin.1 hin.2)
 ·exact(h.beside zW hi hin).1
 ·rw[span_in hin,hx i hin.1 hin.2]at hp;omega
 ·obtain⟨e1,e2,e3⟩:=(h.beside zW hi hin).2.1 hp;rw[e1,e2];exact h.head i hi e3
 ·rw[span_in hin,hx i hin.1 hin.2]at hp;omega
 ·obtain⟨e1,e2,k,hk,e3⟩:=(h.beside zW hi hin).2.2 hp;obtain⟨k',hk',h1,h2⟩:=h.tail i hi e2;obtain rfl:k=k':=by omega
  exact⟨k,hk,by rw[e3];exact h1,by rw[e1];exact h2⟩
theorem PRow.span2(h:PRow W r)(zW:a+2≤W)(h1:(x a).p=1)(h2:(x (a+1)).p=2)(hf:(x (a+1)).f=(x a).f)(hg:(x (a+1)).g=(x a).g)(hb:(x (a+1)).b=(x a).b)(ht:(x (a+1)).t=ept):PRow W (span r a (a+2) x):=by
 have e0:span r a (a+2) x a=x a:=span_in (by omega);have e1:span r a (a+2) x (a+1)=x (a+1):=span_in (by omega);refine⟨fun i hi=>?_,fun i hi hp=>?_,fun i hi hp=>?_⟩<;>by_cases hin:a≤i∧i<a+2
 ·rcases(by omega:i=a∨i=a+1)with rfl|rfl;·rw[e0];exact .inr (.inl h1)
  ·rw[e1];exact .inr (.inr h2)
 ·exact(h.beside zW hi hin).1
 ·rcases(by omega:i=a∨i=a+1)with rfl|rfl;·rw[e0,e1];exact⟨by omega,h2,hf,hg,hb⟩
  ·rw[e1,h2]at hp;omega
 ·obtain⟨q1,q2,q3⟩:=(h.beside zW hi hin).2.1 hp;rw[q1,q2];exact h.head i hi q3
 ·rcases(by omega:i=a∨i=a+1)with rfl|rfl;·rw[e0,h1]at hp;omega
  ·exact⟨a,rfl,by rw[e0];exact h1,by rw[e1];exact ht⟩
 ·obtain⟨q1,q2,k,hk,q3⟩:=(h.beside zW hi hin).2.2 hp;obtain⟨k',hk',r1,r2⟩:=h.tail i hi q2;obtain rfl:k=k':=by omega
  exact⟨k,hk,by rw[q3];exact r1,by rw[q1];exact r2⟩
theorem PRow.next(h:PRow W r){m:Nat}(am:a≤m)(mW:m<W)(hx:∀j,(x j).p=0):span (span r a m x) m (m+1) x=span r a (m+1) x:=by
 by_cases e:a=m;·subst e;rw[span_none (r:=r) (a:=a) (z:=a) (by omega)]
 have am':a<m:=by omega
 -- the cell at m,as it is before
 have hm:(span r a m x m).p≠2∧((span r a m x m).p=1↔(r m).p=1):=by
  rcases span_out (r:=r) (a:=a) (z:=m) (x:=x) (j:=m) (by omega)with⟨e1,_,n2⟩|⟨e1,h3|h3⟩;·rw[e1];refine⟨fun h2=>?_,Iff.rfl⟩;obtain⟨k,hk,hk1,_⟩:=h.tail m mW h2;exact n2 ⟨am',rfl,by rw[hk,show k+1-1=k by omega];exact hk1⟩
  ·omega
  ·rw[e1,bl_p];refine⟨by omega,fun q=>by omega,fun q=>?_⟩;obtain⟨_,q2,_⟩:=h.head (m-1) (by omega) h3.2.2;rw[show m-1+1=m by omega]at q2;omega
 funext j;by_cases h1:a≤j∧j<m+1
 ·rw[span_in (r:=r) h1];by_cases h2:j=m;·rw[span_in (by omega)]
  ·unfold span;rw[if_neg (by omega),if_neg,if_neg (by omega),if_pos (by omega)];rintro⟨_,_,q⟩;exact hm.1 q
 ·unfold span;rw[if_neg (by omega),if_neg (by omega),if_neg h1];by_cases h2:j=m+1
  ·subst h2;have c1:(m+1-1)=m:=by omega
   rw[c1];have e0:span r a m x (m+1)=r (m+1):=by unfold span;rw[if_neg (by omega),if_neg (by omega),if_neg (by omega)]
   change(if m<m+1∧m+1=m+1∧(span r a m x m).p=1 then bl (span r a m x (m+1))else span r a m x (m+1))=_;rw[e0,if_neg (c:=a<m+1∧m+1+1=a∧(r a).p=2) (by omega)];by_cases h3:(r m).p=1;·rw[if_pos ⟨by omega,rfl,hm.2.2 h3⟩,if_pos ⟨by omega,rfl,h3⟩]
   ·rw[if_neg (fun q=>h3 (hm.2.1 q.2.2)),if_neg (fun q=>h3 q.2.2)]
  ·rw[if_neg (by omega),if_neg (by omega)];by_cases h3:j+1=a∧(r a).p=2;·rw[if_pos ⟨am',h3⟩,if_pos ⟨by omega,h3⟩]
   ·rw[if_neg (c:=a<m∧j+1=a∧(r a).p=2) (fun q=>h3 q.2),if_neg (c:=a<m+1∧j+1=a∧(r a).p=2) (fun q=>h3 q.2),if_neg (by omega),if_neg (by omega)]
end
def fill(c:Nat->Nat->Ce)(l r t d:Nat)(x:Nat->Ce):Nat->Nat->Ce:=fun y=>if t≤y∧y<d then span (c y) l r x else c y
def PAll(W H:Nat)(c:Nat->Nat->Ce):Prop:=∀y,y<H->PRow W (c y)
section
variable{W H l r t d:Nat} {c:Nat->Nat->Ce} {x:Nat->Ce}
theorem fill_none(h:¬(l<r∧t<d)):fill c l r t d x=c:=by
 funext y;unfold fill;split;·rw[span_none (by omega)]
 ·rfl
theorem PAll.fill0(h:PAll W H c)(hr:r≤W)(hx:∀j,(x j).p=0):PAll W H (fill c l r t d x):=by
 intro y hy;unfold fill;split;·exact(h y hy).span0 hr (fun j _ _=>hx j)
 ·exact h y hy
theorem PAll.fill2(h:PAll W H c)(zW:l+2≤W)(h1:(x l).p=1)(h2:(x (l+1)).p=2)(hf:(x (l+1)).f=(x l).f)(hg:(x (l+1)).g=(x l).g)(hb:(x (l+1)).b=(x l).b)(ht:(x (l+1)).t=ept):PAll W H (fill c l (l+2) t d x):=by
 intro y hy;unfold fill;split;·exact(h y hy).span2 zW h1 h2 hf hg hb ht
 ·exact h y hy
theorem fill_next(htd:t≤d):fill (fill c l r t d x) l r d (d+1) x=fill c l r t (d+1) x:=by
 funext y;unfold fill;by_cases h:y=d;·subst h;rw[if_pos (by omega),if_neg (by omega),if_pos (by omega)]
 ·rw[if_neg (by omega)];by_cases h2:t≤y∧y<d;·rw[if_pos h2,if_pos (by omega)]
  ·rw[if_neg h2,if_neg (by omega)]
theorem fill_out(h:PAll W H c)(hr:r≤W){y j:Nat}(hy:y<H)(hj:j<W)(ho:¬(t≤y∧y<d∧l≤j∧j<r)):fill c l r t d x y j=c y j∨(fill c l r t d x y j=bl (c y j)∧(c y j).p≠0):=by
 unfold fill;by_cases h1:t≤y∧y<d
 ·rw[if_pos h1];rcases span_out (r:=c y) (a:=l) (z:=r) (x:=x) (j:=j) (by omega)with⟨e,_⟩|⟨e,hh|hh⟩;·exact .inl e
  ·refine .inr ⟨e,?_⟩;obtain⟨k,hk,hk1,_⟩:=(h y hy).tail l (by omega) hh.2.2;have:k=j:=by omega
   rw[<-this,hk1];omega
  ·refine .inr ⟨e,?_⟩;obtain⟨_,q,_⟩:=(h y hy).head (r-1) (by omega) hh.2.2;rw[show r-1+1=j by omega]at q;rw[q];omega
 ·rw[if_neg h1];exact .inl rfl
end
end
section
open Go.RowKit
structure Chm(M:Nat)(W W':World):Prop where
 os:W'.os=W.os
 tape:W'.tape=W.tape
 output:W'.output=W.output
 size:W.heap.size≤W'.heap.size
 block:∀b,b<W.heap.size->b≠M->W'.heap[b]?=W.heap[b]?
section
variable{M:Nat} {W W' W2:World}
theorem Chm.refl(M:Nat)(W:World):Chm M W W:=⟨rfl,rfl,rfl,Nat.le_refl _,fun _ _ _=>rfl⟩
theorem Chm.trans(h:Chm M W W')(k:Chm M W' W2):Chm M W W2:=
 ⟨k.os.trans h.os,k.tape.trans h.tape,k.output.trans h.output,Nat.le_trans h.size k.size,fun b h1 h2=>(k.block b (Nat.lt_of_lt_of_le h1 h.size) h2).trans (h.block b h1 h2)⟩
theorem Chm.below(h:Below W.heap.size W W'):Chm M W W':=⟨h.os,h.tape,h.output,h.size,fun b h1 _=>h.block b h1⟩
theorem Chm.gr(h:Gr W W'):Chm M W W':=Chm.below h.below
theorem Chm.thenGr(h:Chm M W W')(k:Gr W' W2):Chm M W W2:=h.trans (Chm.gr k)
theorem Chm.set(h:Chm M W W'){k:Nat}(hk:k=M∨W.heap.size≤k)(o:Nat)(v:Value):Chm M W (W'.setCell ⟨k,o,none⟩ v):=
 ⟨h.os,h.tape,h.output,by simpa[World.setCell]using h.size,fun b h1 h2=>(Below.heap_setCell W' ⟨k,o,none⟩ v b (by show b≠k;omega)).trans (h.block b h1 h2)⟩
theorem Chm.low(h:Chm M W W'){B:Nat}(hM:B≤M)(hB:B≤W.heap.size){W0:World}(k:Below B W0 W):Below B W0 W':=
 ⟨h.os.trans k.os,h.tape.trans k.tape,h.output.trans k.output,Nat.le_trans k.size h.size,fun b hb=>(h.block b (by omega) (by omega)).trans (k.block b hb)⟩
end
def c5(e:Ce):List Value:=[.string e.t,Iq e.f,Iq e.g,Iq e.b,Iq e.p]
theorem c5_len(e:Ce):(c5 e).length=5:=rfl
structure Cv(T:TypeId)(Q:World)(M W H:Nat)(c:Nat->Nat->Ce):Prop where
 arr:∃a,Q.heap[M]?=some (.cells a T (0,0))
 cell:∀y x,y<H->x<W->∀(k:Nat) u,(c5 (c y x))[k]?=some u->Q.cell? ⟨M,y*W*5+x*5+k,none⟩=some u
def cupd(c:Nat->Nat->Ce)(y x:Nat)(e:Ce):Nat->Nat->Ce:=fun y' x'=>if y'=y∧x'=x then e else c y' x'
theorem idx_inj{W y x y' x':Nat}(hx:x<W)(hx':x'<W)(h:y*W+x=y'*W+x'):y=y'∧x=x':=by
 have h1:(y*W+x)/W=y:=by rw[Nat.mul_comm,Nat.mul_add_div (by omega),Nat.div_eq_of_lt hx,Nat.add_zero]
 have h2:(y'*W+x')/W=y':=by rw[Nat.mul_comm,Nat.mul_add_div (by omega),Nat.div_eq_of_lt hx',Nat.add_zero]
 have:y=y':=by rw[<-h1,<-h2,h]
 subst this;exact⟨rfl,by omega⟩
theorem off_inj{W y x k y' x' k':Nat}(hx:x<W)(hx':x'<W)(hk:k<5)(hk':k'<5)(h:y*W*5+x*5+k=y'*W*5+x'*5+k'):y=y'∧x=x'∧k=k':=by
 generalize hp:y*W=p at*;generalize hq:y'*W=q at*;have h1:p+x=q+x'∧k=k':=by omega
 have:=idx_inj (y:=y) (y':=y') hx hx' (by rw[hp,hq];exact h1.1);exact⟨this.1,this.2,h1.2⟩
section
variable{T:TypeId} {Q Q':World} {M W H:Nat} {c c':Nat->Nat->Ce}
theorem Cv.lt(h:Cv T Q M W H c):M<Q.heap.size:=by obtain⟨a,ha⟩:=h.arr;exact(Array.getElem?_eq_some_iff.1 ha).1
theorem Cv.fz(h:Cv T Q M W H c)(j:Nat):Q.frozen? ⟨M,j,none⟩=false:=by obtain⟨a,ha⟩:=h.arr;exact frozen_of_row _ _ _ _ _ ha
theorem Cv.keep(h:Cv T Q M W H c)(hb:Q'.heap[M]?=Q.heap[M]?):Cv T Q' M W H c:=by obtain⟨a,ha⟩:=h.arr;exact⟨⟨a,hb.trans ha⟩,fun y x hy hx k u hu=>(World.cell?_of_block (a:=⟨M,_,none⟩) hb).trans (h.cell y x hy hx k u hu)⟩
theorem Cv.gr(h:Cv T Q M W H c)(g:Gr Q Q'):Cv T Q' M W H c:=h.keep (g.block h.lt)
theorem Cv.ch{N:Nat}(h:Cv T Q M W H c)(g:Chm N Q Q')(hN:M≠N):Cv T Q' M W H c:=h.keep (g.block M h.lt hN)
theorem Cv.other{k:Nat}(h:Cv T Q M W H c)(hk:M≠k)(o:Nat)(v:Value):Cv T (Q.setCell ⟨k,o,none⟩ v) M W H c:=h.keep (Below.heap_setCell Q ⟨k,o,none⟩ v M hk)
theorem Cv.same(h:Cv T Q M W H c)(hc:∀y x,y<H->x<W->c y x=c' y x):Cv T Q M W H c':=
 ⟨h.arr,fun y x hy hx k u hu=>h.cell y x hy hx k u (by rw[hc y x hy hx];exact hu)⟩
theorem Cv.set1(h:Cv T Q M W H c){y x k:Nat}(hy:y<H)(hx:x<W)(hk:k<5)(v:Value)(hc:∀y' x',c' y' x'=if y'=y∧x'=x then c' y x else c y' x')(he:c5 (c' y x)=(c5 (c y x)).set k v):
 Cv T (Q.setCell ⟨M,y*W*5+x*5+k,none⟩ v) M W H c':=by
 obtain⟨a,ha⟩:=h.arr;refine⟨⟨_,heap_setCell_same _ M _ _ _ _ ha⟩,fun y' x' hy' hx' k' u hu=>?_⟩;have hk':k'<5:=(List.getElem?_eq_some_iff.1 hu).1;have old:=h.cell y x hy hx k _ (List.getElem?_eq_getElem (show k<(c5 (c y x)).length from hk));by_cases e:y'=y∧x'=x
 ·obtain⟨rfl,rfl⟩:=e;rw[he]at hu;by_cases e2:k'=k;·subst e2;rw[List.getElem?_set_self (show k'<(c5 (c y' x')).length from hk)]at hu;injection hu with hu;subst hu;exact World.cell?_setCell_same _ _ _ old
  ·rw[List.getElem?_set_ne (by omega)]at hu;rw[World.cell?_setCell_other _ _ _ _ (fun q=>by injection q with _ q _;omega)];exact h.cell y' x' hy' hx' k' u hu
 ·rw[hc y' x',if_neg e]at hu;rw[World.cell?_setCell_other _ _ _ _];·exact h.cell y' x' hy' hx' k' u hu
  ·intro q;injection q with _ q _;have:=off_inj hx hx' hk hk' q;exact e ⟨this.1.symm,this.2.1.symm⟩
theorem Cv.set(h:Cv T Q M W H c){y x:Nat}(hy:y<H)(hx:x<W)(e:Ce):
 Cv T (((((Q.setCell ⟨M,y*W*5+x*5,none⟩ (.string e.t)).setCell ⟨M,y*W*5+x*5+1,none⟩ (Iq e.f)).setCell ⟨M,y*W*5+x*5+2,none⟩ (Iq e.g)).setCell ⟨M,y*W*5+x*5+3,none⟩ (Iq e.b)).setCell ⟨M,y*W*5+x*5+4,none⟩ (Iq e.p)) M W H (cupd c y x e):=by
 have u0:∀e,cupd c y x e y x=e:=fun e=>by unfold cupd;rw[if_pos ⟨rfl,rfl⟩]
 have nx:∀e e',∀y' x',cupd c y x e' y' x'=if y'=y∧x'=x then cupd c y x e' y x else cupd c y x e y' x':=fun e e' y' x'=>by rw[u0];unfold cupd;split<;>rfl
 have h0:=h.set1 (c':=cupd c y x {c y x with t:=e.t}) (k:=0) hy hx (by omega) (.string e.t) (fun y' x'=>by rw[u0];rfl) (by rw[u0];rfl);have h1:=h0.set1 (c':=cupd c y x {c y x with t:=e.t,f:=e.f}) (k:=1) hy hx (by omega) (Iq e.f) (nx _ _) (by rw[u0,u0];rfl);have h2:=h1.set1 (c':=cupd c y x {c y x with t:=e.t,f:=e.f,g:=e.g}) (k:=2) hy hx (by omega) (Iq e.g) (nx _ _) (by rw[u0,u0];rfl);have h3:=h2.set1 (c':=cupd c y x {c y x with t:=e.t,f:=e.f,g:=e.g,b:=e.b}) (k:=3) hy hx (by omega) (Iq e.b) (nx _ _) (by rw[u0,u0];rfl);exact h3.set1 (c':=cupd c y x e) (k:=4) hy hx (by omega) (Iq e.p) (nx _ _) (by rw[u0,u0];rfl)
theorem Cv.setPart(h:Cv T Q M W H c){y x:Nat}(hy:y<H)(hx:x<W)(p:Int):
 Cv T (Q.setCell ⟨M,y*W*5+x*5+4,none⟩ (Iq p)) M W H (cupd c y x {c y x with p:=p}):=
 h.set1 (k:=4) hy hx (by omega) _ (fun y' x'=>by unfold cupd;simp) (by unfold cupd;rw[if_pos ⟨rfl,rfl⟩];rfl)
theorem Cv.setText(h:Cv T Q M W H c){y x:Nat}(hy:y<H)(hx:x<W)(s:ByteArray):
 Cv T (Q.setCell ⟨M,y*W*5+x*5+0,none⟩ (.string s)) M W H (cupd c y x {c y x with t:=s}):=
 h.set1 (k:=0) hy hx (by omega) _ (fun y' x'=>by unfold cupd;simp) (by unfold cupd;rw[if_pos ⟨rfl,rfl⟩];rfl)
theorem Cv.c0(h:Cv T Q M W H c){y x:Nat}(hy:y<H)(hx:x<W):Q.cell? ⟨M,y*W*5+x*5,none⟩=some (.string (c y x).t):=h.cell y x hy hx 0 _ rfl
theorem Cv.c1(h:Cv T Q M W H c){y x:Nat}(hy:y<H)(hx:x<W):Q.cell? ⟨M,y*W*5+x*5+1,none⟩=some (Iq (c y x).f):=h.cell y x hy hx 1 _ rfl
theorem Cv.c2(h:Cv T Q M W H c){y x:Nat}(hy:y<H)(hx:x<W):Q.cell? ⟨M,y*W*5+x*5+2,none⟩=some (Iq (c y x).g):=h.cell y x hy hx 2 _ rfl
theorem Cv.c3(h:Cv T Q M W H c){y x:Nat}(hy:y<H)(hx:x<W):Q.cell? ⟨M,y*W*5+x*5+3,none⟩=some (Iq (c y x).b):=h.cell y x hy hx 3 _ rfl
theorem Cv.c4(h:Cv T Q M W H c){y x:Nat}(hy:y<H)(hx:x<W):Q.cell? ⟨M,y*W*5+x*5+4,none⟩=some (Iq (c y x).p):=h.cell y x hy hx 4 _ rfl
end
structure CS(TK T:TypeId)(Q:World)(K M cap W H:Nat)(c:Nat->Nat->Ce):Prop where
 kb:Q.heap[K]?=some (.cells #[Iq W,Iq H,Sq M (W*H) cap] TK (0,0))
 cv:Cv T Q M W H c
 ne:K≠M
 hc:W*H≤cap
section
variable{TK T:TypeId} {Q Q':World} {K M cap W H:Nat} {c c':Nat->Nat->Ce}
theorem CS.klt(h:CS TK T Q K M cap W H c):K<Q.heap.size:=(Array.getElem?_eq_some_iff.1 h.kb).1
theorem CS.k0(h:CS TK T Q K M cap W H c):Q.cell? ⟨K,0,none⟩=some (Iq W):=by have:=h.kb;simp[World.cell?,this]
theorem CS.k1(h:CS TK T Q K M cap W H c):Q.cell? ⟨K,1,none⟩=some (Iq H):=by have:=h.kb;simp[World.cell?,this]
theorem CS.k2(h:CS TK T Q K M cap W H c):Q.cell? ⟨K,2,none⟩=some (Sq M (W*H) cap):=by have:=h.kb;simp[World.cell?,this]
theorem CS.ch{N:Nat}(h:CS TK T Q K M cap W H c)(g:Chm N Q Q')(h1:K≠N)(h2:M≠N):CS TK T Q' K M cap W H c:=⟨(g.block K h.klt h1).trans h.kb,h.cv.ch g h2,h.ne,h.hc⟩
theorem CS.gr(h:CS TK T Q K M cap W H c)(g:Gr Q Q'):CS TK T Q' K M cap W H c:=⟨(g.block h.klt).trans h.kb,h.cv.gr g,h.ne,h.hc⟩
theorem CS.put(h:CS TK T Q K M cap W H c)(g:Chm M Q Q')(hc:Cv T Q' M W H c'):CS TK T Q' K M cap W H c':=⟨(g.block K h.klt h.ne).trans h.kb,hc,h.ne,h.hc⟩
end
end
section
open Go.RowKit Go.Sort Go.Proofs.Tryz
def R3(T:TypeId)(W:World)(b:Nat)(x y a:Int):Prop:=W.heap[b]?=some (.cells #[Iq x,Iq y,Iq a] T (0,0))
section
variable{T:TypeId} {W W':World} {b k o:Nat} {x y a c:Int}
theorem R3.lt(h:R3 T W b x y a):b<W.heap.size:=(Array.getElem?_eq_some_iff.1 h).1
theorem R3.c0(h:R3 T W b x y a):W.cell? ⟨b,0,none⟩=some (Iq x):=by unfold R3 at h;simp[World.cell?,h]
theorem R3.c1(h:R3 T W b x y a):W.cell? ⟨b,1,none⟩=some (Iq y):=by unfold R3 at h;simp[World.cell?,h]
theorem R3.c2(h:R3 T W b x y a):W.cell? ⟨b,2,none⟩=some (Iq a):=by unfold R3 at h;simp[World.cell?,h]
theorem R3.fz(h:R3 T W b x y a)(j:Nat):W.frozen? ⟨b,j,none⟩=false:=frozen_of_row _ _ _ _ _ h
theorem R3.gr(h:R3 T W b x y a)(g:Gr W W'):R3 T W' b x y a:=(g.block h.lt).trans h
theorem R3.new(W:World)(x y a:Int)(T:TypeId):R3 T (W.alloc (.cells #[Iq x,Iq y,Iq a] T)) W.heap.size x y a:=heap_alloc_new _ _
theorem R3.other(h:R3 T W b x y a)(hk:b≠k)(v:Value):R3 T (W.setCell ⟨k,o,none⟩ v) b x y a:=(Below.heap_setCell W ⟨k,o,none⟩ v b hk).trans h
theorem R3.set0(h:R3 T W b x y a)(x':Int):R3 T (W.setCell ⟨b,0,none⟩ (Iq x')) b x' y a:=heap_setCell_same _ b 0 _ T _ h
theorem R3.set1(h:R3 T W b x y a)(y':Int):R3 T (W.setCell ⟨b,1,none⟩ (Iq y')) b x y' a:=heap_setCell_same _ b 1 _ T _ h
theorem R3.set2(h:R3 T W b x y a)(a':Int):R3 T (W.setCell ⟨b,2,none⟩ (Iq a')) b x y a':=heap_setCell_same _ b 2 _ T _ h
theorem R3.set(h:R3 T W b x y a)(x' y' a':Int):R3 T (((W.setCell ⟨b,0,none⟩ (Iq x')).setCell ⟨b,1,none⟩ (Iq y')).setCell ⟨b,2,none⟩ (Iq a')) b x' y' a':=
 ((h.set0 x').set1 y').set2 a'
theorem R3.others(h:R3 T W b x y a)(hk:b≠k)(v0 v1 v2:Value):R3 T (((W.setCell ⟨k,0,none⟩ v0).setCell ⟨k,1,none⟩ v1).setCell ⟨k,2,none⟩ v2) b x y a:=((h.other hk v0).other hk v1).other hk v2
theorem Gr.set3(h:Gr W W')(hk:W.heap.size≤k)(v0 v1 v2:Value):Gr W (((W'.setCell ⟨k,0,none⟩ v0).setCell ⟨k,1,none⟩ v1).setCell ⟨k,2,none⟩ v2):=((h.set hk v0).set hk v1).set hk v2
end
def sv(f g b:Int):Value:=.agg #[Iq f,Iq g,Iq b]
def kn(n:Int):Int:=if n<0∨8<n then 0 else n
def bo(n:Int):Int:=if n=1 then 1 else 0
theorem bo_bd(n:Int):0≤bo n∧bo n≤1:=by unfold bo;split<;>omega
theorem known_any(n:Int)(w:World):Calls prog 120 #[Iq n] w fun e w'=>e=.returned (Iq (kn n))∧w'=w:=by
 go_enter func120,ntmps120;by_cases h1:n<0;·go_wp2;go_ret;exact⟨by rw[show kn n=0 by unfold kn;rw[if_pos (.inl h1)]];rfl,rfl⟩
 ·by_cases h2:8<n;·go_wp2;go_ret;exact⟨by rw[show kn n=0 by unfold kn;rw[if_pos (.inr h2)]];rfl,rfl⟩
  ·go_wp2;go_ret;exact⟨by rw[show kn n=n by unfold kn;rw[if_neg (by omega)]];rfl,rfl⟩
theorem counted_any(f g b:Int)(w:World):Calls prog 62 #[sv f g b] w fun e w'=>e=.returned (sv (kn f) (kn g) (bo b))∧Gr w w':=by
 have P:Hid (∀n w,Calls prog 120 #[Iq n] w fun e w'=>e=.returned (Iq (kn n))∧w'=w):=known_any;obtain⟨x,hx⟩:=nmd (kn f);obtain⟨y,hy⟩:=nmd (kn g);have P1:=P f;have P2:=P g;rw[hx]at P1;rw[hy]at P2;unfold sv;go_enter func62,ntmps62;by_cases h:b=1;·subst h;go_wp2_with fail;go_region_held(fun W=>W.cell? ⟨w.heap.size,0,none⟩=some (Iq f)∧W.cell? ⟨w.heap.size,1,none⟩=some (Iq g)∧W.cell? ⟨w.heap.size,2,none⟩=some (Iq 1)) (go_keep) (first|(go_at_call 120;first|(with_reducible refine Calls.mono (P1 _) ?_;rintro e w2 ⟨rfl,rfl⟩)|(with_reducible refine Calls.mono (P2 _) ?_;rintro e w2 ⟨rfl,rfl⟩)));go_wp2;refine bodyPost_ret (v:=sv x y 1) (by simp[results,Tryz.results62,go_sem,sv]) rfl ?_;subst hx hy;exact⟨rfl,(((Gr.refl w).alloc _).alloc _).drew⟩
 ·have hb:bo b=0:=if_neg h;go_wp2_with fail;go_region_held(fun W=>W.cell? ⟨w.heap.size,0,none⟩=some (Iq f)∧W.cell? ⟨w.heap.size,1,none⟩=some (Iq g)∧W.cell? ⟨w.heap.size,2,none⟩=some (Iq 0)) (go_keep) (first|(go_at_call 120;first|(with_reducible refine Calls.mono (P1 _) ?_;rintro e w2 ⟨rfl,rfl⟩)|(with_reducible refine Calls.mono (P2 _) ?_;rintro e w2 ⟨rfl,rfl⟩)));go_wp2;refine bodyPost_ret (v:=sv x y 0) (by simp[results,Tryz.results62,go_sem,sv]) rfl ?_;subst hx hy;exact⟨by rw[hb];rfl,(((Gr.refl w).alloc _).alloc _).drew⟩
end
section
open Go.RowKit Go.Sort Go.Proofs.Tryz
def ov(a b:Int):Int:=if kn b=0 then kn a else kn b
def obo(a b:Int):Int:=max (bo b) (bo a)
theorem ov_zero(a:Int):ov 0 a=kn a:=by have:kn 0=0:=rfl;unfold ov;split<;>omega
theorem obo_zero(a:Int):obo 0 a=bo a:=by have:bo 0=0:=rfl;have:=bo_bd a;unfold obo;omega
theorem over_any(f g b f2 g2 b2:Int)(w:World):Calls prog 33 #[sv f g b,sv f2 g2 b2] w fun e w'=>e=.returned (sv (ov f f2) (ov g g2) (obo b b2))∧Gr w w':=by
 have CC:Hid (∀f g b w,Calls prog 62 #[sv f g b] w fun e w'=>e=.returned (sv (kn f) (kn g) (bo b))∧Gr w w'):=counted_any;unfold sv at CC⊢;go_enter func33,ntmps33;go_wp2_with fail;obtain⟨S,hS⟩:=nmd w.heap.size;obtain⟨W0,hW0⟩:=nmd (((w.alloc (.cells #[Iq f,Iq g,Iq b] 32)).alloc (.cells #[Iq f2,Iq g2,Iq b2] 32)).alloc (.cells #[Iq 0,Iq 0,Iq 0] 32));have G0:Hid (Gr w W0):=by rw[<-hW0];exact(((Gr.refl w).alloc _).alloc _).alloc _
 have RA:Hid (R3 32 W0 S f g b):=by rw[<-hW0,<-hS];exact(R3.new w _ _ _ _).gr (((Gr.refl _).alloc _).alloc _)
 have RB:Hid (R3 32 W0 (S+1) f2 g2 b2):=by have:=R3.new (w.alloc (.cells #[Iq f,Iq g,Iq b] 32)) f2 g2 b2 32;simp only[World.size_alloc,hS]at this;rw[<-hW0];exact this.gr ((Gr.refl _).alloc _)
 have RC:Hid (R3 32 W0 (S+1+1) 0 0 0):=by have:=R3.new ((w.alloc (.cells #[Iq f,Iq g,Iq b] 32)).alloc (.cells #[Iq f2,Iq g2,Iq b2] 32)) 0 0 0 32;simp only[World.size_alloc,hS]at this;rw[<-hW0];exact this
 rw[hW0,hS];clear hW0;have HS:Hid (w.heap.size=S):=hS;clear hS;have a0:=RA.c0;have a1:=RA.c1;have a2:=RA.c2;have b0:=RB.c0;have b1:=RB.c1;have b2':=RB.c2;obtain⟨x,hx⟩:=nmd (kn f);obtain⟨y,hy⟩:=nmd (kn g);obtain⟨z,hz⟩:=nmd (bo b);obtain⟨x2,hx2⟩:=nmd (kn f2);obtain⟨y2,hy2⟩:=nmd (kn g2);obtain⟨z2,hz2⟩:=nmd (bo b2);have HV:Hid (sv (ov f f2) (ov g g2) (obo b b2)=sv (if x2=0 then x else x2) (if y2=0 then y else y2) (max z2 z)):=by show _=_;unfold ov obo;rw[hx,hy,hz,hx2,hy2,hz2]
 have bz:=bo_bd b;have bz2:=bo_bd b2;rw[hz]at bz;rw[hz2]at bz2;have C1:=CC f g b;have C2:=CC f2 g2 b2;rw[hx,hy,hz]at C1;rw[hx2,hy2,hz2]at C2;go_cut[2,3,4]from 5 to 9 (fun u v t wx=>u=Pq S∧v=Pq (S+1)∧t=Pq (S+1+1)∧Hid (R3 32 wx S x y z∧R3 32 wx (S+1) x2 y2 z2∧R3 32 wx (S+1+1) 0 0 0∧Gr w wx));case first=>
  go_region_with(go_at_call 62;(first|(with_reducible refine Calls.mono (C1 _) ?_)|(with_reducible refine Calls.mono (C2 _) ?_));rintro e wn ⟨rfl,hgn⟩;have HGn:Hid (Gr W0 wn):=(by first|exact((Gr.refl W0).drew).trans hgn|exact Gr.trans (Hid.out (by assumption)) hgn);have HAn:Hid (R3 32 wn S f g b):=RA.out.gr HGn.out;have HBn:Hid (R3 32 wn (S+1) f2 g2 b2):=RB.out.gr HGn.out;clear hgn;have m0:=HAn.out.c0;have m1:=HAn.out.c1;have m2:=HAn.out.c2;have n0:=HBn.out.c0;have n1:=HBn.out.c1;have n2:=HBn.out.c2;have f0:=HAn.out.fz 0;have f1:=HAn.out.fz 1;have f2':=HAn.out.fz 2;have g0:=HBn.out.fz 0;have g1:=HBn.out.fz 1;have g2':=HBn.out.fz 2);all_goals
   have HO:Hid (R3 32 ((((((wn.setCell ⟨S,0,none⟩ (Iq x)).setCell ⟨S,1,none⟩ (Iq y)).setCell ⟨S,2,none⟩ (Iq z)).setCell ⟨S+1,0,none⟩ (Iq x2)).setCell ⟨S+1,1,none⟩ (Iq y2)).setCell ⟨S+1,2,none⟩ (Iq z2)) S x y z∧R3 32 ((((((wn.setCell ⟨S,0,none⟩ (Iq x)).setCell ⟨S,1,none⟩ (Iq y)).setCell ⟨S,2,none⟩ (Iq z)).setCell ⟨S+1,0,none⟩ (Iq x2)).setCell ⟨S+1,1,none⟩ (Iq y2)).setCell ⟨S+1,2,none⟩ (Iq z2)) (S+1) x2 y2 z2∧R3 32 ((((((wn.setCell ⟨S,0,none⟩ (Iq x)).setCell ⟨S,1,none⟩ (Iq y)).setCell ⟨S,2,none⟩ (Iq z)).setCell ⟨S+1,0,none⟩ (Iq x2)).setCell ⟨S+1,1,none⟩ (Iq y2)).setCell ⟨S+1,2,none⟩ (Iq z2)) (S+1+1) 0 0 0∧Gr w ((((((wn.setCell ⟨S,0,none⟩ (Iq x)).setCell ⟨S,1,none⟩ (Iq y)).setCell ⟨S,2,none⟩ (Iq z)).setCell ⟨S+1,0,none⟩ (Iq x2)).setCell ⟨S+1,1,none⟩ (Iq y2)).setCell ⟨S+1,2,none⟩ (Iq z2))):=
    ⟨(HAn.set x y z).others (by omega) _ _ _,(HBn.others (by omega) _ _ _).set x2 y2 z2,((RC.gr HGn).others (by omega) _ _ _).others (by omega) _ _ _,((G0.trans HGn).set3 (by rw[HS.out];omega) _ _ _).set3 (by rw[HS.out];omega) _ _ _⟩;clear m0 m1 m2 n0 n1 n2 f0 f1 f2' g0 g1 g2' a0 a1 a2 b0 b1 b2' HAn HBn;go_wp2_with fail;go_meet;exact⟨rfl,rfl,rfl,HO⟩
 case rest=>
  obtain⟨rfl,rfl,rfl,HO⟩:=hcut;clear a0 a1 a2 b0 b1 b2' RA RB RC;have a0:=HO.1.c0;have a1:=HO.1.c1;have a2:=HO.1.c2;have b0:=HO.2.1.c0;have b1:=HO.2.1.c1;have b2':=HO.2.1.c2;have g0:=HO.2.1.fz 0;have g1:=HO.2.1.fz 1;have g2':=HO.2.1.fz 2;have gg:=HO.2.2.2;by_cases h1:x2=0
  ·by_cases h2:y2=0
   ·by_cases h3:z2<z
    ·have h3':z2≤z:=by omega
     have RN:=(((HO.2.1.set0 x).set1 y).set2 z);have RO:=(((HO.2.2.1.other (k:=S+1) (o:=0) (show S+1+1≠S+1 by omega) (Iq x)).other (k:=S+1) (o:=1) (show S+1+1≠S+1 by omega) (Iq y)).other (k:=S+1) (o:=2) (show S+1+1≠S+1 by omega) (Iq z));have GN:=(((gg.set (o:=0) (show w.heap.size≤S+1 by rw[HS.out];omega) (Iq x)).set (o:=1) (show w.heap.size≤S+1 by rw[HS.out];omega) (Iq y)).set (o:=2) (show w.heap.size≤S+1 by rw[HS.out];omega) (Iq z));have n0:=RN.c0;have n1:=RN.c1;have n2:=RN.c2;have o0:=RO.c0;have o1:=RO.c1;have o2:=RO.c2;have k0:=RO.fz 0;have k1:=RO.fz 1;have k2:=RO.fz 2;go_wp2;refine bodyPost_ret (results_cell_row rfl _ _ (S+1+1) _ _ _ _ rfl (RO.set _ _ _) underlying32 rfl (by kernel_rfl)) rfl ?_;exact⟨by show _=Ending.returned (sv (ov f f2) (ov g g2) (obo b b2));rw[HV.out,if_pos h1,if_pos h2,show max z2 z=z by omega];rfl,GN.set3 (show w.heap.size≤S+1+1 by rw[HS.out];omega) _ _ _⟩
    ·have h3':z≤z2:=by omega
     have RN:=(((HO.2.1.set0 x).set1 y).set2 z2);have RO:=(((HO.2.2.1.other (k:=S+1) (o:=0) (show S+1+1≠S+1 by omega) (Iq x)).other (k:=S+1) (o:=1) (show S+1+1≠S+1 by omega) (Iq y)).other (k:=S+1) (o:=2) (show S+1+1≠S+1 by omega) (Iq z2));have GN:=(((gg.set (o:=0) (show w.heap.size≤S+1 by rw[HS.out];omega) (Iq x)).set (o:=1) (show w.heap.size≤S+1 by rw[HS.out];omega) (Iq y)).set (o:=2) (show w.heap.size≤S+1 by rw[HS.out];omega) (Iq z2));have n0:=RN.c0;have n1:=RN.c1;have n2:=RN.c2;have o0:=RO.c0;have o1:=RO.c1;have o2:=RO.c2;have k0:=RO.fz 0;have k1:=RO.fz 1;have k2:=RO.fz 2;go_wp2;refine bodyPost_ret (results_cell_row rfl _ _ (S+1+1) _ _ _ _ rfl (RO.set _ _ _) underlying32 rfl (by kernel_rfl)) rfl ?_;exact⟨by show _=Ending.returned (sv (ov f f2) (ov g g2) (obo b b2));rw[HV.out,if_pos h1,if_pos h2,show max z2 z=z2 by omega];rfl,GN.set3 (show w.heap.size≤S+1+1 by rw[HS.out];omega) _ _ _⟩
   ·by_cases h3:z2<z
    ·have h3':z2≤z:=by omega
     have RN:=((HO.2.1.set0 x).set2 z);have RO:=((HO.2.2.1.other (k:=S+1) (o:=0) (show S+1+1≠S+1 by omega) (Iq x)).other (k:=S+1) (o:=2) (show S+1+1≠S+1 by omega) (Iq z));have GN:=((gg.set (o:=0) (show w.heap.size≤S+1 by rw[HS.out];omega) (Iq x)).set (o:=2) (show w.heap.size≤S+1 by rw[HS.out];omega) (Iq z));have n0:=RN.c0;have n1:=RN.c1;have n2:=RN.c2;have o0:=RO.c0;have o1:=RO.c1;have o2:=RO.c2;have k0:=RO.fz 0;have k1:=RO.fz 1;have k2:=RO.fz 2;go_wp2;refine bodyPost_ret (results_cell_row rfl _ _ (S+1+1) _ _ _ _ rfl (RO.set _ _ _) underlying32 rfl (by kernel_rfl)) rfl ?_;exact⟨by show _=Ending.returned (sv (ov f f2) (ov g g2) (obo b b2));rw[HV.out,if_pos h1,if_neg h2,show max z2 z=z by omega];rfl,GN.set3 (show w.heap.size≤S+1+1 by rw[HS.out];omega) _ _ _⟩
    ·have h3':z≤z2:=by omega
     have RN:=((HO.2.1.set0 x).set2 z2);have RO:=((HO.2.2.1.other (k:=S+1) (o:=0) (show S+1+1≠S+1 by omega) (Iq x)).other (k:=S+1) (o:=2) (show S+1+1≠S+1 by omega) (Iq z2));have GN:=((gg.set (o:=0) (show w.heap.size≤S+1 by rw[HS.out];omega) (Iq x)).set (o:=2) (show w.heap.size≤S+1 by rw[HS.out];omega) (Iq z2));have n0:=RN.c0;have n1:=RN.c1;have n2:=RN.c2;have o0:=RO.c0;have o1:=RO.c1;have o2:=RO.c2;have k0:=RO.fz 0;have k1:=RO.fz 1;have k2:=RO.fz 2;go_wp2;refine bodyPost_ret (results_cell_row rfl _ _ (S+1+1) _ _ _ _ rfl (RO.set _ _ _) underlying32 rfl (by kernel_rfl)) rfl ?_;exact⟨by show _=Ending.returned (sv (ov f f2) (ov g g2) (obo b b2));rw[HV.out,if_pos h1,if_neg h2,show max z2 z=z2 by omega];rfl,GN.set3 (show w.heap.size≤S+1+1 by rw[HS.out];omega) _ _ _⟩
  ·by_cases h2:y2=0
   ·by_cases h3:z2<z
    ·have h3':z2≤z:=by omega
     have RN:=((HO.2.1.set1 y).set2 z);have RO:=((HO.2.2.1.other (k:=S+1) (o:=1) (show S+1+1≠S+1 by omega) (Iq y)).other (k:=S+1) (o:=2) (show S+1+1≠S+1 by omega) (Iq z));have GN:=((gg.set (o:=1) (show w.heap.size≤S+1 by rw[HS.out];omega) (Iq y)).set (o:=2) (show w.heap.size≤S+1 by rw[HS.out];omega) (Iq z));have n0:=RN.c0;have n1:=RN.c1;have n2:=RN.c2;have o0:=RO.c0;have o1:=RO.c1;have o2:=RO.c2;have k0:=RO.fz 0;have k1:=RO.fz 1;have k2:=RO.fz 2;go_wp2;refine bodyPost_ret (results_cell_row rfl _ _ (S+1+1) _ _ _ _ rfl (RO.set _ _ _) underlying32 rfl (by kernel_rfl)) rfl ?_;exact⟨by show _=Ending.returned (sv (ov f f2) (ov g g2) (obo b b2));rw[HV.out,if_neg h1,if_pos h2,show max z2 z=z by omega];rfl,GN.set3 (show w.heap.size≤S+1+1 by rw[HS.out];omega) _ _ _⟩
    ·have h3':z≤z2:=by omega
     have RN:=((HO.2.1.set1 y).set2 z2);have RO:=((HO.2.2.1.other (k:=S+1) (o:=1) (show S+1+1≠S+1 by omega) (Iq y)).other (k:=S+1) (o:=2) (show S+1+1≠S+1 by omega) (Iq z2));have GN:=((gg.set (o:=1) (show w.heap.size≤S+1 by rw[HS.out];omega) (Iq y)).set (o:=2) (show w.heap.size≤S+1 by rw[HS.out];omega) (Iq z2));have n0:=RN.c0;have n1:=RN.c1;have n2:=RN.c2;have o0:=RO.c0;have o1:=RO.c1;have o2:=RO.c2;have k0:=RO.fz 0;have k1:=RO.fz 1;have k2:=RO.fz 2;go_wp2;refine bodyPost_ret (results_cell_row rfl _ _ (S+1+1) _ _ _ _ rfl (RO.set _ _ _) underlying32 rfl (by kernel_rfl)) rfl ?_;exact⟨by show _=Ending.returned (sv (ov f f2) (ov g g2) (obo b b2));rw[HV.out,if_neg h1,if_pos h2,show max z2 z=z2 by omega];rfl,GN.set3 (show w.heap.size≤S+1+1 by rw[HS.out];omega) _ _ _⟩
   ·by_cases h3:z2<z
    ·have h3':z2≤z:=by omega
     have RN:=(HO.2.1.set2 z);have RO:=(HO.2.2.1.other (k:=S+1) (o:=2) (show S+1+1≠S+1 by omega) (Iq z));have GN:=(gg.set (o:=2) (show w.heap.size≤S+1 by rw[HS.out];omega) (Iq z));have n0:=RN.c0;have n1:=RN.c1;have n2:=RN.c2;have o0:=RO.c0;have o1:=RO.c1;have o2:=RO.c2;have k0:=RO.fz 0;have k1:=RO.fz 1;have k2:=RO.fz 2;go_wp2;refine bodyPost_ret (results_cell_row rfl _ _ (S+1+1) _ _ _ _ rfl (RO.set _ _ _) underlying32 rfl (by kernel_rfl)) rfl ?_;exact⟨by show _=Ending.returned (sv (ov f f2) (ov g g2) (obo b b2));rw[HV.out,if_neg h1,if_neg h2,show max z2 z=z by omega];rfl,GN.set3 (show w.heap.size≤S+1+1 by rw[HS.out];omega) _ _ _⟩
    ·have h3':z≤z2:=by omega
     have RN:=(HO.2.1.set2 z2);have RO:=(HO.2.2.1.other (k:=S+1) (o:=2) (show S+1+1≠S+1 by omega) (Iq z2));have GN:=(gg.set (o:=2) (show w.heap.size≤S+1 by rw[HS.out];omega) (Iq z2));have n0:=RN.c0;have n1:=RN.c1;have n2:=RN.c2;have o0:=RO.c0;have o1:=RO.c1;have o2:=RO.c2;have k0:=RO.fz 0;have k1:=RO.fz 1;have k2:=RO.fz 2;go_wp2;refine bodyPost_ret (results_cell_row rfl _ _ (S+1+1) _ _ _ _ rfl (RO.set _ _ _) underlying32 rfl (by kernel_rfl)) rfl ?_;exact⟨by show _=Ending.returned (sv (ov f f2) (ov g g2) (obo b b2));rw[HV.out,if_neg h1,if_neg h2,show max z2 z=z2 by omega];rfl,GN.set3 (show w.heap.size≤S+1+1 by rw[HS.out];omega) _ _ _⟩
end
section
open Go.RowKit Go.Sort Go.Proofs.Tryz
def cev(e:Ce):Value:=.agg #[.string e.t,Iq e.f,Iq e.g,Iq e.b,Iq e.p]
theorem cblank_any(f g b:Int)(w:World):Calls prog 32 #[sv f g b] w fun e w'=>e=.returned (cev (bk f g b))∧Gr w w':=by unfold sv;go_enter func32,ntmps32;go_wp2;refine bodyPost_ret (v:=cev (bk f g b)) (by simp[results,Tryz.results32,go_sem,cev,bk,spc]) rfl ?_;exact⟨rfl,((Gr.refl w).alloc _).alloc _⟩
theorem counts_any(f g b:Int)(w:World):Calls prog 64 #[sv f g b] w fun e w'=>e=.returned (sv (kn f) (kn g) (bo b))∧Gr w w':=by have OV:Hid (∀f g b f2 g2 b2 w,Calls prog 33 #[sv f g b,sv f2 g2 b2] w fun e w'=>e=.returned (sv (ov f f2) (ov g g2) (obo b b2))∧Gr w w'):=over_any;have O1:=OV 0 0 0 f g b;rw[ov_zero,ov_zero,obo_zero]at O1;unfold sv at O1⊢;go_enter func64,ntmps64;go_wp2_with(go_at_call 33;refine Calls.mono (O1 _) ?_;rintro e w1 ⟨rfl,g1⟩;have RC:Hid (R3 32 w1 (w.heap.size+1) 0 0 0):=((by have:=R3.new (w.alloc (.cells #[Iq f,Iq g,Iq b] 32)) 0 0 0 32;simp only[World.size_alloc]at this;exact this):R3 32 _ (w.heap.size+1) 0 0 0).gr g1;have c0:=RC.c0;have c1:=RC.c1;have c2:=RC.c2;have f0:=RC.fz 0;have f1:=RC.fz 1;have f2:=RC.fz 2;have GG:Hid (Gr w w1):=(((Gr.refl w).alloc _).alloc _).trans g1;clear g1);refine bodyPost_ret (results_cell_row rfl _ _ (w.heap.size+1) _ _ _ _ rfl (RC.set _ _ _) underlying32 rfl (by kernel_rfl)) rfl ?_;exact⟨rfl,GG.set3 (by omega) _ _ _⟩
theorem side_any(n:Int)(w:World):Calls prog 30 #[Iq n] w fun e w'=>e=.returned (.bool (decide (1≤n∧n≤400)))∧w'=w:=by
 by_cases h1:1≤n
 ·by_cases h2:n≤400;·rw[show decide (1≤n∧n≤400)=true from decide_eq_true ⟨h1,h2⟩];go_enter func30,ntmps30;go_wp2;go_ret;exact⟨rfl,rfl⟩
  ·rw[show decide (1≤n∧n≤400)=false from decide_eq_false (by omega)];go_enter func30,ntmps30;go_wp2;go_ret;exact⟨by first|rfl|simp;omega,rfl⟩
 ·rw[show decide (1≤n∧n≤400)=false from decide_eq_false (by omega)];go_enter func30,ntmps30;go_wp2;go_ret;exact⟨rfl,rfl⟩
section
variable{K M cap W H:Nat} {c:Nat->Nat->Ce}
theorem row_any(w:World)(h:CS 89 34 w K M cap W H c)(h0:0<W)(hW:W≤400)(hH:H≤400)(y:Nat)(hy:y<H):Calls prog 121 #[Pq K,Iq y] w fun e w'=>e=.returned (.slice (some ⟨M,y*W*5,none⟩) W W)∧Gr w w':=by
 have k0:=h.k0;have k2:=h.k2;have hc:=h.hc;obtain⟨p,hp⟩:=nmd (y*W);obtain⟨n,hn⟩:=nmd (W*H);have e1:(y:Int)*(W:Int)=(p:Int):=by rw[<-hp];simp
 have e2:((y:Int)+1)*(W:Int)=(p:Int)+(W:Int):=by rw[Int.add_mul,e1];omega
 have pn:p+W≤n:=by rw[<-hp,<-hn,Nat.mul_comm W H,<-Nat.succ_mul];exact Nat.mul_le_mul_right _ (by omega)
 have nb:n≤160000:=by rw[<-hn];exact Nat.mul_le_mul hW hH
 rw[hn]at k2 hc;rw[hp];have w0:¬W=0:=by omega
 have w1:¬p+W=p:=by omega
 clear h hn hp;go_enter func121,ntmps121;go_wp2_with fail;go_quiet(fail);go_wp2;go_ret;refine⟨?_,(Gr.refl w).drewN _⟩;first
  |rfl
  |(show Ending.returned (.slice (some ⟨M,p*5,none⟩) (p+W-p) (p+W-p))=_;rw[Nat.add_sub_cancel_left])
end
end
section
open Go.RowKit Go.Sort Go.Proofs.Tryz
def ccutL(c:Nat->Nat->Ce)(y a:Nat):Nat->Nat->Ce:=fun y' x'=>if y'=y∧x'+1=a∧(c y a).p=2 then bl (c y' x')else c y' x'
def cutR(c:Nat->Nat->Ce)(y q:Nat):Nat->Nat->Ce:=fun y' x'=>if y'=y∧x'=q+1∧(c y q).p=1 then bl (c y' x')else c y' x'
def cut(c:Nat->Nat->Ce)(y a q:Nat):Nat->Nat->Ce:=cutR (ccutL c y a) y q
theorem cutL_none{c:Nat->Nat->Ce}{y a:Nat}(h:¬(c y a).p=2):ccutL c y a=c:=by funext y' x';unfold ccutL;rw[if_neg (fun q=>h q.2.2)]
theorem cutR_none{c:Nat->Nat->Ce}{y a:Nat}(h:¬(c y a).p=1):cutR c y a=c:=by funext y' x';unfold cutR;rw[if_neg (fun q=>h q.2.2)]
theorem cutL_some{c:Nat->Nat->Ce}{y k:Nat}(h:(c y (k+1)).p=2):ccutL c y (k+1)=cupd c y k (bl (c y k)):=by
 funext y' x';unfold ccutL cupd;by_cases e:y'=y∧x'=k;·obtain⟨rfl,rfl⟩:=e;rw[if_pos ⟨rfl,rfl,h⟩,if_pos ⟨rfl,rfl⟩]
 ·rw[if_neg e,if_neg (fun q=>e ⟨q.1,by omega⟩)]
theorem cutR_some{c:Nat->Nat->Ce}{y q:Nat}(h:(c y q).p=1):cutR c y q=cupd c y (q+1) (bl (c y (q+1))):=by
 funext y' x';unfold cutR cupd;by_cases e:y'=y∧x'=q+1;·obtain⟨rfl,rfl⟩:=e;rw[if_pos ⟨rfl,rfl,h⟩,if_pos ⟨rfl,rfl⟩]
 ·rw[if_neg e,if_neg (fun k=>e ⟨k.1,k.2.1⟩)]
theorem cutL_at{c:Nat->Nat->Ce}{y a x:Nat}(h:a≤x)(y':Nat):ccutL c y a y' x=c y' x:=by unfold ccutL;rw[if_neg (by omega)]
section
variable{K M cap W H:Nat} {c:Nat->Nat->Ce}
theorem stretch_any(w:World)(h:CS 89 34 w K M cap W H c)(h0:0<W)(hW:W≤400)(hH:H≤400)(y a q:Nat)(hy:y<H)(haq:a≤q)(hq:q<W)(hp:PRow W (c y)):Calls prog 65 #[Pq K,Iq y,Iq a,Iq ((q:Int)+1)] w fun e w'=>e=.returned (.slice (some ⟨M,y*W*5+a*5,none⟩) (q+1-a) (q+1-a))∧Cv 34 w' M W H (cut c y a q)∧Chm M w w':=by
 have RC:Hid (Calls prog 121 #[Pq K,Iq y] w fun e w'=>e=.returned (.slice (some ⟨M,y*W*5,none⟩) W W)∧Gr w w'):=row_any w h h0 hW hH y hy;have BC:Hid (∀f g b w,Calls prog 32 #[sv f g b] w fun e w'=>e=.returned (cev (bk f g b))∧Gr w w'):=cblank_any;have HV:Hid (Cv 34 w M W H c):=h.cv;have HP:Hid (PRow W (c y)):=hp;obtain⟨o,ho⟩:=nmd (y*W*5);have HO:Hid (y*W*5=o):=ho;unfold sv cev bk at BC;rw[ho]at RC;clear h hp;rw[ho];clear ho;go_enter func65,ntmps65;go_wp2_with fail;refine Calls.mono RC ?_;rintro e w1 ⟨rfl,g1⟩;have V1:Hid (Cv 34 w1 M W H c):=HV.gr g1;have C1:Hid (Chm M w w1):=Chm.gr g1;clear g1 HV RC;have ca:=V1.c4 hy (show a<W by omega);rw[HO.out]at ca;obtain⟨pa,hpa⟩:=nmd ((c y a).p);rw[hpa]at ca;have HA:Hid ((c y a).p=pa):=hpa;clear hpa;go_upto_if 18 with fail;go_cut[9]from 13 to 29 (fun u wx=>u=.slice (some ⟨M,o,none⟩) W W∧Hid (Cv 34 wx M W H (ccutL c y a)∧Chm M w wx));case first=>
  by_cases ht:pa=2
  ·obtain⟨k,hka,hk1,_⟩:=HP.tail a (by omega) (HA.trans ht);subst hka;have HC:Hid (ccutL c y (k+1)=cupd c y k (bl (c y k))):=cutL_some (HA.trans ht);subst ht;clear hk1;have b1:=V1.c1 hy (show k<W by omega);have b2:=V1.c2 hy (show k<W by omega);have b3:=V1.c3 hy (show k<W by omega);rw[HO.out]at b1 b2 b3;go_wp2_with(go_at_call 32;refine Calls.mono (BC _ _ _ _) ?_;rintro e w2 ⟨rfl,g2⟩;have V2:Hid (Cv 34 w2 M W H c):=V1.gr g2;have C2:Hid (Chm M w w2):=C1.thenGr g2;clear g2;have d0:=V2.c0 hy (show k<W by omega);have d1:=V2.c1 hy (show k<W by omega);have d2:=V2.c2 hy (show k<W by omega);have d3:=V2.c3 hy (show k<W by omega);have d4:=V2.c4 hy (show k<W by omega);rw[HO.out]at d0 d1 d2 d3 d4;have f0:=V2.fz;have fl:=V2.lt);go_meet;refine⟨rfl,?_,?_⟩;·rw[HC.out,<-HO.out];exact V2.set hy (show k<W by omega) (bl (c y k))
   ·exact((((C2.set (.inl rfl) _ _).set (.inl rfl) _ _).set (.inl rfl) _ _).set (.inl rfl) _ _).set (.inl rfl) _ _
  ·have ht':(pa==2)=false:=by simpa using ht
   go_wp2_with fail;go_meet;exact⟨rfl,by rw[cutL_none (by rw[HA.out];exact ht)];exact V1,C1⟩
 case rest=>
  obtain⟨rfl,HR⟩:=hcut;clear V1 C1 ca;have cq:=HR.1.c4 hy hq;rw[HO.out]at cq;obtain⟨pq,hpq⟩:=nmd ((ccutL c y a y q).p);rw[hpq]at cq;have HQ:Hid ((ccutL c y a y q).p=pq):=hpq;clear hpq;have hcc:Hid ((c y q).p=pq):=by have:=HQ.out;rw[cutL_at haq]at this;exact this
  go_upto_if 36 with fail;go_cut[9]from 13 to 45 (fun u wx=>u=.slice (some ⟨M,o,none⟩) W W∧Hid (Cv 34 wx M W H (cut c y a q)∧Chm M w wx));case first=>
   by_cases ht:pq=1
   ·obtain⟨hl,_⟩:=HP.head q hq (hcc.trans ht);have HC:Hid (cut c y a q=cupd (ccutL c y a) y (q+1) (bl (ccutL c y a y (q+1)))):=cutR_some (HQ.trans ht);subst ht;have b1:=HR.1.c1 hy hl;have b2:=HR.1.c2 hy hl;have b3:=HR.1.c3 hy hl;rw[HO.out]at b1 b2 b3;go_wp2_with(go_at_call 32;refine Calls.mono (BC _ _ _ _) ?_;rintro e w2 ⟨rfl,g2⟩;have V2:Hid (Cv 34 w2 M W H (ccutL c y a)):=HR.1.gr g2;have C2:Hid (Chm M w w2):=HR.2.thenGr g2;clear g2;have d0:=V2.c0 hy hl;have d1:=V2.c1 hy hl;have d2:=V2.c2 hy hl;have d3:=V2.c3 hy hl;have d4:=V2.c4 hy hl;rw[HO.out]at d0 d1 d2 d3 d4;have f0:=V2.fz;have fl:=V2.lt);go_meet;refine⟨rfl,?_,?_⟩;·rw[HC.out,<-HO.out];exact V2.set hy hl (bl (ccutL c y a y (q+1)))
    ·exact((((C2.set (.inl rfl) _ _).set (.inl rfl) _ _).set (.inl rfl) _ _).set (.inl rfl) _ _).set (.inl rfl) _ _
   ·have ht':(pq==1)=false:=by simpa using ht
    go_wp2_with fail;go_meet;exact⟨rfl,by unfold cut;rw[cutR_none (by rw[HQ.out];exact ht)];exact HR.1,HR.2⟩
  case rest=>
   obtain⟨rfl,HZ⟩:=hcut;have hl1:a≤W:=by omega
   have nz:¬q+1=a:=by omega
   go_wp2;go_ret;exact⟨rfl,HZ.1,HZ.2⟩
end
end
section
open Go.RowKit Go.Sort Go.Proofs.Tryz
def capQ(ax ay aw ah bx by_ bw bh:Int):Int×Int×Int×Int:=if capL ax aw bx bw≥capR ax aw bx bw∨capL ay ah by_ bh≥capR ay ah by_ bh then(0,0,0,0)else(capL ax aw bx bw,capL ay ah by_ bh,capR ax aw bx bw-capL ax aw bx bw,capR ay ah by_ bh-capL ay ah by_ bh)
theorem capV_q(ax ay aw ah bx by_ bw bh:Int):capV ax ay aw ah bx by_ bw bh=rv (capQ ax ay aw ah bx by_ bw bh).1 (capQ ax ay aw ah bx by_ bw bh).2.1 (capQ ax ay aw ah bx by_ bw bh).2.2.1 (capQ ax ay aw ah bx by_ bw bh).2.2.2:=by unfold capV capQ;split<;>rfl
def seenQ(W H:Int)(x y a b cx cy ca cb:Int):Int×Int×Int×Int:=capQ 0 0 W H (capQ x y a b cx cy ca cb).1 (capQ x y a b cx cy ca cb).2.1 (capQ x y a b cx cy ca cb).2.2.1 (capQ x y a b cx cy ca cb).2.2.2
structure Seen(W H:Int)(x y a b cx cy ca cb:Int)(l t u v:Int):Prop where
 l0:0≤l
 t0:0≤t
 u0:0≤u
 v0:0≤v
 lu:l+u≤W
 tv:t+v≤H
 uv:0<u↔0<v
 mem:∀p q,(l≤p∧p<l+u∧t≤q∧q<t+v)↔((0≤p∧p<W∧0≤q∧q<H)∧(posI x≤p∧p<posI x+lenI a∧posI y≤q∧q<posI y+lenI b)∧(posI cx≤p∧p<posI cx+lenI ca∧posI cy≤q∧q<posI cy+lenI cb))
def cq(px py pa pb qx qy qa qb:Int):Int×Int×Int×Int:=if max px qx≥min (px+pa) (qx+qa)∨max py qy≥min (py+pb) (qy+qb)then(0,0,0,0)else(max px qx,max py qy,min (px+pa) (qx+qa)-max px qx,min (py+pb) (qy+qb)-max py qy)
theorem cq_mem(px py pa pb qx qy qa qb p q:Int):((cq px py pa pb qx qy qa qb).1≤p∧p<(cq px py pa pb qx qy qa qb).1+(cq px py pa pb qx qy qa qb).2.2.1∧(cq px py pa pb qx qy qa qb).2.1≤q∧q<(cq px py pa pb qx qy qa qb).2.1+(cq px py pa pb qx qy qa qb).2.2.2)↔((px≤p∧p<px+pa∧py≤q∧q<py+pb)∧(qx≤p∧p<qx+qa∧qy≤q∧q<qy+qb)):=by
 unfold cq;split;·simp only;omega
 ·simp only;omega
theorem cq_bd(px py pa pb qx qy qa qb:Int)(h1:-100000≤px∧px≤100000)(h2:-100000≤py∧py≤100000)(h3:0≤pa∧pa≤100000)(h4:0≤pb∧pb≤100000)(h5:-100000≤qx∧qx≤100000)(h6:-100000≤qy∧qy≤100000):
 (-100000≤(cq px py pa pb qx qy qa qb).1∧(cq px py pa pb qx qy qa qb).1≤100000)∧(-100000≤(cq px py pa pb qx qy qa qb).2.1∧(cq px py pa pb qx qy qa qb).2.1≤100000)∧(0≤(cq px py pa pb qx qy qa qb).2.2.1∧(cq px py pa pb qx qy qa qb).2.2.1≤100000)∧(0≤(cq px py pa pb qx qy qa qb).2.2.2∧(cq px py pa pb qx qy qa qb).2.2.2≤100000)∧(0<(cq px py pa pb qx qy qa qb).2.2.1↔0<(cq px py pa pb qx qy qa qb).2.2.2):=by
 by_cases h:max px qx≥min (px+pa) (qx+qa)∨max py qy≥min (py+pb) (qy+qb);·have e:cq px py pa pb qx qy qa qb=(0,0,0,0):=if_pos h;rw[e];simp
 ·have e:cq px py pa pb qx qy qa qb=(max px qx,max py qy,min (px+pa) (qx+qa)-max px qx,min (py+pb) (qy+qb)-max py qy):=if_neg h;rw[e];have k1:max px qx<min (px+pa) (qx+qa):=by omega
  have k2:max py qy<min (py+pb) (qy+qb):=by omega
  have k3:min (px+pa) (qx+qa)≤px+pa:=by omega
  have k4:min (py+pb) (qy+qb)≤py+pb:=by omega
  have k5:px≤max px qx∧max px qx≤100000:=by omega
  have k6:py≤max py qy∧max py qy≤100000:=by omega
  simp only;generalize max px qx=A at*;generalize min (px+pa) (qx+qa)=B at*;generalize max py qy=C at*;generalize min (py+pb) (qy+qb)=D at*;refine⟨⟨?_,?_⟩,⟨?_,?_⟩,⟨?_,?_⟩,⟨?_,?_⟩,?_⟩<;>omega
theorem cq_in{W H qx qy qa qb:Int}(hW:1≤W)(hH:1≤H):0≤(cq 0 0 W H qx qy qa qb).1∧0≤(cq 0 0 W H qx qy qa qb).2.1∧(cq 0 0 W H qx qy qa qb).1+(cq 0 0 W H qx qy qa qb).2.2.1≤W∧(cq 0 0 W H qx qy qa qb).2.1+(cq 0 0 W H qx qy qa qb).2.2.2≤H:=by
 unfold cq;split;·simp only;omega
 ·simp only;omega
theorem capQ_cq(ax ay aw ah bx by_ bw bh:Int):capQ ax ay aw ah bx by_ bw bh=cq (posI ax) (posI ay) (lenI aw) (lenI ah) (posI bx) (posI by_) (lenI bw) (lenI bh):=rfl
theorem seen_facts{W H:Int}(hW:1≤W∧W≤400)(hH:1≤H∧H≤400)(x y a b cx cy ca cb:Int):
 Seen W H x y a b cx cy ca cb (seenQ W H x y a b cx cy ca cb).1 (seenQ W H x y a b cx cy ca cb).2.1 (seenQ W H x y a b cx cy ca cb).2.2.1 (seenQ W H x y a b cx cy ca cb).2.2.2:=by
 have k:=cq_bd (posI x) (posI y) (lenI a) (lenI b) (posI cx) (posI cy) (lenI ca) (lenI cb) (posI_bd x) (posI_bd y) (lenI_bd a) (lenI_bd b) (posI_bd cx) (posI_bd cy);have m1:=cq_mem (posI x) (posI y) (lenI a) (lenI b) (posI cx) (posI cy) (lenI ca) (lenI cb);unfold seenQ;rw[capQ_cq x y a b cx cy ca cb];generalize cq (posI x) (posI y) (lenI a) (lenI b) (posI cx) (posI cy) (lenI ca) (lenI cb)=z at k m1⊢;obtain⟨i0,i1,i2,i3⟩:=z;simp only at k m1⊢;rw[capQ_cq,posI_id (n:=i0) k.1,posI_id (n:=i1) k.2.1,lenI_id (n:=i2) k.2.2.1,lenI_id (n:=i3) k.2.2.2.1,lenI_id (n:=W) (by omega),lenI_id (n:=H) (by omega),show posI 0=0 from rfl];have k2:=cq_bd 0 0 W H i0 i1 i2 i3 (by omega) (by omega) (by omega) (by omega) k.1 k.2.1;have m2:=cq_mem 0 0 W H i0 i1 i2 i3;have k3:=cq_in (qx:=i0) (qy:=i1) (qa:=i2) (qb:=i3) hW.1 hH.1;generalize cq 0 0 W H i0 i1 i2 i3=z at k2 m2 k3⊢;obtain⟨j0,j1,j2,j3⟩:=z;simp only at k2 m2 k3⊢;refine⟨k3.1,k3.2.1,k2.2.2.1.1,k2.2.2.2.1.1,k3.2.2.1,k3.2.2.2,k2.2.2.2.2,fun p q=>?_⟩;rw[m2 p q,m1 p q];constructor;·rintro⟨h1,h2,h3⟩;exact⟨by omega,h2,h3⟩
 ·rintro⟨h1,h2,h3⟩;exact⟨by omega,h2,h3⟩
section
variable{K M cap W H:Nat} {c:Nat->Nat->Ce}
theorem seen_any(w:World)(h:CS 89 34 w K M cap W H c)(x y a b cx cy ca cb:Int):Calls prog 63 #[Pq K,rv x y a b,rv cx cy ca cb] w fun e w'=>e=.returned (rv (seenQ W H x y a b cx cy ca cb).1 (seenQ W H x y a b cx cy ca cb).2.1 (seenQ W H x y a b cx cy ca cb).2.2.1 (seenQ W H x y a b cx cy ca cb).2.2.2)∧Gr w w':=by
 have k0:=h.k0;have k1:=h.k1;have kl:=h.klt;clear h;have CP:Hid (∀ax ay aw ah bx by_ bw bh w,Calls prog 54 #[rv ax ay aw ah,rv bx by_ bw bh] w fun e w'=>e=.returned (rv (capQ ax ay aw ah bx by_ bw bh).1 (capQ ax ay aw ah bx by_ bw bh).2.1 (capQ ax ay aw ah bx by_ bw bh).2.2.1 (capQ ax ay aw ah bx by_ bw bh).2.2.2)∧Gr w w'):=fun ax ay aw ah bx by_ bw bh w=>by rw[<-capV_q];exact cap_any ax ay aw ah bx by_ bw bh w
 obtain⟨q1,hq1⟩:=nmd (capQ x y a b cx cy ca cb);have C1:=CP x y a b cx cy ca cb;rw[hq1]at C1;obtain⟨i0,i1,i2,i3⟩:=q1;obtain⟨q2,hq2⟩:=nmd (capQ 0 0 (W:Int) (H:Int) i0 i1 i2 i3);have C2:=CP 0 0 W H i0 i1 i2 i3;rw[hq2]at C2;obtain⟨j0,j1,j2,j3⟩:=q2;have HQ:Hid (seenQ W H x y a b cx cy ca cb=(j0,j1,j2,j3)):=by show _=_;unfold seenQ;rw[hq1];exact hq2
 rw[HQ.out];clear hq1 hq2 CP;unfold rv at C1 C2⊢;simp only at C1 C2⊢;go_enter func63,ntmps63;go_wp2_with fail;obtain⟨S,hS⟩:=nmd w.heap.size;have HS:Hid (w.heap.size=S):=hS;obtain⟨W0,hW0⟩:=nmd (((w.alloc (.cells #[Iq x,Iq y,Iq a,Iq b] 56)).alloc (.cells #[Iq cx,Iq cy,Iq ca,Iq cb] 56)).alloc (.cells #[Iq 0,Iq 0,Iq 0,Iq 0] 56));have G0:Hid (Gr w W0):=by rw[<-hW0];exact(((Gr.refl w).alloc _).alloc _).alloc _
 have RA:Hid (R4 56 W0 S x y a b):=by rw[<-hW0,<-hS];exact(R4.new w _ _ _ _ _).gr (((Gr.refl _).alloc _).alloc _)
 have RB:Hid (R4 56 W0 (S+1) cx cy ca cb):=by have:=R4.new (w.alloc (.cells #[Iq x,Iq y,Iq a,Iq b] 56)) cx cy ca cb 56;simp only[World.size_alloc,hS]at this;rw[<-hW0];exact this.gr ((Gr.refl _).alloc _)
 have RC:Hid (R4 56 W0 (S+1+1) 0 0 0 0):=by have:=R4.new ((w.alloc (.cells #[Iq x,Iq y,Iq a,Iq b] 56)).alloc (.cells #[Iq cx,Iq cy,Iq ca,Iq cb] 56)) 0 0 0 0 56;simp only[World.size_alloc,hS]at this;rw[<-hW0];exact this
 have k0':W0.cell? ⟨K,0,none⟩=some (Iq W):=(World.cell?_of_block (a:=⟨K,0,none⟩) (G0.block kl)).trans k0;have k1':W0.cell? ⟨K,1,none⟩=some (Iq H):=(World.cell?_of_block (a:=⟨K,1,none⟩) (G0.block kl)).trans k1;have sz:Hid (W0.heap.size=S+3):=by show W0.heap.size=S+3;rw[<-hW0];simp only[World.size_alloc,hS]
 have kl0:K<W0.heap.size:=by rw[sz.out,<-HS.out];omega
 rw[hW0,hS];clear hW0 hS k0 k1;go_cut[4,5,6,7]from 8 to 16 (fun u v t s wx=>u=Pq S∧v=Pq (S+1)∧t=Pq (S+1+1)∧s=Pq W0.heap.size∧Hid (R4 56 wx S x y a b∧R4 56 wx (S+1) cx cy ca cb∧R4 56 wx (S+1+1) 0 0 0 0∧R4 56 wx W0.heap.size 0 0 W H∧Gr w wx));case first=>go_region;all_goals go_wp2_with fail;go_meet;have gz:Gr W0 (W0.alloc (.cells #[Iq 0,Iq 0,Iq W,Iq H] 56)).drew:=((Gr.refl W0).alloc _).drew;exact⟨rfl,rfl,rfl,rfl,RA.gr gz,RB.gr gz,RC.gr gz,(R4.new W0 0 0 W H _).gr ((Gr.refl _).drew),G0.trans gz⟩
 case rest=>obtain⟨rfl,rfl,rfl,rfl,HR⟩:=hcut;obtain⟨Z,hZ⟩:=nmd W0.heap.size;have HZ:Hid (Z=S+3):=hZ.symm.trans sz;rw[hZ]at HR;rw[hZ];clear hZ RA RB RC kl0 k0' k1' G0 sz;have a0:=HR.1.c0;have a1:=HR.1.c1;have a2:=HR.1.c2;have a3:=HR.1.c3;have b0:=HR.2.1.c0;have b1:=HR.2.1.c1;have b2:=HR.2.1.c2;have b3:=HR.2.1.c3;have z0:=HR.2.2.2.1.c0;have z1:=HR.2.2.2.1.c1;have z2:=HR.2.2.2.1.c2;have z3:=HR.2.2.2.1.c3;go_wp2_with fail;go_region_with(go_at_call 54;(first|(with_reducible refine Calls.mono (C1 _) ?_)|(with_reducible refine Calls.mono (C2 _) ?_));rintro e wn ⟨rfl,hgn⟩;have HGn:Hid (Gr wc wn):=(by first|exact((Gr.refl wc).drew).trans hgn|exact Gr.trans (Hid.out (by assumption)) hgn);clear hgn;have m0:=(HR.out.1.gr HGn.out).c0;have m1:=(HR.out.1.gr HGn.out).c1;have m2:=(HR.out.1.gr HGn.out).c2;have m3:=(HR.out.1.gr HGn.out).c3;have n0:=(HR.out.2.1.gr HGn.out).c0;have n1:=(HR.out.2.1.gr HGn.out).c1;have n2:=(HR.out.2.1.gr HGn.out).c2;have n3:=(HR.out.2.1.gr HGn.out).c3;have o0:=(HR.out.2.2.2.1.gr HGn.out).c0;have o1:=(HR.out.2.2.2.1.gr HGn.out).c1;have o2:=(HR.out.2.2.2.1.gr HGn.out).c2;have o3:=(HR.out.2.2.2.1.gr HGn.out).c3;have p0:=(HR.out.2.2.1.gr HGn.out).c0;have p1:=(HR.out.2.2.1.gr HGn.out).c1;have p2:=(HR.out.2.2.1.gr HGn.out).c2;have p3:=(HR.out.2.2.1.gr HGn.out).c3;have f0:=(HR.out.2.2.1.gr HGn.out).fz 0;have f1:=(HR.out.2.2.1.gr HGn.out).fz 1;have f2:=(HR.out.2.2.1.gr HGn.out).fz 2;have f3:=(HR.out.2.2.1.gr HGn.out).fz 3);all_goals go_wp2_with fail;refine bodyPost_ret (results_cell_row rfl _ _ (S+1+1) _ _ _ _ rfl ((HR.2.2.1.gr HGn).set _ _ _ _) underlying56 rfl (by kernel_rfl)) rfl ?_;exact⟨rfl,(HR.2.2.2.2.trans HGn).set4 (by rw[HS.out];omega) _ _ _ _⟩
end
end
section
open Go.RowKit Go.Sort Go.Proofs.Tryz
def part(c:Nat->Nat->Ce)(y a q i:Nat)(x:Nat->Ce):Nat->Nat->Ce:=fun y' x'=>if y'=y∧a≤x'∧x'<a+i then x x' else cut c y a q y' x'
theorem part_zero(c:Nat->Nat->Ce)(y a q:Nat)(x:Nat->Ce):part c y a q 0 x=cut c y a q:=by funext y' x';unfold part;rw[if_neg (by omega)]
theorem cpart_next(c:Nat->Nat->Ce)(y a q i:Nat)(x:Nat->Ce):cupd (part c y a q i x) y (a+i) (x (a+i))=part c y a q (i+1) x:=by
 funext y' x';unfold part cupd;by_cases h:y'=y∧x'=a+i;·obtain⟨rfl,rfl⟩:=h;rw[if_pos ⟨rfl,rfl⟩,if_pos (by omega)]
 ·rw[if_neg h];show(if y'=y∧a≤x'∧x'<a+i then x x' else cut c y a q y' x')=_;by_cases h2:y'=y∧a≤x'∧x'<a+i;·rw[if_pos h2,if_pos (by omega)]
  ·rw[if_neg h2,if_neg (by omega)]
theorem part_done(c:Nat->Nat->Ce)(y a q:Nat)(x:Nat->Ce)(h:a≤q):part c y a q (q+1-a) x=fill c a (q+1) y (y+1) x:=by
 funext y' x';unfold part fill;by_cases hy:y'=y
 ·subst hy;rw[if_pos (c:=y'≤y'∧y'<y'+1) (by omega)];unfold span;by_cases h1:a≤x'∧x'<q+1;·rw[if_pos (by omega),if_pos h1]
  ·rw[if_neg (by omega),if_neg h1];unfold cut cutR;have e:ccutL c y' a y' q=c y' q:=cutL_at h y';rw[e,show q+1-1=q by omega];by_cases h2:x'+1=a∧(c y' a).p=2;·rw[if_neg (by omega),if_pos ⟨by omega,h2⟩];unfold ccutL;rw[if_pos ⟨rfl,h2⟩]
   ·rw[if_neg (c:=a<q+1∧x'+1=a∧(c y' a).p=2) (fun k=>h2 k.2)];have e2:ccutL c y' a y' x'=c y' x':=by unfold ccutL;rw[if_neg (fun k=>h2 k.2)]
    rw[e2];by_cases h3:x'=q+1∧(c y' q).p=1;·rw[if_pos ⟨rfl,h3⟩,if_pos ⟨by omega,h3⟩]
    ·rw[if_neg (fun k=>h3 k.2),if_neg (fun k=>h3 k.2)]
 ·rw[if_neg (fun k=>hy k.1),if_neg (by omega)];unfold cut cutR ccutL;rw[if_neg (fun k=>hy k.1),if_neg (fun k=>hy k.1)]
def R5(T:TypeId)(Q:World)(b:Nat)(e:Ce):Prop:=Q.heap[b]?=some (.cells #[.string e.t,Iq e.f,Iq e.g,Iq e.b,Iq e.p] T (0,0))
section
variable{T:TypeId} {Q Q':World} {b k:Nat} {e:Ce}
theorem R5.lt(h:R5 T Q b e):b<Q.heap.size:=(Array.getElem?_eq_some_iff.1 h).1
theorem R5.c0(h:R5 T Q b e):Q.cell? ⟨b,0,none⟩=some (.string e.t):=by unfold R5 at h;simp[World.cell?,h]
theorem R5.c1(h:R5 T Q b e):Q.cell? ⟨b,1,none⟩=some (Iq e.f):=by unfold R5 at h;simp[World.cell?,h]
theorem R5.c2(h:R5 T Q b e):Q.cell? ⟨b,2,none⟩=some (Iq e.g):=by unfold R5 at h;simp[World.cell?,h]
theorem R5.c3(h:R5 T Q b e):Q.cell? ⟨b,3,none⟩=some (Iq e.b):=by unfold R5 at h;simp[World.cell?,h]
theorem R5.c4(h:R5 T Q b e):Q.cell? ⟨b,4,none⟩=some (Iq e.p):=by unfold R5 at h;simp[World.cell?,h]
theorem R5.gr(h:R5 T Q b e)(g:Gr Q Q'):R5 T Q' b e:=(g.block h.lt).trans h
theorem R5.ch(h:R5 T Q b e)(g:Chm k Q Q')(hk:b≠k):R5 T Q' b e:=(g.block b h.lt hk).trans h
theorem R5.new(Q:World)(e:Ce)(T:TypeId):R5 T (Q.alloc (.cells #[.string e.t,Iq e.f,Iq e.g,Iq e.b,Iq e.p] T)) Q.heap.size e:=heap_alloc_new _ _
end
theorem Chm.set5{M o0 o1 o2 o3 o4:Nat}{W W':World}(h:Chm M W W')(v0 v1 v2 v3 v4:Value):Chm M W (((((W'.setCell ⟨M,o0,none⟩ v0).setCell ⟨M,o1,none⟩ v1).setCell ⟨M,o2,none⟩ v2).setCell ⟨M,o3,none⟩ v3).setCell ⟨M,o4,none⟩ v4):=
 ((((h.set (.inl rfl) _ _).set (.inl rfl) _ _).set (.inl rfl) _ _).set (.inl rfl) _ _).set (.inl rfl) _ _
theorem R4.ch{T:TypeId}{Q Q':World}{b k:Nat}{x y a c:Int}(h:R4 T Q b x y a c)(g:Chm k Q Q')(hk:b≠k):R4 T Q' b x y a c:=(g.block b h.lt hk).trans h
section
variable{K M cap W H:Nat} {c:Nat->Nat->Ce}
theorem stretch_int(w:World)(h:CS 89 34 w K M cap W H c)(hW:1≤W∧W≤400)(hH:H≤400)(hp:PAll W H c)(y a z:Int)(hy:0≤y∧y<H)(ha:0≤a∧a<z)(hz:z≤W):Calls prog 65 #[Pq K,Iq y,Iq a,Iq z] w fun e w'=>e=.returned (.slice (some ⟨M,y.toNat*W*5+a.toNat*5,none⟩) (z-a).toNat (z-a).toNat)∧Cv 34 w' M W H (cut c y.toNat a.toNat (z.toNat-1))∧Chm M w w':=by obtain⟨Y,rfl⟩:=Int.eq_ofNat_of_zero_le hy.1;obtain⟨A,rfl⟩:=Int.eq_ofNat_of_zero_le ha.1;obtain⟨Q,rfl⟩:∃Q:Nat,z=(Q:Int)+1:=⟨(z-1).toNat,by omega⟩;have:=stretch_any w h (by omega) hW.2 hH Y A Q (by omega) (by omega) (by omega) (hp Y (by omega));rw[show((Q:Int)+1-(A:Int)).toNat=Q+1-A by omega,show((Y:Int)).toNat=Y from rfl,show((A:Int)).toNat=A from rfl,show((Q:Int)+1).toNat-1=Q by omega];exact this
theorem cfill_any(w:World)(h:CS 89 34 w K M cap W H c)(hW:1≤W∧W≤400)(hH:1≤H∧H≤400)(hp:PAll W H c)(x y a b f g bd cx cy ca cb:Int)(l t u v:Int)(hq:seenQ W H x y a b cx cy ca cb=(l,t,u,v)):
 Calls prog 34 #[Pq K,rv x y a b,sv f g bd,rv cx cy ca cb] w fun e w'=>e=.returned (.tuple #[])∧Cv 34 w' M W H (fill c l.toNat (l+u).toNat t.toNat (t+v).toNat (fun _=>bk (kn f) (kn g) (bo bd)))∧Chm M w w':=by
 have SF:=seen_facts (W:=W) (H:=H) (by omega) (by omega) x y a b cx cy ca cb;have SN:Hid (∀w0,CS 89 34 w0 K M cap W H c->Calls prog 63 #[Pq K,rv x y a b,rv cx cy ca cb] w0 fun e w'=>e=.returned (rv l t u v)∧Gr w0 w'):=fun w0 h0=>by have:=seen_any w0 h0 x y a b cx cy ca cb;rw[hq]at this;exact this
 rw[hq]at SF;have CN:Hid (∀f g b w,Calls prog 64 #[sv f g b] w fun e w'=>e=.returned (sv (kn f) (kn g) (bo b))∧Gr w w'):=counts_any;have BL:Hid (∀f g b w,Calls prog 32 #[sv f g b] w fun e w'=>e=.returned (cev (bk f g b))∧Gr w w'):=cblank_any;have HC:Hid (CS 89 34 w K M cap W H c):=h;have HP:Hid (PAll W H c):=hp;clear h hp hq;obtain⟨e,he⟩:=nmd (bk (kn f) (kn g) (bo bd));have B1:=BL (kn f) (kn g) (bo bd);rw[he]at B1⊢;have HE:Hid (e.p=0):=by rw[<-he];rfl
 clear he BL;have C1:=CN f g bd;obtain⟨kf,hkf⟩:=nmd (kn f);obtain⟨kg,hkg⟩:=nmd (kn g);obtain⟨kb,hkb⟩:=nmd (bo bd);rw[hkf,hkg,hkb]at B1 C1;clear hkf hkg hkb CN;unfold rv at SN;unfold rv sv;unfold sv cev at B1;unfold sv at C1;have l0:=SF.l0;have t0:=SF.t0;have u0:=SF.u0;have v0:=SF.v0;have lu:=SF.lu;have tv:=SF.tv;have HS:Hid (0<u↔0<v):=SF.uv;clear SF;go_enter func34,ntmps34;go_wp2_with fail;refine Calls.mono (SN _ (HC.gr ((((Gr.refl w).alloc _).alloc _).alloc _))) ?_;rintro e1 w1 ⟨rfl,g1⟩;have G1:Hid (Gr w w1):=((((Gr.refl w).alloc _).alloc _).alloc _).trans g1;have RS:Hid (R3 32 w1 (w.heap.size+1) f g bd):=by have:=R3.new (w.alloc (.cells #[Iq x,Iq y,Iq a,Iq b] 56)) f g bd 32;simp only[World.size_alloc]at this;exact(this.gr ((Gr.refl _).alloc _)).gr g1
 clear g1 SN;have s0:=RS.c0;have s1:=RS.c1;have s2:=RS.c2;have sl:=RS.lt;go_wp2_with fail;refine Calls.mono (C1 _) ?_;rintro e2 w2 ⟨rfl,g2⟩;have RR:Hid (R4 56 w2 w1.heap.size l t u v):=(R4.new w1 _ _ _ _ _).gr g2;have G2:Hid (Gr w w2):=(G1.alloc _).trans g2;have Z1:Hid (w.heap.size≤w1.heap.size):=G1.size;obtain⟨Z,hZ⟩:=nmd w1.heap.size;rw[hZ]at RR Z1;rw[hZ];clear hZ g2 s0 s1 s2 sl RS C1 G1;go_wp2_with fail;refine Calls.mono (B1 _) ?_;rintro e3 w3 ⟨rfl,g3⟩;have R2:Hid (R4 56 w3 Z l t u v):=RR.gr g3;have G3:Hid (Gr w w3):=G2.trans g3;clear g3 B1 RR G2;obtain⟨W4,hW4⟩:=nmd (w3.alloc (.cells #[.string e.t,Iq e.f,Iq e.g,Iq e.b,Iq e.p] 34));have R4':Hid (R4 56 W4 Z l t u v):=by rw[<-hW4];exact R2.gr ((Gr.refl _).alloc _)
 have G4:Hid (Gr w W4):=by rw[<-hW4];exact G3.alloc _
 have P4:Hid (R5 34 W4 w3.heap.size e):=by rw[<-hW4];exact R5.new w3 e _
 have Z2:Hid (w.heap.size≤w3.heap.size):=G3.size;obtain⟨P,hP⟩:=nmd w3.heap.size;rw[hP]at P4 Z2;have HM:Hid (M<w.heap.size):=HC.cv.lt;have ZM:Hid (Z≠M):=(fun q=>by have:=HM.out;have:=Z1.out;omega:Z≠M);have PM:Hid (P≠M):=(fun q=>by have:=HM.out;have:=Z2.out;omega:P≠M);have KM:Hid (K≠M):=HC.ne;have x0:=R4'.c0;have x1:=R4'.c1;have x2:=R4'.c2;have x3:=R4'.c3;go_wp2_with fail;clear hP hW4 R2 G3;go_loopw[10] (fun yv wr=>∃k:Int,t≤k∧k≤t+v∧yv=Iq k∧Hid (Cv 34 wr M W H (fill c l.toNat (l+u).toNat t.toNat k.toNat (fun _=>e))∧Chm M w wr∧R4 56 wr Z l t u v∧R5 34 wr P e)) (fun yv _=>(t+v-intOf yv).toNat);case atStart=>exact⟨t,by omega,by omega,rfl,by rw[fill_none (by omega)];exact HC.cv.gr G4,Chm.gr G4,R4',P4⟩
 case round=>
  obtain⟨k,hk1,hk2,rfl,HR⟩:=hrel;clear x0 x1 x2 x3 R4' P4 G4;have x0:=HR.2.2.1.c0;have x1:=HR.2.2.1.c1;have x2:=HR.2.2.1.c2;have x3:=HR.2.2.1.c3;by_cases hlt:k<t+v
  ·have hv:0<v:=by omega
   have hu:0<u:=HS.2 hv;obtain⟨U,hU⟩:∃U:Nat,(U:Int)=u:=⟨u.toNat,by omega⟩;have ST:Hid (Calls prog 65 #[Pq K,Iq k,Iq l,Iq (l+u)] wr fun e' w'=>e'=.returned (.slice (some ⟨M,k.toNat*W*5+l.toNat*5,none⟩) U U)∧Cv 34 w' M W H (cut (fill c l.toNat (l+u).toNat t.toNat k.toNat (fun _=>e)) k.toNat l.toNat ((l+u).toNat-1))∧Chm M wr w'):=by have:=stretch_int wr (HC.put HR.2.1 HR.1) hW hH.2 (HP.fill0 (by omega) (fun _=>HE)) k l (l+u) (by omega) (by omega) lu;rw[show(l+u-l).toNat=U by omega]at this;exact this
   obtain⟨o,ho⟩:=nmd (k.toNat*W*5+l.toNat*5);have HO:Hid (k.toNat*W*5+l.toNat*5=o):=ho;rw[ho]at ST;clear ho;have hUb:U≤400:=by omega
   have HU:Hid ((U:Int)=u):=hU;clear hU;have HQ:Hid ((l+u).toNat-1+1-l.toNat=U∧(l+u).toNat-1+1=(l+u).toNat∧l.toNat≤(l+u).toNat-1):=⟨by have:=HU.out;omega,by omega,by omega⟩;go_wp2_with(go_at_call 65;refine Calls.mono ST ?_;rintro e4 w4 ⟨rfl,V4,C4⟩;have HV4:Hid (Cv 34 w4 M W H (part (fill c l.toNat (l+u).toNat t.toNat k.toNat (fun _=>e)) k.toNat l.toNat ((l+u).toNat-1) 0 (fun _=>e))∧Chm M w w4∧R4 56 w4 Z l t u v∧R5 34 w4 P e):=(⟨(by rw[part_zero];exact V4),HR.2.1.trans C4,HR.2.2.1.ch C4 ZM,HR.2.2.2.ch C4 PM⟩:Cv 34 w4 M W H (part (fill c l.toNat (l+u).toNat t.toNat k.toNat (fun _=>e)) k.toNat l.toNat ((l+u).toNat-1) 0 (fun _=>e))∧Chm M w w4∧R4 56 w4 Z l t u v∧R5 34 w4 P e);clear V4 C4);go_loopw[43] (fun iv wi=>∃i:Nat,i≤U∧iv=Iq i∧Hid (Cv 34 wi M W H (part (fill c l.toNat (l+u).toNat t.toNat k.toNat (fun _=>e)) k.toNat l.toNat ((l+u).toNat-1) i (fun _=>e))∧Chm M w wi∧R4 56 wi Z l t u v∧R5 34 wi P e)) (fun iv _=>U-(intOf iv).toNat);case atStart=>exact⟨0,by omega,rfl,HV4⟩
   case round=>
    obtain⟨i,hi,rfl,HI⟩:=hrel;by_cases hil:i<U
    ·have hx:l.toNat+i<W:=by have:=HU.out;omega
     have hy:k.toNat<H:=by omega
     have d0:=HI.1.c0 hy hx;have d1:=HI.1.c1 hy hx;have d2:=HI.1.c2 hy hx;have d3:=HI.1.c3 hy hx;have d4:=HI.1.c4 hy hx;have eo:k.toNat*W*5+(l.toNat+i)*5=o+i*5:=by rw[<-HO.out];omega
     rw[eo]at d0 d1 d2 d3 d4;have EO:Hid (k.toNat*W*5+(l.toNat+i)*5=o+i*5):=eo;clear eo;have fz:=HI.1.fz;have p0:=HI.2.2.2.c0;have p1:=HI.2.2.2.c1;have p2:=HI.2.2.2.c2;have p3:=HI.2.2.2.c3;have p4:=HI.2.2.2.c4;have hil':(i:Int)<(U:Int):=by omega
     go_wp2;go_roundw;case rel=>have VS:=HI.1.set hy hx e;rw[EO.out,cpart_next _ _ _ _ _ (fun _=>e)]at VS;exact⟨i+1,by omega,by go_num,VS,HI.2.1.set5 _ _ _ _ _,HI.2.2.1.ch ((Chm.refl M _).set5 _ _ _ _ _) ZM,HI.2.2.2.ch ((Chm.refl M _).set5 _ _ _ _ _) PM⟩
     case measure=>simp[intOf];omega
    ·have hil':¬(i:Int)<(U:Int):=by omega
     have hiU:i=U:=by omega
     have VD:Hid (Cv 34 wr M W H (fill c l.toNat (l+u).toNat t.toNat (k+1).toNat (fun _=>e))):=by have:=HI.1;rw[hiU,<-HQ.1,part_done _ _ _ _ _ HQ.2.2,HQ.2.1,fill_next (by omega),show k.toNat+1=(k+1).toNat by omega]at this;exact this
     go_wp2;go_roundw;case rel=>exact⟨k+1,by omega,by omega,by go_num,VD,HI.2⟩
     case measure=>simp[intOf];omega
  ·have hkk:k=t+v:=by omega
   go_wp2;go_end0;exact⟨rfl,by have:=HR.1;rw[hkk]at this;exact this,HR.2.1⟩
end
end
section
open Go.RowKit Go.Sort
theorem cell_up{U U':World}(hb:Below U.heap.size U U'){a:Addr}{v:Value}(h:U.cell? a=some v):U'.cell? a=some v:=
 (World.cell?_of_block (hb.block a.block (World.block_lt_of_cell? U a h))).trans h
end
section
open Go.RowKit Go.Sort Go.Proofs.Tryz
theorem lnum_any(n:Int)(w:World):Calls prog 8 #[Iq n] w fun e w'=>e=.returned (Iq n)∧w'=w:=by go_enter func8,ntmps8;go_wp2;go_ret;exact⟨rfl,rfl⟩
end
end Go.Proofs.YtmbefonnkkhfgaaGreatDoor
