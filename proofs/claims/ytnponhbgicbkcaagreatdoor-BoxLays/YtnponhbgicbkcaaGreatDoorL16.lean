import Derived.Test.YtnponhbgicbkcaaGreatDoorProg
import Derived.WalkSpells
import Derived.WalkLawsBesides
import Derived.BigQuiet
import Derived.Deep.RegionWith
import Derived.Deep.RegionHeld
import Derived.Deep.CutRange
import Derived.Shelf.SlSortCmp.QuietGrown
import Derived.Test.YtnponhbgicbkcaaGreatDoorL00
set_option linter.unusedVariables false
set_option maxRecDepth 100000
set_option maxHeartbeats 16000000
namespace Go.Proofs.YtnponhbgicbkcaaGreatDoor
section
open Go.RowKit Go.Sort
def Gr(w w':World):Prop:=∃q os,w'=grow (w.drewN q) os
theorem Gr.refl w :Gr w w:=⟨0,#[],by simp;rfl⟩
theorem Gr.trans{a b c}(h:Gr a b)(k:Gr b c):Gr a c:=by obtain⟨q,os,rfl⟩:=h;obtain⟨q2,os2,rfl⟩:=k;exact⟨q+q2,os++os2,by show grow (grow ((a.drewN q).drewN q2) os) os2=_;rw[grow_grow,World.drewN_drewN]⟩
theorem Gr.alloc{a b}(h:Gr a b) o :Gr a (b.alloc o):=h.trans ⟨0,#[o],alloc_eq_grow b o⟩
theorem Gr.drew{a b}(h:Gr a b):Gr a b.drew:=h.trans ⟨1,#[],by simp;rfl⟩
theorem Gr.drewN{a b}(h:Gr a b) n :Gr a (b.drewN n):=h.trans ⟨n,#[],by simp⟩
theorem Gr.size{a b}(h:Gr a b):a.heap.size≤b.heap.size:=by obtain⟨q,os,rfl⟩:=h;rw[size_grow];exact Nat.le_add_right _ _
theorem Gr.block{a b}(h:Gr a b){k}(hk:k<a.heap.size):b.heap[k]?=a.heap[k]?:=by obtain⟨q,os,rfl⟩:=h;exact heap_grow_old _ _ hk
theorem Gr.set{a b}(h:Gr a b){k o}(hk:a.heap.size≤k) v :Gr a (b.setCell ⟨k,o,none⟩ v):=by obtain⟨q,os,rfl⟩:=h;exact⟨q,_,by unfold World.setCell grow;simp only;rw[modify_append_right (a.drewN q).heap os k _ hk]⟩
theorem Gr.below{a b}(h:Gr a b):Below a.heap.size a b:=⟨by obtain⟨q,os,rfl⟩:=h;rfl,by obtain⟨q,os,rfl⟩:=h;rfl,by obtain⟨q,os,rfl⟩:=h;rfl,h.size,fun k hk=>h.block hk⟩
end
section
open Go.RowKit Go.Proofs.Tryz
def posI(n:Int):Int:=min (max n (-100000)) 100000
def lenI(n:Int):Int:=min (max n 0) 100000
def rv(x y w h:Int):Value:=.agg #[Iq x,Iq y,Iq w,Iq h]
theorem posI_bd n :-100000≤posI n∧posI n≤100000:=by unfold posI;omega
theorem lenI_bd n :0≤lenI n∧lenI n≤100000:=by unfold lenI;omega
theorem length_any n  w :Calls prog 44 #[Iq n] w fun e w'=>e=.returned (Iq (lenI n))∧w'=w:=by go_enter func44,ntmps44;go_wp2;all_goals go_ret;refine⟨?_,rfl⟩;refine congrArg (fun n:Int=>Ending.returned (Iq n)) (?_:_=lenI n);unfold lenI;omega
theorem position_any n  w :Calls prog 69 #[Iq n] w fun e w'=>e=.returned (Iq (posI n))∧w'=w:=by go_enter func69,ntmps69;go_wp2;all_goals go_ret;refine⟨?_,rfl⟩;refine congrArg (fun n:Int=>Ending.returned (Iq n)) (?_:_=posI n);unfold posI;omega
theorem clamped_any x y a b  w :Calls prog 39 #[rv x y a b] w fun e w'=>e=.returned (rv (posI x) (posI y) (lenI a) (lenI b))∧w'=((w.alloc (.cells #[Iq x,Iq y,Iq a,Iq b] 48)).alloc (.cells #[Iq (posI x),Iq (posI y),Iq (lenI a),Iq (lenI b)] 48)).drew:=by have P:=qH<|position_any;have G:=qH<|length_any;unfold rv;go_enter func39,ntmps39;go_wp2_with fail;obtain⟨px,hpx⟩:=nmd (posI x);obtain⟨py,hpy⟩:=nmd (posI y);obtain⟨la,hla⟩:=nmd (lenI a);obtain⟨lb,hlb⟩:=nmd (lenI b);have P1:=P x;have P2:=P y;have G1:=G a;have G2:=G b;rw[hpx]at P1;rw[hpy]at P2;rw[hla]at G1;rw[hlb]at G2;go_region_held(fun W=>W.cell? ⟨w.heap.size,0,none⟩=some (Iq x)∧W.cell? ⟨w.heap.size,1,none⟩=some (Iq y)∧W.cell? ⟨w.heap.size,2,none⟩=some (Iq a)∧W.cell? ⟨w.heap.size,3,none⟩=some (Iq b)) (go_keep) (first|(go_at_call 69;first|(refine(P1 _).mono ?_;rintro e w2 ⟨rfl,rfl⟩)|(refine(P2 _).mono ?_;rintro e w2 ⟨rfl,rfl⟩))|(go_at_call 44;first|(refine(G1 _).mono ?_;rintro e w2 ⟨rfl,rfl⟩)|(refine(G2 _).mono ?_;rintro e w2 ⟨rfl,rfl⟩)));go_wp2;refine bodyPost_ret (v:=rv px py la lb) (by simp[results,Tryz.results39,go_sem,rv]) rfl ?_;subst hpx hpy hla hlb;exact⟨rfl,rfl⟩
end
section
open Go.RowKit Go.Sort Go.Proofs.Tryz
def R4(T:TypeId)(W:World)(b:Nat)(x y a c:Int):Prop:=W.heap[b]?=some (.cells #[Iq x,Iq y,Iq a,Iq c] T (0,0))
section
variable{T:TypeId} {W W':World} {b k o:Nat} {x y a c:Int}
theorem R4.lt(h:R4 T W b x y a c):b<W.heap.size:=(Array.getElem?_eq_some_iff.1 h).1
theorem R4.c0(h:R4 T W b x y a c):W.cell? ⟨b,0,none⟩=some (Iq x):=by unfold R4 at h;simp[World.cell?,h]
theorem R4.c1(h:R4 T W b x y a c):W.cell? ⟨b,1,none⟩=some (Iq y):=by unfold R4 at h;simp[World.cell?,h]
theorem R4.c2(h:R4 T W b x y a c):W.cell? ⟨b,2,none⟩=some (Iq a):=by unfold R4 at h;simp[World.cell?,h]
theorem R4.c3(h:R4 T W b x y a c):W.cell? ⟨b,3,none⟩=some (Iq c):=by unfold R4 at h;simp[World.cell?,h]
theorem R4.fz(h:R4 T W b x y a c) j :W.frozen? ⟨b,j,none⟩=false:=frozen_of_row _ _ _ _ _ h
theorem R4.gr(h:R4 T W b x y a c)(g:Gr W W'):R4 T W' b x y a c:=(g.block h.lt).trans h
theorem R4.new(W:World) x y a c  T :R4 T (W.alloc (.cells #[Iq x,Iq y,Iq a,Iq c] T)) W.heap.size x y a c:=heap_alloc_new _ _
theorem R4.other(h:R4 T W b x y a c)(hk:b≠k) v :R4 T (W.setCell ⟨k,o,none⟩ v) b x y a c:=(Below.heap_setCell W ⟨k,o,none⟩ v b hk).trans h
theorem R4.set(h:R4 T W b x y a c) x' y' a' c' :R4 T ((((W.setCell ⟨b,0,none⟩ (Iq x')).setCell ⟨b,1,none⟩ (Iq y')).setCell ⟨b,2,none⟩ (Iq a')).setCell ⟨b,3,none⟩ (Iq c')) b x' y' a' c':=
 heap_setCell_same _ b 3 _ T _ (heap_setCell_same _ b 2 _ T _ (heap_setCell_same _ b 1 _ T _ (heap_setCell_same _ b 0 _ T _ h)))
theorem R4.others(h:R4 T W b x y a c)(hk:b≠k) v0 v1 v2 v3 :R4 T ((((W.setCell ⟨k,0,none⟩ v0).setCell ⟨k,1,none⟩ v1).setCell ⟨k,2,none⟩ v2).setCell ⟨k,3,none⟩ v3) b x y a c:=(((h.other hk v0).other hk v1).other hk v2).other hk v3
theorem Gr.set4(h:Gr W W')(hk:W.heap.size≤k) v0 v1 v2 v3 :Gr W ((((W'.setCell ⟨k,0,none⟩ v0).setCell ⟨k,1,none⟩ v1).setCell ⟨k,2,none⟩ v2).setCell ⟨k,3,none⟩ v3):=(((h.set hk v0).set hk v1).set hk v2).set hk v3
end
theorem clamped_gr x y a b  w :Calls prog 39 #[rv x y a b] w fun e w'=>e=.returned (rv (posI x) (posI y) (lenI a) (lenI b))∧Gr w w':=
 (clamped_any x y a b w).mono fun e w' ⟨he,hw⟩=>⟨he,by rw[hw];exact(((Gr.refl w).alloc _).alloc _).drew⟩
def capL(ax aw bx bw:Int):Int:=max (posI ax) (posI bx)
def capR(ax aw bx bw:Int):Int:=min (posI ax+lenI aw) (posI bx+lenI bw)
def capV(ax ay aw ah bx by_ bw bh:Int):Value:=if capL ax aw bx bw≥capR ax aw bx bw∨capL ay ah by_ bh≥capR ay ah by_ bh then rv 0 0 0 0 else rv (capL ax aw bx bw) (capL ay ah by_ bh) (capR ax aw bx bw-capL ax aw bx bw) (capR ay ah by_ bh-capL ay ah by_ bh)
theorem cap_any ax ay aw ah bx by_ bw bh  w :Calls prog 66 #[rv ax ay aw ah,rv bx by_ bw bh] w fun e w'=>e=.returned (capV ax ay aw ah bx by_ bw bh)∧Gr w w':=by
 have CC:=qH<|clamped_gr;unfold rv at CC⊢;go_enter func66,ntmps66;go_wp2_with fail;obtain⟨A,hA⟩:=nmd w.heap.size;obtain⟨W0,hW0⟩:=nmd (((w.alloc (.cells #[Iq ax,Iq ay,Iq aw,Iq ah] 48)).alloc (.cells #[Iq bx,Iq by_,Iq bw,Iq bh] 48)).alloc (.cells #[Iq 0,Iq 0,Iq 0,Iq 0] 48));have G0:Hid (Gr w W0):=by rw[<-hW0];exact(((Gr.refl w).alloc _).alloc _).alloc _
 have RA:Hid (R4 48 W0 A ax ay aw ah):=by rw[<-hW0,<-hA];exact(R4.new w _ _ _ _ _).gr (((Gr.refl _).alloc _).alloc _)
 have RB:Hid (R4 48 W0 (A+1) bx by_ bw bh):=by have:=R4.new (w.alloc (.cells #[Iq ax,Iq ay,Iq aw,Iq ah] 48)) bx by_ bw bh 48;simp only[World.size_alloc,hA]at this;rw[<-hW0];exact this.gr ((Gr.refl _).alloc _)
 have RC:Hid (R4 48 W0 (A+1+1) 0 0 0 0):=by have:=R4.new ((w.alloc (.cells #[Iq ax,Iq ay,Iq aw,Iq ah] 48)).alloc (.cells #[Iq bx,Iq by_,Iq bw,Iq bh] 48)) 0 0 0 0 48;simp only[World.size_alloc,hA]at this;rw[<-hW0];exact this
 rw[hW0,hA];clear hW0;have HA:=qH<|hA;clear hA;have a0:=RA.c0;have a1:=RA.c1;have a2:=RA.c2;have a3:=RA.c3;have b0:=RB.c0;have b1:=RB.c1;have b2:=RB.c2;have b3:=RB.c3;obtain⟨px,hpx⟩:=nmd (posI ax);obtain⟨py,hpy⟩:=nmd (posI ay);obtain⟨pa,hpa⟩:=nmd (lenI aw);obtain⟨pb,hpb⟩:=nmd (lenI ah);obtain⟨qx,hqx⟩:=nmd (posI bx);obtain⟨qy,hqy⟩:=nmd (posI by_);obtain⟨qa,hqa⟩:=nmd (lenI bw);obtain⟨qb,hqb⟩:=nmd (lenI bh);go_cut[2,3,4]from 9 to 12 (fun u v t wx=>u=Pq A∧v=Pq (A+1)∧t=Pq (A+1+1)∧Hid (R4 48 wx A px py pa pb∧R4 48 wx (A+1) qx qy qa qb∧R4 48 wx (A+1+1) 0 0 0 0∧Gr w wx));case first=>
  go_region_with(go_at_call 39;refine(CC _ _ _ _ _).mono ?_;rintro e wn ⟨rfl,hgn⟩;have HGn:=qH<|(by first|exact((Gr.refl W0).drew).trans hgn|exact Gr.trans (Hid.out (by assumption)) hgn);have HAn:=qH<|RA.gr HGn;have HBn:=qH<|RB.gr HGn;clear hgn;have m0:=HAn.c0;have m1:=HAn.c1;have m2:=HAn.c2;have m3:=HAn.c3;have n0:=HBn.c0;have n1:=HBn.c1;have n2:=HBn.c2;have n3:=HBn.c3;have f0:=HAn.fz 0;have f1:=HAn.fz 1;have f2:=HAn.fz 2;have f3:=HAn.fz 3;have g0:=HBn.fz 0;have g1:=HBn.fz 1;have g2:=HBn.fz 2;have g3:=HBn.fz 3);all_goals
   have HO:Hid (R4 48 ((((((((wn.setCell ⟨A,0,none⟩ (Iq px)).setCell ⟨A,1,none⟩ (Iq py)).setCell ⟨A,2,none⟩ (Iq pa)).setCell ⟨A,3,none⟩ (Iq pb)).setCell ⟨A+1,0,none⟩ (Iq qx)).setCell ⟨A+1,1,none⟩ (Iq qy)).setCell ⟨A+1,2,none⟩ (Iq qa)).setCell ⟨A+1,3,none⟩ (Iq qb)) A px py pa pb∧R4 48 ((((((((wn.setCell ⟨A,0,none⟩ (Iq px)).setCell ⟨A,1,none⟩ (Iq py)).setCell ⟨A,2,none⟩ (Iq pa)).setCell ⟨A,3,none⟩ (Iq pb)).setCell ⟨A+1,0,none⟩ (Iq qx)).setCell ⟨A+1,1,none⟩ (Iq qy)).setCell ⟨A+1,2,none⟩ (Iq qa)).setCell ⟨A+1,3,none⟩ (Iq qb)) (A+1) qx qy qa qb∧R4 48 ((((((((wn.setCell ⟨A,0,none⟩ (Iq px)).setCell ⟨A,1,none⟩ (Iq py)).setCell ⟨A,2,none⟩ (Iq pa)).setCell ⟨A,3,none⟩ (Iq pb)).setCell ⟨A+1,0,none⟩ (Iq qx)).setCell ⟨A+1,1,none⟩ (Iq qy)).setCell ⟨A+1,2,none⟩ (Iq qa)).setCell ⟨A+1,3,none⟩ (Iq qb)) (A+1+1) 0 0 0 0∧Gr w ((((((((wn.setCell ⟨A,0,none⟩ (Iq px)).setCell ⟨A,1,none⟩ (Iq py)).setCell ⟨A,2,none⟩ (Iq pa)).setCell ⟨A,3,none⟩ (Iq pb)).setCell ⟨A+1,0,none⟩ (Iq qx)).setCell ⟨A+1,1,none⟩ (Iq qy)).setCell ⟨A+1,2,none⟩ (Iq qa)).setCell ⟨A+1,3,none⟩ (Iq qb))):=
    ⟨(HAn.set px py pa pb).others (by omega) _ _ _ _,(HBn.others (by omega) _ _ _ _).set qx qy qa qb,((RC.gr HGn).others (by omega) _ _ _ _).others (by omega) _ _ _ _,((G0.trans HGn).set4 (by rw[HA.out];omega) _ _ _ _).set4 (by rw[HA.out];omega) _ _ _ _⟩;clear m0 m1 m2 m3 n0 n1 n2 n3 f0 f1 f2 f3 g0 g1 g2 g3 a0 a1 a2 a3 b0 b1 b2 b3 HAn HBn;go_wp2_with fail;go_meet;exact⟨rfl,rfl,rfl,HO⟩
 case rest=>
  obtain⟨rfl,rfl,rfl,HO⟩:=hcut;clear a0 a1 a2 a3 b0 b1 b2 b3 RA RB RC;have a0:=HO.1.c0;have a1:=HO.1.c1;have a2:=HO.1.c2;have a3:=HO.1.c3;have b0:=HO.2.1.c0;have b1:=HO.2.1.c1;have b2:=HO.2.1.c2;have b3:=HO.2.1.c3;have bpx:=posI_bd ax;have bpy:=posI_bd ay;have bpa:=lenI_bd aw;have bpb:=lenI_bd ah;have bqx:=posI_bd bx;have bqy:=posI_bd by_;have bqa:=lenI_bd bw;have bqb:=lenI_bd bh;rw[hpx]at bpx;rw[hpy]at bpy;rw[hpa]at bpa;rw[hpb]at bpb;rw[hqx]at bqx;rw[hqy]at bqy;rw[hqa]at bqa;rw[hqb]at bqb;go_wp2_with fail;go_cut[5,6]from 13 to 28 (fun u v wx=>u=Iq (max px qx)∧v=Iq (min (px+pa) (qx+qa))∧∃q,wx=wc.drewN q);case first=>by_cases h1:px<qx;iterate 2 ·by_cases h2:px+pa≤qx+qa;iterate 2 ·go_quiet(fail);go_wp2_with fail;go_meet;exact⟨congrArg (Value.int .i64) (by omega),congrArg (Value.int .i64) (by omega),_,rfl⟩
  case rest=>
   obtain⟨rfl,rfl,q1,rfl⟩:=hcut;go_wp2_with fail;go_cut[7,8]from 29 to 44 (fun u v wx=>u=Iq (max py qy)∧v=Iq (min (py+pb) (qy+qb))∧∃q,wx=wc.drewN q);case first=>by_cases h1:py<qy;iterate 2 ·by_cases h2:py+pb≤qy+qb;iterate 2 ·go_quiet(fail);go_wp2_with fail;go_meet;exact⟨congrArg (Value.int .i64) (by omega),congrArg (Value.int .i64) (by omega),q1+nq,by first|rfl|exact World.drewN_drewN _ _ _⟩
   case rest=>
    obtain⟨rfl,rfl,q2,rfl⟩:=hcut;obtain⟨W1,hW1⟩:=nmd (wc.drewN q2);have G1:Hid (Gr wc W1):=by rw[<-hW1];exact(Gr.refl _).drewN _
    rw[hW1];have R1:=qH<|HO.2.2.1.gr G1;have GG:=qH<|HO.2.2.2.trans G1;clear hW1 a0 a1 a2 a3 b0 b1 b2 b3 HO;have c0:=R1.c0;have c1:=R1.c1;have c2:=R1.c2;have c3:=R1.c3;have f0:=R1.fz 0;have f1:=R1.fz 1;have f2:=R1.fz 2;have f3:=R1.fz 3;obtain⟨l,hl⟩:=nmd (max px qx);obtain⟨r,hr⟩:=nmd (min (px+pa) (qx+qa));obtain⟨t,ht⟩:=nmd (max py qy);obtain⟨d,hd⟩:=nmd (min (py+pb) (qy+qb));have HV:Hid (capV ax ay aw ah bx by_ bw bh=if l≥r∨t≥d then rv 0 0 0 0 else rv l t (r-l) (d-t)):=by show _=_;unfold capV capL capR;rw[hpx,hpy,hpa,hpb,hqx,hqy,hqa,hqb,hl,hr,ht,hd]
    have bl:-100000≤l∧l≤100000:=by omega
    have br:-100000≤r∧r≤200000:=by omega
    have bt:-100000≤t∧t≤100000:=by omega
    have bd:-100000≤d∧d≤200000:=by omega
    rw[hl,hr,ht,hd];clear hpx hpy hpa hpb hqx hqy hqa hqb hl hr ht hd bpx bpy bpa bpb bqx bqy bqa bqb;by_cases h1:r≤l;·have e1:=decide_eq_true h1;go_wp2;refine bodyPost_ret (results_cell_row rfl _ _ (A+1+1) _ _ _ _ rfl (R1.set 0 0 0 0) underlying48 rfl (by kernel_rfl)) rfl ?_;exact⟨by rw[HV.out,if_pos (.inl h1)];rfl,GG.set4 (by rw[HA.out];omega) _ _ _ _⟩
    ·have e1:=decide_eq_false h1;by_cases h2:d≤t;·have e2:=decide_eq_true h2;go_wp2;refine bodyPost_ret (results_cell_row rfl _ _ (A+1+1) _ _ _ _ rfl (R1.set 0 0 0 0) underlying48 rfl (by kernel_rfl)) rfl ?_;exact⟨by rw[HV.out,if_pos (.inr h2)];rfl,GG.set4 (by rw[HA.out];omega) _ _ _ _⟩
     ·have e2:=decide_eq_false h2;go_wp2;refine bodyPost_ret (results_cell_row rfl _ _ (A+1+1) _ _ _ _ rfl (R1.set l t (r-l) (d-t)) underlying48 rfl (by kernel_rfl)) rfl ?_;exact⟨by rw[HV.out,if_neg (by omega)];rfl,GG.set4 (by rw[HA.out];omega) _ _ _ _⟩
end
section
def holdB(x y a b px py:Int):Bool:=decide (posI x≤px∧px<posI x+lenI a∧posI y≤py∧py<posI y+lenI b)
theorem holdB_yes{x y a b px py}(h:posI x≤px∧px<posI x+lenI a∧posI y≤py∧py<posI y+lenI b):holdB x y a b px py=true:=decide_eq_true h
theorem holdB_no{x y a b px py}(h:¬(posI x≤px∧px<posI x+lenI a∧posI y≤py∧py<posI y+lenI b)):holdB x y a b px py=false:=decide_eq_false h
end
section
open Go.RowKit Go.Sort Go.Proofs.Tryz
theorem rv4{a b c d a' b' c' d'}(h0:a=a')(h1:b=b')(h2:c=c')(h3:d=d'):Ending.returned (.agg #[Iq a,Iq b,Iq c,Iq d])=Ending.returned (rv a' b' c' d'):=by subst h0 h1 h2 h3;rfl
def insV(x y a b n:Int):Value:=rv (posI x+min (lenI n) (lenI a/2)) (posI y+min (lenI n) (lenI b/2)) (max 0 (lenI a-2*lenI n)) (max 0 (lenI b-2*lenI n))
theorem inset_any x y a b n  w :Calls prog 101 #[rv x y a b,Iq n] w fun e w'=>e=.returned (insV x y a b n)∧Gr w w':=by
 have CC:Hid (∀x y a b w,Calls prog 39 #[rv x y a b] w fun e w'=>e=.returned (rv (posI x) (posI y) (lenI a) (lenI b))∧Gr w w'):=clamped_gr;have LL:Hid (∀n w,Calls prog 44 #[Iq n] w fun e w'=>e=.returned (Iq (lenI n))∧w'=w):=length_any;have b1:=posI_bd x;have b2:=posI_bd y;have b3:=lenI_bd a;have b4:=lenI_bd b;have b5:=lenI_bd n;obtain⟨A,hA⟩:=nmd (posI x);obtain⟨B,hB⟩:=nmd (posI y);obtain⟨C,hC⟩:=nmd (lenI a);obtain⟨D,hD⟩:=nmd (lenI b);obtain⟨m,hm⟩:=nmd (lenI n);have HV:Hid (insV x y a b n=rv (A+min m (C/2)) (B+min m (D/2)) (max 0 (C-2*m)) (max 0 (D-2*m))):=by show _=_;unfold insV;rw[hA,hB,hC,hD,hm]
 rw[hA]at b1;rw[hB]at b2;rw[hC]at b3;rw[hD]at b4;rw[hm]at b5;unfold rv at CC⊢;go_enter func101,ntmps101;go_wp2_with fail;obtain⟨W0,hW0⟩:=nmd ((w.alloc (.cells #[Iq x,Iq y,Iq a,Iq b] 48)).alloc (.cells #[Iq 0,Iq 0,Iq 0,Iq 0] 48));obtain⟨S,hS⟩:=nmd w.heap.size;have HS:Hid (w.heap.size=S):=hS;have G0:Hid (Gr w W0):=by rw[<-hW0];exact((Gr.refl w).alloc _).alloc _
 have RA:Hid (R4 48 W0 S x y a b):=by rw[<-hW0,<-hS];exact(R4.new w _ _ _ _ _).gr ((Gr.refl _).alloc _)
 have RC:Hid (R4 48 W0 (S+1) 0 0 0 0):=by have:=R4.new (w.alloc (.cells #[Iq x,Iq y,Iq a,Iq b] 48)) 0 0 0 0 48;simp only[World.size_alloc,hS]at this;rw[<-hW0];exact this
 rw[hW0,hS];clear hW0 hS;refine(CC _ _ _ _ _).mono ?_;rintro e w2 ⟨rfl,hg2⟩;have HG:Hid (Gr w w2):=G0.trans hg2;have R2:Hid (R4 48 w2 S x y a b):=RA.gr hg2;have RC2:Hid (R4 48 w2 (S+1) 0 0 0 0):=RC.gr hg2;clear hg2 RA RC G0;have c0:=R2.c0;have c1:=R2.c1;have c2:=R2.c2;have c3:=R2.c3;have f0:=R2.fz 0;have f1:=R2.fz 1;have f2:=R2.fz 2;have f3:=R2.fz 3;rw[hA,hB,hC,hD];go_wp2_with fail;obtain⟨w3,hw3⟩:=nmd ((((w2.setCell ⟨S,0,none⟩ (Iq A)).setCell ⟨S,1,none⟩ (Iq B)).setCell ⟨S,2,none⟩ (Iq C)).setCell ⟨S,3,none⟩ (Iq D));have HG3:Hid (Gr w w3):=by rw[<-hw3];exact HG.set4 (by rw[HS.out];exact Nat.le_refl _) _ _ _ _
 have R3:Hid (R4 48 w3 S A B C D):=by rw[<-hw3];exact R2.set A B C D
 have RC3:Hid (R4 48 w3 (S+1) 0 0 0 0):=by rw[<-hw3];exact RC2.others (by omega) _ _ _ _
 rw[hw3];clear hw3 c0 c1 c2 c3 f0 f1 f2 f3 R2 RC2 HG;refine(LL _ _).mono ?_;rintro e w4 ⟨rfl,hw4⟩;obtain rfl:=hw4.symm;rw[hm];have c0:=R3.c0;have c1:=R3.c1;have c2:=R3.c2;have c3:=R3.c3;have d0:=RC3.c0;have d1:=RC3.c1;have d2:=RC3.c2;have d3:=RC3.c3;have f0:=RC3.fz 0;have f1:=RC3.fz 1;have f2:=RC3.fz 2;have f3:=RC3.fz 3;clear hA hB hC hD hm;have q1:C.tdiv 2=C/2:=Int.tdiv_eq_ediv_of_nonneg b3.1;have q2:D.tdiv 2=D/2:=Int.tdiv_eq_ediv_of_nonneg b4.1;obtain⟨p,hp⟩:=nmd (C/2);obtain⟨q,hq⟩:=nmd (D/2);rw[hp]at q1 HV;rw[hq]at q2 HV;have k1:2*p≤C∧C≤2*p+1:=by omega
 have k2:2*q≤D∧D≤2*q+1:=by omega
 clear hp hq;rcases(by omega:(2*m≤C∧m≤p∧0≤C-2*m)∨(C<2*m∧p≤m∧C-2*m<0))with⟨h1,h1',h1''⟩|⟨h1,h1',h1''⟩<;>rcases(by omega:(2*m≤D∧m≤q∧0≤D-2*m)∨(D<2*m∧q≤m∧D-2*m<0))with⟨h2,h2',h2''⟩|⟨h2,h2',h2''⟩;all_goals go_wp2
 all_goals refine bodyPost_ret (results_cell_row rfl _ _ (S+1) _ _ _ _ rfl (RC3.set _ _ _ _) underlying48 rfl (by kernel_rfl)) rfl ?_;exact⟨by rw[HV.out];exact rv4 (by omega) (by omega) (by omega) (by omega),HG3.set4 (by rw[HS.out];omega) _ _ _ _⟩
end
section
theorem rv_inj{a b c d a' b' c' d'}(h:rv a b c d=rv a' b' c' d'):a=a'∧b=b'∧c=c'∧d=d':=by unfold rv at h;simpa using h
end
section
open Go.RowKit Go.Sort Go.Proofs.Tryz
theorem least_any a b  w :Calls prog 95 #[Iq a,Iq b] w fun e w'=>e=.returned (Iq (min a b))∧w'=w:=by
 go_enter func95,ntmps95;by_cases h:a<b;·go_wp2;go_ret;exact⟨by rw[show min a b=a by omega];rfl,rfl⟩
 ·have h':b≤a:=by omega
  go_wp2;go_ret;exact⟨by rw[show min a b=b by omega];rfl,rfl⟩
theorem greatest_any a b  w :Calls prog 28 #[Iq a,Iq b] w fun e w'=>e=.returned (Iq (max a b))∧w'=w:=by
 go_enter func28,ntmps28;by_cases h:b<a;·go_wp2;go_ret;exact⟨by rw[show max a b=a by omega];rfl,rfl⟩
 ·have h':a≤b:=by omega
  go_wp2;go_ret;exact⟨by rw[show max a b=b by omega];rfl,rfl⟩
theorem rClamped_any n  w :Calls prog 30 #[Iq n] w fun e w'=>e=.returned (Iq (lenI n))∧w'=w:=by
 go_enter func30,ntmps30;by_cases h:n<0;·go_wp2;go_ret;exact⟨by rw[show lenI n=0 by unfold lenI;omega];rfl,rfl⟩
 ·by_cases h2:100000<n;·have h':=h;go_wp2;go_ret;exact⟨by rw[show lenI n=100000 by unfold lenI;omega];rfl,rfl⟩
  ·have h':n≤100000:=by omega
   have h0:0≤n:=by omega
   go_wp2;go_ret;exact⟨by rw[show lenI n=n by unfold lenI;omega];rfl,rfl⟩
theorem firm_any x y a b  w :Calls prog 68 #[rv x y a b] w fun e w'=>e=.returned (rv (posI x) (posI y) (lenI a) (lenI b))∧Gr w w':=by
 have LS:=qH<|least_any;have GS:=qH<|greatest_any;have CS:=qH<|rClamped_any;obtain⟨px,hpx⟩:=nmd (max (-100000) (min 100000 x));obtain⟨py,hpy⟩:=nmd (max (-100000) (min 100000 y));have ex:posI x=px:=by unfold posI;omega
 have ey:posI y=py:=by unfold posI;omega
 rw[ex,ey];obtain⟨la,hla⟩:=nmd (lenI a);obtain⟨lb,hlb⟩:=nmd (lenI b);unfold rv;rw[hla,hlb];go_enter func68,ntmps68;go_wp2_with(first|(go_at_call 95;refine(LS _ _ _).mono ?_;rintro e w2 ⟨rfl,rfl⟩)|(go_at_call 28;refine(GS _ _ _).mono ?_;rintro e w2 ⟨rfl,rfl⟩));go_region_held(fun W=>W.cell? ⟨w.heap.size,2,none⟩=some (Iq a)∧W.cell? ⟨w.heap.size,3,none⟩=some (Iq b)) (go_keep) (first|(go_at_call 30;refine(CS _ _).mono ?_;rintro e w2 ⟨rfl,rfl⟩));all_goals
  try rw[hla,hlb]
  go_wp2;refine bodyPost_ret (v:=rv px py la lb) (by simp[results,Tryz.results68,go_sem,rv]) rfl ?_;exact⟨rfl,(((Gr.refl w).alloc _).alloc _).drew⟩
theorem rHolds_any x y a b px py  w :Calls prog 38 #[rv x y a b,Iq px,Iq py] w fun e w'=>e=.returned (.bool (holdB x y a b px py))∧Gr w w':=by
 have CC:=qH<|firm_any;have HY:Hid ((posI x≤px∧px<posI x+lenI a∧posI y≤py∧py<posI y+lenI b)->holdB x y a b px py=true):=holdB_yes;have HN:Hid (¬(posI x≤px∧px<posI x+lenI a∧posI y≤py∧py<posI y+lenI b)->holdB x y a b px py=false):=holdB_no;have b1:=posI_bd x;have b2:=posI_bd y;have b3:=lenI_bd a;have b4:=lenI_bd b;obtain⟨A,hA⟩:=nmd (posI x);obtain⟨B,hB⟩:=nmd (posI y);obtain⟨C,hC⟩:=nmd (lenI a);obtain⟨D,hD⟩:=nmd (lenI b);rw[hA,hB,hC,hD]at HY HN;rw[hA]at b1;rw[hB]at b2;rw[hC]at b3;rw[hD]at b4;unfold rv at CC⊢;go_enter func38,ntmps38;go_wp2_with(go_at_call 68;refine(CC _ _ _ _ _).mono ?_;rintro e w2 ⟨rfl,hg2⟩;have HG:=qH<|((Gr.refl w).alloc _).trans hg2;have HR:Hid (R4 45 w2 w.heap.size x y a b):=(R4.new w x y a b _).gr hg2;clear hg2;have c0:=HR.c0;have c1:=HR.c1;have c2:=HR.c2;have c3:=HR.c3;have f0:=HR.fz 0;have f1:=HR.fz 1;have f2:=HR.fz 2;have f3:=HR.fz 3;rw[hA,hB,hC,hD];by_cases h1:A≤px;by_cases h2:B≤py;by_cases h3:px<A+C;by_cases h4:py<B+D);all_goals
  go_ret;first
   |exact⟨by rw[HY (by omega)];rfl,HG.set4 (Nat.le_refl _) _ _ _ _⟩
   |exact⟨by rw[HN (by omega)];rfl,HG.set4 (Nat.le_refl _) _ _ _ _⟩
   |exact⟨by rw[HY (by omega)];exact congrArg (fun z=>Ending.returned (Value.bool z)) (decide_eq_true (by omega)),HG.set4 (Nat.le_refl _) _ _ _ _⟩
   |exact⟨by rw[HN (by omega)];exact congrArg (fun z=>Ending.returned (Value.bool z)) (decide_eq_false (by omega)),HG.set4 (Nat.le_refl _) _ _ _ _⟩
end
section
open Go.RowKit Go.Sort
theorem cell_up{U U'}(hb:Below U.heap.size U U'){a}{v}(h:U.cell? a=some v):U'.cell? a=some v:=
 (World.cell?_of_block (hb.block a.block (World.block_lt_of_cell? U a h))).trans h
end
section
open Go.RowKit Go.Sort Go.Proofs.Tryz
theorem rCap_any ax ay aw ah bx by_ bw bh  w :Calls prog 107 #[rv ax ay aw ah,rv bx by_ bw bh] w fun e w'=>e=.returned (capV ax ay aw ah bx by_ bw bh)∧Gr w w':=by
 have CC:Hid (∀x y a b w,Calls prog 68 #[rv x y a b] w fun e w'=>e=.returned (rv (posI x) (posI y) (lenI a) (lenI b))∧Gr w w'):=firm_any;have LS:Hid (∀a b w,Calls prog 95 #[Iq a,Iq b] w fun e w'=>e=.returned (Iq (min a b))∧w'=w):=least_any;have GS:Hid (∀a b w,Calls prog 28 #[Iq a,Iq b] w fun e w'=>e=.returned (Iq (max a b))∧w'=w):=greatest_any;unfold rv at CC⊢;go_enter func107,ntmps107;go_wp2_with fail;obtain⟨A,hA⟩:=nmd w.heap.size;obtain⟨W0,hW0⟩:=nmd (((w.alloc (.cells #[Iq ax,Iq ay,Iq aw,Iq ah] 45)).alloc (.cells #[Iq bx,Iq by_,Iq bw,Iq bh] 45)).alloc (.cells #[Iq 0,Iq 0,Iq 0,Iq 0] 45));have G0:Hid (Gr w W0):=by rw[<-hW0];exact(((Gr.refl w).alloc _).alloc _).alloc _
 have RA:Hid (R4 45 W0 A ax ay aw ah):=by rw[<-hW0,<-hA];exact(R4.new w _ _ _ _ _).gr (((Gr.refl _).alloc _).alloc _)
 have RB:Hid (R4 45 W0 (A+1) bx by_ bw bh):=by have:=R4.new (w.alloc (.cells #[Iq ax,Iq ay,Iq aw,Iq ah] 45)) bx by_ bw bh 45;simp only[World.size_alloc,hA]at this;rw[<-hW0];exact this.gr ((Gr.refl _).alloc _)
 have RC:Hid (R4 45 W0 (A+1+1) 0 0 0 0):=by have:=R4.new ((w.alloc (.cells #[Iq ax,Iq ay,Iq aw,Iq ah] 45)).alloc (.cells #[Iq bx,Iq by_,Iq bw,Iq bh] 45)) 0 0 0 0 45;simp only[World.size_alloc,hA]at this;rw[<-hW0];exact this
 rw[hW0,hA];clear hW0;have HA:Hid (w.heap.size=A):=hA;clear hA;have a0:=RA.c0;have a1:=RA.c1;have a2:=RA.c2;have a3:=RA.c3;have b0:=RB.c0;have b1:=RB.c1;have b2:=RB.c2;have b3:=RB.c3;obtain⟨px,hpx⟩:=nmd (posI ax);obtain⟨py,hpy⟩:=nmd (posI ay);obtain⟨pa,hpa⟩:=nmd (lenI aw);obtain⟨pb,hpb⟩:=nmd (lenI ah);obtain⟨qx,hqx⟩:=nmd (posI bx);obtain⟨qy,hqy⟩:=nmd (posI by_);obtain⟨qa,hqa⟩:=nmd (lenI bw);obtain⟨qb,hqb⟩:=nmd (lenI bh);clear a0 a1 a2 a3 b0 b1 b2 b3;refine(CC _ _ _ _ _).mono ?_;rintro e w2 ⟨rfl,hg2⟩;have HG:Hid (Gr w w2):=G0.trans hg2;have RA2:Hid (R4 45 w2 A ax ay aw ah):=RA.gr hg2;have RB2:Hid (R4 45 w2 (A+1) bx by_ bw bh):=RB.gr hg2;have RC2:Hid (R4 45 w2 (A+1+1) 0 0 0 0):=RC.gr hg2;clear hg2 RA RB RC G0;have a0:=RA2.c0;have a1:=RA2.c1;have a2:=RA2.c2;have a3:=RA2.c3;have f0:=RA2.fz 0;have f1:=RA2.fz 1;have f2:=RA2.fz 2;have f3:=RA2.fz 3;have b0:=RB2.c0;have b1:=RB2.c1;have b2:=RB2.c2;have b3:=RB2.c3;rw[hpx,hpy,hpa,hpb];go_wp2_with fail;obtain⟨w3,hw3⟩:=nmd ((((w2.setCell ⟨A,0,none⟩ (Iq px)).setCell ⟨A,1,none⟩ (Iq py)).setCell ⟨A,2,none⟩ (Iq pa)).setCell ⟨A,3,none⟩ (Iq pb));have HG3:Hid (Gr w w3):=by rw[<-hw3];exact HG.set4 (by rw[HA.out];exact Nat.le_refl _) _ _ _ _
 have RA3:Hid (R4 45 w3 A px py pa pb):=by rw[<-hw3];exact RA2.set px py pa pb
 have RB3:Hid (R4 45 w3 (A+1) bx by_ bw bh):=by rw[<-hw3];exact RB2.others (by omega) _ _ _ _
 have RC3:Hid (R4 45 w3 (A+1+1) 0 0 0 0):=by rw[<-hw3];exact RC2.others (by omega) _ _ _ _
 rw[hw3];clear hw3 a0 a1 a2 a3 b0 b1 b2 b3 f0 f1 f2 f3 HG RA2 RB2 RC2;refine(CC _ _ _ _ _).mono ?_;rintro e w4 ⟨rfl,hg4⟩;have HG4:Hid (Gr w w4):=HG3.trans hg4;have RA4:Hid (R4 45 w4 A px py pa pb):=RA3.gr hg4;have RB4:Hid (R4 45 w4 (A+1) bx by_ bw bh):=RB3.gr hg4;have RC4:Hid (R4 45 w4 (A+1+1) 0 0 0 0):=RC3.gr hg4;clear hg4 RA3 RB3 RC3 HG3;have b0:=RB4.c0;have b1:=RB4.c1;have b2:=RB4.c2;have b3:=RB4.c3;have f0:=RB4.fz 0;have f1:=RB4.fz 1;have f2:=RB4.fz 2;have f3:=RB4.fz 3;have a0:=RA4.c0;have a1:=RA4.c1;have a2:=RA4.c2;have a3:=RA4.c3;rw[hqx,hqy,hqa,hqb];go_wp2_with fail;obtain⟨w5,hw5⟩:=nmd ((((w4.setCell ⟨A+1,0,none⟩ (Iq qx)).setCell ⟨A+1,1,none⟩ (Iq qy)).setCell ⟨A+1,2,none⟩ (Iq qa)).setCell ⟨A+1,3,none⟩ (Iq qb));have HG5:Hid (Gr w w5):=by rw[<-hw5];exact HG4.set4 (by rw[HA.out];omega) _ _ _ _
 have RA5:Hid (R4 45 w5 A px py pa pb):=by rw[<-hw5];exact RA4.others (by omega) _ _ _ _
 have RB5:Hid (R4 45 w5 (A+1) qx qy qa qb):=by rw[<-hw5];exact RB4.set qx qy qa qb
 have RC5:Hid (R4 45 w5 (A+1+1) 0 0 0 0):=by rw[<-hw5];exact RC4.others (by omega) _ _ _ _
 rw[hw5];clear hw5 a0 a1 a2 a3 b0 b1 b2 b3 f0 f1 f2 f3 HG4 RA4 RB4 RC4;have a0:=RA5.c0;have a1:=RA5.c1;have a2:=RA5.c2;have a3:=RA5.c3;have b0:=RB5.c0;have b1:=RB5.c1;have b2:=RB5.c2;have b3:=RB5.c3;have c0:=RC5.c0;have c1:=RC5.c1;have c2:=RC5.c2;have c3:=RC5.c3;have f0:=RC5.fz 0;have f1:=RC5.fz 1;have f2:=RC5.fz 2;have f3:=RC5.fz 3;have bpx:=posI_bd ax;have bpy:=posI_bd ay;have bpa:=lenI_bd aw;have bpb:=lenI_bd ah;have bqx:=posI_bd bx;have bqy:=posI_bd by_;have bqa:=lenI_bd bw;have bqb:=lenI_bd bh;rw[hpx]at bpx;rw[hpy]at bpy;rw[hpa]at bpa;rw[hpb]at bpb;rw[hqx]at bqx;rw[hqy]at bqy;rw[hqa]at bqa;rw[hqb]at bqb;obtain⟨l,hl⟩:=nmd (max px qx);obtain⟨r,hr⟩:=nmd (min (px+pa) (qx+qa));obtain⟨t,ht⟩:=nmd (max py qy);obtain⟨d,hd⟩:=nmd (min (py+pb) (qy+qb));have HV:Hid (capV ax ay aw ah bx by_ bw bh=if l≥r∨t≥d then rv 0 0 0 0 else rv l t (r-l) (d-t)):=by show _=_;unfold capV capL capR;rw[hpx,hpy,hpa,hpb,hqx,hqy,hqa,hqb,hl,hr,ht,hd]
 have L1:Hid (∀w,Calls prog 95 #[Iq (px+pa),Iq (qx+qa)] w fun e w'=>e=.returned (Iq r)∧w'=w):=fun w=>by have:=LS (px+pa) (qx+qa) w;rw[hr]at this;exact this
 have L2:Hid (∀w,Calls prog 95 #[Iq (py+pb),Iq (qy+qb)] w fun e w'=>e=.returned (Iq d)∧w'=w):=fun w=>by have:=LS (py+pb) (qy+qb) w;rw[hd]at this;exact this
 have G1:Hid (∀w,Calls prog 28 #[Iq px,Iq qx] w fun e w'=>e=.returned (Iq l)∧w'=w):=fun w=>by have:=GS px qx w;rw[hl]at this;exact this
 have G2:Hid (∀w,Calls prog 28 #[Iq py,Iq qy] w fun e w'=>e=.returned (Iq t)∧w'=w):=fun w=>by have:=GS py qy w;rw[ht]at this;exact this
 have bl:-100000≤l∧l≤100000:=by omega
 have br:-100000≤r∧r≤200000:=by omega
 have bt:-100000≤t∧t≤100000:=by omega
 have bd:-100000≤d∧d≤200000:=by omega
 clear hpx hpy hpa hpb hqx hqy hqa hqb hl hr ht hd;go_wp2_with fail;refine(G1 _).mono ?_;rintro e w6 ⟨rfl,hw6⟩;obtain rfl:=hw6.symm;go_wp2_with fail;refine(G2 _).mono ?_;rintro e w7 ⟨rfl,hw7⟩;obtain rfl:=hw7.symm;go_wp2_with fail;refine(L1 _).mono ?_;rintro e w8 ⟨rfl,hw8⟩;obtain rfl:=hw8.symm;go_wp2_with fail;refine(L2 _).mono ?_;rintro e w9 ⟨rfl,hw9⟩;obtain rfl:=hw9.symm;by_cases h1:r-l≤0;·have e1:decide (r-l≤0)=true:=decide_eq_true h1;go_wp2;refine bodyPost_ret (results_cell_row rfl _ _ (A+1+1) _ _ _ _ rfl (RC5.set _ _ _ _) underlying45 rfl (by kernel_rfl)) rfl ?_;exact⟨by rw[HV.out,if_pos (by omega)];rfl,HG5.set4 (by rw[HA.out];omega) _ _ _ _⟩
 ·have e1:decide (r-l≤0)=false:=decide_eq_false h1;by_cases h2:d-t≤0;·have e2:decide (d-t≤0)=true:=decide_eq_true h2;go_wp2;refine bodyPost_ret (results_cell_row rfl _ _ (A+1+1) _ _ _ _ rfl (RC5.set _ _ _ _) underlying45 rfl (by kernel_rfl)) rfl ?_;exact⟨by rw[HV.out,if_pos (by omega)];rfl,HG5.set4 (by rw[HA.out];omega) _ _ _ _⟩
  ·have e2:decide (d-t≤0)=false:=decide_eq_false h2;go_wp2;refine bodyPost_ret (results_cell_row rfl _ _ (A+1+1) _ _ _ _ rfl (RC5.set _ _ _ _) underlying45 rfl (by kernel_rfl)) rfl ?_;exact⟨by rw[HV.out,if_neg (by omega)];rfl,HG5.set4 (by rw[HA.out];omega) _ _ _ _⟩
theorem holds_any x y a b px py  w :Calls prog 20 #[rv x y a b,Iq px,Iq py] w fun e w'=>e=.returned (.bool (holdB x y a b px py))∧Gr w w':=by
 have CC:Hid (∀x y a b w,Calls prog 39 #[rv x y a b] w fun e w'=>e=.returned (rv (posI x) (posI y) (lenI a) (lenI b))∧Gr w w'):=clamped_gr;have HY:Hid ((posI x≤px∧px<posI x+lenI a∧posI y≤py∧py<posI y+lenI b)->holdB x y a b px py=true):=holdB_yes;have HN:Hid (¬(posI x≤px∧px<posI x+lenI a∧posI y≤py∧py<posI y+lenI b)->holdB x y a b px py=false):=holdB_no;have b1:=posI_bd x;have b2:=posI_bd y;have b3:=lenI_bd a;have b4:=lenI_bd b;obtain⟨A,hA⟩:=nmd (posI x);obtain⟨B,hB⟩:=nmd (posI y);obtain⟨C,hC⟩:=nmd (lenI a);obtain⟨D,hD⟩:=nmd (lenI b);rw[hA,hB,hC,hD]at HY HN;rw[hA]at b1;rw[hB]at b2;rw[hC]at b3;rw[hD]at b4;unfold rv at CC⊢;go_enter func20,ntmps20;go_wp2_with(go_at_call 39;refine(CC _ _ _ _ _).mono ?_;rintro e w2 ⟨rfl,hg2⟩;have HG:Hid (Gr w w2):=((Gr.refl w).alloc _).trans hg2;have HR:Hid (R4 48 w2 w.heap.size x y a b):=(R4.new w x y a b _).gr hg2;clear hg2;have c0:=HR.c0;have c1:=HR.c1;have c2:=HR.c2;have c3:=HR.c3;have f0:=HR.fz 0;have f1:=HR.fz 1;have f2:=HR.fz 2;have f3:=HR.fz 3;rw[hA,hB,hC,hD];by_cases h1:A≤px;by_cases h2:px<A+C;by_cases h3:B≤py;by_cases h4:py<B+D);all_goals
  go_ret;first
   |exact⟨by rw[HY (by omega)];rfl,HG.set4 (Nat.le_refl _) _ _ _ _⟩
   |exact⟨by rw[HN (by omega)];rfl,HG.set4 (Nat.le_refl _) _ _ _ _⟩
   |exact⟨by rw[HY (by omega)];exact congrArg (fun z=>Ending.returned (Value.bool z)) (decide_eq_true (by omega)),HG.set4 (Nat.le_refl _) _ _ _ _⟩
   |exact⟨by rw[HN (by omega)];exact congrArg (fun z=>Ending.returned (Value.bool z)) (decide_eq_false (by omega)),HG.set4 (Nat.le_refl _) _ _ _ _⟩
theorem rInset_any x y a b n  w :Calls prog 105 #[rv x y a b,Iq n] w fun e w'=>e=.returned (insV x y a b n)∧Gr w w':=by
 have CC:Hid (∀x y a b w,Calls prog 68 #[rv x y a b] w fun e w'=>e=.returned (rv (posI x) (posI y) (lenI a) (lenI b))∧Gr w w'):=firm_any;have LL:Hid (∀n w,Calls prog 30 #[Iq n] w fun e w'=>e=.returned (Iq (lenI n))∧w'=w):=rClamped_any;have LS:Hid (∀a b w,Calls prog 95 #[Iq a,Iq b] w fun e w'=>e=.returned (Iq (min a b))∧w'=w):=least_any;have b1:=posI_bd x;have b2:=posI_bd y;have b3:=lenI_bd a;have b4:=lenI_bd b;have b5:=lenI_bd n;obtain⟨A,hA⟩:=nmd (posI x);obtain⟨B,hB⟩:=nmd (posI y);obtain⟨C,hC⟩:=nmd (lenI a);obtain⟨D,hD⟩:=nmd (lenI b);obtain⟨m,hm⟩:=nmd (lenI n);have HV:Hid (insV x y a b n=rv (A+min m (C/2)) (B+min m (D/2)) (max 0 (C-2*m)) (max 0 (D-2*m))):=by show _=_;unfold insV;rw[hA,hB,hC,hD,hm]
 rw[hA]at b1;rw[hB]at b2;rw[hC]at b3;rw[hD]at b4;rw[hm]at b5;unfold rv at CC⊢;go_enter func105,ntmps105;go_wp2_with fail;obtain⟨W0,hW0⟩:=nmd ((w.alloc (.cells #[Iq x,Iq y,Iq a,Iq b] 45)).alloc (.cells #[Iq 0,Iq 0,Iq 0,Iq 0] 45));obtain⟨S,hS⟩:=nmd w.heap.size;have HS:Hid (w.heap.size=S):=hS;have G0:Hid (Gr w W0):=by rw[<-hW0];exact((Gr.refl w).alloc _).alloc _
 have RA:Hid (R4 45 W0 S x y a b):=by rw[<-hW0,<-hS];exact(R4.new w _ _ _ _ _).gr ((Gr.refl _).alloc _)
 have RC:Hid (R4 45 W0 (S+1) 0 0 0 0):=by have:=R4.new (w.alloc (.cells #[Iq x,Iq y,Iq a,Iq b] 45)) 0 0 0 0 45;simp only[World.size_alloc,hS]at this;rw[<-hW0];exact this
 rw[hW0,hS];clear hW0 hS;refine(CC _ _ _ _ _).mono ?_;rintro e w2 ⟨rfl,hg2⟩;have HG:Hid (Gr w w2):=G0.trans hg2;have R2:Hid (R4 45 w2 S x y a b):=RA.gr hg2;have RC2:Hid (R4 45 w2 (S+1) 0 0 0 0):=RC.gr hg2;clear hg2 RA RC G0;have c0:=R2.c0;have c1:=R2.c1;have c2:=R2.c2;have c3:=R2.c3;have f0:=R2.fz 0;have f1:=R2.fz 1;have f2:=R2.fz 2;have f3:=R2.fz 3;rw[hA,hB,hC,hD];go_wp2_with fail;obtain⟨w3,hw3⟩:=nmd ((((w2.setCell ⟨S,0,none⟩ (Iq A)).setCell ⟨S,1,none⟩ (Iq B)).setCell ⟨S,2,none⟩ (Iq C)).setCell ⟨S,3,none⟩ (Iq D));have HG3:Hid (Gr w w3):=by rw[<-hw3];exact HG.set4 (by rw[HS.out];exact Nat.le_refl _) _ _ _ _
 have R3:Hid (R4 45 w3 S A B C D):=by rw[<-hw3];exact R2.set A B C D
 have RC3:Hid (R4 45 w3 (S+1) 0 0 0 0):=by rw[<-hw3];exact RC2.others (by omega) _ _ _ _
 rw[hw3];clear hw3 c0 c1 c2 c3 f0 f1 f2 f3 R2 RC2 HG;refine(LL _ _).mono ?_;rintro e w4 ⟨rfl,hw4⟩;obtain rfl:=hw4.symm;rw[hm];have c0:=R3.c0;have c1:=R3.c1;have c2:=R3.c2;have c3:=R3.c3;have d0:=RC3.c0;have d1:=RC3.c1;have d2:=RC3.c2;have d3:=RC3.c3;have f0:=RC3.fz 0;have f1:=RC3.fz 1;have f2:=RC3.fz 2;have f3:=RC3.fz 3;clear hA hB hC hD hm;have q1:C.tdiv 2=C/2:=Int.tdiv_eq_ediv_of_nonneg b3.1;have q2:D.tdiv 2=D/2:=Int.tdiv_eq_ediv_of_nonneg b4.1;obtain⟨p,hp⟩:=nmd (C/2);obtain⟨q,hq⟩:=nmd (D/2);rw[hp]at q1 HV;rw[hq]at q2 HV;have k1:2*p≤C∧C≤2*p+1:=by omega
 have k2:2*q≤D∧D≤2*q+1:=by omega
 clear hp hq;rcases(by omega:(C≤2*m∧min m p=p)∨(2*m<C∧min m p=m))with⟨h1,h1'⟩|⟨h1,h1'⟩<;>rcases(by omega:(D≤2*m∧min m q=q)∨(2*m<D∧min m q=m))with⟨h2,h2'⟩|⟨h2,h2'⟩;all_goals go_wp2_with(first|(go_at_call 95;refine(LS _ _ _).mono ?_;rintro e w5 ⟨rfl,hw5⟩;obtain rfl:=hw5.symm;first|rw[h1']|rw[h2']|skip))
 all_goals refine bodyPost_ret (results_cell_row rfl _ _ (S+1) _ _ _ _ rfl (RC3.set _ _ _ _) underlying45 rfl (by kernel_rfl)) rfl ?_;exact⟨by rw[HV.out];exact rv4 (by omega) (by omega) (by omega) (by omega),HG3.set4 (by rw[HS.out];omega) _ _ _ _⟩
theorem lnum_any n  w :Calls prog 9 #[Iq n] w fun e w'=>e=.returned (Iq n)∧w'=w:=by go_enter func9,ntmps9;go_wp2;go_ret;exact⟨rfl,rfl⟩
theorem theirs_any x y a b  w :Calls prog 15 #[rv x y a b] w fun e w'=>e=.returned (rv x y a b)∧Gr w w':=by unfold rv;go_enter func15,ntmps15;go_wp2;refine bodyPost_ret (v:=rv x y a b) (by simp[results,Tryz.results15,go_sem,rv]) rfl ?_;exact⟨rfl,((Gr.refl w).alloc _).alloc _⟩
