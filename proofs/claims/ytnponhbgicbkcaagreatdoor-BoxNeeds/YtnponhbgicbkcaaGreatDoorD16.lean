import Derived.Test.YtnponhbgicbkcaaGreatDoorProg
import Derived.WalkKit
import Derived.WalkSpells
import Derived.WalkLawsBesides
import Derived.RegionTactic
import Derived.BigRegion
import Derived.BigQuiet
import Derived.Deep.QuietTactic
import Derived.Deep.RegionWith
import Derived.Deep.RegionHeld
import Derived.Deep.Cut
import Derived.Deep.CutRange
import Derived.Shelf.SlSortCmp.QuietGrown
import Derived.Test.YtnponhbgicbkcaaGreatDoorD00
set_option linter.unusedVariables false
set_option maxRecDepth 100000
set_option maxHeartbeats 16000000
namespace Go.Proofs.YtnponhbgicbkcaaGreatDoor
section
open Go.RowKit Go.Sort
def Gr(w w':World):Prop:=∃q os,w'=grow (w.drewN q) os
theorem Gr.refl(w:World):Gr w w:=⟨0,#[],by simp;rfl⟩
theorem Gr.trans{a b c:World}(h:Gr a b)(k:Gr b c):Gr a c:=by obtain⟨q,os,rfl⟩:=h;obtain⟨q2,os2,rfl⟩:=k;exact⟨q+q2,os++os2,by show grow (grow ((a.drewN q).drewN q2) os) os2=_;rw[grow_grow,World.drewN_drewN]⟩
theorem Gr.alloc{a b:World}(h:Gr a b)(o:Obj):Gr a (b.alloc o):=h.trans ⟨0,#[o],alloc_eq_grow b o⟩
theorem Gr.drew{a b:World}(h:Gr a b):Gr a b.drew:=h.trans ⟨1,#[],by simp;rfl⟩
theorem Gr.drewN{a b:World}(h:Gr a b)(n:Nat):Gr a (b.drewN n):=h.trans ⟨n,#[],by simp⟩
theorem Gr.size{a b:World}(h:Gr a b):a.heap.size≤b.heap.size:=by obtain⟨q,os,rfl⟩:=h;rw[size_grow];exact Nat.le_add_right _ _
theorem Gr.block{a b:World}(h:Gr a b){k:Nat}(hk:k<a.heap.size):b.heap[k]?=a.heap[k]?:=by obtain⟨q,os,rfl⟩:=h;exact heap_grow_old _ _ hk
theorem Gr.set{a b:World}(h:Gr a b){k o:Nat}(hk:a.heap.size≤k)(v:Value):Gr a (b.setCell ⟨k,o,none⟩ v):=by obtain⟨q,os,rfl⟩:=h;exact⟨q,_,by unfold World.setCell grow;simp only;rw[modify_append_right (a.drewN q).heap os k _ hk]⟩
theorem Gr.below{a b:World}(h:Gr a b):Below a.heap.size a b:=⟨by obtain⟨q,os,rfl⟩:=h;rfl,by obtain⟨q,os,rfl⟩:=h;rfl,by obtain⟨q,os,rfl⟩:=h;rfl,h.size,fun k hk=>h.block hk⟩
end
section
open Go.RowKit
def posI(n:Int):Int:=min (max n (-100000)) 100000
def lenI(n:Int):Int:=min (max n 0) 100000
def rv(x y w h:Int):Value:=.agg #[.int .i64 x,.int .i64 y,.int .i64 w,.int .i64 h]
theorem posI_bd(n:Int):-100000≤posI n∧posI n≤100000:=by unfold posI;omega
theorem lenI_bd(n:Int):0≤lenI n∧lenI n≤100000:=by unfold lenI;omega
theorem length_any(n:Int)(w:World):Calls Tryz.prog 44 #[.int .i64 n] w fun e w'=>e=.returned (.int .i64 (lenI n))∧w'=w:=by go_enter Tryz.func44,Tryz.ntmps44;go_wp2;all_goals go_ret;refine⟨?_,rfl⟩;refine congrArg (fun n:Int=>Ending.returned (.int .i64 n)) (?_:_=lenI n);unfold lenI;omega
theorem position_any(n:Int)(w:World):Calls Tryz.prog 69 #[.int .i64 n] w fun e w'=>e=.returned (.int .i64 (posI n))∧w'=w:=by go_enter Tryz.func69,Tryz.ntmps69;go_wp2;all_goals go_ret;refine⟨?_,rfl⟩;refine congrArg (fun n:Int=>Ending.returned (.int .i64 n)) (?_:_=posI n);unfold posI;omega
theorem clamped_any(x y a b:Int)(w:World):Calls Tryz.prog 39 #[rv x y a b] w fun e w'=>e=.returned (rv (posI x) (posI y) (lenI a) (lenI b))∧w'=((w.alloc (.cells #[.int .i64 x,.int .i64 y,.int .i64 a,.int .i64 b] 48)).alloc (.cells #[.int .i64 (posI x),.int .i64 (posI y),.int .i64 (lenI a),.int .i64 (lenI b)] 48)).drew:=by have P:=qH<|position_any;have G:=qH<|length_any;unfold rv;go_enter Tryz.func39,Tryz.ntmps39;go_wp2_with fail;obtain⟨px,hpx⟩:∃z,posI x=z:=⟨_,rfl⟩;obtain⟨py,hpy⟩:∃z,posI y=z:=⟨_,rfl⟩;obtain⟨la,hla⟩:∃z,lenI a=z:=⟨_,rfl⟩;obtain⟨lb,hlb⟩:∃z,lenI b=z:=⟨_,rfl⟩;have P1:=P.out x;have P2:=P.out y;have G1:=G.out a;have G2:=G.out b;rw[hpx]at P1;rw[hpy]at P2;rw[hla]at G1;rw[hlb]at G2;go_region_held(fun W=>W.cell? ⟨w.heap.size,0,none⟩=some (.int .i64 x)∧W.cell? ⟨w.heap.size,1,none⟩=some (.int .i64 y)∧W.cell? ⟨w.heap.size,2,none⟩=some (.int .i64 a)∧W.cell? ⟨w.heap.size,3,none⟩=some (.int .i64 b)) (go_keep) (first|(go_at_call 69;first|(refine(P1 _).mono ?_;rintro e w2 ⟨rfl,rfl⟩)|(refine(P2 _).mono ?_;rintro e w2 ⟨rfl,rfl⟩))|(go_at_call 44;first|(refine(G1 _).mono ?_;rintro e w2 ⟨rfl,rfl⟩)|(refine(G2 _).mono ?_;rintro e w2 ⟨rfl,rfl⟩)));go_wp2;refine bodyPost_ret (v:=rv px py la lb) (by simp[results,Tryz.results39,go_sem,rv]) rfl ?_;subst hpx hpy hla hlb;exact⟨rfl,rfl⟩
end
section
open Go.RowKit Go.Sort
def R4(T:TypeId)(W:World)(b:Nat)(x y a c:Int):Prop:=W.heap[b]?=some (.cells #[.int .i64 x,.int .i64 y,.int .i64 a,.int .i64 c] T (0,0))
section
variable{T:TypeId} {W W':World} {b k o:Nat} {x y a c:Int}
theorem R4.lt(h:R4 T W b x y a c):b<W.heap.size:=(Array.getElem?_eq_some_iff.1 h).1
theorem R4.c0(h:R4 T W b x y a c):W.cell? ⟨b,0,none⟩=some (.int .i64 x):=by unfold R4 at h;simp[World.cell?,h]
theorem R4.c1(h:R4 T W b x y a c):W.cell? ⟨b,1,none⟩=some (.int .i64 y):=by unfold R4 at h;simp[World.cell?,h]
theorem R4.c2(h:R4 T W b x y a c):W.cell? ⟨b,2,none⟩=some (.int .i64 a):=by unfold R4 at h;simp[World.cell?,h]
theorem R4.c3(h:R4 T W b x y a c):W.cell? ⟨b,3,none⟩=some (.int .i64 c):=by unfold R4 at h;simp[World.cell?,h]
theorem R4.fz(h:R4 T W b x y a c)(j:Nat):W.frozen? ⟨b,j,none⟩=false:=frozen_of_row _ _ _ _ _ h
theorem R4.gr(h:R4 T W b x y a c)(g:Gr W W'):R4 T W' b x y a c:=(g.block h.lt).trans h
theorem R4.new(W:World)(x y a c:Int)(T:TypeId):R4 T (W.alloc (.cells #[.int .i64 x,.int .i64 y,.int .i64 a,.int .i64 c] T)) W.heap.size x y a c:=heap_alloc_new _ _
theorem R4.other(h:R4 T W b x y a c)(hk:b≠k)(v:Value):R4 T (W.setCell ⟨k,o,none⟩ v) b x y a c:=(Below.heap_setCell W ⟨k,o,none⟩ v b hk).trans h
theorem R4.set(h:R4 T W b x y a c)(x' y' a' c':Int):R4 T ((((W.setCell ⟨b,0,none⟩ (.int .i64 x')).setCell ⟨b,1,none⟩ (.int .i64 y')).setCell ⟨b,2,none⟩ (.int .i64 a')).setCell ⟨b,3,none⟩ (.int .i64 c')) b x' y' a' c':=
 heap_setCell_same _ b 3 _ T _ (heap_setCell_same _ b 2 _ T _ (heap_setCell_same _ b 1 _ T _ (heap_setCell_same _ b 0 _ T _ h)))
theorem R4.others(h:R4 T W b x y a c)(hk:b≠k)(v0 v1 v2 v3:Value):R4 T ((((W.setCell ⟨k,0,none⟩ v0).setCell ⟨k,1,none⟩ v1).setCell ⟨k,2,none⟩ v2).setCell ⟨k,3,none⟩ v3) b x y a c:=(((h.other hk v0).other hk v1).other hk v2).other hk v3
theorem Gr.set4(h:Gr W W')(hk:W.heap.size≤k)(v0 v1 v2 v3:Value):Gr W ((((W'.setCell ⟨k,0,none⟩ v0).setCell ⟨k,1,none⟩ v1).setCell ⟨k,2,none⟩ v2).setCell ⟨k,3,none⟩ v3):=(((h.set hk v0).set hk v1).set hk v2).set hk v3
end
theorem clamped_gr(x y a b:Int)(w:World):Calls Tryz.prog 39 #[rv x y a b] w fun e w'=>e=.returned (rv (posI x) (posI y) (lenI a) (lenI b))∧Gr w w':=
 (clamped_any x y a b w).mono fun e w' ⟨he,hw⟩=>⟨he,by rw[hw];exact(((Gr.refl w).alloc _).alloc _).drew⟩
def capL(ax aw bx bw:Int):Int:=max (posI ax) (posI bx)
def capR(ax aw bx bw:Int):Int:=min (posI ax+lenI aw) (posI bx+lenI bw)
def capV(ax ay aw ah bx by_ bw bh:Int):Value:=if capL ax aw bx bw≥capR ax aw bx bw∨capL ay ah by_ bh≥capR ay ah by_ bh then rv 0 0 0 0 else rv (capL ax aw bx bw) (capL ay ah by_ bh) (capR ax aw bx bw-capL ax aw bx bw) (capR ay ah by_ bh-capL ay ah by_ bh)
theorem cap_any(ax ay aw ah bx by_ bw bh:Int)(w:World):Calls Tryz.prog 66 #[rv ax ay aw ah,rv bx by_ bw bh] w fun e w'=>e=.returned (capV ax ay aw ah bx by_ bw bh)∧Gr w w':=by
 have CC:=qH<|clamped_gr;unfold rv at CC⊢;go_enter Tryz.func66,Tryz.ntmps66;go_wp2_with fail;obtain⟨A,hA⟩:∃x,w.heap.size=x:=⟨_,rfl⟩;obtain⟨W0,hW0⟩:∃x,((w.alloc (.cells #[.int .i64 ax,.int .i64 ay,.int .i64 aw,.int .i64 ah] 48)).alloc (.cells #[.int .i64 bx,.int .i64 by_,.int .i64 bw,.int .i64 bh] 48)).alloc (.cells #[.int .i64 0,.int .i64 0,.int .i64 0,.int .i64 0] 48)=x:=⟨_,rfl⟩;have G0:Hid (Gr w W0):=by rw[<-hW0];exact(((Gr.refl w).alloc _).alloc _).alloc _
 have RA:Hid (R4 48 W0 A ax ay aw ah):=by rw[<-hW0,<-hA];exact(R4.new w _ _ _ _ _).gr (((Gr.refl _).alloc _).alloc _)
 have RB:Hid (R4 48 W0 (A+1) bx by_ bw bh):=by have:=R4.new (w.alloc (.cells #[.int .i64 ax,.int .i64 ay,.int .i64 aw,.int .i64 ah] 48)) bx by_ bw bh 48;simp only[World.size_alloc,hA]at this;rw[<-hW0];exact this.gr ((Gr.refl _).alloc _)
 have RC:Hid (R4 48 W0 (A+1+1) 0 0 0 0):=by have:=R4.new ((w.alloc (.cells #[.int .i64 ax,.int .i64 ay,.int .i64 aw,.int .i64 ah] 48)).alloc (.cells #[.int .i64 bx,.int .i64 by_,.int .i64 bw,.int .i64 bh] 48)) 0 0 0 0 48;simp only[World.size_alloc,hA]at this;rw[<-hW0];exact this
 rw[hW0,hA];clear hW0;have HA:=qH<|hA;clear hA;have a0:=RA.out.c0;have a1:=RA.out.c1;have a2:=RA.out.c2;have a3:=RA.out.c3;have b0:=RB.out.c0;have b1:=RB.out.c1;have b2:=RB.out.c2;have b3:=RB.out.c3;obtain⟨px,hpx⟩:∃z,posI ax=z:=⟨_,rfl⟩;obtain⟨py,hpy⟩:∃z,posI ay=z:=⟨_,rfl⟩;obtain⟨pa,hpa⟩:∃z,lenI aw=z:=⟨_,rfl⟩;obtain⟨pb,hpb⟩:∃z,lenI ah=z:=⟨_,rfl⟩;obtain⟨qx,hqx⟩:∃z,posI bx=z:=⟨_,rfl⟩;obtain⟨qy,hqy⟩:∃z,posI by_=z:=⟨_,rfl⟩;obtain⟨qa,hqa⟩:∃z,lenI bw=z:=⟨_,rfl⟩;obtain⟨qb,hqb⟩:∃z,lenI bh=z:=⟨_,rfl⟩;go_cut[2,3,4]from 9 to 12 (fun u v t wx=>u=.pointer (some ⟨A,0,none⟩)∧v=.pointer (some ⟨A+1,0,none⟩)∧t=.pointer (some ⟨A+1+1,0,none⟩)∧Hid (R4 48 wx A px py pa pb∧R4 48 wx (A+1) qx qy qa qb∧R4 48 wx (A+1+1) 0 0 0 0∧Gr w wx));case first=>
  go_region_with(go_at_call 39;refine(CC.out _ _ _ _ _).mono ?_;rintro e wn ⟨rfl,hgn⟩;have HGn:=qH<|(by first|exact((Gr.refl W0).drew).trans hgn|exact Gr.trans (Hid.out (by assumption)) hgn);have HAn:=qH<|RA.out.gr HGn.out;have HBn:=qH<|RB.out.gr HGn.out;clear hgn;have m0:=HAn.out.c0;have m1:=HAn.out.c1;have m2:=HAn.out.c2;have m3:=HAn.out.c3;have n0:=HBn.out.c0;have n1:=HBn.out.c1;have n2:=HBn.out.c2;have n3:=HBn.out.c3;have f0:=HAn.out.fz 0;have f1:=HAn.out.fz 1;have f2:=HAn.out.fz 2;have f3:=HAn.out.fz 3;have g0:=HBn.out.fz 0;have g1:=HBn.out.fz 1;have g2:=HBn.out.fz 2;have g3:=HBn.out.fz 3);all_goals
   have HO:Hid (R4 48 ((((((((wn.setCell ⟨A,0,none⟩ (.int .i64 px)).setCell ⟨A,1,none⟩ (.int .i64 py)).setCell ⟨A,2,none⟩ (.int .i64 pa)).setCell ⟨A,3,none⟩ (.int .i64 pb)).setCell ⟨A+1,0,none⟩ (.int .i64 qx)).setCell ⟨A+1,1,none⟩ (.int .i64 qy)).setCell ⟨A+1,2,none⟩ (.int .i64 qa)).setCell ⟨A+1,3,none⟩ (.int .i64 qb)) A px py pa pb∧R4 48 ((((((((wn.setCell ⟨A,0,none⟩ (.int .i64 px)).setCell ⟨A,1,none⟩ (.int .i64 py)).setCell ⟨A,2,none⟩ (.int .i64 pa)).setCell ⟨A,3,none⟩ (.int .i64 pb)).setCell ⟨A+1,0,none⟩ (.int .i64 qx)).setCell ⟨A+1,1,none⟩ (.int .i64 qy)).setCell ⟨A+1,2,none⟩ (.int .i64 qa)).setCell ⟨A+1,3,none⟩ (.int .i64 qb)) (A+1) qx qy qa qb∧R4 48 ((((((((wn.setCell ⟨A,0,none⟩ (.int .i64 px)).setCell ⟨A,1,none⟩ (.int .i64 py)).setCell ⟨A,2,none⟩ (.int .i64 pa)).setCell ⟨A,3,none⟩ (.int .i64 pb)).setCell ⟨A+1,0,none⟩ (.int .i64 qx)).setCell ⟨A+1,1,none⟩ (.int .i64 qy)).setCell ⟨A+1,2,none⟩ (.int .i64 qa)).setCell ⟨A+1,3,none⟩ (.int .i64 qb)) (A+1+1) 0 0 0 0∧Gr w ((((((((wn.setCell ⟨A,0,none⟩ (.int .i64 px)).setCell ⟨A,1,none⟩ (.int .i64 py)).setCell ⟨A,2,none⟩ (.int .i64 pa)).setCell ⟨A,3,none⟩ (.int .i64 pb)).setCell ⟨A+1,0,none⟩ (.int .i64 qx)).setCell ⟨A+1,1,none⟩ (.int .i64 qy)).setCell ⟨A+1,2,none⟩ (.int .i64 qa)).setCell ⟨A+1,3,none⟩ (.int .i64 qb))):=
    ⟨(HAn.out.set px py pa pb).others (by omega) _ _ _ _,(HBn.out.others (by omega) _ _ _ _).set qx qy qa qb,((RC.out.gr HGn.out).others (by omega) _ _ _ _).others (by omega) _ _ _ _,((G0.out.trans HGn.out).set4 (by rw[HA.out];omega) _ _ _ _).set4 (by rw[HA.out];omega) _ _ _ _⟩;clear m0 m1 m2 m3 n0 n1 n2 n3 f0 f1 f2 f3 g0 g1 g2 g3 a0 a1 a2 a3 b0 b1 b2 b3 HAn HBn;go_wp2_with fail;go_meet;exact⟨rfl,rfl,rfl,HO.out⟩
 case rest=>
  obtain⟨rfl,rfl,rfl,HO⟩:=hcut;clear a0 a1 a2 a3 b0 b1 b2 b3 RA RB RC;have a0:=HO.out.1.c0;have a1:=HO.out.1.c1;have a2:=HO.out.1.c2;have a3:=HO.out.1.c3;have b0:=HO.out.2.1.c0;have b1:=HO.out.2.1.c1;have b2:=HO.out.2.1.c2;have b3:=HO.out.2.1.c3;have bpx:=posI_bd ax;have bpy:=posI_bd ay;have bpa:=lenI_bd aw;have bpb:=lenI_bd ah;have bqx:=posI_bd bx;have bqy:=posI_bd by_;have bqa:=lenI_bd bw;have bqb:=lenI_bd bh;rw[hpx]at bpx;rw[hpy]at bpy;rw[hpa]at bpa;rw[hpb]at bpb;rw[hqx]at bqx;rw[hqy]at bqy;rw[hqa]at bqa;rw[hqb]at bqb;go_wp2_with fail;go_cut[5,6]from 13 to 28 (fun u v wx=>u=.int .i64 (max px qx)∧v=.int .i64 (min (px+pa) (qx+qa))∧∃q,wx=wc.drewN q);case first=>
   by_cases h1:px<qx
   ·by_cases h2:px+pa≤qx+qa;·go_quiet(fail);go_wp2_with fail;go_meet;exact⟨congrArg (Value.int .i64) (by omega),congrArg (Value.int .i64) (by omega),_,rfl⟩
    ·go_quiet(fail);go_wp2_with fail;go_meet;exact⟨congrArg (Value.int .i64) (by omega),congrArg (Value.int .i64) (by omega),_,rfl⟩
   ·by_cases h2:px+pa≤qx+qa;·go_quiet(fail);go_wp2_with fail;go_meet;exact⟨congrArg (Value.int .i64) (by omega),congrArg (Value.int .i64) (by omega),_,rfl⟩
    ·go_quiet(fail);go_wp2_with fail;go_meet;exact⟨congrArg (Value.int .i64) (by omega),congrArg (Value.int .i64) (by omega),_,rfl⟩
  case rest=>
   obtain⟨rfl,rfl,q1,rfl⟩:=hcut;go_wp2_with fail;go_cut[7,8]from 29 to 44 (fun u v wx=>u=.int .i64 (max py qy)∧v=.int .i64 (min (py+pb) (qy+qb))∧∃q,wx=wc.drewN q);case first=>
    by_cases h1:py<qy
    ·by_cases h2:py+pb≤qy+qb;·go_quiet(fail);go_wp2_with fail;go_meet;exact⟨congrArg (Value.int .i64) (by omega),congrArg (Value.int .i64) (by omega),q1+nq,by first|rfl|exact World.drewN_drewN _ _ _⟩
     ·go_quiet(fail);go_wp2_with fail;go_meet;exact⟨congrArg (Value.int .i64) (by omega),congrArg (Value.int .i64) (by omega),q1+nq,by first|rfl|exact World.drewN_drewN _ _ _⟩
    ·by_cases h2:py+pb≤qy+qb;·go_quiet(fail);go_wp2_with fail;go_meet;exact⟨congrArg (Value.int .i64) (by omega),congrArg (Value.int .i64) (by omega),q1+nq,by first|rfl|exact World.drewN_drewN _ _ _⟩
     ·go_quiet(fail);go_wp2_with fail;go_meet;exact⟨congrArg (Value.int .i64) (by omega),congrArg (Value.int .i64) (by omega),q1+nq,by first|rfl|exact World.drewN_drewN _ _ _⟩
   case rest=>
    obtain⟨rfl,rfl,q2,rfl⟩:=hcut;obtain⟨W1,hW1⟩:∃z,wc.drewN q2=z:=⟨_,rfl⟩;have G1:Hid (Gr wc W1):=by rw[<-hW1];exact(Gr.refl _).drewN _
    rw[hW1];have R1:=qH<|HO.out.2.2.1.gr G1.out;have GG:=qH<|HO.out.2.2.2.trans G1.out;clear hW1 a0 a1 a2 a3 b0 b1 b2 b3 HO;have c0:=R1.out.c0;have c1:=R1.out.c1;have c2:=R1.out.c2;have c3:=R1.out.c3;have f0:=R1.out.fz 0;have f1:=R1.out.fz 1;have f2:=R1.out.fz 2;have f3:=R1.out.fz 3;obtain⟨l,hl⟩:∃z,max px qx=z:=⟨_,rfl⟩;obtain⟨r,hr⟩:∃z,min (px+pa) (qx+qa)=z:=⟨_,rfl⟩;obtain⟨t,ht⟩:∃z,max py qy=z:=⟨_,rfl⟩;obtain⟨d,hd⟩:∃z,min (py+pb) (qy+qb)=z:=⟨_,rfl⟩;have HV:Hid (capV ax ay aw ah bx by_ bw bh=if l≥r∨t≥d then rv 0 0 0 0 else rv l t (r-l) (d-t)):=by show _=_;unfold capV capL capR;rw[hpx,hpy,hpa,hpb,hqx,hqy,hqa,hqb,hl,hr,ht,hd]
    have bl:-100000≤l∧l≤100000:=by omega
    have br:-100000≤r∧r≤200000:=by omega
    have bt:-100000≤t∧t≤100000:=by omega
    have bd:-100000≤d∧d≤200000:=by omega
    rw[hl,hr,ht,hd];clear hpx hpy hpa hpb hqx hqy hqa hqb hl hr ht hd bpx bpy bpa bpb bqx bqy bqa bqb;by_cases h1:r≤l;·have e1:=decide_eq_true h1;go_wp2;refine bodyPost_ret (results_cell_row rfl _ _ (A+1+1) _ _ _ _ rfl (R1.out.set 0 0 0 0) Tryz.underlying48 rfl (by kernel_rfl)) rfl ?_;exact⟨by rw[HV.out,if_pos (.inl h1)];rfl,GG.out.set4 (by rw[HA.out];omega) _ _ _ _⟩
    ·have e1:=decide_eq_false h1;by_cases h2:d≤t;·have e2:=decide_eq_true h2;go_wp2;refine bodyPost_ret (results_cell_row rfl _ _ (A+1+1) _ _ _ _ rfl (R1.out.set 0 0 0 0) Tryz.underlying48 rfl (by kernel_rfl)) rfl ?_;exact⟨by rw[HV.out,if_pos (.inr h2)];rfl,GG.out.set4 (by rw[HA.out];omega) _ _ _ _⟩
     ·have e2:=decide_eq_false h2;go_wp2;refine bodyPost_ret (results_cell_row rfl _ _ (A+1+1) _ _ _ _ rfl (R1.out.set l t (r-l) (d-t)) Tryz.underlying48 rfl (by kernel_rfl)) rfl ?_;exact⟨by rw[HV.out,if_neg (by omega)];rfl,GG.out.set4 (by rw[HA.out];omega) _ _ _ _⟩
end
section
def holdB(x y a b px py:Int):Bool:=decide (posI x≤px∧px<posI x+lenI a∧posI y≤py∧py<posI y+lenI b)
theorem holdB_yes{x y a b px py:Int}(h:posI x≤px∧px<posI x+lenI a∧posI y≤py∧py<posI y+lenI b):holdB x y a b px py=true:=decide_eq_true h
theorem holdB_no{x y a b px py:Int}(h:¬(posI x≤px∧px<posI x+lenI a∧posI y≤py∧py<posI y+lenI b)):holdB x y a b px py=false:=decide_eq_false h
end
section
open Go.RowKit Go.Sort
theorem least_any(a b:Int)(w:World):Calls Tryz.prog 95 #[.int .i64 a,.int .i64 b] w fun e w'=>e=.returned (.int .i64 (min a b))∧w'=w:=by
 go_enter Tryz.func95,Tryz.ntmps95;by_cases h:a<b;·go_wp2;go_ret;exact⟨by rw[show min a b=a by omega];rfl,rfl⟩
 ·have h':b≤a:=by omega
  go_wp2;go_ret;exact⟨by rw[show min a b=b by omega];rfl,rfl⟩
theorem greatest_any(a b:Int)(w:World):Calls Tryz.prog 28 #[.int .i64 a,.int .i64 b] w fun e w'=>e=.returned (.int .i64 (max a b))∧w'=w:=by
 go_enter Tryz.func28,Tryz.ntmps28;by_cases h:b<a;·go_wp2;go_ret;exact⟨by rw[show max a b=a by omega];rfl,rfl⟩
 ·have h':a≤b:=by omega
  go_wp2;go_ret;exact⟨by rw[show max a b=b by omega];rfl,rfl⟩
theorem rClamped_any(n:Int)(w:World):Calls Tryz.prog 30 #[.int .i64 n] w fun e w'=>e=.returned (.int .i64 (lenI n))∧w'=w:=by
 go_enter Tryz.func30,Tryz.ntmps30;by_cases h:n<0;·go_wp2;go_ret;exact⟨by rw[show lenI n=0 by unfold lenI;omega];rfl,rfl⟩
 ·by_cases h2:100000<n;·have h':=h;go_wp2;go_ret;exact⟨by rw[show lenI n=100000 by unfold lenI;omega];rfl,rfl⟩
  ·have h':n≤100000:=by omega
   have h0:0≤n:=by omega
   go_wp2;go_ret;exact⟨by rw[show lenI n=n by unfold lenI;omega];rfl,rfl⟩
theorem firm_any(x y a b:Int)(w:World):Calls Tryz.prog 68 #[rv x y a b] w fun e w'=>e=.returned (rv (posI x) (posI y) (lenI a) (lenI b))∧Gr w w':=by
 have LS:=qH<|least_any;have GS:=qH<|greatest_any;have CS:=qH<|rClamped_any;obtain⟨px,hpx⟩:∃z,max (-100000) (min 100000 x)=z:=⟨_,rfl⟩;obtain⟨py,hpy⟩:∃z,max (-100000) (min 100000 y)=z:=⟨_,rfl⟩;have ex:posI x=px:=by unfold posI;omega
 have ey:posI y=py:=by unfold posI;omega
 rw[ex,ey];obtain⟨la,hla⟩:∃z,lenI a=z:=⟨_,rfl⟩;obtain⟨lb,hlb⟩:∃z,lenI b=z:=⟨_,rfl⟩;unfold rv;rw[hla,hlb];go_enter Tryz.func68,Tryz.ntmps68;go_wp2_with(first|(go_at_call 95;refine(LS.out _ _ _).mono ?_;rintro e w2 ⟨rfl,rfl⟩)|(go_at_call 28;refine(GS.out _ _ _).mono ?_;rintro e w2 ⟨rfl,rfl⟩));go_region_held(fun W=>W.cell? ⟨w.heap.size,2,none⟩=some (.int .i64 a)∧W.cell? ⟨w.heap.size,3,none⟩=some (.int .i64 b)) (go_keep) (first|(go_at_call 30;refine(CS.out _ _).mono ?_;rintro e w2 ⟨rfl,rfl⟩));all_goals
  try rw[hla,hlb]
  go_wp2;refine bodyPost_ret (v:=rv px py la lb) (by simp[results,Tryz.results68,go_sem,rv]) rfl ?_;exact⟨rfl,(((Gr.refl w).alloc _).alloc _).drew⟩
theorem rHolds_any(x y a b px py:Int)(w:World):Calls Tryz.prog 38 #[rv x y a b,.int .i64 px,.int .i64 py] w fun e w'=>e=.returned (.bool (holdB x y a b px py))∧Gr w w':=by
 have CC:=qH<|firm_any;have HY:Hid ((posI x≤px∧px<posI x+lenI a∧posI y≤py∧py<posI y+lenI b)->holdB x y a b px py=true):=holdB_yes;have HN:Hid (¬(posI x≤px∧px<posI x+lenI a∧posI y≤py∧py<posI y+lenI b)->holdB x y a b px py=false):=holdB_no;have b1:=posI_bd x;have b2:=posI_bd y;have b3:=lenI_bd a;have b4:=lenI_bd b;obtain⟨A,hA⟩:∃z,posI x=z:=⟨_,rfl⟩;obtain⟨B,hB⟩:∃z,posI y=z:=⟨_,rfl⟩;obtain⟨C,hC⟩:∃z,lenI a=z:=⟨_,rfl⟩;obtain⟨D,hD⟩:∃z,lenI b=z:=⟨_,rfl⟩;rw[hA,hB,hC,hD]at HY HN;rw[hA]at b1;rw[hB]at b2;rw[hC]at b3;rw[hD]at b4;unfold rv at CC⊢;go_enter Tryz.func38,Tryz.ntmps38;go_wp2_with(go_at_call 68;refine(CC.out _ _ _ _ _).mono ?_;rintro e w2 ⟨rfl,hg2⟩;have HG:=qH<|((Gr.refl w).alloc _).trans hg2;have HR:Hid (R4 45 w2 w.heap.size x y a b):=(R4.new w x y a b _).gr hg2;clear hg2;have c0:=HR.out.c0;have c1:=HR.out.c1;have c2:=HR.out.c2;have c3:=HR.out.c3;have f0:=HR.out.fz 0;have f1:=HR.out.fz 1;have f2:=HR.out.fz 2;have f3:=HR.out.fz 3;rw[hA,hB,hC,hD];by_cases h1:A≤px;by_cases h2:B≤py;by_cases h3:px<A+C;by_cases h4:py<B+D);all_goals
  go_ret;first
   |exact⟨by rw[HY.out (by omega)];rfl,HG.out.set4 (Nat.le_refl _) _ _ _ _⟩
   |exact⟨by rw[HN.out (by omega)];rfl,HG.out.set4 (Nat.le_refl _) _ _ _ _⟩
   |exact⟨by rw[HY.out (by omega)];exact congrArg (fun z=>Ending.returned (Value.bool z)) (decide_eq_true (by omega)),HG.out.set4 (Nat.le_refl _) _ _ _ _⟩
   |exact⟨by rw[HN.out (by omega)];exact congrArg (fun z=>Ending.returned (Value.bool z)) (decide_eq_false (by omega)),HG.out.set4 (Nat.le_refl _) _ _ _ _⟩
end
section
open Go.RowKit Go.Sort
theorem cell_up{U U':World}(hb:Below U.heap.size U U'){a:Addr}{v:Value}(h:U.cell? a=some v):U'.cell? a=some v:=
 (World.cell?_of_block (hb.block a.block (World.block_lt_of_cell? U a h))).trans h
end
section
open Go.RowKit Go.Sort
theorem lnum_any(n:Int)(w:World):Calls Tryz.prog 9 #[.int .i64 n] w fun e w'=>e=.returned (.int .i64 n)∧w'=w:=by go_enter Tryz.func9,Tryz.ntmps9;go_wp2;go_ret;exact⟨rfl,rfl⟩
end
end Go.Proofs.YtnponhbgicbkcaaGreatDoor
