import Derived.Test.YtnponhbgicbkcaaGreatDoorC47
import Derived.BigRegion
import Derived.Test.YtnponhbgicbkcaaGreatDoorC19
import Derived.Deep.CutBlock
import Derived.Test.YtnponhbgicbkcaaGreatDoorC42
set_option linter.unusedVariables false
set_option maxRecDepth 100000
set_option maxHeartbeats 16000000
namespace Go.Proofs.YtnponhbgicbkcaaGreatDoor
section
open Go.RowKit Go.Sort
def zu7(U U':World)(m:Nat)(x y a b gap:Int)(L:List Nd)(ks:List Nat)(N:Nat->Int)(e:Ending):Prop:=∃lb G,e=.returned (.slice (some ⟨lb,0,none⟩) m m)∧zto U U' lb m (fun j=>x) (fun j=>y+offs G (cl gap) j) (fun j=>a) (fun j=>G j)∧(ks=[]∨z1a L ks N b gap G)∧∀j,j<m->0≤G j∧G j≤100000
theorem zlf(r m:Nat)(x y a b gap:Int)(L:List Nd)(ks:List Nat)(N:Nat->Int)(H:Nat->Int->Int)(n:Nat)(v:Value)(U0 U:World)(hmm:ks.length=m)(hm:m≤200)(hr:r<U0.heap.size)(hx : -1000000000000≤x∧x≤1000000000000)(hy : -1000000000000≤y∧y≤1000000000000)(ha:0≤a∧a≤100000)(hb:0≤b∧b≤100000)
 (hv:Hid (z4s U0 U r m L ks N H n v)) :
 Calls Tryz.prog 99 #[rv x y a b,.int .i64 gap,v] U fun e U'=>zu7 U U' m x y a b gap L ks N e:=by
 have hmix:Tryz.prog.follows .mixedOrders=true:=by kernel_rfl
 obtain⟨G,hG⟩:=zn8 L ks N b gap
 obtain⟨i0,hi,hz0,hz1,hz2⟩:=info_parts zgk
 have hmk:∀W:World,(Instr.makeSlice 130 (.int .i64 (m:Int)) (.int .i64 (m:Int))).run Tryz.prog W=.ok (.slice (some ⟨W.heap.size,0,none⟩) m m) (W.alloc (.cells (madeCells #[.int .i64 0,.int .i64 0,.int .i64 0,.int .i64 0] (m*4)) 48)):=fun W=>by
  have:=run_make (P:=Tryz.prog) W 130 48 i0 _ Tryz.underlying130 hi hz0 .i64 .i64 m m (by omega) (Int.le_refl _) (by rw[hz2];omega) (by omega)
  rw[hz1,Int.toNat_natCast] at this
  exact this
 clear hi hz0 hz1 hz2
 obtain⟨A,hA⟩:∃z,U.heap.size=z:=⟨_,rfl⟩
 obtain⟨lb,vv⟩:=hv.out
 obtain⟨rfl,w1,w2,w3,w4⟩:=vv
 have HVO:Hid (WRow U lb 0 m (fun j=>wMn (nth L (kdn ks j)) (N j)) (fun j=>atN (nth L (kdn ks j)) 2) (fun j=>atN (nth L (kdn ks j)) 3)):=w1
 have hrl:r<U.heap.size:=Nat.lt_of_lt_of_le hr w3.size
 obtain⟨W1,hW1⟩:∃z,(U.alloc (.cells #[.int .i64 x,.int .i64 y,.int .i64 a,.int .i64 b] 48)).alloc (.cells (madeCells #[.int .i64 0,.int .i64 0,.int .i64 0,.int .i64 0] (m*4)) 48)=z:=⟨_,rfl⟩
 have HB1:Hid (Below U.heap.size U W1):=by rw[<-hW1];exact (((Gr.refl U).alloc _).alloc _).below
 have hat:W1.heap[A]?=some (.cells #[.int .i64 x,.int .i64 y,.int .i64 a,.int .i64 b] 48 (0,0)):=by
  rw[<-hW1,<-hA,Below.heap_alloc _ _ _ (by rw[World.size_alloc];omega)];exact heap_alloc_new _ _
 have hrow:W1.rowIs (A+1) 48 (m*4) (rcF (fun j=>x) (fun j=>y+offs G (cl gap) j) (fun j=>a) (fun j=>G j) 0):=by
  rw[<-hW1]
  have:=zmq (U.alloc (.cells #[.int .i64 x,.int .i64 y,.int .i64 a,.int .i64 b] 48)) m (fun j=>x) (fun j=>y+offs G (cl gap) j) (fun j=>a) (fun j=>G j) 48
  rw[World.size_alloc,hA] at this
  exact this
 have HS:Hid (∀u,Below W1.heap.size W1 u->u.cell? ⟨A,0,none⟩=some (.int .i64 x)∧u.cell? ⟨A,1,none⟩=some (.int .i64 y)∧u.cell? ⟨A,2,none⟩=some (.int .i64 a)∧u.cell? ⟨A,3,none⟩=some (.int .i64 b)):=fun u hu=>by
  have hb2:=(hu.block A (Array.getElem?_eq_some_iff.1 hat).1).trans hat
  refine⟨?_,?_,?_,?_⟩ <;> (rw[Lib.cell_of_heap hb2];rfl)
 have SP:Hid (∀u,Below W1.heap.size W1 u->Calls Tryz.prog 140 #[.int .i64 b,.int .i64 gap,.slice (some ⟨lb,0,none⟩) m m] u fun e u'=>∃q cq,e=.returned (.slice q m cq)∧Hid (z5o u' W1.heap.size q m G)∧Hid (Below W1.heap.size W1 u')∧Hid (Below u.heap.size u u')∧Hid (ks=[]∨z1a L ks N b gap G)):=fun u hu=>by
  have hub:Below U.heap.size U u:=HB1.out.trans (hu.mono HB1.out.size)
  refine (zna hmm hm (HVO.out.below hub) hG).mono ?_
  rintro e u' ⟨q,cq,rfl,q1,q2,q3⟩
  exact⟨q,cq,rfl,q1.low hu.size,hu.trans (q2.mono hu.size),q2,q3⟩
 have OF:Hid (∀u,Below W1.heap.size W1 u->Calls Tryz.prog 147 #[.int .i64 b,.int .i64 gap,.slice (some ⟨lb,0,none⟩) m m] u fun e u'=>∃q cq,e=.returned (.slice q m cq)∧Hid (z5o u' W1.heap.size q m (offs G (cl gap)))∧Hid (Below W1.heap.size W1 u')∧Hid (Below u.heap.size u u')):=fun u hu=>by
  have hub:Below U.heap.size U u:=HB1.out.trans (hu.mono HB1.out.size)
  refine (zqz hmm hm (HVO.out.below hub) hG).mono ?_
  rintro e u' ⟨q,cq,rfl,q1,q2⟩
  exact⟨q,cq,rfl,q1.low hu.size,hu.trans (q2.mono hu.size),q2⟩
 have HROW:Hid (W1.rowIs (A+1) 48 (m*4) (rcF (fun j=>x) (fun j=>y+offs G (cl gap) j) (fun j=>a) (fun j=>G j) 0)):=hrow
 have HA1:Hid (A+1<W1.heap.size):=HROW.out.lt
 have HAL:Hid (A<W1.heap.size):=(Array.getElem?_eq_some_iff.1 hat).1
 have HUA:Hid (U.heap.size=A):=hA
 obtain⟨z0,z1,z2,z3⟩:=HS.out W1 (Below.refl _ _)
 clear hat hrow w1 w2 w3 w4 hv
 unfold rv
 go_enter Tryz.func99,Tryz.ntmps99
 go_wp2_with fail
 clear hW1 hA hmk
 go_cut [8,9] from 14 to 23 (fun s1 s2 wx=>∃q1 c1 q2 c2,s1=.slice q1 m c1∧s2=.slice q2 m c2∧Hid (z5o wx W1.heap.size q1 m G)∧Hid (z5o wx W1.heap.size q2 m (offs G (cl gap)))∧Hid (Below W1.heap.size W1 wx)∧Hid (ks=[]∨z1a L ks N b gap G))
 case first =>
  go_region_held (fun W=>W.cell? ⟨A,3,none⟩=some (.int .i64 b)) (go_keep) (first
   | (go_at_call 140;refine Calls.mono (SP.out _ (by first|exact Below.refl _ _|exact (Below.refl _ _).drew|exact HBo.out)) ?_;rintro e us ⟨qs,cqs,rfl,HIs,HBs,HXs,HKs⟩;obtain⟨s0,s1,s2,s3⟩:=HS.out us HBs.out)
   | (go_at_call 140;refine Calls.mono (SP.out _ HBo.out) ?_;rintro e us ⟨qs,cqs,rfl,HIs,HBs,HXs,HKs⟩;obtain⟨s0,s1,s2,s3⟩:=HS.out us HBs.out)
   | (go_at_call 147;refine Calls.mono (OF.out _ (by first|exact HBs.out|exact Below.refl _ _|exact (Below.refl _ _).drew)) ?_;rintro e uo ⟨qo,cqo,rfl,HIo,HBo,HXo⟩;obtain⟨o0,o1,o2,o3⟩:=HS.out uo HBo.out))
  all_goals go_wp2_with fail
  all_goals go_meet
  all_goals first
   | exact⟨qs,cqs,qo,cqo,rfl,rfl,HIs.out.below HXo.out,HIo,HBo,HKs⟩
   | exact⟨qs,cqs,qo,cqo,rfl,rfl,HIs,HIo.out.below HXs.out,HBs,HKs⟩
 case rest =>
  obtain⟨q1,c1,q2,c2,rfl,rfl,HI1,HI2,HBc,HKc⟩:=hcut
  have HKG:Hid (∀j,j<m->0≤G j∧G j≤100000):=fun j hj=>by
   rcases HKc.out with e|hg
   ·rw[e] at hmm;simp at hmm;omega
   ·have t1:=(z1k.tiles hg (z36 _ _ _)).1 j (by omega)
    have t2:=z36 (fun j=>wMn (nth L (kdn ks j)) (N j)) (fun j=>atN (nth L (kdn ks j)) 2) (fun j=>atN (nth L (kdn ks j)) 3) j
    (try dsimp only at t1 t2)
    omega
  have HKO:Hid (∀j,j<m->0≤offs G (cl gap) j∧offs G (cl gap) j≤40000000):=fun j hj=>by
   have:=z9i HKG.out (z3x gap) j (by omega)
   omega
  have HRC:Hid (wc.rowIs (A+1) 48 (m*4) (rcF (fun j=>x) (fun j=>y+offs G (cl gap) j) (fun j=>a) (fun j=>G j) 0)):=z4h HROW.out HBc.out
  have HSC:Hid (wc.cell? ⟨A,0,none⟩=some (.int .i64 x)∧wc.cell? ⟨A,1,none⟩=some (.int .i64 y)∧wc.cell? ⟨A,2,none⟩=some (.int .i64 a)∧wc.cell? ⟨A,3,none⟩=some (.int .i64 b)):=HS.out wc HBc.out
  clear SP OF z0 z1 z2 z3 HS HROW
  go_wp2_with fail
  go_loopw [26] (fun kv wr=>∃k:Nat,k≤m∧kv=.int .i64 (k:Int)∧Hid (wr.rowIs (A+1) 48 (m*4) (rcF (fun j=>x) (fun j=>y+offs G (cl gap) j) (fun j=>a) (fun j=>G j) k))∧Hid (Below U.heap.size U wr)∧Hid (∀bq,bq≠A+1->bq<wc.heap.size->wr.heap[bq]?=wc.heap[bq]?)∧Hid (wc.heap.size≤wr.heap.size)) (fun kv _=>m - (intOf kv).toNat)
  case atStart=>exact⟨0,Nat.zero_le _,rfl,HRC,HB1.out.trans (HBc.out.mono HB1.out.size),fun _ _ _=>rfl,Nat.le_refl _⟩
  case round =>
   obtain⟨k,hk,rfl,HR,HBU,HO,HZ⟩:=hrel
   by_cases hlt:k<m
   ·have hlt':(k:Int)<(m:Int):=by omega
    obtain⟨b1,o1,rfl,l1,n1,d1⟩:=HI1.out.resolve_left (by omega)
    obtain⟨b2,o2,rfl,l2,n2,d2⟩:=HI2.out.resolve_left (by omega)
    have hAl:=HAL.out
    have hA1:A+1<W1.heap.size∨W1.heap.size≤A+1:=by omega
    have hA2:A+1<W1.heap.size:=HA1.out
    have c0:wr.cell? ⟨A,0,none⟩=some (.int .i64 x):=(World.cell?_of_block (HO.out A (by omega) (by have:=HBc.out.size;omega))).trans HSC.out.1
    have c1:wr.cell? ⟨A,1,none⟩=some (.int .i64 y):=(World.cell?_of_block (HO.out A (by omega) (by have:=HBc.out.size;omega))).trans HSC.out.2.1
    have c2:wr.cell? ⟨A,2,none⟩=some (.int .i64 a):=(World.cell?_of_block (HO.out A (by omega) (by have:=HBc.out.size;omega))).trans HSC.out.2.2.1
    have c3:wr.cell? ⟨A,3,none⟩=some (.int .i64 b):=(World.cell?_of_block (HO.out A (by omega) (by have:=HBc.out.size;omega))).trans HSC.out.2.2.2
    have e1:wr.cell? ⟨b1,o1+k,none⟩=some (.int .i64 (G k)):=(World.cell?_of_block (HO.out b1 (by omega) l1)).trans (d1 k hlt)
    have e2:wr.cell? ⟨b2,o2+k,none⟩=some (.int .i64 (offs G (cl gap) k)):=(World.cell?_of_block (HO.out b2 (by omega) l2)).trans (d2 k hlt)
    have hgk:=HKG.out k hlt
    have hok:=HKO.out k hlt
    have hfr:∀j,wr.frozen? ⟨A+1,j,none⟩=false:=fun j=>HR.out.frozen j
    have hv0:∃v,wr.cell? ⟨A+1,k*4,none⟩=some v:=⟨_,HR.out.cell (by omega)⟩
    have hv1:∃v,wr.cell? ⟨A+1,k*4+1,none⟩=some v:=⟨_,HR.out.cell (by omega)⟩
    have hv2:∃v,wr.cell? ⟨A+1,k*4+2,none⟩=some v:=⟨_,HR.out.cell (by omega)⟩
    have hv3:∃v,wr.cell? ⟨A+1,k*4+3,none⟩=some v:=⟨_,HR.out.cell (by omega)⟩
    obtain⟨v0,hv0⟩:=hv0
    obtain⟨v1,hv1⟩:=hv1
    obtain⟨v2,hv2⟩:=hv2
    obtain⟨v3,hv3⟩:=hv3
    obtain⟨gk,hgke⟩:∃z,G k=z:=⟨_,rfl⟩
    obtain⟨ok,hoke⟩:∃z,offs G (cl gap) k=z:=⟨_,rfl⟩
    have HNX:Hid (∀p0 p1 p2 p3:Int,p0=x->p1=y+ok->p2=a->p3=gk->Hid (((((wr.setCell ⟨A+1,k*4,none⟩ (.int .i64 p0)).setCell ⟨A+1,k*4+1,none⟩ (.int .i64 p1)).setCell ⟨A+1,k*4+2,none⟩ (.int .i64 p2)).setCell ⟨A+1,k*4+3,none⟩ (.int .i64 p3)).rowIs (A+1) 48 (m*4) (rcF (fun j=>x) (fun j=>y+offs G (cl gap) j) (fun j=>a) (fun j=>G j) (k+1)))):=fun p0 p1 p2 p3 h0 h1 h2 h3=>zmp HR.out p0 p1 p2 p3 h0 (by rw[h1,<-hoke]) h2 (by rw[h3,<-hgke])
    have HNB:Hid (∀p0 p1 p2 p3:Value,Below U.heap.size U ((((wr.setCell ⟨A+1,k*4,none⟩ p0).setCell ⟨A+1,k*4+1,none⟩ p1).setCell ⟨A+1,k*4+2,none⟩ p2).setCell ⟨A+1,k*4+3,none⟩ p3)):=fun p0 p1 p2 p3=>(((HBU.out.setCell (p:=⟨A+1,_,none⟩) (by rw[HUA.out];show A≤A+1;omega) _).setCell (p:=⟨A+1,_,none⟩) (by rw[HUA.out];show A≤A+1;omega) _).setCell (p:=⟨A+1,_,none⟩) (by rw[HUA.out];show A≤A+1;omega) _).setCell (p:=⟨A+1,_,none⟩) (by rw[HUA.out];show A≤A+1;omega) _
    have HNO:Hid (∀p0 p1 p2 p3:Value,∀bq,bq≠A+1->bq<wc.heap.size->((((wr.setCell ⟨A+1,k*4,none⟩ p0).setCell ⟨A+1,k*4+1,none⟩ p1).setCell ⟨A+1,k*4+2,none⟩ p2).setCell ⟨A+1,k*4+3,none⟩ p3).heap[bq]?=wc.heap[bq]?):=fun p0 p1 p2 p3 bq h1 h2=>by
     rw[Below.heap_setCell _ ⟨A+1,k*4+3,none⟩ _ _ h1,Below.heap_setCell _ ⟨A+1,k*4+2,none⟩ _ _ h1,Below.heap_setCell _ ⟨A+1,k*4+1,none⟩ _ _ h1,Below.heap_setCell _ ⟨A+1,k*4,none⟩ _ _ h1]
     exact HO.out bq h1 h2
    rw[hgke] at hgk e1
    rw[hoke] at hok e2
    have hw1:IntKind.i64.wrap (x+ok)=x+ok:=IntWalk.i64_in _ (by omega)
    have hw2:IntKind.i64.wrap (y+ok)=y+ok:=IntWalk.i64_in _ (by omega)
    have hal:A+1<wr.heap.size:=HR.out.lt
    have hne1:¬A=A+1:=by omega
    have hne2:¬A+1=A:=by omega
    have hne3:¬b1=A+1:=by omega
    have hne4:¬A+1=b1:=by omega
    have hne5:¬b2=A+1:=by omega
    have hne6:¬A+1=b2:=by omega
    clear hgke hoke hAl hA1 hA2 d1 d2 HR HBU HO l1 l2 n1 n2 HKG HKO
    go_wp2_with fail
    go_region_held (fun W=>W.cell? ⟨A,0,none⟩=some (.int .i64 x)∧W.cell? ⟨A,1,none⟩=some (.int .i64 y)∧W.cell? ⟨A,2,none⟩=some (.int .i64 a)∧W.cell? ⟨A,3,none⟩=some (.int .i64 b)∧W.cell? ⟨b1,o1+k,none⟩=some (.int .i64 gk)∧W.cell? ⟨b2,o2+k,none⟩=some (.int .i64 ok)) (go_keep) (fail)
    all_goals
     go_wp2
     go_roundw
     case rel=>exact⟨k+1,hlt,by go_num,HNX.out _ _ _ _ rfl rfl rfl rfl,by first|exact (HNB.out _ _ _ _).drew|exact HNB.out _ _ _ _,HNO.out _ _ _ _,by show _≤_;simpa using HZ.out⟩
     case measure=>simp[intOf];omega
   ·have hlt':¬(k:Int)<(m:Int):=by omega
    obtain rfl:k=m:=by omega
    go_wp2
    go_ret
    exact⟨A+1,G,rfl,⟨zr5 HR.out,by rw[HUA.out];omega,HBU.out⟩,HKc.out,HKG.out⟩
end
section
open Go.RowKit Go.Sort
structure z0x(kd a4 a5 a6:Int)(L:List Nd)(ks:List Nat)(Wd:Nat->Int)(H:Nat->Int->Int)(x y w h of rm:Int)(R0 R1 R2 R3:Nat->Int):Prop where
 row:kd=0->∃G,(ks=[]∨z1a L ks (fun j=>Wd (kdn ks j)) w a4 G)∧(∀j,j<ks.length->0≤G j∧G j≤100000)∧∀j,j<ks.length->R0 j=x+offs G (cl a4) j∧R1 j=y∧R2 j=G j∧R3 j=h
 col:kd=1->∃G,(ks=[]∨z1a L ks (fun j=>H (kdn ks j) w) h a4 G)∧(∀j,j<ks.length->0≤G j∧G j≤100000)∧∀j,j<ks.length->R0 j=x∧R1 j=y+offs G (cl a4) j∧R2 j=w∧R3 j=G j
 box:kd=3->∀j,j<ks.length->insV x y w h (a6+a5)=rv (R0 j) (R1 j) (R2 j) (R3 j)
 scr:kd=4->∀j,j<ks.length->R0 j=x∧R1 j=y - of∧R2 j=w∧R3 j=h+rm
 rest:kd≠0->kd≠1->kd≠3->kd≠4->∀j,j<ks.length->R0 j=x∧R1 j=y∧R2 j=w∧R3 j=h
def z3t(U U':World)(r m:Nat)(H:Nat->Int->Int)(n:Nat)(X:(Nat->Int)->(Nat->Int)->(Nat->Int)->(Nat->Int)->Prop)(e:Ending):Prop:=∃q cq R0 R1 R2 R3,e=.returned (.slice q m cq)∧X R0 R1 R2 R3∧(m=0∨∃b,q=some ⟨b,0,none⟩∧U.heap.size≤b∧zco U' b m R0 R1 R2 R3)∧U.grownBy U' (some r)∧Memo U' r H n
theorem z3t.base{U U0 U':World}{r m:Nat}{H:Nat->Int->Int}{n:Nat}{X:(Nat->Int)->(Nat->Int)->(Nat->Int)->(Nat->Int)->Prop}{e:Ending}(h:z3t U U' r m H n X e)(h0:U0.grownBy U (some r)):z3t U0 U' r m H n X e:=by
 obtain⟨q,cq,R0,R1,R2,R3,h1,h2,h3,h4,h5⟩:=h
 refine⟨q,cq,R0,R1,R2,R3,h1,h2,?_,h0.trans h4,h5⟩
 rcases h3 with h3|⟨b,e,h6,h7⟩
 ·exact .inl h3
 ·exact .inr ⟨b,e,Nat.le_trans h0.size h6,h7⟩
theorem zu4{W:World}{b m:Nat}{x y a c:Int}{Ls:List Value}(h:W.heap[b]?=some (.cells Ls.toArray 48 (0,0)))(hf:Fl4 Ls m m [.int .i64 x,.int .i64 y,.int .i64 a,.int .i64 c]):zco W b m (fun _=>x) (fun _=>y) (fun _=>a) (fun _=>c):=by
 refine⟨(Array.getElem?_eq_some_iff.1 h).1,fun j hj=>⟨?_,?_,?_,?_⟩⟩
 ·rw[Lib.cell_of_heap h];have:=hf.2 j 0 _ hj rfl;simpa using this
 ·rw[Lib.cell_of_heap h];have:=hf.2 j 1 _ hj rfl;simpa using this
 ·rw[Lib.cell_of_heap h];have:=hf.2 j 2 _ hj rfl;simpa using this
 ·rw[Lib.cell_of_heap h];have:=hf.2 j 3 _ hj rfl;simpa using this
theorem zc8(m:Nat)(hm:m≤1000)(x y a c:Int)(u:World) :
 Calls Tryz.prog 102 #[.slice (some ⟨u.heap.size,0,none⟩) 1 1,.int .i64 (m:Int)] (u.alloc (.cells #[.int .i64 x,.int .i64 y,.int .i64 a,.int .i64 c] 48)) fun e u'=>∃q cq,e=.returned (.slice q m cq)∧Hid (m=0∨∃b,q=some ⟨b,0,none⟩∧u.heap.size≤b∧zco u' b m (fun _=>x) (fun _=>y) (fun _=>a) (fun _=>c))∧Hid (Below u.heap.size u u'):=by
 have hb2:Below u.heap.size u (u.alloc (.cells #[.int .i64 x,.int .i64 y,.int .i64 a,.int .i64 c] 48)):=(Below.refl _ u).alloc (Nat.le_refl _) _
 by_cases hz:m=0
 ·subst hz
  refine (zms (u.alloc (.cells #[.int .i64 x,.int .i64 y,.int .i64 a,.int .i64 c] 48)) u.heap.size).mono ?_
  rintro e u' ⟨q,cq,rfl,hb⟩
  exact⟨q,cq,rfl,.inl rfl,hb2.trans (hb.mono hb2.size)⟩
 ·refine (zpy (u.alloc (.cells #[.int .i64 x,.int .i64 y,.int .i64 a,.int .i64 c] 48)) x y a c u.heap.size m (by omega) (by simp) (fun k v hk=>?_)).mono ?_
  ·rw[World.cell?_alloc_at _ _ _ _ rfl]
   match k with
   | 0=>exact hk
   | 1=>exact hk
   | 2=>exact hk
   | 3=>exact hk
   | k+4=>cases hk
  ·rintro e u' ⟨rfl,⟨Ls,hl,hfl⟩,hb⟩
   exact⟨_,_,rfl,.inr ⟨_,rfl,hb2.size,zu4 hl hfl⟩,hb2.trans (hb.mono hb2.size)⟩
theorem zdl(mb r nn m:Nat)(L:List Nd)(ks:List Nat)(Wd:Nat->Int)(H:Nat->Int->Int)(a0 a1 a2 a3 a4 a5 a6 a7 a8 a9 b0 b1 up:Int)(tx:ByteArray)(p:Option Addr)(c:Nat)(x y w h c0 c1 c2 c3 of rm:Int)(U:World)
 (hmm:ks.length=m) (hm:m≤200) (hM:Hid (Memo U r H nn)) (hx : -1000000000000≤x∧x≤1000000000000) (hy : -1000000000000≤y∧y≤1000000000000) (hw:0≤w∧w≤100000) (hh:0≤h∧h≤100000)
 (WC:Hid (∀u,Below U.heap.size U u->Memo u r H nn->Calls Tryz.prog 98 #[.pointer (some ⟨mb,0,none⟩),ndA 0 a0 a1 a2 a3 a4 a5 a6 a7 a8 a9 b0 b1 tx (.slice p m c) up] u fun e u'=>∃v,e=.returned v∧z4s u u' r m L ks (fun j=>Wd (kdn ks j)) H (nn) v)) :
 Calls Tryz.prog 65 #[.pointer (some ⟨mb,0,none⟩),ndA 0 a0 a1 a2 a3 a4 a5 a6 a7 a8 a9 b0 b1 tx (.slice p m c) up,.agg #[.int .i64 x,.int .i64 y,.int .i64 w,.int .i64 h,.int .i64 c0,.int .i64 c1,.int .i64 c2,.int .i64 c3,.int .i64 of,.int .i64 rm]] U fun e U'=>z3t U U' r m H (nn) (z0x 0 a4 a5 a6 L ks Wd H x y w h of rm) e:=by
 have hmix:Tryz.prog.follows .mixedOrders=true:=by kernel_rfl
 obtain⟨W3,hW3⟩:∃z,((U.alloc (.cells #[.int .i64 0,.int .i64 a0,.int .i64 a1,.int .i64 a2,.int .i64 a3,.int .i64 a4,.int .i64 a5,.int .i64 a6,.int .i64 a7,.int .i64 a8,.int .i64 a9,.int .i64 b0,.int .i64 b1,.string tx,.slice p m c,.int .i64 up] 101)).alloc (.cells #[.int .i64 x,.int .i64 y,.int .i64 w,.int .i64 h,.int .i64 c0,.int .i64 c1,.int .i64 c2,.int .i64 c3,.int .i64 of,.int .i64 rm] 50)).alloc (.cells #[.int .i64 x,.int .i64 y,.int .i64 w,.int .i64 h] 48)=z:=⟨_,rfl⟩
 obtain⟨A,hA⟩:∃z,U.heap.size=z:=⟨_,rfl⟩
 have HB3:Hid (Below U.heap.size U W3):=by rw[<-hW3];exact ((((Gr.refl U).alloc _).alloc _).alloc _).below
 have hn3:W3.heap[A]?=some (.cells #[.int .i64 0,.int .i64 a0,.int .i64 a1,.int .i64 a2,.int .i64 a3,.int .i64 a4,.int .i64 a5,.int .i64 a6,.int .i64 a7,.int .i64 a8,.int .i64 a9,.int .i64 b0,.int .i64 b1,.string tx,.slice p m c,.int .i64 up] 101 (0,0)):=by
  rw[<-hW3,<-hA,Below.heap_alloc _ _ _ (by rw[World.size_alloc,World.size_alloc];omega),Below.heap_alloc _ _ _ (by rw[World.size_alloc];omega)];exact heap_alloc_new _ _
 have hp3:W3.heap[A+1]?=some (.cells #[.int .i64 x,.int .i64 y,.int .i64 w,.int .i64 h,.int .i64 c0,.int .i64 c1,.int .i64 c2,.int .i64 c3,.int .i64 of,.int .i64 rm] 50 (0,0)):=by
  have:=heap_alloc_new (U.alloc (.cells #[.int .i64 0,.int .i64 a0,.int .i64 a1,.int .i64 a2,.int .i64 a3,.int .i64 a4,.int .i64 a5,.int .i64 a6,.int .i64 a7,.int .i64 a8,.int .i64 a9,.int .i64 b0,.int .i64 b1,.string tx,.slice p m c,.int .i64 up] 101)) (.cells #[.int .i64 x,.int .i64 y,.int .i64 w,.int .i64 h,.int .i64 c0,.int .i64 c1,.int .i64 c2,.int .i64 c3,.int .i64 of,.int .i64 rm] 50)
  rw[World.size_alloc,hA] at this
  rw[<-hW3,Below.heap_alloc _ _ _ (by rw[World.size_alloc,World.size_alloc];omega)];exact this
 have hi3:W3.heap[A+1+1]?=some (.cells #[.int .i64 x,.int .i64 y,.int .i64 w,.int .i64 h] 48 (0,0)):=by
  have:=heap_alloc_new ((U.alloc (.cells #[.int .i64 0,.int .i64 a0,.int .i64 a1,.int .i64 a2,.int .i64 a3,.int .i64 a4,.int .i64 a5,.int .i64 a6,.int .i64 a7,.int .i64 a8,.int .i64 a9,.int .i64 b0,.int .i64 b1,.string tx,.slice p m c,.int .i64 up] 101)).alloc (.cells #[.int .i64 x,.int .i64 y,.int .i64 w,.int .i64 h,.int .i64 c0,.int .i64 c1,.int .i64 c2,.int .i64 c3,.int .i64 of,.int .i64 rm] 50)) (.cells #[.int .i64 x,.int .i64 y,.int .i64 w,.int .i64 h] 48)
  rw[World.size_alloc,World.size_alloc,hA] at this
  rw[<-hW3];exact this
 have hrA:r<A:=by rw[<-hA];exact hM.out.lt
 have HS:Hid (∀u,W3.grownBy u (some r)->(u.cell? ⟨A,0,none⟩=some (.int .i64 0)∧u.cell? ⟨A,1,none⟩=some (.int .i64 a0)∧u.cell? ⟨A,2,none⟩=some (.int .i64 a1)∧u.cell? ⟨A,3,none⟩=some (.int .i64 a2)∧u.cell? ⟨A,4,none⟩=some (.int .i64 a3)∧u.cell? ⟨A,5,none⟩=some (.int .i64 a4)∧u.cell? ⟨A,6,none⟩=some (.int .i64 a5)∧u.cell? ⟨A,7,none⟩=some (.int .i64 a6)∧u.cell? ⟨A,8,none⟩=some (.int .i64 a7)∧u.cell? ⟨A,9,none⟩=some (.int .i64 a8)∧u.cell? ⟨A,10,none⟩=some (.int .i64 a9)∧u.cell? ⟨A,11,none⟩=some (.int .i64 b0)∧u.cell? ⟨A,12,none⟩=some (.int .i64 b1)∧u.cell? ⟨A,13,none⟩=some (.string tx)∧u.cell? ⟨A,14,none⟩=some (.slice p m c)∧u.cell? ⟨A,15,none⟩=some (.int .i64 up))∧u.cell? ⟨A+1+1,0,none⟩=some (.int .i64 x)∧u.cell? ⟨A+1+1,1,none⟩=some (.int .i64 y)∧u.cell? ⟨A+1+1,2,none⟩=some (.int .i64 w)∧u.cell? ⟨A+1+1,3,none⟩=some (.int .i64 h)):=fun u hu=>by
  have hb1:u.heap[A]?=W3.heap[A]?:=hu.block A (Array.getElem?_eq_some_iff.1 hn3).1 (fun e=>by injection e with e;omega)
  have hb2:u.heap[A+1+1]?=W3.heap[A+1+1]?:=hu.block (A+1+1) (Array.getElem?_eq_some_iff.1 hi3).1 (fun e=>by injection e with e;omega)
  refine⟨⟨?_,?_,?_,?_,?_,?_,?_,?_,?_,?_,?_,?_,?_,?_,?_,?_⟩,?_,?_,?_,?_⟩
  all_goals first
   | (rw[Lib.cell_of_heap (hb1.trans hn3)];rfl)
   | (rw[Lib.cell_of_heap (hb2.trans hi3)];rfl)
 obtain⟨⟨z0,z1,z2,z3,z4,z5,z6,z7,z8,z9,z10,z11,z12,z13,z14,z15⟩,y0,y1,y2,y3⟩:=HS.out W3 (z00 (Below.refl _ _))
 have p8:W3.cell? ⟨A+1,8,none⟩=some (.int .i64 of):=by rw[Lib.cell_of_heap hp3];rfl
 have p9:W3.cell? ⟨A+1,9,none⟩=some (.int .i64 rm):=by rw[Lib.cell_of_heap hp3];rfl
 have HM3:Hid (Memo W3 r H nn):=hM.out.grown_below HB3.out
 have hAl0:A<W3.heap.size:=(Array.getElem?_eq_some_iff.1 hn3).1
 have hne0:¬A=W3.heap.size:=by omega
 have RW:Hid (∀u,(u=W3∨u=W3.drew)->Calls Tryz.prog 98 #[.pointer (some ⟨mb,0,none⟩),ndA 0 a0 a1 a2 a3 a4 a5 a6 a7 a8 a9 b0 b1 tx (.slice p m c) up] u fun e u'=>∃v,e=.returned v∧Hid (z4s W3 u' r m L ks (fun j=>Wd (kdn ks j)) H (nn) v)):=fun u hu=>by
  have hbu:Below W3.heap.size W3 u:=by
   rcases hu with rfl|rfl
   ·exact Below.refl _ _
   ·exact (Below.refl _ _).drew
  refine (WC.out u (HB3.out.trans (hbu.mono HB3.out.size)) (HM3.out.grown_below hbu)).mono ?_
  rintro e u' ⟨v,rfl,lb,rfl,q1,q2,q3,q4⟩
  exact⟨_,rfl,lb,rfl,q1,Nat.le_trans hbu.size q2,(z00 hbu).trans q3,q4⟩
 have IN:Hid (∀v u,z4s W3 u r m L ks (fun j=>Wd (kdn ks j)) H (nn) v->Calls Tryz.prog 97 #[.agg #[.int .i64 x,.int .i64 y,.int .i64 w,.int .i64 h],.int .i64 a4,v] u fun e u'=>∃q cq,e=.returned (.slice q m cq)∧Hid (z3t W3 u' r m H (nn) (z0x 0 a4 a5 a6 L ks Wd H x y w h of rm) (.returned (.slice q m cq)))):=fun v u hv=>by
  refine (zlg r m x y w h a4 L ks (fun j=>Wd (kdn ks j)) H (nn) v W3 u hmm hm (by have:=HB3.out.size;omega) hx hy hw hh hv).mono ?_
  rintro e u' ⟨lb,G,rfl,⟨o1,o2,o3⟩,g1,g2⟩
  obtain⟨lv,_,_,v2,v3,v4⟩:=hv
  refine⟨_,_,rfl,_,_,_,_,_,_,rfl,?_,.inr ⟨lb,rfl,Nat.le_trans v3.size o2,o1⟩,v3.trans (z00 o3),v4.grown_below o3⟩
  exact⟨fun _=>⟨G,g1,by rw[hmm];exact g2,fun j _=>⟨rfl,rfl,rfl,rfl⟩⟩,fun e=>absurd e (by decide),fun e=>absurd e (by decide),fun e=>absurd e (by decide),fun e=>absurd rfl e⟩
 unfold ndA at RW ⊢
 clear hn3 hp3 hi3 hM WC p8 p9
 go_enter Tryz.func65,Tryz.ntmps65
 go_wp2_with fail
 clear hW3 hA
 go_region_held (fun W=>(W.cell? ⟨A,0,none⟩=some (.int .i64 0)∧W.cell? ⟨A,1,none⟩=some (.int .i64 a0)∧W.cell? ⟨A,2,none⟩=some (.int .i64 a1)∧W.cell? ⟨A,3,none⟩=some (.int .i64 a2)∧W.cell? ⟨A,4,none⟩=some (.int .i64 a3)∧W.cell? ⟨A,5,none⟩=some (.int .i64 a4)∧W.cell? ⟨A,6,none⟩=some (.int .i64 a5)∧W.cell? ⟨A,7,none⟩=some (.int .i64 a6)∧W.cell? ⟨A,8,none⟩=some (.int .i64 a7)∧W.cell? ⟨A,9,none⟩=some (.int .i64 a8)∧W.cell? ⟨A,10,none⟩=some (.int .i64 a9)∧W.cell? ⟨A,11,none⟩=some (.int .i64 b0)∧W.cell? ⟨A,12,none⟩=some (.int .i64 b1)∧W.cell? ⟨A,13,none⟩=some (.string tx)∧W.cell? ⟨A,14,none⟩=some (.slice p m c)∧W.cell? ⟨A,15,none⟩=some (.int .i64 up))∧W.cell? ⟨A+1+1,0,none⟩=some (.int .i64 x)∧W.cell? ⟨A+1+1,1,none⟩=some (.int .i64 y)∧W.cell? ⟨A+1+1,2,none⟩=some (.int .i64 w)∧W.cell? ⟨A+1+1,3,none⟩=some (.int .i64 h)) (go_keep) (first|(go_at_call 98;refine Calls.mono (RW.out _ (by first|exact .inl rfl|exact .inr rfl)) ?_;rintro e u1 ⟨v1,rfl,HO⟩;obtain⟨⟨s0,s1,s2,s3,s4,s5,s6,s7,s8,s9,s10,s11,s12,s13,s14,s15⟩,e0,e1,e2,e3⟩:=HS.out u1 HO.out.g)|(go_at_call 97;refine Calls.mono (IN.out _ _ HO.out) ?_;rintro e u2 ⟨q,cq,rfl,HZ⟩;obtain⟨⟨t0,t1,t2,t3,t4,t5,t6,t7,t8,t9,t10,t11,t12,t13,t14,t15⟩,f0,f1,f2,f3⟩:=HS.out u2 (by obtain⟨_,_,_,_,_,_,_,_,_,hq,_⟩:=HZ.out;exact hq)))
 all_goals
  go_wp2
  go_ret
  exact HZ.out.base (z00 HB3.out)
end
section
open Go.RowKit Go.Sort
theorem zdk(mb r nn m:Nat)(L:List Nd)(ks:List Nat)(Wd:Nat->Int)(H:Nat->Int->Int)(a0 a1 a2 a3 a4 a5 a6 a7 a8 a9 b0 b1 up:Int)(tx:ByteArray)(p:Option Addr)(c:Nat)(x y w h c0 c1 c2 c3 of rm:Int)(U:World)
 (hmm:ks.length=m) (hm:m≤200) (hM:Hid (Memo U r H nn)) (hx : -1000000000000≤x∧x≤1000000000000) (hy : -1000000000000≤y∧y≤1000000000000) (hw:0≤w∧w≤100000) (hh:0≤h∧h≤100000)
 (WC:Hid (∀u,Below U.heap.size U u->Memo u r H nn->Calls Tryz.prog 100 #[.pointer (some ⟨mb,0,none⟩),ndA 1 a0 a1 a2 a3 a4 a5 a6 a7 a8 a9 b0 b1 tx (.slice p m c) up,.int .i64 w] u fun e u'=>∃v,e=.returned v∧z4s u u' r m L ks (fun j=>H (kdn ks j) w) H (nn+100*m) v)) :
 Calls Tryz.prog 65 #[.pointer (some ⟨mb,0,none⟩),ndA 1 a0 a1 a2 a3 a4 a5 a6 a7 a8 a9 b0 b1 tx (.slice p m c) up,.agg #[.int .i64 x,.int .i64 y,.int .i64 w,.int .i64 h,.int .i64 c0,.int .i64 c1,.int .i64 c2,.int .i64 c3,.int .i64 of,.int .i64 rm]] U fun e U'=>z3t U U' r m H (nn+100*m) (z0x 1 a4 a5 a6 L ks Wd H x y w h of rm) e:=by
 have hmix:Tryz.prog.follows .mixedOrders=true:=by kernel_rfl
 obtain⟨W3,hW3⟩:∃z,((U.alloc (.cells #[.int .i64 1,.int .i64 a0,.int .i64 a1,.int .i64 a2,.int .i64 a3,.int .i64 a4,.int .i64 a5,.int .i64 a6,.int .i64 a7,.int .i64 a8,.int .i64 a9,.int .i64 b0,.int .i64 b1,.string tx,.slice p m c,.int .i64 up] 101)).alloc (.cells #[.int .i64 x,.int .i64 y,.int .i64 w,.int .i64 h,.int .i64 c0,.int .i64 c1,.int .i64 c2,.int .i64 c3,.int .i64 of,.int .i64 rm] 50)).alloc (.cells #[.int .i64 x,.int .i64 y,.int .i64 w,.int .i64 h] 48)=z:=⟨_,rfl⟩
 obtain⟨A,hA⟩:∃z,U.heap.size=z:=⟨_,rfl⟩
 have HB3:Hid (Below U.heap.size U W3):=by rw[<-hW3];exact ((((Gr.refl U).alloc _).alloc _).alloc _).below
 have hn3:W3.heap[A]?=some (.cells #[.int .i64 1,.int .i64 a0,.int .i64 a1,.int .i64 a2,.int .i64 a3,.int .i64 a4,.int .i64 a5,.int .i64 a6,.int .i64 a7,.int .i64 a8,.int .i64 a9,.int .i64 b0,.int .i64 b1,.string tx,.slice p m c,.int .i64 up] 101 (0,0)):=by
  rw[<-hW3,<-hA,Below.heap_alloc _ _ _ (by rw[World.size_alloc,World.size_alloc];omega),Below.heap_alloc _ _ _ (by rw[World.size_alloc];omega)];exact heap_alloc_new _ _
 have hp3:W3.heap[A+1]?=some (.cells #[.int .i64 x,.int .i64 y,.int .i64 w,.int .i64 h,.int .i64 c0,.int .i64 c1,.int .i64 c2,.int .i64 c3,.int .i64 of,.int .i64 rm] 50 (0,0)):=by
  have:=heap_alloc_new (U.alloc (.cells #[.int .i64 1,.int .i64 a0,.int .i64 a1,.int .i64 a2,.int .i64 a3,.int .i64 a4,.int .i64 a5,.int .i64 a6,.int .i64 a7,.int .i64 a8,.int .i64 a9,.int .i64 b0,.int .i64 b1,.string tx,.slice p m c,.int .i64 up] 101)) (.cells #[.int .i64 x,.int .i64 y,.int .i64 w,.int .i64 h,.int .i64 c0,.int .i64 c1,.int .i64 c2,.int .i64 c3,.int .i64 of,.int .i64 rm] 50)
  rw[World.size_alloc,hA] at this
  rw[<-hW3,Below.heap_alloc _ _ _ (by rw[World.size_alloc,World.size_alloc];omega)];exact this
 have hi3:W3.heap[A+1+1]?=some (.cells #[.int .i64 x,.int .i64 y,.int .i64 w,.int .i64 h] 48 (0,0)):=by
  have:=heap_alloc_new ((U.alloc (.cells #[.int .i64 1,.int .i64 a0,.int .i64 a1,.int .i64 a2,.int .i64 a3,.int .i64 a4,.int .i64 a5,.int .i64 a6,.int .i64 a7,.int .i64 a8,.int .i64 a9,.int .i64 b0,.int .i64 b1,.string tx,.slice p m c,.int .i64 up] 101)).alloc (.cells #[.int .i64 x,.int .i64 y,.int .i64 w,.int .i64 h,.int .i64 c0,.int .i64 c1,.int .i64 c2,.int .i64 c3,.int .i64 of,.int .i64 rm] 50)) (.cells #[.int .i64 x,.int .i64 y,.int .i64 w,.int .i64 h] 48)
  rw[World.size_alloc,World.size_alloc,hA] at this
  rw[<-hW3];exact this
 have hrA:r<A:=by rw[<-hA];exact hM.out.lt
 have HS:Hid (∀u,W3.grownBy u (some r)->(u.cell? ⟨A,0,none⟩=some (.int .i64 1)∧u.cell? ⟨A,1,none⟩=some (.int .i64 a0)∧u.cell? ⟨A,2,none⟩=some (.int .i64 a1)∧u.cell? ⟨A,3,none⟩=some (.int .i64 a2)∧u.cell? ⟨A,4,none⟩=some (.int .i64 a3)∧u.cell? ⟨A,5,none⟩=some (.int .i64 a4)∧u.cell? ⟨A,6,none⟩=some (.int .i64 a5)∧u.cell? ⟨A,7,none⟩=some (.int .i64 a6)∧u.cell? ⟨A,8,none⟩=some (.int .i64 a7)∧u.cell? ⟨A,9,none⟩=some (.int .i64 a8)∧u.cell? ⟨A,10,none⟩=some (.int .i64 a9)∧u.cell? ⟨A,11,none⟩=some (.int .i64 b0)∧u.cell? ⟨A,12,none⟩=some (.int .i64 b1)∧u.cell? ⟨A,13,none⟩=some (.string tx)∧u.cell? ⟨A,14,none⟩=some (.slice p m c)∧u.cell? ⟨A,15,none⟩=some (.int .i64 up))∧u.cell? ⟨A+1+1,0,none⟩=some (.int .i64 x)∧u.cell? ⟨A+1+1,1,none⟩=some (.int .i64 y)∧u.cell? ⟨A+1+1,2,none⟩=some (.int .i64 w)∧u.cell? ⟨A+1+1,3,none⟩=some (.int .i64 h)):=fun u hu=>by
  have hb1:u.heap[A]?=W3.heap[A]?:=hu.block A (Array.getElem?_eq_some_iff.1 hn3).1 (fun e=>by injection e with e;omega)
  have hb2:u.heap[A+1+1]?=W3.heap[A+1+1]?:=hu.block (A+1+1) (Array.getElem?_eq_some_iff.1 hi3).1 (fun e=>by injection e with e;omega)
  refine⟨⟨?_,?_,?_,?_,?_,?_,?_,?_,?_,?_,?_,?_,?_,?_,?_,?_⟩,?_,?_,?_,?_⟩
  all_goals first
   | (rw[Lib.cell_of_heap (hb1.trans hn3)];rfl)
   | (rw[Lib.cell_of_heap (hb2.trans hi3)];rfl)
 obtain⟨⟨z0,z1,z2,z3,z4,z5,z6,z7,z8,z9,z10,z11,z12,z13,z14,z15⟩,y0,y1,y2,y3⟩:=HS.out W3 (z00 (Below.refl _ _))
 have p8:W3.cell? ⟨A+1,8,none⟩=some (.int .i64 of):=by rw[Lib.cell_of_heap hp3];rfl
 have p9:W3.cell? ⟨A+1,9,none⟩=some (.int .i64 rm):=by rw[Lib.cell_of_heap hp3];rfl
 have HM3:Hid (Memo W3 r H nn):=hM.out.grown_below HB3.out
 have hAl0:A<W3.heap.size:=(Array.getElem?_eq_some_iff.1 hn3).1
 have hne0:¬A=W3.heap.size:=by omega
 have RW:Hid (∀u,(u=W3∨u=W3.drew)->Calls Tryz.prog 100 #[.pointer (some ⟨mb,0,none⟩),ndA 1 a0 a1 a2 a3 a4 a5 a6 a7 a8 a9 b0 b1 tx (.slice p m c) up,.int .i64 w] u fun e u'=>∃v,e=.returned v∧Hid (z4s W3 u' r m L ks (fun j=>H (kdn ks j) w) H (nn+100*m) v)):=fun u hu=>by
  have hbu:Below W3.heap.size W3 u:=by
   rcases hu with rfl|rfl
   ·exact Below.refl _ _
   ·exact (Below.refl _ _).drew
  refine (WC.out u (HB3.out.trans (hbu.mono HB3.out.size)) (HM3.out.grown_below hbu)).mono ?_
  rintro e u' ⟨v,rfl,lb,rfl,q1,q2,q3,q4⟩
  exact⟨_,rfl,lb,rfl,q1,Nat.le_trans hbu.size q2,(z00 hbu).trans q3,q4⟩
 have IN:Hid (∀v u,z4s W3 u r m L ks (fun j=>H (kdn ks j) w) H (nn+100*m) v->Calls Tryz.prog 99 #[.agg #[.int .i64 x,.int .i64 y,.int .i64 w,.int .i64 h],.int .i64 a4,v] u fun e u'=>∃q cq,e=.returned (.slice q m cq)∧Hid (z3t W3 u' r m H (nn+100*m) (z0x 1 a4 a5 a6 L ks Wd H x y w h of rm) (.returned (.slice q m cq)))):=fun v u hv=>by
  refine (zlf r m x y w h a4 L ks (fun j=>H (kdn ks j) w) H (nn+100*m) v W3 u hmm hm (by have:=HB3.out.size;omega) hx hy hw hh hv).mono ?_
  rintro e u' ⟨lb,G,rfl,⟨o1,o2,o3⟩,g1,g2⟩
  obtain⟨lv,_,_,v2,v3,v4⟩:=hv
  refine⟨_,_,rfl,_,_,_,_,_,_,rfl,?_,.inr ⟨lb,rfl,Nat.le_trans v3.size o2,o1⟩,v3.trans (z00 o3),v4.grown_below o3⟩
  exact⟨fun e=>absurd e (by decide),fun _=>⟨G,g1,by rw[hmm];exact g2,fun j _=>⟨rfl,rfl,rfl,rfl⟩⟩,fun e=>absurd e (by decide),fun e=>absurd e (by decide),fun _ e=>absurd rfl e⟩
 unfold ndA at RW ⊢
 clear hn3 hp3 hi3 hM WC p8 p9
 go_enter Tryz.func65,Tryz.ntmps65
 go_wp2_with fail
 clear hW3 hA
 go_region_held (fun W=>(W.cell? ⟨A,0,none⟩=some (.int .i64 1)∧W.cell? ⟨A,1,none⟩=some (.int .i64 a0)∧W.cell? ⟨A,2,none⟩=some (.int .i64 a1)∧W.cell? ⟨A,3,none⟩=some (.int .i64 a2)∧W.cell? ⟨A,4,none⟩=some (.int .i64 a3)∧W.cell? ⟨A,5,none⟩=some (.int .i64 a4)∧W.cell? ⟨A,6,none⟩=some (.int .i64 a5)∧W.cell? ⟨A,7,none⟩=some (.int .i64 a6)∧W.cell? ⟨A,8,none⟩=some (.int .i64 a7)∧W.cell? ⟨A,9,none⟩=some (.int .i64 a8)∧W.cell? ⟨A,10,none⟩=some (.int .i64 a9)∧W.cell? ⟨A,11,none⟩=some (.int .i64 b0)∧W.cell? ⟨A,12,none⟩=some (.int .i64 b1)∧W.cell? ⟨A,13,none⟩=some (.string tx)∧W.cell? ⟨A,14,none⟩=some (.slice p m c)∧W.cell? ⟨A,15,none⟩=some (.int .i64 up))∧W.cell? ⟨A+1+1,0,none⟩=some (.int .i64 x)∧W.cell? ⟨A+1+1,1,none⟩=some (.int .i64 y)∧W.cell? ⟨A+1+1,2,none⟩=some (.int .i64 w)∧W.cell? ⟨A+1+1,3,none⟩=some (.int .i64 h)) (go_keep) (first|(go_at_call 100;refine Calls.mono (RW.out _ (by first|exact .inl rfl|exact .inr rfl)) ?_;rintro e u1 ⟨v1,rfl,HO⟩;obtain⟨⟨s0,s1,s2,s3,s4,s5,s6,s7,s8,s9,s10,s11,s12,s13,s14,s15⟩,e0,e1,e2,e3⟩:=HS.out u1 HO.out.g)|(go_at_call 99;refine Calls.mono (IN.out _ _ HO.out) ?_;rintro e u2 ⟨q,cq,rfl,HZ⟩;obtain⟨⟨t0,t1,t2,t3,t4,t5,t6,t7,t8,t9,t10,t11,t12,t13,t14,t15⟩,f0,f1,f2,f3⟩:=HS.out u2 (by obtain⟨_,_,_,_,_,_,_,_,_,hq,_⟩:=HZ.out;exact hq)))
 all_goals
  go_wp2
  go_ret
  exact HZ.out.base (z00 HB3.out)
end
section
open Go.RowKit Go.Sort
theorem zbu(mb r nn m:Nat)(L:List Nd)(ks:List Nat)(Wd:Nat->Int)(H:Nat->Int->Int)(kd:Int)(a0 a1 a2 a3 a4 a5 a6 a7 a8 a9 b0 b1 up:Int)(tx:ByteArray)(p:Option Addr)(c:Nat)(x y w h c0 c1 c2 c3 of rm:Int)(U:World)
 (hmm:ks.length=m) (hm:m≤200) (hM:Hid (Memo U r H nn)) (hx : -1000000000000≤x∧x≤1000000000000) (hy : -1000000000000≤y∧y≤1000000000000) (hw:0≤w∧w≤100000) (hh:0≤h∧h≤100000)
 (h0:kd≠0) (h1:kd≠1) (h3:kd≠3) (h4:kd≠4) :
 Calls Tryz.prog 65 #[.pointer (some ⟨mb,0,none⟩),ndA kd a0 a1 a2 a3 a4 a5 a6 a7 a8 a9 b0 b1 tx (.slice p m c) up,.agg #[.int .i64 x,.int .i64 y,.int .i64 w,.int .i64 h,.int .i64 c0,.int .i64 c1,.int .i64 c2,.int .i64 c3,.int .i64 of,.int .i64 rm]] U fun e U'=>z3t U U' r m H (nn) (z0x kd a4 a5 a6 L ks Wd H x y w h of rm) e:=by
 have hmix:Tryz.prog.follows .mixedOrders=true:=by kernel_rfl
 obtain⟨W3,hW3⟩:∃z,((U.alloc (.cells #[.int .i64 kd,.int .i64 a0,.int .i64 a1,.int .i64 a2,.int .i64 a3,.int .i64 a4,.int .i64 a5,.int .i64 a6,.int .i64 a7,.int .i64 a8,.int .i64 a9,.int .i64 b0,.int .i64 b1,.string tx,.slice p m c,.int .i64 up] 101)).alloc (.cells #[.int .i64 x,.int .i64 y,.int .i64 w,.int .i64 h,.int .i64 c0,.int .i64 c1,.int .i64 c2,.int .i64 c3,.int .i64 of,.int .i64 rm] 50)).alloc (.cells #[.int .i64 x,.int .i64 y,.int .i64 w,.int .i64 h] 48)=z:=⟨_,rfl⟩
 obtain⟨A,hA⟩:∃z,U.heap.size=z:=⟨_,rfl⟩
 have HB3:Hid (Below U.heap.size U W3):=by rw[<-hW3];exact ((((Gr.refl U).alloc _).alloc _).alloc _).below
 have hn3:W3.heap[A]?=some (.cells #[.int .i64 kd,.int .i64 a0,.int .i64 a1,.int .i64 a2,.int .i64 a3,.int .i64 a4,.int .i64 a5,.int .i64 a6,.int .i64 a7,.int .i64 a8,.int .i64 a9,.int .i64 b0,.int .i64 b1,.string tx,.slice p m c,.int .i64 up] 101 (0,0)):=by
  rw[<-hW3,<-hA,Below.heap_alloc _ _ _ (by rw[World.size_alloc,World.size_alloc];omega),Below.heap_alloc _ _ _ (by rw[World.size_alloc];omega)];exact heap_alloc_new _ _
 have hp3:W3.heap[A+1]?=some (.cells #[.int .i64 x,.int .i64 y,.int .i64 w,.int .i64 h,.int .i64 c0,.int .i64 c1,.int .i64 c2,.int .i64 c3,.int .i64 of,.int .i64 rm] 50 (0,0)):=by
  have:=heap_alloc_new (U.alloc (.cells #[.int .i64 kd,.int .i64 a0,.int .i64 a1,.int .i64 a2,.int .i64 a3,.int .i64 a4,.int .i64 a5,.int .i64 a6,.int .i64 a7,.int .i64 a8,.int .i64 a9,.int .i64 b0,.int .i64 b1,.string tx,.slice p m c,.int .i64 up] 101)) (.cells #[.int .i64 x,.int .i64 y,.int .i64 w,.int .i64 h,.int .i64 c0,.int .i64 c1,.int .i64 c2,.int .i64 c3,.int .i64 of,.int .i64 rm] 50)
  rw[World.size_alloc,hA] at this
  rw[<-hW3,Below.heap_alloc _ _ _ (by rw[World.size_alloc,World.size_alloc];omega)];exact this
 have hi3:W3.heap[A+1+1]?=some (.cells #[.int .i64 x,.int .i64 y,.int .i64 w,.int .i64 h] 48 (0,0)):=by
  have:=heap_alloc_new ((U.alloc (.cells #[.int .i64 kd,.int .i64 a0,.int .i64 a1,.int .i64 a2,.int .i64 a3,.int .i64 a4,.int .i64 a5,.int .i64 a6,.int .i64 a7,.int .i64 a8,.int .i64 a9,.int .i64 b0,.int .i64 b1,.string tx,.slice p m c,.int .i64 up] 101)).alloc (.cells #[.int .i64 x,.int .i64 y,.int .i64 w,.int .i64 h,.int .i64 c0,.int .i64 c1,.int .i64 c2,.int .i64 c3,.int .i64 of,.int .i64 rm] 50)) (.cells #[.int .i64 x,.int .i64 y,.int .i64 w,.int .i64 h] 48)
  rw[World.size_alloc,World.size_alloc,hA] at this
  rw[<-hW3];exact this
 have hrA:r<A:=by rw[<-hA];exact hM.out.lt
 have HS:Hid (∀u,W3.grownBy u (some r)->(u.cell? ⟨A,0,none⟩=some (.int .i64 kd)∧u.cell? ⟨A,1,none⟩=some (.int .i64 a0)∧u.cell? ⟨A,2,none⟩=some (.int .i64 a1)∧u.cell? ⟨A,3,none⟩=some (.int .i64 a2)∧u.cell? ⟨A,4,none⟩=some (.int .i64 a3)∧u.cell? ⟨A,5,none⟩=some (.int .i64 a4)∧u.cell? ⟨A,6,none⟩=some (.int .i64 a5)∧u.cell? ⟨A,7,none⟩=some (.int .i64 a6)∧u.cell? ⟨A,8,none⟩=some (.int .i64 a7)∧u.cell? ⟨A,9,none⟩=some (.int .i64 a8)∧u.cell? ⟨A,10,none⟩=some (.int .i64 a9)∧u.cell? ⟨A,11,none⟩=some (.int .i64 b0)∧u.cell? ⟨A,12,none⟩=some (.int .i64 b1)∧u.cell? ⟨A,13,none⟩=some (.string tx)∧u.cell? ⟨A,14,none⟩=some (.slice p m c)∧u.cell? ⟨A,15,none⟩=some (.int .i64 up))∧u.cell? ⟨A+1+1,0,none⟩=some (.int .i64 x)∧u.cell? ⟨A+1+1,1,none⟩=some (.int .i64 y)∧u.cell? ⟨A+1+1,2,none⟩=some (.int .i64 w)∧u.cell? ⟨A+1+1,3,none⟩=some (.int .i64 h)):=fun u hu=>by
  have hb1:u.heap[A]?=W3.heap[A]?:=hu.block A (Array.getElem?_eq_some_iff.1 hn3).1 (fun e=>by injection e with e;omega)
  have hb2:u.heap[A+1+1]?=W3.heap[A+1+1]?:=hu.block (A+1+1) (Array.getElem?_eq_some_iff.1 hi3).1 (fun e=>by injection e with e;omega)
  refine⟨⟨?_,?_,?_,?_,?_,?_,?_,?_,?_,?_,?_,?_,?_,?_,?_,?_⟩,?_,?_,?_,?_⟩
  all_goals first
   | (rw[Lib.cell_of_heap (hb1.trans hn3)];rfl)
   | (rw[Lib.cell_of_heap (hb2.trans hi3)];rfl)
 obtain⟨⟨z0,z1,z2,z3,z4,z5,z6,z7,z8,z9,z10,z11,z12,z13,z14,z15⟩,y0,y1,y2,y3⟩:=HS.out W3 (z00 (Below.refl _ _))
 have p8:W3.cell? ⟨A+1,8,none⟩=some (.int .i64 of):=by rw[Lib.cell_of_heap hp3];rfl
 have p9:W3.cell? ⟨A+1,9,none⟩=some (.int .i64 rm):=by rw[Lib.cell_of_heap hp3];rfl
 have HM3:Hid (Memo W3 r H nn):=hM.out.grown_below HB3.out
 have hAl0:A<W3.heap.size:=(Array.getElem?_eq_some_iff.1 hn3).1
 have hne0:¬A=W3.heap.size:=by omega
 have RP:Hid (∀u x0 y0 w0 h0,Below U.heap.size U u->z0x kd a4 a5 a6 L ks Wd H x y w h of rm (fun _=>x0) (fun _=>y0) (fun _=>w0) (fun _=>h0)->Calls Tryz.prog 102 #[.slice (some ⟨u.heap.size,0,none⟩) 1 1,.int .i64 (m:Int)] (u.alloc (.cells #[.int .i64 x0,.int .i64 y0,.int .i64 w0,.int .i64 h0] 48)) fun e u'=>∃q cq,e=.returned (.slice q m cq)∧Hid (z3t U u' r m H nn (z0x kd a4 a5 a6 L ks Wd H x y w h of rm) (.returned (.slice q m cq)))):=fun u x0 y0 w0 h0 hu hsp=>by
  refine (zc8 m (by omega) x0 y0 w0 h0 u).mono ?_
  rintro e u' ⟨q,cq,rfl,q1,q2⟩
  have hb:=hu.trans (q2.out.mono hu.size)
  refine⟨q,cq,rfl,q,cq,_,_,_,_,rfl,hsp,?_,z00 hb,hM.out.grown_below hb⟩
  rcases q1.out with e|⟨b,e,l,h⟩
  ·exact .inl e
  ·exact .inr ⟨b,e,Nat.le_trans hu.size l,h⟩
 have e0:(kd==0)=false:=by simpa using h0
 have e1:(kd==1)=false:=by simpa using h1
 have e3:(kd==3)=false:=by simpa using h3
 have e4:(kd==4)=false:=by simpa using h4
 have HSP:Hid (z0x kd a4 a5 a6 L ks Wd H x y w h of rm (fun _=>x) (fun _=>y) (fun _=>w) (fun _=>h)):=⟨fun e=>absurd e h0,fun e=>absurd e h1,fun e=>absurd e h3,fun e=>absurd e h4,fun _ _ _ _ j _=>⟨rfl,rfl,rfl,rfl⟩⟩
 unfold ndA
 clear hn3 hp3 hi3 hM HS
 go_enter Tryz.func65,Tryz.ntmps65
 go_upto_region 3 with fail
 clear hW3 hA
 go_wp2_with (go_at_call 102;refine Calls.mono (RP.out _ _ _ _ _ HB3.out HSP.out) ?_;rintro e u2 ⟨q,cq,rfl,HZ⟩)
 go_ret
 exact HZ.out
end
section
open Go.RowKit Go.Sort
theorem zdj(mb r nn m:Nat)(L:List Nd)(ks:List Nat)(Wd:Nat->Int)(H:Nat->Int->Int)(a0 a1 a2 a3 a4 a5 a6 a7 a8 a9 b0 b1 up:Int)(tx:ByteArray)(p:Option Addr)(c:Nat)(x y w h c0 c1 c2 c3 of rm:Int)(U:World)
 (hmm:ks.length=m) (hm:m≤200) (hM:Hid (Memo U r H nn)) (hx : -1000000000000≤x∧x≤1000000000000) (hy : -1000000000000≤y∧y≤1000000000000) (hw:0≤w∧w≤100000) (hh:0≤h∧h≤100000)
 (h5:0≤a5∧a5≤1000000) (h6:0≤a6∧a6≤1000000) :
 Calls Tryz.prog 65 #[.pointer (some ⟨mb,0,none⟩),ndA 3 a0 a1 a2 a3 a4 a5 a6 a7 a8 a9 b0 b1 tx (.slice p m c) up,.agg #[.int .i64 x,.int .i64 y,.int .i64 w,.int .i64 h,.int .i64 c0,.int .i64 c1,.int .i64 c2,.int .i64 c3,.int .i64 of,.int .i64 rm]] U fun e U'=>z3t U U' r m H (nn) (z0x 3 a4 a5 a6 L ks Wd H x y w h of rm) e:=by
 have hmix:Tryz.prog.follows .mixedOrders=true:=by kernel_rfl
 obtain⟨W3,hW3⟩:∃z,((U.alloc (.cells #[.int .i64 3,.int .i64 a0,.int .i64 a1,.int .i64 a2,.int .i64 a3,.int .i64 a4,.int .i64 a5,.int .i64 a6,.int .i64 a7,.int .i64 a8,.int .i64 a9,.int .i64 b0,.int .i64 b1,.string tx,.slice p m c,.int .i64 up] 101)).alloc (.cells #[.int .i64 x,.int .i64 y,.int .i64 w,.int .i64 h,.int .i64 c0,.int .i64 c1,.int .i64 c2,.int .i64 c3,.int .i64 of,.int .i64 rm] 50)).alloc (.cells #[.int .i64 x,.int .i64 y,.int .i64 w,.int .i64 h] 48)=z:=⟨_,rfl⟩
 obtain⟨A,hA⟩:∃z,U.heap.size=z:=⟨_,rfl⟩
 have HB3:Hid (Below U.heap.size U W3):=by rw[<-hW3];exact ((((Gr.refl U).alloc _).alloc _).alloc _).below
 have hn3:W3.heap[A]?=some (.cells #[.int .i64 3,.int .i64 a0,.int .i64 a1,.int .i64 a2,.int .i64 a3,.int .i64 a4,.int .i64 a5,.int .i64 a6,.int .i64 a7,.int .i64 a8,.int .i64 a9,.int .i64 b0,.int .i64 b1,.string tx,.slice p m c,.int .i64 up] 101 (0,0)):=by
  rw[<-hW3,<-hA,Below.heap_alloc _ _ _ (by rw[World.size_alloc,World.size_alloc];omega),Below.heap_alloc _ _ _ (by rw[World.size_alloc];omega)];exact heap_alloc_new _ _
 have hp3:W3.heap[A+1]?=some (.cells #[.int .i64 x,.int .i64 y,.int .i64 w,.int .i64 h,.int .i64 c0,.int .i64 c1,.int .i64 c2,.int .i64 c3,.int .i64 of,.int .i64 rm] 50 (0,0)):=by
  have:=heap_alloc_new (U.alloc (.cells #[.int .i64 3,.int .i64 a0,.int .i64 a1,.int .i64 a2,.int .i64 a3,.int .i64 a4,.int .i64 a5,.int .i64 a6,.int .i64 a7,.int .i64 a8,.int .i64 a9,.int .i64 b0,.int .i64 b1,.string tx,.slice p m c,.int .i64 up] 101)) (.cells #[.int .i64 x,.int .i64 y,.int .i64 w,.int .i64 h,.int .i64 c0,.int .i64 c1,.int .i64 c2,.int .i64 c3,.int .i64 of,.int .i64 rm] 50)
  rw[World.size_alloc,hA] at this
  rw[<-hW3,Below.heap_alloc _ _ _ (by rw[World.size_alloc,World.size_alloc];omega)];exact this
 have hi3:W3.heap[A+1+1]?=some (.cells #[.int .i64 x,.int .i64 y,.int .i64 w,.int .i64 h] 48 (0,0)):=by
  have:=heap_alloc_new ((U.alloc (.cells #[.int .i64 3,.int .i64 a0,.int .i64 a1,.int .i64 a2,.int .i64 a3,.int .i64 a4,.int .i64 a5,.int .i64 a6,.int .i64 a7,.int .i64 a8,.int .i64 a9,.int .i64 b0,.int .i64 b1,.string tx,.slice p m c,.int .i64 up] 101)).alloc (.cells #[.int .i64 x,.int .i64 y,.int .i64 w,.int .i64 h,.int .i64 c0,.int .i64 c1,.int .i64 c2,.int .i64 c3,.int .i64 of,.int .i64 rm] 50)) (.cells #[.int .i64 x,.int .i64 y,.int .i64 w,.int .i64 h] 48)
  rw[World.size_alloc,World.size_alloc,hA] at this
  rw[<-hW3];exact this
 have hrA:r<A:=by rw[<-hA];exact hM.out.lt
 have HS:Hid (∀u,W3.grownBy u (some r)->(u.cell? ⟨A,0,none⟩=some (.int .i64 3)∧u.cell? ⟨A,1,none⟩=some (.int .i64 a0)∧u.cell? ⟨A,2,none⟩=some (.int .i64 a1)∧u.cell? ⟨A,3,none⟩=some (.int .i64 a2)∧u.cell? ⟨A,4,none⟩=some (.int .i64 a3)∧u.cell? ⟨A,5,none⟩=some (.int .i64 a4)∧u.cell? ⟨A,6,none⟩=some (.int .i64 a5)∧u.cell? ⟨A,7,none⟩=some (.int .i64 a6)∧u.cell? ⟨A,8,none⟩=some (.int .i64 a7)∧u.cell? ⟨A,9,none⟩=some (.int .i64 a8)∧u.cell? ⟨A,10,none⟩=some (.int .i64 a9)∧u.cell? ⟨A,11,none⟩=some (.int .i64 b0)∧u.cell? ⟨A,12,none⟩=some (.int .i64 b1)∧u.cell? ⟨A,13,none⟩=some (.string tx)∧u.cell? ⟨A,14,none⟩=some (.slice p m c)∧u.cell? ⟨A,15,none⟩=some (.int .i64 up))∧u.cell? ⟨A+1+1,0,none⟩=some (.int .i64 x)∧u.cell? ⟨A+1+1,1,none⟩=some (.int .i64 y)∧u.cell? ⟨A+1+1,2,none⟩=some (.int .i64 w)∧u.cell? ⟨A+1+1,3,none⟩=some (.int .i64 h)):=fun u hu=>by
  have hb1:u.heap[A]?=W3.heap[A]?:=hu.block A (Array.getElem?_eq_some_iff.1 hn3).1 (fun e=>by injection e with e;omega)
  have hb2:u.heap[A+1+1]?=W3.heap[A+1+1]?:=hu.block (A+1+1) (Array.getElem?_eq_some_iff.1 hi3).1 (fun e=>by injection e with e;omega)
  refine⟨⟨?_,?_,?_,?_,?_,?_,?_,?_,?_,?_,?_,?_,?_,?_,?_,?_⟩,?_,?_,?_,?_⟩
  all_goals first
   | (rw[Lib.cell_of_heap (hb1.trans hn3)];rfl)
   | (rw[Lib.cell_of_heap (hb2.trans hi3)];rfl)
 obtain⟨⟨z0,z1,z2,z3,z4,z5,z6,z7,z8,z9,z10,z11,z12,z13,z14,z15⟩,y0,y1,y2,y3⟩:=HS.out W3 (z00 (Below.refl _ _))
 have p8:W3.cell? ⟨A+1,8,none⟩=some (.int .i64 of):=by rw[Lib.cell_of_heap hp3];rfl
 have p9:W3.cell? ⟨A+1,9,none⟩=some (.int .i64 rm):=by rw[Lib.cell_of_heap hp3];rfl
 have HM3:Hid (Memo W3 r H nn):=hM.out.grown_below HB3.out
 have hAl0:A<W3.heap.size:=(Array.getElem?_eq_some_iff.1 hn3).1
 have hne0:¬A=W3.heap.size:=by omega
 have RP:Hid (∀u x0 y0 w0 h0,Below U.heap.size U u->z0x 3 a4 a5 a6 L ks Wd H x y w h of rm (fun _=>x0) (fun _=>y0) (fun _=>w0) (fun _=>h0)->Calls Tryz.prog 102 #[.slice (some ⟨u.heap.size,0,none⟩) 1 1,.int .i64 (m:Int)] (u.alloc (.cells #[.int .i64 x0,.int .i64 y0,.int .i64 w0,.int .i64 h0] 48)) fun e u'=>∃q cq,e=.returned (.slice q m cq)∧Hid (z3t U u' r m H nn (z0x 3 a4 a5 a6 L ks Wd H x y w h of rm) (.returned (.slice q m cq)))):=fun u x0 y0 w0 h0 hu hsp=>by
  refine (zc8 m (by omega) x0 y0 w0 h0 u).mono ?_
  rintro e u' ⟨q,cq,rfl,q1,q2⟩
  have hb:=hu.trans (q2.out.mono hu.size)
  refine⟨q,cq,rfl,q,cq,_,_,_,_,rfl,hsp,?_,z00 hb,hM.out.grown_below hb⟩
  rcases q1.out with e|⟨b,e,l,h⟩
  ·exact .inl e
  ·exact .inr ⟨b,e,Nat.le_trans hu.size l,h⟩
 obtain⟨i0,i1,i2,i3,hins⟩:∃i0 i1 i2 i3,insV x y w h (a6+a5)=rv i0 i1 i2 i3:=⟨_,_,_,_,rfl⟩
 have HSP:Hid (z0x 3 a4 a5 a6 L ks Wd H x y w h of rm (fun _=>i0) (fun _=>i1) (fun _=>i2) (fun _=>i3)):=⟨fun e=>absurd e (by decide),fun e=>absurd e (by decide),fun _ j _=>hins,fun e=>absurd e (by decide),fun _ _ e=>absurd rfl e⟩
 have FA:Hid (∀u,(u=W3∨u=W3.drew)->Calls Tryz.prog 78 #[ndA 3 a0 a1 a2 a3 a4 a5 a6 a7 a8 a9 b0 b1 tx (.slice p m c) up] u fun e u'=>e=.returned (.int .i64 (a6+a5))∧Hid (Below W3.heap.size W3 u')):=fun u hu=>by
  have hbu:Below W3.heap.size W3 u:=by
   rcases hu with rfl|rfl
   ·exact Below.refl _ _
   ·exact (Below.refl _ _).drew
  refine (z6k 3 a0 a1 a2 a3 a4 a5 a6 a7 a8 a9 b0 b1 up tx p m c h5 h6 u).mono ?_
  rintro e u' ⟨rfl,q⟩
  exact⟨by unfold frmI;rw[if_pos rfl],hbu.trans (q.out.mono hbu.size)⟩
 have IS:Hid (∀u,Below W3.heap.size W3 u->Calls Tryz.prog 101 #[.agg #[.int .i64 x,.int .i64 y,.int .i64 w,.int .i64 h],.int .i64 (a6+a5)] u fun e u'=>e=.returned (.agg #[.int .i64 i0,.int .i64 i1,.int .i64 i2,.int .i64 i3])∧Hid (Below W3.heap.size W3 u')):=fun u hu=>by
  have:=zlk x y w h (a6+a5) u
  rw[hins] at this
  refine this.mono ?_
  rintro e u' ⟨rfl,q⟩
  exact⟨rfl,hu.trans (q.below.mono hu.size)⟩
 have hAl2:A+1+1<W3.heap.size:=(Array.getElem?_eq_some_iff.1 hi3).1
 have HFZ:Hid (∀u,Below W3.heap.size W3 u->∀j,u.frozen? ⟨A+1+1,j,none⟩=false):=fun u hu j=>frozen_of_row _ _ _ _ _ ((hu.block _ hAl2).trans hi3)
 have HNX:Hid (∀u,Below W3.heap.size W3 u->((((u.setCell ⟨A+1+1,0,none⟩ (.int .i64 i0)).setCell ⟨A+1+1,1,none⟩ (.int .i64 i1)).setCell ⟨A+1+1,2,none⟩ (.int .i64 i2)).setCell ⟨A+1+1,3,none⟩ (.int .i64 i3)).heap[A+1+1]?=some (.cells #[.int .i64 i0,.int .i64 i1,.int .i64 i2,.int .i64 i3] 48 (0,0))∧((((u.setCell ⟨A+1+1,0,none⟩ (.int .i64 i0)).setCell ⟨A+1+1,1,none⟩ (.int .i64 i1)).setCell ⟨A+1+1,2,none⟩ (.int .i64 i2)).setCell ⟨A+1+1,3,none⟩ (.int .i64 i3)).heap[A]?=some (.cells #[.int .i64 3,.int .i64 a0,.int .i64 a1,.int .i64 a2,.int .i64 a3,.int .i64 a4,.int .i64 a5,.int .i64 a6,.int .i64 a7,.int .i64 a8,.int .i64 a9,.int .i64 b0,.int .i64 b1,.string tx,.slice p m c,.int .i64 up] 101 (0,0))∧Below U.heap.size U ((((u.setCell ⟨A+1+1,0,none⟩ (.int .i64 i0)).setCell ⟨A+1+1,1,none⟩ (.int .i64 i1)).setCell ⟨A+1+1,2,none⟩ (.int .i64 i2)).setCell ⟨A+1+1,3,none⟩ (.int .i64 i3))):=fun u hu=>by
  have hr4:R4 48 u (A+1+1) x y w h:=(hu.block _ hAl2).trans hi3
  have hl:∀t,U.heap.size≤(⟨A+1+1,t,none⟩:Addr).block:=fun t=>by rw[hA];show A≤A+1+1;omega
  refine⟨hr4.set i0 i1 i2 i3,?_,((((HB3.out.trans (hu.mono HB3.out.size)).setCell (hl 0) _).setCell (hl 1) _).setCell (hl 2) _).setCell (hl 3) _⟩
  have hne:A≠A+1+1:=by omega
  rw[Below.heap_setCell _ ⟨A+1+1,3,none⟩ _ _ hne,Below.heap_setCell _ ⟨A+1+1,2,none⟩ _ _ hne,Below.heap_setCell _ ⟨A+1+1,1,none⟩ _ _ hne,Below.heap_setCell _ ⟨A+1+1,0,none⟩ _ _ hne]
  exact (hu.block A (Array.getElem?_eq_some_iff.1 hn3).1).trans hn3
 unfold ndA at FA ⊢
 clear hn3 hp3 hi3 hM hins
 go_enter Tryz.func65,Tryz.ntmps65
 go_wp2_with fail
 clear hW3 hA
 go_region_with (first|(go_at_call 78;refine Calls.mono (FA.out _ (by first|exact .inl rfl|exact .inr rfl)) ?_;rintro e u1 ⟨rfl,HBu⟩;obtain⟨⟨s0,s1,s2,s3,s4,s5,s6,s7,s8,s9,s10,s11,s12,s13,s14,s15⟩,e0,e1,e2,e3⟩:=HS.out u1 (z00 HBu.out))|(go_at_call 101;refine Calls.mono (IS.out _ HBu.out) ?_;rintro e u2 ⟨rfl,HBv⟩;obtain⟨⟨t0,t1,t2,t3,t4,t5,t6,t7,t8,t9,t10,t11,t12,t13,t14,t15⟩,f0,f1,f2,f3⟩:=HS.out u2 (z00 HBv.out);have hfz:=HFZ.out u2 HBv.out))
 all_goals
  obtain⟨wc,hwc⟩:∃z,(((u2.setCell ⟨A+1+1,0,none⟩ (.int .i64 i0)).setCell ⟨A+1+1,1,none⟩ (.int .i64 i1)).setCell ⟨A+1+1,2,none⟩ (.int .i64 i2)).setCell ⟨A+1+1,3,none⟩ (.int .i64 i3)=z:=⟨_,rfl⟩
  have HCC:Hid (wc.heap[A+1+1]?=some (.cells #[.int .i64 i0,.int .i64 i1,.int .i64 i2,.int .i64 i3] 48 (0,0))∧wc.heap[A]?=some (.cells #[.int .i64 3,.int .i64 a0,.int .i64 a1,.int .i64 a2,.int .i64 a3,.int .i64 a4,.int .i64 a5,.int .i64 a6,.int .i64 a7,.int .i64 a8,.int .i64 a9,.int .i64 b0,.int .i64 b1,.string tx,.slice p m c,.int .i64 up] 101 (0,0))∧Below U.heap.size U wc):=by rw[<-hwc];exact HNX.out u2 HBv.out
  have g0:wc.cell? ⟨A+1+1,0,none⟩=some (.int .i64 i0):=by rw[Lib.cell_of_heap HCC.out.1];rfl
  have g1:wc.cell? ⟨A+1+1,1,none⟩=some (.int .i64 i1):=by rw[Lib.cell_of_heap HCC.out.1];rfl
  have g2:wc.cell? ⟨A+1+1,2,none⟩=some (.int .i64 i2):=by rw[Lib.cell_of_heap HCC.out.1];rfl
  have g3:wc.cell? ⟨A+1+1,3,none⟩=some (.int .i64 i3):=by rw[Lib.cell_of_heap HCC.out.1];rfl
  have g14:wc.cell? ⟨A,14,none⟩=some (.slice p m c):=by rw[Lib.cell_of_heap HCC.out.2.1];rfl
  have hAl3:A<wc.heap.size:=(Array.getElem?_eq_some_iff.1 HCC.out.2.1).1
  have hne:¬A=wc.heap.size:=by omega
  rw[hwc]
  clear hwc z0 z1 z2 z3 z4 z5 z6 z7 z8 z9 z10 z11 z12 z13 z14 z15 y0 y1 y2 y3 HS FA IS HFZ HNX s0 s1 s2 s3 s4 s5 s6 s7 s8 s9 s10 s11 s12 s13 s14 s15 e0 e1 e2 e3 t0 t1 t2 t3 t4 t5 t6 t7 t8 t9 t10 t11 t12 t13 t14 t15 f0 f1 f2 f3 hfz
  go_wp2_with (go_at_call 102;refine Calls.mono (RP.out _ _ _ _ _ HCC.out.2.2 HSP.out) ?_;rintro e u3 ⟨q,cq,rfl,HZ⟩)
  go_ret
  exact HZ.out
end
section
open Go.RowKit Go.Sort
theorem z9a(mb r nn m:Nat)(L:List Nd)(ks:List Nat)(Wd:Nat->Int)(H:Nat->Int->Int)(a0 a1 a2 a3 a4 a5 a6 a7 a8 a9 b0 b1 up:Int)(tx:ByteArray)(p:Option Addr)(c:Nat)(x y w h c0 c1 c2 c3 of rm:Int)(U:World)
 (hmm:ks.length=m) (hm:m≤200) (hM:Hid (Memo U r H nn)) (hx : -1000000000000≤x∧x≤1000000000000) (hy : -1000000000000≤y∧y≤1000000000000) (hw:0≤w∧w≤100000) (hh:0≤h∧h≤100000)
 (hof:0≤of∧of≤100000) (hrm:0≤rm∧rm≤100000) :
 Calls Tryz.prog 65 #[.pointer (some ⟨mb,0,none⟩),ndA 4 a0 a1 a2 a3 a4 a5 a6 a7 a8 a9 b0 b1 tx (.slice p m c) up,.agg #[.int .i64 x,.int .i64 y,.int .i64 w,.int .i64 h,.int .i64 c0,.int .i64 c1,.int .i64 c2,.int .i64 c3,.int .i64 of,.int .i64 rm]] U fun e U'=>z3t U U' r m H (nn) (z0x 4 a4 a5 a6 L ks Wd H x y w h of rm) e:=by
 have hmix:Tryz.prog.follows .mixedOrders=true:=by kernel_rfl
 obtain⟨W3,hW3⟩:∃z,((U.alloc (.cells #[.int .i64 4,.int .i64 a0,.int .i64 a1,.int .i64 a2,.int .i64 a3,.int .i64 a4,.int .i64 a5,.int .i64 a6,.int .i64 a7,.int .i64 a8,.int .i64 a9,.int .i64 b0,.int .i64 b1,.string tx,.slice p m c,.int .i64 up] 101)).alloc (.cells #[.int .i64 x,.int .i64 y,.int .i64 w,.int .i64 h,.int .i64 c0,.int .i64 c1,.int .i64 c2,.int .i64 c3,.int .i64 of,.int .i64 rm] 50)).alloc (.cells #[.int .i64 x,.int .i64 y,.int .i64 w,.int .i64 h] 48)=z:=⟨_,rfl⟩
 obtain⟨A,hA⟩:∃z,U.heap.size=z:=⟨_,rfl⟩
 have HB3:Hid (Below U.heap.size U W3):=by rw[<-hW3];exact ((((Gr.refl U).alloc _).alloc _).alloc _).below
 have hn3:W3.heap[A]?=some (.cells #[.int .i64 4,.int .i64 a0,.int .i64 a1,.int .i64 a2,.int .i64 a3,.int .i64 a4,.int .i64 a5,.int .i64 a6,.int .i64 a7,.int .i64 a8,.int .i64 a9,.int .i64 b0,.int .i64 b1,.string tx,.slice p m c,.int .i64 up] 101 (0,0)):=by
  rw[<-hW3,<-hA,Below.heap_alloc _ _ _ (by rw[World.size_alloc,World.size_alloc];omega),Below.heap_alloc _ _ _ (by rw[World.size_alloc];omega)];exact heap_alloc_new _ _
 have hp3:W3.heap[A+1]?=some (.cells #[.int .i64 x,.int .i64 y,.int .i64 w,.int .i64 h,.int .i64 c0,.int .i64 c1,.int .i64 c2,.int .i64 c3,.int .i64 of,.int .i64 rm] 50 (0,0)):=by
  have:=heap_alloc_new (U.alloc (.cells #[.int .i64 4,.int .i64 a0,.int .i64 a1,.int .i64 a2,.int .i64 a3,.int .i64 a4,.int .i64 a5,.int .i64 a6,.int .i64 a7,.int .i64 a8,.int .i64 a9,.int .i64 b0,.int .i64 b1,.string tx,.slice p m c,.int .i64 up] 101)) (.cells #[.int .i64 x,.int .i64 y,.int .i64 w,.int .i64 h,.int .i64 c0,.int .i64 c1,.int .i64 c2,.int .i64 c3,.int .i64 of,.int .i64 rm] 50)
  rw[World.size_alloc,hA] at this
  rw[<-hW3,Below.heap_alloc _ _ _ (by rw[World.size_alloc,World.size_alloc];omega)];exact this
 have hi3:W3.heap[A+1+1]?=some (.cells #[.int .i64 x,.int .i64 y,.int .i64 w,.int .i64 h] 48 (0,0)):=by
  have:=heap_alloc_new ((U.alloc (.cells #[.int .i64 4,.int .i64 a0,.int .i64 a1,.int .i64 a2,.int .i64 a3,.int .i64 a4,.int .i64 a5,.int .i64 a6,.int .i64 a7,.int .i64 a8,.int .i64 a9,.int .i64 b0,.int .i64 b1,.string tx,.slice p m c,.int .i64 up] 101)).alloc (.cells #[.int .i64 x,.int .i64 y,.int .i64 w,.int .i64 h,.int .i64 c0,.int .i64 c1,.int .i64 c2,.int .i64 c3,.int .i64 of,.int .i64 rm] 50)) (.cells #[.int .i64 x,.int .i64 y,.int .i64 w,.int .i64 h] 48)
  rw[World.size_alloc,World.size_alloc,hA] at this
  rw[<-hW3];exact this
 have hrA:r<A:=by rw[<-hA];exact hM.out.lt
 have HS:Hid (∀u,W3.grownBy u (some r)->(u.cell? ⟨A,0,none⟩=some (.int .i64 4)∧u.cell? ⟨A,1,none⟩=some (.int .i64 a0)∧u.cell? ⟨A,2,none⟩=some (.int .i64 a1)∧u.cell? ⟨A,3,none⟩=some (.int .i64 a2)∧u.cell? ⟨A,4,none⟩=some (.int .i64 a3)∧u.cell? ⟨A,5,none⟩=some (.int .i64 a4)∧u.cell? ⟨A,6,none⟩=some (.int .i64 a5)∧u.cell? ⟨A,7,none⟩=some (.int .i64 a6)∧u.cell? ⟨A,8,none⟩=some (.int .i64 a7)∧u.cell? ⟨A,9,none⟩=some (.int .i64 a8)∧u.cell? ⟨A,10,none⟩=some (.int .i64 a9)∧u.cell? ⟨A,11,none⟩=some (.int .i64 b0)∧u.cell? ⟨A,12,none⟩=some (.int .i64 b1)∧u.cell? ⟨A,13,none⟩=some (.string tx)∧u.cell? ⟨A,14,none⟩=some (.slice p m c)∧u.cell? ⟨A,15,none⟩=some (.int .i64 up))∧u.cell? ⟨A+1+1,0,none⟩=some (.int .i64 x)∧u.cell? ⟨A+1+1,1,none⟩=some (.int .i64 y)∧u.cell? ⟨A+1+1,2,none⟩=some (.int .i64 w)∧u.cell? ⟨A+1+1,3,none⟩=some (.int .i64 h)):=fun u hu=>by
  have hb1:u.heap[A]?=W3.heap[A]?:=hu.block A (Array.getElem?_eq_some_iff.1 hn3).1 (fun e=>by injection e with e;omega)
  have hb2:u.heap[A+1+1]?=W3.heap[A+1+1]?:=hu.block (A+1+1) (Array.getElem?_eq_some_iff.1 hi3).1 (fun e=>by injection e with e;omega)
  refine⟨⟨?_,?_,?_,?_,?_,?_,?_,?_,?_,?_,?_,?_,?_,?_,?_,?_⟩,?_,?_,?_,?_⟩
  all_goals first
   | (rw[Lib.cell_of_heap (hb1.trans hn3)];rfl)
   | (rw[Lib.cell_of_heap (hb2.trans hi3)];rfl)
 obtain⟨⟨z0,z1,z2,z3,z4,z5,z6,z7,z8,z9,z10,z11,z12,z13,z14,z15⟩,y0,y1,y2,y3⟩:=HS.out W3 (z00 (Below.refl _ _))
 have p8:W3.cell? ⟨A+1,8,none⟩=some (.int .i64 of):=by rw[Lib.cell_of_heap hp3];rfl
 have p9:W3.cell? ⟨A+1,9,none⟩=some (.int .i64 rm):=by rw[Lib.cell_of_heap hp3];rfl
 have HM3:Hid (Memo W3 r H nn):=hM.out.grown_below HB3.out
 have hAl0:A<W3.heap.size:=(Array.getElem?_eq_some_iff.1 hn3).1
 have hne0:¬A=W3.heap.size:=by omega
 have RP:Hid (∀u x0 y0 w0 h0,Below U.heap.size U u->z0x 4 a4 a5 a6 L ks Wd H x y w h of rm (fun _=>x0) (fun _=>y0) (fun _=>w0) (fun _=>h0)->Calls Tryz.prog 102 #[.slice (some ⟨u.heap.size,0,none⟩) 1 1,.int .i64 (m:Int)] (u.alloc (.cells #[.int .i64 x0,.int .i64 y0,.int .i64 w0,.int .i64 h0] 48)) fun e u'=>∃q cq,e=.returned (.slice q m cq)∧Hid (z3t U u' r m H nn (z0x 4 a4 a5 a6 L ks Wd H x y w h of rm) (.returned (.slice q m cq)))):=fun u x0 y0 w0 h0 hu hsp=>by
  refine (zc8 m (by omega) x0 y0 w0 h0 u).mono ?_
  rintro e u' ⟨q,cq,rfl,q1,q2⟩
  have hb:=hu.trans (q2.out.mono hu.size)
  refine⟨q,cq,rfl,q,cq,_,_,_,_,rfl,hsp,?_,z00 hb,hM.out.grown_below hb⟩
  rcases q1.out with e|⟨b,e,l,h⟩
  ·exact .inl e
  ·exact .inr ⟨b,e,Nat.le_trans hu.size l,h⟩
 have HSP:Hid (z0x 4 a4 a5 a6 L ks Wd H x y w h of rm (fun _=>x) (fun _=>y - of) (fun _=>w) (fun _=>h+rm)):=⟨fun e=>absurd e (by decide),fun e=>absurd e (by decide),fun e=>absurd e (by decide),fun _ j _=>⟨rfl,rfl,rfl,rfl⟩,fun _ _ _ e=>absurd rfl e⟩
 have n1:¬A+1+1=A:=by omega
 have n2:¬A+1+1=A+1:=by omega
 have n3:¬A=A+1+1:=by omega
 have n4:¬A+1=A+1+1:=by omega
 have hfz:∀j,W3.frozen? ⟨A+1+1,j,none⟩=false:=fun j=>frozen_of_row _ _ _ _ _ hi3
 have HB4:Hid (Below U.heap.size U ((W3.setCell ⟨A+1+1,1,none⟩ (.int .i64 (y - of))).setCell ⟨A+1+1,3,none⟩ (.int .i64 (h+rm)))):=(HB3.out.setCell (p:=⟨A+1+1,1,none⟩) (by rw[hA];show A≤A+1+1;omega) _).setCell (p:=⟨A+1+1,3,none⟩) (by rw[hA];show A≤A+1+1;omega) _
 obtain⟨W4,hW4⟩:∃z,(W3.setCell ⟨A+1+1,1,none⟩ (.int .i64 (y - of))).setCell ⟨A+1+1,3,none⟩ (.int .i64 (h+rm))=z:=⟨_,rfl⟩
 have hsz:W4.heap.size=W3.heap.size:=by rw[<-hW4];simp
 have RP4:Hid (Calls Tryz.prog 102 #[.slice (some ⟨W3.heap.size,0,none⟩) 1 1,.int .i64 (m:Int)] (((W3.setCell ⟨A+1+1,1,none⟩ (.int .i64 (y - of))).setCell ⟨A+1+1,3,none⟩ (.int .i64 (h+rm))).alloc (.cells #[.int .i64 x,.int .i64 (y - of),.int .i64 w,.int .i64 (h+rm)] 48)) fun e u'=>∃q cq,e=.returned (.slice q m cq)∧Hid (z3t U u' r m H nn (z0x 4 a4 a5 a6 L ks Wd H x y w h of rm) (.returned (.slice q m cq)))):=by
  have:=RP.out W4 _ _ _ _ (by rw[<-hW4];exact HB4.out) HSP.out
  rw[hsz] at this
  rw[hW4]
  exact this
 unfold ndA
 clear hn3 hp3 hi3 hM HS hW4 hsz
 go_enter Tryz.func65,Tryz.ntmps65
 go_upto_region 3 with fail
 clear hW3 hA
 go_wp2_with (go_at_call 102;refine Calls.mono RP4.out ?_;rintro e u2 ⟨q,cq,rfl,HZ⟩)
 go_ret
 exact HZ.out
end
section
def cap0(ax ay aw ah bx by_ bw bh:Int):Int:=if capL ax aw bx bw≥capR ax aw bx bw∨capL ay ah by_ bh≥capR ay ah by_ bh then 0 else capL ax aw bx bw
def cap1(ax ay aw ah bx by_ bw bh:Int):Int:=if capL ax aw bx bw≥capR ax aw bx bw∨capL ay ah by_ bh≥capR ay ah by_ bh then 0 else capL ay ah by_ bh
def cap2(ax ay aw ah bx by_ bw bh:Int):Int:=if capL ax aw bx bw≥capR ax aw bx bw∨capL ay ah by_ bh≥capR ay ah by_ bh then 0 else capR ax aw bx bw - capL ax aw bx bw
def cap3(ax ay aw ah bx by_ bw bh:Int):Int:=if capL ax aw bx bw≥capR ax aw bx bw∨capL ay ah by_ bh≥capR ay ah by_ bh then 0 else capR ay ah by_ bh - capL ay ah by_ bh
theorem zk9(ax ay aw ah bx by_ bw bh:Int):capV ax ay aw ah bx by_ bw bh=rv (cap0 ax ay aw ah bx by_ bw bh) (cap1 ax ay aw ah bx by_ bw bh) (cap2 ax ay aw ah bx by_ bw bh) (cap3 ax ay aw ah bx by_ bw bh):=by
 unfold capV cap0 cap1 cap2 cap3
 split <;> rfl
def zj1(P:Nat->Nat->Int)(c:Nat)(v:Nat->Int):Nat->Nat->Int:=fun q t=>if q=c then v t else P q t
def plV(P:Nat->Nat->Int)(i:Nat)(x y a b:Int)(t:Nat):Int :=
 if t=0 then x else if t=1 then y else if t=2 then a else if t=3 then b else if t=4 then cap0 x y a b (P i 4) (P i 5) (P i 6) (P i 7) else if t=5 then cap1 x y a b (P i 4) (P i 5) (P i 6) (P i 7) else if t=6 then cap2 x y a b (P i 4) (P i 5) (P i 6) (P i 7) else if t=7 then cap3 x y a b (P i 4) (P i 5) (P i 6) (P i 7) else 0
def plK(P:Nat->Nat->Int)(i:Nat)(ks:List Nat)(R0 R1 R2 R3:Nat->Int):Nat->Nat->Nat->Int
 | 0=>P
 | j+1=>zj1 (plK P i ks R0 R1 R2 R3 j) (kdn ks j) (plV P i (R0 j) (R1 j) (R2 j) (R3 j))
section
variable {P : Nat -> Nat -> Int} {i : Nat} {ks : List Nat} {R0 R1 R2 R3 : Nat -> Int}
theorem z9o:∀j,(∀t,t<j->t<ks.length)->∀q,q ∉ ks->plK P i ks R0 R1 R2 R3 j q=P q
 | 0,_,q,_=>rfl
 | j+1,hj,q,hq=>by
  have:=z9o j (fun t ht=>hj t (by omega)) q hq
  funext t
  show (if q=kdn ks j then _ else plK P i ks R0 R1 R2 R3 j q t)=_
  rw[if_neg (fun e=>hq (by rw[e];exact z7m (hj j (by omega)))),this]
theorem zs8(hn:ks.Nodup){a b:Nat}(ha:a<ks.length)(hb:b<ks.length)(e:kdn ks a=kdn ks b):a=b:=by
 unfold kdn at e
 rw[List.getElem?_eq_getElem ha,List.getElem?_eq_getElem hb] at e
 rcases Nat.lt_trichotomy a b with h|h|h
 ·exact absurd e (List.pairwise_iff_getElem.1 hn a b ha hb h)
 ·exact h
 ·exact absurd e.symm (List.pairwise_iff_getElem.1 hn b a hb ha h)
theorem zmj(hn:ks.Nodup):∀j,j≤ks.length->∀a,a<j->plK P i ks R0 R1 R2 R3 j (kdn ks a)=plV P i (R0 a) (R1 a) (R2 a) (R3 a)
 | 0,_,a,h=>by omega
 | j+1,hj,a,ha=>by
  funext t
  show (if kdn ks a=kdn ks j then plV P i (R0 j) (R1 j) (R2 j) (R3 j) t else plK P i ks R0 R1 R2 R3 j (kdn ks a) t)=_
  by_cases e:a=j
  ·rw[e,if_pos rfl]
  ·rw[if_neg (fun q=>e (zs8 hn (by omega) (by omega) q)),zmj hn j (by omega) a (by omega)]
end
theorem Ch.ok{L:Nat->Nd}{d:Nat}{ks:List Nat}{a e:Nat}(h:Ch L d ks a e):∀j,a≤j->j<e->zeg (L j):=by
 induction h with
 | nil d a=>intro j h1 h2;omega
 | @cons d c r e1 e h1 h2 h3 h4 i1 i2 =>
  intro j k1 k2
  by_cases e0:j=c
  ·subst e0;exact h2
  ·by_cases l:j<e1
   ·exact i1 j (by omega) l
   ·exact i2 j (by omega) k2
theorem Tree.kidok{s:ByteArray}{L:List Nd}(h:Tree s L)(j:Nat)(hj:j<L.length):zeg (nth L j):=h.ch.ok j (Nat.zero_le _) hj
structure PlTo(L:List Nd)(Wd:Nat->Int)(H:Nat->Int->Int)(w h:Int)(idf off:Nat->Int)(sn:Nat)(P:Nat->Nat->Int)(k:Nat):Prop where
 root:P 0 0=0∧P 0 1=0∧P 0 2=w∧P 0 3=h∧P 0 4=0∧P 0 5=0∧P 0 6=w∧P 0 7=h
 sc:∀i,i<L.length->i<k->(nth L i).kind=4->P i 9=z4r (H (kdn (nth L i).kids 0) (P i 2)) (P i 3)∧P i 8=min (max 0 (offI (atN (nth L i) 0) idf off sn)) (P i 9)
 no:∀i,i<L.length->(k≤i∨(nth L i).kind≠4)->P i 8=0∧P i 9=0
 kr:∀i,i<L.length->i<k->∃R0 R1 R2 R3,z0x (nth L i).kind (atN (nth L i) 4) (atN (nth L i) 5) (atN (nth L i) 6) L (nth L i).kids Wd H (P i 0) (P i 1) (P i 2) (P i 3) (P i 8) (P i 9) R0 R1 R2 R3∧∀j,j<(nth L i).kids.length->∀t,t<8->P (kdn (nth L i).kids j) t=plV P i (R0 j) (R1 j) (R2 j) (R3 j) t
 bd:∀i,i<L.length -> -(((i:Int)+1)*100000000)≤P i 0∧P i 0≤((i:Int)+1)*100000000 ∧ -(((i:Int)+1)*100000000)≤P i 1∧P i 1≤((i:Int)+1)*100000000∧0≤P i 2∧P i 2≤100000∧0≤P i 3∧P i 3≤100000
theorem zlj{x y a b n i0 i1 i2 i3:Int}(h:insV x y a b n=rv i0 i1 i2 i3) : -200000≤i0∧i0≤200000 ∧ -200000≤i1∧i1≤200000∧0≤i2∧i2≤100000∧0≤i3∧i3≤100000:=by
 unfold insV at h
 obtain⟨rfl,rfl,rfl,rfl⟩:=zb5 h
 have h1:=z33 x
 have h2:=z33 y
 have h3:=z1m a
 have h4:=z1m b
 have h5:=z1m n
 omega
theorem z0x.bd{kd a4 a5 a6:Int}{L:List Nd}{ks:List Nat}{Wd:Nat->Int}{H:Nat->Int->Int}{x y w h of rm:Int}{R0 R1 R2 R3:Nat->Int}(s:z0x kd a4 a5 a6 L ks Wd H x y w h of rm R0 R1 R2 R3)(hm:ks.length≤100)(hw:0≤w∧w≤100000)(hh:0≤h∧h≤100000)(hof:0≤of∧of≤100000)(hrm:0≤rm∧h+rm≤100000)(B:Int)(hB:100000000≤B)(hx : -B≤x∧x≤B)(hy : -B≤y∧y≤B)(j:Nat)(hj:j<ks.length) :
 -(B+100000000)≤R0 j∧R0 j≤B+100000000 ∧ -(B+100000000)≤R1 j∧R1 j≤B+100000000∧0≤R2 j∧R2 j≤100000∧0≤R3 j∧R3 j≤100000:=by
 by_cases h0:kd=0
 ·obtain⟨G,g1,g2,g3⟩:=s.row h0
  obtain⟨e0,e1,e2,e3⟩:=g3 j hj
  have ho:=z9i g2 (z3x a4) j (by omega)
  have hg:=g2 j hj
  omega
 ·by_cases h1:kd=1
  ·obtain⟨G,g1,g2,g3⟩:=s.col h1
   obtain⟨e0,e1,e2,e3⟩:=g3 j hj
   have ho:=z9i g2 (z3x a4) j (by omega)
   have hg:=g2 j hj
   omega
  ·by_cases h3:kd=3
   ·have:=zlj (s.box h3 j hj)
    omega
   ·by_cases h4:kd=4
    ·obtain⟨e0,e1,e2,e3⟩:=s.scr h4 j hj
     omega
    ·obtain⟨e0,e1,e2,e3⟩:=s.rest h0 h1 h3 h4 j hj
     omega
theorem z0x.congr{kd a4 a5 a6:Int}{L:List Nd}{ks:List Nat}{Wd:Nat->Int}{H:Nat->Int->Int}{x y w h of rm x' y' w' h' of' rm':Int}{R0 R1 R2 R3:Nat->Int}(s:z0x kd a4 a5 a6 L ks Wd H x y w h of rm R0 R1 R2 R3)(e0:x=x')(e1:y=y')(e2:w=w')(e3:h=h')(e4:of=of')(e5:rm=rm'):z0x kd a4 a5 a6 L ks Wd H x' y' w' h' of' rm' R0 R1 R2 R3:=by
 subst e0 e1 e2 e3 e4 e5;exact s
theorem PlTo.step{s:ByteArray}{L:List Nd}{Wd:Nat->Int}{H:Nat->Int->Int}{w h:Int}{idf off:Nat->Int}{sn k:Nat}{P P1:Nat->Nat->Int}{R0 R1 R2 R3:Nat->Int}(hT:Tree s L)(hS:Sz L Wd H)(hp:PlTo L Wd H w h idf off sn P k)(hk:k<L.length)
 (h1:∀q t,¬(q=k∧(t=8∨t=9))->P1 q t=P q t)
 (h4:(nth L k).kind=4->P1 k 9=z4r (H (kdn (nth L k).kids 0) (P k 2)) (P k 3)∧P1 k 8=min (max 0 (offI (atN (nth L k) 0) idf off sn)) (P1 k 9))
 (hn:(nth L k).kind≠4->P1 k 8=0∧P1 k 9=0)
 (hs:z0x (nth L k).kind (atN (nth L k) 4) (atN (nth L k) 5) (atN (nth L k) 6) L (nth L k).kids Wd H (P1 k 0) (P1 k 1) (P1 k 2) (P1 k 3) (P1 k 8) (P1 k 9) R0 R1 R2 R3) :
 PlTo L Wd H w h idf off sn (plK P1 k (nth L k).kids R0 R1 R2 R3 (nth L k).kids.length) (k+1):=by
 obtain⟨ks,hks⟩:∃z,(nth L k).kids=z:=⟨_,rfl⟩
 rw[hks] at hs h4 ⊢
 have hnd:ks.Nodup:=by rw[<-hks];exact hT.nest.nd k hk
 have hkid:∀c,c∈ks->k<c∧c<L.length∧(nth L c).up=(k:Int):=fun c hc=>hT.nest.kid k c hk (by show c∈(nth L k).kids;rw[hks];exact hc)
 have hlen:ks.length≤100:=by rw[<-hks];exact hT.kids_le hk
 obtain⟨Q,hQ⟩:∃Q,plK P1 k ks R0 R1 R2 R3 ks.length=Q:=⟨_,rfl⟩
 have q1:∀q,q ∉ ks->Q q=P1 q:=fun q hq=>by rw[<-hQ];exact z9o _ (fun t ht=>ht) q hq
 have q2:∀a,a<ks.length->Q (kdn ks a)=plV P1 k (R0 a) (R1 a) (R2 a) (R3 a):=fun a ha=>by rw[<-hQ];exact zmj hnd _ (Nat.le_refl _) a ha
 rw[hQ]
 have hkk:k ∉ ks:=fun hc=>by have:=(hkid k hc).1;omega
 have hQk:Q k=P1 k:=q1 k hkk
 have h00:0 ∉ ks:=fun hc=>by have:=(hkid 0 hc).1;omega
 have nk:∀i,i<k->i ∉ ks:=fun i hi hc=>by have:=(hkid i hc).1;omega
 have mem:∀c,c∈ks->∃a,a<ks.length∧kdn ks a=c:=fun c hc=>by
  obtain⟨a,ha,e⟩:=List.mem_iff_getElem.1 hc
  exact⟨a,ha,by unfold kdn;rw[List.getElem?_eq_getElem ha];exact e⟩
 have hbk:=hp.bd k hk
 have e01:P1 k 0=P k 0:=h1 k 0 (by omega)
 have e11:P1 k 1=P k 1:=h1 k 1 (by omega)
 have e21:P1 k 2=P k 2:=h1 k 2 (by omega)
 have e31:P1 k 3=P k 3:=h1 k 3 (by omega)
 have hor:0≤P1 k 8∧P1 k 8≤100000∧0≤P1 k 9∧P1 k 3+P1 k 9≤100000:=by
  by_cases e4:(nth L k).kind=4
  ·obtain⟨r1,r2⟩:=h4 e4
   have hkid0:kdn ks 0<L.length:=by
    rcases hT.kidok k hk with q|⟨_,_,q⟩|⟨q,_⟩
    ·omega
    ·rw[hks] at q
     exact (hkid _ (z7m (by omega))).2.1
    ·omega
   have hh:=hS.hb (kdn ks 0) (P k 2) hkid0
   unfold z4r at r1
   omega
  ·obtain⟨r1,r2⟩:=hn e4
   omega
 refine⟨?_,fun i hi hik e4=>?_,fun i hi hik=>?_,fun i hi hik=>?_,fun i hi=>?_⟩
 ·rw[q1 0 h00]
  have r:=hp.root
  rw[h1 0 0 (by omega),h1 0 1 (by omega),h1 0 2 (by omega),h1 0 3 (by omega),h1 0 4 (by omega),h1 0 5 (by omega),h1 0 6 (by omega),h1 0 7 (by omega)]
  exact r
 ·by_cases e:i=k
  ·subst e
   rw[hQk,hks,e21,e31]
   exact h4 e4
  ·rw[q1 i (nk i (by omega)),h1 i 9 (by omega),h1 i 8 (by omega),h1 i 2 (by omega),h1 i 3 (by omega)]
   exact hp.sc i hi (by omega) e4
 ·by_cases hm:i∈ks
  ·obtain⟨a,ha,rfl⟩:=mem i hm
   rw[q2 a ha]
   exact⟨rfl,rfl⟩
  ·rw[q1 i hm]
   by_cases e:i=k
   ·subst e
    exact hn (by rcases hik with q|q;omega;exact q)
   ·rw[h1 i 8 (by omega),h1 i 9 (by omega)]
    exact hp.no i hi (by rcases hik with q|q;exact .inl (by omega);exact .inr q)
 ·by_cases e:i=k
  ·subst e
   refine⟨R0,R1,R2,R3,by rw[hks,hQk];exact hs,fun j hj t ht=>?_⟩
   rw[hks] at hj ⊢
   rw[q2 j hj]
   unfold plV
   rw[hQk]
  ·have hi':i<k:=by omega
   obtain⟨S0,S1,S2,S3,s1,s2⟩:=hp.kr i hi hi'
   have hQi:∀t,Q i t=P i t:=fun t=>by rw[q1 i (nk i hi')];exact h1 i t (by omega)
   refine⟨S0,S1,S2,S3,by rw[hQi,hQi,hQi,hQi,hQi,hQi];exact s1,fun j hj t ht=>?_⟩
   have hc:=hT.nest.kid i _ hi (z7m hj)
   have hcn:kdn (nth L i).kids j ∉ ks:=fun q=>by
    have:=(hkid _ q).2.2
    have h9:(nth L (kdn (nth L i).kids j)).up=(i:Int):=hc.2.2
    omega
   rw[q1 _ hcn,h1 _ t (by omega),s2 j hj t ht]
   unfold plV
   rw[hQi,hQi,hQi,hQi]
 ·by_cases hm:i∈ks
  ·have hik:=hkid i hm
   obtain⟨a,ha,rfl⟩:=mem i hm
   rw[q2 a ha]
   have hb:=hs.bd hlen (by omega) (by omega) ⟨hor.1,hor.2.1⟩ ⟨hor.2.2.1,hor.2.2.2⟩ (((k:Int)+1)*100000000) (by omega) (by omega) (by omega) a ha
   show -(((kdn ks a:Nat):Int)+1)*100000000≤R0 a∧_
   show _≤R0 a∧R0 a≤_∧_≤R1 a∧R1 a≤_∧0≤R2 a∧R2 a≤100000∧0≤R3 a∧R3 a≤100000
   omega
  ·rw[q1 i hm]
   have hb:=hp.bd i hi
   rw[h1 i 0 (by omega),h1 i 1 (by omega),h1 i 2 (by omega),h1 i 3 (by omega)]
   exact hb
end
section
open Go.RowKit Go.Sort
theorem z8f(a:Nat):∀m,cS (fun _=>a) m=a*m
 | 0=>rfl
 | m+1=>by show cS (fun _=>a) m+a=_;rw[z8f a m,Nat.mul_succ]
theorem z3t.mono{U U':World}{r m:Nat}{H:Nat->Int->Int}{n n':Nat}{X:(Nat->Int)->(Nat->Int)->(Nat->Int)->(Nat->Int)->Prop}{e:Ending}(h:z3t U U' r m H n X e)(hn:n≤n'):z3t U U' r m H n' X e:=by
 obtain⟨q,cq,R0,R1,R2,R3,h1,h2,h3,h4,h5⟩:=h
 exact⟨q,cq,R0,R1,R2,R3,h1,h2,h3,h4,h5.mono hn⟩
theorem zdi{s:ByteArray}{L:List Nd}{KV:Nat->Value}{Wd:Nat->Int}{H:Nat->Int->Int}(mb r g cap wb nn:Nat)(hT:Tree s L)(hS:Sz L Wd H)(i:Nat)(hi:i<L.length)(p:Option Addr)(c:Nat)(hkv:KV i=.slice p (nth L i).kids.length c)(x y w h c0 c1 c2 c3 of rm:Int)(U:World)(hU:Hs U mb r g cap wb L KV Wd H nn)(hn:nn≤10000000)
 (hx : -1000000000000≤x∧x≤1000000000000) (hy : -1000000000000≤y∧y≤1000000000000) (hw:0≤w∧w≤100000) (hh:0≤h∧h≤100000) (hof:0≤of∧of≤100000) (hrm:0≤rm∧rm≤100000) :
 Calls Tryz.prog 65 #[.pointer (some ⟨mb,0,none⟩),ndA (nth L i).kind (atN (nth L i) 0) (atN (nth L i) 1) (atN (nth L i) 2) (atN (nth L i) 3) (atN (nth L i) 4) (atN (nth L i) 5) (atN (nth L i) 6) (atN (nth L i) 7) (atN (nth L i) 8) (atN (nth L i) 9) (atN (nth L i) 10) (atN (nth L i) 11) ⟨(nth L i).text.toArray⟩ (.slice p (nth L i).kids.length c) (nth L i).up,.agg #[.int .i64 x,.int .i64 y,.int .i64 w,.int .i64 h,.int .i64 c0,.int .i64 c1,.int .i64 c2,.int .i64 c3,.int .i64 of,.int .i64 rm]] U fun e U'=>z3t U U' r (nth L i).kids.length H (nn+10000) (z0x (nth L i).kind (atN (nth L i) 4) (atN (nth L i) 5) (atN (nth L i) 6) L (nth L i).kids Wd H x y w h of rm) e:=by
 have hbd:=(hT.vl.nv i hi).bd
 have hc:=hT.vl.cnt
 have hkl:(nth L i).kids.length≤100:=hT.kids_le hi
 have hki:z3j U r p (nth L i).kids.length (fun t=>(kdn (nth L i).kids t:Int)):=by
  obtain⟨p',c',e,hk⟩:=hU.view.kid i hi
  rw[hkv] at e
  injection e with e1 e2 e3
  rw[e1];exact hk
 by_cases h0:(nth L i).kind=0
 ·have:=zdl mb r nn (nth L i).kids.length L (nth L i).kids Wd H (atN (nth L i) 0) (atN (nth L i) 1) (atN (nth L i) 2) (atN (nth L i) 3) (atN (nth L i) 4) (atN (nth L i) 5) (atN (nth L i) 6) (atN (nth L i) 7) (atN (nth L i) 8) (atN (nth L i) 9) (atN (nth L i) 10) (atN (nth L i) 11) (nth L i).up ⟨(nth L i).text.toArray⟩ p c x y w h c0 c1 c2 c3 of rm U rfl (by omega) hU.memo hx hy hw hh (fun u hu hmu =>
   z89 mb r g cap wb nn L (nth L i).kids KV Wd H 0 (atN (nth L i) 0) (atN (nth L i) 1) (atN (nth L i) 2) (atN (nth L i) 3) (atN (nth L i) 4) (atN (nth L i) 5) (atN (nth L i) 6) (atN (nth L i) 7) (atN (nth L i) 8) (atN (nth L i) 9) (atN (nth L i) 10) (atN (nth L i) 11) (nth L i).up ⟨(nth L i).text.toArray⟩ p c u (hU.view.grown (z00 hu)) hmu (by omega) (fun j hj=>(z4m hT hi hj).2) (by omega) (hki.grown (z00 hu)) (fun j hj=>hS.wb j hj))
  rw[h0]
  exact this.mono fun e U' h=>h.mono (by omega)
 ·by_cases h1:(nth L i).kind=1
  ·have:=zdk mb r nn (nth L i).kids.length L (nth L i).kids Wd H (atN (nth L i) 0) (atN (nth L i) 1) (atN (nth L i) 2) (atN (nth L i) 3) (atN (nth L i) 4) (atN (nth L i) 5) (atN (nth L i) 6) (atN (nth L i) 7) (atN (nth L i) 8) (atN (nth L i) 9) (atN (nth L i) 10) (atN (nth L i) 11) (nth L i).up ⟨(nth L i).text.toArray⟩ p c x y w h c0 c1 c2 c3 of rm U rfl (by omega) hU.memo hx hy hw hh (fun u hu hmu=>by
    have hc2:=zd4 mb r g cap wb nn w L (nth L i).kids (fun _=>100) KV Wd H 1 (atN (nth L i) 0) (atN (nth L i) 1) (atN (nth L i) 2) (atN (nth L i) 3) (atN (nth L i) 4) (atN (nth L i) 5) (atN (nth L i) 6) (atN (nth L i) 7) (atN (nth L i) 8) (atN (nth L i) 9) (atN (nth L i) 10) (atN (nth L i) 11) (nth L i).up ⟨(nth L i).text.toArray⟩ p c u (hU.view.grown (z00 hu)) hmu (by omega) (fun j hj=>(z4m hT hi hj).2) (by omega) (hki.grown (z00 hu)) (fun j v hj=>hS.hb j v hj) (fun j u' n' hj hu' hm' hn'=>by
     have hk:=z4m hT hi hj
     have hU':Hs u' mb r g cap wb L KV Wd H n':=hU.grown ((z00 hu).trans hu') hm'
     have hcs:cS (fun _=>100) j=100*j:=z8f 100 j
     have hcs1:cS (fun _=>100) (j+1)=100*(j+1):=z8f 100 (j+1)
     refine (zav mb r g cap wb hT hS _ w n' u' hk.2 hw.1 hw.2 hU' (by omega)).mono ?_
     rintro e u2 ⟨rfl,q1,q2⟩
     exact⟨rfl,q1,q2.out.mono (by omega)⟩)
    have hcm:cS (fun _=>100) (nth L i).kids.length=100*(nth L i).kids.length:=z8f 100 _
    rw[hcm] at hc2
    exact hc2)
   rw[h1]
   exact this.mono fun e U' h=>h.mono (by omega)
  ·by_cases h3:(nth L i).kind=3
   ·have:=zdj mb r nn (nth L i).kids.length L (nth L i).kids Wd H (atN (nth L i) 0) (atN (nth L i) 1) (atN (nth L i) 2) (atN (nth L i) 3) (atN (nth L i) 4) (atN (nth L i) 5) (atN (nth L i) 6) (atN (nth L i) 7) (atN (nth L i) 8) (atN (nth L i) 9) (atN (nth L i) 10) (atN (nth L i) 11) (nth L i).up ⟨(nth L i).text.toArray⟩ p c x y w h c0 c1 c2 c3 of rm U rfl (by omega) hU.memo hx hy hw hh (by omega) (by omega)
    rw[h3]
    exact this.mono fun e U' h=>h.mono (by omega)
   ·by_cases h4:(nth L i).kind=4
    ·have:=z9a mb r nn (nth L i).kids.length L (nth L i).kids Wd H (atN (nth L i) 0) (atN (nth L i) 1) (atN (nth L i) 2) (atN (nth L i) 3) (atN (nth L i) 4) (atN (nth L i) 5) (atN (nth L i) 6) (atN (nth L i) 7) (atN (nth L i) 8) (atN (nth L i) 9) (atN (nth L i) 10) (atN (nth L i) 11) (nth L i).up ⟨(nth L i).text.toArray⟩ p c x y w h c0 c1 c2 c3 of rm U rfl (by omega) hU.memo hx hy hw hh hof hrm
     rw[h4]
     exact this.mono fun e U' h=>h.mono (by omega)
    ·have:=zbu mb r nn (nth L i).kids.length L (nth L i).kids Wd H (nth L i).kind (atN (nth L i) 0) (atN (nth L i) 1) (atN (nth L i) 2) (atN (nth L i) 3) (atN (nth L i) 4) (atN (nth L i) 5) (atN (nth L i) 6) (atN (nth L i) 7) (atN (nth L i) 8) (atN (nth L i) 9) (atN (nth L i) 10) (atN (nth L i) 11) (nth L i).up ⟨(nth L i).text.toArray⟩ p c x y w h c0 c1 c2 c3 of rm U rfl (by omega) hU.memo hx hy hw hh (by omega) (by omega) (by omega) (by omega)
     exact this.mono fun e U' h=>h.mono (by omega)
end
section
section
variable {s : ByteArray} {L : List Nd} {Wd : Nat -> Int} {H : Nat -> Int -> Int} {w h : Int} {idf off : Nat -> Int} {sn : Nat} {P : Nat -> Nat -> Int}
theorem PlTo.scroll(hT:Tree s L)(hp:PlTo L Wd H w h idf off sn P L.length){i:Nat}(hi:i<L.length)(h4:(nth L i).kind=4) :
 (nth L i).kids.length=1∧0≤P i 8∧P i 8≤P i 9∧P (kdn (nth L i).kids 0) 0=P i 0∧P (kdn (nth L i).kids 0) 1=P i 1 - P i 8∧P (kdn (nth L i).kids 0) 2=P i 2∧P (kdn (nth L i).kids 0) 3=P i 3+P i 9∧(atN (nth L i) 0=0->P i 8=0):=by
 have hk1:(nth L i).kids.length=1:=by
  rcases hT.kidok i hi with q|⟨_,_,q⟩|⟨q,_⟩
  ·omega
  ·exact q
  ·omega
 obtain⟨r1,r2⟩:=hp.sc i hi hi h4
 obtain⟨R0,R1,R2,R3,hs,hk⟩:=hp.kr i hi hi
 obtain⟨e0,e1,e2,e3⟩:=hs.scr (by omega) 0 (by omega)
 have k0:=hk 0 (by omega) 0 (by omega)
 have k1:=hk 0 (by omega) 1 (by omega)
 have k2:=hk 0 (by omega) 2 (by omega)
 have k3:=hk 0 (by omega) 3 (by omega)
 have k0:P (kdn (nth L i).kids 0) 0=R0 0:=k0
 have k1:P (kdn (nth L i).kids 0) 1=R1 0:=k1
 have k2:P (kdn (nth L i).kids 0) 2=R2 0:=k2
 have k3:P (kdn (nth L i).kids 0) 3=R3 0:=k3
 have hr0:0≤P i 9:=by rw[r1];unfold z4r;omega
 refine⟨hk1,by omega,by omega,by omega,by omega,by omega,by omega,fun h0=>?_⟩
 have:offI (atN (nth L i) 0) idf off sn=0:=by unfold offI;rw[if_pos h0]
 omega
theorem ztx{x:Int}(h0:0≤x)(h1:x≤100000):cl x=x:=by unfold cl;rw[if_neg (by omega),if_neg (by omega)]
theorem PlTo.inRow(hT:Tree s L)(hp:PlTo L Wd H w h idf off sn P L.length){i:Nat}(hi:i<L.length)(h0:(nth L i).kind=0) :
 ∃G,((nth L i).kids=[]∨z1a L (nth L i).kids (fun j=>Wd (kdn (nth L i).kids j)) (P i 2) (atN (nth L i) 4) G)∧(∀j,j<(nth L i).kids.length->0≤G j∧G j≤100000)∧∀j,j<(nth L i).kids.length->P (kdn (nth L i).kids j) 0=P i 0+offs G (atN (nth L i) 4) j∧P (kdn (nth L i).kids j) 1=P i 1∧P (kdn (nth L i).kids j) 2=G j∧P (kdn (nth L i).kids j) 3=P i 3:=by
 obtain⟨R0,R1,R2,R3,hs,hk⟩:=hp.kr i hi hi
 obtain⟨G,g1,g2,g3⟩:=hs.row (by omega)
 have hb:=(hT.vl.nv i hi).bd.2.1
 rw[ztx hb.1 (by omega)] at g3
 refine⟨G,g1,g2,fun j hj=>?_⟩
 obtain⟨e0,e1,e2,e3⟩:=g3 j hj
 have k0:P (kdn (nth L i).kids j) 0=R0 j:=hk j hj 0 (by omega)
 have k1:P (kdn (nth L i).kids j) 1=R1 j:=hk j hj 1 (by omega)
 have k2:P (kdn (nth L i).kids j) 2=R2 j:=hk j hj 2 (by omega)
 have k3:P (kdn (nth L i).kids j) 3=R3 j:=hk j hj 3 (by omega)
 rw[k0,k1,k2,k3]
 exact⟨e0,e1,e2,e3⟩
theorem PlTo.inCol(hT:Tree s L)(hp:PlTo L Wd H w h idf off sn P L.length){i:Nat}(hi:i<L.length)(h0:(nth L i).kind=1) :
 ∃G,(∀j,j<(nth L i).kids.length->0≤G j∧G j≤100000)∧∀j,j<(nth L i).kids.length->P (kdn (nth L i).kids j) 0=P i 0∧P (kdn (nth L i).kids j) 1=P i 1+offs G (atN (nth L i) 4) j∧P (kdn (nth L i).kids j) 2=P i 2∧P (kdn (nth L i).kids j) 3=G j:=by
 obtain⟨R0,R1,R2,R3,hs,hk⟩:=hp.kr i hi hi
 obtain⟨G,g1,g2,g3⟩:=hs.col (by omega)
 have hb:=(hT.vl.nv i hi).bd.2.1
 rw[ztx hb.1 (by omega)] at g3
 refine⟨G,g2,fun j hj=>?_⟩
 obtain⟨e0,e1,e2,e3⟩:=g3 j hj
 have k0:P (kdn (nth L i).kids j) 0=R0 j:=hk j hj 0 (by omega)
 have k1:P (kdn (nth L i).kids j) 1=R1 j:=hk j hj 1 (by omega)
 have k2:P (kdn (nth L i).kids j) 2=R2 j:=hk j hj 2 (by omega)
 have k3:P (kdn (nth L i).kids j) 3=R3 j:=hk j hj 3 (by omega)
 rw[k0,k1,k2,k3]
 exact⟨e0,e1,e2,e3⟩
theorem zq3{f:Nat->Int}{l:List Nat}(hf:∀j∈l,0≤f j){k:Nat}(hk:k∈l):f k≤sumL f l:=by
 induction l with
 | nil=>cases hk
 | cons a l ih =>
  have h0:0≤f a:=hf a (by simp)
  have h1:0≤sumL f l:=z18 fun j hj=>hf j (by simp[hj])
  have e:sumL f (a::l)=f a+sumL f l:=rfl
  rcases List.mem_cons.1 hk with rfl|hk
  ·omega
  ·have:=ih (fun j hj=>hf j (by simp[hj])) hk
   omega
theorem znh{r S1 S2 S:Int}(h1:r≤S1∨r≤S2->S=r)(h2:S1<r->S2<r->S=S2):S≤r:=by
 by_cases a:r≤S1
 ·exact Int.le_of_eq (h1 (.inl a))
 ·by_cases b:r≤S2
  ·exact Int.le_of_eq (h1 (.inr b))
  ·have:=h2 (by omega) (by omega)
   omega
theorem z1a.tiles{L:List Nd}{ks:List Nat}{N:Nat->Int}{room gap:Int}{G:Nat->Int}(g1:z1a L ks N room gap G)(hk:0<ks.length) :
 sumL G (List.range ks.length)≤rm room gap ks.length∧((∃j,j<ks.length∧0<atN (nth L (kdn ks j)) 3∧atN (nth L (kdn ks j)) 2<0)->sumL G (List.range ks.length)=rm room gap ks.length):=by
 have hr:=zux room gap ks.length hk
 obtain⟨t1,t2,t3⟩:=z1k.tiles g1 (z36 _ _ _)
 refine⟨znh t2 t3,fun ⟨j,hj,q1,q2⟩=>t2 (.inr (Int.le_trans hr ?_))⟩
 have hcl:0<cl (atN (nth L (kdn ks j)) 3):=by unfold cl;split;omega;split <;> omega
 have hm:hMax (wMn (nth L (kdn ks j)) (N j)) (atN (nth L (kdn ks j)) 2)=100000:=by unfold hMax;rw[if_pos q2]
 refine Int.le_trans ?_ (zq3 (k:=j) (fun x _=>?_) (List.mem_range.2 hj))
 ·show (100000:Int)≤if 0<cl (atN (nth L (kdn ks j)) 3) then hMax (wMn (nth L (kdn ks j)) (N j)) (atN (nth L (kdn ks j)) 2) else cl (wMn (nth L (kdn ks j)) (N j))
  rw[if_pos hcl,hm]
  exact Int.le_refl _
 ·have a1:=z7k (wMn (nth L (kdn ks x)) (N x)) (atN (nth L (kdn ks x)) 2)
  have a2:=z3x (wMn (nth L (kdn ks x)) (N x))
  show (0:Int)≤if 0<cl (atN (nth L (kdn ks x)) 3) then hMax (wMn (nth L (kdn ks x)) (N x)) (atN (nth L (kdn ks x)) 2) else cl (wMn (nth L (kdn ks x)) (N x))
  split <;> omega
theorem PlTo.tiles(hT:Tree s L)(hp:PlTo L Wd H w h idf off sn P L.length){i:Nat}(hi:i<L.length)(h0:(nth L i).kind=0)(hk:0<(nth L i).kids.length) :
 ∃G,(∀j,j<(nth L i).kids.length->0≤G j∧G j≤100000)∧(∀j,j<(nth L i).kids.length->P (kdn (nth L i).kids j) 2=G j)∧sumL G (List.range (nth L i).kids.length)≤rm (P i 2) (atN (nth L i) 4) (nth L i).kids.length∧((∃j,j<(nth L i).kids.length∧0<atN (nth L (kdn (nth L i).kids j)) 3∧atN (nth L (kdn (nth L i).kids j)) 2<0)->sumL G (List.range (nth L i).kids.length)=rm (P i 2) (atN (nth L i) 4) (nth L i).kids.length):=by
 obtain⟨G,g1,g2,g3⟩:=hp.inRow hT hi h0
 have g1:=g1.resolve_left (fun e=>by rw[e] at hk;cases hk)
 exact⟨G,g2,fun j hj=>(g3 j hj).2.2.1,g1.tiles hk⟩
def znq(P:Nat->Nat->Int)(w h:Int)(i:Nat):Prop:=0≤P i 4∧0≤P i 5∧0≤P i 6∧0≤P i 7∧P i 4+P i 6≤w∧P i 5+P i 7≤h
def InsB(x y a b X Y A B:Int):Prop:=a≤0∨b≤0∨(X≤x∧Y≤y∧x+a≤X+A∧y+b≤Y+B)
theorem zk8{x y a b cx cy cw ch w h:Int}(hw:1≤w∧w≤400)(hh:1≤h∧h≤400)(ha:0≤a∧a≤100000)(hb:0≤b∧b≤100000)(hc:0≤cx∧0≤cy∧0≤cw∧0≤ch∧cx+cw≤w∧cy+ch≤h) :
 let c0:=cap0 x y a b cx cy cw ch
 let c1:=cap1 x y a b cx cy cw ch
 let c2:=cap2 x y a b cx cy cw ch
 let c3:=cap3 x y a b cx cy cw ch
 (0≤c0∧0≤c1∧0≤c2∧0≤c3∧c0+c2≤w∧c1+c3≤h)∧InsB c0 c1 c2 c3 x y a b∧InsB c0 c1 c2 c3 cx cy cw ch:=by
 dsimp only
 unfold cap0 cap1 cap2 cap3 InsB
 by_cases q:capL x a cx cw≥capR x a cx cw∨capL y b cy ch≥capR y b cy ch
 ·rw[if_pos q,if_pos q,if_pos q,if_pos q];omega
 ·rw[if_neg q,if_neg q,if_neg q,if_neg q]
  unfold capL capR posI lenI at *
  omega
theorem PlTo.onScr(hT:Tree s L)(hp:PlTo L Wd H w h idf off sn P L.length)(hw:1≤w∧w≤400)(hh:1≤h∧h≤400):∀n i,i<n->i<L.length->znq P w h i
 | 0,i,h,_=>by omega
 | n+1,i,hn,hi=>by
  by_cases e:i=0
  ·subst e
   obtain⟨r0,r1,r2,r3,r4,r5,r6,r7⟩:=hp.root
   unfold znq
   omega
  ·obtain⟨u,k,hu,hk,hc,hup⟩:=hT.kid_of i (by omega) hi
   have hu2:=PlTo.onScr hT hp hw hh n u (by omega) (by omega)
   obtain⟨R0,R1,R2,R3,hs,hkk⟩:=hp.kr u (by omega) (by omega)
   have hbi:=hp.bd i hi
   rw[<-hc] at hbi ⊢
   have k2:P (kdn (nth L u).kids k) 2=R2 k:=hkk k hk 2 (by omega)
   have k3:P (kdn (nth L u).kids k) 3=R3 k:=hkk k hk 3 (by omega)
   have k4:P (kdn (nth L u).kids k) 4=cap0 (R0 k) (R1 k) (R2 k) (R3 k) (P u 4) (P u 5) (P u 6) (P u 7):=hkk k hk 4 (by omega)
   have k5:P (kdn (nth L u).kids k) 5=cap1 (R0 k) (R1 k) (R2 k) (R3 k) (P u 4) (P u 5) (P u 6) (P u 7):=hkk k hk 5 (by omega)
   have k6:P (kdn (nth L u).kids k) 6=cap2 (R0 k) (R1 k) (R2 k) (R3 k) (P u 4) (P u 5) (P u 6) (P u 7):=hkk k hk 6 (by omega)
   have k7:P (kdn (nth L u).kids k) 7=cap3 (R0 k) (R1 k) (R2 k) (R3 k) (P u 4) (P u 5) (P u 6) (P u 7):=hkk k hk 7 (by omega)
   unfold znq
   rw[k4,k5,k6,k7]
   exact (zk8 hw hh (by omega) (by omega) hu2).1
theorem PlTo.clip(hT:Tree s L)(hp:PlTo L Wd H w h idf off sn P L.length)(hw:1≤w∧w≤400)(hh:1≤h∧h≤400){i:Nat}(hi:i<L.length)(h0:0<i) :
 ∃u:Nat,u<i∧(nth L i).up=(u:Int)∧InsB (P i 4) (P i 5) (P i 6) (P i 7) (P i 0) (P i 1) (P i 2) (P i 3)∧InsB (P i 4) (P i 5) (P i 6) (P i 7) (P u 4) (P u 5) (P u 6) (P u 7):=by
 obtain⟨u,k,hu,hk,hc,hup⟩:=hT.kid_of i h0 hi
 have hu2:=PlTo.onScr hT hp hw hh (u+1) u (by omega) (by omega)
 obtain⟨R0,R1,R2,R3,hs,hkk⟩:=hp.kr u (by omega) (by omega)
 have hbi:=hp.bd i hi
 refine⟨u,hu,hup,?_⟩
 rw[<-hc] at hbi ⊢
 have k0:P (kdn (nth L u).kids k) 0=R0 k:=hkk k hk 0 (by omega)
 have k1:P (kdn (nth L u).kids k) 1=R1 k:=hkk k hk 1 (by omega)
 have k2:P (kdn (nth L u).kids k) 2=R2 k:=hkk k hk 2 (by omega)
 have k3:P (kdn (nth L u).kids k) 3=R3 k:=hkk k hk 3 (by omega)
 have k4:P (kdn (nth L u).kids k) 4=cap0 (R0 k) (R1 k) (R2 k) (R3 k) (P u 4) (P u 5) (P u 6) (P u 7):=hkk k hk 4 (by omega)
 have k5:P (kdn (nth L u).kids k) 5=cap1 (R0 k) (R1 k) (R2 k) (R3 k) (P u 4) (P u 5) (P u 6) (P u 7):=hkk k hk 5 (by omega)
 have k6:P (kdn (nth L u).kids k) 6=cap2 (R0 k) (R1 k) (R2 k) (R3 k) (P u 4) (P u 5) (P u 6) (P u 7):=hkk k hk 6 (by omega)
 have k7:P (kdn (nth L u).kids k) 7=cap3 (R0 k) (R1 k) (R2 k) (R3 k) (P u 4) (P u 5) (P u 6) (P u 7):=hkk k hk 7 (by omega)
 rw[k4,k5,k6,k7,k0,k1,k2,k3]
 exact (zk8 hw hh (by omega) (by omega) hu2).2
end
end
section
theorem zc5{f g:Nat->Int}(c:Int):∀k,(∀j,j<k->f j=g j)->offs f c k=offs g c k
 | 0,_=>rfl
 | k+1,h=>by rw[z9j,z9j,zc5 c k (fun j hj=>h j (by omega)),h k (by omega)]
theorem z0x.uniq{kd a4 a5 a6:Int}{L:List Nd}{ks:List Nat}{Wd:Nat->Int}{H:Nat->Int->Int}{x y w h of rm:Int}{R0 R1 R2 R3 S0 S1 S2 S3:Nat->Int}(s:z0x kd a4 a5 a6 L ks Wd H x y w h of rm R0 R1 R2 R3)(s':z0x kd a4 a5 a6 L ks Wd H x y w h of rm S0 S1 S2 S3)(j:Nat)(hj:j<ks.length) :
 R0 j=S0 j∧R1 j=S1 j∧R2 j=S2 j∧R3 j=S3 j:=by
 have hne:ks≠[]:=fun e=>by rw[e] at hj;exact absurd hj (by simp)
 by_cases h0:kd=0
 ·obtain⟨G,g1,_,g3⟩:=s.row h0
  obtain⟨G',g1',_,g3'⟩:=s'.row h0
  have hu:=(g1.resolve_left hne).uniq (g1'.resolve_left hne)
  obtain⟨e0,e1,e2,e3⟩:=g3 j hj
  obtain⟨f0,f1,f2,f3⟩:=g3' j hj
  have ho:=zc5 (cl a4) j (f:=G) (g:=G') (fun t ht=>hu t (by omega))
  have hj':=hu j hj
  omega
 ·by_cases h1:kd=1
  ·obtain⟨G,g1,_,g3⟩:=s.col h1
   obtain⟨G',g1',_,g3'⟩:=s'.col h1
   have hu:=(g1.resolve_left hne).uniq (g1'.resolve_left hne)
   obtain⟨e0,e1,e2,e3⟩:=g3 j hj
   obtain⟨f0,f1,f2,f3⟩:=g3' j hj
   have ho:=zc5 (cl a4) j (f:=G) (g:=G') (fun t ht=>hu t (by omega))
   have hj':=hu j hj
   omega
  ·by_cases h3:kd=3
   ·have e:=s.box h3 j hj
    have f:=s'.box h3 j hj
    exact zb5 (e.symm.trans f)
   ·by_cases h4:kd=4
    ·obtain⟨e0,e1,e2,e3⟩:=s.scr h4 j hj
     obtain⟨f0,f1,f2,f3⟩:=s'.scr h4 j hj
     omega
    ·obtain⟨e0,e1,e2,e3⟩:=s.rest h0 h1 h3 h4 j hj
     obtain⟨f0,f1,f2,f3⟩:=s'.rest h0 h1 h3 h4 j hj
     omega
section
variable {s : ByteArray} {L : List Nd} {Wd : Nat -> Int} {H : Nat -> Int -> Int} {w h : Int} {idf off : Nat -> Int} {sn : Nat} {P Q : Nat -> Nat -> Int}
theorem PlTo.ext89(hp:PlTo L Wd H w h idf off sn P L.length)(hq:PlTo L Wd H w h idf off sn Q L.length){i:Nat}(hi:i<L.length)(h2:P i 2=Q i 2)(h3:P i 3=Q i 3):P i 8=Q i 8∧P i 9=Q i 9:=by
 by_cases h4:(nth L i).kind=4
 ·obtain⟨a,b⟩:=hp.sc i hi hi h4
  obtain⟨c,d⟩:=hq.sc i hi hi h4
  rw[h2,h3] at a
  have e:P i 9=Q i 9:=a.trans c.symm
  rw[e] at b
  exact⟨b.trans d.symm,e⟩
 ·obtain⟨a,b⟩:=hp.no i hi (.inr h4)
  obtain⟨c,d⟩:=hq.no i hi (.inr h4)
  exact⟨a.trans c.symm,b.trans d.symm⟩
theorem PlTo.uniq(hT:Tree s L)(hp:PlTo L Wd H w h idf off sn P L.length)(hq:PlTo L Wd H w h idf off sn Q L.length):∀n i,i<n->i<L.length->∀t,t<10->P i t=Q i t
 | 0,i,h,_=>by omega
 | n+1,i,hn,hi=>by
  have key:∀t,t<8->P i t=Q i t:=by
   by_cases e:i=0
   ·subst e
    obtain⟨a0,a1,a2,a3,a4,a5,a6,a7⟩:=hp.root
    obtain⟨b0,b1,b2,b3,b4,b5,b6,b7⟩:=hq.root
    intro t ht
    have:t=0∨t=1∨t=2∨t=3∨t=4∨t=5∨t=6∨t=7:=by omega
    rcases this with rfl|rfl|rfl|rfl|rfl|rfl|rfl|rfl
    ·exact a0.trans b0.symm
    ·exact a1.trans b1.symm
    ·exact a2.trans b2.symm
    ·exact a3.trans b3.symm
    ·exact a4.trans b4.symm
    ·exact a5.trans b5.symm
    ·exact a6.trans b6.symm
    ·exact a7.trans b7.symm
   ·obtain⟨u,k,hu,hk,hc,hup⟩:=hT.kid_of i (by omega) hi
    have ih:=PlTo.uniq hT hp hq n u (by omega) (by omega)
    obtain⟨R0,R1,R2,R3,hs,hkk⟩:=hp.kr u (by omega) (by omega)
    obtain⟨S0,S1,S2,S3,hs',hkk'⟩:=hq.kr u (by omega) (by omega)
    have hs2:=hs.congr (ih 0 (by omega)) (ih 1 (by omega)) (ih 2 (by omega)) (ih 3 (by omega)) (ih 8 (by omega)) (ih 9 (by omega))
    obtain⟨e0,e1,e2,e3⟩:=hs2.uniq hs' k hk
    intro t ht
    rw[<-hc,hkk k hk t ht,hkk' k hk t ht,e0,e1,e2,e3]
    unfold plV
    rw[ih 4 (by omega),ih 5 (by omega),ih 6 (by omega),ih 7 (by omega)]
  intro t ht
  by_cases h8:t<8
  ·exact key t h8
  ·obtain⟨a,b⟩:=PlTo.ext89 hp hq hi (key 2 (by omega)) (key 3 (by omega))
   have:t=8∨t=9:=by omega
   rcases this with rfl|rfl
   ·exact a
   ·exact b
end
end
end Go.Proofs.YtnponhbgicbkcaaGreatDoor
