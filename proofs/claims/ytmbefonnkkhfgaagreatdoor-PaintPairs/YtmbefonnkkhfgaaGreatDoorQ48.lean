import Derived.Test.YtmbefonnkkhfgaaGreatDoorQ40
import Derived.Test.YtmbefonnkkhfgaaGreatDoorQ47
import Derived.BigRegion
import Derived.Test.YtmbefonnkkhfgaaGreatDoorQ19
import Derived.Deep.CutBlock
set_option linter.unusedVariables false
set_option maxRecDepth 100000
set_option maxHeartbeats 16000000
namespace Go.Proofs.YtmbefonnkkhfgaaGreatDoor
section
open Go.RowKit Go.Sort Go.Proofs.Tryz
def pcF(P:Nat->Nat->Int)(i:Nat):Value:=Iq (P (i/10) (i %10))
def putAt(P:Nat->Nat->Int)(c t:Nat)(x:Int):Nat->Nat->Int:=fun q u=>if q=c∧u=t then x else P q u
theorem pc_set{W:World}{b N:Nat}{T:TypeId}{P:Nat->Nat->Int}(h:W.rowIs b T N (pcF P))(c t:Nat)(ht:t<10)(x:Int):(W.setCell ⟨b,c*10+t,none⟩ (Iq x)).rowIs b T N (pcF (putAt P c t x)):=by
 refine(h.set (c*10+t) (Iq x)).congr fun i hi=>?_;unfold pcF putAt;by_cases e:i=c*10+t;·rw[if_pos e,if_pos (by omega)]
 ·rw[if_neg e,if_neg (by omega)]
theorem pc_cell{W:World}{b n:Nat}{T:TypeId}{P:Nat->Nat->Int}(h:W.rowIs b T (n*10) (pcF P)){c t:Nat}(hc:c<n)(ht:t<10):W.cell? ⟨b,c*10+t,none⟩=some (Iq (P c t)):=by rw[h.cell (by omega)];unfold pcF;rw[show(c*10+t)/10=c by omega,show(c*10+t) %10=t by omega]
theorem Scr.kept{W W':World}{r n k:Nat}{H:Nat->Int->Int}{p:Option Addr}{idf off:Nat->Int}(h:Scr W p k idf off)(hm:Memo W r H n)(hg:W.grownBy W' (some r)):Scr W' p k idf off:=by
 rcases h with h|⟨b,o,e,h1,h2⟩;·exact .inl h
 ·by_cases hk:k=0;·exact .inl hk
  ·obtain⟨es,clock,hmp⟩:=hm.map;have hne:b≠r:=fun e2=>by subst e2;have:=(h2 0 (by omega)).1;simp[World.cell?,hmp]at this
   have hb:W'.heap[b]?=W.heap[b]?:=hg.block b h1 (fun q=>hne (by injection q));exact .inr ⟨b,o,e,Nat.lt_of_lt_of_le h1 hg.size,fun j hj=>⟨(World.cell?_of_block (a:=⟨b,o+j*2,none⟩) hb).trans (h2 j hj).1,(World.cell?_of_block (a:=⟨b,o+j*2+1,none⟩) hb).trans (h2 j hj).2⟩⟩
structure Pw(U0 W:World)(r pb N:Nat)(P:Nat->Nat->Int)(H:Nat->Int->Int)(n:Nat):Prop where
 g:U0.grownBy W (some r)
 m:Memo W r H n
 row:W.rowIs pb 63 (N*10) (pcF P)
theorem Pw.below{U0 W W':World}{r pb N n:Nat}{P:Nat->Nat->Int}{H:Nat->Int->Int}(h:Pw U0 W r pb N P H n)(hb:Below W.heap.size W W'):Pw U0 W' r pb N P H n:=
 ⟨h.g.trans (grown_of_below hb),h.m.grown_below hb,rowIs_below h.row hb⟩
theorem Pw.grown{U0 W W':World}{r pb N n n':Nat}{P:Nat->Nat->Int}{H:Nat->Int->Int}(h:Pw U0 W r pb N P H n)(hg:W.grownBy W' (some r))(hm:Memo W' r H n')(hne:pb≠r):Pw U0 W' r pb N P H n':=
 ⟨h.g.trans hg,hm,rowIs_grown h.row hg hne⟩
theorem Pw.set{U0 W:World}{r pb N n:Nat}{P:Nat->Nat->Int}{H:Nat->Int->Int}(h:Pw U0 W r pb N P H n)(hpb:U0.heap.size≤pb)(hne:pb≠r)(c t:Nat)(ht:t<10)(x:Int):Pw U0 (W.setCell ⟨pb,c*10+t,none⟩ (Iq x)) r pb N (putAt P c t x) H n:=
 ⟨grown_sets h.g (a:=⟨pb,_,none⟩) hpb _,h.m.set (a:=⟨pb,_,none⟩) hne _,pc_set h.row c t ht x⟩
theorem Pw.mono{U0 W:World}{r pb N n n':Nat}{P:Nat->Nat->Int}{H:Nat->Int->Int}(h:Pw U0 W r pb N P H n)(hn:n≤n'):Pw U0 W r pb N P H n':=⟨h.g,h.m.mono hn,h.row⟩
def roomI(hh w:Int):Int:=max 0 (hh-w)
theorem scroll_any(mb r pb N k kid nn:Nat)(P:Nat->Nat->Int)(H:Nat->Int->Int)(a0 a1 a2 a3 a4 a5 a6 a7 a8 a9 b0 b1 up:Int)(tx:ByteArray)(p:Option Addr)(m c:Nat)(sp:Option Addr)(sn sc:Nat)(idf off:Nat->Int)(U0 U:World)
 (hP:Hid (Pw U0 U r pb N P H nn)) (hpb:U0.heap.size≤pb) (hpr:pb≠r) (hk:k<N) (hN:N≤1000) (hm:0<m) (hkb:Hid (∃b o,p=some ⟨b,o,none⟩∧b<U0.heap.size∧b≠r∧U0.cell? ⟨b,o,none⟩=some (Iq (kid:Int)))) (hH:0≤H kid (P k 2)∧H kid (P k 2)≤100000) (h3:0≤P k 3∧P k 3≤100000)
 (HC:Hid (∀u,Pw U0 u r pb N P H nn->Calls prog 81 #[Pq mb,Iq (kid:Int),Iq (P k 2)] u fun e u'=>e=.returned (Iq (H kid (P k 2)))∧Hid (u.grownBy u' (some r))∧Hid (Memo u' r H (nn+100))))
 (OF:Hid (∀u P' n',Pw U0 u r pb N P' H n'->Calls prog 82 #[Iq a0,.slice sp sn sc] u fun e u'=>e=.returned (Iq (offI a0 idf off sn))∧Hid (Below u.heap.size u u'))):
 Calls prog 52 #[Pq mb,.pointer (some ⟨pb,k*10,none⟩),ndA 4 a0 a1 a2 a3 a4 a5 a6 a7 a8 a9 b0 b1 tx (.slice p m c) up,.slice sp sn sc] U fun e U'=>e=.returned (.tuple #[])∧Pw U0 U' r pb N (putAt (putAt P k 9 (roomI (H kid (P k 2)) (P k 3))) k 8 (min (max 0 (offI a0 idf off sn)) (roomI (H kid (P k 2)) (P k 3)))) H (nn+100)∧Hid (∀b,b<U.heap.size->b≠r->b≠pb->U'.heap[b]?=U.heap[b]?):=by
 obtain⟨kb,ko,rfl,hkl,hkr,hkc⟩:=hkb.out;obtain⟨W1,hW1⟩:=nmd (U.alloc (.cells #[Iq 4,Iq a0,Iq a1,Iq a2,Iq a3,Iq a4,Iq a5,Iq a6,Iq a7,Iq a8,Iq a9,Iq b0,Iq b1,.string tx,.slice (some ⟨kb,ko,none⟩) m c,Iq up] 61));obtain⟨A,hA⟩:=nmd U.heap.size;have HB1:Hid (Below U.heap.size U W1):=by rw[<-hW1];exact((Gr.refl U).alloc _).below
 have hat:W1.heap[A]?=some (.cells #[Iq 4,Iq a0,Iq a1,Iq a2,Iq a3,Iq a4,Iq a5,Iq a6,Iq a7,Iq a8,Iq a9,Iq b0,Iq b1,.string tx,.slice (some ⟨kb,ko,none⟩) m c,Iq up] 61 (0,0)):=by rw[<-hW1,<-hA];exact heap_alloc_new _ _
 have HP1:Hid (Pw U0 W1 r pb N P H nn):=hP.below HB1;have HAU2:Hid (U.heap.size=A):=hA;have hAr:A≠r:=by have:=hP.m.lt;omega
 have hpA:pb<A:=by rw[<-hA];exact hP.row.lt
 obtain⟨w,hw⟩:=nmd (P k 2);obtain⟨hh,hhe⟩:=nmd (P k 3);obtain⟨y,hy⟩:=nmd (H kid w);rw[hw]at HC hH⊢;rw[hhe]at h3⊢;rw[hy]at HC hH⊢;have HS:Hid (∀u,Pw U0 u r pb N P H nn∨Pw U0 u r pb N P H (nn+100)->W1.grownBy u (some r)->u.cell? ⟨A,14,none⟩=some (.slice (some ⟨kb,ko,none⟩) m c)∧u.cell? ⟨kb,ko,none⟩=some (Iq (kid:Int))∧u.cell? ⟨pb,k*10+2,none⟩=some (Iq w)∧u.cell? ⟨pb,k*10+3,none⟩=some (Iq hh)):=fun u hu hg=>by
  have hg0:U0.grownBy u (some r)∧u.rowIs pb 63 (N*10) (pcF P):=by rcases hu with q|q<;>exact⟨q.g,q.row⟩
  have hAl:A<W1.heap.size:=(Array.getElem?_eq_some_iff.1 hat).1;have hb:u.heap[A]?=W1.heap[A]?:=hg.block A hAl (fun e=>by injection e with e;omega);refine⟨by rw[Lib.cell_of_heap (hb.trans hat)];rfl,(World.cell?_of_block (a:=⟨kb,ko,none⟩) (hg0.1.block kb hkl (fun e=>hkr (by injection e)))).trans hkc,?_,?_⟩;·rw[<-hw];exact pc_cell hg0.2 hk (by omega)
  ·rw[<-hhe];exact pc_cell hg0.2 hk (by omega)
 have HAU:Hid (∀u,W1.grownBy u (some r)->u.heap[A]?=some (.cells #[Iq 4,Iq a0,Iq a1,Iq a2,Iq a3,Iq a4,Iq a5,Iq a6,Iq a7,Iq a8,Iq a9,Iq b0,Iq b1,.string tx,.slice (some ⟨kb,ko,none⟩) m c,Iq up] 61 (0,0))):=fun u hg=>(hg.block A (Array.getElem?_eq_some_iff.1 hat).1 (fun e=>by injection e with e;omega)).trans hat;have HC1:Hid (∀u,(u=W1∨u=W1.drew)->Calls prog 81 #[Pq mb,Iq (kid:Int),Iq w] u fun e u'=>e=.returned (Iq y)∧Hid (W1.grownBy u' (some r))∧Hid (Pw U0 u' r pb N P H (nn+100))):=fun u hu=>by
  have hgu:W1.grownBy u (some r):=by
   rcases hu with rfl|rfl;·exact grown_of_below (Below.refl _ _)
   ·exact grownDrew (grown_of_below (Below.refl _ _))
  have hpu:Pw U0 u r pb N P H nn:=by
   rcases hu with rfl|rfl;·exact HP1
   ·exact HP1.below (Below.refl _ _).drew
  refine(HC u hpu).mono ?_;rintro e u' ⟨rfl,q1,q2⟩;exact⟨rfl,hgu.trans q1,hpu.grown q1 q2 hpr⟩
 obtain⟨s1,s2,s3,s4⟩:=HS W1 (.inl HP1) (grown_of_below (Below.refl _ _));obtain⟨rm,hrm⟩:=nmd (roomI y hh);have hrv:max 0 (y-hh)=rm:=hrm;rw[hrm];have n1:¬A=pb:=by omega
 have n3:¬kb=pb:=by omega
 have n4:¬pb=kb:=by omega
 have HRW:Hid (∀u n' P',Pw U0 u r pb N P' H n'->(∃v,u.cell? ⟨pb,k*10+9,none⟩=some v)∧u.frozen? ⟨pb,k*10+9,none⟩=false∧pb<u.heap.size∧(∃v,u.cell? ⟨pb,k*10+8,none⟩=some v)∧u.frozen? ⟨pb,k*10+8,none⟩=false):=fun u n' P' hu=>⟨⟨_,pc_cell hu.row hk (by omega)⟩,hu.row.frozen _,hu.row.lt,⟨_,pc_cell hu.row hk (by omega)⟩,hu.row.frozen _⟩;obtain⟨⟨v9,r9⟩,f9,l9,_⟩:=HRW W1 nn P HP1;have HSS:Hid (∀u,Pw U0 u r pb N P H (nn+100)->W1.grownBy u (some r)->(u.setCell ⟨pb,k*10+9,none⟩ (Iq rm)).cell? ⟨A,14,none⟩=some (.slice (some ⟨kb,ko,none⟩) m c)∧(u.setCell ⟨pb,k*10+9,none⟩ (Iq rm)).cell? ⟨kb,ko,none⟩=some (Iq (kid:Int))∧(u.setCell ⟨pb,k*10+9,none⟩ (Iq rm)).cell? ⟨pb,k*10+2,none⟩=some (Iq w)∧(u.setCell ⟨pb,k*10+9,none⟩ (Iq rm)).cell? ⟨pb,k*10+3,none⟩=some (Iq hh)):=fun u hu hg=>by
  obtain⟨q1,q2,q3,q4⟩:=HS u (.inr hu) hg;refine⟨?_,?_,?_,?_⟩;·rw[World.cell?_setCell_other _ _ _ _ (fun e=>by injection e with e _ _;omega)];exact q1
  ·rw[World.cell?_setCell_other _ _ _ _ (fun e=>by injection e with e _ _;omega)];exact q2
  ·rw[World.cell?_setCell_other _ _ _ _ (fun e=>by injection e with _ e _;omega)];exact q3
  ·rw[World.cell?_setCell_other _ _ _ _ (fun e=>by injection e with _ e _;omega)];exact q4
 clear hat hP hkb hy hw hhe hrm;unfold ndA;go_enter func52,ntmps52;go_wp2_with fail;clear hW1 hA;have hwr:IntKind.i64.wrap (y-hh)=y-hh:=IntWalk.i64_in _ (by omega);go_cut[7]from 8 to 28 (fun _ wx=>Hid (Pw U0 wx r pb N (putAt P k 9 rm) H (nn+100))∧Hid (∀b,b<U.heap.size->b≠r->b≠pb->wx.heap[b]?=U.heap[b]?)∧Hid (wx.heap[A]?=some (.cells #[Iq 4,Iq a0,Iq a1,Iq a2,Iq a3,Iq a4,Iq a5,Iq a6,Iq a7,Iq a8,Iq a9,Iq b0,Iq b1,.string tx,.slice (some ⟨kb,ko,none⟩) m c,Iq up] 61 (0,0))));case first=>
  go_region_held(fun W=>W.cell? ⟨A,14,none⟩=some (.slice (some ⟨kb,ko,none⟩) m c)∧W.cell? ⟨kb,ko,none⟩=some (Iq (kid:Int))∧W.cell? ⟨pb,k*10+2,none⟩=some (Iq w)∧W.cell? ⟨pb,k*10+3,none⟩=some (Iq hh)) (go_keep) (first|(go_at_call 81;refine Calls.mono (HC1 _ (by first|exact .inl rfl|exact .inr rfl)) ?_;rintro e u1 ⟨rfl,HGu,HPu⟩;obtain⟨t1,t2,t3,t4⟩:=HS u1 (.inr HPu) HGu;obtain⟨⟨v9u,r9u⟩,f9u,l9u,_⟩:=HRW u1 _ _ HPu;obtain⟨o1,o2,o3,o4⟩:=HSS u1 HPu HGu));all_goals go_wp2_with fail
  all_goals go_meet
  all_goals(refine⟨?_,?_,?_⟩)
  all_goals first
   |exact HPu.set hpb hpr k 9 (by omega) rm
   |exact fun b h1 h2 h3=>(Below.heap_setCell u1 ⟨pb,k*10+9,none⟩ _ b h3).trans ((HGu.block b (Nat.lt_of_lt_of_le h1 HB1.size) (fun e=>h2 (by injection e))).trans (HB1.block b h1))
   |exact(Below.heap_setCell u1 ⟨pb,k*10+9,none⟩ _ A n1).trans (HAU u1 HGu)
 case rest=>
  obtain⟨HPc,HFc,HAc⟩:=hcut;have a1c:wc.cell? ⟨A,1,none⟩=some (Iq a0):=by rw[Lib.cell_of_heap HAc.out];rfl
  have c9:wc.cell? ⟨pb,k*10+9,none⟩=some (Iq rm):=by rw[pc_cell HPc.row hk (by omega)];unfold putAt;rw[if_pos ⟨rfl,rfl⟩]
  obtain⟨ov,hov⟩:=nmd (offI a0 idf off sn);rw[hov]at OF;have OF1:Hid (∀u,(u=wc∨u=wc.drew)->Calls prog 82 #[Iq a0,.slice sp sn sc] u fun e u'=>e=.returned (Iq ov)∧Hid (Below wc.heap.size wc u')∧u'.cell? ⟨A,1,none⟩=some (Iq a0)∧u'.cell? ⟨pb,k*10+9,none⟩=some (Iq rm)):=fun u hu=>by
   have hbu:Below wc.heap.size wc u:=by
    rcases hu with rfl|rfl;·exact Below.refl _ _
    ·exact(Below.refl _ _).drew
   refine(OF u _ _ (HPc.below hbu)).mono ?_;rintro e u' ⟨rfl,q⟩;have hbb:=hbu.trans (q.mono hbu.size);exact⟨rfl,hbb,(hbb.cell (p:=⟨A,1,none⟩) (Array.getElem?_eq_some_iff.1 HAc).1).trans a1c,(hbb.cell (p:=⟨pb,_,none⟩) HPc.row.lt).trans c9⟩
  have HOV:Hid (offI a0 idf off sn=ov):=hov;have HFIN:Hid (∀u x,Below wc.heap.size wc u->x=min (max 0 ov) rm->Pw U0 (u.setCell ⟨pb,k*10+8,none⟩ (Iq x)) r pb N (putAt (putAt P k 9 rm) k 8 (min (max 0 (offI a0 idf off sn)) rm)) H (nn+100)):=fun u x hu hx=>by rw[HOV.out,<-hx];exact(HPc.below hu).set hpb hpr k 8 (by omega) x
  have HUW:Hid (U.heap.size≤wc.heap.size):=by have:=(Array.getElem?_eq_some_iff.1 HAc).1;show _≤_;have:=HAU2.out;omega
  have HFF:Hid (∀(u:World) (x:Value),Below wc.heap.size wc u->∀b,b<U.heap.size->b≠r->b≠pb->(u.setCell ⟨pb,k*10+8,none⟩ x).heap[b]?=U.heap[b]?):=fun u x hu b h1 h2 h3=>(Below.heap_setCell u ⟨pb,k*10+8,none⟩ _ b h3).trans ((hu.block b (Nat.lt_of_lt_of_le h1 HUW)).trans (HFc b h1 h2 h3));have HR8:Hid (∀u,Below wc.heap.size wc u->(∃v,u.cell? ⟨pb,k*10+8,none⟩=some v)∧u.frozen? ⟨pb,k*10+8,none⟩=false∧pb<u.heap.size):=fun u hu=>by obtain⟨_,_,q3,q4,q5⟩:=HRW u _ _ (HPc.below hu);exact⟨q4,q5,q3⟩
  have HS3:Hid (∀(u:World) (x:Int),u.cell? ⟨A,1,none⟩=some (Iq a0)->u.cell? ⟨pb,k*10+9,none⟩=some (Iq rm)->(u.setCell ⟨pb,k*10+8,none⟩ (Iq x)).cell? ⟨A,1,none⟩=some (Iq a0)∧(u.setCell ⟨pb,k*10+8,none⟩ (Iq x)).cell? ⟨pb,k*10+9,none⟩=some (Iq rm)):=fun u x q1 q2=>by
   refine⟨?_,?_⟩;·rw[World.cell?_setCell_other _ _ _ _ (fun e=>by injection e with e _ _;omega)];exact q1
   ·rw[World.cell?_setCell_other _ _ _ _ (fun e=>by injection e with _ e _;omega)];exact q2
  clear hov s1 s2 s3 s4 r9 f9 HC1 HS HSS HRW hrv hwr;go_wp2_with fail;go_region_held(fun W=>W.cell? ⟨A,1,none⟩=some (Iq a0)∧W.cell? ⟨pb,k*10+9,none⟩=some (Iq rm)) (go_keep) (first|(go_at_call 82;refine Calls.mono (OF1 _ (by first|exact .inl rfl|exact .inr rfl)) ?_;rintro e u1 ⟨rfl,HBu,t1,t2⟩;obtain⟨⟨v8u,r8u⟩,f8u,l8u⟩:=HR8 u1 HBu;obtain⟨o1,o2⟩:=HS3 u1 (min (max 0 ov) rm) t1 t2));all_goals go_wp2;go_end0;exact⟨rfl,HFIN _ _ HBu (by first|rfl|omega),HFF u1 _ HBu⟩
end
section
open Go.RowKit Go.Sort Go.Proofs.Tryz
theorem in_any(f r m:Nat)(x y a b s gap:Int)(X Y P Q G:Nat->Int)(L:List Nd)(ks:List Nat)(N:Nat->Int)(H:Nat->Int->Int)(n:Nat)(v:Value)(U0 U:World)(hG:∀g,KidSpl L ks N s gap g->∀j,j<ks.length->g j=G j)
 (hf:Hid (f=83∧s=a∧(∀k,X k=x+offs G (cl gap) k∧Y k=y∧P k=G k∧Q k=b)∨f=85∧s=b∧∀k,X k=x∧Y k=y+offs G (cl gap) k∧P k=a∧Q k=G k))
 (hmm:ks.length=m) (hm:m≤200) (hr:r<U0.heap.size) (hx:-1000000000000≤x∧x≤1000000000000) (hy:-1000000000000≤y∧y≤1000000000000) (ha:0≤a∧a≤100000) (hb:0≤b∧b≤100000) (hv:Hid (RwOut U0 U r m L ks N H n v)):
 Calls prog f #[rv x y a b,Iq gap,v] U fun e U'=>∃lb,e=.returned (Sq lb m m)∧RcOut U U' lb m X Y P Q∧(ks=[]∨KidSpl L ks N s gap G)∧∀j,j<m->0≤G j∧G j≤100000:=by
 have hmix:prog.follows .mixedOrders=true:=by kernel_rfl
 obtain⟨i0,hi,hz0,hz1,hz2⟩:=info_parts infoE4;have hmk:∀W:World,(Instr.makeSlice 112 (Iq (m:Int)) (Iq (m:Int))).run prog W=.ok (Sq W.heap.size m m) (W.alloc (.cells (madeCells #[Iq 0,Iq 0,Iq 0,Iq 0] (m*4)) 56)):=fun W=>by have:=run_make (P:=prog) W 112 56 i0 _ underlying112 hi hz0 .i64 .i64 m m (by omega) (Int.le_refl _) (by rw[hz2];omega) (by omega);rw[hz1,Int.toNat_natCast]at this;exact this
 clear hi hz0 hz1 hz2;obtain⟨A,hA⟩:=nmd U.heap.size;obtain⟨lb,vv⟩:=hv.out;obtain⟨rfl,w1,w2,w3,w4⟩:=vv;have HVO:Hid (WRow U lb 0 m (fun j=>wMn (nth L (kdn ks j)) (N j)) (fun j=>atN (nth L (kdn ks j)) 2) (fun j=>atN (nth L (kdn ks j)) 3)):=w1;have hrl:r<U.heap.size:=Nat.lt_of_lt_of_le hr w3.size;obtain⟨W1,hW1⟩:=nmd ((U.alloc (.cells #[Iq x,Iq y,Iq a,Iq b] 56)).alloc (.cells (madeCells #[Iq 0,Iq 0,Iq 0,Iq 0] (m*4)) 56));have HB1:Hid (Below U.heap.size U W1):=by rw[<-hW1];exact(((Gr.refl U).alloc _).alloc _).below
 have hat:W1.heap[A]?=some (.cells #[Iq x,Iq y,Iq a,Iq b] 56 (0,0)):=by rw[<-hW1,<-hA,Below.heap_alloc _ _ _ (by rw[World.size_alloc];omega)];exact heap_alloc_new _ _
 have hrow:W1.rowIs (A+1) 56 (m*4) (rcF X Y P Q 0):=by rw[<-hW1];have:=rc_zero (U.alloc (.cells #[Iq x,Iq y,Iq a,Iq b] 56)) m X Y P Q 56;rw[World.size_alloc,hA]at this;exact this
 have HS:Hid (∀u,Below W1.heap.size W1 u->u.cell? ⟨A,0,none⟩=some (Iq x)∧u.cell? ⟨A,1,none⟩=some (Iq y)∧u.cell? ⟨A,2,none⟩=some (Iq a)∧u.cell? ⟨A,3,none⟩=some (Iq b)):=fun u hu=>by have hb2:=(hu.block A (Array.getElem?_eq_some_iff.1 hat).1).trans hat;refine⟨?_,?_,?_,?_⟩<;>(rw[Lib.cell_of_heap hb2];rfl)
 have SP:Hid (∀u q0,q0=s->Below W1.heap.size W1 u->Calls prog 136 #[Iq q0,Iq gap,Sq lb m m] u fun e u'=>∃q cq,e=.returned (.slice q m cq)∧Hid (IntsB u' W1.heap.size q m G)∧Hid (Below W1.heap.size W1 u')∧Hid (Below u.heap.size u u')∧Hid (ks=[]∨KidSpl L ks N s gap G)):=fun u q0 hq hu=>by have hub:Below U.heap.size U u:=HB1.trans (hu.mono HB1.size);rw[hq];refine(split_g hmm hm (HVO.below hub) hG).mono ?_;rintro e u' ⟨q,cq,rfl,q1,q2,q3⟩;exact⟨q,cq,rfl,q1.low hu.size,hu.trans (q2.mono hu.size),q2,q3⟩
 have OF:Hid (∀u q0,q0=s->Below W1.heap.size W1 u->Calls prog 137 #[Iq q0,Iq gap,Sq lb m m] u fun e u'=>∃q cq,e=.returned (.slice q m cq)∧Hid (IntsB u' W1.heap.size q m (offs G (cl gap)))∧Hid (Below W1.heap.size W1 u')∧Hid (Below u.heap.size u u')):=fun u q0 hq hu=>by have hub:Below U.heap.size U u:=HB1.trans (hu.mono HB1.size);rw[hq];refine(offs_g hmm hm (HVO.below hub) hG).mono ?_;rintro e u' ⟨q,cq,rfl,q1,q2⟩;exact⟨q,cq,rfl,q1.low hu.size,hu.trans (q2.mono hu.size),q2⟩
 have HROW:Hid (W1.rowIs (A+1) 56 (m*4) (rcF X Y P Q 0)):=hrow;have HA1:Hid (A+1<W1.heap.size):=HROW.lt;have HAL:Hid (A<W1.heap.size):=(Array.getElem?_eq_some_iff.1 hat).1;have HUA:Hid (U.heap.size=A):=hA;obtain⟨z0,z1,z2,z3⟩:=HS W1 (Below.refl _ _);clear hat hrow w1 w2 w3 w4 hv;unfold rv;rcases hf.out with⟨rfl,hs,HX⟩|⟨rfl,hs,HX⟩;all_goals
  have HXX:=qH HX;have HQ:=qH hs.symm;clear hs HX hf;first
   |go_enter func83,ntmps83
   |go_enter func85,ntmps85
  go_wp2_with fail;clear hW1 hA hmk;go_cut[8,9]from 14 to 23 (fun s1 s2 wx=>∃q1 c1 q2 c2,s1=.slice q1 m c1∧s2=.slice q2 m c2∧Hid (IntsB wx W1.heap.size q1 m G)∧Hid (IntsB wx W1.heap.size q2 m (offs G (cl gap)))∧Hid (Below W1.heap.size W1 wx)∧Hid (ks=[]∨KidSpl L ks N s gap G));case first=>
   go_region_held(fun W=>W.cell? ⟨A,2,none⟩=some (Iq a)∧W.cell? ⟨A,3,none⟩=some (Iq b)) (go_keep) (first
    |(go_at_call 136;refine Calls.mono (SP _ _ HQ (by first|exact Below.refl _ _|exact(Below.refl _ _).drew|exact HBo)) ?_;rintro e us ⟨qs,cqs,rfl,HIs,HBs,HXs,HKs⟩;obtain⟨s0,s1,s2,s3⟩:=HS us HBs)
    |(go_at_call 136;refine Calls.mono (SP _ _ HQ HBo) ?_;rintro e us ⟨qs,cqs,rfl,HIs,HBs,HXs,HKs⟩;obtain⟨s0,s1,s2,s3⟩:=HS us HBs)
    |(go_at_call 137;refine Calls.mono (OF _ _ HQ (by first|exact HBs|exact Below.refl _ _|exact(Below.refl _ _).drew)) ?_;rintro e uo ⟨qo,cqo,rfl,HIo,HBo,HXo⟩;obtain⟨o0,o1,o2,o3⟩:=HS uo HBo));all_goals go_wp2_with fail
   all_goals go_meet
   all_goals first
    |exact⟨qs,cqs,qo,cqo,rfl,rfl,HIs.below HXo,HIo,HBo,HKs⟩
    |exact⟨qs,cqs,qo,cqo,rfl,rfl,HIs,HIo.below HXs,HBs,HKs⟩
  case rest=>
   obtain⟨q1,c1,q2,c2,rfl,rfl,HI1,HI2,HBc,HKc⟩:=hcut;have HKG:Hid (∀j,j<m->0≤G j∧G j≤100000):=fun j hj=>by
    rcases HKc.out with e|hg;·rw[e]at hmm;simp at hmm;omega
    ·have t1:=(SplitIs.tiles hg (held_bds _ _ _)).1 j (by omega);have t2:=held_bds (fun j=>wMn (nth L (kdn ks j)) (N j)) (fun j=>atN (nth L (kdn ks j)) 2) (fun j=>atN (nth L (kdn ks j)) 3) j;(try dsimp only at t1 t2);omega
   have HKO:Hid (∀j,j<m->0≤offs G (cl gap) j∧offs G (cl gap) j≤40000000):=fun j hj=>by have:=offs_bd HKG (cl_bd gap) j (by omega);omega
   have HRC:Hid (wc.rowIs (A+1) 56 (m*4) (rcF X Y P Q 0)):=rowIs_below HROW HBc;have HSC:Hid (wc.cell? ⟨A,0,none⟩=some (Iq x)∧wc.cell? ⟨A,1,none⟩=some (Iq y)∧wc.cell? ⟨A,2,none⟩=some (Iq a)∧wc.cell? ⟨A,3,none⟩=some (Iq b)):=HS wc HBc;clear SP OF z0 z1 z2 z3 HS HROW;go_wp2_with fail;go_loopw[26] (fun kv wr=>∃k:Nat,k≤m∧kv=Iq (k:Int)∧Hid (wr.rowIs (A+1) 56 (m*4) (rcF X Y P Q k))∧Hid (Below U.heap.size U wr)∧Hid (∀bq,bq≠A+1->bq<wc.heap.size->wr.heap[bq]?=wc.heap[bq]?)∧Hid (wc.heap.size≤wr.heap.size)) (fun kv _=>m-(intOf kv).toNat);case atStart=>exact⟨0,Nat.zero_le _,rfl,HRC,HB1.trans (HBc.mono HB1.size),fun _ _ _=>rfl,Nat.le_refl _⟩
   case round=>
    obtain⟨k,hk,rfl,HR,HBU,HO,HZ⟩:=hrel;by_cases hlt:k<m
    ·have hlt':(k:Int)<(m:Int):=by omega
     obtain⟨b1,o1,rfl,l1,n1,d1⟩:=HI1.resolve_left (by omega);obtain⟨b2,o2,rfl,l2,n2,d2⟩:=HI2.resolve_left (by omega);have hAl:=HAL.out;have hA1:A+1<W1.heap.size∨W1.heap.size≤A+1:=by omega
     have hA2:A+1<W1.heap.size:=HA1.out;have c0:wr.cell? ⟨A,0,none⟩=some (Iq x):=(World.cell?_of_block (HO A (by omega) (by have:=HBc.size;omega))).trans HSC.1;have c1:wr.cell? ⟨A,1,none⟩=some (Iq y):=(World.cell?_of_block (HO A (by omega) (by have:=HBc.size;omega))).trans HSC.2.1;have c2:wr.cell? ⟨A,2,none⟩=some (Iq a):=(World.cell?_of_block (HO A (by omega) (by have:=HBc.size;omega))).trans HSC.2.2.1;have c3:wr.cell? ⟨A,3,none⟩=some (Iq b):=(World.cell?_of_block (HO A (by omega) (by have:=HBc.size;omega))).trans HSC.2.2.2;have e1:wr.cell? ⟨b1,o1+k,none⟩=some (Iq (G k)):=(World.cell?_of_block (HO b1 (by omega) l1)).trans (d1 k hlt);have e2:wr.cell? ⟨b2,o2+k,none⟩=some (Iq (offs G (cl gap) k)):=(World.cell?_of_block (HO b2 (by omega) l2)).trans (d2 k hlt);have hgk:=HKG k hlt;have hok:=HKO k hlt;have hfr:∀j,wr.frozen? ⟨A+1,j,none⟩=false:=fun j=>HR.frozen j;have hv0:∃v,wr.cell? ⟨A+1,k*4,none⟩=some v:=⟨_,HR.cell (by omega)⟩;have hv1:∃v,wr.cell? ⟨A+1,k*4+1,none⟩=some v:=⟨_,HR.cell (by omega)⟩;have hv2:∃v,wr.cell? ⟨A+1,k*4+2,none⟩=some v:=⟨_,HR.cell (by omega)⟩;have hv3:∃v,wr.cell? ⟨A+1,k*4+3,none⟩=some v:=⟨_,HR.cell (by omega)⟩;obtain⟨v0,hv0⟩:=hv0;obtain⟨v1,hv1⟩:=hv1;obtain⟨v2,hv2⟩:=hv2;obtain⟨v3,hv3⟩:=hv3;obtain⟨gk,hgke⟩:=nmd (G k);obtain⟨ok,hoke⟩:=nmd (offs G (cl gap) k);have HV:=qH<|HXX k;rw[hgke,hoke]at HV;have HNX:Hid (∀p0 p1 p2 p3:Int,X k=p0∧Y k=p1∧P k=p2∧Q k=p3->Hid (((((wr.setCell ⟨A+1,k*4,none⟩ (Iq p0)).setCell ⟨A+1,k*4+1,none⟩ (Iq p1)).setCell ⟨A+1,k*4+2,none⟩ (Iq p2)).setCell ⟨A+1,k*4+3,none⟩ (Iq p3)).rowIs (A+1) 56 (m*4) (rcF X Y P Q (k+1)))):=fun p0 p1 p2 p3 h=>rc_next HR p0 p1 p2 p3 h.1.symm h.2.1.symm h.2.2.1.symm h.2.2.2.symm;have HNB:Hid (∀p0 p1 p2 p3:Value,Below U.heap.size U ((((wr.setCell ⟨A+1,k*4,none⟩ p0).setCell ⟨A+1,k*4+1,none⟩ p1).setCell ⟨A+1,k*4+2,none⟩ p2).setCell ⟨A+1,k*4+3,none⟩ p3)):=fun p0 p1 p2 p3=>(((HBU.setCell (p:=⟨A+1,_,none⟩) (by rw[HUA.out];show A≤A+1;omega) _).setCell (p:=⟨A+1,_,none⟩) (by rw[HUA.out];show A≤A+1;omega) _).setCell (p:=⟨A+1,_,none⟩) (by rw[HUA.out];show A≤A+1;omega) _).setCell (p:=⟨A+1,_,none⟩) (by rw[HUA.out];show A≤A+1;omega) _;have HNO:Hid (∀p0 p1 p2 p3:Value,∀bq,bq≠A+1->bq<wc.heap.size->((((wr.setCell ⟨A+1,k*4,none⟩ p0).setCell ⟨A+1,k*4+1,none⟩ p1).setCell ⟨A+1,k*4+2,none⟩ p2).setCell ⟨A+1,k*4+3,none⟩ p3).heap[bq]?=wc.heap[bq]?):=fun p0 p1 p2 p3 bq h1 h2=>by rw[Below.heap_setCell _ ⟨A+1,k*4+3,none⟩ _ _ h1,Below.heap_setCell _ ⟨A+1,k*4+2,none⟩ _ _ h1,Below.heap_setCell _ ⟨A+1,k*4+1,none⟩ _ _ h1,Below.heap_setCell _ ⟨A+1,k*4,none⟩ _ _ h1];exact HO bq h1 h2
     rw[hgke]at hgk e1;rw[hoke]at hok e2;have hw1:IntKind.i64.wrap (x+ok)=x+ok:=IntWalk.i64_in _ (by omega);have hw2:IntKind.i64.wrap (y+ok)=y+ok:=IntWalk.i64_in _ (by omega);have hal:A+1<wr.heap.size:=HR.lt;have hne1:¬A=A+1:=by omega
     have hne2:¬A+1=A:=by omega
     have hne3:¬b1=A+1:=by omega
     have hne4:¬A+1=b1:=by omega
     have hne5:¬b2=A+1:=by omega
     have hne6:¬A+1=b2:=by omega
     clear hgke hoke hAl hA1 hA2 d1 d2 HR HBU HO l1 l2 n1 n2 HKG HKO;go_wp2_with fail;go_region_held(fun W=>W.cell? ⟨A,0,none⟩=some (Iq x)∧W.cell? ⟨A,1,none⟩=some (Iq y)∧W.cell? ⟨A,2,none⟩=some (Iq a)∧W.cell? ⟨A,3,none⟩=some (Iq b)∧W.cell? ⟨b1,o1+k,none⟩=some (Iq gk)∧W.cell? ⟨b2,o2+k,none⟩=some (Iq ok)) (go_keep) (fail);all_goals
      go_wp2;go_roundw;case rel=>exact⟨k+1,hlt,by go_num,HNX _ _ _ _ HV,by first|exact(HNB _ _ _ _).drew|exact HNB _ _ _ _,HNO _ _ _ _,by show _≤_;simpa using HZ.out⟩
      case measure=>simp[intOf];omega
    ·have hlt':¬(k:Int)<(m:Int):=by omega
     obtain rfl:k=m:=by omega
     go_wp2;go_ret;exact⟨A+1,rfl,⟨rc_row HR,by rw[HUA.out];omega,HBU⟩,HKc,HKG⟩
end
section
open Go.RowKit Go.Sort Go.Proofs.Tryz
structure KrSpec(kd a4 a5 a6:Int)(L:List Nd)(ks:List Nat)(Wd:Nat->Int)(H:Nat->Int->Int)(x y w h of rm:Int)(R0 R1 R2 R3:Nat->Int):Prop where
 row:kd=0->∃G,(ks=[]∨KidSpl L ks (fun j=>Wd (kdn ks j)) w a4 G)∧(∀j,j<ks.length->0≤G j∧G j≤100000)∧∀j,j<ks.length->R0 j=x+offs G (cl a4) j∧R1 j=y∧R2 j=G j∧R3 j=h
 col:kd=1->∃G,(ks=[]∨KidSpl L ks (fun j=>H (kdn ks j) w) h a4 G)∧(∀j,j<ks.length->0≤G j∧G j≤100000)∧∀j,j<ks.length->R0 j=x∧R1 j=y+offs G (cl a4) j∧R2 j=w∧R3 j=G j
 box:kd=3->∀j,j<ks.length->insV x y w h (a6+a5)=rv (R0 j) (R1 j) (R2 j) (R3 j)
 scr:kd=4->∀j,j<ks.length->R0 j=x∧R1 j=y-of∧R2 j=w∧R3 j=h+rm
 rest:kd≠0->kd≠1->kd≠3->kd≠4->∀j,j<ks.length->R0 j=x∧R1 j=y∧R2 j=w∧R3 j=h
def KrOut(U U':World)(r m:Nat)(H:Nat->Int->Int)(n:Nat)(X:(Nat->Int)->(Nat->Int)->(Nat->Int)->(Nat->Int)->Prop)(e:Ending):Prop:=∃q cq R0 R1 R2 R3,e=.returned (.slice q m cq)∧X R0 R1 R2 R3∧(m=0∨∃b,q=some ⟨b,0,none⟩∧U.heap.size≤b∧RcRow U' b m R0 R1 R2 R3)∧U.grownBy U' (some r)∧Memo U' r H n
theorem KrOut.base{U U0 U':World}{r m:Nat}{H:Nat->Int->Int}{n:Nat}{X:(Nat->Int)->(Nat->Int)->(Nat->Int)->(Nat->Int)->Prop}{e:Ending}(h:KrOut U U' r m H n X e)(h0:U0.grownBy U (some r)):KrOut U0 U' r m H n X e:=by
 obtain⟨q,cq,R0,R1,R2,R3,h1,h2,h3,h4,h5⟩:=h;refine⟨q,cq,R0,R1,R2,R3,h1,h2,?_,h0.trans h4,h5⟩;rcases h3 with h3|⟨b,e,h6,h7⟩;·exact .inl h3
 ·exact .inr ⟨b,e,Nat.le_trans h0.size h6,h7⟩
theorem fl4_rc{W:World}{b m:Nat}{x y a c:Int}{Ls:List Value}(h:W.heap[b]?=some (.cells Ls.toArray 56 (0,0)))(hf:Fl4 Ls m m [Iq x,Iq y,Iq a,Iq c]):RcRow W b m (fun _=>x) (fun _=>y) (fun _=>a) (fun _=>c):=by
 refine⟨(Array.getElem?_eq_some_iff.1 h).1,fun j hj=>⟨?_,?_,?_,?_⟩⟩;·rw[Lib.cell_of_heap h];have:=hf.2 j 0 _ hj rfl;simpa using this
 ·rw[Lib.cell_of_heap h];have:=hf.2 j 1 _ hj rfl;simpa using this
 ·rw[Lib.cell_of_heap h];have:=hf.2 j 2 _ hj rfl;simpa using this
 ·rw[Lib.cell_of_heap h];have:=hf.2 j 3 _ hj rfl;simpa using this
theorem rep_rect(m:Nat)(hm:m≤1000)(x y a c:Int)(u:World):
 Calls prog 88 #[Sq u.heap.size 1 1,Iq (m:Int)] (u.alloc (.cells #[Iq x,Iq y,Iq a,Iq c] 56)) fun e u'=>∃q cq,e=.returned (.slice q m cq)∧Hid (m=0∨∃b,q=some ⟨b,0,none⟩∧u.heap.size≤b∧RcRow u' b m (fun _=>x) (fun _=>y) (fun _=>a) (fun _=>c))∧Hid (Below u.heap.size u u'):=by
 have hb2:Below u.heap.size u (u.alloc (.cells #[Iq x,Iq y,Iq a,Iq c] 56)):=(Below.refl _ u).alloc (Nat.le_refl _) _;by_cases hz:m=0;·subst hz;refine(rep4_zero (u.alloc (.cells #[Iq x,Iq y,Iq a,Iq c] 56)) u.heap.size).mono ?_;rintro e u' ⟨q,cq,rfl,hb⟩;exact⟨q,cq,rfl,.inl rfl,hb2.trans (hb.mono hb2.size)⟩
 ·refine(rep4_any (u.alloc (.cells #[Iq x,Iq y,Iq a,Iq c] 56)) x y a c u.heap.size m (by omega) (by simp) (fun k v hk=>?_)).mono ?_;·rw[World.cell?_alloc_at _ _ _ _ rfl];match k with
   |0=>exact hk
   |1=>exact hk
   |2=>exact hk
   |3=>exact hk
   |k+4=>cases hk
  ·rintro e u' ⟨rfl,⟨Ls,hl,hfl⟩,hb⟩;exact⟨_,_,rfl,.inr ⟨_,rfl,hb2.size,fl4_rc hl hfl⟩,hb2.trans (hb.mono hb2.size)⟩
theorem KrOut.mono{U U':World}{r m:Nat}{H:Nat->Int->Int}{n n':Nat}{X:(Nat->Int)->(Nat->Int)->(Nat->Int)->(Nat->Int)->Prop}{e:Ending}(h:KrOut U U' r m H n X e)(hn:n≤n'):KrOut U U' r m H n' X e:=by obtain⟨q,cq,R0,R1,R2,R3,h1,h2,h3,h4,h5⟩:=h;exact⟨q,cq,R0,R1,R2,R3,h1,h2,h3,h4,h5.mono hn⟩
def ndC(kd a0 a1 a2 a3 a4 a5 a6 a7 a8 a9 b0 b1:Int)(tx:ByteArray)(kv:Value)(up:Int):Array Value:=#[Iq kd,Iq a0,Iq a1,Iq a2,Iq a3,Iq a4,Iq a5,Iq a6,Iq a7,Iq a8,Iq a9,Iq b0,Iq b1,.string tx,kv,Iq up]
theorem kr_rep{U:World}{r nn m:Nat}{H:Nat->Int->Int}{X:(Nat->Int)->(Nat->Int)->(Nat->Int)->(Nat->Int)->Prop}(hm:m≤200)(hM:Memo U r H nn)(u:World)(x0 y0 w0 h0:Int)(hu:Below U.heap.size U u)(hsp:X (fun _=>x0) (fun _=>y0) (fun _=>w0) (fun _=>h0)):
 Calls prog 88 #[Sq u.heap.size 1 1,Iq (m:Int)] (u.alloc (.cells #[Iq x0,Iq y0,Iq w0,Iq h0] 56)) fun e u'=>∃q cq,e=.returned (.slice q m cq)∧Hid (KrOut U u' r m H (nn+100*m) X (.returned (.slice q m cq))):=by
 refine(rep_rect m (by omega) x0 y0 w0 h0 u).mono ?_;rintro e u' ⟨q,cq,rfl,q1,q2⟩;have hb:=hu.trans (q2.mono hu.size);refine⟨q,cq,rfl,q,cq,_,_,_,_,rfl,hsp,?_,grown_of_below hb,(hM.grown_below hb).mono (by omega)⟩;rcases q1.out with e|⟨b,e,l,h⟩;·exact .inl e
 ·exact .inr ⟨b,e,Nat.le_trans hu.size l,h⟩
theorem kidRects_kind(mb r nn m:Nat)(L:List Nd)(ks:List Nat)(Wd:Nat->Int)(H:Nat->Int->Int)(kd a0 a1 a2 a3 a4 a5 a6 a7 a8 a9 b0 b1 up:Int)(tx:ByteArray)(p:Option Addr)(c:Nat)(x y w h c0 c1 c2 c3 of rm:Int)(U:World)
 (hmm:ks.length=m) (hm:m≤200) (hM:Hid (Memo U r H nn)) (hx:-1000000000000≤x∧x≤1000000000000) (hy:-1000000000000≤y∧y≤1000000000000) (hw:0≤w∧w≤100000) (hh:0≤h∧h≤100000) (h5:0≤a5∧a5≤1000000) (h6:0≤a6∧a6≤1000000) (hof:0≤of∧of≤100000) (hrm:0≤rm∧rm≤100000)
 (WR:Hid (kd=0->∀u,Below U.heap.size U u->Memo u r H nn->Calls prog 84 #[Pq mb,ndA kd a0 a1 a2 a3 a4 a5 a6 a7 a8 a9 b0 b1 tx (.slice p m c) up] u fun e u'=>∃v,e=.returned v∧RwOut u u' r m L ks (fun j=>Wd (kdn ks j)) H (nn+100*m) v))
 (WC:Hid (kd=1->∀u,Below U.heap.size U u->Memo u r H nn->Calls prog 86 #[Pq mb,ndA kd a0 a1 a2 a3 a4 a5 a6 a7 a8 a9 b0 b1 tx (.slice p m c) up,Iq w] u fun e u'=>∃v,e=.returned v∧RwOut u u' r m L ks (fun j=>H (kdn ks j) w) H (nn+100*m) v)):
 Calls prog 53 #[Pq mb,ndA kd a0 a1 a2 a3 a4 a5 a6 a7 a8 a9 b0 b1 tx (.slice p m c) up,.agg #[Iq x,Iq y,Iq w,Iq h,Iq c0,Iq c1,Iq c2,Iq c3,Iq of,Iq rm]] U fun e U'=>KrOut U U' r m H (nn+100*m) (KrSpec kd a4 a5 a6 L ks Wd H x y w h of rm) e:=by
 have hmix:prog.follows .mixedOrders=true:=by kernel_rfl
 obtain⟨W3,hW3⟩:=nmd (((U.alloc (.cells (ndC kd a0 a1 a2 a3 a4 a5 a6 a7 a8 a9 b0 b1 tx (.slice p m c) up) 61)).alloc (.cells #[Iq x,Iq y,Iq w,Iq h,Iq c0,Iq c1,Iq c2,Iq c3,Iq of,Iq rm] 63)).alloc (.cells #[Iq x,Iq y,Iq w,Iq h] 56));obtain⟨A,hA⟩:=nmd U.heap.size;have HB3:Hid (Below U.heap.size U W3):=by rw[<-hW3];exact((((Gr.refl U).alloc _).alloc _).alloc _).below
 have hn3:W3.heap[A]?=some (.cells (ndC kd a0 a1 a2 a3 a4 a5 a6 a7 a8 a9 b0 b1 tx (.slice p m c) up) 61 (0,0)):=by rw[<-hW3,<-hA,Below.heap_alloc _ _ _ (by rw[World.size_alloc,World.size_alloc];omega),Below.heap_alloc _ _ _ (by rw[World.size_alloc];omega)];exact heap_alloc_new _ _
 have hp3:W3.heap[A+1]?=some (.cells #[Iq x,Iq y,Iq w,Iq h,Iq c0,Iq c1,Iq c2,Iq c3,Iq of,Iq rm] 63 (0,0)):=by rw[<-hW3,<-hA,Below.heap_alloc _ _ _ (by rw[World.size_alloc,World.size_alloc];omega),<-World.size_alloc];exact heap_alloc_new _ _
 have hi3:W3.heap[A+1+1]?=some (.cells #[Iq x,Iq y,Iq w,Iq h] 56 (0,0)):=by rw[<-hW3,<-hA,<-World.size_alloc,<-World.size_alloc];exact heap_alloc_new _ _
 unfold ndC at hW3;have hrA:r<A:=by rw[<-hA];exact hM.lt
 have HS:Hid (∀u,W3.grownBy u (some r)->(u.cell? ⟨A,0,none⟩=some (Iq kd)∧u.cell? ⟨A,1,none⟩=some (Iq a0)∧u.cell? ⟨A,2,none⟩=some (Iq a1)∧u.cell? ⟨A,3,none⟩=some (Iq a2)∧u.cell? ⟨A,4,none⟩=some (Iq a3)∧u.cell? ⟨A,5,none⟩=some (Iq a4)∧u.cell? ⟨A,6,none⟩=some (Iq a5)∧u.cell? ⟨A,7,none⟩=some (Iq a6)∧u.cell? ⟨A,8,none⟩=some (Iq a7)∧u.cell? ⟨A,9,none⟩=some (Iq a8)∧u.cell? ⟨A,10,none⟩=some (Iq a9)∧u.cell? ⟨A,11,none⟩=some (Iq b0)∧u.cell? ⟨A,12,none⟩=some (Iq b1)∧u.cell? ⟨A,13,none⟩=some (.string tx)∧u.cell? ⟨A,14,none⟩=some (.slice p m c)∧u.cell? ⟨A,15,none⟩=some (Iq up))∧u.cell? ⟨A+1+1,0,none⟩=some (Iq x)∧u.cell? ⟨A+1+1,1,none⟩=some (Iq y)∧u.cell? ⟨A+1+1,2,none⟩=some (Iq w)∧u.cell? ⟨A+1+1,3,none⟩=some (Iq h)):=fun u hu=>by
  have hb1:=(hu.block A (Array.getElem?_eq_some_iff.1 hn3).1 (fun e=>by injection e with e;omega)).trans hn3;have hb2:=(hu.block (A+1+1) (Array.getElem?_eq_some_iff.1 hi3).1 (fun e=>by injection e with e;omega)).trans hi3;refine⟨⟨?_,?_,?_,?_,?_,?_,?_,?_,?_,?_,?_,?_,?_,?_,?_,?_⟩,?_,?_,?_,?_⟩;all_goals first
   |(rw[Lib.cell_of_heap hb1];rfl)
   |(rw[Lib.cell_of_heap hb2];rfl)
 obtain⟨⟨z0,z1,z2,z3,z4,z5,z6,z7,z8,z9,z10,z11,z12,z13,z14,z15⟩,y0,y1,y2,y3⟩:=HS W3 (grown_of_below (Below.refl _ _));have p8:W3.cell? ⟨A+1,8,none⟩=some (Iq of):=by rw[Lib.cell_of_heap hp3];rfl
 have p9:W3.cell? ⟨A+1,9,none⟩=some (Iq rm):=by rw[Lib.cell_of_heap hp3];rfl
 have HM3:Hid (Memo W3 r H nn):=hM.grown_below HB3;have hAl0:A<W3.heap.size:=(Array.getElem?_eq_some_iff.1 hn3).1;have hne0:¬A=W3.heap.size:=by omega
 have RP:=qH<|fun u x0 y0 w0 h0=>kr_rep (X:=KrSpec kd a4 a5 a6 L ks Wd H x y w h of rm) hm hM u x0 y0 w0 h0;by_cases h01:kd=0∨kd=1;·-- a row,a col
  obtain⟨f,av,g,s,N,hf⟩:∃f av g s N,(kd=0∧f=84∧av=#[Pq mb,ndA kd a0 a1 a2 a3 a4 a5 a6 a7 a8 a9 b0 b1 tx (.slice p m c) up]∧g=83∧s=w∧N=fun j=>Wd (kdn ks j))∨(kd=1∧f=86∧av=#[Pq mb,ndA kd a0 a1 a2 a3 a4 a5 a6 a7 a8 a9 b0 b1 tx (.slice p m c) up,Iq w]∧g=85∧s=h∧N=fun j=>H (kdn ks j) w):=by
   rcases h01 with e|e;·exact⟨_,_,_,_,_,.inl ⟨e,rfl,rfl,rfl,rfl,rfl⟩⟩
   ·exact⟨_,_,_,_,_,.inr ⟨e,rfl,rfl,rfl,rfl,rfl⟩⟩
  have RW:Hid (∀u,(u=W3∨u=W3.drew)->Calls prog f av u fun e u'=>∃v,e=.returned v∧Hid (RwOut W3 u' r m L ks N H (nn+100*m) v)):=fun u hu=>by
   have hbu:Below W3.heap.size W3 u:=by
    rcases hu with rfl|rfl;·exact Below.refl _ _
    ·exact(Below.refl _ _).drew
   have hc:Calls prog f av u fun e u'=>∃v,e=.returned v∧RwOut u u' r m L ks N H (nn+100*m) v:=by
    rcases hf with⟨e,rfl,rfl,_,_,rfl⟩|⟨e,rfl,rfl,_,_,rfl⟩;·exact WR e u (HB3.trans (hbu.mono HB3.size)) (HM3.grown_below hbu)
    ·exact WC e u (HB3.trans (hbu.mono HB3.size)) (HM3.grown_below hbu)
   refine hc.mono ?_;rintro e u' ⟨v,rfl,lb,rfl,q1,q2,q3,q4⟩;exact⟨_,rfl,lb,rfl,q1,Nat.le_trans hbu.size q2,(grown_of_below hbu).trans q3,q4⟩
  have IN:Hid (∀v u,RwOut W3 u r m L ks N H (nn+100*m) v->Calls prog g #[.agg #[Iq x,Iq y,Iq w,Iq h],Iq a4,v] u fun e u'=>∃q cq,e=.returned (.slice q m cq)∧Hid (KrOut W3 u' r m H (nn+100*m) (KrSpec kd a4 a5 a6 L ks Wd H x y w h of rm) (.returned (.slice q m cq)))):=fun v u hv=>by
   obtain⟨G,hG⟩:=spl_one L ks N s a4;obtain⟨X,Y,P,Q,hXY⟩:∃X Y P Q:Nat->Int,(g=83∧s=w∧(∀k,X k=x+offs G (cl a4) k∧Y k=y∧P k=G k∧Q k=h)∨g=85∧s=h∧∀k,X k=x∧Y k=y+offs G (cl a4) k∧P k=w∧Q k=G k)∧((ks=[]∨KidSpl L ks N s a4 G)->(∀j,j<m->0≤G j∧G j≤100000)->KrSpec kd a4 a5 a6 L ks Wd H x y w h of rm X Y P Q):=by
    rcases hf with⟨rfl,_,_,e1,rfl,rfl⟩|⟨rfl,_,_,e1,rfl,rfl⟩;·exact⟨fun k=>_,fun k=>_,fun k=>_,fun k=>_,.inl ⟨e1,rfl,fun k=>⟨rfl,rfl,rfl,rfl⟩⟩,fun g1 g2=>⟨fun _=>⟨G,g1,by rw[hmm];exact g2,fun j _=>⟨rfl,rfl,rfl,rfl⟩⟩,nofun,nofun,nofun,fun e=>absurd rfl e⟩⟩
    ·exact⟨fun k=>_,fun k=>_,fun k=>_,fun k=>_,.inr ⟨e1,rfl,fun k=>⟨rfl,rfl,rfl,rfl⟩⟩,fun g1 g2=>⟨nofun,fun _=>⟨G,g1,by rw[hmm];exact g2,fun j _=>⟨rfl,rfl,rfl,rfl⟩⟩,nofun,nofun,fun _ e=>absurd rfl e⟩⟩
   refine(in_any g r m x y w h s a4 X Y P Q G L ks N H (nn+100*m) v W3 u hG hXY.1 hmm hm (by have:=HB3.size;omega) hx hy hw hh hv).mono ?_;rintro e u' ⟨lb,rfl,⟨o1,o2,o3⟩,g1,g2⟩;obtain⟨lv,_,_,v2,v3,v4⟩:=hv;exact⟨_,_,rfl,_,_,_,_,_,_,rfl,hXY.2 g1 g2,.inr ⟨lb,rfl,Nat.le_trans v3.size o2,o1⟩,v3.trans (grown_of_below o3),v4.grown_below o3⟩
  clear hn3 hp3 hi3 hM WR WC p8 p9 h01 RP;rcases hf with⟨hk,rfl,rfl,rfl,_,_⟩|⟨hk,rfl,rfl,rfl,_,_⟩;all_goals
   first
    |have e0:(kd==0)=true:=by simp[hk]
    |(have e0:(kd==0)=false:=(by simp[hk]);have e1:(kd==1)=true:=(by simp[hk]))
   clear hk;unfold ndA at RW⊢;go_enter func53,ntmps53;go_wp2_with fail;clear hW3 hA;go_region_held(fun W=>(W.cell? ⟨A,0,none⟩=some (Iq kd)∧W.cell? ⟨A,1,none⟩=some (Iq a0)∧W.cell? ⟨A,2,none⟩=some (Iq a1)∧W.cell? ⟨A,3,none⟩=some (Iq a2)∧W.cell? ⟨A,4,none⟩=some (Iq a3)∧W.cell? ⟨A,5,none⟩=some (Iq a4)∧W.cell? ⟨A,6,none⟩=some (Iq a5)∧W.cell? ⟨A,7,none⟩=some (Iq a6)∧W.cell? ⟨A,8,none⟩=some (Iq a7)∧W.cell? ⟨A,9,none⟩=some (Iq a8)∧W.cell? ⟨A,10,none⟩=some (Iq a9)∧W.cell? ⟨A,11,none⟩=some (Iq b0)∧W.cell? ⟨A,12,none⟩=some (Iq b1)∧W.cell? ⟨A,13,none⟩=some (.string tx)∧W.cell? ⟨A,14,none⟩=some (.slice p m c)∧W.cell? ⟨A,15,none⟩=some (Iq up))∧W.cell? ⟨A+1+1,0,none⟩=some (Iq x)∧W.cell? ⟨A+1+1,1,none⟩=some (Iq y)∧W.cell? ⟨A+1+1,2,none⟩=some (Iq w)∧W.cell? ⟨A+1+1,3,none⟩=some (Iq h)) (go_keep) (first|((first|go_at_call 84|go_at_call 86);refine Calls.mono (RW _ (by first|exact .inl rfl|exact .inr rfl)) ?_;rintro e u1 ⟨v1,rfl,HO⟩;obtain⟨⟨s0,s1,s2,s3,s4,s5,s6,s7,s8,s9,s10,s11,s12,s13,s14,s15⟩,e0,e1,e2,e3⟩:=HS u1 HO.g)|((first|go_at_call 83|go_at_call 85);refine Calls.mono (IN _ _ HO) ?_;rintro e u2 ⟨q,cq,rfl,HZ⟩;obtain⟨⟨t0,t1,t2,t3,t4,t5,t6,t7,t8,t9,t10,t11,t12,t13,t14,t15⟩,f0,f1,f2,f3⟩:=HS u2 (by obtain⟨_,_,_,_,_,_,_,_,_,hq,_⟩:=HZ.out;exact hq)));all_goals go_wp2;go_ret;exact HZ.base (grown_of_below HB3)
 by_cases k3:kd=3;·-- a box
  subst k3;obtain⟨i0,i1,i2,i3,hins⟩:∃i0 i1 i2 i3,insV x y w h (a6+a5)=rv i0 i1 i2 i3:=⟨_,_,_,_,rfl⟩;have HSP:Hid (KrSpec 3 a4 a5 a6 L ks Wd H x y w h of rm (fun _=>i0) (fun _=>i1) (fun _=>i2) (fun _=>i3)):=⟨nofun,nofun,fun _ j _=>hins,nofun,fun _ _ e=>absurd rfl e⟩;have FA:Hid (∀u,(u=W3∨u=W3.drew)->Calls prog 80 #[ndA 3 a0 a1 a2 a3 a4 a5 a6 a7 a8 a9 b0 b1 tx (.slice p m c) up] u fun e u'=>e=.returned (Iq (a6+a5))∧Hid (Below W3.heap.size W3 u')):=fun u hu=>by
   have hbu:Below W3.heap.size W3 u:=by
    rcases hu with rfl|rfl;·exact Below.refl _ _
    ·exact(Below.refl _ _).drew
   refine(frame_any 3 a0 a1 a2 a3 a4 a5 a6 a7 a8 a9 b0 b1 up tx p m c h5 h6 u).mono ?_;rintro e u' ⟨rfl,q⟩;exact⟨by unfold frmI;rw[if_pos rfl],hbu.trans (q.mono hbu.size)⟩
  have IS:Hid (∀u,Below W3.heap.size W3 u->Calls prog 87 #[.agg #[Iq x,Iq y,Iq w,Iq h],Iq (a6+a5)] u fun e u'=>e=.returned (.agg #[Iq i0,Iq i1,Iq i2,Iq i3])∧Hid (Below W3.heap.size W3 u')):=fun u hu=>by have:=inset_any x y w h (a6+a5) u;rw[hins]at this;refine this.mono ?_;rintro e u' ⟨rfl,q⟩;exact⟨rfl,hu.trans (q.below.mono hu.size)⟩
  have hAl2:A+1+1<W3.heap.size:=(Array.getElem?_eq_some_iff.1 hi3).1;have HFZ:Hid (∀u,Below W3.heap.size W3 u->∀j,u.frozen? ⟨A+1+1,j,none⟩=false):=fun u hu j=>frozen_of_row _ _ _ _ _ ((hu.block _ hAl2).trans hi3);have HNX:Hid (∀u,Below W3.heap.size W3 u->((((u.setCell ⟨A+1+1,0,none⟩ (Iq i0)).setCell ⟨A+1+1,1,none⟩ (Iq i1)).setCell ⟨A+1+1,2,none⟩ (Iq i2)).setCell ⟨A+1+1,3,none⟩ (Iq i3)).heap[A+1+1]?=some (.cells #[Iq i0,Iq i1,Iq i2,Iq i3] 56 (0,0))∧((((u.setCell ⟨A+1+1,0,none⟩ (Iq i0)).setCell ⟨A+1+1,1,none⟩ (Iq i1)).setCell ⟨A+1+1,2,none⟩ (Iq i2)).setCell ⟨A+1+1,3,none⟩ (Iq i3)).heap[A]?=some (.cells (ndC 3 a0 a1 a2 a3 a4 a5 a6 a7 a8 a9 b0 b1 tx (.slice p m c) up) 61 (0,0))∧Below U.heap.size U ((((u.setCell ⟨A+1+1,0,none⟩ (Iq i0)).setCell ⟨A+1+1,1,none⟩ (Iq i1)).setCell ⟨A+1+1,2,none⟩ (Iq i2)).setCell ⟨A+1+1,3,none⟩ (Iq i3))):=fun u hu=>by
   have hr4:R4 56 u (A+1+1) x y w h:=(hu.block _ hAl2).trans hi3;have hl:∀t,U.heap.size≤(⟨A+1+1,t,none⟩:Addr).block:=fun t=>by rw[hA];show A≤A+1+1;omega
   refine⟨hr4.set i0 i1 i2 i3,?_,((((HB3.trans (hu.mono HB3.size)).setCell (hl 0) _).setCell (hl 1) _).setCell (hl 2) _).setCell (hl 3) _⟩;have hne:A≠A+1+1:=by omega
   rw[Below.heap_setCell _ ⟨A+1+1,3,none⟩ _ _ hne,Below.heap_setCell _ ⟨A+1+1,2,none⟩ _ _ hne,Below.heap_setCell _ ⟨A+1+1,1,none⟩ _ _ hne,Below.heap_setCell _ ⟨A+1+1,0,none⟩ _ _ hne];exact(hu.block A (Array.getElem?_eq_some_iff.1 hn3).1).trans hn3
  unfold ndA at FA⊢;clear hn3 hp3 hi3 hM hins WR WC h01 HM3;go_enter func53,ntmps53;go_wp2_with fail;clear hW3 hA;go_region_with(first|(go_at_call 80;refine Calls.mono (FA _ (by first|exact .inl rfl|exact .inr rfl)) ?_;rintro e u1 ⟨rfl,HBu⟩;obtain⟨⟨s0,s1,s2,s3,s4,s5,s6,s7,s8,s9,s10,s11,s12,s13,s14,s15⟩,e0,e1,e2,e3⟩:=HS u1 (grown_of_below HBu))|(go_at_call 87;refine Calls.mono (IS _ HBu) ?_;rintro e u2 ⟨rfl,HBv⟩;obtain⟨⟨t0,t1,t2,t3,t4,t5,t6,t7,t8,t9,t10,t11,t12,t13,t14,t15⟩,f0,f1,f2,f3⟩:=HS u2 (grown_of_below HBv);have hfz:=HFZ u2 HBv));all_goals
   obtain⟨wc,hwc⟩:=nmd ((((u2.setCell ⟨A+1+1,0,none⟩ (Iq i0)).setCell ⟨A+1+1,1,none⟩ (Iq i1)).setCell ⟨A+1+1,2,none⟩ (Iq i2)).setCell ⟨A+1+1,3,none⟩ (Iq i3));have HCC:Hid (wc.heap[A+1+1]?=some (.cells #[Iq i0,Iq i1,Iq i2,Iq i3] 56 (0,0))∧wc.heap[A]?=some (.cells (ndC 3 a0 a1 a2 a3 a4 a5 a6 a7 a8 a9 b0 b1 tx (.slice p m c) up) 61 (0,0))∧Below U.heap.size U wc):=by rw[<-hwc];exact HNX u2 HBv
   have g0:wc.cell? ⟨A+1+1,0,none⟩=some (Iq i0):=by rw[Lib.cell_of_heap HCC.1];rfl
   have g1:wc.cell? ⟨A+1+1,1,none⟩=some (Iq i1):=by rw[Lib.cell_of_heap HCC.1];rfl
   have g2:wc.cell? ⟨A+1+1,2,none⟩=some (Iq i2):=by rw[Lib.cell_of_heap HCC.1];rfl
   have g3:wc.cell? ⟨A+1+1,3,none⟩=some (Iq i3):=by rw[Lib.cell_of_heap HCC.1];rfl
   have g14:wc.cell? ⟨A,14,none⟩=some (.slice p m c):=by rw[Lib.cell_of_heap HCC.2.1];rfl
   have hAl3:A<wc.heap.size:=(Array.getElem?_eq_some_iff.1 HCC.2.1).1;have hne:¬A=wc.heap.size:=by omega
   rw[hwc];clear hwc z0 z1 z2 z3 z4 z5 z6 z7 z8 z9 z10 z11 z12 z13 z14 z15 y0 y1 y2 y3 HS FA IS HFZ HNX s0 s1 s2 s3 s4 s5 s6 s7 s8 s9 s10 s11 s12 s13 s14 s15 e0 e1 e2 e3 t0 t1 t2 t3 t4 t5 t6 t7 t8 t9 t10 t11 t12 t13 t14 t15 f0 f1 f2 f3 hfz;go_wp2_with(go_at_call 88;refine Calls.mono (RP _ _ _ _ _ HCC.2.2 HSP) ?_;rintro e u3 ⟨q,cq,rfl,HZ⟩);go_ret;exact HZ
 by_cases k4:kd=4;·-- a scroll
  subst k4;have HSP:Hid (KrSpec 4 a4 a5 a6 L ks Wd H x y w h of rm (fun _=>x) (fun _=>y-of) (fun _=>w) (fun _=>h+rm)):=⟨nofun,nofun,nofun,fun _ j _=>⟨rfl,rfl,rfl,rfl⟩,fun _ _ _ e=>absurd rfl e⟩;have n1:¬A+1+1=A:=by omega
  have n2:¬A+1+1=A+1:=by omega
  have n3:¬A=A+1+1:=by omega
  have n4:¬A+1=A+1+1:=by omega
  have hfz:∀j,W3.frozen? ⟨A+1+1,j,none⟩=false:=fun j=>frozen_of_row _ _ _ _ _ hi3;have HB4:Hid (Below U.heap.size U ((W3.setCell ⟨A+1+1,1,none⟩ (Iq (y-of))).setCell ⟨A+1+1,3,none⟩ (Iq (h+rm)))):=(HB3.setCell (p:=⟨A+1+1,1,none⟩) (by rw[hA];show A≤A+1+1;omega) _).setCell (p:=⟨A+1+1,3,none⟩) (by rw[hA];show A≤A+1+1;omega) _;obtain⟨W4,hW4⟩:=nmd ((W3.setCell ⟨A+1+1,1,none⟩ (Iq (y-of))).setCell ⟨A+1+1,3,none⟩ (Iq (h+rm)));have hsz:W4.heap.size=W3.heap.size:=by rw[<-hW4];simp
  have RP4:Hid (Calls prog 88 #[Sq W3.heap.size 1 1,Iq (m:Int)] (((W3.setCell ⟨A+1+1,1,none⟩ (Iq (y-of))).setCell ⟨A+1+1,3,none⟩ (Iq (h+rm))).alloc (.cells #[Iq x,Iq (y-of),Iq w,Iq (h+rm)] 56)) fun e u'=>∃q cq,e=.returned (.slice q m cq)∧Hid (KrOut U u' r m H (nn+100*m) (KrSpec 4 a4 a5 a6 L ks Wd H x y w h of rm) (.returned (.slice q m cq)))):=by have:=RP W4 _ _ _ _ (by rw[<-hW4];exact HB4) HSP;rw[hsz]at this;rw[hW4];exact this
  unfold ndA;clear hn3 hp3 hi3 hM HS hW4 hsz WR WC h01 HM3 k3;go_enter func53,ntmps53;go_upto_region 3 with fail;clear hW3 hA;go_wp2_with(go_at_call 88;refine Calls.mono RP4 ?_;rintro e u2 ⟨q,cq,rfl,HZ⟩);go_ret;exact HZ
 have e0:(kd==0)=false:=by simp;omega
 have e1:(kd==1)=false:=by simp;omega
 have e3:(kd==3)=false:=by simp;omega
 have e4:(kd==4)=false:=by simp;omega
 have HSP:Hid (KrSpec kd a4 a5 a6 L ks Wd H x y w h of rm (fun _=>x) (fun _=>y) (fun _=>w) (fun _=>h)):=⟨by omega,by omega,by omega,by omega,fun _ _ _ _ j _=>⟨rfl,rfl,rfl,rfl⟩⟩;unfold ndA;clear hn3 hp3 hi3 hM HS WR WC HM3;go_enter func53,ntmps53;go_upto_region 3 with fail;clear hW3 hA;go_wp2_with(go_at_call 88;refine Calls.mono (RP _ _ _ _ _ HB3 HSP) ?_;rintro e u2 ⟨q,cq,rfl,HZ⟩);go_ret;exact HZ
end
end Go.Proofs.YtmbefonnkkhfgaaGreatDoor
