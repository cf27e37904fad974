import Derived.Test.YtnponhbgicbkcaaGreatDoorC48
import Derived.Deep.CutBlock
set_option linter.unusedVariables false
set_option maxRecDepth 100000
set_option maxHeartbeats 16000000
namespace Go.Proofs.YtnponhbgicbkcaaGreatDoor
section
open Go.RowKit Go.Sort
theorem zr3{U0 W:World}{r pb N n:Nat}{P:Nat->Nat->Int}{H:Nat->Int->Int}(h:Pw U0 W r pb N P H n)(hpb:U0.heap.size≤pb)(hne:pb≠r)(cc:Nat)(v:Nat->Int)(v0 v1 v2 v3 v4 v5 v6 v7 v8 v9:Int)(e0:v0=v 0)(e1:v1=v 1)(e2:v2=v 2)(e3:v3=v 3)(e4:v4=v 4)(e5:v5=v 5)(e6:v6=v 6)(e7:v7=v 7)(e8:v8=v 8)(e9:v9=v 9):Pw U0 ((((((((((W.setCell ⟨pb,cc*10,none⟩ (.int .i64 v0)).setCell ⟨pb,cc*10+1,none⟩ (.int .i64 v1)).setCell ⟨pb,cc*10+2,none⟩ (.int .i64 v2)).setCell ⟨pb,cc*10+3,none⟩ (.int .i64 v3)).setCell ⟨pb,cc*10+4,none⟩ (.int .i64 v4)).setCell ⟨pb,cc*10+5,none⟩ (.int .i64 v5)).setCell ⟨pb,cc*10+6,none⟩ (.int .i64 v6)).setCell ⟨pb,cc*10+7,none⟩ (.int .i64 v7)).setCell ⟨pb,cc*10+8,none⟩ (.int .i64 v8)).setCell ⟨pb,cc*10+9,none⟩ (.int .i64 v9)) r pb N (zj1 P cc v) H n:=by
 have hh:=(((((((((h.set hpb hne cc 0 (by omega) v0).set hpb hne cc 1 (by omega) v1).set hpb hne cc 2 (by omega) v2).set hpb hne cc 3 (by omega) v3).set hpb hne cc 4 (by omega) v4).set hpb hne cc 5 (by omega) v5).set hpb hne cc 6 (by omega) v6).set hpb hne cc 7 (by omega) v7).set hpb hne cc 8 (by omega) v8).set hpb hne cc 9 (by omega) v9
 refine⟨hh.g,hh.m,hh.row.congr fun q hq=>?_⟩
 unfold pcF zj1 z4q
 refine congrArg (Value.int .i64) ?_
 by_cases e:q / 10=cc
 ·rw[if_pos e]
  have:q % 10=0∨q % 10=1∨q % 10=2∨q % 10=3∨q % 10=4∨q % 10=5∨q % 10=6∨q % 10=7∨q % 10=8∨q % 10=9:=by omega
  rcases this with f|f|f|f|f|f|f|f|f|f <;> simp[e,f,e0,e1,e2,e3,e4,e5,e6,e7,e8,e9]
 ·rw[if_neg e]
  simp[e]
theorem zfa(w:World)(N:Nat)(T:TypeId):(w.alloc (.cells (madeCells #[.int .i64 0,.int .i64 0,.int .i64 0,.int .i64 0,.int .i64 0,.int .i64 0,.int .i64 0,.int .i64 0,.int .i64 0,.int .i64 0] (N*10)) T)).rowIs w.heap.size T (N*10) (pcF fun _ _=>0):=by
 have:=World.rowIs_alloc w (madeCells #[.int .i64 0,.int .i64 0,.int .i64 0,.int .i64 0,.int .i64 0,.int .i64 0,.int .i64 0,.int .i64 0,.int .i64 0,.int .i64 0] (N*10)) T (pcF fun _ _=>0) (fun i hi=>by
  rw[size_madeCells] at hi
  unfold pcF
  simp only[madeCells]
  have:i % 10=0∨i % 10=1∨i % 10=2∨i % 10=3∨i % 10=4∨i % 10=5∨i % 10=6∨i % 10=7∨i % 10=8∨i % 10=9:=by omega
  rcases this with e|e|e|e|e|e|e|e|e|e <;> simp[e,hi])
 rw[size_madeCells] at this
 exact this
theorem zu9:(Tryz.prog.info? 50).map (fun i=>(i.zero,i.size,i.bytes))=some (some (.agg #[.int .i64 0,.int .i64 0,.int .i64 0,.int .i64 0,.int .i64 0,.int .i64 0,.int .i64 0,.int .i64 0,.int .i64 0,.int .i64 0]),10,80):=by kernel_rfl
def zvg(U U':World)(r N:Nat)(L:List Nd)(Wd:Nat->Int)(H:Nat->Int->Int)(w h:Int)(idf off:Nat->Int)(sn:Nat)(e:Ending):Prop:=∃pb P,e=.returned (.slice (some ⟨pb,0,none⟩) N N)∧U'.rowIs pb 50 (N*10) (pcF P)∧PlTo L Wd H w h idf off sn P N∧U.grownBy U' (some r)∧U.heap.size≤pb
def p00(w h:Int)(t:Nat):Int:=if t=2∨t=6 then w else if t=3∨t=7 then h else 0
theorem zj0{s:ByteArray}{L:List Nd}{KV:Nat->Value}{Wd:Nat->Int}{H:Nat->Int->Int}(mb r g cap wb:Nat)(hT:Tree s L)(hS:Sz L Wd H)(w h:Int)(sp:Option Addr)(sn sc:Nat)(idf off:Nat->Int)(U:World)(hU:Hs U mb r g cap wb L KV Wd H 0)(hw:1≤w∧w≤400)(hh:1≤h∧h≤400)(hsc:Scr U sp sn idf off)(hsn:sn≤4611686018427387904)(hsp:∀a:Addr,sp=some a->a.block<U.heap.size) :
 Calls Tryz.prog 36 #[.pointer (some ⟨mb,0,none⟩),.int .i64 w,.int .i64 h,.slice sp sn sc] U fun e U'=>zvg U U' r L.length L Wd H w h idf off sn e:=by
 have hmix:Tryz.prog.follows .mixedOrders=true:=by kernel_rfl
 obtain⟨N,hN⟩:∃z,L.length=z:=⟨_,rfl⟩
 have hc:=hT.vl.cnt
 have hpos:=hT.pos
 have hN100:N≤100:=by omega
 obtain⟨i0,hi,hz0,hz1,hz2⟩:=info_parts zu9
 have hmk:∀W:World,(Instr.makeSlice 35 (.int .i64 (N:Int)) (.int .i64 (N:Int))).run Tryz.prog W=.ok (.slice (some ⟨W.heap.size,0,none⟩) N N) (W.alloc (.cells (madeCells #[.int .i64 0,.int .i64 0,.int .i64 0,.int .i64 0,.int .i64 0,.int .i64 0,.int .i64 0,.int .i64 0,.int .i64 0,.int .i64 0] (N*10)) 50)):=fun W=>by
  have:=run_make (P:=Tryz.prog) W 35 50 i0 _ Tryz.underlying35 hi hz0 .i64 .i64 N N (by omega) (Int.le_refl _) (by rw[hz2];omega) (by omega)
  rw[hz1,Int.toNat_natCast] at this
  exact this
 clear hi hz0 hz1 hz2
 obtain⟨A,hA⟩:∃z,U.heap.size=z:=⟨_,rfl⟩
 obtain⟨pb,hpb⟩:∃z,A+1=z:=⟨_,rfl⟩
 have hms:=hU.view.ms
 rw[hN] at hms
 have HMS:Hid (∀u,U.grownBy u (some r)->u.cell? ⟨mb,0,none⟩=some (.slice (some ⟨g,0,none⟩) N cap)):=fun u hu=>by
  have:=(hu.block mb hU.view.ml (fun e=>hU.view.mr (by injection e))).trans hms
  rw[Lib.cell_of_heap this];rfl
 have m0:=HMS.out U (z00 (Below.refl _ _))
 have hrl:=hU.memo.lt
 have hpr:pb≠r:=by omega
 have hpU:U.heap.size≤pb:=by omega
 have HU:Hid (Hs U mb r g cap wb L KV Wd H 0):=hU
 obtain⟨W2,hW2⟩:∃z,(U.alloc (.cells #[.int .i64 0,.int .i64 0,.int .i64 w,.int .i64 h] 48)).alloc (.cells (madeCells #[.int .i64 0,.int .i64 0,.int .i64 0,.int .i64 0,.int .i64 0,.int .i64 0,.int .i64 0,.int .i64 0,.int .i64 0,.int .i64 0] (N*10)) 50)=z:=⟨_,rfl⟩
 have HB2:Hid (Below U.heap.size U W2):=by rw[<-hW2];exact (((Gr.refl U).alloc _).alloc _).below
 have hs2:W2.heap[A]?=some (.cells #[.int .i64 0,.int .i64 0,.int .i64 w,.int .i64 h] 48 (0,0)):=by
  rw[<-hW2,<-hA,Below.heap_alloc _ _ _ (by rw[World.size_alloc];omega)];exact heap_alloc_new _ _
 have hr2:W2.rowIs pb 50 (N*10) (pcF fun _ _=>0):=by
  have:=zfa (U.alloc (.cells #[.int .i64 0,.int .i64 0,.int .i64 w,.int .i64 h] 48)) N 50
  rw[World.size_alloc,hA,hpb,hW2] at this
  exact this
 have HP2:Hid (Pw U W2 r pb N (fun _ _=>0) H 0):=⟨z00 HB2.out,hU.memo.grown_below HB2.out,hr2⟩
 have HP3:Hid (Pw U ((((((((((W2.setCell ⟨pb,0,none⟩ (.int .i64 0)).setCell ⟨pb,1,none⟩ (.int .i64 0)).setCell ⟨pb,2,none⟩ (.int .i64 w)).setCell ⟨pb,3,none⟩ (.int .i64 h)).setCell ⟨pb,4,none⟩ (.int .i64 0)).setCell ⟨pb,5,none⟩ (.int .i64 0)).setCell ⟨pb,6,none⟩ (.int .i64 w)).setCell ⟨pb,7,none⟩ (.int .i64 h)).setCell ⟨pb,8,none⟩ (.int .i64 0)).setCell ⟨pb,9,none⟩ (.int .i64 0)) r pb N (zj1 (fun _ _=>0) 0 (p00 w h)) H 0):=zr3 HP2.out hpU hpr 0 (p00 w h) 0 0 w h 0 0 w h 0 0 rfl rfl rfl rfl rfl rfl rfl rfl rfl rfl
 have HPL:Hid (PlTo L Wd H w h idf off sn (zj1 (fun _ _=>0) 0 (p00 w h)) 0):=by
  have e0:∀i t,i≠0->zj1 (fun _ _=>0) 0 (p00 w h) i t=0:=fun i t hi=>if_neg hi
  refine⟨⟨rfl,rfl,rfl,rfl,rfl,rfl,rfl,rfl⟩,fun i _ hi=>by omega,fun i _ _=>?_,fun i _ hi=>by omega,fun i _=>?_⟩
  ·by_cases e:i=0
   ·subst e;exact⟨rfl,rfl⟩
   ·rw[e0 i 8 e,e0 i 9 e];exact⟨rfl,rfl⟩
  ·by_cases e:i=0
   ·subst e
    show _≤(0:Int)∧(0:Int)≤_∧_≤(0:Int)∧(0:Int)≤_∧0≤w∧w≤100000∧0≤h∧h≤100000
    omega
   ·rw[e0 i 0 e,e0 i 1 e,e0 i 2 e,e0 i 3 e];omega
 have c0:W2.cell? ⟨A,0,none⟩=some (.int .i64 0):=by rw[Lib.cell_of_heap hs2];rfl
 have c1:W2.cell? ⟨A,1,none⟩=some (.int .i64 0):=by rw[Lib.cell_of_heap hs2];rfl
 have c2:W2.cell? ⟨A,2,none⟩=some (.int .i64 w):=by rw[Lib.cell_of_heap hs2];rfl
 have c3:W2.cell? ⟨A,3,none⟩=some (.int .i64 h):=by rw[Lib.cell_of_heap hs2];rfl
 have m2:=HMS.out W2 (z00 HB2.out)
 have hfr:∀j,W2.frozen? ⟨pb,j,none⟩=false:=fun j=>hr2.frozen j
 have d0:W2.cell? ⟨pb,0,none⟩=some (.int .i64 0):=hr2.cell (by omega)
 have d1:W2.cell? ⟨pb,1,none⟩=some (.int .i64 0):=hr2.cell (by omega)
 have d2:W2.cell? ⟨pb,2,none⟩=some (.int .i64 0):=hr2.cell (by omega)
 have d3:W2.cell? ⟨pb,3,none⟩=some (.int .i64 0):=hr2.cell (by omega)
 have d4:W2.cell? ⟨pb,4,none⟩=some (.int .i64 0):=hr2.cell (by omega)
 have d5:W2.cell? ⟨pb,5,none⟩=some (.int .i64 0):=hr2.cell (by omega)
 have d6:W2.cell? ⟨pb,6,none⟩=some (.int .i64 0):=hr2.cell (by omega)
 have d7:W2.cell? ⟨pb,7,none⟩=some (.int .i64 0):=hr2.cell (by omega)
 have d8:W2.cell? ⟨pb,8,none⟩=some (.int .i64 0):=hr2.cell (by omega)
 have d9:W2.cell? ⟨pb,9,none⟩=some (.int .i64 0):=hr2.cell (by omega)
 have hpl:pb<W2.heap.size:=hr2.lt
 have hposI:(0:Int)<(N:Int):=by omega
 have hneA:¬pb=mb:=by have:=HU.out.view.ml;omega
 have hneB:¬mb=pb:=by omega
 have hneC:¬A=pb:=by omega
 have hneE:¬mb=A:=by have:=HU.out.view.ml;omega
 have hneF:mb<A:=by have:=HU.out.view.ml;omega
 have hneD:¬pb=A:=by omega
 have HUA:Hid (U.heap.size=A∧A+1=pb):=⟨hA,hpb⟩
 clear hms hs2 hr2 hU
 go_enter Tryz.func36,Tryz.ntmps36
 go_upto_region 3 with fail
 clear hW2 hA hmk hpb m0
 go_wp2_with fail
 go_loopw [34] (fun iv wr=>∃ (i:Nat) (P:Nat->Nat->Int),i≤N∧iv=.int .i64 (i:Int)∧Hid (Pw U wr r pb N P H (20000*i))∧Hid (PlTo L Wd H w h idf off sn P i)) (fun iv _=>N - (intOf iv).toNat)
 case atStart=>exact⟨0,_,Nat.zero_le _,rfl,HP3,HPL⟩
 case round =>
  obtain⟨i,P,hiN,rfl,HP,HL⟩:=hrel
  clear c0 c1 c2 c3 m2 hfr d0 d1 d2 d3 d4 d5 d6 d7 d8 d9 hpl HP2 HP3 HPL
  by_cases hlt:i<N
  ·have hlt':(i:Int)<(N:Int):=by omega
   have hiL:i<L.length:=by omega
   have hHs:∀u n,U.grownBy u (some r)->Memo u r H n->Hs u mb r g cap wb L KV Wd H n:=fun u n hg hm=>HU.out.grown hg hm
   obtain⟨p,c,hkv,hki⟩:=HU.out.view.kid i hiL
   have hcells:=z7s (HU.out.view.len i hiL) (KV i)
   have hnd:=HU.out.view.nd i hiL
   rw[hcells,hkv] at hnd
   have hgl:=HU.out.view.gl
   have hgr:=HU.out.view.gr
   have hbd:=HL.out.bd i hiL
   have hbN:((i:Int)+1)*100000000≤10000000000:=by omega
   have hnoi:=HL.out.no i hiL (.inl (Nat.le_refl _))
   have hkl:(nth L i).kids.length≤100:=hT.kids_le hiL
   have hmi:=HP.out
   -- kidRects of this node,whatever its place is
   have KR:Hid (∀u n (of rm c0 c1 c2 c3:Int),U.grownBy u (some r)->Memo u r H n->n≤10000000->(0≤of∧of≤100000)->(0≤rm∧rm≤100000)->Calls Tryz.prog 65 #[.pointer (some ⟨mb,0,none⟩),ndA (nth L i).kind (atN (nth L i) 0) (atN (nth L i) 1) (atN (nth L i) 2) (atN (nth L i) 3) (atN (nth L i) 4) (atN (nth L i) 5) (atN (nth L i) 6) (atN (nth L i) 7) (atN (nth L i) 8) (atN (nth L i) 9) (atN (nth L i) 10) (atN (nth L i) 11) ⟨(nth L i).text.toArray⟩ (.slice p (nth L i).kids.length c) (nth L i).up,.agg #[.int .i64 (P i 0),.int .i64 (P i 1),.int .i64 (P i 2),.int .i64 (P i 3),.int .i64 c0,.int .i64 c1,.int .i64 c2,.int .i64 c3,.int .i64 of,.int .i64 rm]] u fun e u'=>z3t u u' r (nth L i).kids.length H (n+10000) (z0x (nth L i).kind (atN (nth L i) 4) (atN (nth L i) 5) (atN (nth L i) 6) L (nth L i).kids Wd H (P i 0) (P i 1) (P i 2) (P i 3) of rm) e):=fun u n of rm c0 c1 c2 c3 hg hm hn hof hrm =>
    zdi mb r g cap wb n hT hS i hiL p c hkv (P i 0) (P i 1) (P i 2) (P i 3) c0 c1 c2 c3 of rm u (hHs u n hg hm) hn (by omega) (by omega) ⟨hbd.2.2.2.2.1,hbd.2.2.2.2.2.1⟩ ⟨hbd.2.2.2.2.2.2.1,hbd.2.2.2.2.2.2.2⟩ hof hrm
   have SCR:Hid ((nth L i).kind=4->∀u,Pw U u r pb N P H (20000*i)->Calls Tryz.prog 64 #[.pointer (some ⟨mb,0,none⟩),.pointer (some ⟨pb,i*10,none⟩),ndA 4 (atN (nth L i) 0) (atN (nth L i) 1) (atN (nth L i) 2) (atN (nth L i) 3) (atN (nth L i) 4) (atN (nth L i) 5) (atN (nth L i) 6) (atN (nth L i) 7) (atN (nth L i) 8) (atN (nth L i) 9) (atN (nth L i) 10) (atN (nth L i) 11) ⟨(nth L i).text.toArray⟩ (.slice p (nth L i).kids.length c) (nth L i).up,.slice sp sn sc] u fun e u'=>e=.returned (.tuple #[])∧Pw U u' r pb N (z4q (z4q P i 9 (z4r (H (kdn (nth L i).kids 0) (P i 2)) (P i 3))) i 8 (min (max 0 (offI (atN (nth L i) 0) idf off sn)) (z4r (H (kdn (nth L i).kids 0) (P i 2)) (P i 3)))) H (20000*i+100)∧Hid (∀b,b<u.heap.size->b≠r->b≠pb->u'.heap[b]?=u.heap[b]?)):=fun h4 u hu=>by
    have hk1:(nth L i).kids.length=1:=by
     rcases hT.kidok i hiL with q|⟨_,_,q⟩|⟨q,_⟩
     ·omega
     ·exact q
     ·omega
    have hkd:=z4m hT hiL (j:=0) (by omega)
    refine zja mb r pb N i (kdn (nth L i).kids 0) (20000*i) P H (atN (nth L i) 0) (atN (nth L i) 1) (atN (nth L i) 2) (atN (nth L i) 3) (atN (nth L i) 4) (atN (nth L i) 5) (atN (nth L i) 6) (atN (nth L i) 7) (atN (nth L i) 8) (atN (nth L i) 9) (atN (nth L i) 10) (atN (nth L i) 11) (nth L i).up ⟨(nth L i).text.toArray⟩ p (nth L i).kids.length c sp sn sc idf off U u hu hpU hpr hlt (by omega) (by omega) ?_ (hS.hb _ _ hkd.2) ⟨hbd.2.2.2.2.2.2.1,hbd.2.2.2.2.2.2.2⟩ (fun v hv=>zav mb r g cap wb hT hS _ _ _ v hkd.2 hbd.2.2.2.2.1 hbd.2.2.2.2.2.1 (hHs v _ hv.g hv.m) (by omega)) (fun v P' n' hv=>?_)
    ·obtain⟨b,o,e,q1,q2,q3⟩:=hki.resolve_left (by omega)
     exact⟨b,o,e,q1,q2,by have:=q3 0 (by omega);exact this⟩
    ·refine (zit (atN (nth L i) 0) sp sn sc idf off v ((hsc.kept HU.out.memo hv.g)) hsn (fun a e=>Nat.lt_of_lt_of_le (hsp a e) hv.g.size)).mono ?_
     rintro e v' ⟨rfl,q⟩
     exact⟨rfl,q⟩
   have HKI:Hid (∀j,j<(nth L i).kids.length->i<kdn (nth L i).kids j∧kdn (nth L i).kids j<N):=fun j hj=>by have:=z4m hT hiL hj;omega
   have HKP:Hid ((nth L i).kind=4->0<(nth L i).kids.length):=fun h4=>by
    rcases hT.kidok i hiL with q|⟨_,_,q⟩|⟨q,_⟩ <;> omega
   have HKB:Hid ((nth L i).kids.length=0∨∃b o,p=some ⟨b,o,none⟩∧b<U.heap.size∧b≠r∧∀j,j<(nth L i).kids.length->U.cell? ⟨b,o+j,none⟩=some (.int .i64 (kdn (nth L i).kids j:Int))):=hki
   have HSTEP:Hid (∀P1 R0 R1 R2 R3,(∀q t,¬(q=i∧(t=8∨t=9))->P1 q t=P q t)->((nth L i).kind=4->P1 i 9=z4r (H (kdn (nth L i).kids 0) (P i 2)) (P i 3)∧P1 i 8=min (max 0 (offI (atN (nth L i) 0) idf off sn)) (P1 i 9))->((nth L i).kind≠4->P1 i 8=0∧P1 i 9=0)->z0x (nth L i).kind (atN (nth L i) 4) (atN (nth L i) 5) (atN (nth L i) 6) L (nth L i).kids Wd H (P1 i 0) (P1 i 1) (P1 i 2) (P1 i 3) (P1 i 8) (P1 i 9) R0 R1 R2 R3->PlTo L Wd H w h idf off sn (plK P1 i (nth L i).kids R0 R1 R2 R3 (nth L i).kids.length) (i+1)):=fun P1 R0 R1 R2 R3 q1 q2 q3 q4=>HL.out.step hT hS hiL q1 q2 q3 q4
   generalize hkn:(nth L i).kind=kn at hnd KR SCR HSTEP HKP
   generalize (nth L i).kids=ks at hnd KR SCR HSTEP HKI HKB HKP hkl
   generalize (nth L i).up=up at hnd KR SCR
   generalize (nth L i).text.toArray=txa at hnd KR SCR
   generalize atN (nth L i) 0=a0 at hnd KR SCR HSTEP
   generalize atN (nth L i) 1=a1 at hnd KR SCR HSTEP
   generalize atN (nth L i) 2=a2 at hnd KR SCR HSTEP
   generalize atN (nth L i) 3=a3 at hnd KR SCR HSTEP
   generalize atN (nth L i) 4=a4 at hnd KR SCR HSTEP
   generalize atN (nth L i) 5=a5 at hnd KR SCR HSTEP
   generalize atN (nth L i) 6=a6 at hnd KR SCR HSTEP
   generalize atN (nth L i) 7=a7 at hnd KR SCR HSTEP
   generalize atN (nth L i) 8=a8 at hnd KR SCR HSTEP
   generalize atN (nth L i) 9=a9 at hnd KR SCR HSTEP
   generalize atN (nth L i) 10=b0 at hnd KR SCR HSTEP
   generalize atN (nth L i) 11=b1 at hnd KR SCR HSTEP
   obtain⟨tx,htx⟩:∃z:ByteArray,⟨txa⟩=z:=⟨_,rfl⟩
   rw[htx] at hnd KR SCR
   obtain⟨m,hm⟩:∃z,ks.length=z:=⟨_,rfl⟩
   rw[hm] at hnd KR SCR HSTEP HKI HKB HKP hkl
   obtain⟨kd,hkd⟩:∃z:Int,(kn:Int)=z:=⟨_,rfl⟩
   rw[hkd] at hnd KR HSTEP
   have HQ:Hid (∀u,U.grownBy u (some r)->∀ (t:Nat) x,[.int .i64 kd,.int .i64 a0,.int .i64 a1,.int .i64 a2,.int .i64 a3,.int .i64 a4,.int .i64 a5,.int .i64 a6,.int .i64 a7,.int .i64 a8,.int .i64 a9,.int .i64 b0,.int .i64 b1,.string tx,.slice p m c,.int .i64 up][t]?=some x->u.cell? ⟨g,i*16+t,none⟩=some x):=fun u hu t x ht=>(World.cell?_of_block (a:=⟨g,i*16+t,none⟩) (hu.block g hgl (fun e=>hgr (by injection e)))).trans (hnd t x ht)
   have q0:wr.cell? ⟨g,i*16,none⟩=some (.int .i64 kd):=HQ.out wr HP.out.g 0 _ rfl
   have q1:wr.cell? ⟨g,i*16+1,none⟩=some (.int .i64 a0):=HQ.out wr HP.out.g 1 _ rfl
   have q2:wr.cell? ⟨g,i*16+2,none⟩=some (.int .i64 a1):=HQ.out wr HP.out.g 2 _ rfl
   have q3:wr.cell? ⟨g,i*16+3,none⟩=some (.int .i64 a2):=HQ.out wr HP.out.g 3 _ rfl
   have q4:wr.cell? ⟨g,i*16+4,none⟩=some (.int .i64 a3):=HQ.out wr HP.out.g 4 _ rfl
   have q5:wr.cell? ⟨g,i*16+5,none⟩=some (.int .i64 a4):=HQ.out wr HP.out.g 5 _ rfl
   have q6:wr.cell? ⟨g,i*16+6,none⟩=some (.int .i64 a5):=HQ.out wr HP.out.g 6 _ rfl
   have q7:wr.cell? ⟨g,i*16+7,none⟩=some (.int .i64 a6):=HQ.out wr HP.out.g 7 _ rfl
   have q8:wr.cell? ⟨g,i*16+8,none⟩=some (.int .i64 a7):=HQ.out wr HP.out.g 8 _ rfl
   have q9:wr.cell? ⟨g,i*16+9,none⟩=some (.int .i64 a8):=HQ.out wr HP.out.g 9 _ rfl
   have q10:wr.cell? ⟨g,i*16+10,none⟩=some (.int .i64 a9):=HQ.out wr HP.out.g 10 _ rfl
   have q11:wr.cell? ⟨g,i*16+11,none⟩=some (.int .i64 b0):=HQ.out wr HP.out.g 11 _ rfl
   have q12:wr.cell? ⟨g,i*16+12,none⟩=some (.int .i64 b1):=HQ.out wr HP.out.g 12 _ rfl
   have q13:wr.cell? ⟨g,i*16+13,none⟩=some (.string tx):=HQ.out wr HP.out.g 13 _ rfl
   have q14:wr.cell? ⟨g,i*16+14,none⟩=some (.slice p m c):=HQ.out wr HP.out.g 14 _ rfl
   have q15:wr.cell? ⟨g,i*16+15,none⟩=some (.int .i64 up):=HQ.out wr HP.out.g 15 _ rfl
   obtain⟨W1,hW1⟩:∃z,wr.alloc (.cells #[.int .i64 kd,.int .i64 a0,.int .i64 a1,.int .i64 a2,.int .i64 a3,.int .i64 a4,.int .i64 a5,.int .i64 a6,.int .i64 a7,.int .i64 a8,.int .i64 a9,.int .i64 b0,.int .i64 b1,.string tx,.slice p m c,.int .i64 up] 101)=z:=⟨_,rfl⟩
   obtain⟨An,hAn⟩:∃z,wr.heap.size=z:=⟨_,rfl⟩
   have hat:W1.heap[An]?=some (.cells #[.int .i64 kd,.int .i64 a0,.int .i64 a1,.int .i64 a2,.int .i64 a3,.int .i64 a4,.int .i64 a5,.int .i64 a6,.int .i64 a7,.int .i64 a8,.int .i64 a9,.int .i64 b0,.int .i64 b1,.string tx,.slice p m c,.int .i64 up] 101 (0,0)):=by rw[<-hW1,<-hAn];exact heap_alloc_new _ _
   have HB1:Hid (Below wr.heap.size wr W1):=by rw[<-hW1];exact ((Gr.refl wr).alloc _).below
   have HP1:Hid (Pw U W1 r pb N P H (20000*i)):=HP.out.below HB1.out
   have hAr:An≠r:=by have:=HP.out.m.lt;omega
   have hpA:pb<An:=by rw[<-hAn];exact HP.out.row.lt
   have HNC:Hid (∀u:World,u.heap[An]?=some (.cells #[.int .i64 kd,.int .i64 a0,.int .i64 a1,.int .i64 a2,.int .i64 a3,.int .i64 a4,.int .i64 a5,.int .i64 a6,.int .i64 a7,.int .i64 a8,.int .i64 a9,.int .i64 b0,.int .i64 b1,.string tx,.slice p m c,.int .i64 up] 101 (0,0))->u.cell? ⟨An,0,none⟩=some (.int .i64 kd)∧u.cell? ⟨An,1,none⟩=some (.int .i64 a0)∧u.cell? ⟨An,2,none⟩=some (.int .i64 a1)∧u.cell? ⟨An,3,none⟩=some (.int .i64 a2)∧u.cell? ⟨An,4,none⟩=some (.int .i64 a3)∧u.cell? ⟨An,5,none⟩=some (.int .i64 a4)∧u.cell? ⟨An,6,none⟩=some (.int .i64 a5)∧u.cell? ⟨An,7,none⟩=some (.int .i64 a6)∧u.cell? ⟨An,8,none⟩=some (.int .i64 a7)∧u.cell? ⟨An,9,none⟩=some (.int .i64 a8)∧u.cell? ⟨An,10,none⟩=some (.int .i64 a9)∧u.cell? ⟨An,11,none⟩=some (.int .i64 b0)∧u.cell? ⟨An,12,none⟩=some (.int .i64 b1)∧u.cell? ⟨An,13,none⟩=some (.string tx)∧u.cell? ⟨An,14,none⟩=some (.slice p m c)∧u.cell? ⟨An,15,none⟩=some (.int .i64 up)):=fun u hu=>by
    refine⟨?_,?_,?_,?_,?_,?_,?_,?_,?_,?_,?_,?_,?_,?_,?_,?_⟩ <;> (rw[Lib.cell_of_heap hu];rfl)
   obtain⟨z0,z1,z2,z3,z4,z5,z6,z7,z8,z9,z10,z11,z12,z13,z14,z15⟩:=HNC.out W1 hat
   have HAT:Hid (W1.heap[An]?=some (.cells #[.int .i64 kd,.int .i64 a0,.int .i64 a1,.int .i64 a2,.int .i64 a3,.int .i64 a4,.int .i64 a5,.int .i64 a6,.int .i64 a7,.int .i64 a8,.int .i64 a9,.int .i64 b0,.int .i64 b1,.string tx,.slice p m c,.int .i64 up] 101 (0,0))):=hat
   have HKN:Hid ((nth L i).kind=kn∧(kn:Int)=kd):=⟨hkn,hkd⟩
   have HBD:Hid (-(((i:Int)+1)*100000000)≤P i 0∧P i 0≤((i:Int)+1)*100000000 ∧ -(((i:Int)+1)*100000000)≤P i 1∧P i 1≤((i:Int)+1)*100000000∧0≤P i 2∧P i 2≤100000∧0≤P i 3∧P i 3≤100000):=hbd
   have HNO:Hid (P i 8=0∧P i 9=0):=hnoi
   have HN1:Hid (N≤100∧L.length=N):=⟨hN100,hN⟩
   have HMK:Hid (ks.length=m):=hm
   clear hat hnd hcells hkv hki hgl hgr hHs hmi htx hkn hkd hbd hnoi hbN hm
   go_upto_if 41 with fail
   go_cut [48] from 42 to 47 (fun _ wx=>∃P1,Hid (Pw U wx r pb N P1 H (20000*i+100))∧Hid (∀q t,¬(q=i∧(t=8∨t=9))->P1 q t=P q t)∧Hid ((kn=4->P1 i 9=z4r (H (kdn ks 0) (P i 2)) (P i 3)∧P1 i 8=min (max 0 (offI a0 idf off sn)) (P1 i 9))∧(kn≠4->P1 i 8=0∧P1 i 9=0))∧Hid (wx.heap[An]?=some (.cells #[.int .i64 kd,.int .i64 a0,.int .i64 a1,.int .i64 a2,.int .i64 a3,.int .i64 a4,.int .i64 a5,.int .i64 a6,.int .i64 a7,.int .i64 a8,.int .i64 a9,.int .i64 b0,.int .i64 b1,.string tx,.slice p m c,.int .i64 up] 101 (0,0))))
   case first =>
    by_cases h4:kn=4
    ·have hk4:kd=4:=by have:=HKN.out.2;omega
     subst hk4
     have SC1:Hid (∀u,(u=W1∨u=W1.drew)->Calls Tryz.prog 64 #[.pointer (some ⟨mb,0,none⟩),.pointer (some ⟨pb,i*10,none⟩),ndA 4 a0 a1 a2 a3 a4 a5 a6 a7 a8 a9 b0 b1 tx (.slice p m c) up,.slice sp sn sc] u fun e u'=>e=.returned (.tuple #[])∧u'.heap[An]?=some (.cells #[.int .i64 4,.int .i64 a0,.int .i64 a1,.int .i64 a2,.int .i64 a3,.int .i64 a4,.int .i64 a5,.int .i64 a6,.int .i64 a7,.int .i64 a8,.int .i64 a9,.int .i64 b0,.int .i64 b1,.string tx,.slice p m c,.int .i64 up] 101 (0,0))∧Hid (Pw U u' r pb N (z4q (z4q P i 9 (z4r (H (kdn ks 0) (P i 2)) (P i 3))) i 8 (min (max 0 (offI a0 idf off sn)) (z4r (H (kdn ks 0) (P i 2)) (P i 3)))) H (20000*i+100))):=fun u hu=>by
      have hbu:Below W1.heap.size W1 u:=by
       rcases hu with rfl|rfl
       ·exact Below.refl _ _
       ·exact (Below.refl _ _).drew
      refine (SCR.out h4 u (HP1.out.below hbu)).mono ?_
      rintro e u' ⟨rfl,q1,q2⟩
      have hal:=(Array.getElem?_eq_some_iff.1 HAT.out).1
      exact⟨rfl,(q2.out An (Nat.lt_of_lt_of_le hal hbu.size) hAr (by omega)).trans ((hbu.block An hal).trans HAT.out),q1⟩
     have HFIN:Hid (∀wx,wx.heap[An]?=some (.cells #[.int .i64 4,.int .i64 a0,.int .i64 a1,.int .i64 a2,.int .i64 a3,.int .i64 a4,.int .i64 a5,.int .i64 a6,.int .i64 a7,.int .i64 a8,.int .i64 a9,.int .i64 b0,.int .i64 b1,.string tx,.slice p m c,.int .i64 up] 101 (0,0))->Pw U wx r pb N (z4q (z4q P i 9 (z4r (H (kdn ks 0) (P i 2)) (P i 3))) i 8 (min (max 0 (offI a0 idf off sn)) (z4r (H (kdn ks 0) (P i 2)) (P i 3)))) H (20000*i+100)->∃P1,Hid (Pw U wx r pb N P1 H (20000*i+100))∧Hid (∀q t,¬(q=i∧(t=8∨t=9))->P1 q t=P q t)∧Hid ((kn=4->P1 i 9=z4r (H (kdn ks 0) (P i 2)) (P i 3)∧P1 i 8=min (max 0 (offI a0 idf off sn)) (P1 i 9))∧(kn≠4->P1 i 8=0∧P1 i 9=0))∧Hid (wx.heap[An]?=some (.cells #[.int .i64 4,.int .i64 a0,.int .i64 a1,.int .i64 a2,.int .i64 a3,.int .i64 a4,.int .i64 a5,.int .i64 a6,.int .i64 a7,.int .i64 a8,.int .i64 a9,.int .i64 b0,.int .i64 b1,.string tx,.slice p m c,.int .i64 up] 101 (0,0)))):=fun wx hn hp=>by
      refine⟨_,hp,fun q t hq=>?_,⟨fun _=>?_,fun e=>absurd h4 e⟩,hn⟩
      ·unfold z4q
       rw[if_neg (fun e=>hq ⟨e.1,.inl e.2⟩),if_neg (fun e=>hq ⟨e.1,.inr e.2⟩)]
      ·unfold z4q
       simp
     unfold ndA at SC1
     clear hW1 hAn
     go_wp2_with fail
     go_region_held (fun W=>W.cell? ⟨An,0,none⟩=some (.int .i64 4)∧W.cell? ⟨An,1,none⟩=some (.int .i64 a0)∧W.cell? ⟨An,2,none⟩=some (.int .i64 a1)∧W.cell? ⟨An,3,none⟩=some (.int .i64 a2)∧W.cell? ⟨An,4,none⟩=some (.int .i64 a3)∧W.cell? ⟨An,5,none⟩=some (.int .i64 a4)∧W.cell? ⟨An,6,none⟩=some (.int .i64 a5)∧W.cell? ⟨An,7,none⟩=some (.int .i64 a6)∧W.cell? ⟨An,8,none⟩=some (.int .i64 a7)∧W.cell? ⟨An,9,none⟩=some (.int .i64 a8)∧W.cell? ⟨An,10,none⟩=some (.int .i64 a9)∧W.cell? ⟨An,11,none⟩=some (.int .i64 b0)∧W.cell? ⟨An,12,none⟩=some (.int .i64 b1)∧W.cell? ⟨An,13,none⟩=some (.string tx)∧W.cell? ⟨An,14,none⟩=some (.slice p m c)∧W.cell? ⟨An,15,none⟩=some (.int .i64 up)) (go_keep) (first|(go_at_call 64;refine Calls.mono (SC1.out _ (by first|exact .inl rfl|exact .inr rfl)) ?_;rintro e u1 ⟨rfl,hu1,HPu⟩;obtain⟨s0,s1,s2,s3,s4,s5,s6,s7,s8,s9,s10,s11,s12,s13,s14,s15⟩:=HNC.out u1 hu1;have HUN:Hid (u1.heap[An]?=some (.cells #[.int .i64 4,.int .i64 a0,.int .i64 a1,.int .i64 a2,.int .i64 a3,.int .i64 a4,.int .i64 a5,.int .i64 a6,.int .i64 a7,.int .i64 a8,.int .i64 a9,.int .i64 b0,.int .i64 b1,.string tx,.slice p m c,.int .i64 up] 101 (0,0))):=hu1;clear hu1))
     all_goals go_wp2_with fail
     all_goals go_meet
     all_goals exact HFIN.out _ HUN.out HPu.out
    ·have e4:(kd==4)=false:=by have:=HKN.out.2;simp;omega
     go_wp2_with fail
     go_meet
     exact⟨P,HP1.out.mono (by omega),fun _ _ _=>rfl,⟨fun e=>absurd e h4,fun _=>HNO.out⟩,HAT⟩
   case rest =>
    obtain⟨P1,HP1c,HPE,HPK,HNc⟩:=hcut
    clear z0 z1 z2 z3 z4 z5 z6 z7 z8 z9 z10 z11 z12 z13 z14 z15 hW1 hAn
    obtain⟨z0,z1,z2,z3,z4,z5,z6,z7,z8,z9,z10,z11,z12,z13,z14,z15⟩:=HNC.out wc HNc.out
    obtain⟨p0,hp0⟩:∃z,P1 i 0=z:=⟨_,rfl⟩
    obtain⟨p1,hp1⟩:∃z,P1 i 1=z:=⟨_,rfl⟩
    obtain⟨p2,hp2⟩:∃z,P1 i 2=z:=⟨_,rfl⟩
    obtain⟨p3,hp3⟩:∃z,P1 i 3=z:=⟨_,rfl⟩
    obtain⟨p4,hp4⟩:∃z,P1 i 4=z:=⟨_,rfl⟩
    obtain⟨p5,hp5⟩:∃z,P1 i 5=z:=⟨_,rfl⟩
    obtain⟨p6,hp6⟩:∃z,P1 i 6=z:=⟨_,rfl⟩
    obtain⟨p7,hp7⟩:∃z,P1 i 7=z:=⟨_,rfl⟩
    obtain⟨p8,hp8⟩:∃z,P1 i 8=z:=⟨_,rfl⟩
    obtain⟨p9,hp9⟩:∃z,P1 i 9=z:=⟨_,rfl⟩
    have HPC:Hid (∀u Q,U.grownBy u (some r)->u.rowIs pb 50 (N*10) (pcF Q)->(∀t,t<10->Q i t=P1 i t)->u.cell? ⟨pb,i*10,none⟩=some (.int .i64 p0)∧u.cell? ⟨pb,i*10+1,none⟩=some (.int .i64 p1)∧u.cell? ⟨pb,i*10+2,none⟩=some (.int .i64 p2)∧u.cell? ⟨pb,i*10+3,none⟩=some (.int .i64 p3)∧u.cell? ⟨pb,i*10+4,none⟩=some (.int .i64 p4)∧u.cell? ⟨pb,i*10+5,none⟩=some (.int .i64 p5)∧u.cell? ⟨pb,i*10+6,none⟩=some (.int .i64 p6)∧u.cell? ⟨pb,i*10+7,none⟩=some (.int .i64 p7)∧u.cell? ⟨pb,i*10+8,none⟩=some (.int .i64 p8)∧u.cell? ⟨pb,i*10+9,none⟩=some (.int .i64 p9)):=fun u Q hg hr hq=>by
     refine⟨?_,?_,?_,?_,?_,?_,?_,?_,?_,?_⟩
     ·rw[<-hp0,<-hq 0 (by omega)];exact z0t (t:=0) hr hlt (by omega)
     ·rw[<-hp1,<-hq 1 (by omega)];exact z0t hr hlt (by omega)
     ·rw[<-hp2,<-hq 2 (by omega)];exact z0t hr hlt (by omega)
     ·rw[<-hp3,<-hq 3 (by omega)];exact z0t hr hlt (by omega)
     ·rw[<-hp4,<-hq 4 (by omega)];exact z0t hr hlt (by omega)
     ·rw[<-hp5,<-hq 5 (by omega)];exact z0t hr hlt (by omega)
     ·rw[<-hp6,<-hq 6 (by omega)];exact z0t hr hlt (by omega)
     ·rw[<-hp7,<-hq 7 (by omega)];exact z0t hr hlt (by omega)
     ·rw[<-hp8,<-hq 8 (by omega)];exact z0t hr hlt (by omega)
     ·rw[<-hp9,<-hq 9 (by omega)];exact z0t hr hlt (by omega)
    have HE:Hid (P i 0=p0∧P i 1=p1∧P i 2=p2∧P i 3=p3∧(0≤p8∧p8≤100000)∧0≤p9∧p9≤100000):=by
     refine⟨by rw[<-HPE.out i 0 (by omega)];exact hp0,by rw[<-HPE.out i 1 (by omega)];exact hp1,by rw[<-HPE.out i 2 (by omega)];exact hp2,by rw[<-HPE.out i 3 (by omega)];exact hp3,?_⟩
     by_cases h4:kn=4
     ·obtain⟨r1,r2⟩:=HPK.out.1 h4
      have hb3:=HBD.out
      have hkid0:kdn ks 0<L.length:=by
       rcases hT.kidok i hiL with q|⟨_,_,q⟩|⟨q,_⟩
       ·rw[HKN.out.1] at q;omega
       ·have h1:0<m:=HKP.out h4
        have:=HKI.out 0 h1
        omega
       ·rw[HKN.out.1] at q;omega
      have hh3:=hS.hb (kdn ks 0) (P i 2) hkid0
      unfold z4r at r1
      omega
     ·obtain⟨r1,r2⟩:=HPK.out.2 h4
      omega
    obtain⟨y0,y1,y2,y3,y4,y5,y6,y7,y8,y9⟩:=HPC.out wc P1 HP1c.out.g HP1c.out.row (fun _ _=>rfl)
    have KR1:Hid (∀u,(u=wc∨u=wc.drew)->Calls Tryz.prog 65 #[.pointer (some ⟨mb,0,none⟩),ndA kd a0 a1 a2 a3 a4 a5 a6 a7 a8 a9 b0 b1 tx (.slice p m c) up,.agg #[.int .i64 p0,.int .i64 p1,.int .i64 p2,.int .i64 p3,.int .i64 p4,.int .i64 p5,.int .i64 p6,.int .i64 p7,.int .i64 p8,.int .i64 p9]] u fun e u'=>∃q cq,e=.returned (.slice q m cq)∧u'.heap[An]?=some (.cells #[.int .i64 kd,.int .i64 a0,.int .i64 a1,.int .i64 a2,.int .i64 a3,.int .i64 a4,.int .i64 a5,.int .i64 a6,.int .i64 a7,.int .i64 a8,.int .i64 a9,.int .i64 b0,.int .i64 b1,.string tx,.slice p m c,.int .i64 up] 101 (0,0))∧(u'.cell? ⟨pb,i*10,none⟩=some (.int .i64 p0)∧u'.cell? ⟨pb,i*10+1,none⟩=some (.int .i64 p1)∧u'.cell? ⟨pb,i*10+2,none⟩=some (.int .i64 p2)∧u'.cell? ⟨pb,i*10+3,none⟩=some (.int .i64 p3)∧u'.cell? ⟨pb,i*10+4,none⟩=some (.int .i64 p4)∧u'.cell? ⟨pb,i*10+5,none⟩=some (.int .i64 p5)∧u'.cell? ⟨pb,i*10+6,none⟩=some (.int .i64 p6)∧u'.cell? ⟨pb,i*10+7,none⟩=some (.int .i64 p7)∧u'.cell? ⟨pb,i*10+8,none⟩=some (.int .i64 p8)∧u'.cell? ⟨pb,i*10+9,none⟩=some (.int .i64 p9))∧Hid (z3t wc u' r m H (20000*i+100+10000) (z0x kd a4 a5 a6 L ks Wd H p0 p1 p2 p3 p8 p9) (.returned (.slice q m cq)))∧Hid (Pw U u' r pb N P1 H (20000*i+10100))):=fun u hu=>by
     have hbu:Below wc.heap.size wc u:=by
      rcases hu with rfl|rfl
      ·exact Below.refl _ _
      ·exact (Below.refl _ _).drew
     obtain⟨f0,f1,f2,f3,f4,f5⟩:=HE.out
     have hpu:=HP1c.out.below hbu
     have:=KR.out u (20000*i+100) p8 p9 p4 p5 p6 p7 hpu.g hpu.m (by have:=HN1.out;omega) f4 f5
     rw[f0,f1,f2,f3] at this
     refine this.mono ?_
     rintro e u' ⟨q,cq,R0,R1,R2,R3,rfl,s1,s2,s3,s4⟩
     have hgw:wc.grownBy u' (some r):=(z00 hbu).trans s3
     have hal:=(Array.getElem?_eq_some_iff.1 HNc.out).1
     have hpw:Pw U u' r pb N P1 H (20000*i+10100):=HP1c.out.grown hgw (s4.mono (by omega)) hpr
     refine⟨q,cq,rfl,(hgw.block An hal (fun e=>hAr (by injection e))).trans HNc.out,HPC.out u' P1 hpw.g hpw.row (fun _ _=>rfl),⟨q,cq,R0,R1,R2,R3,rfl,s1,?_,hgw,s4⟩,hpw⟩
     rcases s2 with e|⟨b,e,l,hr⟩
     ·exact .inl e
     ·exact .inr ⟨b,e,Nat.le_trans hbu.size l,hr⟩
    unfold ndA at KR1
    clear KR SCR HAT HP1 HB1
    go_wp2_with fail
    go_region_held (fun W=>(W.cell? ⟨An,0,none⟩=some (.int .i64 kd)∧W.cell? ⟨An,1,none⟩=some (.int .i64 a0)∧W.cell? ⟨An,2,none⟩=some (.int .i64 a1)∧W.cell? ⟨An,3,none⟩=some (.int .i64 a2)∧W.cell? ⟨An,4,none⟩=some (.int .i64 a3)∧W.cell? ⟨An,5,none⟩=some (.int .i64 a4)∧W.cell? ⟨An,6,none⟩=some (.int .i64 a5)∧W.cell? ⟨An,7,none⟩=some (.int .i64 a6)∧W.cell? ⟨An,8,none⟩=some (.int .i64 a7)∧W.cell? ⟨An,9,none⟩=some (.int .i64 a8)∧W.cell? ⟨An,10,none⟩=some (.int .i64 a9)∧W.cell? ⟨An,11,none⟩=some (.int .i64 b0)∧W.cell? ⟨An,12,none⟩=some (.int .i64 b1)∧W.cell? ⟨An,13,none⟩=some (.string tx)∧W.cell? ⟨An,14,none⟩=some (.slice p m c)∧W.cell? ⟨An,15,none⟩=some (.int .i64 up))∧W.cell? ⟨pb,i*10,none⟩=some (.int .i64 p0)∧W.cell? ⟨pb,i*10+1,none⟩=some (.int .i64 p1)∧W.cell? ⟨pb,i*10+2,none⟩=some (.int .i64 p2)∧W.cell? ⟨pb,i*10+3,none⟩=some (.int .i64 p3)∧W.cell? ⟨pb,i*10+4,none⟩=some (.int .i64 p4)∧W.cell? ⟨pb,i*10+5,none⟩=some (.int .i64 p5)∧W.cell? ⟨pb,i*10+6,none⟩=some (.int .i64 p6)∧W.cell? ⟨pb,i*10+7,none⟩=some (.int .i64 p7)∧W.cell? ⟨pb,i*10+8,none⟩=some (.int .i64 p8)∧W.cell? ⟨pb,i*10+9,none⟩=some (.int .i64 p9)) (go_keep) (first|(go_at_call 65;refine Calls.mono (KR1.out _ (by first|exact .inl rfl|exact .inr rfl)) ?_;rintro e u1 ⟨q,cq,rfl,hu1,⟨w0,w1,w2,w3,w4,w5,w6,w7,w8,w9⟩,HKO,HPu⟩;obtain⟨s0,s1,s2,s3,s4,s5,s6,s7,s8,s9,s10,s11,s12,s13,s14,s15⟩:=HNC.out u1 hu1;have HUN:Hid (u1.heap[An]?=some (.cells #[.int .i64 kd,.int .i64 a0,.int .i64 a1,.int .i64 a2,.int .i64 a3,.int .i64 a4,.int .i64 a5,.int .i64 a6,.int .i64 a7,.int .i64 a8,.int .i64 a9,.int .i64 b0,.int .i64 b1,.string tx,.slice p m c,.int .i64 up] 101 (0,0))):=hu1;clear hu1))
    all_goals go_wp2_with fail
    all_goals
     obtain⟨q',cq',R0,R1,R2,R3,hqe,hspec,hrow,hgw,_⟩:=HKO.out
     injection hqe with hqe
     injection hqe with hqe1 _ hqe3
     subst hqe1
     subst hqe3
     have HSPEC:Hid (z0x kd a4 a5 a6 L ks Wd H p0 p1 p2 p3 p8 p9 R0 R1 R2 R3):=hspec
     have HROW:Hid (m=0∨∃b,q=some ⟨b,0,none⟩∧b≠pb∧zco u1 b m R0 R1 R2 R3):=by
      rcases hrow with e|⟨b,e,l,hr⟩
      ·exact .inl e
      ·exact .inr ⟨b,e,by have:=HP1c.out.row.lt;omega,hr⟩
     clear hspec hrow hgw HKO KR1 s0 s1 s2 s3 s4 s5 s6 s7 s8 s9 s10 s11 s12 s13 s14 s15 w0 w1 w2 w3 w4 w5 w6 w7 w8 w9 z0 z1 z2 z3 z4 z5 z6 z7 z8 z9 z10 z11 z12 z13 z14 z15 y0 y1 y2 y3 y4 y5 y6 y7 y8 y9
     go_loopw [57] (fun kv wr2=>∃j:Nat,j≤m∧kv=.int .i64 (j:Int)∧Hid (Pw U wr2 r pb N (plK P1 i ks R0 R1 R2 R3 j) H (20000*i+10100))∧Hid (wr2.heap[An]?=some (.cells #[.int .i64 kd,.int .i64 a0,.int .i64 a1,.int .i64 a2,.int .i64 a3,.int .i64 a4,.int .i64 a5,.int .i64 a6,.int .i64 a7,.int .i64 a8,.int .i64 a9,.int .i64 b0,.int .i64 b1,.string tx,.slice p m c,.int .i64 up] 101 (0,0)))∧Hid (m=0∨∃b,q=some ⟨b,0,none⟩∧b≠pb∧zco wr2 b m R0 R1 R2 R3)) (fun kv _=>m - (intOf kv).toNat)
     case atStart=>exact⟨0,Nat.zero_le _,rfl,HPu,HUN,HROW⟩
     case round =>
      obtain⟨j,hj,rfl,HPj,HNj,HRj⟩:=hrel
      clear HPu HUN HROW
      by_cases hlj:j<m
      ·have hlj':(j:Int)<(m:Int):=by omega
       obtain⟨b,rfl,hbne,hbl,hbc⟩:=HRj.out.resolve_left (by omega)
       obtain⟨g0,g1,g2,g3⟩:=hbc j hlj
       obtain⟨kb,ko,rfl,hkbl,hkbr,hkbc⟩:=HKB.out.resolve_left (by omega)
       obtain⟨cc,hcc⟩:∃z,kdn ks j=z:=⟨_,rfl⟩
       have hci:=HKI.out j hlj
       rw[hcc] at hci
       obtain⟨x0,hx0⟩:∃z,R0 j=z:=⟨_,rfl⟩
       obtain⟨x1,hx1⟩:∃z,R1 j=z:=⟨_,rfl⟩
       obtain⟨x2,hx2⟩:∃z,R2 j=z:=⟨_,rfl⟩
       obtain⟨x3,hx3⟩:∃z,R3 j=z:=⟨_,rfl⟩
       rw[hx0] at g0
       rw[hx1] at g1
       rw[hx2] at g2
       rw[hx3] at g3
       obtain⟨k0,hk0⟩:∃z,cap0 x0 x1 x2 x3 p4 p5 p6 p7=z:=⟨_,rfl⟩
       obtain⟨k1,hk1⟩:∃z,cap1 x0 x1 x2 x3 p4 p5 p6 p7=z:=⟨_,rfl⟩
       obtain⟨k2,hk2⟩:∃z,cap2 x0 x1 x2 x3 p4 p5 p6 p7=z:=⟨_,rfl⟩
       obtain⟨k3,hk3⟩:∃z,cap3 x0 x1 x2 x3 p4 p5 p6 p7=z:=⟨_,rfl⟩
       have hik:i ∉ ks:=fun hmem=>by
        obtain⟨a,ha,e⟩:=List.mem_iff_getElem.1 hmem
        have h1:=HKI.out a (by have:=HMK.out;omega)
        unfold kdn at h1
        rw[List.getElem?_eq_getElem ha,e] at h1
        have h2:i<i:=h1.1
        omega
       have hPi:plK P1 i ks R0 R1 R2 R3 j i=P1 i:=z9o j (fun t ht=>by have:=HMK.out;omega) i hik
       obtain⟨W5,hW5⟩:∃z,wr.alloc (.cells #[.int .i64 x0,.int .i64 x1,.int .i64 x2,.int .i64 x3] 48)=z:=⟨_,rfl⟩
       obtain⟨Ar,hArr⟩:∃z,wr.heap.size=z:=⟨_,rfl⟩
       have HB5:Hid (Below wr.heap.size wr W5):=by rw[<-hW5];exact ((Gr.refl wr).alloc _).below
       have hr5:W5.heap[Ar]?=some (.cells #[.int .i64 x0,.int .i64 x1,.int .i64 x2,.int .i64 x3] 48 (0,0)):=by rw[<-hW5,<-hArr];exact heap_alloc_new _ _
       have hAnl:An<wr.heap.size:=(Array.getElem?_eq_some_iff.1 HNj.out).1
       have hplj:pb<wr.heap.size:=HPj.out.row.lt
       have HP5:Hid (Pw U W5 r pb N (plK P1 i ks R0 R1 R2 R3 j) H (20000*i+10100)):=HPj.out.below HB5.out
       have CAP:Hid (∀u,(u=W5∨u=W5.drew)->Calls Tryz.prog 66 #[.agg #[.int .i64 x0,.int .i64 x1,.int .i64 x2,.int .i64 x3],.agg #[.int .i64 p4,.int .i64 p5,.int .i64 p6,.int .i64 p7]] u fun e u'=>e=.returned (.agg #[.int .i64 k0,.int .i64 k1,.int .i64 k2,.int .i64 k3])∧Hid (Below W5.heap.size W5 u')):=fun u hu=>by
        have hbu:Below W5.heap.size W5 u:=by
         rcases hu with rfl|rfl
         ·exact Below.refl _ _
         ·exact (Below.refl _ _).drew
        have:=zrl x0 x1 x2 x3 p4 p5 p6 p7 u
        rw[zk9,hk0,hk1,hk2,hk3] at this
        exact this.mono fun e u' ⟨h1,h2⟩=>⟨h1,hbu.trans (h2.below.mono hbu.size)⟩
       have HSU:Hid (∀u,Below W5.heap.size W5 u->u.cell? ⟨An,14,none⟩=some (.slice (some ⟨kb,ko,none⟩) m c)∧u.cell? ⟨kb,ko+j,none⟩=some (.int .i64 (cc:Int))∧u.cell? ⟨Ar,0,none⟩=some (.int .i64 x0)∧u.cell? ⟨Ar,1,none⟩=some (.int .i64 x1)∧u.cell? ⟨Ar,2,none⟩=some (.int .i64 x2)∧u.cell? ⟨Ar,3,none⟩=some (.int .i64 x3)∧u.cell? ⟨pb,i*10+4,none⟩=some (.int .i64 p4)∧u.cell? ⟨pb,i*10+5,none⟩=some (.int .i64 p5)∧u.cell? ⟨pb,i*10+6,none⟩=some (.int .i64 p6)∧u.cell? ⟨pb,i*10+7,none⟩=some (.int .i64 p7)):=fun u hu=>by
        have hbw:=HB5.out.trans (hu.mono HB5.out.size)
        have hpu:=HP5.out.below hu
        have hn:=(hbw.block An hAnl).trans HNj.out
        have hr:=(hu.block Ar (Array.getElem?_eq_some_iff.1 hr5).1).trans hr5
        have hkc:u.cell? ⟨kb,ko+j,none⟩=some (.int .i64 (cc:Int)):=by
         rw[<-hcc]
         exact (World.cell?_of_block (a:=⟨kb,ko+j,none⟩) (hpu.g.block kb hkbl (fun e=>hkbr (by injection e)))).trans (hkbc j hlj)
        have hpc:=HPC.out u _ hpu.g hpu.row (fun t _=>by rw[hPi])
        obtain⟨_,_,_,_,c4,c5,c6,c7,_,_⟩:=hpc
        refine⟨?_,hkc,?_,?_,?_,?_,c4,c5,c6,c7⟩
        ·rw[Lib.cell_of_heap hn];rfl
        ·rw[Lib.cell_of_heap hr];rfl
        ·rw[Lib.cell_of_heap hr];rfl
        ·rw[Lib.cell_of_heap hr];rfl
        ·rw[Lib.cell_of_heap hr];rfl
       have HSS:Hid (∀u,Below W5.heap.size W5 u->((((((((((u.setCell ⟨pb,cc*10,none⟩ (.int .i64 x0)).setCell ⟨pb,cc*10+1,none⟩ (.int .i64 x1)).setCell ⟨pb,cc*10+2,none⟩ (.int .i64 x2)).setCell ⟨pb,cc*10+3,none⟩ (.int .i64 x3)).setCell ⟨pb,cc*10+4,none⟩ (.int .i64 k0)).setCell ⟨pb,cc*10+5,none⟩ (.int .i64 k1)).setCell ⟨pb,cc*10+6,none⟩ (.int .i64 k2)).setCell ⟨pb,cc*10+7,none⟩ (.int .i64 k3)).setCell ⟨pb,cc*10+8,none⟩ (.int .i64 0)).setCell ⟨pb,cc*10+9,none⟩ (.int .i64 0)).cell? ⟨An,14,none⟩=some (.slice (some ⟨kb,ko,none⟩) m c)∧((((((((((u.setCell ⟨pb,cc*10,none⟩ (.int .i64 x0)).setCell ⟨pb,cc*10+1,none⟩ (.int .i64 x1)).setCell ⟨pb,cc*10+2,none⟩ (.int .i64 x2)).setCell ⟨pb,cc*10+3,none⟩ (.int .i64 x3)).setCell ⟨pb,cc*10+4,none⟩ (.int .i64 k0)).setCell ⟨pb,cc*10+5,none⟩ (.int .i64 k1)).setCell ⟨pb,cc*10+6,none⟩ (.int .i64 k2)).setCell ⟨pb,cc*10+7,none⟩ (.int .i64 k3)).setCell ⟨pb,cc*10+8,none⟩ (.int .i64 0)).setCell ⟨pb,cc*10+9,none⟩ (.int .i64 0)).cell? ⟨kb,ko+j,none⟩=some (.int .i64 (cc:Int))∧((((((((((u.setCell ⟨pb,cc*10,none⟩ (.int .i64 x0)).setCell ⟨pb,cc*10+1,none⟩ (.int .i64 x1)).setCell ⟨pb,cc*10+2,none⟩ (.int .i64 x2)).setCell ⟨pb,cc*10+3,none⟩ (.int .i64 x3)).setCell ⟨pb,cc*10+4,none⟩ (.int .i64 k0)).setCell ⟨pb,cc*10+5,none⟩ (.int .i64 k1)).setCell ⟨pb,cc*10+6,none⟩ (.int .i64 k2)).setCell ⟨pb,cc*10+7,none⟩ (.int .i64 k3)).setCell ⟨pb,cc*10+8,none⟩ (.int .i64 0)).setCell ⟨pb,cc*10+9,none⟩ (.int .i64 0)).cell? ⟨Ar,0,none⟩=some (.int .i64 x0)∧((((((((((u.setCell ⟨pb,cc*10,none⟩ (.int .i64 x0)).setCell ⟨pb,cc*10+1,none⟩ (.int .i64 x1)).setCell ⟨pb,cc*10+2,none⟩ (.int .i64 x2)).setCell ⟨pb,cc*10+3,none⟩ (.int .i64 x3)).setCell ⟨pb,cc*10+4,none⟩ (.int .i64 k0)).setCell ⟨pb,cc*10+5,none⟩ (.int .i64 k1)).setCell ⟨pb,cc*10+6,none⟩ (.int .i64 k2)).setCell ⟨pb,cc*10+7,none⟩ (.int .i64 k3)).setCell ⟨pb,cc*10+8,none⟩ (.int .i64 0)).setCell ⟨pb,cc*10+9,none⟩ (.int .i64 0)).cell? ⟨Ar,1,none⟩=some (.int .i64 x1)∧((((((((((u.setCell ⟨pb,cc*10,none⟩ (.int .i64 x0)).setCell ⟨pb,cc*10+1,none⟩ (.int .i64 x1)).setCell ⟨pb,cc*10+2,none⟩ (.int .i64 x2)).setCell ⟨pb,cc*10+3,none⟩ (.int .i64 x3)).setCell ⟨pb,cc*10+4,none⟩ (.int .i64 k0)).setCell ⟨pb,cc*10+5,none⟩ (.int .i64 k1)).setCell ⟨pb,cc*10+6,none⟩ (.int .i64 k2)).setCell ⟨pb,cc*10+7,none⟩ (.int .i64 k3)).setCell ⟨pb,cc*10+8,none⟩ (.int .i64 0)).setCell ⟨pb,cc*10+9,none⟩ (.int .i64 0)).cell? ⟨Ar,2,none⟩=some (.int .i64 x2)∧((((((((((u.setCell ⟨pb,cc*10,none⟩ (.int .i64 x0)).setCell ⟨pb,cc*10+1,none⟩ (.int .i64 x1)).setCell ⟨pb,cc*10+2,none⟩ (.int .i64 x2)).setCell ⟨pb,cc*10+3,none⟩ (.int .i64 x3)).setCell ⟨pb,cc*10+4,none⟩ (.int .i64 k0)).setCell ⟨pb,cc*10+5,none⟩ (.int .i64 k1)).setCell ⟨pb,cc*10+6,none⟩ (.int .i64 k2)).setCell ⟨pb,cc*10+7,none⟩ (.int .i64 k3)).setCell ⟨pb,cc*10+8,none⟩ (.int .i64 0)).setCell ⟨pb,cc*10+9,none⟩ (.int .i64 0)).cell? ⟨Ar,3,none⟩=some (.int .i64 x3)∧((((((((((u.setCell ⟨pb,cc*10,none⟩ (.int .i64 x0)).setCell ⟨pb,cc*10+1,none⟩ (.int .i64 x1)).setCell ⟨pb,cc*10+2,none⟩ (.int .i64 x2)).setCell ⟨pb,cc*10+3,none⟩ (.int .i64 x3)).setCell ⟨pb,cc*10+4,none⟩ (.int .i64 k0)).setCell ⟨pb,cc*10+5,none⟩ (.int .i64 k1)).setCell ⟨pb,cc*10+6,none⟩ (.int .i64 k2)).setCell ⟨pb,cc*10+7,none⟩ (.int .i64 k3)).setCell ⟨pb,cc*10+8,none⟩ (.int .i64 0)).setCell ⟨pb,cc*10+9,none⟩ (.int .i64 0)).cell? ⟨pb,i*10+4,none⟩=some (.int .i64 p4)∧((((((((((u.setCell ⟨pb,cc*10,none⟩ (.int .i64 x0)).setCell ⟨pb,cc*10+1,none⟩ (.int .i64 x1)).setCell ⟨pb,cc*10+2,none⟩ (.int .i64 x2)).setCell ⟨pb,cc*10+3,none⟩ (.int .i64 x3)).setCell ⟨pb,cc*10+4,none⟩ (.int .i64 k0)).setCell ⟨pb,cc*10+5,none⟩ (.int .i64 k1)).setCell ⟨pb,cc*10+6,none⟩ (.int .i64 k2)).setCell ⟨pb,cc*10+7,none⟩ (.int .i64 k3)).setCell ⟨pb,cc*10+8,none⟩ (.int .i64 0)).setCell ⟨pb,cc*10+9,none⟩ (.int .i64 0)).cell? ⟨pb,i*10+5,none⟩=some (.int .i64 p5)∧((((((((((u.setCell ⟨pb,cc*10,none⟩ (.int .i64 x0)).setCell ⟨pb,cc*10+1,none⟩ (.int .i64 x1)).setCell ⟨pb,cc*10+2,none⟩ (.int .i64 x2)).setCell ⟨pb,cc*10+3,none⟩ (.int .i64 x3)).setCell ⟨pb,cc*10+4,none⟩ (.int .i64 k0)).setCell ⟨pb,cc*10+5,none⟩ (.int .i64 k1)).setCell ⟨pb,cc*10+6,none⟩ (.int .i64 k2)).setCell ⟨pb,cc*10+7,none⟩ (.int .i64 k3)).setCell ⟨pb,cc*10+8,none⟩ (.int .i64 0)).setCell ⟨pb,cc*10+9,none⟩ (.int .i64 0)).cell? ⟨pb,i*10+6,none⟩=some (.int .i64 p6)∧((((((((((u.setCell ⟨pb,cc*10,none⟩ (.int .i64 x0)).setCell ⟨pb,cc*10+1,none⟩ (.int .i64 x1)).setCell ⟨pb,cc*10+2,none⟩ (.int .i64 x2)).setCell ⟨pb,cc*10+3,none⟩ (.int .i64 x3)).setCell ⟨pb,cc*10+4,none⟩ (.int .i64 k0)).setCell ⟨pb,cc*10+5,none⟩ (.int .i64 k1)).setCell ⟨pb,cc*10+6,none⟩ (.int .i64 k2)).setCell ⟨pb,cc*10+7,none⟩ (.int .i64 k3)).setCell ⟨pb,cc*10+8,none⟩ (.int .i64 0)).setCell ⟨pb,cc*10+9,none⟩ (.int .i64 0)).cell? ⟨pb,i*10+7,none⟩=some (.int .i64 p7)):=fun u hu=>by
        obtain⟨r0,r1,r2,r3,r4,r5,r6,r7,r8,r9⟩:=HSU.out u hu
        have o1:∀b' o' v,b'≠pb->u.cell? ⟨b',o',none⟩=some v->((((((((((u.setCell ⟨pb,cc*10,none⟩ (.int .i64 x0)).setCell ⟨pb,cc*10+1,none⟩ (.int .i64 x1)).setCell ⟨pb,cc*10+2,none⟩ (.int .i64 x2)).setCell ⟨pb,cc*10+3,none⟩ (.int .i64 x3)).setCell ⟨pb,cc*10+4,none⟩ (.int .i64 k0)).setCell ⟨pb,cc*10+5,none⟩ (.int .i64 k1)).setCell ⟨pb,cc*10+6,none⟩ (.int .i64 k2)).setCell ⟨pb,cc*10+7,none⟩ (.int .i64 k3)).setCell ⟨pb,cc*10+8,none⟩ (.int .i64 0)).setCell ⟨pb,cc*10+9,none⟩ (.int .i64 0)).cell? ⟨b',o',none⟩=some v:=fun b' o' v hb' hv=>by
         rw[World.cell?_setCell_other _ ⟨pb,cc*10+9,none⟩ _ _ (fun e=>hb' (by injection e with e _ _;exact e.symm)),World.cell?_setCell_other _ ⟨pb,cc*10+8,none⟩ _ _ (fun e=>hb' (by injection e with e _ _;exact e.symm)),World.cell?_setCell_other _ ⟨pb,cc*10+7,none⟩ _ _ (fun e=>hb' (by injection e with e _ _;exact e.symm)),World.cell?_setCell_other _ ⟨pb,cc*10+6,none⟩ _ _ (fun e=>hb' (by injection e with e _ _;exact e.symm)),World.cell?_setCell_other _ ⟨pb,cc*10+5,none⟩ _ _ (fun e=>hb' (by injection e with e _ _;exact e.symm)),World.cell?_setCell_other _ ⟨pb,cc*10+4,none⟩ _ _ (fun e=>hb' (by injection e with e _ _;exact e.symm)),World.cell?_setCell_other _ ⟨pb,cc*10+3,none⟩ _ _ (fun e=>hb' (by injection e with e _ _;exact e.symm)),World.cell?_setCell_other _ ⟨pb,cc*10+2,none⟩ _ _ (fun e=>hb' (by injection e with e _ _;exact e.symm)),World.cell?_setCell_other _ ⟨pb,cc*10+1,none⟩ _ _ (fun e=>hb' (by injection e with e _ _;exact e.symm)),World.cell?_setCell_other _ ⟨pb,cc*10,none⟩ _ _ (fun e=>hb' (by injection e with e _ _;exact e.symm))]
         exact hv
        have o2:∀t v,t<10->u.cell? ⟨pb,i*10+t,none⟩=some v->((((((((((u.setCell ⟨pb,cc*10,none⟩ (.int .i64 x0)).setCell ⟨pb,cc*10+1,none⟩ (.int .i64 x1)).setCell ⟨pb,cc*10+2,none⟩ (.int .i64 x2)).setCell ⟨pb,cc*10+3,none⟩ (.int .i64 x3)).setCell ⟨pb,cc*10+4,none⟩ (.int .i64 k0)).setCell ⟨pb,cc*10+5,none⟩ (.int .i64 k1)).setCell ⟨pb,cc*10+6,none⟩ (.int .i64 k2)).setCell ⟨pb,cc*10+7,none⟩ (.int .i64 k3)).setCell ⟨pb,cc*10+8,none⟩ (.int .i64 0)).setCell ⟨pb,cc*10+9,none⟩ (.int .i64 0)).cell? ⟨pb,i*10+t,none⟩=some v:=fun t v ht hv=>by
         rw[World.cell?_setCell_other _ ⟨pb,cc*10+9,none⟩ _ _ (fun e=>by injection e with _ e _;omega),World.cell?_setCell_other _ ⟨pb,cc*10+8,none⟩ _ _ (fun e=>by injection e with _ e _;omega),World.cell?_setCell_other _ ⟨pb,cc*10+7,none⟩ _ _ (fun e=>by injection e with _ e _;omega),World.cell?_setCell_other _ ⟨pb,cc*10+6,none⟩ _ _ (fun e=>by injection e with _ e _;omega),World.cell?_setCell_other _ ⟨pb,cc*10+5,none⟩ _ _ (fun e=>by injection e with _ e _;omega),World.cell?_setCell_other _ ⟨pb,cc*10+4,none⟩ _ _ (fun e=>by injection e with _ e _;omega),World.cell?_setCell_other _ ⟨pb,cc*10+3,none⟩ _ _ (fun e=>by injection e with _ e _;omega),World.cell?_setCell_other _ ⟨pb,cc*10+2,none⟩ _ _ (fun e=>by injection e with _ e _;omega),World.cell?_setCell_other _ ⟨pb,cc*10+1,none⟩ _ _ (fun e=>by injection e with _ e _;omega),World.cell?_setCell_other _ ⟨pb,cc*10,none⟩ _ _ (fun e=>by injection e with _ e _;omega)]
         exact hv
        have n1:An≠pb:=by omega
        have n2:kb≠pb:=by omega
        have n3:Ar≠pb:=by omega
        exact⟨o1 _ _ _ n1 r0,o1 _ _ _ n2 r1,o1 _ _ _ n3 r2,o1 _ _ _ n3 r3,o1 _ _ _ n3 r4,o1 _ _ _ n3 r5,o2 4 _ (by omega) r6,o2 5 _ (by omega) r7,o2 6 _ (by omega) r8,o2 7 _ (by omega) r9⟩
       have HCC:Hid (∀u,Below W5.heap.size W5 u->(∀o',u.frozen? ⟨pb,o',none⟩=false)∧pb<u.heap.size∧(∃v,u.cell? ⟨pb,cc*10,none⟩=some v)∧(∃v,u.cell? ⟨pb,cc*10+1,none⟩=some v)∧(∃v,u.cell? ⟨pb,cc*10+2,none⟩=some v)∧(∃v,u.cell? ⟨pb,cc*10+3,none⟩=some v)∧(∃v,u.cell? ⟨pb,cc*10+4,none⟩=some v)∧(∃v,u.cell? ⟨pb,cc*10+5,none⟩=some v)∧(∃v,u.cell? ⟨pb,cc*10+6,none⟩=some v)∧(∃v,u.cell? ⟨pb,cc*10+7,none⟩=some v)∧(∃v,u.cell? ⟨pb,cc*10+8,none⟩=some v)∧(∃v,u.cell? ⟨pb,cc*10+9,none⟩=some v)):=fun u hu=>by
        have hpu:=HP5.out.below hu
        exact⟨fun o'=>hpu.row.frozen o',hpu.row.lt,⟨_,z0t (t:=0) hpu.row hci.2 (by omega)⟩,⟨_,z0t hpu.row hci.2 (by omega)⟩,⟨_,z0t hpu.row hci.2 (by omega)⟩,⟨_,z0t hpu.row hci.2 (by omega)⟩,⟨_,z0t hpu.row hci.2 (by omega)⟩,⟨_,z0t hpu.row hci.2 (by omega)⟩,⟨_,z0t hpu.row hci.2 (by omega)⟩,⟨_,z0t hpu.row hci.2 (by omega)⟩,⟨_,z0t hpu.row hci.2 (by omega)⟩,⟨_,z0t hpu.row hci.2 (by omega)⟩⟩
       have HFIN:Hid (∀u,Below W5.heap.size W5 u->Pw U ((((((((((u.setCell ⟨pb,cc*10,none⟩ (.int .i64 x0)).setCell ⟨pb,cc*10+1,none⟩ (.int .i64 x1)).setCell ⟨pb,cc*10+2,none⟩ (.int .i64 x2)).setCell ⟨pb,cc*10+3,none⟩ (.int .i64 x3)).setCell ⟨pb,cc*10+4,none⟩ (.int .i64 k0)).setCell ⟨pb,cc*10+5,none⟩ (.int .i64 k1)).setCell ⟨pb,cc*10+6,none⟩ (.int .i64 k2)).setCell ⟨pb,cc*10+7,none⟩ (.int .i64 k3)).setCell ⟨pb,cc*10+8,none⟩ (.int .i64 0)).setCell ⟨pb,cc*10+9,none⟩ (.int .i64 0)) r pb N (plK P1 i ks R0 R1 R2 R3 (j+1)) H (20000*i+10100)∧((((((((((u.setCell ⟨pb,cc*10,none⟩ (.int .i64 x0)).setCell ⟨pb,cc*10+1,none⟩ (.int .i64 x1)).setCell ⟨pb,cc*10+2,none⟩ (.int .i64 x2)).setCell ⟨pb,cc*10+3,none⟩ (.int .i64 x3)).setCell ⟨pb,cc*10+4,none⟩ (.int .i64 k0)).setCell ⟨pb,cc*10+5,none⟩ (.int .i64 k1)).setCell ⟨pb,cc*10+6,none⟩ (.int .i64 k2)).setCell ⟨pb,cc*10+7,none⟩ (.int .i64 k3)).setCell ⟨pb,cc*10+8,none⟩ (.int .i64 0)).setCell ⟨pb,cc*10+9,none⟩ (.int .i64 0)).heap[An]?=some (.cells #[.int .i64 kd,.int .i64 a0,.int .i64 a1,.int .i64 a2,.int .i64 a3,.int .i64 a4,.int .i64 a5,.int .i64 a6,.int .i64 a7,.int .i64 a8,.int .i64 a9,.int .i64 b0,.int .i64 b1,.string tx,.slice (some ⟨kb,ko,none⟩) m c,.int .i64 up] 101 (0,0))∧(m=0∨∃b',some (⟨b,0,none⟩:Addr)=some ⟨b',0,none⟩∧b'≠pb∧zco ((((((((((u.setCell ⟨pb,cc*10,none⟩ (.int .i64 x0)).setCell ⟨pb,cc*10+1,none⟩ (.int .i64 x1)).setCell ⟨pb,cc*10+2,none⟩ (.int .i64 x2)).setCell ⟨pb,cc*10+3,none⟩ (.int .i64 x3)).setCell ⟨pb,cc*10+4,none⟩ (.int .i64 k0)).setCell ⟨pb,cc*10+5,none⟩ (.int .i64 k1)).setCell ⟨pb,cc*10+6,none⟩ (.int .i64 k2)).setCell ⟨pb,cc*10+7,none⟩ (.int .i64 k3)).setCell ⟨pb,cc*10+8,none⟩ (.int .i64 0)).setCell ⟨pb,cc*10+9,none⟩ (.int .i64 0)) b' m R0 R1 R2 R3)):=fun u hu=>by
        have hbw:=HB5.out.trans (hu.mono HB5.out.size)
        have key:∀b',b'≠pb->((((((((((u.setCell ⟨pb,cc*10,none⟩ (.int .i64 x0)).setCell ⟨pb,cc*10+1,none⟩ (.int .i64 x1)).setCell ⟨pb,cc*10+2,none⟩ (.int .i64 x2)).setCell ⟨pb,cc*10+3,none⟩ (.int .i64 x3)).setCell ⟨pb,cc*10+4,none⟩ (.int .i64 k0)).setCell ⟨pb,cc*10+5,none⟩ (.int .i64 k1)).setCell ⟨pb,cc*10+6,none⟩ (.int .i64 k2)).setCell ⟨pb,cc*10+7,none⟩ (.int .i64 k3)).setCell ⟨pb,cc*10+8,none⟩ (.int .i64 0)).setCell ⟨pb,cc*10+9,none⟩ (.int .i64 0)).heap[b']?=u.heap[b']?:=fun b' hb'=>by
         rw[Below.heap_setCell _ ⟨pb,cc*10+9,none⟩ _ _ hb',Below.heap_setCell _ ⟨pb,cc*10+8,none⟩ _ _ hb',Below.heap_setCell _ ⟨pb,cc*10+7,none⟩ _ _ hb',Below.heap_setCell _ ⟨pb,cc*10+6,none⟩ _ _ hb',Below.heap_setCell _ ⟨pb,cc*10+5,none⟩ _ _ hb',Below.heap_setCell _ ⟨pb,cc*10+4,none⟩ _ _ hb',Below.heap_setCell _ ⟨pb,cc*10+3,none⟩ _ _ hb',Below.heap_setCell _ ⟨pb,cc*10+2,none⟩ _ _ hb',Below.heap_setCell _ ⟨pb,cc*10+1,none⟩ _ _ hb',Below.heap_setCell _ ⟨pb,cc*10,none⟩ _ _ hb']
        refine⟨?_,(key An (by omega)).trans ((hbw.block An hAnl).trans HNj.out),.inr ⟨b,rfl,hbne,?_,fun t ht=>?_⟩⟩
        ·have:=zr3 (HP5.out.below hu) hpU hpr cc (plV P1 i (R0 j) (R1 j) (R2 j) (R3 j)) x0 x1 x2 x3 k0 k1 k2 k3 0 0 hx0.symm hx1.symm hx2.symm hx3.symm (by rw[<-hk0,<-hx0,<-hx1,<-hx2,<-hx3,<-hp4,<-hp5,<-hp6,<-hp7];rfl) (by rw[<-hk1,<-hx0,<-hx1,<-hx2,<-hx3,<-hp4,<-hp5,<-hp6,<-hp7];rfl) (by rw[<-hk2,<-hx0,<-hx1,<-hx2,<-hx3,<-hp4,<-hp5,<-hp6,<-hp7];rfl) (by rw[<-hk3,<-hx0,<-hx1,<-hx2,<-hx3,<-hp4,<-hp5,<-hp6,<-hp7];rfl) rfl rfl
         rw[<-hcc] at this ⊢
         exact this
        ·have h1:=(Array.getElem?_eq_some_iff.1 (((key b hbne).trans (hbw.block b hbl)).trans (Array.getElem?_eq_getElem hbl))).1
         exact h1
        ·obtain⟨r0,r1,r2,r3⟩:=hbc t ht
         have kk:=(key b hbne).trans (hbw.block b hbl)
         exact⟨(World.cell?_of_block (a:=⟨b,_,none⟩) kk).trans r0,(World.cell?_of_block (a:=⟨b,_,none⟩) kk).trans r1,(World.cell?_of_block (a:=⟨b,_,none⟩) kk).trans r2,(World.cell?_of_block (a:=⟨b,_,none⟩) kk).trans r3⟩
       obtain⟨t0,t1,t2,t3,t4,t5,t6,t7,t8,t9⟩:=HSU.out W5 (Below.refl _ _)
       have HAN:Hid (wr.cell? ⟨An,14,none⟩=some (.slice (some ⟨kb,ko,none⟩) m c)):=by show _=_;rw[Lib.cell_of_heap HNj.out];rfl
       have hccI:(cc:Int)<(N:Int):=by omega
       clear hr5 hbc hk0 hk1 hk2 hk3 hx0 hx1 hx2 hx3 hcc hPi hik hbl HRj HNj HPj hkbl hkbr hkbc
       go_wp2_with fail
       clear hW5 hArr g0 g1 g2 g3
       go_region_held (fun W=>W.cell? ⟨An,14,none⟩=some (.slice (some ⟨kb,ko,none⟩) m c)∧W.cell? ⟨kb,ko+j,none⟩=some (.int .i64 (cc:Int))∧W.cell? ⟨Ar,0,none⟩=some (.int .i64 x0)∧W.cell? ⟨Ar,1,none⟩=some (.int .i64 x1)∧W.cell? ⟨Ar,2,none⟩=some (.int .i64 x2)∧W.cell? ⟨Ar,3,none⟩=some (.int .i64 x3)∧W.cell? ⟨pb,i*10+4,none⟩=some (.int .i64 p4)∧W.cell? ⟨pb,i*10+5,none⟩=some (.int .i64 p5)∧W.cell? ⟨pb,i*10+6,none⟩=some (.int .i64 p6)∧W.cell? ⟨pb,i*10+7,none⟩=some (.int .i64 p7)) (go_keep) (first|(go_at_call 66;refine Calls.mono (CAP.out _ (by first|exact .inl rfl|exact .inr rfl)) ?_;rintro e u2 ⟨rfl,HBu⟩;obtain⟨f0,f1,f2,f3,f4,f5,f6,f7,f8,f9⟩:=HSU.out u2 HBu.out;obtain⟨h0,h1,h2,h3,h4,h5,h6,h7,h8,h9⟩:=HSS.out u2 HBu.out;obtain⟨hfz,hplu,⟨v0,e0⟩,⟨v1,e1⟩,⟨v2,e2⟩,⟨v3,e3⟩,⟨v4,e4⟩,⟨v5,e5⟩,⟨v6,e6⟩,⟨v7,e7⟩,⟨v8,e8⟩,⟨v9,e9⟩⟩:=HCC.out u2 HBu.out))
       all_goals
        obtain⟨F1,F2,F3⟩:=HFIN.out u2 HBu.out
        have HF1:=(show Hid _ from F1)
        have HF2:=(show Hid _ from F2)
        have HF3:=(show Hid _ from F3)
        clear F1 F2 F3
        go_wp2
        go_roundw
        case rel=>exact⟨j+1,hlj,by go_num,HF1,HF2,HF3⟩
        case measure=>simp[intOf];omega
      ·have hlj':¬(j:Int)<(m:Int):=by omega
       obtain rfl:j=m:=by omega
       have HNEXT:Hid (PlTo L Wd H w h idf off sn (plK P1 i ks R0 R1 R2 R3 j) (i+1)):=by
        have hs2:=HSPEC.out
        rw[<-hp0,<-hp1,<-hp2,<-hp3,<-hp8,<-hp9] at hs2
        have:=HSTEP.out P1 R0 R1 R2 R3 HPE.out (fun e=>HPK.out.1 (by have:=HKN.out;omega)) (fun e=>HPK.out.2 (by have:=HKN.out;omega)) hs2
        exact this
       have HPN:Hid (Pw U wr r pb N (plK P1 i ks R0 R1 R2 R3 j) H (20000*(i+1))):=HPj.out.mono (by omega)
       clear HPj HNj HRj
       go_wp2
       go_roundw
       case rel=>exact⟨i+1,_,hlt,by go_num,HPN,HNEXT⟩
       case measure=>simp[intOf];omega
  ·have hlt':¬(i:Int)<(N:Int):=by omega
   obtain rfl:i=N:=by omega
   have HGO:Hid (U.grownBy wr (some r)∧wr.rowIs pb 50 (i*10) (pcF P)∧PlTo L Wd H w h idf off sn P i):=⟨HP.out.g,HP.out.row,HL.out⟩
   go_wp2
   go_ret
   exact⟨pb,P,rfl,HGO.out.2.1,HGO.out.2.2,HGO.out.1,hpU⟩
end
end Go.Proofs.YtnponhbgicbkcaaGreatDoor
