import Derived.Test.YtnponhbgicbkcaaGreatDoorL44
set_option linter.unusedVariables false
set_option maxRecDepth 100000
set_option maxHeartbeats 16000000
namespace Go.Proofs.YtnponhbgicbkcaaGreatDoor
section
open Go.RowKit Go.Sort Go.Proofs.Tryz
structure KrSpec(kd a4 a5 a6:Int)(L:List Nd)(ks:List Nat)(Wd:Nat->Int)(H:Nat->Int->Int)(x y w h of rm:Int)(R0 R1 R2 R3:Nat->Int):Prop where
 row:kd=0->∃G,(ks=[]∨KidSpl L ks (fun j=>Wd (kdn ks j)) w a4 G)∧(∀j,j<ks.length->0≤G j∧G j≤100000)∧∀j,j<ks.length->R0 j=x+offs G (cl a4) j∧R1 j=y∧R2 j=G j∧R3 j=h
 col:kd=1->∃G,(ks=[]∨KidSpl L ks (fun j=>H (kdn ks j) w) h a4 G)∧(∀j,j<ks.length->0≤G j∧G j≤100000)∧∀j,j<ks.length->R0 j=x∧R1 j=y+offs G (cl a4) j∧R2 j=w∧R3 j=G j
 box:kd=3->∀j,j<ks.length->insV x y w h (a6+a5)=rv (R0 j) (R1 j) (R2 j) (R3 j)
 scr:kd=4->∀j,j<ks.length->R0 j=x∧R1 j=y-of∧R2 j=w∧R3 j=h+rm
 rest:kd≠0->kd≠1->kd≠3->kd≠4->∀j,j<ks.length->R0 j=x∧R1 j=y∧R2 j=w∧R3 j=h
def KrOut(U U':World)(r m:Nat)(H:Nat->Int->Int)(n:Nat)(X:(Nat->Int)->(Nat->Int)->(Nat->Int)->(Nat->Int)->Prop)(e:Ending):Prop:=∃q cq R0 R1 R2 R3,e=.returned (.slice q m cq)∧X R0 R1 R2 R3∧(m=0∨∃b,q=some ⟨b,0,none⟩∧U.heap.size≤b∧RcRow U' b m R0 R1 R2 R3)∧U.grownBy U' (some r)∧Memo U' r H n
theorem KrOut.base{U U0 U'}{r m}{H}{n}{X}{e}(h:KrOut U U' r m H n X e)(h0:U0.grownBy U (some r)):KrOut U0 U' r m H n X e:=by
 obtain⟨q,cq,R0,R1,R2,R3,h1,h2,h3,h4,h5⟩:=h;refine⟨q,cq,R0,R1,R2,R3,h1,h2,?_,h0.trans h4,h5⟩;rcases h3 with h3|⟨b,e,h6,h7⟩;·exact .inl h3
 ·exact .inr ⟨b,e,Nat.le_trans h0.size h6,h7⟩
theorem fl4_rc{W}{b m}{x y a c}{Ls}(h:W.heap[b]?=some (.cells Ls.toArray 48 (0,0)))(hf:Fl4 Ls m m [Iq x,Iq y,Iq a,Iq c]):RcRow W b m (fun _=>x) (fun _=>y) (fun _=>a) (fun _=>c):=by
 refine⟨(Array.getElem?_eq_some_iff.1 h).1,fun j hj=>⟨?_,?_,?_,?_⟩⟩;·rw[Lib.cell_of_heap h];have:=hf.2 j 0 _ hj rfl;simpa using this
 ·rw[Lib.cell_of_heap h];have:=hf.2 j 1 _ hj rfl;simpa using this
 ·rw[Lib.cell_of_heap h];have:=hf.2 j 2 _ hj rfl;simpa using this
 ·rw[Lib.cell_of_heap h];have:=hf.2 j 3 _ hj rfl;simpa using this
theorem rep_rect(m:Nat)(hm:m≤1000) x y a c  u :
 Calls prog 102 #[Sq u.heap.size 1 1,Iq (m:Int)] (u.alloc (.cells #[Iq x,Iq y,Iq a,Iq c] 48)) fun e u'=>∃q cq,e=.returned (.slice q m cq)∧Hid (m=0∨∃b,q=some ⟨b,0,none⟩∧u.heap.size≤b∧RcRow u' b m (fun _=>x) (fun _=>y) (fun _=>a) (fun _=>c))∧Hid (Below u.heap.size u u'):=by
 have hb2:Below u.heap.size u (u.alloc (.cells #[Iq x,Iq y,Iq a,Iq c] 48)):=(Below.refl _ u).alloc (Nat.le_refl _) _;by_cases hz:m=0;·subst hz;refine(rep4_zero (u.alloc (.cells #[Iq x,Iq y,Iq a,Iq c] 48)) u.heap.size).mono ?_;rintro e u' ⟨q,cq,rfl,hb⟩;exact⟨q,cq,rfl,.inl rfl,hb2.trans (hb.mono hb2.size)⟩
 ·refine(rep4_any (u.alloc (.cells #[Iq x,Iq y,Iq a,Iq c] 48)) x y a c u.heap.size m (by omega) (by simp) (fun k v hk=>?_)).mono ?_;·rw[World.cell?_alloc_at _ _ _ _ rfl];match k with
   |0=>exact hk
   |1=>exact hk
   |2=>exact hk
   |3=>exact hk
   |k+4=>cases hk
  ·rintro e u' ⟨rfl,⟨Ls,hl,hfl⟩,hb⟩;exact⟨_,_,rfl,.inr ⟨_,rfl,hb2.size,fl4_rc hl hfl⟩,hb2.trans (hb.mono hb2.size)⟩
theorem KrOut.mono{U U'}{r m}{H}{n n'}{X}{e}(h:KrOut U U' r m H n X e)(hn:n≤n'):KrOut U U' r m H n' X e:=by obtain⟨q,cq,R0,R1,R2,R3,h1,h2,h3,h4,h5⟩:=h;exact⟨q,cq,R0,R1,R2,R3,h1,h2,h3,h4,h5.mono hn⟩
def ndC(kd a0 a1 a2 a3 a4 a5 a6 a7 a8 a9 b0 b1:Int)(tx:ByteArray)(kv:Value)(up:Int):Array Value:=#[Iq kd,Iq a0,Iq a1,Iq a2,Iq a3,Iq a4,Iq a5,Iq a6,Iq a7,Iq a8,Iq a9,Iq b0,Iq b1,.string tx,kv,Iq up]
theorem kr_rep{U}{r nn m:Nat}{H}{X}(hm:m≤200)(hM:Memo U r H nn) u  x0 y0 w0 h0 (hu:Below U.heap.size U u)(hsp:X (fun _=>x0) (fun _=>y0) (fun _=>w0) (fun _=>h0)):
 Calls prog 102 #[Sq u.heap.size 1 1,Iq (m:Int)] (u.alloc (.cells #[Iq x0,Iq y0,Iq w0,Iq h0] 48)) fun e u'=>∃q cq,e=.returned (.slice q m cq)∧Hid (KrOut U u' r m H (nn+100*m) X (.returned (.slice q m cq))):=by
 refine(rep_rect m (by omega) x0 y0 w0 h0 u).mono ?_;rintro e u' ⟨q,cq,rfl,q1,q2⟩;have hb:=hu.trans (q2.mono hu.size);refine⟨q,cq,rfl,q,cq,_,_,_,_,rfl,hsp,?_,grown_of_below hb,(hM.grown_below hb).mono (by omega)⟩;rcases q1.out with e|⟨b,e,l,h⟩;·exact .inl e
 ·exact .inr ⟨b,e,Nat.le_trans hu.size l,h⟩
theorem kidRects_kind mb r nn m  L  ks  Wd  H  kd a0 a1 a2 a3 a4 a5 a6 a7 a8 a9 b0 b1 up  tx  p  c  x y w h c0 c1 c2 c3 of rm  U 
 (hmm:ks.length=m) (hm:m≤200) (hM:Hid (Memo U r H nn)) (hx:-1000000000000≤x∧x≤1000000000000) (hy:-1000000000000≤y∧y≤1000000000000) (hw:0≤w∧w≤100000) (hh:0≤h∧h≤100000) (h5:0≤a5∧a5≤1000000) (h6:0≤a6∧a6≤1000000) (hof:0≤of∧of≤100000) (hrm:0≤rm∧rm≤100000)
 (WR:Hid (kd=0->∀u,Below U.heap.size U u->Memo u r H nn->Calls prog 98 #[Pq mb,ndA kd a0 a1 a2 a3 a4 a5 a6 a7 a8 a9 b0 b1 tx (.slice p m c) up] u fun e u'=>∃v,e=.returned v∧RwOut u u' r m L ks (fun j=>Wd (kdn ks j)) H (nn+100*m) v))
 (WC:Hid (kd=1->∀u,Below U.heap.size U u->Memo u r H nn->Calls prog 100 #[Pq mb,ndA kd a0 a1 a2 a3 a4 a5 a6 a7 a8 a9 b0 b1 tx (.slice p m c) up,Iq w] u fun e u'=>∃v,e=.returned v∧RwOut u u' r m L ks (fun j=>H (kdn ks j) w) H (nn+100*m) v)):
 Calls prog 65 #[Pq mb,ndA kd a0 a1 a2 a3 a4 a5 a6 a7 a8 a9 b0 b1 tx (.slice p m c) up,.agg #[Iq x,Iq y,Iq w,Iq h,Iq c0,Iq c1,Iq c2,Iq c3,Iq of,Iq rm]] U fun e U'=>KrOut U U' r m H (nn+100*m) (KrSpec kd a4 a5 a6 L ks Wd H x y w h of rm) e:=by
 have hmix:prog.follows .mixedOrders=true:=by kernel_rfl
 obtain⟨W3,hW3⟩:=nmd (((U.alloc (.cells (ndC kd a0 a1 a2 a3 a4 a5 a6 a7 a8 a9 b0 b1 tx (.slice p m c) up) 101)).alloc (.cells #[Iq x,Iq y,Iq w,Iq h,Iq c0,Iq c1,Iq c2,Iq c3,Iq of,Iq rm] 50)).alloc (.cells #[Iq x,Iq y,Iq w,Iq h] 48));obtain⟨A,hA⟩:=nmd U.heap.size;have HB3:Hid (Below U.heap.size U W3):=by rw[<-hW3];exact((((Gr.refl U).alloc _).alloc _).alloc _).below
 have hn3:W3.heap[A]?=some (.cells (ndC kd a0 a1 a2 a3 a4 a5 a6 a7 a8 a9 b0 b1 tx (.slice p m c) up) 101 (0,0)):=by rw[<-hW3,<-hA,Below.heap_alloc _ _ _ (by rw[World.size_alloc,World.size_alloc];omega),Below.heap_alloc _ _ _ (by rw[World.size_alloc];omega)];exact heap_alloc_new _ _
 have hp3:W3.heap[A+1]?=some (.cells #[Iq x,Iq y,Iq w,Iq h,Iq c0,Iq c1,Iq c2,Iq c3,Iq of,Iq rm] 50 (0,0)):=by rw[<-hW3,<-hA,Below.heap_alloc _ _ _ (by rw[World.size_alloc,World.size_alloc];omega),<-World.size_alloc];exact heap_alloc_new _ _
 have hi3:W3.heap[A+1+1]?=some (.cells #[Iq x,Iq y,Iq w,Iq h] 48 (0,0)):=by rw[<-hW3,<-hA,<-World.size_alloc,<-World.size_alloc];exact heap_alloc_new _ _
 unfold ndC at hW3;have hrA:r<A:=by rw[<-hA];exact hM.lt
 have HS:Hid (∀u,W3.grownBy u (some r)->(u.cell? ⟨A,0,none⟩=some (Iq kd)∧u.cell? ⟨A,1,none⟩=some (Iq a0)∧u.cell? ⟨A,2,none⟩=some (Iq a1)∧u.cell? ⟨A,3,none⟩=some (Iq a2)∧u.cell? ⟨A,4,none⟩=some (Iq a3)∧u.cell? ⟨A,5,none⟩=some (Iq a4)∧u.cell? ⟨A,6,none⟩=some (Iq a5)∧u.cell? ⟨A,7,none⟩=some (Iq a6)∧u.cell? ⟨A,8,none⟩=some (Iq a7)∧u.cell? ⟨A,9,none⟩=some (Iq a8)∧u.cell? ⟨A,10,none⟩=some (Iq a9)∧u.cell? ⟨A,11,none⟩=some (Iq b0)∧u.cell? ⟨A,12,none⟩=some (Iq b1)∧u.cell? ⟨A,13,none⟩=some (.string tx)∧u.cell? ⟨A,14,none⟩=some (.slice p m c)∧u.cell? ⟨A,15,none⟩=some (Iq up))∧u.cell? ⟨A+1+1,0,none⟩=some (Iq x)∧u.cell? ⟨A+1+1,1,none⟩=some (Iq y)∧u.cell? ⟨A+1+1,2,none⟩=some (Iq w)∧u.cell? ⟨A+1+1,3,none⟩=some (Iq h)):=fun u hu=>by
  have hb1:=(hu.block A (Array.getElem?_eq_some_iff.1 hn3).1 (fun e=>by injection e with e;omega)).trans hn3;have hb2:=(hu.block (A+1+1) (Array.getElem?_eq_some_iff.1 hi3).1 (fun e=>by injection e with e;omega)).trans hi3;refine⟨⟨?_,?_,?_,?_,?_,?_,?_,?_,?_,?_,?_,?_,?_,?_,?_,?_⟩,?_,?_,?_,?_⟩;all_goals first
   |(rw[Lib.cell_of_heap hb1];rfl)
   |(rw[Lib.cell_of_heap hb2];rfl)
 obtain⟨⟨z0,z1,z2,z3,z4,z5,z6,z7,z8,z9,z10,z11,z12,z13,z14,z15⟩,y0,y1,y2,y3⟩:=HS W3 (grown_of_below (Below.refl _ _));have p8:W3.cell? ⟨A+1,8,none⟩=some (Iq of):=by rw[Lib.cell_of_heap hp3];rfl
 have p9:W3.cell? ⟨A+1,9,none⟩=some (Iq rm):=by rw[Lib.cell_of_heap hp3];rfl
 have HM3:Hid (Memo W3 r H nn):=hM.grown_below HB3;have hAl0:A<W3.heap.size:=(Array.getElem?_eq_some_iff.1 hn3).1;have hne0:¬A=W3.heap.size:=by omega
 have RP:=qH<|fun u x0 y0 w0 h0=>kr_rep (X:=KrSpec kd a4 a5 a6 L ks Wd H x y w h of rm) hm hM u x0 y0 w0 h0;by_cases h01:kd=0∨kd=1;·-- a row,a col
  obtain⟨f,av,g,s,N,hf⟩:∃f av g s N,(kd=0∧f=98∧av=#[Pq mb,ndA kd a0 a1 a2 a3 a4 a5 a6 a7 a8 a9 b0 b1 tx (.slice p m c) up]∧g=97∧s=w∧N=fun j=>Wd (kdn ks j))∨(kd=1∧f=100∧av=#[Pq mb,ndA kd a0 a1 a2 a3 a4 a5 a6 a7 a8 a9 b0 b1 tx (.slice p m c) up,Iq w]∧g=99∧s=h∧N=fun j=>H (kdn ks j) w):=by
   rcases h01 with e|e;·exact⟨_,_,_,_,_,.inl ⟨e,rfl,rfl,rfl,rfl,rfl⟩⟩
   ·exact⟨_,_,_,_,_,.inr ⟨e,rfl,rfl,rfl,rfl,rfl⟩⟩
  have RW:Hid (∀u,(u=W3∨u=W3.drew)->Calls prog f av u fun e u'=>∃v,e=.returned v∧Hid (RwOut W3 u' r m L ks N H (nn+100*m) v)):=fun u hu=>by
   have hbu:Below W3.heap.size W3 u:=by
    rcases hu with rfl|rfl;·exact Below.refl _ _
    ·exact(Below.refl _ _).drew
   have hc:Calls prog f av u fun e u'=>∃v,e=.returned v∧RwOut u u' r m L ks N H (nn+100*m) v:=by
    rcases hf with⟨e,rfl,rfl,_,_,rfl⟩|⟨e,rfl,rfl,_,_,rfl⟩;·exact WR e u (HB3.trans (hbu.mono HB3.size)) (HM3.grown_below hbu)
    ·exact WC e u (HB3.trans (hbu.mono HB3.size)) (HM3.grown_below hbu)
   refine hc.mono ?_;rintro e u' ⟨v,rfl,lb,rfl,q1,q2,q3,q4⟩;exact⟨_,rfl,lb,rfl,q1,Nat.le_trans hbu.size q2,(grown_of_below hbu).trans q3,q4⟩
  have IN:Hid (∀v u,RwOut W3 u r m L ks N H (nn+100*m) v->Calls prog g #[.agg #[Iq x,Iq y,Iq w,Iq h],Iq a4,v] u fun e u'=>∃q cq,e=.returned (.slice q m cq)∧Hid (KrOut W3 u' r m H (nn+100*m) (KrSpec kd a4 a5 a6 L ks Wd H x y w h of rm) (.returned (.slice q m cq)))):=fun v u hv=>by
   obtain⟨G,hG⟩:=spl_one L ks N s a4;obtain⟨X,Y,P,Q,hXY⟩:∃X Y P Q:Nat->Int,(g=97∧s=w∧(∀k,X k=x+offs G (cl a4) k∧Y k=y∧P k=G k∧Q k=h)∨g=99∧s=h∧∀k,X k=x∧Y k=y+offs G (cl a4) k∧P k=w∧Q k=G k)∧((ks=[]∨KidSpl L ks N s a4 G)->(∀j,j<m->0≤G j∧G j≤100000)->KrSpec kd a4 a5 a6 L ks Wd H x y w h of rm X Y P Q):=by
    rcases hf with⟨rfl,_,_,e1,rfl,rfl⟩|⟨rfl,_,_,e1,rfl,rfl⟩;·exact⟨fun k=>_,fun k=>_,fun k=>_,fun k=>_,.inl ⟨e1,rfl,fun k=>⟨rfl,rfl,rfl,rfl⟩⟩,fun g1 g2=>⟨fun _=>⟨G,g1,by rw[hmm];exact g2,fun j _=>⟨rfl,rfl,rfl,rfl⟩⟩,nofun,nofun,nofun,fun e=>absurd rfl e⟩⟩
    ·exact⟨fun k=>_,fun k=>_,fun k=>_,fun k=>_,.inr ⟨e1,rfl,fun k=>⟨rfl,rfl,rfl,rfl⟩⟩,fun g1 g2=>⟨nofun,fun _=>⟨G,g1,by rw[hmm];exact g2,fun j _=>⟨rfl,rfl,rfl,rfl⟩⟩,nofun,nofun,fun _ e=>absurd rfl e⟩⟩
   refine(in_any g r m x y w h s a4 X Y P Q G L ks N H (nn+100*m) v W3 u hG hXY.1 hmm hm (by have:=HB3.size;omega) hx hy hw hh hv).mono ?_;rintro e u' ⟨lb,rfl,⟨o1,o2,o3⟩,g1,g2⟩;obtain⟨lv,_,_,v2,v3,v4⟩:=hv;exact⟨_,_,rfl,_,_,_,_,_,_,rfl,hXY.2 g1 g2,.inr ⟨lb,rfl,Nat.le_trans v3.size o2,o1⟩,v3.trans (grown_of_below o3),v4.grown_below o3⟩
  clear hn3 hp3 hi3 hM WR WC p8 p9 h01 RP;rcases hf with⟨hk,rfl,rfl,rfl,_,_⟩|⟨hk,rfl,rfl,rfl,_,_⟩;all_goals
   first
    |have e0:(kd==0)=true:=by simp[hk]
    |(have e0:(kd==0)=false:=(by simp[hk]);have e1:(kd==1)=true:=(by simp[hk]))
   clear hk;unfold ndA at RW⊢;go_enter func65,ntmps65;go_wp2_with fail;clear hW3 hA;go_region_held(fun W=>(W.cell? ⟨A,0,none⟩=some (Iq kd)∧W.cell? ⟨A,1,none⟩=some (Iq a0)∧W.cell? ⟨A,2,none⟩=some (Iq a1)∧W.cell? ⟨A,3,none⟩=some (Iq a2)∧W.cell? ⟨A,4,none⟩=some (Iq a3)∧W.cell? ⟨A,5,none⟩=some (Iq a4)∧W.cell? ⟨A,6,none⟩=some (Iq a5)∧W.cell? ⟨A,7,none⟩=some (Iq a6)∧W.cell? ⟨A,8,none⟩=some (Iq a7)∧W.cell? ⟨A,9,none⟩=some (Iq a8)∧W.cell? ⟨A,10,none⟩=some (Iq a9)∧W.cell? ⟨A,11,none⟩=some (Iq b0)∧W.cell? ⟨A,12,none⟩=some (Iq b1)∧W.cell? ⟨A,13,none⟩=some (.string tx)∧W.cell? ⟨A,14,none⟩=some (.slice p m c)∧W.cell? ⟨A,15,none⟩=some (Iq up))∧W.cell? ⟨A+1+1,0,none⟩=some (Iq x)∧W.cell? ⟨A+1+1,1,none⟩=some (Iq y)∧W.cell? ⟨A+1+1,2,none⟩=some (Iq w)∧W.cell? ⟨A+1+1,3,none⟩=some (Iq h)) (go_keep) (first|((first|go_at_call 98|go_at_call 100);refine Calls.mono (RW _ (by first|exact .inl rfl|exact .inr rfl)) ?_;rintro e u1 ⟨v1,rfl,HO⟩;obtain⟨⟨s0,s1,s2,s3,s4,s5,s6,s7,s8,s9,s10,s11,s12,s13,s14,s15⟩,e0,e1,e2,e3⟩:=HS u1 HO.g)|((first|go_at_call 97|go_at_call 99);refine Calls.mono (IN _ _ HO) ?_;rintro e u2 ⟨q,cq,rfl,HZ⟩;obtain⟨⟨t0,t1,t2,t3,t4,t5,t6,t7,t8,t9,t10,t11,t12,t13,t14,t15⟩,f0,f1,f2,f3⟩:=HS u2 (by obtain⟨_,_,_,_,_,_,_,_,_,hq,_⟩:=HZ.out;exact hq)));all_goals go_wp2;go_ret;exact HZ.base (grown_of_below HB3)
 by_cases k3:kd=3;·-- a box
  subst k3;obtain⟨i0,i1,i2,i3,hins⟩:∃i0 i1 i2 i3,insV x y w h (a6+a5)=rv i0 i1 i2 i3:=⟨_,_,_,_,rfl⟩;have HSP:Hid (KrSpec 3 a4 a5 a6 L ks Wd H x y w h of rm (fun _=>i0) (fun _=>i1) (fun _=>i2) (fun _=>i3)):=⟨nofun,nofun,fun _ j _=>hins,nofun,fun _ _ e=>absurd rfl e⟩;have FA:Hid (∀u,(u=W3∨u=W3.drew)->Calls prog 78 #[ndA 3 a0 a1 a2 a3 a4 a5 a6 a7 a8 a9 b0 b1 tx (.slice p m c) up] u fun e u'=>e=.returned (Iq (a6+a5))∧Hid (Below W3.heap.size W3 u')):=fun u hu=>by
   have hbu:Below W3.heap.size W3 u:=by
    rcases hu with rfl|rfl;·exact Below.refl _ _
    ·exact(Below.refl _ _).drew
   refine(frame_any 3 a0 a1 a2 a3 a4 a5 a6 a7 a8 a9 b0 b1 up tx p m c h5 h6 u).mono ?_;rintro e u' ⟨rfl,q⟩;exact⟨by unfold frmI;rw[if_pos rfl],hbu.trans (q.mono hbu.size)⟩
  have IS:Hid (∀u,Below W3.heap.size W3 u->Calls prog 101 #[.agg #[Iq x,Iq y,Iq w,Iq h],Iq (a6+a5)] u fun e u'=>e=.returned (.agg #[Iq i0,Iq i1,Iq i2,Iq i3])∧Hid (Below W3.heap.size W3 u')):=fun u hu=>by have:=inset_any x y w h (a6+a5) u;rw[hins]at this;refine this.mono ?_;rintro e u' ⟨rfl,q⟩;exact⟨rfl,hu.trans (q.below.mono hu.size)⟩
  have hAl2:A+1+1<W3.heap.size:=(Array.getElem?_eq_some_iff.1 hi3).1;have HFZ:Hid (∀u,Below W3.heap.size W3 u->∀j,u.frozen? ⟨A+1+1,j,none⟩=false):=fun u hu j=>frozen_of_row _ _ _ _ _ ((hu.block _ hAl2).trans hi3);have HNX:Hid (∀u,Below W3.heap.size W3 u->((((u.setCell ⟨A+1+1,0,none⟩ (Iq i0)).setCell ⟨A+1+1,1,none⟩ (Iq i1)).setCell ⟨A+1+1,2,none⟩ (Iq i2)).setCell ⟨A+1+1,3,none⟩ (Iq i3)).heap[A+1+1]?=some (.cells #[Iq i0,Iq i1,Iq i2,Iq i3] 48 (0,0))∧((((u.setCell ⟨A+1+1,0,none⟩ (Iq i0)).setCell ⟨A+1+1,1,none⟩ (Iq i1)).setCell ⟨A+1+1,2,none⟩ (Iq i2)).setCell ⟨A+1+1,3,none⟩ (Iq i3)).heap[A]?=some (.cells (ndC 3 a0 a1 a2 a3 a4 a5 a6 a7 a8 a9 b0 b1 tx (.slice p m c) up) 101 (0,0))∧Below U.heap.size U ((((u.setCell ⟨A+1+1,0,none⟩ (Iq i0)).setCell ⟨A+1+1,1,none⟩ (Iq i1)).setCell ⟨A+1+1,2,none⟩ (Iq i2)).setCell ⟨A+1+1,3,none⟩ (Iq i3))):=fun u hu=>by
   have hr4:R4 48 u (A+1+1) x y w h:=(hu.block _ hAl2).trans hi3;have hl:∀t,U.heap.size≤(⟨A+1+1,t,none⟩:Addr).block:=fun t=>by rw[hA];show A≤A+1+1;omega
   refine⟨hr4.set i0 i1 i2 i3,?_,((((HB3.trans (hu.mono HB3.size)).setCell (hl 0) _).setCell (hl 1) _).setCell (hl 2) _).setCell (hl 3) _⟩;have hne:A≠A+1+1:=by omega
   rw[Below.heap_setCell _ ⟨A+1+1,3,none⟩ _ _ hne,Below.heap_setCell _ ⟨A+1+1,2,none⟩ _ _ hne,Below.heap_setCell _ ⟨A+1+1,1,none⟩ _ _ hne,Below.heap_setCell _ ⟨A+1+1,0,none⟩ _ _ hne];exact(hu.block A (Array.getElem?_eq_some_iff.1 hn3).1).trans hn3
  unfold ndA at FA⊢;clear hn3 hp3 hi3 hM hins WR WC h01 HM3;go_enter func65,ntmps65;go_wp2_with fail;clear hW3 hA;go_region_with(first|(go_at_call 78;refine Calls.mono (FA _ (by first|exact .inl rfl|exact .inr rfl)) ?_;rintro e u1 ⟨rfl,HBu⟩;obtain⟨⟨s0,s1,s2,s3,s4,s5,s6,s7,s8,s9,s10,s11,s12,s13,s14,s15⟩,e0,e1,e2,e3⟩:=HS u1 (grown_of_below HBu))|(go_at_call 101;refine Calls.mono (IS _ HBu) ?_;rintro e u2 ⟨rfl,HBv⟩;obtain⟨⟨t0,t1,t2,t3,t4,t5,t6,t7,t8,t9,t10,t11,t12,t13,t14,t15⟩,f0,f1,f2,f3⟩:=HS u2 (grown_of_below HBv);have hfz:=HFZ u2 HBv));all_goals
   obtain⟨wc,hwc⟩:=nmd ((((u2.setCell ⟨A+1+1,0,none⟩ (Iq i0)).setCell ⟨A+1+1,1,none⟩ (Iq i1)).setCell ⟨A+1+1,2,none⟩ (Iq i2)).setCell ⟨A+1+1,3,none⟩ (Iq i3));have HCC:Hid (wc.heap[A+1+1]?=some (.cells #[Iq i0,Iq i1,Iq i2,Iq i3] 48 (0,0))∧wc.heap[A]?=some (.cells (ndC 3 a0 a1 a2 a3 a4 a5 a6 a7 a8 a9 b0 b1 tx (.slice p m c) up) 101 (0,0))∧Below U.heap.size U wc):=by rw[<-hwc];exact HNX u2 HBv
   have g0:wc.cell? ⟨A+1+1,0,none⟩=some (Iq i0):=by rw[Lib.cell_of_heap HCC.1];rfl
   have g1:wc.cell? ⟨A+1+1,1,none⟩=some (Iq i1):=by rw[Lib.cell_of_heap HCC.1];rfl
   have g2:wc.cell? ⟨A+1+1,2,none⟩=some (Iq i2):=by rw[Lib.cell_of_heap HCC.1];rfl
   have g3:wc.cell? ⟨A+1+1,3,none⟩=some (Iq i3):=by rw[Lib.cell_of_heap HCC.1];rfl
   have g14:wc.cell? ⟨A,14,none⟩=some (.slice p m c):=by rw[Lib.cell_of_heap HCC.2.1];rfl
   have hAl3:A<wc.heap.size:=(Array.getElem?_eq_some_iff.1 HCC.2.1).1;have hne:¬A=wc.heap.size:=by omega
   rw[hwc];clear hwc z0 z1 z2 z3 z4 z5 z6 z7 z8 z9 z10 z11 z12 z13 z14 z15 y0 y1 y2 y3 HS FA IS HFZ HNX s0 s1 s2 s3 s4 s5 s6 s7 s8 s9 s10 s11 s12 s13 s14 s15 e0 e1 e2 e3 t0 t1 t2 t3 t4 t5 t6 t7 t8 t9 t10 t11 t12 t13 t14 t15 f0 f1 f2 f3 hfz;go_wp2_with(go_at_call 102;refine Calls.mono (RP _ _ _ _ _ HCC.2.2 HSP) ?_;rintro e u3 ⟨q,cq,rfl,HZ⟩);go_ret;exact HZ
 by_cases k4:kd=4;·-- a scroll
  subst k4;have HSP:Hid (KrSpec 4 a4 a5 a6 L ks Wd H x y w h of rm (fun _=>x) (fun _=>y-of) (fun _=>w) (fun _=>h+rm)):=⟨nofun,nofun,nofun,fun _ j _=>⟨rfl,rfl,rfl,rfl⟩,fun _ _ _ e=>absurd rfl e⟩;have n1:¬A+1+1=A:=by omega
  have n2:¬A+1+1=A+1:=by omega
  have n3:¬A=A+1+1:=by omega
  have n4:¬A+1=A+1+1:=by omega
  have hfz:∀j,W3.frozen? ⟨A+1+1,j,none⟩=false:=fun j=>frozen_of_row _ _ _ _ _ hi3;have HB4:Hid (Below U.heap.size U ((W3.setCell ⟨A+1+1,1,none⟩ (Iq (y-of))).setCell ⟨A+1+1,3,none⟩ (Iq (h+rm)))):=(HB3.setCell (p:=⟨A+1+1,1,none⟩) (by rw[hA];show A≤A+1+1;omega) _).setCell (p:=⟨A+1+1,3,none⟩) (by rw[hA];show A≤A+1+1;omega) _;obtain⟨W4,hW4⟩:=nmd ((W3.setCell ⟨A+1+1,1,none⟩ (Iq (y-of))).setCell ⟨A+1+1,3,none⟩ (Iq (h+rm)));have hsz:W4.heap.size=W3.heap.size:=by rw[<-hW4];simp
  have RP4:Hid (Calls prog 102 #[Sq W3.heap.size 1 1,Iq (m:Int)] (((W3.setCell ⟨A+1+1,1,none⟩ (Iq (y-of))).setCell ⟨A+1+1,3,none⟩ (Iq (h+rm))).alloc (.cells #[Iq x,Iq (y-of),Iq w,Iq (h+rm)] 48)) fun e u'=>∃q cq,e=.returned (.slice q m cq)∧Hid (KrOut U u' r m H (nn+100*m) (KrSpec 4 a4 a5 a6 L ks Wd H x y w h of rm) (.returned (.slice q m cq)))):=by have:=RP W4 _ _ _ _ (by rw[<-hW4];exact HB4) HSP;rw[hsz]at this;rw[hW4];exact this
  unfold ndA;clear hn3 hp3 hi3 hM HS hW4 hsz WR WC h01 HM3 k3;go_enter func65,ntmps65;go_upto_region 3 with fail;clear hW3 hA;go_wp2_with(go_at_call 102;refine Calls.mono RP4 ?_;rintro e u2 ⟨q,cq,rfl,HZ⟩);go_ret;exact HZ
 have e0:(kd==0)=false:=by simp;omega
 have e1:(kd==1)=false:=by simp;omega
 have e3:(kd==3)=false:=by simp;omega
 have e4:(kd==4)=false:=by simp;omega
 have HSP:Hid (KrSpec kd a4 a5 a6 L ks Wd H x y w h of rm (fun _=>x) (fun _=>y) (fun _=>w) (fun _=>h)):=⟨by omega,by omega,by omega,by omega,fun _ _ _ _ j _=>⟨rfl,rfl,rfl,rfl⟩⟩;unfold ndA;clear hn3 hp3 hi3 hM HS WR WC HM3;go_enter func65,ntmps65;go_upto_region 3 with fail;clear hW3 hA;go_wp2_with(go_at_call 102;refine Calls.mono (RP _ _ _ _ _ HB3 HSP) ?_;rintro e u2 ⟨q,cq,rfl,HZ⟩);go_ret;exact HZ
