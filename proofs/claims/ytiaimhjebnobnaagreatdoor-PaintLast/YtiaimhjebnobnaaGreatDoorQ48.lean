import Derived.Test.YtiaimhjebnobnaaGreatDoorQ47
import Derived.Test.YtiaimhjebnobnaaGreatDoorQ46
set_option linter.all false
set_option maxRecDepth 100000
set_option maxHeartbeats 16000000
namespace Go.Proofs.YtiaimhjebnobnaaGreatDoor
open Go.RowKit Go.Sort Go.Proofs.Tryz
structure cY(kd a4 a5 a6:Int)(L:List Nd)(ks:List Nat)(Wd:Nat->Int)(H:Nat->Int->Int)(x y w h of rm:Int)(R0 R1 R2 R3:Nat->Int):Prop where
 row:kd=0->∃G,(ks=[]\/ci L ks (fun j=>Wd (aP ks j)) w a4 G)/\(∀j,j<ks.length->0<=G j/\G j<=100000)/\∀j,j<ks.length->R0 j=x+cR G (cl a4) j/\R1 j=y/\R2 j=G j/\R3 j=h
 col:kd=1->∃G,(ks=[]\/ci L ks (fun j=>H (aP ks j) w) h a4 G)/\(∀j,j<ks.length->0<=G j/\G j<=100000)/\∀j,j<ks.length->R0 j=x/\R1 j=y+cR G (cl a4) j/\R2 j=w/\R3 j=G j
 box:kd=3->∀j,j<ks.length->tJ x y w h (a6+a5)=rv (R0 j) (R1 j) (R2 j) (R3 j)
 scr:kd=4->∀j,j<ks.length->R0 j=x/\R1 j=y-of/\R2 j=w/\R3 j=h+rm
 rest:kd≠0->kd≠1->kd≠3->kd≠4->∀j,j<ks.length->R0 j=x/\R1 j=y/\R2 j=w/\R3 j=h
def kJ(U U':World)(r m:Nat)(H:Nat->Int->Int)(n:Nat)(X:(Nat->Int)->(Nat->Int)->(Nat->Int)->(Nat->Int)->Prop)(e:Ending):Prop:=∃q cq R0 R1 R2 R3,e=Rw (.slice q m cq)/\X R0 R1 R2 R3/\(m=0\/∃b,q=some (az b 0)/\U.heap.size<=b/\rY U' b m R0 R1 R2 R3)/\U.grownBy U' (some r)/\bN U' r H n
theorem kJ.base{U U0 U'}{r m}{H}{n}{X}{e}(h:kJ U U' r m H n X e)(h0:U0.grownBy U (some r)):kJ U0 U' r m H n X e:=by
 obtain⟨q,cq,R0,R1,R2,R3,h1,h2,h3,h4,h5⟩:=h;refine⟨q,cq,R0,R1,R2,R3,h1,h2,?_,h0.trans h4,h5⟩;rcases h3 with h3|⟨b,e,h6,h7⟩;·exact .inl h3
 ·exact .inr ⟨b,e,aO h0.size h6,h7⟩
theorem YC{W:World}{b m:Nat}{x y a c:Int}{Ls:List Value}(h:W.heap[b]?=some (.cells Ls.toArray 58 (0,0)))(hf:Fh 4 Ls m m [Iq x,Iq y,Iq a,Iq c]):rY W b m (fun _=>x) (fun _=>y) (fun _=>a) (fun _=>c):=by
 refine⟨(aM.1 h).1,fun j hj=>⟨?_,?_,?_,?_⟩⟩;·rw[Lib.cell_of_heap h];have:=hf.2 j 0 _ hj rfl;simpa using this
 ·rw[Lib.cell_of_heap h];have:=hf.2 j 1 _ hj rfl;simpa using this
 ·rw[Lib.cell_of_heap h];have:=hf.2 j 2 _ hj rfl;simpa using this
 ·rw[Lib.cell_of_heap h];have:=hf.2 j 3 _ hj rfl;simpa using this
theorem QK(m:Nat)(hm:m<=1000)  x y a c   u  :
 Cw 112 #[Sq u.heap.size 1 1,Iq (m:Int)] (u.alloc (.cells #[Iq x,Iq y,Iq a,Iq c] 58)) fun e u'=>∃q cq,e=Rw (.slice q m cq)/\Hid (m=0\/∃b,q=some (az b 0)/\u.heap.size<=b/\rY u' b m (fun _=>x) (fun _=>y) (fun _=>a) (fun _=>c))/\Hid (Bt u u'):=by
 have hb2:Bt u (u.alloc (.cells #[Iq x,Iq y,Iq a,Iq c] 58)):=(aj _ u).alloc (ai _) _;by_cases hz:m=0;·subst hz;refine(Ep (.inr (.inl ⟨rfl,rfl,rfl,rfl⟩)) (u.alloc (.cells #[Iq x,Iq y,Iq a,Iq c] 58)) u.heap.size).mono ?_;rintro e u' ⟨q,cq,rfl,hb⟩;exact⟨q,cq,rfl,.inl rfl,hb2.trans (hb.mono hb2.size)⟩
 ·refine(AQ (.inr (.inl ⟨rfl,rfl,rfl,rfl⟩)) (u.alloc (.cells #[Iq x,Iq y,Iq a,Iq c] 58)) [Iq x,Iq y,Iq a,Iq c] rfl (by simp[Value.oneCell']) u.heap.size m (by omega) (by simp) (fun k v hk=>?_)).mono ?_;·rw[World.cell?_alloc_at _ _ _ _ rfl];match k with
   |0=>exact hk
   |1=>exact hk
   |2=>exact hk
   |3=>exact hk
   |k+4=>cases hk
  ·rintro e u' ⟨rfl,⟨Ls,hl,hfl⟩,hb⟩;exact⟨_,_,rfl,.inr ⟨_,rfl,hb2.size,YC hl hfl⟩,hb2.trans (hb.mono hb2.size)⟩
theorem kJ.mono{U U'}{r m}{H}{n n'}{X}{e}(h:kJ U U' r m H n X e)(hn:n<=n'):kJ U U' r m H n' X e:=by obtain⟨q,cq,R0,R1,R2,R3,h1,h2,h3,h4,h5⟩:=h;exact⟨q,cq,R0,R1,R2,R3,h1,h2,h3,h4,h5.mono hn⟩
def ndC(kd a0 a1 a2 a3 a4 a5 a6 a7 a8 a9 b0 b1:Int)(tx:ByteArray)(kv:Value)(up:Int):Array Value:=#[Iq kd,Iq a0,Iq a1,Iq a2,Iq a3,Iq a4,Iq a5,Iq a6,Iq a7,Iq a8,Iq a9,Iq b0,Iq b1,.string tx,kv,Iq up]
theorem ZB{U}{r nn m:Nat}{H}{X}(hm:m<=200)(hM:bN U r H nn)  u   x0 y0 w0 h0  (hu:Bt U u) (hsp:X (fun _=>x0) (fun _=>y0) (fun _=>w0) (fun _=>h0)):
 Cw 112 #[Sq u.heap.size 1 1,Iq (m:Int)] (u.alloc (.cells #[Iq x0,Iq y0,Iq w0,Iq h0] 58)) fun e u'=>∃q cq,e=Rw (.slice q m cq)/\Hid (kJ U u' r m H (nn+100*m) X (.returned (.slice q m cq))):=by
 refine(QK m (by omega) x0 y0 w0 h0 u).mono ?_;rintro e u' ⟨q,cq,rfl,q1,q2⟩;have hb:=hu.trans (q2.mono hu.size);refine⟨q,cq,rfl,q,cq,_,_,_,_,rfl,hsp,?_,ac hb,(hM.grown_below hb).mono (by omega)⟩;rcases q1.out with e|⟨b,e,l,h⟩;·exact .inl e
 ·exact .inr ⟨b,e,aO hu.size l,h⟩
theorem xM(mb r nn m:Nat)(L:List Nd)(ks:List Nat)(Wd:Nat->Int)(H:Nat->Int->Int)(kd a0 a1 a2 a3 a4 a5 a6 a7 a8 a9 b0 b1 up:Int)(tx:ByteArray)(p:Option Addr)(c:Nat)(x y w h c0 c1 c2 c3 of rm:Int)(U:World)
 (hmm:ks.length=m) (hm:m<=200) (hM:Hid (bN U r H nn)) (hx:-1000000000000<=x/\x<=1000000000000) (hy:-1000000000000<=y/\y<=1000000000000) (hw:0<=w/\w<=100000) (hh:0<=h/\h<=100000) (h5:0<=a5/\a5<=1000000) (h6:0<=a6/\a6<=1000000) (Uy:0<=of/\of<=100000) (Gu:0<=rm/\rm<=100000)
 (WR:Hid (kd=0->∀u,Bt U u->bN u r H nn->Cw 108 #[Pq mb,gY kd a0 a1 a2 a3 a4 a5 a6 a7 a8 a9 b0 b1 tx (.slice p m c) up] u fun e u'=>∃v,e=Rw v/\jv u u' r m L ks (fun j=>Wd (aP ks j)) H (nn+100*m) v))
 (WC:Hid (kd=1->∀u,Bt U u->bN u r H nn->Cw 110 #[Pq mb,gY kd a0 a1 a2 a3 a4 a5 a6 a7 a8 a9 b0 b1 tx (.slice p m c) up,Iq w] u fun e u'=>∃v,e=Rw v/\jv u u' r m L ks (fun j=>H (aP ks j) w) H (nn+100*m) v)):
 Cw 60 #[Pq mb,gY kd a0 a1 a2 a3 a4 a5 a6 a7 a8 a9 b0 b1 tx (.slice p m c) up,.agg #[Iq x,Iq y,Iq w,Iq h,Iq c0,Iq c1,Iq c2,Iq c3,Iq of,Iq rm]] U fun e U'=>kJ U U' r m H (nn+100*m) (cY kd a4 a5 a6 L ks Wd H x y w h of rm) e:=by
 have kD:prog.follows .mixedOrders=true:=by kernel_rfl
 obtain⟨W3,kT⟩:=ag (((U.alloc (.cells (ndC kd a0 a1 a2 a3 a4 a5 a6 a7 a8 a9 b0 b1 tx (.slice p m c) up) 63)).alloc (.cells #[Iq x,Iq y,Iq w,Iq h,Iq c0,Iq c1,Iq c2,Iq c3,Iq of,Iq rm] 65)).alloc (.cells #[Iq x,Iq y,Iq w,Iq h] 58));obtain⟨A,hA⟩:=ag U.heap.size;have HB3:Hid (Bt U W3):=by rw[<-kT];exact((((Gr.refl U).alloc _).alloc _).alloc _).below
 have hn3:W3.heap[A]?=some (.cells (ndC kd a0 a1 a2 a3 a4 a5 a6 a7 a8 a9 b0 b1 tx (.slice p m c) up) 63 (0,0)):=by rw[<-kT,<-hA,du _ _ _ (by rw[aI,aI];omega),du _ _ _ (by rw[aI];omega)];exact heap_alloc_new _ _
 have Gs:W3.heap[A+1]?=some (.cells #[Iq x,Iq y,Iq w,Iq h,Iq c0,Iq c1,Iq c2,Iq c3,Iq of,Iq rm] 65 (0,0)):=by rw[<-kT,<-hA,du _ _ _ (by rw[aI,aI];omega),<-World.size_alloc];exact heap_alloc_new _ _
 have BF:W3.heap[A+1+1]?=some (.cells #[Iq x,Iq y,Iq w,Iq h] 58 (0,0)):=by rw[<-kT,<-hA,<-World.size_alloc,<-World.size_alloc];exact heap_alloc_new _ _
 unfold ndC at kT;have hrA:r<A:=by rw[<-hA];exact hM.lt
 have HS:Hid (∀u,W3.grownBy u (some r)->(u.cell? (az A 0)=some (Iq kd)/\u.cell? (az A 1)=some (Iq a0)/\u.cell? (az A 2)=some (Iq a1)/\u.cell? (az A 3)=some (Iq a2)/\u.cell? (az A 4)=some (Iq a3)/\u.cell? (az A 5)=some (Iq a4)/\u.cell? (az A 6)=some (Iq a5)/\u.cell? (az A 7)=some (Iq a6)/\u.cell? (az A 8)=some (Iq a7)/\u.cell? (az A 9)=some (Iq a8)/\u.cell? (az A 10)=some (Iq a9)/\u.cell? (az A 11)=some (Iq b0)/\u.cell? (az A 12)=some (Iq b1)/\u.cell? (az A 13)=some (.string tx)/\u.cell? (az A 14)=some (.slice p m c)/\u.cell? (az A 15)=some (Iq up))/\u.cell? (az (A+1+1) 0)=some (Iq x)/\u.cell? (az (A+1+1) 1)=some (Iq y)/\u.cell? (az (A+1+1) 2)=some (Iq w)/\u.cell? (az (A+1+1) 3)=some (Iq h)):=fun u hu=>by
  have hb1:=(hu.block A (aM.1 hn3).1 (fun e=>by injection e with e;omega)).trans hn3;have hb2:=(hu.block (A+1+1) (aM.1 BF).1 (fun e=>by injection e with e;omega)).trans BF;refine⟨⟨?_,?_,?_,?_,?_,?_,?_,?_,?_,?_,?_,?_,?_,?_,?_,?_⟩,?_,?_,?_,?_⟩;all_goals first
   |(rw[Lib.cell_of_heap hb1];rfl)
   |(rw[Lib.cell_of_heap hb2];rfl)
 obtain⟨⟨z0,z1,z2,z3,z4,z5,z6,z7,z8,z9,SU,SV,SW,SX,VY,SY⟩,y0,y1,y2,y3⟩:=HS W3 (ac (aj _ _));have p8:W3.cell? (az (A+1) 8)=some (Iq of):=by rw[Lib.cell_of_heap Gs];rfl
 have p9:W3.cell? (az (A+1) 9)=some (Iq rm):=by rw[Lib.cell_of_heap Gs];rfl
 have Ni:Hid (bN W3 r H nn):=hM.grown_below HB3;have zoB:A<W3.heap.size:=(aM.1 hn3).1;have zp1:¬A=W3.heap.size:=by omega
 have RP:=qH<|fun u x0 y0 w0 h0=>ZB (X:=cY kd a4 a5 a6 L ks Wd H x y w h of rm) hm hM u x0 y0 w0 h0;by_cases _W:kd=0\/kd=1;·-- a row,a col
  obtain⟨f,av,g,s,N,hf⟩:∃f av g s N,(kd=0/\f=108/\av=#[Pq mb,gY kd a0 a1 a2 a3 a4 a5 a6 a7 a8 a9 b0 b1 tx (.slice p m c) up]/\g=107/\s=w/\N=fun j=>Wd (aP ks j))\/(kd=1/\f=110/\av=#[Pq mb,gY kd a0 a1 a2 a3 a4 a5 a6 a7 a8 a9 b0 b1 tx (.slice p m c) up,Iq w]/\g=109/\s=h/\N=fun j=>H (aP ks j) w):=by
   rcases _W with e|e;·exact⟨_,_,_,_,_,.inl ⟨e,rfl,rfl,rfl,rfl,rfl⟩⟩
   ·exact⟨_,_,_,_,_,.inr ⟨e,rfl,rfl,rfl,rfl,rfl⟩⟩
  have RW:Hid (∀u,(u=W3\/u=W3.drew)->Cw f av u fun e u'=>∃v,e=Rw v/\Hid (jv W3 u' r m L ks N H (nn+100*m) v)):=fun u hu=>by
   have iD:Bt W3 u:=by
    rcases hu with rfl|rfl;·exact aj _ _
    ·exact(aj _ _).drew
   have hc:Cw f av u fun e u'=>∃v,e=Rw v/\jv u u' r m L ks N H (nn+100*m) v:=by
    rcases hf with⟨e,rfl,rfl,_,_,rfl⟩|⟨e,rfl,rfl,_,_,rfl⟩;·exact WR e u (HB3.trans (iD.mono HB3.size)) (Ni.grown_below iD)
    ·exact WC e u (HB3.trans (iD.mono HB3.size)) (Ni.grown_below iD)
   refine hc.mono ?_;rintro e u' ⟨v,rfl,lb,rfl,q1,q2,q3,q4⟩;exact⟨_,rfl,lb,rfl,q1,aO iD.size q2,(ac iD).trans q3,q4⟩
  have IN:Hid (∀v u,jv W3 u r m L ks N H (nn+100*m) v->Cw g #[.agg #[Iq x,Iq y,Iq w,Iq h],Iq a4,v] u fun e u'=>∃q cq,e=Rw (.slice q m cq)/\Hid (kJ W3 u' r m H (nn+100*m) (cY kd a4 a5 a6 L ks Wd H x y w h of rm) (.returned (.slice q m cq)))):=fun v u hv=>by
   obtain⟨G,hG⟩:=VF L ks N s a4;obtain⟨X,Y,P,Q,hXY⟩:∃X Y P Q:Nat->Int,(g=107/\s=w/\(∀k,X k=x+cR G (cl a4) k/\Y k=y/\P k=G k/\Q k=h)\/g=109/\s=h/\∀k,X k=x/\Y k=y+cR G (cl a4) k/\P k=w/\Q k=G k)/\((ks=[]\/ci L ks N s a4 G)->(∀j,j<m->0<=G j/\G j<=100000)->cY kd a4 a5 a6 L ks Wd H x y w h of rm X Y P Q):=by
    rcases hf with⟨rfl,_,_,e1,rfl,rfl⟩|⟨rfl,_,_,e1,rfl,rfl⟩;·exact⟨fun k=>_,fun k=>_,fun k=>_,fun k=>_,.inl ⟨e1,rfl,fun k=>⟨rfl,rfl,rfl,rfl⟩⟩,fun g1 g2=>⟨fun _=>⟨G,g1,by rw[hmm];exact g2,fun j _=>⟨rfl,rfl,rfl,rfl⟩⟩,nofun,nofun,nofun,fun e=>absurd rfl e⟩⟩
    ·exact⟨fun k=>_,fun k=>_,fun k=>_,fun k=>_,.inr ⟨e1,rfl,fun k=>⟨rfl,rfl,rfl,rfl⟩⟩,fun g1 g2=>⟨nofun,fun _=>⟨G,g1,by rw[hmm];exact g2,fun j _=>⟨rfl,rfl,rfl,rfl⟩⟩,nofun,nofun,fun _ e=>absurd rfl e⟩⟩
   refine(Zu g r m x y w h s a4 X Y P Q G L ks N H (nn+100*m) v W3 u hG hXY.1 hmm hm (by have:=HB3.size;omega) hx hy hw hh hv).mono ?_;rintro e u' ⟨lb,rfl,⟨o1,o2,o3⟩,g1,g2⟩;obtain⟨lv,_,_,v2,v3,v4⟩:=hv;exact⟨_,_,rfl,_,_,_,_,_,_,rfl,hXY.2 g1 g2,.inr ⟨lb,rfl,aO v3.size o2,o1⟩,v3.trans (ac o3),v4.grown_below o3⟩
  clear hn3 Gs BF hM WR WC p8 p9 _W RP;rcases hf with⟨hk,rfl,rfl,rfl,_,_⟩|⟨hk,rfl,rfl,rfl,_,_⟩;all_goals
   first
    |have e0:(kd==0)=true:=by simp[hk]
    |(have e0:(kd==0)=false:=(by simp[hk]);have e1:(kd==1)=true:=(by simp[hk]))
   clear hk;unfold gY at RW⊢;go_enter func60,ntmps60;go_wp2_with fail;clear kT hA;go_region_held(fun W=>(W.cell? (az A 0)=some (Iq kd)/\W.cell? (az A 1)=some (Iq a0)/\W.cell? (az A 2)=some (Iq a1)/\W.cell? (az A 3)=some (Iq a2)/\W.cell? (az A 4)=some (Iq a3)/\W.cell? (az A 5)=some (Iq a4)/\W.cell? (az A 6)=some (Iq a5)/\W.cell? (az A 7)=some (Iq a6)/\W.cell? (az A 8)=some (Iq a7)/\W.cell? (az A 9)=some (Iq a8)/\W.cell? (az A 10)=some (Iq a9)/\W.cell? (az A 11)=some (Iq b0)/\W.cell? (az A 12)=some (Iq b1)/\W.cell? (az A 13)=some (.string tx)/\W.cell? (az A 14)=some (.slice p m c)/\W.cell? (az A 15)=some (Iq up))/\W.cell? (az (A+1+1) 0)=some (Iq x)/\W.cell? (az (A+1+1) 1)=some (Iq y)/\W.cell? (az (A+1+1) 2)=some (Iq w)/\W.cell? (az (A+1+1) 3)=some (Iq h)) (go_keep) (first|((first|go_at_call 108|go_at_call 110);refine ao (RW _ (by first|exact .inl rfl|exact .inr rfl)) ?_;rintro e u1 ⟨v1,rfl,HO⟩;obtain⟨⟨s0,s1,s2,s3,s4,s5,s6,s7,s8,s9,Xz,XA,XB,XC,XD,XE⟩,e0,e1,e2,e3⟩:=HS u1 HO.g)|((first|go_at_call 107|go_at_call 109);refine ao (IN _ _ HO) ?_;rintro e u2 ⟨q,cq,rfl,HZ⟩;obtain⟨⟨t0,t1,t2,t3,t4,t5,t6,t7,t8,t9,t10,t11,t12,t13,t14,t15⟩,f0,f1,f2,f3⟩:=HS u2 (by obtain⟨_,_,_,_,_,_,_,_,_,hq,_⟩:=HZ.out;exact hq)));all_goals go_wp2;go_ret;exact HZ.base (ac HB3)
 by_cases k3:kd=3;·-- a box
  subst k3;obtain⟨i0,i1,i2,i3,Y7⟩:∃i0 i1 i2 i3,tJ x y w h (a6+a5)=rv i0 i1 i2 i3:=⟨_,_,_,_,rfl⟩;have BU:Hid (cY 3 a4 a5 a6 L ks Wd H x y w h of rm (fun _=>i0) (fun _=>i1) (fun _=>i2) (fun _=>i3)):=⟨nofun,nofun,fun _ j _=>Y7,nofun,fun _ _ e=>absurd rfl e⟩;have FA:Hid (∀u,(u=W3\/u=W3.drew)->Cw 104 #[gY 3 a0 a1 a2 a3 a4 a5 a6 a7 a8 a9 b0 b1 tx (.slice p m c) up] u fun e u'=>e=Rw (Iq (a6+a5))/\Hid (Bt W3 u')):=fun u hu=>by
   have iD:Bt W3 u:=by
    rcases hu with rfl|rfl;·exact aj _ _
    ·exact(aj _ _).drew
   refine(nt 3 a0 a1 a2 a3 a4 a5 a6 a7 a8 a9 b0 b1 up tx p m c h5 h6 u).mono ?_;rintro e u' ⟨rfl,q⟩;exact⟨by unfold jC;rw[if_pos rfl],iD.trans (q.mono iD.size)⟩
  have IS:Hid (∀u,Bt W3 u->Cw 111 #[.agg #[Iq x,Iq y,Iq w,Iq h],Iq (a6+a5)] u fun e u'=>e=Rw (.agg #[Iq i0,Iq i1,Iq i2,Iq i3])/\Hid (Bt W3 u')):=fun u hu=>by have:=Lp x y w h (a6+a5) u;rw[Y7]at this;refine this.mono ?_;rintro e u' ⟨rfl,q⟩;exact⟨rfl,hu.trans (q.below.mono hu.size)⟩
  have zbZ:A+1+1<W3.heap.size:=(aM.1 BF).1;have HFZ:Hid (∀u,Bt W3 u->∀j,u.frozen? (az (A+1+1) j)=false):=fun u hu j=>frozen_of_row _ _ _ _ _ ((hu.block _ zbZ).trans BF);have HNX:Hid (∀u,Bt W3 u->((((u.setCell (az (A+1+1) 0) (Iq i0)).setCell (az (A+1+1) 1) (Iq i1)).setCell (az (A+1+1) 2) (Iq i2)).setCell (az (A+1+1) 3) (Iq i3)).heap[A+1+1]?=some (.cells #[Iq i0,Iq i1,Iq i2,Iq i3] 58 (0,0))/\((((u.setCell (az (A+1+1) 0) (Iq i0)).setCell (az (A+1+1) 1) (Iq i1)).setCell (az (A+1+1) 2) (Iq i2)).setCell (az (A+1+1) 3) (Iq i3)).heap[A]?=some (.cells (ndC 3 a0 a1 a2 a3 a4 a5 a6 a7 a8 a9 b0 b1 tx (.slice p m c) up) 63 (0,0))/\Bt U ((((u.setCell (az (A+1+1) 0) (Iq i0)).setCell (az (A+1+1) 1) (Iq i1)).setCell (az (A+1+1) 2) (Iq i2)).setCell (az (A+1+1) 3) (Iq i3))):=fun u hu=>by
   have hr4:R4 58 u (A+1+1) x y w h:=(hu.block _ zbZ).trans BF;have hl:∀t,U.heap.size<=((az (A+1+1) t):Addr).block:=fun t=>by rw[hA];show A<=A+1+1;omega
   refine⟨hr4.set i0 i1 i2 i3,?_,((((HB3.trans (hu.mono HB3.size)).setCell (hl 0) _).setCell (hl 1) _).setCell (hl 2) _).setCell (hl 3) _⟩;have bZ:A≠A+1+1:=by omega
   rw[cF _ (az (A+1+1) 3) _ _ bZ,cF _ (az (A+1+1) 2) _ _ bZ,cF _ (az (A+1+1) 1) _ _ bZ,cF _ (az (A+1+1) 0) _ _ bZ];exact(hu.block A (aM.1 hn3).1).trans hn3
  unfold gY at FA⊢;clear hn3 Gs BF hM Y7 WR WC _W Ni;go_enter func60,ntmps60;go_wp2_with fail;clear kT hA;go_region_with(first|(go_at_call 104;refine ao (FA _ (by first|exact .inl rfl|exact .inr rfl)) ?_;rintro e u1 ⟨rfl,zv⟩;obtain⟨⟨s0,s1,s2,s3,s4,s5,s6,s7,s8,s9,Xz,XA,XB,XC,XD,XE⟩,e0,e1,e2,e3⟩:=HS u1 (ac zv))|(go_at_call 111;refine ao (IS _ zv) ?_;rintro e u2 ⟨rfl,HBv⟩;obtain⟨⟨t0,t1,t2,t3,t4,t5,t6,t7,t8,t9,t10,t11,t12,t13,t14,t15⟩,f0,f1,f2,f3⟩:=HS u2 (ac HBv);have Y4:=HFZ u2 HBv));all_goals
   obtain⟨wc,hwc⟩:=ag ((((u2.setCell (az (A+1+1) 0) (Iq i0)).setCell (az (A+1+1) 1) (Iq i1)).setCell (az (A+1+1) 2) (Iq i2)).setCell (az (A+1+1) 3) (Iq i3));have Bm:Hid (wc.heap[A+1+1]?=some (.cells #[Iq i0,Iq i1,Iq i2,Iq i3] 58 (0,0))/\wc.heap[A]?=some (.cells (ndC 3 a0 a1 a2 a3 a4 a5 a6 a7 a8 a9 b0 b1 tx (.slice p m c) up) 63 (0,0))/\Bt U wc):=by rw[<-hwc];exact HNX u2 HBv
   have g0:wc.cell? (az (A+1+1) 0)=some (Iq i0):=by rw[Lib.cell_of_heap Bm.1];rfl
   have g1:wc.cell? (az (A+1+1) 1)=some (Iq i1):=by rw[Lib.cell_of_heap Bm.1];rfl
   have g2:wc.cell? (az (A+1+1) 2)=some (Iq i2):=by rw[Lib.cell_of_heap Bm.1];rfl
   have g3:wc.cell? (az (A+1+1) 3)=some (Iq i3):=by rw[Lib.cell_of_heap Bm.1];rfl
   have g14:wc.cell? (az A 14)=some (.slice p m c):=by rw[Lib.cell_of_heap Bm.2.1];rfl
   have zoC:A<wc.heap.size:=(aM.1 Bm.2.1).1;have bZ:¬A=wc.heap.size:=by omega
   rw[hwc];clear hwc z0 z1 z2 z3 z4 z5 z6 z7 z8 z9 SU SV SW SX VY SY y0 y1 y2 y3 HS FA IS HFZ HNX s0 s1 s2 s3 s4 s5 s6 s7 s8 s9 Xz XA XB XC XD XE e0 e1 e2 e3 t0 t1 t2 t3 t4 t5 t6 t7 t8 t9 t10 t11 t12 t13 t14 t15 f0 f1 f2 f3 Y4;go_wp2_with(go_at_call 112;refine ao (RP _ _ _ _ _ Bm.2.2 BU) ?_;rintro e u3 ⟨q,cq,rfl,HZ⟩);go_ret;exact HZ
 by_cases k4:kd=4;·-- a scroll
  subst k4;have BU:Hid (cY 4 a4 a5 a6 L ks Wd H x y w h of rm (fun _=>x) (fun _=>y-of) (fun _=>w) (fun _=>h+rm)):=⟨nofun,nofun,nofun,fun _ j _=>⟨rfl,rfl,rfl,rfl⟩,fun _ _ _ e=>absurd rfl e⟩;have n1:¬A+1+1=A:=by omega
  have n2:¬A+1+1=A+1:=by omega
  have n3:¬A=A+1+1:=by omega
  have n4:¬A+1=A+1+1:=by omega
  have Y4:∀j,W3.frozen? (az (A+1+1) j)=false:=fun j=>frozen_of_row _ _ _ _ _ BF;have HB4:Hid (Bt U ((W3.setCell (az (A+1+1) 1) (Iq (y-of))).setCell (az (A+1+1) 3) (Iq (h+rm)))):=(HB3.setCell (p:=(az (A+1+1) 1)) (by rw[hA];show A<=A+1+1;omega) _).setCell (p:=(az (A+1+1) 3)) (by rw[hA];show A<=A+1+1;omega) _;obtain⟨W4,MH⟩:=ag ((W3.setCell (az (A+1+1) 1) (Iq (y-of))).setCell (az (A+1+1) 3) (Iq (h+rm)));have f_:W4.heap.size=W3.heap.size:=by rw[<-MH];simp
  have RP4:Hid (Cw 112 #[Sq W3.heap.size 1 1,Iq (m:Int)] (((W3.setCell (az (A+1+1) 1) (Iq (y-of))).setCell (az (A+1+1) 3) (Iq (h+rm))).alloc (.cells #[Iq x,Iq (y-of),Iq w,Iq (h+rm)] 58)) fun e u'=>∃q cq,e=Rw (.slice q m cq)/\Hid (kJ U u' r m H (nn+100*m) (cY 4 a4 a5 a6 L ks Wd H x y w h of rm) (.returned (.slice q m cq)))):=by have:=RP W4 _ _ _ _ (by rw[<-MH];exact HB4) BU;rw[f_]at this;rw[MH];exact this
  unfold gY;clear hn3 Gs BF hM HS MH f_ WR WC _W Ni k3;go_enter func60,ntmps60;go_upto_region 3 with fail;clear kT hA;go_wp2_with(go_at_call 112;refine ao RP4 ?_;rintro e u2 ⟨q,cq,rfl,HZ⟩);go_ret;exact HZ
 have e0:(kd==0)=false:=by simp;omega
 have e1:(kd==1)=false:=by simp;omega
 have e3:(kd==3)=false:=by simp;omega
 have e4:(kd==4)=false:=by simp;omega
 have BU:Hid (cY kd a4 a5 a6 L ks Wd H x y w h of rm (fun _=>x) (fun _=>y) (fun _=>w) (fun _=>h)):=⟨by omega,by omega,by omega,by omega,fun _ _ _ _ j _=>⟨rfl,rfl,rfl,rfl⟩⟩;unfold gY;clear hn3 Gs BF hM HS WR WC Ni;go_enter func60,ntmps60;go_upto_region 3 with fail;clear kT hA;go_wp2_with(go_at_call 112;refine ao (RP _ _ _ _ _ HB3 BU) ?_;rintro e u2 ⟨q,cq,rfl,HZ⟩);go_ret;exact HZ
def zR(ax ay aw ah bx fy bw bh:Int):Int:=if g_ ax aw bx bw>=jy ax aw bx bw\/g_ ay ah fy bh>=jy ay ah fy bh then 0 else g_ ax aw bx bw
def zS(ax ay aw ah bx fy bw bh:Int):Int:=if g_ ax aw bx bw>=jy ax aw bx bw\/g_ ay ah fy bh>=jy ay ah fy bh then 0 else g_ ay ah fy bh
def xz(ax ay aw ah bx fy bw bh:Int):Int:=if g_ ax aw bx bw>=jy ax aw bx bw\/g_ ay ah fy bh>=jy ay ah fy bh then 0 else jy ax aw bx bw-g_ ax aw bx bw
def zT(ax ay aw ah bx fy bw bh:Int):Int:=if g_ ax aw bx bw>=jy ax aw bx bw\/g_ ay ah fy bh>=jy ay ah fy bh then 0 else jy ay ah fy bh-g_ ay ah fy bh
theorem yo  ax ay aw ah bx fy bw bh  :xA ax ay aw ah bx fy bw bh=rv (zR ax ay aw ah bx fy bw bh) (zS ax ay aw ah bx fy bw bh) (xz ax ay aw ah bx fy bw bh) (zT ax ay aw ah bx fy bw bh):=by grind[xA,zR,zS,xz,zT]
def yS(P:Nat->Nat->Int)(c:Nat)(v:Nat->Int):Nat->Nat->Int:=fun q t=>if q=c then v t else P q t
def AK(P:Nat->Nat->Int)(i:Nat)(x y a b:Int)(t:Nat):Int:=
 if t=0 then x else if t=1 then y else if t=2 then a else if t=3 then b else if t=4 then zR x y a b (P i 4) (P i 5) (P i 6) (P i 7)else if t=5 then zS x y a b (P i 4) (P i 5) (P i 6) (P i 7)else if t=6 then xz x y a b (P i 4) (P i 5) (P i 6) (P i 7)else if t=7 then zT x y a b (P i 4) (P i 5) (P i 6) (P i 7)else 0
def Jl(P:Nat->Nat->Int)(i:Nat)(ks:List Nat)(R0 R1 R2 R3:Nat->Int):Nat->Nat->Nat->Int
 |0=>P
 |j+1=>yS (Jl P i ks R0 R1 R2 R3 j) (aP ks j) (AK P i (R0 j) (R1 j) (R2 j) (R3 j))
section
variable{P:Nat->Nat->Int} {i:Nat} {ks:List Nat} {R0 R1 R2 R3:Nat->Int}
theorem rP:∀j,(∀t,t<j->t<ks.length)->∀q,q∉ks->Jl P i ks R0 R1 R2 R3 j q=P q
 |0,_,q,_=>rfl
 |j+1,hj,q,hq=>by have:=rP j (fun t ht=>hj t (by omega)) q hq;funext t;show(if q=aP ks j then _ else Jl P i ks R0 R1 R2 R3 j q t)=_;rw[if_neg (fun e=>hq (by grind[gh])),this]
theorem UT(hn:ks.Nodup){a b}(ha:a<ks.length)(hb:b<ks.length)(e:aP ks a=aP ks b):a=b:=by
 unfold aP at e;rw[eR ha,eR hb]at e;rcases Nat.lt_trichotomy a b with h|h|h;·exact absurd e (Rq.1 hn a b ha hb h)
 ·exact h
 ·exact absurd e.symm (Rq.1 hn b a hb ha h)
theorem Jm(hn:ks.Nodup):∀j,j<=ks.length->∀a,a<j->Jl P i ks R0 R1 R2 R3 j (aP ks a)=AK P i (R0 a) (R1 a) (R2 a) (R3 a)
 |0,_,a,h=>by omega
 |j+1,hj,a,ha=>by
  funext t;show(if aP ks a=aP ks j then AK P i (R0 j) (R1 j) (R2 j) (R3 j) t else Jl P i ks R0 R1 R2 R3 j (aP ks a) t)=_;by_cases e:a=j;·grind
  ·rw[if_neg (fun q=>e (UT hn (by omega) (by omega) q)),Jm hn j (by omega) a (by omega)]
end
theorem Ch.ok{L}{d}{ks}{a e}(h:Ch L d ks a e):∀j,a<=j->j<e->ut (L j):=by
 induction h with
 |nil d a=>omega
 |@cons d c r e1 e h1 h2 h3 h4 i1 i2=>grind
theorem dZ.kidok{s}{L}(h:dZ s L)  j  (hj:j<L.length):ut (ae L j):=h.ch.ok j (aZ _) hj
structure dB(L:List Nd)(Wd:Nat->Int)(H:Nat->Int->Int)(w h:Int)(bi off:Nat->Int)(sn:Nat)(P:Nat->Nat->Int)(k:Nat):Prop where
 root:P 0 0=0/\P 0 1=0/\P 0 2=w/\P 0 3=h/\P 0 4=0/\P 0 5=0/\P 0 6=w/\P 0 7=h
 sc:∀i,i<L.length->i<k->(ae L i).kind=4->P i 9=ep (H (aP (ae L i).kids 0) (P i 2)) (P i 3)/\P i 8=min (max 0 (gN (aF (ae L i) 0) bi off sn)) (P i 9)
 no:∀i,i<L.length->(k<=i\/(ae L i).kind≠4)->P i 8=0/\P i 9=0
 kr:∀i,i<L.length->i<k->∃R0 R1 R2 R3,cY (ae L i).kind (aF (ae L i) 4) (aF (ae L i) 5) (aF (ae L i) 6) L (ae L i).kids Wd H (P i 0) (P i 1) (P i 2) (P i 3) (P i 8) (P i 9) R0 R1 R2 R3/\∀j,j<(ae L i).kids.length->∀t,t<8->P (aP (ae L i).kids j) t=AK P i (R0 j) (R1 j) (R2 j) (R3 j) t
 bd:∀i,i<L.length->-(((i:Int)+1)*100000000)<=P i 0/\P i 0<=((i:Int)+1)*100000000/\-(((i:Int)+1)*100000000)<=P i 1/\P i 1<=((i:Int)+1)*100000000/\0<=P i 2/\P i 2<=100000/\0<=P i 3/\P i 3<=100000
theorem Lo{x y a b n i0 i1 i2 i3}(h:tJ x y a b n=rv i0 i1 i2 i3):-200000<=i0/\i0<=200000/\-200000<=i1/\i1<=200000/\0<=i2/\i2<=100000/\0<=i3/\i3<=100000:=by unfold tJ at h;obtain⟨rfl,rfl,rfl,rfl⟩:=QR h;have h1:=di x;have h2:=di y;have h3:=cH a;have h4:=cH b;have h5:=cH n;omega
theorem cY.bd{kd a4 a5 a6}{L}{ks}{Wd}{H}{x y w h of rm}{R0 R1 R2 R3}(s:cY kd a4 a5 a6 L ks Wd H x y w h of rm R0 R1 R2 R3)(hm:ks.length<=100)(hw:0<=w/\w<=100000)(hh:0<=h/\h<=100000)(Uy:0<=of/\of<=100000)(Gu:0<=rm/\h+rm<=100000)  B  (hB:100000000<=B) (hx:-B<=x/\x<=B) (hy:-B<=y/\y<=B)  j  (hj:j<ks.length):
 -(B+100000000)<=R0 j/\R0 j<=B+100000000/\-(B+100000000)<=R1 j/\R1 j<=B+100000000/\0<=R2 j/\R2 j<=100000/\0<=R3 j/\R3 j<=100000:=by
 by_cases h0:kd=0;·obtain⟨G,g1,g2,g3⟩:=s.row h0;obtain⟨e0,e1,e2,e3⟩:=g3 j hj;have ho:=nP g2 (dU a4) j (by omega);grind
 ·by_cases h1:kd=1;·obtain⟨G,g1,g2,g3⟩:=s.col h1;obtain⟨e0,e1,e2,e3⟩:=g3 j hj;have ho:=nP g2 (dU a4) j (by omega);grind
  ·by_cases h3:kd=3;·have:=Lo (s.box h3 j hj);omega
   ·by_cases h4:kd=4;·obtain⟨e0,e1,e2,e3⟩:=s.scr h4 j hj;omega
    ·obtain⟨e0,e1,e2,e3⟩:=s.rest h0 h1 h3 h4 j hj;omega
theorem cY.congr{kd a4 a5 a6}{L}{ks}{Wd}{H}{x y w h of rm x' y' w' h' of' rm'}{R0 R1 R2 R3}(s:cY kd a4 a5 a6 L ks Wd H x y w h of rm R0 R1 R2 R3)(e0:x=x')(e1:y=y')(e2:w=w')(e3:h=h')(e4:of=of')(e5:rm=rm'):cY kd a4 a5 a6 L ks Wd H x' y' w' h' of' rm' R0 R1 R2 R3:=by grind
theorem dB.step{s}{L}{Wd}{H}{w h}{bi off}{sn k}{P P1}{R0 R1 R2 R3}(hT:dZ s L)(hS:Sz L Wd H)(hp:dB L Wd H w h bi off sn P k)(hk:k<L.length)
 (h1:∀q t,¬(q=k/\(t=8\/t=9))->P1 q t=P q t)
 (h4:(ae L k).kind=4->P1 k 9=ep (H (aP (ae L k).kids 0) (P k 2)) (P k 3)/\P1 k 8=min (max 0 (gN (aF (ae L k) 0) bi off sn)) (P1 k 9))
 (hn:(ae L k).kind≠4->P1 k 8=0/\P1 k 9=0)
 (hs:cY (ae L k).kind (aF (ae L k) 4) (aF (ae L k) 5) (aF (ae L k) 6) L (ae L k).kids Wd H (P1 k 0) (P1 k 1) (P1 k 2) (P1 k 3) (P1 k 8) (P1 k 9) R0 R1 R2 R3):
 dB L Wd H w h bi off sn (Jl P1 k (ae L k).kids R0 R1 R2 R3 (ae L k).kids.length) (k+1):=by
 obtain⟨ks,hks⟩:=ag ((ae L k).kids);rw[hks]at hs h4⊢;have jc:ks.Nodup:=by rw[<-hks];exact hT.nest.nd k hk
 have zh9:∀c,c∈ks->k<c/\c<L.length/\(ae L c).up=(k:Int):=fun c hc=>hT.nest.kid k c hk (by grind);have bY:ks.length<=100:=by rw[<-hks];exact hT.kids_le hk
 obtain⟨Q,hQ⟩:=ag (Jl P1 k ks R0 R1 R2 R3 ks.length);have q1:∀q,q∉ks->Q q=P1 q:=fun q hq=>by rw[<-hQ];grind[rP]
 have q2:∀a,a<ks.length->Q (aP ks a)=AK P1 k (R0 a) (R1 a) (R2 a) (R3 a):=fun a ha=>by rw[<-hQ];grind[Jm]
 rw[hQ];have ke:k∉ks:=fun hc=>by grind
 have hQk:=q1 k ke;have h00:0∉ks:=fun hc=>by grind
 have nk:∀i,i<k->i∉ks:=fun i hi hc=>by grind
 have mem:∀c,c∈ks->∃a,a<ks.length/\aP ks a=c:=fun c hc=>by obtain⟨a,ha,e⟩:=sY.1 hc;grind[aP]
 have WP:=hp.bd k hk;have e01:=h1 k 0 (by omega);have e11:=h1 k 1 (by omega);have e21:=h1 k 2 (by omega);have e31:=h1 k 3 (by omega);have Dr:0<=P1 k 8/\P1 k 8<=100000/\0<=P1 k 9/\P1 k 3+P1 k 9<=100000:=by
  by_cases e4:(ae L k).kind=4
  ·obtain⟨r1,r2⟩:=h4 e4;have Dm:aP ks 0<L.length:=by
    rcases hT.kidok k hk with q|⟨_,_,q⟩|⟨q,_⟩;·omega
    ·grind[gh]
    ·omega
   have hh:=hS.hb (aP ks 0) (P k 2) Dm;grind[ep]
  ·omega
 refine⟨?_,fun i hi SE e4=>?_,fun i hi SE=>?_,fun i hi SE=>?_,fun i hi=>?_⟩;·rw[q1 0 h00];have r:=hp.root;grind
 ·by_cases e:i=k;·grind
  ·rw[q1 i (nk i (by omega)),h1 i 9 (by omega),h1 i 8 (by omega),h1 i 2 (by omega),h1 i 3 (by omega)];exact hp.sc i hi (by omega) e4
 ·by_cases hm:i∈ks;·obtain⟨a,ha,rfl⟩:=mem i hm;rw[q2 a ha];exact⟨rfl,rfl⟩
  ·rw[q1 i hm];by_cases e:i=k;·grind
   ·rw[h1 i 8 (by omega),h1 i 9 (by omega)];exact hp.no i hi (by omega)
 ·by_cases e:i=k;·subst e;refine⟨R0,R1,R2,R3,by grind,fun j hj t ht=>?_⟩;rw[hks]at hj⊢;rw[q2 j hj];grind[AK]
  ·have hi':i<k:=by omega
   obtain⟨S0,S1,S2,S3,s1,s2⟩:=hp.kr i hi hi';have hQi:∀t,Q i t=P i t:=fun t=>by grind
   refine⟨S0,S1,S2,S3,by grind,fun j hj t ht=>?_⟩;have hc:=hT.nest.kid i _ hi (gh hj);have hcn:aP (ae L i).kids j∉ks:=fun q=>by grind
   grind[AK]
 ·by_cases hm:i∈ks;·have SE:=zh9 i hm;obtain⟨a,ha,rfl⟩:=mem i hm;rw[q2 a ha];have hb:=hs.bd bY (by omega) (by omega) ⟨Dr.1,Dr.2.1⟩ ⟨Dr.2.2.1,Dr.2.2.2⟩ (((k:Int)+1)*100000000) (by omega) (by omega) (by omega) a ha;show-(((aP ks a:Nat):Int)+1)*100000000<=R0 a/\_;show _<=R0 a/\R0 a<=_/\_<=R1 a/\R1 a<=_/\0<=R2 a/\R2 a<=100000/\0<=R3 a/\R3 a<=100000;omega
  ·rw[q1 i hm];have hb:=hp.bd i hi;grind
theorem Ck  a  :∀m,cS (fun _=>a) m=a*m
 |0=>rfl
 |m+1=>by show cS (fun _=>a) m+a=_;rw[Ck a m,Nat.mul_succ]
theorem Am{s}{L}{KV}{Wd}{H}  mb r g cap wb nn  (hT:dZ s L) (hS:Sz L Wd H)  i  (hi:i<L.length)  p   c  (pD:KV i=.slice p (ae L i).kids.length c)  x y w h c0 c1 c2 c3 of rm   U  (hU:Hs U mb r g cap wb L KV Wd H nn) (hn:nn<=10000000)
 (hx:-1000000000000<=x/\x<=1000000000000) (hy:-1000000000000<=y/\y<=1000000000000) (hw:0<=w/\w<=100000) (hh:0<=h/\h<=100000) (Uy:0<=of/\of<=100000) (Gu:0<=rm/\rm<=100000):
 Cw 60 #[Pq mb,gY (ae L i).kind (aF (ae L i) 0) (aF (ae L i) 1) (aF (ae L i) 2) (aF (ae L i) 3) (aF (ae L i) 4) (aF (ae L i) 5) (aF (ae L i) 6) (aF (ae L i) 7) (aF (ae L i) 8) (aF (ae L i) 9) (aF (ae L i) 10) (aF (ae L i) 11) ⟨(ae L i).text.toArray⟩ (.slice p (ae L i).kids.length c) (ae L i).up,.agg #[Iq x,Iq y,Iq w,Iq h,Iq c0,Iq c1,Iq c2,Iq c3,Iq of,Iq rm]] U fun e U'=>kJ U U' r (ae L i).kids.length H (nn+10000) (cY (ae L i).kind (aF (ae L i) 4) (aF (ae L i) 5) (aF (ae L i) 6) L (ae L i).kids Wd H x y w h of rm) e:=by
 have hbd:=(hT.vl.nv i hi).bd;have hc:=hT.vl.cnt;have dj:=hT.kids_le hi;have ru:ir U r p (ae L i).kids.length (fun t=>(aP (ae L i).kids t:Int)):=by obtain⟨p',c',e,hk⟩:=hU.view.kid i hi;rw[pD]at e;injection e with e1 e2 e3;rw[e1];exact hk
 have hcm:=Ck 100;refine(xM mb r nn _ L _ Wd H _ _ _ _ _ _ _ _ _ _ _ _ _ _ _ p c x y w h c0 c1 c2 c3 of rm U rfl (by omega) hU.memo hx hy hw hh (by omega) (by omega) Uy Gu (fun _ u hu Lc=>?_) (fun _ u hu Lc=>?_)).mono fun e U' h=>h.mono (by omega);·refine(qw mb r g cap wb nn L (ae L i).kids KV Wd H _ _ _ _ _ _ _ _ _ _ _ _ _ _ _ p c u (hU.view.grown (ac hu)) Lc (by omega) (fun j hj=>(dM hT hi hj).2) (by omega) (ru.grown (ac hu)) (fun j hj=>hS.wb j hj)).mono ?_;rintro e u' ⟨v,q0,lb,q1,q2,q3,q4,q5⟩;exact⟨v,q0,lb,q1,q2,q3,q4,q5.mono (by omega)⟩
 ·rw[<-hcm];exact zV mb r g cap wb nn w L (ae L i).kids (fun _=>100) KV Wd H _ _ _ _ _ _ _ _ _ _ _ _ _ _ _ p c u (hU.view.grown (ac hu)) Lc (by omega) (fun j hj=>(dM hT hi hj).2) (by omega) (ru.grown (ac hu)) (fun j v hj=>hS.hb j v hj) (fun j u' n' hj hu' MK hn'=>by have hk:=dM hT hi hj;rw[hcm]at hn'⊢;refine(vm mb r g cap wb hT hS _ w n' u' hk.2 hw.1 hw.2 (hU.grown ((ac hu).trans hu') MK) (by omega)).mono ?_;rintro e u2 ⟨rfl,q1,q2⟩;exact⟨rfl,q1,q2.mono (by omega)⟩)
theorem QA{U0 W}{r pb N n}{P}{H}(h:Pw U0 W r pb N P H n)(lR:U0.heap.size<=pb)(bZ:pb≠r)  cc   v   v0 v1 v2 v3 v4 v5 v6 v7 v8 v9  (e0:v0=v 0) (e1:v1=v 1) (e2:v2=v 2) (e3:v3=v 3) (e4:v4=v 4) (e5:v5=v 5) (e6:v6=v 6) (e7:v7=v 7) (e8:v8=v 8) (e9:v9=v 9):Pw U0 ((((((((((W.setCell (az pb (cc*10)) (Iq v0)).setCell (az pb (cc*10+1)) (Iq v1)).setCell (az pb (cc*10+2)) (Iq v2)).setCell (az pb (cc*10+3)) (Iq v3)).setCell (az pb (cc*10+4)) (Iq v4)).setCell (az pb (cc*10+5)) (Iq v5)).setCell (az pb (cc*10+6)) (Iq v6)).setCell (az pb (cc*10+7)) (Iq v7)).setCell (az pb (cc*10+8)) (Iq v8)).setCell (az pb (cc*10+9)) (Iq v9)) r pb N (yS P cc v) H n:=by
 have hh:=(((((((((h.set lR bZ cc 0 (by omega) v0).set lR bZ cc 1 (by omega) v1).set lR bZ cc 2 (by omega) v2).set lR bZ cc 3 (by omega) v3).set lR bZ cc 4 (by omega) v4).set lR bZ cc 5 (by omega) v5).set lR bZ cc 6 (by omega) v6).set lR bZ cc 7 (by omega) v7).set lR bZ cc 8 (by omega) v8).set lR bZ cc 9 (by omega) v9;refine⟨hh.g,hh.m,hh.row.congr fun q hq=>?_⟩;unfold lr yS bE;refine congrArg (Value.int .i64) ?_;by_cases e:q/10=cc
 ·rw[if_pos e];have:q %10=0\/q %10=1\/q %10=2\/q %10=3\/q %10=4\/q %10=5\/q %10=6\/q %10=7\/q %10=8\/q %10=9:=by omega
  grind
 grind
theorem sK(w:World)  N   T  :(w.alloc (.cells (madeCells #[Iq 0,Iq 0,Iq 0,Iq 0,Iq 0,Iq 0,Iq 0,Iq 0,Iq 0,Iq 0] (N*10)) T)).rowIs w.heap.size T (N*10) (lr fun _ _=>0):=by
 have:=World.rowIs_alloc w (madeCells #[Iq 0,Iq 0,Iq 0,Iq 0,Iq 0,Iq 0,Iq 0,Iq 0,Iq 0,Iq 0] (N*10)) T (lr fun _ _=>0) (fun i hi=>by
  rw[size_madeCells]at hi;unfold lr;simp only[madeCells];have:i %10=0\/i %10=1\/i %10=2\/i %10=3\/i %10=4\/i %10=5\/i %10=6\/i %10=7\/i %10=8\/i %10=9:=by omega
  rcases this with e|e|e|e|e|e|e|e|e|e<;>simp[e,hi]);rw[size_madeCells]at this;omega
theorem Zw:(prog.info? 65).map (fun i=>(i.zero,i.size,i.bytes))=some (some (.agg #[Iq 0,Iq 0,Iq 0,Iq 0,Iq 0,Iq 0,Iq 0,Iq 0,Iq 0,Iq 0]),10,80):=by kernel_rfl
def zbk(U U':World)(r N:Nat)(L:List Nd)(Wd:Nat->Int)(H:Nat->Int->Int)(w h:Int)(bi off:Nat->Int)(sn:Nat)(e:Ending):Prop:=∃pb P,e=Rw (Sq pb N N)/\U'.rowIs pb 65 (N*10) (lr P)/\dB L Wd H w h bi off sn P N/\U.grownBy U' (some r)/\U.heap.size<=pb
def p00(w h:Int)(t:Nat):Int:=if t=2\/t=6 then w else if t=3\/t=7 then h else 0
def tw(u:World)(pb o:Nat)(x0 x1 x2 x3 x4 x5 x6 x7 x8 x9:Int):World:=((((((((((u.setCell (az pb o) (Iq x0)).setCell (az pb (o+1)) (Iq x1)).setCell (az pb (o+2)) (Iq x2)).setCell (az pb (o+3)) (Iq x3)).setCell (az pb (o+4)) (Iq x4)).setCell (az pb (o+5)) (Iq x5)).setCell (az pb (o+6)) (Iq x6)).setCell (az pb (o+7)) (Iq x7)).setCell (az pb (o+8)) (Iq x8)).setCell (az pb (o+9)) (Iq x9))
theorem JA{u}{pb o}{x0 x1 x2 x3 x4 x5 x6 x7 x8 x9}  b' o'  (h:b'≠pb\/o'<o\/o+9<o'):(tw u pb o x0 x1 x2 x3 x4 x5 x6 x7 x8 x9).cell? (az b' o')=u.cell? (az b' o'):=by
 unfold tw;iterate 10 rw[eu]
 all_goals grind
theorem VO{u}{pb o}{x0 x1 x2 x3 x4 x5 x6 x7 x8 x9}  b'  (h:b'≠pb):(tw u pb o x0 x1 x2 x3 x4 x5 x6 x7 x8 x9).heap[b']?=u.heap[b']?:=by unfold tw;iterate 10 rw[cF _ (az pb _) _ _ h]
theorem Hd{s:ByteArray}{L:List Nd}{KV:Nat->Value}{Wd:Nat->Int}{H:Nat->Int->Int}(mb r g cap wb:Nat)(hT:dZ s L)(hS:Sz L Wd H)(w h:Int)(sp:Option Addr)(sn sc:Nat)(bi off:Nat->Int)(U:World)(hU:Hs U mb r g cap wb L KV Wd H 0)(hw:1<=w/\w<=400)(hh:1<=h/\h<=400)(hsc:mg U sp sn bi off)(xj:sn<=4611686018427387904)(hsp:∀a:Addr,sp=some a->a.block<U.heap.size):
 Cw 30 #[Pq mb,Iq w,Iq h,.slice sp sn sc] U fun e U'=>zbk U U' r L.length L Wd H w h bi off sn e:=by
 have kD:prog.follows .mixedOrders=true:=by kernel_rfl
 obtain⟨N,hN⟩:=ag L.length;have hc:=hT.vl.cnt;have fZ:=hT.pos;have zca:N<=100:=by omega
 obtain⟨i0,hi,eG,fs,gd⟩:=info_parts Zw;have iU:∀W:World,(Instr.makeSlice 46 (Iq (N:Int)) (Iq (N:Int))).run prog W=.ok (Sq W.heap.size N N) (W.alloc (.cells (madeCells #[Iq 0,Iq 0,Iq 0,Iq 0,Iq 0,Iq 0,Iq 0,Iq 0,Iq 0,Iq 0] (N*10)) 65)):=fun W=>by have:=run_make (P:=prog) W 46 65 i0 _ underlying46 hi eG .i64 .i64 N N (by omega) (li _) (by grind) (by omega);rw[fs,lY]at this;exact this
 clear hi eG fs gd;obtain⟨A,hA⟩:=ag U.heap.size;obtain⟨pb,lR⟩:=ag (A+1);have xh:=hU.view.ms;rw[hN]at xh;have HMS:Hid (∀u,U.grownBy u (some r)->u.cell? (az mb 0)=some (Sq g N cap)):=fun u hu=>by have:=(hu.block mb hU.view.ml (fun e=>hU.view.mr (by grind))).trans xh;rw[Lib.cell_of_heap this];rfl
 have m0:=HMS U (ac (aj _ _));have tG:=hU.memo.lt;have MO:pb≠r:=by omega
 have hpU:U.heap.size<=pb:=by omega
 have HU:Hid (Hs U mb r g cap wb L KV Wd H 0):=hU;obtain⟨W2,pU⟩:=ag ((U.alloc (.cells #[Iq 0,Iq 0,Iq w,Iq h] 58)).alloc (.cells (madeCells #[Iq 0,Iq 0,Iq 0,Iq 0,Iq 0,Iq 0,Iq 0,Iq 0,Iq 0,Iq 0] (N*10)) 65));have HB2:Hid (Bt U W2):=by rw[<-pU];exact(((Gr.refl U).alloc _).alloc _).below
 have oi:W2.heap[A]?=some (.cells #[Iq 0,Iq 0,Iq w,Iq h] 58 (0,0)):=by rw[<-pU,<-hA,du _ _ _ (by rw[aI];omega)];exact heap_alloc_new _ _
 have hr2:W2.rowIs pb 65 (N*10) (lr fun _ _=>0):=by have:=sK (U.alloc (.cells #[Iq 0,Iq 0,Iq w,Iq h] 58)) N 65;rw[aI,hA,lR,pU]at this;exact this
 have xt:Hid (Pw U W2 r pb N (fun _ _=>0) H 0):=⟨ac HB2,hU.memo.grown_below HB2,hr2⟩;have jm:Hid (Pw U ((((((((((W2.setCell (az pb 0) (Iq 0)).setCell (az pb 1) (Iq 0)).setCell (az pb 2) (Iq w)).setCell (az pb 3) (Iq h)).setCell (az pb 4) (Iq 0)).setCell (az pb 5) (Iq 0)).setCell (az pb 6) (Iq w)).setCell (az pb 7) (Iq h)).setCell (az pb 8) (Iq 0)).setCell (az pb 9) (Iq 0)) r pb N (yS (fun _ _=>0) 0 (p00 w h)) H 0):=QA xt hpU MO 0 (p00 w h) 0 0 w h 0 0 w h 0 0 rfl rfl rfl rfl rfl rfl rfl rfl rfl rfl;have Th:Hid (dB L Wd H w h bi off sn (yS (fun _ _=>0) 0 (p00 w h)) 0):=by
  have e0:∀i t,i≠0->yS (fun _ _=>0) 0 (p00 w h) i t=0:=fun i t hi=>if_neg hi;refine⟨⟨rfl,rfl,rfl,rfl,rfl,rfl,rfl,rfl⟩,fun i _ hi=>by omega,fun i _ _=>?_,fun i _ hi=>by omega,fun i _=>?_⟩
  ·by_cases e:i=0;·subst e;exact⟨rfl,rfl⟩
   grind
  ·by_cases e:i=0;·subst e;show _<=(0:Int)/\(0:Int)<=_/\_<=(0:Int)/\(0:Int)<=_/\0<=w/\w<=100000/\0<=h/\h<=100000;omega
   grind
 have c0:W2.cell? (az A 0)=some (Iq 0):=by rw[Lib.cell_of_heap oi];rfl
 have c1:W2.cell? (az A 1)=some (Iq 0):=by rw[Lib.cell_of_heap oi];rfl
 have c2:W2.cell? (az A 2)=some (Iq w):=by rw[Lib.cell_of_heap oi];rfl
 have c3:W2.cell? (az A 3)=some (Iq h):=by rw[Lib.cell_of_heap oi];rfl
 have m2:=HMS W2 (ac HB2);have Sy:=fun j=>hr2.frozen j;have d0:W2.cell? (az pb 0)=some (Iq 0):=hr2.cell (by omega);have d1:W2.cell? (az pb 1)=some (Iq 0):=hr2.cell (by omega);have d2:W2.cell? (az pb 2)=some (Iq 0):=hr2.cell (by omega);have d3:W2.cell? (az pb 3)=some (Iq 0):=hr2.cell (by omega);have d4:W2.cell? (az pb 4)=some (Iq 0):=hr2.cell (by omega);have d5:W2.cell? (az pb 5)=some (Iq 0):=hr2.cell (by omega);have d6:W2.cell? (az pb 6)=some (Iq 0):=hr2.cell (by omega);have d7:W2.cell? (az pb 7)=some (Iq 0):=hr2.cell (by omega);have d8:W2.cell? (az pb 8)=some (Iq 0):=hr2.cell (by omega);have d9:W2.cell? (az pb 9)=some (Iq 0):=hr2.cell (by omega);have BI:=hr2.lt;have zc0:(0:Int)<(N:Int):=by omega
 have zp5:¬pb=mb:=by have:=HU.view.ml;omega
 have zp6:¬mb=pb:=by omega
 have zp7:¬A=pb:=by omega
 have zp9:¬mb=A:=by have:=HU.view.ml;omega
 have zp_:mb<A:=by have:=HU.view.ml;omega
 have zp8:¬pb=A:=by omega
 have _D:Hid (U.heap.size=A/\A+1=pb):=⟨hA,lR⟩;clear xh oi hr2 hU;go_enter func30,ntmps30;go_upto_region 3 with fail;clear pU hA iU lR m0;go_wp2_with fail;go_loopw[34] (fun iv wr=>∃(i:Nat) (P:Nat->Nat->Int),i<=N/\iv=Iq (i:Int)/\Hid (Pw U wr r pb N P H (20000*i))/\Hid (dB L Wd H w h bi off sn P i)) (fun iv _=>N-(intOf iv).toNat);case atStart=>grind
 case round=>
  obtain⟨i,P,hiN,rfl,HP,HL⟩:=hrel;clear c0 c1 c2 c3 m2 Sy d0 d1 d2 d3 d4 d5 d6 d7 d8 d9 BI xt jm Th;by_cases hlt:i<N
  ·have aN:(i:Int)<(N:Int):=by omega
   have pC:i<L.length:=by omega
   have hHs:∀u n,U.grownBy u (some r)->bN u r H n->Hs u mb r g cap wb L KV Wd H n:=fun u n hg hm=>HU.grown hg hm;obtain⟨p,c,pD,ru⟩:=HU.view.kid i pC;have kC:=nR (HU.view.len i pC) (KV i);have jc:=HU.view.nd i pC;rw[kC,pD]at jc;have kV:=HU.view.gl;have fY:=HU.view.gr;have hbd:=HL.bd i pC;have hbN:((i:Int)+1)*100000000<=10000000000:=by omega
   have zcU:=HL.no i pC (.inl (ai _));have dj:=hT.kids_le pC;have Lb:=HP.out;have KR:Hid (∀u n (of rm c0 c1 c2 c3:Int),U.grownBy u (some r)->bN u r H n->n<=10000000->(0<=of/\of<=100000)->(0<=rm/\rm<=100000)->Cw 60 #[Pq mb,gY (ae L i).kind (aF (ae L i) 0) (aF (ae L i) 1) (aF (ae L i) 2) (aF (ae L i) 3) (aF (ae L i) 4) (aF (ae L i) 5) (aF (ae L i) 6) (aF (ae L i) 7) (aF (ae L i) 8) (aF (ae L i) 9) (aF (ae L i) 10) (aF (ae L i) 11) ⟨(ae L i).text.toArray⟩ (.slice p (ae L i).kids.length c) (ae L i).up,.agg #[Iq (P i 0),Iq (P i 1),Iq (P i 2),Iq (P i 3),Iq c0,Iq c1,Iq c2,Iq c3,Iq of,Iq rm]] u fun e u'=>kJ u u' r (ae L i).kids.length H (n+10000) (cY (ae L i).kind (aF (ae L i) 4) (aF (ae L i) 5) (aF (ae L i) 6) L (ae L i).kids Wd H (P i 0) (P i 1) (P i 2) (P i 3) of rm) e):=fun u n of rm c0 c1 c2 c3 hg hm hn Uy Gu=>
    Am mb r g cap wb n hT hS i pC p c pD (P i 0) (P i 1) (P i 2) (P i 3) c0 c1 c2 c3 of rm u (hHs u n hg hm) hn (by omega) (by omega) ⟨hbd.2.2.2.2.1,hbd.2.2.2.2.2.1⟩ ⟨hbd.2.2.2.2.2.2.1,hbd.2.2.2.2.2.2.2⟩ Uy Gu;have ye:Hid ((ae L i).kind=4->∀u,Pw U u r pb N P H (20000*i)->Cw 59 #[Pq mb,.pointer (some (az pb (i*10))),gY 4 (aF (ae L i) 0) (aF (ae L i) 1) (aF (ae L i) 2) (aF (ae L i) 3) (aF (ae L i) 4) (aF (ae L i) 5) (aF (ae L i) 6) (aF (ae L i) 7) (aF (ae L i) 8) (aF (ae L i) 9) (aF (ae L i) 10) (aF (ae L i) 11) ⟨(ae L i).text.toArray⟩ (.slice p (ae L i).kids.length c) (ae L i).up,.slice sp sn sc] u fun e u'=>e=Rw (.tuple #[])/\Pw U u' r pb N (bE (bE P i 9 (ep (H (aP (ae L i).kids 0) (P i 2)) (P i 3))) i 8 (min (max 0 (gN (aF (ae L i) 0) bi off sn)) (ep (H (aP (ae L i).kids 0) (P i 2)) (P i 3)))) H (20000*i+100)/\Hid (∀b,b<u.heap.size->b≠r->b≠pb->u'.heap[b]?=u.heap[b]?)):=fun h4 u hu=>by
    have Ag:(ae L i).kids.length=1:=by
     rcases hT.kidok i pC with q|⟨_,_,q⟩|⟨q,_⟩;·omega
     ·exact q
     ·omega
    have hkd:=dM hT pC (j:=0) (by omega);refine Hr mb r pb N i (aP (ae L i).kids 0) (20000*i) P H (aF (ae L i) 0) (aF (ae L i) 1) (aF (ae L i) 2) (aF (ae L i) 3) (aF (ae L i) 4) (aF (ae L i) 5) (aF (ae L i) 6) (aF (ae L i) 7) (aF (ae L i) 8) (aF (ae L i) 9) (aF (ae L i) 10) (aF (ae L i) 11) (ae L i).up ⟨(ae L i).text.toArray⟩ p (ae L i).kids.length c sp sn sc bi off U u hu hpU MO hlt (by omega) (by omega) ?_ (hS.hb _ _ hkd.2) ⟨hbd.2.2.2.2.2.2.1,hbd.2.2.2.2.2.2.2⟩ (fun v hv=>vm mb r g cap wb hT hS _ _ _ v hkd.2 hbd.2.2.2.2.1 hbd.2.2.2.2.2.1 (hHs v _ hv.g hv.m) (by omega)) (fun v P' n' hv=>?_);·obtain⟨b,o,e,q1,q2,q3⟩:=ru.resolve_left (by omega);exact⟨b,o,e,q1,q2,by have:=q3 0 (by omega);exact this⟩
    ·refine(G5 (aF (ae L i) 0) sp sn sc bi off v ((hsc.kept HU.memo hv.g)) xj (fun a e=>zz008 (hsp a e) hv.g.size)).mono ?_;rintro e v' ⟨rfl,q⟩;exact⟨rfl,q⟩
   have BT:Hid (∀j,j<(ae L i).kids.length->i<aP (ae L i).kids j/\aP (ae L i).kids j<N):=fun j hj=>by have:=dM hT pC hj;omega
   have HKP:Hid ((ae L i).kind=4->0<(ae L i).kids.length):=fun h4=>by rcases hT.kidok i pC with q|⟨_,_,q⟩|⟨q,_⟩<;>omega
   have HKB:Hid ((ae L i).kids.length=0\/∃b o,p=some (az b o)/\b<U.heap.size/\b≠r/\∀j,j<(ae L i).kids.length->U.cell? (az b (o+j))=some (Iq (aP (ae L i).kids j:Int))):=ru;have gp:Hid (∀P1 R0 R1 R2 R3,(∀q t,¬(q=i/\(t=8\/t=9))->P1 q t=P q t)->((ae L i).kind=4->P1 i 9=ep (H (aP (ae L i).kids 0) (P i 2)) (P i 3)/\P1 i 8=min (max 0 (gN (aF (ae L i) 0) bi off sn)) (P1 i 9))->((ae L i).kind≠4->P1 i 8=0/\P1 i 9=0)->cY (ae L i).kind (aF (ae L i) 4) (aF (ae L i) 5) (aF (ae L i) 6) L (ae L i).kids Wd H (P1 i 0) (P1 i 1) (P1 i 2) (P1 i 3) (P1 i 8) (P1 i 9) R0 R1 R2 R3->dB L Wd H w h bi off sn (Jl P1 i (ae L i).kids R0 R1 R2 R3 (ae L i).kids.length) (i+1)):=fun P1 R0 R1 R2 R3 q1 q2 q3 q4=>HL.step hT hS pC q1 q2 q3 q4;generalize hkn:(ae L i).kind=kn at jc KR ye gp HKP;generalize(ae L i).kids=ks at jc KR ye gp BT HKB HKP dj;generalize(ae L i).up=up at jc KR ye;generalize(ae L i).text.toArray=_g at jc KR ye;generalize aF (ae L i) 0=a0 at jc KR ye gp;generalize aF (ae L i) 1=a1 at jc KR ye gp;generalize aF (ae L i) 2=a2 at jc KR ye gp;generalize aF (ae L i) 3=a3 at jc KR ye gp;generalize aF (ae L i) 4=a4 at jc KR ye gp;generalize aF (ae L i) 5=a5 at jc KR ye gp;generalize aF (ae L i) 6=a6 at jc KR ye gp;generalize aF (ae L i) 7=a7 at jc KR ye gp;generalize aF (ae L i) 8=a8 at jc KR ye gp;generalize aF (ae L i) 9=a9 at jc KR ye gp;generalize aF (ae L i) 10=b0 at jc KR ye gp;generalize aF (ae L i) 11=b1 at jc KR ye gp;obtain⟨tx,xH⟩:∃z:ByteArray,⟨_g⟩=z:=⟨_,rfl⟩;rw[xH]at jc KR ye;obtain⟨m,hm⟩:=ag ks.length;rw[hm]at jc KR ye gp BT HKB HKP dj;obtain⟨kd,hkd⟩:∃z:Int,(kn:Int)=z:=⟨_,rfl⟩;rw[hkd]at jc KR gp;have HQ:Hid (∀u,U.grownBy u (some r)->∀(t:Nat) x,[Iq kd,Iq a0,Iq a1,Iq a2,Iq a3,Iq a4,Iq a5,Iq a6,Iq a7,Iq a8,Iq a9,Iq b0,Iq b1,.string tx,.slice p m c,Iq up][t]?=some x->u.cell? (az g (i*16+t))=some x):=fun u hu t x ht=>(bU (a:=(az g (i*16+t))) (hu.block g kV (fun e=>fY (by injection e)))).trans (jc t x ht);have q0:wr.cell? (az g (i*16))=some (Iq kd):=HQ wr HP.g 0 _ rfl;have q1:=HQ wr HP.g 1 _ rfl;have q2:=HQ wr HP.g 2 _ rfl;have q3:=HQ wr HP.g 3 _ rfl;have q4:=HQ wr HP.g 4 _ rfl;have q5:=HQ wr HP.g 5 _ rfl;have q6:=HQ wr HP.g 6 _ rfl;have q7:=HQ wr HP.g 7 _ rfl;have q8:=HQ wr HP.g 8 _ rfl;have q9:=HQ wr HP.g 9 _ rfl;have q10:=HQ wr HP.g 10 _ rfl;have q11:=HQ wr HP.g 11 _ rfl;have q12:=HQ wr HP.g 12 _ rfl;have q13:=HQ wr HP.g 13 _ rfl;have q14:=HQ wr HP.g 14 _ rfl;have q15:=HQ wr HP.g 15 _ rfl;obtain⟨W1,cC⟩:=ag (wr.alloc (.cells #[Iq kd,Iq a0,Iq a1,Iq a2,Iq a3,Iq a4,Iq a5,Iq a6,Iq a7,Iq a8,Iq a9,Iq b0,Iq b1,.string tx,.slice p m c,Iq up] 63));obtain⟨An,hAn⟩:=ag wr.heap.size;have b9:W1.heap[An]?=some (.cells #[Iq kd,Iq a0,Iq a1,Iq a2,Iq a3,Iq a4,Iq a5,Iq a6,Iq a7,Iq a8,Iq a9,Iq b0,Iq b1,.string tx,.slice p m c,Iq up] 63 (0,0)):=by rw[<-cC,<-hAn];exact heap_alloc_new _ _
   have HB1:Hid (Bt wr W1):=by rw[<-cC];exact((Gr.refl wr).alloc _).below
   have xr:Hid (Pw U W1 r pb N P H (20000*i)):=HP.below HB1;have hAr:An≠r:=by have:=HP.m.lt;omega
   have hpA:pb<An:=by rw[<-hAn];exact HP.row.lt
   have Tf:Hid (∀u:World,u.heap[An]?=some (.cells #[Iq kd,Iq a0,Iq a1,Iq a2,Iq a3,Iq a4,Iq a5,Iq a6,Iq a7,Iq a8,Iq a9,Iq b0,Iq b1,.string tx,.slice p m c,Iq up] 63 (0,0))->u.cell? (az An 0)=some (Iq kd)/\u.cell? (az An 1)=some (Iq a0)/\u.cell? (az An 2)=some (Iq a1)/\u.cell? (az An 3)=some (Iq a2)/\u.cell? (az An 4)=some (Iq a3)/\u.cell? (az An 5)=some (Iq a4)/\u.cell? (az An 6)=some (Iq a5)/\u.cell? (az An 7)=some (Iq a6)/\u.cell? (az An 8)=some (Iq a7)/\u.cell? (az An 9)=some (Iq a8)/\u.cell? (az An 10)=some (Iq a9)/\u.cell? (az An 11)=some (Iq b0)/\u.cell? (az An 12)=some (Iq b1)/\u.cell? (az An 13)=some (.string tx)/\u.cell? (az An 14)=some (.slice p m c)/\u.cell? (az An 15)=some (Iq up)):=fun u hu=>by refine⟨?_,?_,?_,?_,?_,?_,?_,?_,?_,?_,?_,?_,?_,?_,?_,?_⟩<;>(rw[Lib.cell_of_heap hu];rfl)
   obtain⟨z0,z1,z2,z3,z4,z5,z6,z7,z8,z9,SU,SV,SW,SX,VY,SY⟩:=Tf W1 b9;have cZ:Hid (W1.heap[An]?=some (.cells #[Iq kd,Iq a0,Iq a1,Iq a2,Iq a3,Iq a4,Iq a5,Iq a6,Iq a7,Iq a8,Iq a9,Iq b0,Iq b1,.string tx,.slice p m c,Iq up] 63 (0,0))):=b9;have JW:Hid ((ae L i).kind=kn/\(kn:Int)=kd):=⟨hkn,hkd⟩;have iM:Hid (-(((i:Int)+1)*100000000)<=P i 0/\P i 0<=((i:Int)+1)*100000000/\-(((i:Int)+1)*100000000)<=P i 1/\P i 1<=((i:Int)+1)*100000000/\0<=P i 2/\P i 2<=100000/\0<=P i 3/\P i 3<=100000):=hbd;have HNO:Hid (P i 8=0/\P i 9=0):=zcU;have HN1:Hid (N<=100/\L.length=N):=⟨zca,hN⟩;have Bn:Hid (ks.length=m):=hm;clear b9 jc kC pD ru kV fY hHs Lb xH hkn hkd hbd zcU hbN hm;go_upto_if 41 with fail;go_cut[48]from 42 to 47 (fun _ wx=>∃P1,Hid (Pw U wx r pb N P1 H (20000*i+100))/\Hid (∀q t,¬(q=i/\(t=8\/t=9))->P1 q t=P q t)/\Hid ((kn=4->P1 i 9=ep (H (aP ks 0) (P i 2)) (P i 3)/\P1 i 8=min (max 0 (gN a0 bi off sn)) (P1 i 9))/\(kn≠4->P1 i 8=0/\P1 i 9=0))/\Hid (wx.heap[An]?=some (.cells #[Iq kd,Iq a0,Iq a1,Iq a2,Iq a3,Iq a4,Iq a5,Iq a6,Iq a7,Iq a8,Iq a9,Iq b0,Iq b1,.string tx,.slice p m c,Iq up] 63 (0,0))));case first=>
    by_cases h4:kn=4
    ·have hk4:kd=4:=by have:=JW.2;omega
     subst hk4;have SC1:Hid (∀u,(u=W1\/u=W1.drew)->Cw 59 #[Pq mb,.pointer (some (az pb (i*10))),gY 4 a0 a1 a2 a3 a4 a5 a6 a7 a8 a9 b0 b1 tx (.slice p m c) up,.slice sp sn sc] u fun e u'=>e=Rw (.tuple #[])/\u'.heap[An]?=some (.cells #[Iq 4,Iq a0,Iq a1,Iq a2,Iq a3,Iq a4,Iq a5,Iq a6,Iq a7,Iq a8,Iq a9,Iq b0,Iq b1,.string tx,.slice p m c,Iq up] 63 (0,0))/\Hid (Pw U u' r pb N (bE (bE P i 9 (ep (H (aP ks 0) (P i 2)) (P i 3))) i 8 (min (max 0 (gN a0 bi off sn)) (ep (H (aP ks 0) (P i 2)) (P i 3)))) H (20000*i+100))):=fun u hu=>by
      have iD:Bt W1 u:=by
       rcases hu with rfl|rfl;·exact aj _ _
       ·exact(aj _ _).drew
      refine(ye h4 u (xr.below iD)).mono ?_;rintro e u' ⟨rfl,q1,q2⟩;have tC:=(aM.1 cZ).1;exact⟨rfl,(q2 An (zz008 tC iD.size) hAr (by omega)).trans ((iD.block An tC).trans cZ),q1⟩
     have iB:Hid (∀wx,wx.heap[An]?=some (.cells #[Iq 4,Iq a0,Iq a1,Iq a2,Iq a3,Iq a4,Iq a5,Iq a6,Iq a7,Iq a8,Iq a9,Iq b0,Iq b1,.string tx,.slice p m c,Iq up] 63 (0,0))->Pw U wx r pb N (bE (bE P i 9 (ep (H (aP ks 0) (P i 2)) (P i 3))) i 8 (min (max 0 (gN a0 bi off sn)) (ep (H (aP ks 0) (P i 2)) (P i 3)))) H (20000*i+100)->∃P1,Hid (Pw U wx r pb N P1 H (20000*i+100))/\Hid (∀q t,¬(q=i/\(t=8\/t=9))->P1 q t=P q t)/\Hid ((kn=4->P1 i 9=ep (H (aP ks 0) (P i 2)) (P i 3)/\P1 i 8=min (max 0 (gN a0 bi off sn)) (P1 i 9))/\(kn≠4->P1 i 8=0/\P1 i 9=0))/\Hid (wx.heap[An]?=some (.cells #[Iq 4,Iq a0,Iq a1,Iq a2,Iq a3,Iq a4,Iq a5,Iq a6,Iq a7,Iq a8,Iq a9,Iq b0,Iq b1,.string tx,.slice p m c,Iq up] 63 (0,0)))):=fun wx hn hp=>by
      refine⟨_,hp,fun q t hq=>?_,⟨fun _=>?_,fun e=>absurd h4 e⟩,hn⟩;·unfold bE;rw[if_neg (fun e=>hq ⟨e.1,.inl e.2⟩),if_neg (fun e=>hq ⟨e.1,.inr e.2⟩)]
      ·unfold bE;simp
     unfold gY at SC1;clear cC hAn;go_wp2_with fail;go_region_held(fun W=>W.cell? (az An 0)=some (Iq 4)/\W.cell? (az An 1)=some (Iq a0)/\W.cell? (az An 2)=some (Iq a1)/\W.cell? (az An 3)=some (Iq a2)/\W.cell? (az An 4)=some (Iq a3)/\W.cell? (az An 5)=some (Iq a4)/\W.cell? (az An 6)=some (Iq a5)/\W.cell? (az An 7)=some (Iq a6)/\W.cell? (az An 8)=some (Iq a7)/\W.cell? (az An 9)=some (Iq a8)/\W.cell? (az An 10)=some (Iq a9)/\W.cell? (az An 11)=some (Iq b0)/\W.cell? (az An 12)=some (Iq b1)/\W.cell? (az An 13)=some (.string tx)/\W.cell? (az An 14)=some (.slice p m c)/\W.cell? (az An 15)=some (Iq up)) (go_keep) (first|(go_at_call 59;refine ao (SC1 _ (by first|exact .inl rfl|exact .inr rfl)) ?_;rintro e u1 ⟨rfl,Gw,Tj⟩;obtain⟨s0,s1,s2,s3,s4,s5,s6,s7,s8,s9,Xz,XA,XB,XC,XD,XE⟩:=Tf u1 Gw;have HUN:Hid (u1.heap[An]?=some (.cells #[Iq 4,Iq a0,Iq a1,Iq a2,Iq a3,Iq a4,Iq a5,Iq a6,Iq a7,Iq a8,Iq a9,Iq b0,Iq b1,.string tx,.slice p m c,Iq up] 63 (0,0))):=Gw;clear Gw));all_goals go_wp2_with fail
     all_goals go_meet
     all_goals exact iB _ HUN Tj
    ·have e4:(kd==4)=false:=by have:=JW.2;simp;omega
     go_wp2_with fail;go_meet;exact⟨P,xr.mono (by omega),fun _ _ _=>rfl,⟨fun e=>absurd e h4,fun _=>HNO⟩,cZ⟩
   case rest=>
    obtain⟨P1,Nj,zz,Wi,HNc⟩:=hcut;clear z0 z1 z2 z3 z4 z5 z6 z7 z8 z9 SU SV SW SX VY SY cC hAn;obtain⟨z0,z1,z2,z3,z4,z5,z6,z7,z8,z9,SU,SV,SW,SX,VY,SY⟩:=Tf wc HNc;obtain⟨p0,I5⟩:=ag (P1 i 0);obtain⟨p1,Pj⟩:=ag (P1 i 1);obtain⟨p2,hp2⟩:=ag (P1 i 2);obtain⟨p3,Gs⟩:=ag (P1 i 3);obtain⟨p4,hp4⟩:=ag (P1 i 4);obtain⟨p5,hp5⟩:=ag (P1 i 5);obtain⟨p6,hp6⟩:=ag (P1 i 6);obtain⟨p7,hp7⟩:=ag (P1 i 7);obtain⟨p8,hp8⟩:=ag (P1 i 8);obtain⟨p9,hp9⟩:=ag (P1 i 9);have JX:Hid (∀u Q,U.grownBy u (some r)->u.rowIs pb 65 (N*10) (lr Q)->(∀t,t<10->Q i t=P1 i t)->u.cell? (az pb (i*10))=some (Iq p0)/\u.cell? (az pb (i*10+1))=some (Iq p1)/\u.cell? (az pb (i*10+2))=some (Iq p2)/\u.cell? (az pb (i*10+3))=some (Iq p3)/\u.cell? (az pb (i*10+4))=some (Iq p4)/\u.cell? (az pb (i*10+5))=some (Iq p5)/\u.cell? (az pb (i*10+6))=some (Iq p6)/\u.cell? (az pb (i*10+7))=some (Iq p7)/\u.cell? (az pb (i*10+8))=some (Iq p8)/\u.cell? (az pb (i*10+9))=some (Iq p9)):=fun u Q hg hr hq=>by
     refine⟨?_,?_,?_,?_,?_,?_,?_,?_,?_,?_⟩;·rw[<-I5,<-hq 0 (by omega)];exact bf (t:=0) hr hlt (by omega)
     ·rw[<-Pj,<-hq 1 (by omega)];exact bf hr hlt (by omega)
     ·rw[<-hp2,<-hq 2 (by omega)];exact bf hr hlt (by omega)
     ·rw[<-Gs,<-hq 3 (by omega)];exact bf hr hlt (by omega)
     ·rw[<-hp4,<-hq 4 (by omega)];exact bf hr hlt (by omega)
     ·rw[<-hp5,<-hq 5 (by omega)];exact bf hr hlt (by omega)
     ·rw[<-hp6,<-hq 6 (by omega)];exact bf hr hlt (by omega)
     ·rw[<-hp7,<-hq 7 (by omega)];exact bf hr hlt (by omega)
     ·rw[<-hp8,<-hq 8 (by omega)];exact bf hr hlt (by omega)
     ·rw[<-hp9,<-hq 9 (by omega)];exact bf hr hlt (by omega)
    have HE:Hid (P i 0=p0/\P i 1=p1/\P i 2=p2/\P i 3=p3/\(0<=p8/\p8<=100000)/\0<=p9/\p9<=100000):=by
     refine⟨by rw[<-zz i 0 (by omega)];exact I5,by rw[<-zz i 1 (by omega)];exact Pj,by rw[<-zz i 2 (by omega)];exact hp2,by rw[<-zz i 3 (by omega)];exact Gs,?_⟩;by_cases h4:kn=4
     ·obtain⟨r1,r2⟩:=Wi.1 h4;have qR:=iM.out;have Dm:aP ks 0<L.length:=by
       rcases hT.kidok i pC with q|⟨_,_,q⟩|⟨q,_⟩;·rw[JW.1]at q;omega
       ·have h1:=HKP h4;have:=BT 0 h1;omega
       ·rw[JW.1]at q;omega
      have hh3:=hS.hb (aP ks 0) (P i 2) Dm;unfold ep at r1;omega
     ·obtain⟨r1,r2⟩:=Wi.2 h4;omega
    obtain⟨y0,y1,y2,y3,y4,y5,y6,y7,y8,y9⟩:=JX wc P1 Nj.g Nj.row (fun _ _=>rfl);have KR1:Hid (∀u,(u=wc\/u=wc.drew)->Cw 60 #[Pq mb,gY kd a0 a1 a2 a3 a4 a5 a6 a7 a8 a9 b0 b1 tx (.slice p m c) up,.agg #[Iq p0,Iq p1,Iq p2,Iq p3,Iq p4,Iq p5,Iq p6,Iq p7,Iq p8,Iq p9]] u fun e u'=>∃q cq,e=Rw (.slice q m cq)/\u'.heap[An]?=some (.cells #[Iq kd,Iq a0,Iq a1,Iq a2,Iq a3,Iq a4,Iq a5,Iq a6,Iq a7,Iq a8,Iq a9,Iq b0,Iq b1,.string tx,.slice p m c,Iq up] 63 (0,0))/\(u'.cell? (az pb (i*10))=some (Iq p0)/\u'.cell? (az pb (i*10+1))=some (Iq p1)/\u'.cell? (az pb (i*10+2))=some (Iq p2)/\u'.cell? (az pb (i*10+3))=some (Iq p3)/\u'.cell? (az pb (i*10+4))=some (Iq p4)/\u'.cell? (az pb (i*10+5))=some (Iq p5)/\u'.cell? (az pb (i*10+6))=some (Iq p6)/\u'.cell? (az pb (i*10+7))=some (Iq p7)/\u'.cell? (az pb (i*10+8))=some (Iq p8)/\u'.cell? (az pb (i*10+9))=some (Iq p9))/\Hid (kJ wc u' r m H (20000*i+100+10000) (cY kd a4 a5 a6 L ks Wd H p0 p1 p2 p3 p8 p9) (.returned (.slice q m cq)))/\Hid (Pw U u' r pb N P1 H (20000*i+10100))):=fun u hu=>by
     have iD:Bt wc u:=by
      rcases hu with rfl|rfl;·exact aj _ _
      ·exact(aj _ _).drew
     obtain⟨f0,f1,f2,f3,f4,f5⟩:=HE.out;have vp:=Nj.below iD;have:=KR u (20000*i+100) p8 p9 p4 p5 p6 p7 vp.g vp.m (by have:=HN1.out;omega) f4 f5;rw[f0,f1,f2,f3]at this;refine this.mono ?_;rintro e u' ⟨q,cq,R0,R1,R2,R3,rfl,s1,s2,s3,s4⟩;have hgw:=(ac iD).trans s3;have tC:=(aM.1 HNc).1;have Dt:Pw U u' r pb N P1 H (20000*i+10100):=Nj.grown hgw (s4.mono (by omega)) MO;refine⟨q,cq,rfl,(hgw.block An tC (fun e=>hAr (by injection e))).trans HNc,JX u' P1 Dt.g Dt.row (fun _ _=>rfl),⟨q,cq,R0,R1,R2,R3,rfl,s1,?_,hgw,s4⟩,Dt⟩;rcases s2 with e|⟨b,e,l,hr⟩;·exact .inl e
     ·exact .inr ⟨b,e,aO iD.size l,hr⟩
    unfold gY at KR1;clear KR ye cZ xr HB1;go_wp2_with fail;go_region_held(fun W=>(W.cell? (az An 0)=some (Iq kd)/\W.cell? (az An 1)=some (Iq a0)/\W.cell? (az An 2)=some (Iq a1)/\W.cell? (az An 3)=some (Iq a2)/\W.cell? (az An 4)=some (Iq a3)/\W.cell? (az An 5)=some (Iq a4)/\W.cell? (az An 6)=some (Iq a5)/\W.cell? (az An 7)=some (Iq a6)/\W.cell? (az An 8)=some (Iq a7)/\W.cell? (az An 9)=some (Iq a8)/\W.cell? (az An 10)=some (Iq a9)/\W.cell? (az An 11)=some (Iq b0)/\W.cell? (az An 12)=some (Iq b1)/\W.cell? (az An 13)=some (.string tx)/\W.cell? (az An 14)=some (.slice p m c)/\W.cell? (az An 15)=some (Iq up))/\W.cell? (az pb (i*10))=some (Iq p0)/\W.cell? (az pb (i*10+1))=some (Iq p1)/\W.cell? (az pb (i*10+2))=some (Iq p2)/\W.cell? (az pb (i*10+3))=some (Iq p3)/\W.cell? (az pb (i*10+4))=some (Iq p4)/\W.cell? (az pb (i*10+5))=some (Iq p5)/\W.cell? (az pb (i*10+6))=some (Iq p6)/\W.cell? (az pb (i*10+7))=some (Iq p7)/\W.cell? (az pb (i*10+8))=some (Iq p8)/\W.cell? (az pb (i*10+9))=some (Iq p9)) (go_keep) (first|(go_at_call 60;refine ao (KR1 _ (by first|exact .inl rfl|exact .inr rfl)) ?_;rintro e u1 ⟨q,cq,rfl,Gw,⟨w0,w1,w2,w3,w4,w5,w6,w7,w8,w9⟩,S_,Tj⟩;obtain⟨s0,s1,s2,s3,s4,s5,s6,s7,s8,s9,Xz,XA,XB,XC,XD,XE⟩:=Tf u1 Gw;have HUN:Hid (u1.heap[An]?=some (.cells #[Iq kd,Iq a0,Iq a1,Iq a2,Iq a3,Iq a4,Iq a5,Iq a6,Iq a7,Iq a8,Iq a9,Iq b0,Iq b1,.string tx,.slice p m c,Iq up] 63 (0,0))):=Gw;clear Gw));all_goals go_wp2_with fail
    all_goals
     obtain⟨q',cq',R0,R1,R2,R3,hqe,Xh,hrow,hgw,_⟩:=S_.out;injection hqe with hqe;injection hqe with ziF _ ziG;subst ziF;subst ziG;have za_:Hid (cY kd a4 a5 a6 L ks Wd H p0 p1 p2 p3 p8 p9 R0 R1 R2 R3):=Xh;have HROW:Hid (m=0\/∃b,q=some (az b 0)/\b≠pb/\rY u1 b m R0 R1 R2 R3):=by
      rcases hrow with e|⟨b,e,l,hr⟩;·exact .inl e
      ·exact .inr ⟨b,e,by have:=Nj.row.lt;omega,hr⟩
     clear Xh hrow hgw S_ KR1 s0 s1 s2 s3 s4 s5 s6 s7 s8 s9 Xz XA XB XC XD XE w0 w1 w2 w3 w4 w5 w6 w7 w8 w9 z0 z1 z2 z3 z4 z5 z6 z7 z8 z9 SU SV SW SX VY SY y0 y1 y2 y3 y4 y5 y6 y7 y8 y9;go_loopw[57] (fun kv wr2=>∃j:Nat,j<=m/\kv=Iq (j:Int)/\Hid (Pw U wr2 r pb N (Jl P1 i ks R0 R1 R2 R3 j) H (20000*i+10100))/\Hid (wr2.heap[An]?=some (.cells #[Iq kd,Iq a0,Iq a1,Iq a2,Iq a3,Iq a4,Iq a5,Iq a6,Iq a7,Iq a8,Iq a9,Iq b0,Iq b1,.string tx,.slice p m c,Iq up] 63 (0,0)))/\Hid (m=0\/∃b,q=some (az b 0)/\b≠pb/\rY wr2 b m R0 R1 R2 R3)) (fun kv _=>m-(intOf kv).toNat);case atStart=>exact⟨0,aZ _,rfl,Tj,HUN,HROW⟩
     case round=>
      obtain⟨j,hj,rfl,HPj,_v,X9⟩:=hrel;clear Tj HUN HROW;by_cases hlj:j<m
      ·have zif:(j:Int)<(m:Int):=by omega
       obtain⟨b,rfl,YW,hbl,hbc⟩:=X9.resolve_left (by omega);obtain⟨g0,g1,g2,g3⟩:=hbc j hlj;obtain⟨kb,ko,rfl,zcL,zcM,zcK⟩:=HKB.resolve_left (by omega);obtain⟨cc,hcc⟩:=ag (aP ks j);have OU:=BT j hlj;rw[hcc]at OU;obtain⟨x0,BM⟩:=ag (R0 j);obtain⟨x1,sC⟩:=ag (R1 j);obtain⟨x2,nD⟩:=ag (R2 j);obtain⟨x3,Zr⟩:=ag (R3 j);rw[BM]at g0;rw[sC]at g1;rw[nD]at g2;rw[Zr]at g3;obtain⟨k0,Y'⟩:=ag (zR x0 x1 x2 x3 p4 p5 p6 p7);obtain⟨k1,Ag⟩:=ag (zS x0 x1 x2 x3 p4 p5 p6 p7);obtain⟨k2,I2⟩:=ag (xz x0 x1 x2 x3 p4 p5 p6 p7);obtain⟨k3,xF⟩:=ag (zT x0 x1 x2 x3 p4 p5 p6 p7);have SE:i∉ks:=fun hmem=>by obtain⟨a,ha,e⟩:=sY.1 hmem;have h1:=BT a (by have:=Bn.out;omega);unfold aP at h1;rw[eR ha,e]at h1;have h2:i<i:=h1.1;omega
       have hPi:Jl P1 i ks R0 R1 R2 R3 j i=P1 i:=rP j (fun t ht=>by have:=Bn.out;omega) i SE;obtain⟨W5,YP⟩:=ag (wr.alloc (.cells #[Iq x0,Iq x1,Iq x2,Iq x3] 58));obtain⟨Ar,zb6⟩:=ag wr.heap.size;have io:Hid (Bt wr W5):=by rw[<-YP];exact((Gr.refl wr).alloc _).below
       have Fz:W5.heap[Ar]?=some (.cells #[Iq x0,Iq x1,Iq x2,Iq x3] 58 (0,0)):=by rw[<-YP,<-zb6];exact heap_alloc_new _ _
       have zb4:=(aM.1 _v).1;have zqh:=HPj.row.lt;have HP5:Hid (Pw U W5 r pb N (Jl P1 i ks R0 R1 R2 R3 j) H (20000*i+10100)):=HPj.below io;have CAP:Hid (∀u,(u=W5\/u=W5.drew)->Cw 61 #[.agg #[Iq x0,Iq x1,Iq x2,Iq x3],.agg #[Iq p4,Iq p5,Iq p6,Iq p7]] u fun e u'=>e=Rw (.agg #[Iq k0,Iq k1,Iq k2,Iq k3])/\Hid (Bt W5 u')):=fun u hu=>by
        have iD:Bt W5 u:=by
         rcases hu with rfl|rfl;·exact aj _ _
         ·exact(aj _ _).drew
        have:=IA x0 x1 x2 x3 p4 p5 p6 p7 u;rw[yo,Y',Ag,I2,xF]at this;exact this.mono fun e u' ⟨h1,h2⟩=>⟨h1,iD.trans (h2.below.mono iD.size)⟩
       have HSU:Hid (∀u,Bt W5 u->u.cell? (az An 14)=some (.slice (some (az kb ko)) m c)/\u.cell? (az kb (ko+j))=some (Iq (cc:Int))/\u.cell? (az Ar 0)=some (Iq x0)/\u.cell? (az Ar 1)=some (Iq x1)/\u.cell? (az Ar 2)=some (Iq x2)/\u.cell? (az Ar 3)=some (Iq x3)/\u.cell? (az pb (i*10+4))=some (Iq p4)/\u.cell? (az pb (i*10+5))=some (Iq p5)/\u.cell? (az pb (i*10+6))=some (Iq p6)/\u.cell? (az pb (i*10+7))=some (Iq p7)):=fun u hu=>by
        have hbw:=io.trans (hu.mono io.size);have vp:=HP5.below hu;have hn:=(hbw.block An zb4).trans _v;have hr:=(hu.block Ar (aM.1 Fz).1).trans Fz;have Gm:u.cell? (az kb (ko+j))=some (Iq (cc:Int)):=by rw[<-hcc];exact(bU (a:=(az kb (ko+j))) (vp.g.block kb zcL (fun e=>zcM (by injection e)))).trans (zcK j hlj)
        have Xb:=JX u _ vp.g vp.row (fun t _=>by rw[hPi]);obtain⟨_,_,_,_,c4,c5,c6,c7,_,_⟩:=Xb;refine⟨?_,Gm,?_,?_,?_,?_,c4,c5,c6,c7⟩;·rw[Lib.cell_of_heap hn];rfl
        ·rw[Lib.cell_of_heap hr];rfl
        ·rw[Lib.cell_of_heap hr];rfl
        ·rw[Lib.cell_of_heap hr];rfl
        ·rw[Lib.cell_of_heap hr];rfl
       have HSS:Hid (∀u,Bt W5 u->(tw u pb (cc*10) x0 x1 x2 x3 k0 k1 k2 k3 0 0).cell? (az An 14)=some (.slice (some (az kb ko)) m c)/\(tw u pb (cc*10) x0 x1 x2 x3 k0 k1 k2 k3 0 0).cell? (az kb (ko+j))=some (Iq (cc:Int))/\(tw u pb (cc*10) x0 x1 x2 x3 k0 k1 k2 k3 0 0).cell? (az Ar 0)=some (Iq x0)/\(tw u pb (cc*10) x0 x1 x2 x3 k0 k1 k2 k3 0 0).cell? (az Ar 1)=some (Iq x1)/\(tw u pb (cc*10) x0 x1 x2 x3 k0 k1 k2 k3 0 0).cell? (az Ar 2)=some (Iq x2)/\(tw u pb (cc*10) x0 x1 x2 x3 k0 k1 k2 k3 0 0).cell? (az Ar 3)=some (Iq x3)/\(tw u pb (cc*10) x0 x1 x2 x3 k0 k1 k2 k3 0 0).cell? (az pb (i*10+4))=some (Iq p4)/\(tw u pb (cc*10) x0 x1 x2 x3 k0 k1 k2 k3 0 0).cell? (az pb (i*10+5))=some (Iq p5)/\(tw u pb (cc*10) x0 x1 x2 x3 k0 k1 k2 k3 0 0).cell? (az pb (i*10+6))=some (Iq p6)/\(tw u pb (cc*10) x0 x1 x2 x3 k0 k1 k2 k3 0 0).cell? (az pb (i*10+7))=some (Iq p7)):=fun u hu=>by
        obtain⟨r0,r1,r2,r3,r4,r5,r6,r7,r8,r9⟩:=HSU u hu;have o1:∀b' o' v,b'≠pb->u.cell? (az b' o')=some v->(tw u pb (cc*10) x0 x1 x2 x3 k0 k1 k2 k3 0 0).cell? (az b' o')=some v:=fun b' o' v jF hv=>(JA b' o' (.inl jF)).trans hv;have o2:∀t v,t<10->u.cell? (az pb (i*10+t))=some v->(tw u pb (cc*10) x0 x1 x2 x3 k0 k1 k2 k3 0 0).cell? (az pb (i*10+t))=some v:=fun t v ht hv=>(JA pb (i*10+t) (by omega)).trans hv;have n1:An≠pb:=by omega
        have n2:kb≠pb:=by omega
        have n3:Ar≠pb:=by omega
        exact⟨o1 _ _ _ n1 r0,o1 _ _ _ n2 r1,o1 _ _ _ n3 r2,o1 _ _ _ n3 r3,o1 _ _ _ n3 r4,o1 _ _ _ n3 r5,o2 4 _ (by omega) r6,o2 5 _ (by omega) r7,o2 6 _ (by omega) r8,o2 7 _ (by omega) r9⟩
       have Bm:Hid (∀u,Bt W5 u->(∀o',u.frozen? (az pb o')=false)/\pb<u.heap.size/\(∃v,u.cell? (az pb (cc*10))=some v)/\(∃v,u.cell? (az pb (cc*10+1))=some v)/\(∃v,u.cell? (az pb (cc*10+2))=some v)/\(∃v,u.cell? (az pb (cc*10+3))=some v)/\(∃v,u.cell? (az pb (cc*10+4))=some v)/\(∃v,u.cell? (az pb (cc*10+5))=some v)/\(∃v,u.cell? (az pb (cc*10+6))=some v)/\(∃v,u.cell? (az pb (cc*10+7))=some v)/\(∃v,u.cell? (az pb (cc*10+8))=some v)/\(∃v,u.cell? (az pb (cc*10+9))=some v)):=fun u hu=>by have vp:=HP5.below hu;exact⟨fun o'=>vp.row.frozen o',vp.row.lt,⟨_,bf (t:=0) vp.row OU.2 (by omega)⟩,⟨_,bf vp.row OU.2 (by omega)⟩,⟨_,bf vp.row OU.2 (by omega)⟩,⟨_,bf vp.row OU.2 (by omega)⟩,⟨_,bf vp.row OU.2 (by omega)⟩,⟨_,bf vp.row OU.2 (by omega)⟩,⟨_,bf vp.row OU.2 (by omega)⟩,⟨_,bf vp.row OU.2 (by omega)⟩,⟨_,bf vp.row OU.2 (by omega)⟩,⟨_,bf vp.row OU.2 (by omega)⟩⟩
       have iB:Hid (∀u,Bt W5 u->Pw U (tw u pb (cc*10) x0 x1 x2 x3 k0 k1 k2 k3 0 0) r pb N (Jl P1 i ks R0 R1 R2 R3 (j+1)) H (20000*i+10100)/\(tw u pb (cc*10) x0 x1 x2 x3 k0 k1 k2 k3 0 0).heap[An]?=some (.cells #[Iq kd,Iq a0,Iq a1,Iq a2,Iq a3,Iq a4,Iq a5,Iq a6,Iq a7,Iq a8,Iq a9,Iq b0,Iq b1,.string tx,.slice (some (az kb ko)) m c,Iq up] 63 (0,0))/\(m=0\/∃b',some ((az b 0):Addr)=some (az b' 0)/\b'≠pb/\rY (tw u pb (cc*10) x0 x1 x2 x3 k0 k1 k2 k3 0 0) b' m R0 R1 R2 R3)):=fun u hu=>by
        have hbw:=io.trans (hu.mono io.size);have key:∀b',b'≠pb->(tw u pb (cc*10) x0 x1 x2 x3 k0 k1 k2 k3 0 0).heap[b']?=u.heap[b']?:=fun b' jF=>VO b' jF;refine⟨?_,(key An (by omega)).trans ((hbw.block An zb4).trans _v),.inr ⟨b,rfl,YW,?_,fun t ht=>?_⟩⟩;·have:=QA (HP5.below hu) hpU MO cc (AK P1 i (R0 j) (R1 j) (R2 j) (R3 j)) x0 x1 x2 x3 k0 k1 k2 k3 0 0 BM.symm sC.symm nD.symm Zr.symm (by rw[<-Y',<-BM,<-sC,<-nD,<-Zr,<-hp4,<-hp5,<-hp6,<-hp7];rfl) (by rw[<-Ag,<-BM,<-sC,<-nD,<-Zr,<-hp4,<-hp5,<-hp6,<-hp7];rfl) (by rw[<-I2,<-BM,<-sC,<-nD,<-Zr,<-hp4,<-hp5,<-hp6,<-hp7];rfl) (by rw[<-xF,<-BM,<-sC,<-nD,<-Zr,<-hp4,<-hp5,<-hp6,<-hp7];rfl) rfl rfl;rw[<-hcc]at this⊢;exact this
        ·have h1:=(aM.1 (((key b YW).trans (hbw.block b hbl)).trans (XK hbl))).1;exact h1
        ·obtain⟨r0,r1,r2,r3⟩:=hbc t ht;have kk:=(key b YW).trans (hbw.block b hbl);exact⟨(bU (a:=(az b _)) kk).trans r0,(bU (a:=(az b _)) kk).trans r1,(bU (a:=(az b _)) kk).trans r2,(bU (a:=(az b _)) kk).trans r3⟩
       obtain⟨t0,t1,t2,t3,t4,t5,t6,t7,t8,t9⟩:=HSU W5 (aj _ _);have HAN:Hid (wr.cell? (az An 14)=some (.slice (some (az kb ko)) m c)):=by show _=_;rw[Lib.cell_of_heap _v.out];rfl
       have zpg:(cc:Int)<(N:Int):=by omega
       clear Fz hbc Y' Ag I2 xF BM sC nD Zr hcc hPi SE hbl X9 _v HPj zcL zcM zcK;go_wp2_with fail;clear YP zb6 g0 g1 g2 g3;go_region_held(fun W=>W.cell? (az An 14)=some (.slice (some (az kb ko)) m c)/\W.cell? (az kb (ko+j))=some (Iq (cc:Int))/\W.cell? (az Ar 0)=some (Iq x0)/\W.cell? (az Ar 1)=some (Iq x1)/\W.cell? (az Ar 2)=some (Iq x2)/\W.cell? (az Ar 3)=some (Iq x3)/\W.cell? (az pb (i*10+4))=some (Iq p4)/\W.cell? (az pb (i*10+5))=some (Iq p5)/\W.cell? (az pb (i*10+6))=some (Iq p6)/\W.cell? (az pb (i*10+7))=some (Iq p7)) (go_keep) (first|(go_at_call 61;refine ao (CAP _ (by first|exact .inl rfl|exact .inr rfl)) ?_;rintro e u2 ⟨rfl,zv⟩;obtain⟨f0,f1,f2,f3,f4,f5,f6,f7,f8,f9⟩:=HSU u2 zv;have HX:=HSS u2 zv;unfold tw at HX;obtain⟨h0,h1,h2,h3,h4,h5,h6,h7,h8,h9⟩:=HX;obtain⟨Y4,zqi,⟨v0,e0⟩,⟨v1,e1⟩,⟨v2,e2⟩,⟨v3,e3⟩,⟨v4,e4⟩,⟨v5,e5⟩,⟨v6,e6⟩,⟨v7,e7⟩,⟨v8,e8⟩,⟨v9,e9⟩⟩:=Bm u2 zv));all_goals
        obtain⟨F1,F2,F3⟩:=iB u2 zv;have HF1:=(show Hid _ from F1);have HF2:=(show Hid _ from F2);have HF3:=(show Hid _ from F3);clear F1 F2 F3;go_wp2;go_roundw;case rel=>exact⟨j+1,hlj,by go_num,HF1,HF2,HF3⟩
        case measure=>simp[intOf];omega
      ·have zif:¬(j:Int)<(m:Int):=by omega
       obtain rfl:j=m:=by omega
       have zaP:Hid (dB L Wd H w h bi off sn (Jl P1 i ks R0 R1 R2 R3 j) (i+1)):=by have oi:=za_.out;rw[<-I5,<-Pj,<-hp2,<-Gs,<-hp8,<-hp9]at oi;have:=gp P1 R0 R1 R2 R3 zz (fun e=>Wi.1 (by have:=JW.out;omega)) (fun e=>Wi.2 (by have:=JW.out;omega)) oi;exact this
       have HPN:Hid (Pw U wr r pb N (Jl P1 i ks R0 R1 R2 R3 j) H (20000*(i+1))):=HPj.mono (by omega);clear HPj _v X9;go_wp2;go_roundw;case rel=>exact⟨i+1,_,hlt,by go_num,HPN,zaP⟩
       case measure=>simp[intOf];omega
  ·have aN:¬(i:Int)<(N:Int):=by omega
   obtain rfl:i=N:=by omega
   have HGO:Hid (U.grownBy wr (some r)/\wr.rowIs pb 65 (i*10) (lr P)/\dB L Wd H w h bi off sn P i):=⟨HP.g,HP.row,HL⟩;go_wp2;go_ret;exact⟨pb,P,rfl,HGO.2.1,HGO.2.2,HGO.1,hpU⟩
section
variable{s:ByteArray} {L:List Nd} {Wd:Nat->Int} {H:Nat->Int->Int} {w h:Int} {bi off:Nat->Int} {sn:Nat} {P:Nat->Nat->Int}
theorem dB.scroll(hT:dZ s L)(hp:dB L Wd H w h bi off sn P L.length){i}(hi:i<L.length)(h4:(ae L i).kind=4):
 (ae L i).kids.length=1/\0<=P i 8/\P i 8<=P i 9/\P (aP (ae L i).kids 0) 0=P i 0/\P (aP (ae L i).kids 0) 1=P i 1-P i 8/\P (aP (ae L i).kids 0) 2=P i 2/\P (aP (ae L i).kids 0) 3=P i 3+P i 9/\(aF (ae L i) 0=0->P i 8=0):=by
 have Ag:(ae L i).kids.length=1:=by
  rcases hT.kidok i hi with q|⟨_,_,q⟩|⟨q,_⟩;·omega
  ·exact q
  ·omega
 obtain⟨r1,r2⟩:=hp.sc i hi hi h4;obtain⟨R0,R1,R2,R3,hs,hk⟩:=hp.kr i hi hi;obtain⟨e0,e1,e2,e3⟩:=hs.scr (by omega) 0 (by omega);have k0:=hk 0 (by omega) 0 (by omega);have k1:=hk 0 (by omega) 1 (by omega);have k2:=hk 0 (by omega) 2 (by omega);have k3:=hk 0 (by omega) 3 (by omega);have k0:P (aP (ae L i).kids 0) 0=R0 0:=k0;have k1:P (aP (ae L i).kids 0) 1=R1 0:=k1;have k2:P (aP (ae L i).kids 0) 2=R2 0:=k2;have k3:P (aP (ae L i).kids 0) 3=R3 0:=k3;grind[ep,gN,aF,ae]
theorem zbH{x}(h0:0<=x)(h1:x<=100000):cl x=x:=by grind[cl]
theorem dB.inRow(hT:dZ s L)(hp:dB L Wd H w h bi off sn P L.length){i}(hi:i<L.length)(h0:(ae L i).kind=0):
 ∃G,((ae L i).kids=[]\/ci L (ae L i).kids (fun j=>Wd (aP (ae L i).kids j)) (P i 2) (aF (ae L i) 4) G)/\(∀j,j<(ae L i).kids.length->0<=G j/\G j<=100000)/\∀j,j<(ae L i).kids.length->P (aP (ae L i).kids j) 0=P i 0+cR G (aF (ae L i) 4) j/\P (aP (ae L i).kids j) 1=P i 1/\P (aP (ae L i).kids j) 2=G j/\P (aP (ae L i).kids j) 3=P i 3:=by obtain⟨R0,R1,R2,R3,hs,hk⟩:=hp.kr i hi hi;obtain⟨G,g1,g2,g3⟩:=hs.row (by omega);have hb:=(hT.vl.nv i hi).bd.2.1;rw[zbH hb.1 (by omega)]at g3;refine⟨G,g1,g2,fun j hj=>?_⟩;obtain⟨e0,e1,e2,e3⟩:=g3 j hj;have k0:P (aP (ae L i).kids j) 0=R0 j:=hk j hj 0 (by omega);have k1:P (aP (ae L i).kids j) 1=R1 j:=hk j hj 1 (by omega);have k2:P (aP (ae L i).kids j) 2=R2 j:=hk j hj 2 (by omega);have k3:P (aP (ae L i).kids j) 3=R3 j:=hk j hj 3 (by omega);omega
theorem QZ{f}{l}(hf:∀j∈l,0<=f j){k}(hk:k∈l):f k<=aG f l:=by
 induction l with
 |nil=>cases hk
 |cons a l ih=>have h0:=hf a (by simp);have h1:0<=aG f l:=cW fun j hj=>hf j (by simp[hj]);grind[aG]
theorem Mr{r S1 S2 S:Int}(h1:r<=S1\/r<=S2->S=r)(h2:S1<r->S2<r->S=S2):S<=r:=by omega
theorem ci.tiles{L}{ks}{N}{aY cj}{G}(g1:ci L ks N aY cj G)(hk:0<ks.length):
 aG G (List.range ks.length)<=rm aY cj ks.length/\((∃j,j<ks.length/\0<aF (ae L (aP ks j)) 3/\aF (ae L (aP ks j)) 2<0)->aG G (List.range ks.length)=rm aY cj ks.length):=by
 have hr:=QL aY cj ks.length hk;obtain⟨t1,t2,t3⟩:=cO.tiles g1 (ic _ _ _);refine⟨Mr t2 t3,fun⟨j,hj,q1,q2⟩=>t2 (.inr (jl hr ?_))⟩;have hcl:0<cl (aF (ae L (aP ks j)) 3):=by unfold cl;split;omega;split<;>omega
 have hm:eO (wV (ae L (aP ks j)) (N j)) (aF (ae L (aP ks j)) 2)=100000:=by unfold eO;rw[if_pos q2]
 refine jl ?_ (QZ (k:=j) (fun x _=>?_) (zm.2 hj));all_goals grind[cl,aF,ae,aP,eO,wV,iP,dU]
theorem dB.tiles(hT:dZ s L)(hp:dB L Wd H w h bi off sn P L.length){i}(hi:i<L.length)(h0:(ae L i).kind=0)(hk:0<(ae L i).kids.length):
 ∃G,(∀j,j<(ae L i).kids.length->0<=G j/\G j<=100000)/\(∀j,j<(ae L i).kids.length->P (aP (ae L i).kids j) 2=G j)/\aG G (List.range (ae L i).kids.length)<=rm (P i 2) (aF (ae L i) 4) (ae L i).kids.length/\((∃j,j<(ae L i).kids.length/\0<aF (ae L (aP (ae L i).kids j)) 3/\aF (ae L (aP (ae L i).kids j)) 2<0)->aG G (List.range (ae L i).kids.length)=rm (P i 2) (aF (ae L i) 4) (ae L i).kids.length):=by obtain⟨G,g1,g2,g3⟩:=hp.inRow hT hi h0;have g1:=g1.resolve_left (fun e=>by grind);exact⟨G,g2,fun j hj=>(g3 j hj).2.2.1,g1.tiles hk⟩
def BX(P:Nat->Nat->Int)(w h:Int)(i:Nat):Prop:=0<=P i 4/\0<=P i 5/\0<=P i 6/\0<=P i 7/\P i 4+P i 6<=w/\P i 5+P i 7<=h
def J4(x y a b X Y A B:Int):Prop:=a<=0\/b<=0\/(X<=x/\Y<=y/\x+a<=X+A/\y+b<=Y+B)
theorem IB{x y a b cx cy cw ch w h}(hw:1<=w/\w<=400)(hh:1<=h/\h<=400)(ha:0<=a/\a<=100000)(hb:0<=b/\b<=100000)(hc:0<=cx/\0<=cy/\0<=cw/\0<=ch/\cx+cw<=w/\cy+ch<=h):
 let c0:=zR x y a b cx cy cw ch
 let c1:=zS x y a b cx cy cw ch
 let c2:=xz x y a b cx cy cw ch
 let c3:=zT x y a b cx cy cw ch
 (0<=c0/\0<=c1/\0<=c2/\0<=c3/\c0+c2<=w/\c1+c3<=h)/\J4 c0 c1 c2 c3 x y a b/\J4 c0 c1 c2 c3 cx cy cw ch:=by
 dsimp only;unfold zR zS xz zT J4;by_cases q:g_ x a cx cw>=jy x a cx cw\/g_ y b cy ch>=jy y b cy ch;·omega
 ·rw[if_neg q,if_neg q,if_neg q,if_neg q];unfold g_ jy bn bc at*;omega
theorem dB.onScr(hT:dZ s L)(hp:dB L Wd H w h bi off sn P L.length)(hw:1<=w/\w<=400)(hh:1<=h/\h<=400):∀n i,i<n->i<L.length->BX P w h i
 |0,i,h,_=>by omega
 |n+1,i,hn,hi=>by
  by_cases e:i=0;·subst e;obtain⟨r0,r1,r2,r3,r4,r5,r6,r7⟩:=hp.root;grind[BX]
  ·obtain⟨u,k,hu,hk,hc,hup⟩:=hT.kid_of i (by omega) hi;have SM:=dB.onScr hT hp hw hh n u (by omega) (by omega);obtain⟨R0,R1,R2,R3,hs,ke⟩:=hp.kr u (by omega) (by omega);have hbi:=hp.bd i hi;rw[<-hc]at hbi⊢;have k2:P (aP (ae L u).kids k) 2=R2 k:=ke k hk 2 (by omega);have k3:P (aP (ae L u).kids k) 3=R3 k:=ke k hk 3 (by omega);have k4:P (aP (ae L u).kids k) 4=zR (R0 k) (R1 k) (R2 k) (R3 k) (P u 4) (P u 5) (P u 6) (P u 7):=ke k hk 4 (by omega);have k5:P (aP (ae L u).kids k) 5=zS (R0 k) (R1 k) (R2 k) (R3 k) (P u 4) (P u 5) (P u 6) (P u 7):=ke k hk 5 (by omega);have k6:P (aP (ae L u).kids k) 6=xz (R0 k) (R1 k) (R2 k) (R3 k) (P u 4) (P u 5) (P u 6) (P u 7):=ke k hk 6 (by omega);have k7:P (aP (ae L u).kids k) 7=zT (R0 k) (R1 k) (R2 k) (R3 k) (P u 4) (P u 5) (P u 6) (P u 7):=ke k hk 7 (by omega);rw[k2,k3]at hbi;have q:=(IB (x:=R0 k) (y:=R1 k) hw hh ⟨hbi.2.2.2.2.1,hbi.2.2.2.2.2.1⟩ hbi.2.2.2.2.2.2 SM).1;unfold BX;rw[k4,k5,k6,k7];exact q
theorem dB.clip(hT:dZ s L)(hp:dB L Wd H w h bi off sn P L.length)(hw:1<=w/\w<=400)(hh:1<=h/\h<=400){i}(hi:i<L.length)(h0:0<i):
 ∃u,u<i/\(ae L i).up=(u:Int)/\J4 (P i 4) (P i 5) (P i 6) (P i 7) (P i 0) (P i 1) (P i 2) (P i 3)/\J4 (P i 4) (P i 5) (P i 6) (P i 7) (P u 4) (P u 5) (P u 6) (P u 7):=by obtain⟨u,k,hu,hk,hc,hup⟩:=hT.kid_of i h0 hi;have SM:=dB.onScr hT hp hw hh (u+1) u (by omega) (by omega);obtain⟨R0,R1,R2,R3,hs,ke⟩:=hp.kr u (by omega) (by omega);have hbi:=hp.bd i hi;refine⟨u,hu,hup,?_⟩;rw[<-hc]at hbi⊢;have k0:P (aP (ae L u).kids k) 0=R0 k:=ke k hk 0 (by omega);have k1:P (aP (ae L u).kids k) 1=R1 k:=ke k hk 1 (by omega);have k2:P (aP (ae L u).kids k) 2=R2 k:=ke k hk 2 (by omega);have k3:P (aP (ae L u).kids k) 3=R3 k:=ke k hk 3 (by omega);have k4:P (aP (ae L u).kids k) 4=zR (R0 k) (R1 k) (R2 k) (R3 k) (P u 4) (P u 5) (P u 6) (P u 7):=ke k hk 4 (by omega);have k5:P (aP (ae L u).kids k) 5=zS (R0 k) (R1 k) (R2 k) (R3 k) (P u 4) (P u 5) (P u 6) (P u 7):=ke k hk 5 (by omega);have k6:P (aP (ae L u).kids k) 6=xz (R0 k) (R1 k) (R2 k) (R3 k) (P u 4) (P u 5) (P u 6) (P u 7):=ke k hk 6 (by omega);have k7:P (aP (ae L u).kids k) 7=zT (R0 k) (R1 k) (R2 k) (R3 k) (P u 4) (P u 5) (P u 6) (P u 7):=ke k hk 7 (by omega);rw[k4,k5,k6,k7,k0,k1,k2,k3];exact(IB hw hh (by omega) (by omega) SM).2
end
theorem Ch.uniq{L}{d}{ks}{a e}(h:Ch L d ks a e):∀{d' e'},Ch L d' ks a e'->e=e':=by
 induction h with
 |nil d a=>intro d' e' h;cases h;rfl
 |@cons d c r e1 e h1 h2 h3 h4 i1 i2=>
  intro d' e' h;cases h with
  |cons _ _ k3 k4=>grind
theorem Ch.all{L}{d}{ks}{a e}(h:Ch L d ks a e):∀k,a<=k->k<e->∃d' e',Ch L d' (L k).kids (k+1) e'/\e'<=e:=by
 induction h with
 |nil d a=>omega
 |@cons d c r e1 e h1 h2 h3 h4 i1 i2=>
  intro k k1 k2;by_cases e0:k=c;·subst e0;exact⟨_,_,h3,h4.le⟩
  ·by_cases l:k<e1;·obtain⟨d',e',q,q1⟩:=i1 k (by omega) l;exact⟨d',e',q,aO q1 h4.le⟩
   grind
def Ba(en:Nat->Nat)(ks:List Nat)(a:Nat):Nat->Nat
 |0=>a
 |j+1=>en (aP ks j)
theorem Ch.st{L}{en}{d}{ks}{a e}(h:Ch L d ks a e):(∀k,a<=k->k<e->∃d,Ch L d (L k).kids (k+1) (en k))->(∀j,j<ks.length->aP ks j=Ba en ks a j)/\e=Ba en ks a ks.length:=by
 induction h with
 |nil d a=>exact fun _=>⟨fun j hj=>absurd hj (by simp),rfl⟩
 |@cons d c r e1 e h1 h2 h3 h4 i1 i2=>
  intro hen;obtain⟨d0,h0⟩:=hen c (ai _) (by have:=h3.le;have:=h4.le;omega);have e0:=h3.uniq h0;obtain⟨q1,q2⟩:=i2 (fun k a b=>hen k (by have:=h3.le;omega) b);have key:∀j,j<=r.length->Ba en (c::r) c (j+1)=Ba en r e1 j:=fun j hj=>by
   cases j with
   |zero=>exact e0.symm
   |succ j=>rfl
  refine⟨fun j hj=>?_,?_⟩;·cases j with
   |zero=>rfl
   |succ j=>rw[key j (by grind)];exact q1 j (by grind)
  grind
structure En(L:List Nd)(en:Nat->Nat):Prop where
 lt:∀k,k<L.length->k<en k
 le:∀k,k<L.length->en k<=L.length
 kid:∀k j,k<L.length->j<(ae L k).kids.length->aP (ae L k).kids j=Ba en (ae L k).kids (k+1) j
 last:∀k,k<L.length->en k=Ba en (ae L k).kids (k+1) (ae L k).kids.length
 sub:∀k i,k<L.length->k<=i->i<en k->en i<=en k
theorem zbP{s}{L}(hT:dZ s L):∃en,En L en:=by
 have key:∀k,∃e,k<L.length->∃d,Ch (ae L) d (ae L k).kids (k+1) e/\e<=L.length:=fun k=>by
  by_cases h:k<L.length;·obtain⟨d,e,h1,h2⟩:=hT.ch.all k (aZ _) h;grind
  ·exact⟨0,fun q=>absurd q h⟩
 obtain⟨en,hen⟩:=Classical.skolem.1 key;have st:∀k,k<L.length->(∀j,j<(ae L k).kids.length->aP (ae L k).kids j=Ba en (ae L k).kids (k+1) j)/\en k=Ba en (ae L k).kids (k+1) (ae L k).kids.length:=fun k hk=>by obtain⟨d,h1,h2⟩:=hen k hk;exact h1.st (en:=en) (fun i _ b=>(hen i (by omega)).imp fun _ q=>q.1)
 refine⟨en,fun k hk=>by obtain⟨_,h1,_⟩:=hen k hk;have:=h1.le;omega,fun k hk=>(hen k hk).choose_spec.2,fun k j hk hj=>(st k hk).1 j hj,fun k hk=>(st k hk).2,fun k i hk h1 h2=>?_⟩;by_cases e:i=k;·grind
 ·obtain⟨_,q,ql⟩:=hen k hk;obtain⟨_,e',q1,q2⟩:=q.all i (by omega) h2;obtain⟨_,q3,_⟩:=hen i (by omega);rw[q3.uniq q1];exact q2
section
variable{s:ByteArray} {L:List Nd} {en:Nat->Nat}
theorem En.st_mono(h:En L en)(hT:dZ s L){k}(hk:k<L.length){j}(hj:j<(ae L k).kids.length):Ba en (ae L k).kids (k+1) j<Ba en (ae L k).kids (k+1) (j+1):=by rw[<-h.kid k j hk hj];exact h.lt _ (hT.nest.kid k _ hk (gh hj)).2.1
theorem En.st_up(h:En L en)(hT:dZ s L){k}(hk:k<L.length):∀d j,j+d<=(ae L k).kids.length->Ba en (ae L k).kids (k+1) j<=Ba en (ae L k).kids (k+1) (j+d)
 |0,j,_=>ai _
 |d+1,j,hj=>aO (h.st_up hT hk d j (by omega)) (Nat.le_of_lt (h.st_mono hT hk (j:=j+d) (by omega)))
theorem En.st_end(h:En L en)(hT:dZ s L){k}(hk:k<L.length){j}(hj:j<=(ae L k).kids.length):Ba en (ae L k).kids (k+1) j<=en k:=by rw[h.last k hk];have:=h.st_up hT hk ((ae L k).kids.length-j) j (by omega);grind
theorem En.find(h:En L en){k}(hk:k<L.length):∀j,j<=(ae L k).kids.length->∀i,k<i->i<Ba en (ae L k).kids (k+1) j->∃a,a<j/\aP (ae L k).kids a<=i/\i<en (aP (ae L k).kids a)
 |0,_,i,h1,h2=>by have:i<k+1:=h2;omega
 |j+1,hj,i,h1,h2=>by
  by_cases e:aP (ae L k).kids j<=i;·exact⟨j,by omega,e,h2⟩
  ·rw[h.kid k j hk (by omega)]at e;obtain⟨a,q1,q2⟩:=h.find hk j (by omega) i h1 (by omega);grind
end
def yc(L:List Nd)(Wd:Nat->Int)(H:Nat->Int->Int)(bi off:Nat->Int)(sn:Nat)(P:Nat->Nat->Int)(i:Nat):Prop:=
 ((ae L i).kind=4->P i 9=ep (H (aP (ae L i).kids 0) (P i 2)) (P i 3)/\P i 8=min (max 0 (gN (aF (ae L i) 0) bi off sn)) (P i 9))/\((ae L i).kind≠4->P i 8=0/\P i 9=0)/\
  ∃R0 R1 R2 R3,cY (ae L i).kind (aF (ae L i) 4) (aF (ae L i) 5) (aF (ae L i) 6) L (ae L i).kids Wd H (P i 0) (P i 1) (P i 2) (P i 3) (P i 8) (P i 9) R0 R1 R2 R3/\∀j,j<(ae L i).kids.length->∀t,t<8->P (aP (ae L i).kids j) t=AK P i (R0 j) (R1 j) (R2 j) (R3 j) t
theorem yc.congr{L}{Wd}{H}{bi off}{sn}{P P'}{i}(h:yc L Wd H bi off sn P i)(h1:P' i=P i)(h2:∀j,j<(ae L i).kids.length->∀t,t<8->P' (aP (ae L i).kids j) t=P (aP (ae L i).kids j) t):yc L Wd H bi off sn P' i:=by obtain⟨a,b,R0,R1,R2,R3,c,d⟩:=h;refine⟨by grind,by grind,R0,R1,R2,R3,by grind,fun j hj t ht=>?_⟩;grind[AK]
theorem dB.all{s}{L}{Wd}{H}{w h}{bi off}{sn}{P}(hT:dZ s L)(hS:Sz L Wd H)(hw:1<=w/\w<=400)(hh:1<=h/\h<=400)(hr:P 0 0=0/\P 0 1=0/\P 0 2=w/\P 0 3=h/\P 0 4=0/\P 0 5=0/\P 0 6=w/\P 0 7=h)(ha:∀i,i<L.length->yc L Wd H bi off sn P i):dB L Wd H w h bi off sn P L.length:=by
 have bd:∀n i,i<n->i<L.length->-(((i:Int)+1)*100000000)<=P i 0/\P i 0<=((i:Int)+1)*100000000/\-(((i:Int)+1)*100000000)<=P i 1/\P i 1<=((i:Int)+1)*100000000/\0<=P i 2/\P i 2<=100000/\0<=P i 3/\P i 3<=100000:=fun n=>by
  induction n with
  |zero=>omega
  |succ n ih=>
   intro i hi hL;by_cases h0:i=0;·grind
   ·obtain⟨u,k,hu,hk,hc,hup⟩:=hT.kid_of i (by omega) hL;have hb:=ih u (by omega) (by omega);obtain⟨a1,a2,R0,R1,R2,R3,q1,q2⟩:=ha u (by omega);have Dr:0<=P u 8/\P u 8<=100000/\0<=P u 9/\P u 3+P u 9<=100000:=by
     by_cases e4:(ae L u).kind=4;·obtain⟨r1,r2⟩:=a1 e4;have hh:=hS.hb (aP (ae L u).kids 0) (P u 2) (hT.nest.kid u _ (by omega) (gh (ks:=(ae L u).kids) (j:=0) (by omega))).2.1;unfold ep at r1;omega
     ·omega
    have hB:=q1.bd (hT.kids_le (by omega)) ⟨hb.2.2.2.2.1,hb.2.2.2.2.2.1⟩ ⟨hb.2.2.2.2.2.2.1,hb.2.2.2.2.2.2.2⟩ ⟨Dr.1,Dr.2.1⟩ ⟨Dr.2.2.1,Dr.2.2.2⟩ (((u:Int)+1)*100000000) (by omega) ⟨hb.1,hb.2.1⟩ ⟨hb.2.2.1,hb.2.2.2.1⟩ k hk;have p0:P i 0=R0 k:=by rw[<-hc];exact q2 k hk 0 (by omega)
    have p1:P i 1=R1 k:=by rw[<-hc];exact q2 k hk 1 (by omega)
    have p2:P i 2=R2 k:=by rw[<-hc];exact q2 k hk 2 (by omega)
    have p3:P i 3=R3 k:=by rw[<-hc];exact q2 k hk 3 (by omega)
    omega
 exact⟨hr,fun i hi _ e=>(ha i hi).1 e,fun i hi q=>(ha i hi).2.1 (by rcases q with q|q;omega;exact q),fun i hi _=>(ha i hi).2.2,fun i hi=>bd (i+1) i (by omega) hi⟩
structure uw(en:Nat->Nat)(P:Nat->Nat->Int)(k:Nat):Prop where
 b0:-(((k:Int)+1)*100000000)<=P k 0/\P k 0<=((k:Int)+1)*100000000
 b1:-(((k:Int)+1)*100000000)<=P k 1/\P k 1<=((k:Int)+1)*100000000
 b2:0<=P k 2/\P k 2<=100000
 b3:0<=P k 3/\P k 3<=100000
 z:∀i,k<=i->i<en k->P i 8=0/\P i 9=0
section
variable(L:List Nd) (en:Nat->Nat) (Wd:Nat->Int) (H:Nat->Int->Int) (bi off:Nat->Int) (sn:Nat)
def uu(P Q:Nat->Nat->Int)(k:Nat):Prop:=(∀i,k<=i->i<en k->yc L Wd H bi off sn Q i)/\(∀i t,¬(k<=i/\i<en k)->Q i t=P i t)/\∀t,t<8->Q k t=P k t
structure jY(R0 R1 R2 R3:Nat->Int)(of rm:Int)(P Q:Nat->Nat->Int)(k j:Nat):Prop where
 dn:∀i,k<i->i<Ba en (ae L k).kids (k+1) j->yc L Wd H bi off sn Q i
 pl:∀a,a<j->∀t,t<8->Q (aP (ae L k).kids a) t=AK Q k (R0 a) (R1 a) (R2 a) (R3 a) t
 sm:∀i t,¬(k<=i/\i<Ba en (ae L k).kids (k+1) j)->Q i t=P i t
 se:∀t,t<8->Q k t=P k t
 sc:(0<j->Q k 8=of/\Q k 9=rm)/\(j=0->Q k 8=0/\Q k 9=0)
end
def mV(Q:Nat->Nat->Int)(k c:Nat)(x y a b of rm:Int)(i t:Nat):Int:=if i=c/\t<8 then AK Q k x y a b t else if i=k/\t=8 then of else if i=k/\t=9 then rm else Q i t
section
variable{s:ByteArray} {L:List Nd} {en:Nat->Nat} {Wd:Nat->Int} {H:Nat->Int->Int} {bi off:Nat->Int} {sn:Nat} {R0 R1 R2 R3:Nat->Int} {of rm:Int} {P Q Q1 Q2:Nat->Nat->Int} {k j:Nat}
theorem yR{P P'}{i}(h:∀t,4<=t->t<8->P' i t=P i t)  x y a b   t  :AK P' i x y a b t=AK P i x y a b t:=by grind[AK]
theorem jY.step(hT:dZ s L)(he:En L en)(hk:k<L.length)(hj:j<(ae L k).kids.length)(h:jY L en Wd H bi off sn R0 R1 R2 R3 of rm P Q k j)(h1:∀i t,Q1 i t=mV Q k (aP (ae L k).kids j) (R0 j) (R1 j) (R2 j) (R3 j) of rm i t)(h2:uu L en Wd H bi off sn Q1 Q2 (aP (ae L k).kids j)):jY L en Wd H bi off sn R0 R1 R2 R3 of rm P Q2 k (j+1):=by
 have hc:=he.kid k j hk hj;have hcl:=hT.nest.kid k _ hk (gh hj);have hs1:Ba en (ae L k).kids (k+1) (j+1)=en (aP (ae L k).kids j):=rfl;obtain⟨c,K1⟩:=ag (aP (ae L k).kids j);rw[K1]at hc hcl h1 h2 hs1;have hlt:=he.lt c hcl.2.1;have o1:∀i t,i≠c->i≠k->Q1 i t=Q i t:=fun i t a b=>by grind[mV]
 have ok:∀t,t<8->Q1 k t=Q k t:=fun t a=>by grind[mV]
 have o2:=h2.2.1;have kk:=fun t a=>(o2 k t (by omega)).trans (ok t a);have old:∀i,k<i->i<c->Q2 i=Q i:=fun i a b=>by grind
 refine⟨fun i a b=>?_,fun a ha t ht=>?_,fun i t q=>?_,fun t ht=>(kk t ht).trans (h.se t ht),⟨fun _=>?_,fun q=>by omega⟩⟩
 ·rw[hs1]at b;by_cases l:i<c
  ·refine(h.dn i a (by omega)).congr (old i a l) fun q hq t ht=>?_;obtain⟨z,z1,z2,z3⟩:=he.find hk j (by omega) i a (by omega);have hz:=hT.nest.kid k _ hk (gh (ks:=(ae L k).kids) (j:=z) (by omega));have e1:=he.sub _ i hz.2.1 z2 z3;have e2:=he.st_up hT hk (j-(z+1)) (z+1) (by omega);rw[show z+1+(j-(z+1))=j by omega]at e2;have e3:Ba en (ae L k).kids (k+1) (z+1)=en (aP (ae L k).kids z):=rfl;have pC:i<L.length:=by have:=hcl.2.1;omega
   have e4:=hT.nest.kid i _ pC (gh hq);have e5:=he.kid i q pC hq;have e6:=he.st_mono hT pC hq;have e7:=he.st_end hT pC (j:=q+1) (by omega);grind
  ·exact h2.1 i (by omega) b
 ·by_cases e:a=j;·subst e;rw[K1,h2.2.2 t ht,h1];grind[mV,yR]
  ·have I4:=hT.nest.kid k _ hk (gh (ks:=(ae L k).kids) (j:=a) (by omega));have e1:=he.kid k a hk (by omega);have e2:=he.st_mono hT hk (j:=a) (by omega);have e3:=he.st_up hT hk (j-(a+1)) (a+1) (by omega);rw[show a+1+(j-(a+1))=j by omega]at e3;rw[old _ (by omega) (by omega),h.pl a (by omega) t ht,yR (P:=Q) (P':=Q2) (i:=k) (fun t _ q=>kk t q)]
 ·rw[hs1]at q;rw[o2 i t (by omega),o1 i t (by omega) (by omega)];exact h.sm i t (by omega)
 grind[mV]
theorem jY.pre(hT:dZ s L)(he:En L en)(hk:k<L.length)(hj:j<(ae L k).kids.length)(hP:uw en P k)(hs:cY (ae L k).kind (aF (ae L k) 4) (aF (ae L k) 5) (aF (ae L k) 6) L (ae L k).kids Wd H (P k 0) (P k 1) (P k 2) (P k 3) of rm R0 R1 R2 R3)(Uy:0<=of/\of<=100000)(Gu:0<=rm/\P k 3+rm<=100000)(h:jY L en Wd H bi off sn R0 R1 R2 R3 of rm P Q k j)(h1:∀i t,Q1 i t=mV Q k (aP (ae L k).kids j) (R0 j) (R1 j) (R2 j) (R3 j) of rm i t):uw en Q1 (aP (ae L k).kids j):=by
 have hc:=he.kid k j hk hj;have hcl:=hT.nest.kid k _ hk (gh hj);have hse:=he.st_end hT hk (j:=j+1) (by omega);have hB:=hs.bd (hT.kids_le hk) hP.b2 hP.b3 Uy Gu (((k:Int)+1)*100000000) (by omega) hP.b0 hP.b1 j hj;obtain⟨c,K1⟩:=ag (aP (ae L k).kids j);have hs1:Ba en (ae L k).kids (k+1) (j+1)=en (aP (ae L k).kids j):=rfl;rw[K1]at hc hcl h1 hs1⊢;have p:∀t,t<8->Q1 c t=AK Q k (R0 j) (R1 j) (R2 j) (R3 j) t:=fun t ht=>by grind[mV]
 have p0:Q1 c 0=R0 j:=p 0 (by omega);have p1:Q1 c 1=R1 j:=p 1 (by omega);have p2:Q1 c 2=R2 j:=p 2 (by omega);have p3:Q1 c 3=R3 j:=p 3 (by omega);refine⟨by omega,by omega,by omega,by omega,fun i a b=>?_⟩;have e:∀t,8<=t->Q1 i t=P i t:=fun t ht=>by rw[h1];unfold mV;rw[if_neg (by omega),if_neg (by omega),if_neg (by omega)];exact h.sm i t (by omega)
 rw[e 8 (by omega),e 9 (by omega)];exact hP.z i (by omega) (by omega)
theorem jY.fin(hT:dZ s L)(he:En L en)(hk:k<L.length)(hs:cY (ae L k).kind (aF (ae L k) 4) (aF (ae L k) 5) (aF (ae L k) 6) L (ae L k).kids Wd H (P k 0) (P k 1) (P k 2) (P k 3) of rm R0 R1 R2 R3)(h4:(ae L k).kind=4->rm=ep (H (aP (ae L k).kids 0) (P k 2)) (P k 3)/\of=min (max 0 (gN (aF (ae L k) 0) bi off sn)) rm)(hn:(ae L k).kind≠4->of=0/\rm=0)(h:jY L en Wd H bi off sn R0 R1 R2 R3 of rm P Q k (ae L k).kids.length):uu L en Wd H bi off sn P Q k:=by
 have hl:=he.last k hk;have q:Q k 8=of/\Q k 9=rm:=by
  by_cases h0:0<(ae L k).kids.length;·exact h.sc.1 h0
  ·have e4:(ae L k).kind≠4:=fun e=>by rcases hT.kidok k hk with z|⟨_,_,z⟩|⟨z,_⟩<;>omega
   have:=h.sc.2 (by omega);omega
 refine⟨fun i a b=>?_,fun i t a=>h.sm i t (by omega),h.se⟩;by_cases e:i=k;·subst e;have s0:=h.se 0 (by omega);have s1:=h.se 1 (by omega);have s2:=h.se 2 (by omega);have s3:=h.se 3 (by omega);refine⟨fun e=>?_,fun e=>?_,R0,R1,R2,R3,?_,fun a ha t ht=>h.pl a ha t ht⟩;all_goals grind
 ·exact h.dn i (by omega) (by omega)
theorem zjh  Q   c  (v:Nat->Int)  i t  :bE (bE (bE (bE (bE (bE (bE (bE Q c 0 (v 0)) c 1 (v 1)) c 2 (v 2)) c 3 (v 3)) c 4 (v 4)) c 5 (v 5)) c 6 (v 6)) c 7 (v 7) i t=if i=c/\t<8 then v t else Q i t:=by
 have p:∀(Q:Nat->Nat->Int) n,bE Q c n (v n) i t=if i=c/\t=n then v t else Q i t:=fun Q n=>by grind[bE]
 simp only[p];by_cases h:i=c/\t<8;·omega
 ·rw[if_neg h,if_neg (by omega),if_neg (by omega),if_neg (by omega),if_neg (by omega),if_neg (by omega),if_neg (by omega),if_neg (by omega),if_neg (by omega)]
end
structure KrG(kd a4 a5 a6:Int)(L:List Nd)(ks:List Nat)(Wd:Nat->Int)(H:Nat->Int->Int)(x y w h o of rm:Int)(G R0 R1 R2 R3:Nat->Int):Prop where
 g0:kd=0->ks.length=0\/ci L ks (fun j=>Wd (aP ks j)) w a4 G
 g1:kd=1->ks.length=0\/ci L ks (fun j=>H (aP ks j) w) h a4 G
 gb:∀j,j<ks.length->0<=G j/\G j<=100000
 r0:kd=0->∀j,R0 j=x+cR G (cl a4) j/\R1 j=y/\R2 j=G j/\R3 j=h
 r1:kd=1->∀j,R0 j=x/\R1 j=y+cR G (cl a4) j/\R2 j=w/\R3 j=G j
 r3:kd=3->∀j,tJ x y w h (a6+a5)=rv (R0 j) (R1 j) (R2 j) (R3 j)
 r4:kd=4->(rm=ep (H (aP ks 0) w) h/\of=min (max 0 o) rm)/\∀j,R0 j=x/\R1 j=y-of/\R2 j=w/\R3 j=h+rm
 rr:kd≠0->kd≠1->kd≠3->kd≠4->∀j,R0 j=x/\R1 j=y/\R2 j=w/\R3 j=h
 no:kd≠4->of=0/\rm=0
section
variable{kd a4 a5 a6:Int} {L:List Nd} {ks:List Nat} {Wd:Nat->Int} {H:Nat->Int->Int} {x y w h o of rm:Int} {G R0 R1 R2 R3:Nat->Int}
theorem KrG.spec(k:KrG kd a4 a5 a6 L ks Wd H x y w h o of rm G R0 R1 R2 R3):cY kd a4 a5 a6 L ks Wd H x y w h of rm R0 R1 R2 R3:=
 ⟨fun e=>⟨G,(k.g0 e).imp ni id,k.gb,fun j _=>k.r0 e j⟩,fun e=>⟨G,(k.g1 e).imp ni id,k.gb,fun j _=>k.r1 e j⟩,fun e j _=>k.r3 e j,fun e j _=>(k.r4 e).2 j,fun a b c d j _=>k.rr a b c d j⟩
end
theorem QV  L   ks   N   aY cj  (U:World) (hm:ks.length<=200):∃G,(ks.length=0\/ci L ks N aY cj G)/\∀j,j<ks.length->0<=G j/\G j<=100000:=by
 by_cases h0:ks.length=0;·simp_all
 ·obtain⟨G,hG⟩:=yH L ks N aY cj U (by omega) hm;refine⟨G,.inr hG,fun j hj=>?_⟩;have:=(cO.tiles hG (vg _ _ _)).1 j hj;exact⟨this.1,jl this.2 (iP _ _).2⟩
theorem zdr  L   ks   Wd   H  (U:World) (hm:ks.length<=200)  kd a4 a5 a6 x y w h o  :∃of rm G R0 R1 R2 R3,KrG kd a4 a5 a6 L ks Wd H x y w h o of rm G R0 R1 R2 R3:=by
 by_cases h0:kd=0;·obtain⟨G,g1,g2⟩:=QV L ks (fun j=>Wd (aP ks j)) w a4 U hm;exact⟨0,0,G,fun j=>x+cR G (cl a4) j,fun _=>y,G,fun _=>h,fun _=>g1,fun e=>by omega,g2,fun _ j=>⟨rfl,rfl,rfl,rfl⟩,fun e=>by omega,fun e=>by omega,fun e=>by omega,fun e=>absurd h0 e,fun _=>⟨rfl,rfl⟩⟩
 ·by_cases h1:kd=1;·obtain⟨G,g1,g2⟩:=QV L ks (fun j=>H (aP ks j) w) h a4 U hm;exact⟨0,0,G,fun _=>x,fun j=>y+cR G (cl a4) j,fun _=>w,G,fun e=>by omega,fun _=>g1,g2,fun e=>by omega,fun _ j=>⟨rfl,rfl,rfl,rfl⟩,fun e=>by omega,fun e=>by omega,fun _ e=>absurd h1 e,fun _=>⟨rfl,rfl⟩⟩
  ·by_cases h3:kd=3;·obtain⟨i0,i1,i2,i3,hi⟩:∃i0 i1 i2 i3,tJ x y w h (a6+a5)=rv i0 i1 i2 i3:=⟨_,_,_,_,rfl⟩;exact⟨0,0,fun _=>0,fun _=>i0,fun _=>i1,fun _=>i2,fun _=>i3,fun e=>by omega,fun e=>by omega,fun j _=>⟨by omega,by omega⟩,fun e=>by omega,fun e=>by omega,fun _ _=>hi,fun e=>by omega,fun _ _ e=>absurd h3 e,fun _=>⟨rfl,rfl⟩⟩
   ·by_cases h4:kd=4;·exact⟨min (max 0 o) (ep (H (aP ks 0) w) h),ep (H (aP ks 0) w) h,fun _=>0,fun _=>x,fun _=>y-min (max 0 o) (ep (H (aP ks 0) w) h),fun _=>w,fun _=>h+ep (H (aP ks 0) w) h,fun e=>by omega,fun e=>by omega,fun j _=>⟨by omega,by omega⟩,fun e=>by omega,fun e=>by omega,fun e=>by omega,fun _=>⟨⟨rfl,rfl⟩,fun _=>⟨rfl,rfl,rfl,rfl⟩⟩,fun _ _ _ e=>absurd h4 e,fun e=>absurd h4 e⟩
    ·exact⟨0,0,fun _=>0,fun _=>x,fun _=>y,fun _=>w,fun _=>h,fun e=>by omega,fun e=>by omega,fun j _=>⟨by omega,by omega⟩,fun e=>by omega,fun e=>by omega,fun e=>by omega,fun e=>by omega,fun _ _ _ _ _=>⟨rfl,rfl,rfl,rfl⟩,fun _=>⟨rfl,rfl⟩⟩
def IV(W:World)(B m:Nat)(G:Nat->Int)(v:Value):Prop:=0<m->∃ob,v=Sq ob m m/\B<=ob/\∀i,i<m->W.cell? (az ob i)=some (Iq (G i))
theorem IV.below{W W'}{B m}{G}{v}(h:IV W B m G v)(hb:Bt W W'):IV W' B m G v:=fun a=>by obtain⟨ob,e,b,c⟩:=h a;grind[aC]
theorem IV.mono{W}{B B' m}{G}{v}(h:IV W B m G v)(hb:B'<=B):IV W B' m G v:=fun a=>by obtain⟨ob,e,b,c⟩:=h a;grind
theorem Wz{U U'}{L}{ks}{N}{e}{aY cj}{G}(h:Ig U U' L ks N e)(hm:ks.length<=200)(hG:ks.length=0\/ci L ks N aY cj G):
 ∃p c,e=Rw (.slice p ks.length c)/\Hid (Bt U U')/\Hid (Cw 77 #[Iq aY,Iq cj,.slice p ks.length c] U' fun e x=>∃v,e=Rw v/\Hid (Bt U' x)/\Hid (IV x U.heap.size ks.length G v))/\Hid (Cw 79 #[Iq aY,Iq cj,.slice p ks.length c] U' fun e x=>∃v,e=Rw v/\Hid (Bt U' x)/\Hid (IV x U.heap.size ks.length (cR G (cl cj)) v)):=by
 obtain⟨p,c,rfl,hr,hb⟩:=h;refine⟨p,c,rfl,hb,?_⟩;by_cases h0:ks.length=0
 ·rw[h0];have z:=m6 p c aY cj U';constructor;·refine z.mono ?_;rintro e x ⟨q,rfl,jF⟩;exact⟨_,rfl,jF,fun h=>by omega⟩
  ·refine(LW _ aY cj U' p z).mono ?_;rintro e x ⟨q,rfl,jF⟩;exact⟨_,rfl,jF,fun h=>by omega⟩
 ·obtain⟨b,rfl,hr2⟩:=hr.resolve_left h0;have hsp:=hG.resolve_left h0;constructor;·refine(m5 ks.length b 0 c _ _ _ aY cj U' hr2 (by omega) hm G hsp).mono ?_;rintro e x ⟨ob,rfl,hB,hf,jF⟩;exact⟨_,rfl,jF,fun _=>⟨ob,rfl,aO hb.size hB,fun i hi=>by have:=(hf.2 i hi).1;grind⟩⟩
  ·refine(LV ks.length b 0 c _ _ _ aY cj U' hr2 (by omega) hm G hsp).mono ?_;rintro e x ⟨ob,rfl,hB,hf,jF⟩;exact⟨_,rfl,jF,fun _=>⟨ob,rfl,aO hb.size hB,fun i hi=>by have:=(hf.2 i hi).1;grind⟩⟩
theorem vJ{f g}  c  :∀k,(∀j,j<k->f j=g j)->cR f c k=cR g c k
 |0,_=>rfl
 |k+1,h=>by rw[nQ,nQ,vJ c k (fun j hj=>h j (by omega)),h k (by omega)]
theorem cY.uniq{kd a4 a5 a6}{L}{ks}{Wd}{H}{x y w h of rm}{R0 R1 R2 R3 S0 S1 S2 S3}(s:cY kd a4 a5 a6 L ks Wd H x y w h of rm R0 R1 R2 R3)(s':cY kd a4 a5 a6 L ks Wd H x y w h of rm S0 S1 S2 S3)  j  (hj:j<ks.length):
 R0 j=S0 j/\R1 j=S1 j/\R2 j=S2 j/\R3 j=S3 j:=by
 have bZ:ks≠[]:=fun e=>by grind
 by_cases h0:kd=0;·obtain⟨G,g1,_,g3⟩:=s.row h0;obtain⟨G',g1',_,g3'⟩:=s'.row h0;have hu:=(g1.resolve_left bZ).uniq (g1'.resolve_left bZ);grind[vJ,cl]
 ·by_cases h1:kd=1;·obtain⟨G,g1,_,g3⟩:=s.col h1;obtain⟨G',g1',_,g3'⟩:=s'.col h1;have hu:=(g1.resolve_left bZ).uniq (g1'.resolve_left bZ);grind[vJ,cl]
  ·by_cases h3:kd=3;·have e:=s.box h3 j hj;have f:=s'.box h3 j hj;grind[QR]
   ·by_cases h4:kd=4;·obtain⟨e0,e1,e2,e3⟩:=s.scr h4 j hj;obtain⟨f0,f1,f2,f3⟩:=s'.scr h4 j hj;omega
    ·obtain⟨e0,e1,e2,e3⟩:=s.rest h0 h1 h3 h4 j hj;obtain⟨f0,f1,f2,f3⟩:=s'.rest h0 h1 h3 h4 j hj;omega
section
variable{s:ByteArray} {L:List Nd} {Wd:Nat->Int} {H:Nat->Int->Int} {w h:Int} {bi off:Nat->Int} {sn:Nat} {P Q:Nat->Nat->Int}
theorem dB.ext89(hp:dB L Wd H w h bi off sn P L.length)(hq:dB L Wd H w h bi off sn Q L.length){i}(hi:i<L.length)(h2:P i 2=Q i 2)(h3:P i 3=Q i 3):P i 8=Q i 8/\P i 9=Q i 9:=by
 by_cases h4:(ae L i).kind=4;·obtain⟨a,b⟩:=hp.sc i hi hi h4;obtain⟨c,d⟩:=hq.sc i hi hi h4;grind
 ·obtain⟨a,b⟩:=hp.no i hi (.inr h4);obtain⟨c,d⟩:=hq.no i hi (.inr h4);omega
theorem dB.uniq(hT:dZ s L)(hp:dB L Wd H w h bi off sn P L.length)(hq:dB L Wd H w h bi off sn Q L.length):∀n i,i<n->i<L.length->∀t,t<10->P i t=Q i t
 |0,i,h,_=>by omega
 |n+1,i,hn,hi=>by
  have key:∀t,t<8->P i t=Q i t:=by
   by_cases e:i=0;·subst e;obtain⟨a0,a1,a2,a3,a4,a5,a6,a7⟩:=hp.root;obtain⟨b0,b1,b2,b3,b4,b5,b6,b7⟩:=hq.root;grind
   ·obtain⟨u,k,hu,hk,hc,hup⟩:=hT.kid_of i (by omega) hi;have ih:=dB.uniq hT hp hq n u (by omega) (by omega);obtain⟨R0,R1,R2,R3,hs,ke⟩:=hp.kr u (by omega) (by omega);obtain⟨S0,S1,S2,S3,hs',zpL⟩:=hq.kr u (by omega) (by omega);have oi:=hs.congr (ih 0 (by omega)) (ih 1 (by omega)) (ih 2 (by omega)) (ih 3 (by omega)) (ih 8 (by omega)) (ih 9 (by omega));obtain⟨e0,e1,e2,e3⟩:=oi.uniq hs' k hk;grind[AK]
  grind[dB.ext89]
end
