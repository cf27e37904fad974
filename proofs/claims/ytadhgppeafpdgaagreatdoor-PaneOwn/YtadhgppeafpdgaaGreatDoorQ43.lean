import Derived.Test.YtadhgppeafpdgaaGreatDoorQ42
set_option linter.all false
set_option maxRecDepth 100000
set_option maxHeartbeats 16000000
namespace Go.Proofs.YtadhgppeafpdgaaGreatDoor
open Go.RowKit Go.Sort Go.Proofs.Tryz
structure cm(kd a4 a5 a6:Int)(L:List Nd)(ks:List Nat)(Wd:Nat->Int)(H:Nat->Int->Int)(x y w h of rm:Int)(R0 R1 R2 R3:Nat->Int):Prop where
 row:kd=0->∃G,(ks=[]\/bQ L ks (fun j=>Wd (bf ks j)) w a4 G)/\(∀j,j<ks.length->0<=G j/\G j<=100000)/\∀j,j<ks.length->R0 j=x+offs G (cl a4) j/\R1 j=y/\R2 j=G j/\R3 j=h
 col:kd=1->∃G,(ks=[]\/bQ L ks (fun j=>H (bf ks j) w) h a4 G)/\(∀j,j<ks.length->0<=G j/\G j<=100000)/\∀j,j<ks.length->R0 j=x/\R1 j=y+offs G (cl a4) j/\R2 j=w/\R3 j=G j
 box:kd=3->∀j,j<ks.length->Fg x y w h (a6+a5)=rv (R0 j) (R1 j) (R2 j) (R3 j)
 scr:kd=4->∀j,j<ks.length->R0 j=x/\R1 j=y-of/\R2 j=w/\R3 j=h+rm
 rest:kd≠0->kd≠1->kd≠3->kd≠4->∀j,j<ks.length->R0 j=x/\R1 j=y/\R2 j=w/\R3 j=h
def jL(U U':World)(r m:Nat)(H:Nat->Int->Int)(n:Nat)(X:(Nat->Int)->(Nat->Int)->(Nat->Int)->(Nat->Int)->Prop)(e:Ending):Prop:=∃q cq R0 R1 R2 R3,e=Rw (.slice q m cq)/\X R0 R1 R2 R3/\(m=0\/∃b,q=some (aq b 0)/\U.heap.size<=b/\qW U' b m R0 R1 R2 R3)/\U.grownBy U' (some r)/\aW U' r H n
theorem jL.base{U U0 U'}{r m}{H}{n}{X}{e}(h:jL U U' r m H n X e)(h0:U0.grownBy U (some r)):jL U0 U' r m H n X e:=by
 obtain⟨q,cq,R0,R1,R2,R3,h1,h2,h3,h4,h5⟩:=h;refine⟨q,cq,R0,R1,R2,R3,h1,h2,?_,h0.trans h4,h5⟩;rcases h3 with h3|⟨b,e,h6,h7⟩;·exact .inl h3
 ·exact .inr ⟨b,e,aH h0.size h6,h7⟩
theorem XU{W:World}{b m:Nat}{x y a c:Int}{Ls:List Value}(h:W.heap[b]?=some (.cells Ls.toArray 100 (0,0)))(hf:Eg 4 Ls m m [Iq x,Iq y,Iq a,Iq c]):qW W b m (fun _=>x) (fun _=>y) (fun _=>a) (fun _=>c):=by
 refine⟨(az.1 h).1,fun j hj=>⟨?_,?_,?_,?_⟩⟩;·rw[Lib.cell_of_heap h];have:=hf.2 j 0 _ hj rfl;simpa using this
 ·rw[Lib.cell_of_heap h];have:=hf.2 j 1 _ hj rfl;simpa using this
 ·rw[Lib.cell_of_heap h];have:=hf.2 j 2 _ hj rfl;simpa using this
 ·rw[Lib.cell_of_heap h];have:=hf.2 j 3 _ hj rfl;simpa using this
theorem Qj(m:Nat)(hm:m<=1000)  x y a c   u  :
 Cw 165 #[Sq u.heap.size 1 1,Iq (m:Int)] (u.alloc (.cells #[Iq x,Iq y,Iq a,Iq c] 100)) fun e u'=>∃q cq,e=Rw (.slice q m cq)/\Hid (m=0\/∃b,q=some (aq b 0)/\u.heap.size<=b/\qW u' b m (fun _=>x) (fun _=>y) (fun _=>a) (fun _=>c))/\Hid (Bt u u'):=by
 have dE:Bt u (u.alloc (.cells #[Iq x,Iq y,Iq a,Iq c] 100)):=(ag _ u).alloc (ae _) _;by_cases hz:m=0;·subst hz;refine(Ds (.inr (.inl ⟨rfl,rfl,rfl,rfl⟩)) (u.alloc (.cells #[Iq x,Iq y,Iq a,Iq c] 100)) u.heap.size).mono ?_;rintro e u' ⟨q,cq,rfl,hb⟩;exact⟨q,cq,rfl,.inl rfl,dE.trans (hb.mono dE.size)⟩
 ·refine(zS (.inr (.inl ⟨rfl,rfl,rfl,rfl⟩)) (u.alloc (.cells #[Iq x,Iq y,Iq a,Iq c] 100)) [Iq x,Iq y,Iq a,Iq c] rfl (by simp[Value.oneCell']) u.heap.size m (by omega) (by simp) (fun k v hk=>?_)).mono ?_;·rw[World.cell?_alloc_at _ _ _ _ rfl];match k with
   |0=>exact hk
   |1=>exact hk
   |2=>exact hk
   |3=>exact hk
   |k+4=>cases hk
  ·rintro e u' ⟨rfl,⟨Ls,hl,RQ⟩,hb⟩;exact⟨_,_,rfl,.inr ⟨_,rfl,dE.size,XU hl RQ⟩,dE.trans (hb.mono dE.size)⟩
theorem jL.mono{U U'}{r m}{H}{n n'}{X}{e}(h:jL U U' r m H n X e)(hn:n<=n'):jL U U' r m H n' X e:=by obtain⟨q,cq,R0,R1,R2,R3,h1,h2,h3,h4,h5⟩:=h;exact⟨q,cq,R0,R1,R2,R3,h1,h2,h3,h4,h5.mono hn⟩
def ndC(kd a0 a1 a2 a3 a4 a5 a6 a7 a8 a9 b0 b1:Int)(tx:ByteArray)(kv:Value)(up:Int):Array Value:=#[Iq kd,Iq a0,Iq a1,Iq a2,Iq a3,Iq a4,Iq a5,Iq a6,Iq a7,Iq a8,Iq a9,Iq b0,Iq b1,.string tx,kv,Iq up]
theorem YX{U}{r nn m:Nat}{H}{X}(hm:m<=200)(hM:aW U r H nn)  u   x0 y0 w0 h0  (hu:Bt U u) (Ep:X (fun _=>x0) (fun _=>y0) (fun _=>w0) (fun _=>h0)):
 Cw 165 #[Sq u.heap.size 1 1,Iq (m:Int)] (u.alloc (.cells #[Iq x0,Iq y0,Iq w0,Iq h0] 100)) fun e u'=>∃q cq,e=Rw (.slice q m cq)/\Hid (jL U u' r m H (nn+100*m) X (.returned (.slice q m cq))):=by
 refine(Qj m (by omega) x0 y0 w0 h0 u).mono ?_;rintro e u' ⟨q,cq,rfl,q1,q2⟩;have hb:=hu.trans (q2.mono hu.size);refine⟨q,cq,rfl,q,cq,_,_,_,_,rfl,Ep,?_,aa hb,(hM.grown_below hb).mono (by omega)⟩;rcases q1.out with e|⟨b,e,l,h⟩;·exact .inl e
 ·exact .inr ⟨b,e,aH hu.size l,h⟩
theorem wL(mb r nn m:Nat)(L:List Nd)(ks:List Nat)(Wd:Nat->Int)(H:Nat->Int->Int)(kd a0 a1 a2 a3 a4 a5 a6 a7 a8 a9 b0 b1 up:Int)(tx:ByteArray)(p:Option Addr)(c:Nat)(x y w h c0 c1 c2 c3 of rm:Int)(U:World)
 (hmm:ks.length=m) (hm:m<=200) (hM:Hid (aW U r H nn)) (hx:-1000000000000<=x/\x<=1000000000000) (hy:-1000000000000<=y/\y<=1000000000000) (hw:0<=w/\w<=100000) (hh:0<=h/\h<=100000) (h5:0<=a5/\a5<=1000000) (h6:0<=a6/\a6<=1000000) (hof:0<=of/\of<=100000) (RY:0<=rm/\rm<=100000)
 (WR:Hid (kd=0->∀u,Bt U u->aW u r H nn->Cw 161 #[Pq mb,fO kd a0 a1 a2 a3 a4 a5 a6 a7 a8 a9 b0 b1 tx (.slice p m c) up] u fun e u'=>∃v,e=Rw v/\iG u u' r m L ks (fun j=>Wd (bf ks j)) H (nn+100*m) v))
 (WC:Hid (kd=1->∀u,Bt U u->aW u r H nn->Cw 163 #[Pq mb,fO kd a0 a1 a2 a3 a4 a5 a6 a7 a8 a9 b0 b1 tx (.slice p m c) up,Iq w] u fun e u'=>∃v,e=Rw v/\iG u u' r m L ks (fun j=>H (bf ks j) w) H (nn+100*m) v)):
 Cw 121 #[Pq mb,fO kd a0 a1 a2 a3 a4 a5 a6 a7 a8 a9 b0 b1 tx (.slice p m c) up,.agg #[Iq x,Iq y,Iq w,Iq h,Iq c0,Iq c1,Iq c2,Iq c3,Iq of,Iq rm]] U fun e U'=>jL U U' r m H (nn+100*m) (cm kd a4 a5 a6 L ks Wd H x y w h of rm) e:=by
 have kU:prog.follows .mixedOrders=true:=by kernel_rfl
 obtain⟨W3,ld⟩:=af (((U.alloc (.cells (ndC kd a0 a1 a2 a3 a4 a5 a6 a7 a8 a9 b0 b1 tx (.slice p m c) up) 94)).alloc (.cells #[Iq x,Iq y,Iq w,Iq h,Iq c0,Iq c1,Iq c2,Iq c3,Iq of,Iq rm] 102)).alloc (.cells #[Iq x,Iq y,Iq w,Iq h] 100));obtain⟨A,hA⟩:=af U.heap.size;have fm:Hid (Bt U W3):=by rw[<-ld];exact((((Gr.refl U).alloc _).alloc _).alloc _).below
 have hn3:W3.heap[A]?=some (.cells (ndC kd a0 a1 a2 a3 a4 a5 a6 a7 a8 a9 b0 b1 tx (.slice p m c) up) 94 (0,0)):=by rw[<-ld,<-hA,cG _ _ _ (by rw[aA,aA];omega),cG _ _ _ (by rw[aA];omega)];exact heap_alloc_new _ _
 have Hu:W3.heap[A+1]?=some (.cells #[Iq x,Iq y,Iq w,Iq h,Iq c0,Iq c1,Iq c2,Iq c3,Iq of,Iq rm] 102 (0,0)):=by rw[<-ld,<-hA,cG _ _ _ (by rw[aA,aA];omega),<-World.size_alloc];exact heap_alloc_new _ _
 have nR:W3.heap[A+1+1]?=some (.cells #[Iq x,Iq y,Iq w,Iq h] 100 (0,0)):=by rw[<-ld,<-hA,<-World.size_alloc,<-World.size_alloc];exact heap_alloc_new _ _
 unfold ndC at ld;have hrA:r<A:=by rw[<-hA];exact hM.lt
 have HS:Hid (∀u,W3.grownBy u (some r)->(u.cell? (aq A 0)=some (Iq kd)/\u.cell? (aq A 1)=some (Iq a0)/\u.cell? (aq A 2)=some (Iq a1)/\u.cell? (aq A 3)=some (Iq a2)/\u.cell? (aq A 4)=some (Iq a3)/\u.cell? (aq A 5)=some (Iq a4)/\u.cell? (aq A 6)=some (Iq a5)/\u.cell? (aq A 7)=some (Iq a6)/\u.cell? (aq A 8)=some (Iq a7)/\u.cell? (aq A 9)=some (Iq a8)/\u.cell? (aq A 10)=some (Iq a9)/\u.cell? (aq A 11)=some (Iq b0)/\u.cell? (aq A 12)=some (Iq b1)/\u.cell? (aq A 13)=some (.string tx)/\u.cell? (aq A 14)=some (.slice p m c)/\u.cell? (aq A 15)=some (Iq up))/\u.cell? (aq (A+1+1) 0)=some (Iq x)/\u.cell? (aq (A+1+1) 1)=some (Iq y)/\u.cell? (aq (A+1+1) 2)=some (Iq w)/\u.cell? (aq (A+1+1) 3)=some (Iq h)):=fun u hu=>by
  have hb1:=(hu.block A (az.1 hn3).1 (fun e=>by injection e with e;omega)).trans hn3;have dE:=(hu.block (A+1+1) (az.1 nR).1 (fun e=>by injection e with e;omega)).trans nR;refine⟨⟨?_,?_,?_,?_,?_,?_,?_,?_,?_,?_,?_,?_,?_,?_,?_,?_⟩,?_,?_,?_,?_⟩;all_goals first
   |(rw[Lib.cell_of_heap hb1];rfl)
   |(rw[Lib.cell_of_heap dE];rfl)
 obtain⟨⟨z0,z1,z2,z3,z4,z5,z6,z7,z8,z9,Sd,Se,Sf,Sg,Vw,Sh⟩,y0,y1,y2,y3⟩:=HS W3 (aa (ag _ _));have p8:W3.cell? (aq (A+1) 8)=some (Iq of):=by rw[Lib.cell_of_heap Hu];rfl
 have p9:W3.cell? (aq (A+1) 9)=some (Iq rm):=by rw[Lib.cell_of_heap Hu];rfl
 have Jo:Hid (aW W3 r H nn):=hM.grown_below fm;have zm3:A<W3.heap.size:=(az.1 hn3).1;have zoD:¬A=W3.heap.size:=by omega
 have RP:=qH<|fun u x0 y0 w0 h0=>YX (X:=cm kd a4 a5 a6 L ks Wd H x y w h of rm) hm hM u x0 y0 w0 h0;by_cases ZW:kd=0\/kd=1;·-- a row,a col
  obtain⟨f,av,g,s,N,hf⟩:∃f av g s N,(kd=0/\f=161/\av=#[Pq mb,fO kd a0 a1 a2 a3 a4 a5 a6 a7 a8 a9 b0 b1 tx (.slice p m c) up]/\g=160/\s=w/\N=fun j=>Wd (bf ks j))\/(kd=1/\f=163/\av=#[Pq mb,fO kd a0 a1 a2 a3 a4 a5 a6 a7 a8 a9 b0 b1 tx (.slice p m c) up,Iq w]/\g=162/\s=h/\N=fun j=>H (bf ks j) w):=by
   rcases ZW with e|e;·exact⟨_,_,_,_,_,.inl ⟨e,rfl,rfl,rfl,rfl,rfl⟩⟩
   ·exact⟨_,_,_,_,_,.inr ⟨e,rfl,rfl,rfl,rfl,rfl⟩⟩
  have RW:Hid (∀u,(u=W3\/u=W3.drew)->Cw f av u fun e u'=>∃v,e=Rw v/\Hid (iG W3 u' r m L ks N H (nn+100*m) v)):=fun u hu=>by
   have jj:Bt W3 u:=by
    rcases hu with rfl|rfl;·exact ag _ _
    ·exact(ag _ _).drew
   have hc:Cw f av u fun e u'=>∃v,e=Rw v/\iG u u' r m L ks N H (nn+100*m) v:=by
    rcases hf with⟨e,rfl,rfl,_,_,rfl⟩|⟨e,rfl,rfl,_,_,rfl⟩;·exact WR e u (fm.trans (jj.mono fm.size)) (Jo.grown_below jj)
    ·exact WC e u (fm.trans (jj.mono fm.size)) (Jo.grown_below jj)
   refine hc.mono ?_;rintro e u' ⟨v,rfl,lb,rfl,q1,q2,q3,q4⟩;exact⟨_,rfl,lb,rfl,q1,aH jj.size q2,(aa jj).trans q3,q4⟩
  have IN:Hid (∀v u,iG W3 u r m L ks N H (nn+100*m) v->Cw g #[.agg #[Iq x,Iq y,Iq w,Iq h],Iq a4,v] u fun e u'=>∃q cq,e=Rw (.slice q m cq)/\Hid (jL W3 u' r m H (nn+100*m) (cm kd a4 a5 a6 L ks Wd H x y w h of rm) (.returned (.slice q m cq)))):=fun v u hv=>by
   obtain⟨G,hG⟩:=Va L ks N s a4;obtain⟨X,Y,P,Q,hXY⟩:∃X Y P Q:Nat->Int,(g=160/\s=w/\(∀k,X k=x+offs G (cl a4) k/\Y k=y/\P k=G k/\Q k=h)\/g=162/\s=h/\∀k,X k=x/\Y k=y+offs G (cl a4) k/\P k=w/\Q k=G k)/\((ks=[]\/bQ L ks N s a4 G)->(∀j,j<m->0<=G j/\G j<=100000)->cm kd a4 a5 a6 L ks Wd H x y w h of rm X Y P Q):=by
    rcases hf with⟨rfl,_,_,e1,rfl,rfl⟩|⟨rfl,_,_,e1,rfl,rfl⟩;·exact⟨fun k=>_,fun k=>_,fun k=>_,fun k=>_,.inl ⟨e1,rfl,fun k=>⟨rfl,rfl,rfl,rfl⟩⟩,fun g1 g2=>⟨fun _=>⟨G,g1,by rw[hmm];exact g2,fun j _=>⟨rfl,rfl,rfl,rfl⟩⟩,nofun,nofun,nofun,fun e=>absurd rfl e⟩⟩
    ·exact⟨fun k=>_,fun k=>_,fun k=>_,fun k=>_,.inr ⟨e1,rfl,fun k=>⟨rfl,rfl,rfl,rfl⟩⟩,fun g1 g2=>⟨nofun,fun _=>⟨G,g1,by rw[hmm];exact g2,fun j _=>⟨rfl,rfl,rfl,rfl⟩⟩,nofun,nofun,fun _ e=>absurd rfl e⟩⟩
   refine(YR g r m x y w h s a4 X Y P Q G L ks N H (nn+100*m) v W3 u hG hXY.1 hmm hm (by have:=fm.size;omega) hx hy hw hh hv).mono ?_;rintro e u' ⟨lb,rfl,⟨o1,o2,o3⟩,g1,g2⟩;obtain⟨lv,_,_,v2,v3,v4⟩:=hv;exact⟨_,_,rfl,_,_,_,_,_,_,rfl,hXY.2 g1 g2,.inr ⟨lb,rfl,aH v3.size o2,o1⟩,v3.trans (aa o3),v4.grown_below o3⟩
  clear hn3 Hu nR hM WR WC p8 p9 ZW RP;rcases hf with⟨hk,rfl,rfl,rfl,_,_⟩|⟨hk,rfl,rfl,rfl,_,_⟩;all_goals
   first
    |have e0:(kd==0)=true:=by simp[hk]
    |(have e0:(kd==0)=false:=(by simp[hk]);have e1:(kd==1)=true:=(by simp[hk]))
   clear hk;unfold fO at RW⊢;go_enter func121,ntmps121;go_wp2_with fail;clear ld hA;go_region_held(fun W=>(W.cell? (aq A 0)=some (Iq kd)/\W.cell? (aq A 1)=some (Iq a0)/\W.cell? (aq A 2)=some (Iq a1)/\W.cell? (aq A 3)=some (Iq a2)/\W.cell? (aq A 4)=some (Iq a3)/\W.cell? (aq A 5)=some (Iq a4)/\W.cell? (aq A 6)=some (Iq a5)/\W.cell? (aq A 7)=some (Iq a6)/\W.cell? (aq A 8)=some (Iq a7)/\W.cell? (aq A 9)=some (Iq a8)/\W.cell? (aq A 10)=some (Iq a9)/\W.cell? (aq A 11)=some (Iq b0)/\W.cell? (aq A 12)=some (Iq b1)/\W.cell? (aq A 13)=some (.string tx)/\W.cell? (aq A 14)=some (.slice p m c)/\W.cell? (aq A 15)=some (Iq up))/\W.cell? (aq (A+1+1) 0)=some (Iq x)/\W.cell? (aq (A+1+1) 1)=some (Iq y)/\W.cell? (aq (A+1+1) 2)=some (Iq w)/\W.cell? (aq (A+1+1) 3)=some (Iq h)) (go_keep) (first|((first|go_at_call 161|go_at_call 163);refine ai (RW _ (by first|exact .inl rfl|exact .inr rfl)) ?_;rintro e u1 ⟨v1,rfl,HO⟩;obtain⟨⟨s0,s1,s2,s3,s4,s5,s6,s7,s8,s9,WQ,WS,WU,WV,WW,WX⟩,e0,e1,e2,e3⟩:=HS u1 HO.g)|((first|go_at_call 160|go_at_call 162);refine ai (IN _ _ HO) ?_;rintro e u2 ⟨q,cq,rfl,HZ⟩;obtain⟨⟨t0,t1,t2,t3,t4,t5,t6,t7,t8,t9,t10,t11,t12,t13,t14,t15⟩,f0,f1,f2,f3⟩:=HS u2 (by obtain⟨_,_,_,_,_,_,_,_,_,hq,_⟩:=HZ.out;exact hq)));all_goals go_wp2;go_ret;exact HZ.base (aa fm)
 by_cases k3:kd=3;·-- a box
  subst k3;obtain⟨i0,i1,i2,i3,Yv⟩:∃i0 i1 i2 i3,Fg x y w h (a6+a5)=rv i0 i1 i2 i3:=⟨_,_,_,_,rfl⟩;have Xu:Hid (cm 3 a4 a5 a6 L ks Wd H x y w h of rm (fun _=>i0) (fun _=>i1) (fun _=>i2) (fun _=>i3)):=⟨nofun,nofun,fun _ j _=>Yv,nofun,fun _ _ e=>absurd rfl e⟩;have FA:Hid (∀u,(u=W3\/u=W3.drew)->Cw 157 #[fO 3 a0 a1 a2 a3 a4 a5 a6 a7 a8 a9 b0 b1 tx (.slice p m c) up] u fun e u'=>e=Rw (Iq (a6+a5))/\Hid (Bt W3 u')):=fun u hu=>by
   have jj:Bt W3 u:=by
    rcases hu with rfl|rfl;·exact ag _ _
    ·exact(ag _ _).drew
   refine(mg 3 a0 a1 a2 a3 a4 a5 a6 a7 a8 a9 b0 b1 up tx p m c h5 h6 u).mono ?_;rintro e u' ⟨rfl,q⟩;exact⟨by unfold kT;rw[if_pos rfl],jj.trans (q.mono jj.size)⟩
  have IS:Hid (∀u,Bt W3 u->Cw 164 #[.agg #[Iq x,Iq y,Iq w,Iq h],Iq (a6+a5)] u fun e u'=>e=Rw (.agg #[Iq i0,Iq i1,Iq i2,Iq i3])/\Hid (Bt W3 u')):=fun u hu=>by have:=KJ x y w h (a6+a5) u;rw[Yv]at this;refine this.mono ?_;rintro e u' ⟨rfl,q⟩;exact⟨rfl,hu.trans (q.below.mono hu.size)⟩
  have za8:A+1+1<W3.heap.size:=(az.1 nR).1;have HFZ:Hid (∀u,Bt W3 u->∀j,u.frozen? (aq (A+1+1) j)=false):=fun u hu j=>frozen_of_row _ _ _ _ _ ((hu.block _ za8).trans nR);have HNX:Hid (∀u,Bt W3 u->((((u.setCell (aq (A+1+1) 0) (Iq i0)).setCell (aq (A+1+1) 1) (Iq i1)).setCell (aq (A+1+1) 2) (Iq i2)).setCell (aq (A+1+1) 3) (Iq i3)).heap[A+1+1]?=some (.cells #[Iq i0,Iq i1,Iq i2,Iq i3] 100 (0,0))/\((((u.setCell (aq (A+1+1) 0) (Iq i0)).setCell (aq (A+1+1) 1) (Iq i1)).setCell (aq (A+1+1) 2) (Iq i2)).setCell (aq (A+1+1) 3) (Iq i3)).heap[A]?=some (.cells (ndC 3 a0 a1 a2 a3 a4 a5 a6 a7 a8 a9 b0 b1 tx (.slice p m c) up) 94 (0,0))/\Bt U ((((u.setCell (aq (A+1+1) 0) (Iq i0)).setCell (aq (A+1+1) 1) (Iq i1)).setCell (aq (A+1+1) 2) (Iq i2)).setCell (aq (A+1+1) 3) (Iq i3))):=fun u hu=>by
   have hr4:R4 100 u (A+1+1) x y w h:=(hu.block _ za8).trans nR;have hl:∀t,U.heap.size<=((aq (A+1+1) t):Addr).block:=fun t=>by rw[hA];show A<=A+1+1;omega
   refine⟨hr4.set i0 i1 i2 i3,?_,((((fm.trans (hu.mono fm.size)).setCell (hl 0) _).setCell (hl 1) _).setCell (hl 2) _).setCell (hl 3) _⟩;have bj:A≠A+1+1:=by omega
   rw[bv _ (aq (A+1+1) 3) _ _ bj,bv _ (aq (A+1+1) 2) _ _ bj,bv _ (aq (A+1+1) 1) _ _ bj,bv _ (aq (A+1+1) 0) _ _ bj];exact(hu.block A (az.1 hn3).1).trans hn3
  unfold fO at FA⊢;clear hn3 Hu nR hM Yv WR WC ZW Jo;go_enter func121,ntmps121;go_wp2_with fail;clear ld hA;go_region_with(first|(go_at_call 157;refine ai (FA _ (by first|exact .inl rfl|exact .inr rfl)) ?_;rintro e u1 ⟨rfl,yB⟩;obtain⟨⟨s0,s1,s2,s3,s4,s5,s6,s7,s8,s9,WQ,WS,WU,WV,WW,WX⟩,e0,e1,e2,e3⟩:=HS u1 (aa yB))|(go_at_call 164;refine ai (IS _ yB) ?_;rintro e u2 ⟨rfl,HBv⟩;obtain⟨⟨t0,t1,t2,t3,t4,t5,t6,t7,t8,t9,t10,t11,t12,t13,t14,t15⟩,f0,f1,f2,f3⟩:=HS u2 (aa HBv);have Wp:=HFZ u2 HBv));all_goals
   obtain⟨wc,_B⟩:=af ((((u2.setCell (aq (A+1+1) 0) (Iq i0)).setCell (aq (A+1+1) 1) (Iq i1)).setCell (aq (A+1+1) 2) (Iq i2)).setCell (aq (A+1+1) 3) (Iq i3));have Eu:Hid (wc.heap[A+1+1]?=some (.cells #[Iq i0,Iq i1,Iq i2,Iq i3] 100 (0,0))/\wc.heap[A]?=some (.cells (ndC 3 a0 a1 a2 a3 a4 a5 a6 a7 a8 a9 b0 b1 tx (.slice p m c) up) 94 (0,0))/\Bt U wc):=by rw[<-_B];exact HNX u2 HBv
   have g0:wc.cell? (aq (A+1+1) 0)=some (Iq i0):=by rw[Lib.cell_of_heap Eu.1];rfl
   have g1:wc.cell? (aq (A+1+1) 1)=some (Iq i1):=by rw[Lib.cell_of_heap Eu.1];rfl
   have g2:wc.cell? (aq (A+1+1) 2)=some (Iq i2):=by rw[Lib.cell_of_heap Eu.1];rfl
   have g3:wc.cell? (aq (A+1+1) 3)=some (Iq i3):=by rw[Lib.cell_of_heap Eu.1];rfl
   have g14:wc.cell? (aq A 14)=some (.slice p m c):=by rw[Lib.cell_of_heap Eu.2.1];rfl
   have zm4:A<wc.heap.size:=(az.1 Eu.2.1).1;have bj:¬A=wc.heap.size:=by omega
   rw[_B];clear _B z0 z1 z2 z3 z4 z5 z6 z7 z8 z9 Sd Se Sf Sg Vw Sh y0 y1 y2 y3 HS FA IS HFZ HNX s0 s1 s2 s3 s4 s5 s6 s7 s8 s9 WQ WS WU WV WW WX e0 e1 e2 e3 t0 t1 t2 t3 t4 t5 t6 t7 t8 t9 t10 t11 t12 t13 t14 t15 f0 f1 f2 f3 Wp;go_wp2_with(go_at_call 165;refine ai (RP _ _ _ _ _ Eu.2.2 Xu) ?_;rintro e u3 ⟨q,cq,rfl,HZ⟩);go_ret;exact HZ
 by_cases k4:kd=4;·-- a scroll
  subst k4;have Xu:Hid (cm 4 a4 a5 a6 L ks Wd H x y w h of rm (fun _=>x) (fun _=>y-of) (fun _=>w) (fun _=>h+rm)):=⟨nofun,nofun,nofun,fun _ j _=>⟨rfl,rfl,rfl,rfl⟩,fun _ _ _ e=>absurd rfl e⟩;have n1:¬A+1+1=A:=by omega
  have n2:¬A+1+1=A+1:=by omega
  have n3:¬A=A+1+1:=by omega
  have n4:¬A+1=A+1+1:=by omega
  have Wp:∀j,W3.frozen? (aq (A+1+1) j)=false:=fun j=>frozen_of_row _ _ _ _ _ nR;have HB4:Hid (Bt U ((W3.setCell (aq (A+1+1) 1) (Iq (y-of))).setCell (aq (A+1+1) 3) (Iq (h+rm)))):=(fm.setCell (p:=(aq (A+1+1) 1)) (by rw[hA];show A<=A+1+1;omega) _).setCell (p:=(aq (A+1+1) 3)) (by rw[hA];show A<=A+1+1;omega) _;obtain⟨W4,vR⟩:=af ((W3.setCell (aq (A+1+1) 1) (Iq (y-of))).setCell (aq (A+1+1) 3) (Iq (h+rm)));have eV:W4.heap.size=W3.heap.size:=by rw[<-vR];simp
  have RP4:Hid (Cw 165 #[Sq W3.heap.size 1 1,Iq (m:Int)] (((W3.setCell (aq (A+1+1) 1) (Iq (y-of))).setCell (aq (A+1+1) 3) (Iq (h+rm))).alloc (.cells #[Iq x,Iq (y-of),Iq w,Iq (h+rm)] 100)) fun e u'=>∃q cq,e=Rw (.slice q m cq)/\Hid (jL U u' r m H (nn+100*m) (cm 4 a4 a5 a6 L ks Wd H x y w h of rm) (.returned (.slice q m cq)))):=by have:=RP W4 _ _ _ _ (by rw[<-vR];exact HB4) Xu;rw[eV]at this;rw[vR];exact this
  unfold fO;clear hn3 Hu nR hM HS vR eV WR WC ZW Jo k3;go_enter func121,ntmps121;go_upto_region 3 with fail;clear ld hA;go_wp2_with(go_at_call 165;refine ai RP4 ?_;rintro e u2 ⟨q,cq,rfl,HZ⟩);go_ret;exact HZ
 have e0:(kd==0)=false:=by simp;omega
 have e1:(kd==1)=false:=by simp;omega
 have e3:(kd==3)=false:=by simp;omega
 have e4:(kd==4)=false:=by simp;omega
 have Xu:Hid (cm kd a4 a5 a6 L ks Wd H x y w h of rm (fun _=>x) (fun _=>y) (fun _=>w) (fun _=>h)):=⟨by omega,by omega,by omega,by omega,fun _ _ _ _ j _=>⟨rfl,rfl,rfl,rfl⟩⟩;unfold fO;clear hn3 Hu nR hM HS WR WC Jo;go_enter func121,ntmps121;go_upto_region 3 with fail;clear ld hA;go_wp2_with(go_at_call 165;refine ai (RP _ _ _ _ _ fm Xu) ?_;rintro e u2 ⟨q,cq,rfl,HZ⟩);go_ret;exact HZ
def A9(ax ay aw ah bx eG bw bh:Int):Int:=if gd ax aw bx bw>=ji ax aw bx bw\/gd ay ah eG bh>=ji ay ah eG bh then 0 else gd ax aw bx bw
def pX(ax ay aw ah bx eG bw bh:Int):Int:=if gd ax aw bx bw>=ji ax aw bx bw\/gd ay ah eG bh>=ji ay ah eG bh then 0 else gd ay ah eG bh
def oA(ax ay aw ah bx eG bw bh:Int):Int:=if gd ax aw bx bw>=ji ax aw bx bw\/gd ay ah eG bh>=ji ay ah eG bh then 0 else ji ax aw bx bw-gd ax aw bx bw
def A_(ax ay aw ah bx eG bw bh:Int):Int:=if gd ax aw bx bw>=ji ax aw bx bw\/gd ay ah eG bh>=ji ay ah eG bh then 0 else ji ay ah eG bh-gd ay ah eG bh
theorem JO  ax ay aw ah bx eG bw bh  :EE ax ay aw ah bx eG bw bh=rv (A9 ax ay aw ah bx eG bw bh) (pX ax ay aw ah bx eG bw bh) (oA ax ay aw ah bx eG bw bh) (A_ ax ay aw ah bx eG bw bh):=by grind[EE,A9,pX,oA,A_]
def xU(P:Nat->Nat->Int)(c:Nat)(v:Nat->Int):Nat->Nat->Int:=fun q t=>if q=c then v t else P q t
def Sa(P:Nat->Nat->Int)(i:Nat)(x y a b:Int)(t:Nat):Int:=
 if t=0 then x else if t=1 then y else if t=2 then a else if t=3 then b else if t=4 then A9 x y a b (P i 4) (P i 5) (P i 6) (P i 7)else if t=5 then pX x y a b (P i 4) (P i 5) (P i 6) (P i 7)else if t=6 then oA x y a b (P i 4) (P i 5) (P i 6) (P i 7)else if t=7 then A_ x y a b (P i 4) (P i 5) (P i 6) (P i 7)else 0
def Io(P:Nat->Nat->Int)(i:Nat)(ks:List Nat)(R0 R1 R2 R3:Nat->Int):Nat->Nat->Nat->Int
 |0=>P
 |j+1=>xU (Io P i ks R0 R1 R2 R3 j) (bf ks j) (Sa P i (R0 j) (R1 j) (R2 j) (R3 j))
section
variable{P:Nat->Nat->Int} {i:Nat} {ks:List Nat} {R0 R1 R2 R3:Nat->Int}
theorem qL:∀j,(∀t,t<j->t<ks.length)->∀q,q∉ks->Io P i ks R0 R1 R2 R3 j q=P q
 |0,_,q,_=>rfl
 |j+1,hj,q,hq=>by have:=qL j (fun t ht=>hj t (by omega)) q hq;funext t;show(if q=bf ks j then _ else Io P i ks R0 R1 R2 R3 j q t)=_;rw[if_neg (fun e=>hq (by grind[mD])),this]
theorem T5(hn:ks.Nodup){a b}(ha:a<ks.length)(hb:b<ks.length)(e:bf ks a=bf ks b):a=b:=by
 unfold bf at e;rw[di ha,di hb]at e;rcases Jb a b with h|h|h;·exact absurd e (QY.1 hn a b ha hb h)
 ·exact h
 ·exact absurd e.symm (QY.1 hn b a hb ha h)
theorem Ip(hn:ks.Nodup):∀j,j<=ks.length->∀a,a<j->Io P i ks R0 R1 R2 R3 j (bf ks a)=Sa P i (R0 a) (R1 a) (R2 a) (R3 a)
 |0,_,a,h=>by omega
 |j+1,hj,a,ha=>by
  funext t;show(if bf ks a=bf ks j then Sa P i (R0 j) (R1 j) (R2 j) (R3 j) t else Io P i ks R0 R1 R2 R3 j (bf ks a) t)=_;by_cases e:a=j;·grind
  ·rw[if_neg (fun q=>e (T5 hn (by omega) (by omega) q)),Ip hn j (by omega) a (by omega)]
end
theorem Ch.ok{L}{d}{ks}{a e}(h:Ch L d ks a e):∀j,a<=j->j<e->tu (L j):=by
 induction h with
 |nil d a=>omega
 |@cons d c r e1 e h1 h2 h3 h4 i1 i2=>grind
theorem gA.kidok{s}{L}(h:gA s L)  j  (hj:j<L.length):tu (ac L j):=h.ch.ok j (bm _) hj
structure cQ(L:List Nd)(Wd:Nat->Int)(H:Nat->Int->Int)(w h:Int)(aX off:Nat->Int)(sn:Nat)(P:Nat->Nat->Int)(k:Nat):Prop where
 root:P 0 0=0/\P 0 1=0/\P 0 2=w/\P 0 3=h/\P 0 4=0/\P 0 5=0/\P 0 6=w/\P 0 7=h
 sc:∀i,i<L.length->i<k->(ac L i).kind=4->P i 9=gu (H (bf (ac L i).kids 0) (P i 2)) (P i 3)/\P i 8=min (max 0 (jE (aC (ac L i) 0) aX off sn)) (P i 9)
 no:∀i,i<L.length->(k<=i\/(ac L i).kind≠4)->P i 8=0/\P i 9=0
 kr:∀i,i<L.length->i<k->∃R0 R1 R2 R3,cm (ac L i).kind (aC (ac L i) 4) (aC (ac L i) 5) (aC (ac L i) 6) L (ac L i).kids Wd H (P i 0) (P i 1) (P i 2) (P i 3) (P i 8) (P i 9) R0 R1 R2 R3/\∀j,j<(ac L i).kids.length->∀t,t<8->P (bf (ac L i).kids j) t=Sa P i (R0 j) (R1 j) (R2 j) (R3 j) t
 bd:∀i,i<L.length->-(((i:Int)+1)*100000000)<=P i 0/\P i 0<=((i:Int)+1)*100000000/\-(((i:Int)+1)*100000000)<=P i 1/\P i 1<=((i:Int)+1)*100000000/\0<=P i 2/\P i 2<=100000/\0<=P i 3/\P i 3<=100000
theorem KI{x y a b n i0 i1 i2 i3}(h:Fg x y a b n=rv i0 i1 i2 i3):-200000<=i0/\i0<=200000/\-200000<=i1/\i1<=200000/\0<=i2/\i2<=100000/\0<=i3/\i3<=100000:=by unfold Fg at h;obtain⟨rfl,rfl,rfl,rfl⟩:=zU h;have h1:=eO x;have h2:=eO y;have h3:=dq a;have h4:=dq b;have h5:=dq n;omega
theorem cm.bd{kd a4 a5 a6}{L}{ks}{Wd}{H}{x y w h of rm}{R0 R1 R2 R3}(s:cm kd a4 a5 a6 L ks Wd H x y w h of rm R0 R1 R2 R3)(hm:ks.length<=100)(hw:0<=w/\w<=100000)(hh:0<=h/\h<=100000)(hof:0<=of/\of<=100000)(RY:0<=rm/\h+rm<=100000)  B  (hB:100000000<=B) (hx:-B<=x/\x<=B) (hy:-B<=y/\y<=B)  j  (hj:j<ks.length):
 -(B+100000000)<=R0 j/\R0 j<=B+100000000/\-(B+100000000)<=R1 j/\R1 j<=B+100000000/\0<=R2 j/\R2 j<=100000/\0<=R3 j/\R3 j<=100000:=by
 by_cases h0:kd=0;·obtain⟨G,g1,g2,g3⟩:=s.row h0;obtain⟨e0,e1,e2,e3⟩:=g3 j hj;have ho:=tc g2 (gq a4) j (by omega);grind
 ·by_cases h1:kd=1;·obtain⟨G,g1,g2,g3⟩:=s.col h1;obtain⟨e0,e1,e2,e3⟩:=g3 j hj;have ho:=tc g2 (gq a4) j (by omega);grind
  ·by_cases h3:kd=3;·have:=KI (s.box h3 j hj);omega
   ·by_cases h4:kd=4;·obtain⟨e0,e1,e2,e3⟩:=s.scr h4 j hj;omega
    ·obtain⟨e0,e1,e2,e3⟩:=s.rest h0 h1 h3 h4 j hj;omega
theorem cm.congr{kd a4 a5 a6}{L}{ks}{Wd}{H}{x y w h of rm x' y' w' h' of' rm'}{R0 R1 R2 R3}(s:cm kd a4 a5 a6 L ks Wd H x y w h of rm R0 R1 R2 R3)(e0:x=x')(e1:y=y')(e2:w=w')(e3:h=h')(e4:of=of')(e5:rm=rm'):cm kd a4 a5 a6 L ks Wd H x' y' w' h' of' rm' R0 R1 R2 R3:=by grind
theorem cQ.step{s}{L}{Wd}{H}{w h}{aX off}{sn k}{P P1}{R0 R1 R2 R3}(hT:gA s L)(hS:Sz L Wd H)(hp:cQ L Wd H w h aX off sn P k)(hk:k<L.length)
 (h1:∀q t,¬(q=k/\(t=8\/t=9))->P1 q t=P q t)
 (h4:(ac L k).kind=4->P1 k 9=gu (H (bf (ac L k).kids 0) (P k 2)) (P k 3)/\P1 k 8=min (max 0 (jE (aC (ac L k) 0) aX off sn)) (P1 k 9))
 (hn:(ac L k).kind≠4->P1 k 8=0/\P1 k 9=0)
 (hs:cm (ac L k).kind (aC (ac L k) 4) (aC (ac L k) 5) (aC (ac L k) 6) L (ac L k).kids Wd H (P1 k 0) (P1 k 1) (P1 k 2) (P1 k 3) (P1 k 8) (P1 k 9) R0 R1 R2 R3):
 cQ L Wd H w h aX off sn (Io P1 k (ac L k).kids R0 R1 R2 R3 (ac L k).kids.length) (k+1):=by
 obtain⟨ks,hks⟩:=af ((ac L k).kids);rw[hks]at hs h4⊢;have gC:ks.Nodup:=by rw[<-hks];exact hT.nest.nd k hk
 have zgR:∀c,c∈ks->k<c/\c<L.length/\(ac L c).up=(k:Int):=fun c hc=>hT.nest.kid k c hk (by grind);have aO:ks.length<=100:=by rw[<-hks];exact hT.kids_le hk
 obtain⟨Q,hQ⟩:=af (Io P1 k ks R0 R1 R2 R3 ks.length);have q1:∀q,q∉ks->Q q=P1 q:=fun q hq=>by rw[<-hQ];grind[qL]
 have q2:∀a,a<ks.length->Q (bf ks a)=Sa P1 k (R0 a) (R1 a) (R2 a) (R3 a):=fun a ha=>by rw[<-hQ];grind[Ip]
 rw[hQ];have jd:k∉ks:=fun hc=>by grind
 have hQk:=q1 k jd;have h00:0∉ks:=fun hc=>by grind
 have nk:∀i,i<k->i∉ks:=fun i hi hc=>by grind
 have mem:∀c,c∈ks->∃a,a<ks.length/\bf ks a=c:=fun c hc=>by obtain⟨a,ha,e⟩:=rP.1 hc;grind[bf]
 have RO:=hp.bd k hk;have e01:=h1 k 0 (by omega);have e11:=h1 k 1 (by omega);have e21:=h1 k 2 (by omega);have e31:=h1 k 3 (by omega);have YE:0<=P1 k 8/\P1 k 8<=100000/\0<=P1 k 9/\P1 k 3+P1 k 9<=100000:=by
  by_cases e4:(ac L k).kind=4
  ·obtain⟨r1,r2⟩:=h4 e4;have OD:bf ks 0<L.length:=by
    rcases hT.kidok k hk with q|⟨_,_,q⟩|⟨q,_⟩;·omega
    ·grind[mD]
    ·omega
   have hh:=hS.hb (bf ks 0) (P k 2) OD;grind[gu]
  ·omega
 refine⟨?_,fun i hi Tz e4=>?_,fun i hi Tz=>?_,fun i hi Tz=>?_,fun i hi=>?_⟩;·rw[q1 0 h00];have r:=hp.root;grind
 ·by_cases e:i=k;·grind
  ·rw[q1 i (nk i (by omega)),h1 i 9 (by omega),h1 i 8 (by omega),h1 i 2 (by omega),h1 i 3 (by omega)];exact hp.sc i hi (by omega) e4
 ·by_cases hm:i∈ks;·obtain⟨a,ha,rfl⟩:=mem i hm;rw[q2 a ha];exact⟨rfl,rfl⟩
  ·rw[q1 i hm];by_cases e:i=k;·grind
   ·rw[h1 i 8 (by omega),h1 i 9 (by omega)];exact hp.no i hi (by omega)
 ·by_cases e:i=k;·subst e;refine⟨R0,R1,R2,R3,by grind,fun j hj t ht=>?_⟩;rw[hks]at hj⊢;rw[q2 j hj];grind[Sa]
  ·have _d:i<k:=by omega
   obtain⟨S0,S1,S2,S3,s1,s2⟩:=hp.kr i hi _d;have hQi:∀t,Q i t=P i t:=fun t=>by grind
   refine⟨S0,S1,S2,S3,by grind,fun j hj t ht=>?_⟩;have hc:=hT.nest.kid i _ hi (mD hj);have Z8:bf (ac L i).kids j∉ks:=fun q=>by grind
   grind[Sa]
 ·by_cases hm:i∈ks;·have Tz:=zgR i hm;obtain⟨a,ha,rfl⟩:=mem i hm;rw[q2 a ha];have hb:=hs.bd aO (by omega) (by omega) ⟨YE.1,YE.2.1⟩ ⟨YE.2.2.1,YE.2.2.2⟩ (((k:Int)+1)*100000000) (by omega) (by omega) (by omega) a ha;show-(((bf ks a:Nat):Int)+1)*100000000<=R0 a/\_;show _<=R0 a/\R0 a<=_/\_<=R1 a/\R1 a<=_/\0<=R2 a/\R2 a<=100000/\0<=R3 a/\R3 a<=100000;omega
  ·rw[q1 i hm];have hb:=hp.bd i hi;grind
theorem A8  a  :∀m,cS (fun _=>a) m=a*m
 |0=>rfl
 |m+1=>by show cS (fun _=>a) m+a=_;rw[A8 a m,Nat.mul_succ]
theorem zB{s}{L}{KV}{Wd}{H}  mb r g cap wb nn  (hT:gA s L) (hS:Sz L Wd H)  i  (hi:i<L.length)  p   c  (xH:KV i=.slice p (ac L i).kids.length c)  x y w h c0 c1 c2 c3 of rm   U  (hU:Hs U mb r g cap wb L KV Wd H nn) (hn:nn<=10000000)
 (hx:-1000000000000<=x/\x<=1000000000000) (hy:-1000000000000<=y/\y<=1000000000000) (hw:0<=w/\w<=100000) (hh:0<=h/\h<=100000) (hof:0<=of/\of<=100000) (RY:0<=rm/\rm<=100000):
 Cw 121 #[Pq mb,fO (ac L i).kind (aC (ac L i) 0) (aC (ac L i) 1) (aC (ac L i) 2) (aC (ac L i) 3) (aC (ac L i) 4) (aC (ac L i) 5) (aC (ac L i) 6) (aC (ac L i) 7) (aC (ac L i) 8) (aC (ac L i) 9) (aC (ac L i) 10) (aC (ac L i) 11) ⟨(ac L i).text.toArray⟩ (.slice p (ac L i).kids.length c) (ac L i).up,.agg #[Iq x,Iq y,Iq w,Iq h,Iq c0,Iq c1,Iq c2,Iq c3,Iq of,Iq rm]] U fun e U'=>jL U U' r (ac L i).kids.length H (nn+10000) (cm (ac L i).kind (aC (ac L i) 4) (aC (ac L i) 5) (aC (ac L i) 6) L (ac L i).kids Wd H x y w h of rm) e:=by
 have hbd:=(hT.vl.nv i hi).bd;have hc:=hT.vl.cnt;have cZ:=hT.kids_le hi;have zt:gm U r p (ac L i).kids.length (fun t=>(bf (ac L i).kids t:Int)):=by obtain⟨p',c',e,hk⟩:=hU.view.kid i hi;rw[xH]at e;injection e with e1 e2 e3;rw[e1];exact hk
 have Tt:=A8 100;refine(wL mb r nn _ L _ Wd H _ _ _ _ _ _ _ _ _ _ _ _ _ _ _ p c x y w h c0 c1 c2 c3 of rm U rfl (by omega) hU.memo hx hy hw hh (by omega) (by omega) hof RY (fun _ u hu KF=>?_) (fun _ u hu KF=>?_)).mono fun e U' h=>h.mono (by omega);·refine(pm mb r g cap wb nn L (ac L i).kids KV Wd H _ _ _ _ _ _ _ _ _ _ _ _ _ _ _ p c u (hU.view.grown (aa hu)) KF (by omega) (fun j hj=>(gD hT hi hj).2) (by omega) (zt.grown (aa hu)) (fun j hj=>hS.wb j hj)).mono ?_;rintro e u' ⟨v,q0,lb,q1,q2,q3,q4,q5⟩;exact⟨v,q0,lb,q1,q2,q3,q4,q5.mono (by omega)⟩
 ·rw[<-Tt];exact yY mb r g cap wb nn w L (ac L i).kids (fun _=>100) KV Wd H _ _ _ _ _ _ _ _ _ _ _ _ _ _ _ p c u (hU.view.grown (aa hu)) KF (by omega) (fun j hj=>(gD hT hi hj).2) (by omega) (zt.grown (aa hu)) (fun j v hj=>hS.hb j v hj) (fun j u' n' hj hu' _k YA=>by have hk:=gD hT hi hj;rw[Tt]at YA⊢;refine(uq mb r g cap wb hT hS _ w n' u' hk.2 hw.1 hw.2 (hU.grown ((aa hu).trans hu') _k) (by omega)).mono ?_;rintro e u2 ⟨rfl,q1,q2⟩;exact⟨rfl,q1,q2.mono (by omega)⟩)
theorem Qe{U0 W}{r pb N n}{P}{H}(h:Pw U0 W r pb N P H n)(ql:U0.heap.size<=pb)(bj:pb≠r)  cc   v   v0 v1 v2 v3 v4 v5 v6 v7 v8 v9  (e0:v0=v 0) (e1:v1=v 1) (e2:v2=v 2) (e3:v3=v 3) (e4:v4=v 4) (e5:v5=v 5) (e6:v6=v 6) (e7:v7=v 7) (e8:v8=v 8) (e9:v9=v 9):Pw U0 ((((((((((W.setCell (aq pb (cc*10)) (Iq v0)).setCell (aq pb (cc*10+1)) (Iq v1)).setCell (aq pb (cc*10+2)) (Iq v2)).setCell (aq pb (cc*10+3)) (Iq v3)).setCell (aq pb (cc*10+4)) (Iq v4)).setCell (aq pb (cc*10+5)) (Iq v5)).setCell (aq pb (cc*10+6)) (Iq v6)).setCell (aq pb (cc*10+7)) (Iq v7)).setCell (aq pb (cc*10+8)) (Iq v8)).setCell (aq pb (cc*10+9)) (Iq v9)) r pb N (xU P cc v) H n:=by
 have hh:=(((((((((h.set ql bj cc 0 (by omega) v0).set ql bj cc 1 (by omega) v1).set ql bj cc 2 (by omega) v2).set ql bj cc 3 (by omega) v3).set ql bj cc 4 (by omega) v4).set ql bj cc 5 (by omega) v5).set ql bj cc 6 (by omega) v6).set ql bj cc 7 (by omega) v7).set ql bj cc 8 (by omega) v8).set ql bj cc 9 (by omega) v9;refine⟨hh.g,hh.m,hh.row.congr fun q hq=>?_⟩;unfold zM xU gt;refine congrArg (Value.int .i64) ?_;by_cases e:q/10=cc
 ·rw[if_pos e];have:q %10=0\/q %10=1\/q %10=2\/q %10=3\/q %10=4\/q %10=5\/q %10=6\/q %10=7\/q %10=8\/q %10=9:=by omega
  grind
 grind
theorem Cs(w:World)  N   T  :(w.alloc (.cells (madeCells #[Iq 0,Iq 0,Iq 0,Iq 0,Iq 0,Iq 0,Iq 0,Iq 0,Iq 0,Iq 0] (N*10)) T)).rowIs w.heap.size T (N*10) (zM fun _ _=>0):=by
 have:=World.rowIs_alloc w (madeCells #[Iq 0,Iq 0,Iq 0,Iq 0,Iq 0,Iq 0,Iq 0,Iq 0,Iq 0,Iq 0] (N*10)) T (zM fun _ _=>0) (fun i hi=>by
  rw[size_madeCells]at hi;unfold zM;simp only[madeCells];have:i %10=0\/i %10=1\/i %10=2\/i %10=3\/i %10=4\/i %10=5\/i %10=6\/i %10=7\/i %10=8\/i %10=9:=by omega
  rcases this with e|e|e|e|e|e|e|e|e|e<;>simp[e,hi]);rw[size_madeCells]at this;omega
theorem YU:(prog.info? 102).map (fun i=>(i.zero,i.size,i.bytes))=some (some (.agg #[Iq 0,Iq 0,Iq 0,Iq 0,Iq 0,Iq 0,Iq 0,Iq 0,Iq 0,Iq 0]),10,80):=by kernel_rfl
def zaA(U U':World)(r N:Nat)(L:List Nd)(Wd:Nat->Int)(H:Nat->Int->Int)(w h:Int)(aX off:Nat->Int)(sn:Nat)(e:Ending):Prop:=∃pb P,e=Rw (Sq pb N N)/\U'.rowIs pb 102 (N*10) (zM P)/\cQ L Wd H w h aX off sn P N/\U.grownBy U' (some r)/\U.heap.size<=pb
def p00(w h:Int)(t:Nat):Int:=if t=2\/t=6 then w else if t=3\/t=7 then h else 0
def tw(u:World)(pb o:Nat)(x0 x1 x2 x3 x4 x5 x6 x7 x8 x9:Int):World:=((((((((((u.setCell (aq pb o) (Iq x0)).setCell (aq pb (o+1)) (Iq x1)).setCell (aq pb (o+2)) (Iq x2)).setCell (aq pb (o+3)) (Iq x3)).setCell (aq pb (o+4)) (Iq x4)).setCell (aq pb (o+5)) (Iq x5)).setCell (aq pb (o+6)) (Iq x6)).setCell (aq pb (o+7)) (Iq x7)).setCell (aq pb (o+8)) (Iq x8)).setCell (aq pb (o+9)) (Iq x9))
theorem IK{u}{pb o}{x0 x1 x2 x3 x4 x5 x6 x7 x8 x9}  b' o'  (h:b'≠pb\/o'<o\/o+9<o'):(tw u pb o x0 x1 x2 x3 x4 x5 x6 x7 x8 x9).cell? (aq b' o')=u.cell? (aq b' o'):=by
 unfold tw;iterate 10 rw[dy]
 all_goals grind
theorem Vm{u}{pb o}{x0 x1 x2 x3 x4 x5 x6 x7 x8 x9}  b'  (h:b'≠pb):(tw u pb o x0 x1 x2 x3 x4 x5 x6 x7 x8 x9).heap[b']?=u.heap[b']?:=by unfold tw;iterate 10 rw[bv _ (aq pb _) _ _ h]
theorem FW{s:ByteArray}{L:List Nd}{KV:Nat->Value}{Wd:Nat->Int}{H:Nat->Int->Int}(mb r g cap wb:Nat)(hT:gA s L)(hS:Sz L Wd H)(w h:Int)(sp:Option Addr)(sn sc:Nat)(aX off:Nat->Int)(U:World)(hU:Hs U mb r g cap wb L KV Wd H 0)(hw:1<=w/\w<=400)(hh:1<=h/\h<=400)(Hy:sN U sp sn aX off)(_y:sn<=4611686018427387904)(Ep:∀a:Addr,sp=some a->a.block<U.heap.size):
 Cw 64 #[Pq mb,Iq w,Iq h,.slice sp sn sc] U fun e U'=>zaA U U' r L.length L Wd H w h aX off sn e:=by
 have kU:prog.follows .mixedOrders=true:=by kernel_rfl
 obtain⟨N,hN⟩:=af L.length;have hc:=hT.vl.cnt;have fW:=hT.pos;have zbg:N<=100:=by omega
 obtain⟨i0,hi,dJ,fy,fB⟩:=info_parts YU;have mw:∀W:World,(Instr.makeSlice 96 (Iq (N:Int)) (Iq (N:Int))).run prog W=.ok (Sq W.heap.size N N) (W.alloc (.cells (madeCells #[Iq 0,Iq 0,Iq 0,Iq 0,Iq 0,Iq 0,Iq 0,Iq 0,Iq 0,Iq 0] (N*10)) 102)):=fun W=>by have:=run_make (P:=prog) W 96 102 i0 _ underlying96 hi dJ .i64 .i64 N N (by omega) (lV _) (by grind) (by omega);rw[fy,lW]at this;exact this
 clear hi dJ fy fB;obtain⟨A,hA⟩:=af U.heap.size;obtain⟨pb,ql⟩:=af (A+1);have qk:=hU.view.ms;rw[hN]at qk;have ZD:Hid (∀u,U.grownBy u (some r)->u.cell? (aq mb 0)=some (Sq g N cap)):=fun u hu=>by have:=(hu.block mb hU.view.ml (fun e=>hU.view.mr (by grind))).trans qk;rw[Lib.cell_of_heap this];rfl
 have m0:=ZD U (aa (ag _ _));have oj:=hU.memo.lt;have L_:pb≠r:=by omega
 have hpU:U.heap.size<=pb:=by omega
 have HU:Hid (Hs U mb r g cap wb L KV Wd H 0):=hU;obtain⟨W2,qd⟩:=af ((U.alloc (.cells #[Iq 0,Iq 0,Iq w,Iq h] 100)).alloc (.cells (madeCells #[Iq 0,Iq 0,Iq 0,Iq 0,Iq 0,Iq 0,Iq 0,Iq 0,Iq 0,Iq 0] (N*10)) 102));have HB2:Hid (Bt U W2):=by rw[<-qd];exact(((Gr.refl U).alloc _).alloc _).below
 have jD:W2.heap[A]?=some (.cells #[Iq 0,Iq 0,Iq w,Iq h] 100 (0,0)):=by rw[<-qd,<-hA,cG _ _ _ (by rw[aA];omega)];exact heap_alloc_new _ _
 have hr2:W2.rowIs pb 102 (N*10) (zM fun _ _=>0):=by have:=Cs (U.alloc (.cells #[Iq 0,Iq 0,Iq w,Iq h] 100)) N 102;rw[aA,hA,ql,qd]at this;exact this
 have tq:Hid (Pw U W2 r pb N (fun _ _=>0) H 0):=⟨aa HB2,hU.memo.grown_below HB2,hr2⟩;have iA:Hid (Pw U ((((((((((W2.setCell (aq pb 0) (Iq 0)).setCell (aq pb 1) (Iq 0)).setCell (aq pb 2) (Iq w)).setCell (aq pb 3) (Iq h)).setCell (aq pb 4) (Iq 0)).setCell (aq pb 5) (Iq 0)).setCell (aq pb 6) (Iq w)).setCell (aq pb 7) (Iq h)).setCell (aq pb 8) (Iq 0)).setCell (aq pb 9) (Iq 0)) r pb N (xU (fun _ _=>0) 0 (p00 w h)) H 0):=Qe tq hpU L_ 0 (p00 w h) 0 0 w h 0 0 w h 0 0 rfl rfl rfl rfl rfl rfl rfl rfl rfl rfl;have HPL:Hid (cQ L Wd H w h aX off sn (xU (fun _ _=>0) 0 (p00 w h)) 0):=by
  have e0:∀i t,i≠0->xU (fun _ _=>0) 0 (p00 w h) i t=0:=fun i t hi=>if_neg hi;refine⟨⟨rfl,rfl,rfl,rfl,rfl,rfl,rfl,rfl⟩,fun i _ hi=>by omega,fun i _ _=>?_,fun i _ hi=>by omega,fun i _=>?_⟩
  ·by_cases e:i=0;·subst e;exact⟨rfl,rfl⟩
   grind
  ·by_cases e:i=0;·subst e;show _<=(0:Int)/\(0:Int)<=_/\_<=(0:Int)/\(0:Int)<=_/\0<=w/\w<=100000/\0<=h/\h<=100000;omega
   grind
 have c0:W2.cell? (aq A 0)=some (Iq 0):=by rw[Lib.cell_of_heap jD];rfl
 have c1:W2.cell? (aq A 1)=some (Iq 0):=by rw[Lib.cell_of_heap jD];rfl
 have c2:W2.cell? (aq A 2)=some (Iq w):=by rw[Lib.cell_of_heap jD];rfl
 have c3:W2.cell? (aq A 3)=some (Iq h):=by rw[Lib.cell_of_heap jD];rfl
 have m2:=ZD W2 (aa HB2);have Yr:=fun j=>hr2.frozen j;have d0:W2.cell? (aq pb 0)=some (Iq 0):=hr2.cell (by omega);have d1:W2.cell? (aq pb 1)=some (Iq 0):=hr2.cell (by omega);have d2:W2.cell? (aq pb 2)=some (Iq 0):=hr2.cell (by omega);have d3:W2.cell? (aq pb 3)=some (Iq 0):=hr2.cell (by omega);have d4:W2.cell? (aq pb 4)=some (Iq 0):=hr2.cell (by omega);have d5:W2.cell? (aq pb 5)=some (Iq 0):=hr2.cell (by omega);have d6:W2.cell? (aq pb 6)=some (Iq 0):=hr2.cell (by omega);have d7:W2.cell? (aq pb 7)=some (Iq 0):=hr2.cell (by omega);have d8:W2.cell? (aq pb 8)=some (Iq 0):=hr2.cell (by omega);have d9:W2.cell? (aq pb 9)=some (Iq 0):=hr2.cell (by omega);have Hv:=hr2.lt;have zkz:(0:Int)<(N:Int):=by omega
 have zoG:¬pb=mb:=by have:=HU.view.ml;omega
 have zoH:¬mb=pb:=by omega
 have zoI:¬A=pb:=by omega
 have zoK:¬mb=A:=by have:=HU.view.ml;omega
 have zoL:mb<A:=by have:=HU.view.ml;omega
 have zoJ:¬pb=A:=by omega
 have ZI:Hid (U.heap.size=A/\A+1=pb):=⟨hA,ql⟩;clear qk jD hr2 hU;go_enter func64,ntmps64;go_upto_region 3 with fail;clear qd hA mw ql m0;go_wp2_with fail;go_loopw[34] (fun iv wr=>∃(i:Nat) (P:Nat->Nat->Int),i<=N/\iv=Iq (i:Int)/\Hid (Pw U wr r pb N P H (20000*i))/\Hid (cQ L Wd H w h aX off sn P i)) (fun iv _=>N-(intOf iv).toNat);case atStart=>grind
 case round=>
  obtain⟨i,P,hiN,rfl,HP,HL⟩:=hrel;clear c0 c1 c2 c3 m2 Yr d0 d1 d2 d3 d4 d5 d6 d7 d8 d9 Hv tq iA HPL;by_cases hlt:i<N
  ·have aR:(i:Int)<(N:Int):=by omega
   have sw:i<L.length:=by omega
   have hHs:∀u n,U.grownBy u (some r)->aW u r H n->Hs u mb r g cap wb L KV Wd H n:=fun u n hg hm=>HU.grown hg hm;obtain⟨p,c,xH,zt⟩:=HU.view.kid i sw;have kx:=kF (HU.view.len i sw) (KV i);have gC:=HU.view.nd i sw;rw[kx,xH]at gC;have kM:=HU.view.gl;have fd:=HU.view.gr;have hbd:=HL.bd i sw;have hbN:((i:Int)+1)*100000000<=10000000000:=by omega
   have zbY:=HL.no i sw (.inl (ae _));have cZ:=hT.kids_le sw;have TE:=HP.out;have KR:Hid (∀u n (of rm c0 c1 c2 c3:Int),U.grownBy u (some r)->aW u r H n->n<=10000000->(0<=of/\of<=100000)->(0<=rm/\rm<=100000)->Cw 121 #[Pq mb,fO (ac L i).kind (aC (ac L i) 0) (aC (ac L i) 1) (aC (ac L i) 2) (aC (ac L i) 3) (aC (ac L i) 4) (aC (ac L i) 5) (aC (ac L i) 6) (aC (ac L i) 7) (aC (ac L i) 8) (aC (ac L i) 9) (aC (ac L i) 10) (aC (ac L i) 11) ⟨(ac L i).text.toArray⟩ (.slice p (ac L i).kids.length c) (ac L i).up,.agg #[Iq (P i 0),Iq (P i 1),Iq (P i 2),Iq (P i 3),Iq c0,Iq c1,Iq c2,Iq c3,Iq of,Iq rm]] u fun e u'=>jL u u' r (ac L i).kids.length H (n+10000) (cm (ac L i).kind (aC (ac L i) 4) (aC (ac L i) 5) (aC (ac L i) 6) L (ac L i).kids Wd H (P i 0) (P i 1) (P i 2) (P i 3) of rm) e):=fun u n of rm c0 c1 c2 c3 hg hm hn hof RY=>
    zB mb r g cap wb n hT hS i sw p c xH (P i 0) (P i 1) (P i 2) (P i 3) c0 c1 c2 c3 of rm u (hHs u n hg hm) hn (by omega) (by omega) ⟨hbd.2.2.2.2.1,hbd.2.2.2.2.2.1⟩ ⟨hbd.2.2.2.2.2.2.1,hbd.2.2.2.2.2.2.2⟩ hof RY;have tB:Hid ((ac L i).kind=4->∀u,Pw U u r pb N P H (20000*i)->Cw 120 #[Pq mb,.pointer (some (aq pb (i*10))),fO 4 (aC (ac L i) 0) (aC (ac L i) 1) (aC (ac L i) 2) (aC (ac L i) 3) (aC (ac L i) 4) (aC (ac L i) 5) (aC (ac L i) 6) (aC (ac L i) 7) (aC (ac L i) 8) (aC (ac L i) 9) (aC (ac L i) 10) (aC (ac L i) 11) ⟨(ac L i).text.toArray⟩ (.slice p (ac L i).kids.length c) (ac L i).up,.slice sp sn sc] u fun e u'=>e=Rw (.tuple #[])/\Pw U u' r pb N (gt (gt P i 9 (gu (H (bf (ac L i).kids 0) (P i 2)) (P i 3))) i 8 (min (max 0 (jE (aC (ac L i) 0) aX off sn)) (gu (H (bf (ac L i).kids 0) (P i 2)) (P i 3)))) H (20000*i+100)/\Hid (∀b,b<u.heap.size->b≠r->b≠pb->u'.heap[b]?=u.heap[b]?)):=fun h4 u hu=>by
    have El:(ac L i).kids.length=1:=by
     rcases hT.kidok i sw with q|⟨_,_,q⟩|⟨q,_⟩;·omega
     ·exact q
     ·omega
    have hkd:=gD hT sw (j:=0) (by omega);refine F7 mb r pb N i (bf (ac L i).kids 0) (20000*i) P H (aC (ac L i) 0) (aC (ac L i) 1) (aC (ac L i) 2) (aC (ac L i) 3) (aC (ac L i) 4) (aC (ac L i) 5) (aC (ac L i) 6) (aC (ac L i) 7) (aC (ac L i) 8) (aC (ac L i) 9) (aC (ac L i) 10) (aC (ac L i) 11) (ac L i).up ⟨(ac L i).text.toArray⟩ p (ac L i).kids.length c sp sn sc aX off U u hu hpU L_ hlt (by omega) (by omega) ?_ (hS.hb _ _ hkd.2) ⟨hbd.2.2.2.2.2.2.1,hbd.2.2.2.2.2.2.2⟩ (fun v hv=>uq mb r g cap wb hT hS _ _ _ v hkd.2 hbd.2.2.2.2.1 hbd.2.2.2.2.2.1 (hHs v _ hv.g hv.m) (by omega)) (fun v P' n' hv=>?_);·obtain⟨b,o,e,q1,q2,q3⟩:=zt.resolve_left (by omega);exact⟨b,o,e,q1,q2,by have:=q3 0 (by omega);exact this⟩
    ·refine(FG (aC (ac L i) 0) sp sn sc aX off v ((Hy.kept HU.memo hv.g)) _y (fun a e=>zz007 (Ep a e) hv.g.size)).mono ?_;rintro e v' ⟨rfl,q⟩;exact⟨rfl,q⟩
   have _6:Hid (∀j,j<(ac L i).kids.length->i<bf (ac L i).kids j/\bf (ac L i).kids j<N):=fun j hj=>by have:=gD hT sw hj;omega
   have HKP:Hid ((ac L i).kind=4->0<(ac L i).kids.length):=fun h4=>by rcases hT.kidok i sw with q|⟨_,_,q⟩|⟨q,_⟩<;>omega
   have HKB:Hid ((ac L i).kids.length=0\/∃b o,p=some (aq b o)/\b<U.heap.size/\b≠r/\∀j,j<(ac L i).kids.length->U.cell? (aq b (o+j))=some (Iq (bf (ac L i).kids j:Int))):=zt;have gP:Hid (∀P1 R0 R1 R2 R3,(∀q t,¬(q=i/\(t=8\/t=9))->P1 q t=P q t)->((ac L i).kind=4->P1 i 9=gu (H (bf (ac L i).kids 0) (P i 2)) (P i 3)/\P1 i 8=min (max 0 (jE (aC (ac L i) 0) aX off sn)) (P1 i 9))->((ac L i).kind≠4->P1 i 8=0/\P1 i 9=0)->cm (ac L i).kind (aC (ac L i) 4) (aC (ac L i) 5) (aC (ac L i) 6) L (ac L i).kids Wd H (P1 i 0) (P1 i 1) (P1 i 2) (P1 i 3) (P1 i 8) (P1 i 9) R0 R1 R2 R3->cQ L Wd H w h aX off sn (Io P1 i (ac L i).kids R0 R1 R2 R3 (ac L i).kids.length) (i+1)):=fun P1 R0 R1 R2 R3 q1 q2 q3 q4=>HL.step hT hS sw q1 q2 q3 q4;generalize hkn:(ac L i).kind=kn at gC KR tB gP HKP;generalize(ac L i).kids=ks at gC KR tB gP _6 HKB HKP cZ;generalize(ac L i).up=up at gC KR tB;generalize(ac L i).text.toArray=Zq at gC KR tB;generalize aC (ac L i) 0=a0 at gC KR tB gP;generalize aC (ac L i) 1=a1 at gC KR tB gP;generalize aC (ac L i) 2=a2 at gC KR tB gP;generalize aC (ac L i) 3=a3 at gC KR tB gP;generalize aC (ac L i) 4=a4 at gC KR tB gP;generalize aC (ac L i) 5=a5 at gC KR tB gP;generalize aC (ac L i) 6=a6 at gC KR tB gP;generalize aC (ac L i) 7=a7 at gC KR tB gP;generalize aC (ac L i) 8=a8 at gC KR tB gP;generalize aC (ac L i) 9=a9 at gC KR tB gP;generalize aC (ac L i) 10=b0 at gC KR tB gP;generalize aC (ac L i) 11=b1 at gC KR tB gP;obtain⟨tx,oM⟩:∃z:ByteArray,⟨Zq⟩=z:=⟨_,rfl⟩;rw[oM]at gC KR tB;obtain⟨m,hm⟩:=af ks.length;rw[hm]at gC KR tB gP _6 HKB HKP cZ;obtain⟨kd,hkd⟩:∃z:Int,(kn:Int)=z:=⟨_,rfl⟩;rw[hkd]at gC KR gP;have HQ:Hid (∀u,U.grownBy u (some r)->∀(t:Nat) x,[Iq kd,Iq a0,Iq a1,Iq a2,Iq a3,Iq a4,Iq a5,Iq a6,Iq a7,Iq a8,Iq a9,Iq b0,Iq b1,.string tx,.slice p m c,Iq up][t]?=some x->u.cell? (aq g (i*16+t))=some x):=fun u hu t x ht=>(ba (a:=(aq g (i*16+t))) (hu.block g kM (fun e=>fd (by injection e)))).trans (gC t x ht);have q0:wr.cell? (aq g (i*16))=some (Iq kd):=HQ wr HP.g 0 _ rfl;have q1:=HQ wr HP.g 1 _ rfl;have q2:=HQ wr HP.g 2 _ rfl;have q3:=HQ wr HP.g 3 _ rfl;have q4:=HQ wr HP.g 4 _ rfl;have q5:=HQ wr HP.g 5 _ rfl;have q6:=HQ wr HP.g 6 _ rfl;have q7:=HQ wr HP.g 7 _ rfl;have q8:=HQ wr HP.g 8 _ rfl;have q9:=HQ wr HP.g 9 _ rfl;have _G:=HQ wr HP.g 10 _ rfl;have _H:=HQ wr HP.g 11 _ rfl;have _I:=HQ wr HP.g 12 _ rfl;have _J:=HQ wr HP.g 13 _ rfl;have _K:=HQ wr HP.g 14 _ rfl;have _L:=HQ wr HP.g 15 _ rfl;obtain⟨W1,bZ⟩:=af (wr.alloc (.cells #[Iq kd,Iq a0,Iq a1,Iq a2,Iq a3,Iq a4,Iq a5,Iq a6,Iq a7,Iq a8,Iq a9,Iq b0,Iq b1,.string tx,.slice p m c,Iq up] 94));obtain⟨An,hAn⟩:=af wr.heap.size;have dm:W1.heap[An]?=some (.cells #[Iq kd,Iq a0,Iq a1,Iq a2,Iq a3,Iq a4,Iq a5,Iq a6,Iq a7,Iq a8,Iq a9,Iq b0,Iq b1,.string tx,.slice p m c,Iq up] 94 (0,0)):=by rw[<-bZ,<-hAn];exact heap_alloc_new _ _
   have HB1:Hid (Bt wr W1):=by rw[<-bZ];exact((Gr.refl wr).alloc _).below
   have tn:Hid (Pw U W1 r pb N P H (20000*i)):=HP.below HB1;have hAr:An≠r:=by have:=HP.m.lt;omega
   have hpA:pb<An:=by rw[<-hAn];exact HP.row.lt
   have Sr:Hid (∀u:World,u.heap[An]?=some (.cells #[Iq kd,Iq a0,Iq a1,Iq a2,Iq a3,Iq a4,Iq a5,Iq a6,Iq a7,Iq a8,Iq a9,Iq b0,Iq b1,.string tx,.slice p m c,Iq up] 94 (0,0))->u.cell? (aq An 0)=some (Iq kd)/\u.cell? (aq An 1)=some (Iq a0)/\u.cell? (aq An 2)=some (Iq a1)/\u.cell? (aq An 3)=some (Iq a2)/\u.cell? (aq An 4)=some (Iq a3)/\u.cell? (aq An 5)=some (Iq a4)/\u.cell? (aq An 6)=some (Iq a5)/\u.cell? (aq An 7)=some (Iq a6)/\u.cell? (aq An 8)=some (Iq a7)/\u.cell? (aq An 9)=some (Iq a8)/\u.cell? (aq An 10)=some (Iq a9)/\u.cell? (aq An 11)=some (Iq b0)/\u.cell? (aq An 12)=some (Iq b1)/\u.cell? (aq An 13)=some (.string tx)/\u.cell? (aq An 14)=some (.slice p m c)/\u.cell? (aq An 15)=some (Iq up)):=fun u hu=>by refine⟨?_,?_,?_,?_,?_,?_,?_,?_,?_,?_,?_,?_,?_,?_,?_,?_⟩<;>(rw[Lib.cell_of_heap hu];rfl)
   obtain⟨z0,z1,z2,z3,z4,z5,z6,z7,z8,z9,Sd,Se,Sf,Sg,Vw,Sh⟩:=Sr W1 dm;have dj:Hid (W1.heap[An]?=some (.cells #[Iq kd,Iq a0,Iq a1,Iq a2,Iq a3,Iq a4,Iq a5,Iq a6,Iq a7,Iq a8,Iq a9,Iq b0,Iq b1,.string tx,.slice p m c,Iq up] 94 (0,0))):=dm;have Ru:Hid ((ac L i).kind=kn/\(kn:Int)=kd):=⟨hkn,hkd⟩;have kZ:Hid (-(((i:Int)+1)*100000000)<=P i 0/\P i 0<=((i:Int)+1)*100000000/\-(((i:Int)+1)*100000000)<=P i 1/\P i 1<=((i:Int)+1)*100000000/\0<=P i 2/\P i 2<=100000/\0<=P i 3/\P i 3<=100000):=hbd;have Xr:Hid (P i 8=0/\P i 9=0):=zbY;have HN1:Hid (N<=100/\L.length=N):=⟨zbg,hN⟩;have VH:Hid (ks.length=m):=hm;clear dm gC kx xH zt kM fd hHs TE oM hkn hkd hbd zbY hbN hm;go_upto_if 41 with fail;go_cut[48]from 42 to 47 (fun _ wx=>∃P1,Hid (Pw U wx r pb N P1 H (20000*i+100))/\Hid (∀q t,¬(q=i/\(t=8\/t=9))->P1 q t=P q t)/\Hid ((kn=4->P1 i 9=gu (H (bf ks 0) (P i 2)) (P i 3)/\P1 i 8=min (max 0 (jE a0 aX off sn)) (P1 i 9))/\(kn≠4->P1 i 8=0/\P1 i 9=0))/\Hid (wx.heap[An]?=some (.cells #[Iq kd,Iq a0,Iq a1,Iq a2,Iq a3,Iq a4,Iq a5,Iq a6,Iq a7,Iq a8,Iq a9,Iq b0,Iq b1,.string tx,.slice p m c,Iq up] 94 (0,0))));case first=>
    by_cases h4:kn=4
    ·have hk4:kd=4:=by have:=Ru.2;omega
     subst hk4;have SC1:Hid (∀u,(u=W1\/u=W1.drew)->Cw 120 #[Pq mb,.pointer (some (aq pb (i*10))),fO 4 a0 a1 a2 a3 a4 a5 a6 a7 a8 a9 b0 b1 tx (.slice p m c) up,.slice sp sn sc] u fun e u'=>e=Rw (.tuple #[])/\u'.heap[An]?=some (.cells #[Iq 4,Iq a0,Iq a1,Iq a2,Iq a3,Iq a4,Iq a5,Iq a6,Iq a7,Iq a8,Iq a9,Iq b0,Iq b1,.string tx,.slice p m c,Iq up] 94 (0,0))/\Hid (Pw U u' r pb N (gt (gt P i 9 (gu (H (bf ks 0) (P i 2)) (P i 3))) i 8 (min (max 0 (jE a0 aX off sn)) (gu (H (bf ks 0) (P i 2)) (P i 3)))) H (20000*i+100))):=fun u hu=>by
      have jj:Bt W1 u:=by
       rcases hu with rfl|rfl;·exact ag _ _
       ·exact(ag _ _).drew
      refine(tB h4 u (tn.below jj)).mono ?_;rintro e u' ⟨rfl,q1,q2⟩;have zq:=(az.1 dj).1;exact⟨rfl,(q2 An (zz007 zq jj.size) hAr (by omega)).trans ((jj.block An zq).trans dj),q1⟩
     have om:Hid (∀wx,wx.heap[An]?=some (.cells #[Iq 4,Iq a0,Iq a1,Iq a2,Iq a3,Iq a4,Iq a5,Iq a6,Iq a7,Iq a8,Iq a9,Iq b0,Iq b1,.string tx,.slice p m c,Iq up] 94 (0,0))->Pw U wx r pb N (gt (gt P i 9 (gu (H (bf ks 0) (P i 2)) (P i 3))) i 8 (min (max 0 (jE a0 aX off sn)) (gu (H (bf ks 0) (P i 2)) (P i 3)))) H (20000*i+100)->∃P1,Hid (Pw U wx r pb N P1 H (20000*i+100))/\Hid (∀q t,¬(q=i/\(t=8\/t=9))->P1 q t=P q t)/\Hid ((kn=4->P1 i 9=gu (H (bf ks 0) (P i 2)) (P i 3)/\P1 i 8=min (max 0 (jE a0 aX off sn)) (P1 i 9))/\(kn≠4->P1 i 8=0/\P1 i 9=0))/\Hid (wx.heap[An]?=some (.cells #[Iq 4,Iq a0,Iq a1,Iq a2,Iq a3,Iq a4,Iq a5,Iq a6,Iq a7,Iq a8,Iq a9,Iq b0,Iq b1,.string tx,.slice p m c,Iq up] 94 (0,0)))):=fun wx hn hp=>by
      refine⟨_,hp,fun q t hq=>?_,⟨fun _=>?_,fun e=>absurd h4 e⟩,hn⟩;·unfold gt;rw[if_neg (fun e=>hq ⟨e.1,.inl e.2⟩),if_neg (fun e=>hq ⟨e.1,.inr e.2⟩)]
      ·unfold gt;simp
     unfold fO at SC1;clear bZ hAn;go_wp2_with fail;go_region_held(fun W=>W.cell? (aq An 0)=some (Iq 4)/\W.cell? (aq An 1)=some (Iq a0)/\W.cell? (aq An 2)=some (Iq a1)/\W.cell? (aq An 3)=some (Iq a2)/\W.cell? (aq An 4)=some (Iq a3)/\W.cell? (aq An 5)=some (Iq a4)/\W.cell? (aq An 6)=some (Iq a5)/\W.cell? (aq An 7)=some (Iq a6)/\W.cell? (aq An 8)=some (Iq a7)/\W.cell? (aq An 9)=some (Iq a8)/\W.cell? (aq An 10)=some (Iq a9)/\W.cell? (aq An 11)=some (Iq b0)/\W.cell? (aq An 12)=some (Iq b1)/\W.cell? (aq An 13)=some (.string tx)/\W.cell? (aq An 14)=some (.slice p m c)/\W.cell? (aq An 15)=some (Iq up)) (go_keep) (first|(go_at_call 120;refine ai (SC1 _ (by first|exact .inl rfl|exact .inr rfl)) ?_;rintro e u1 ⟨rfl,Hz,Su⟩;obtain⟨s0,s1,s2,s3,s4,s5,s6,s7,s8,s9,WQ,WS,WU,WV,WW,WX⟩:=Sr u1 Hz;have HUN:Hid (u1.heap[An]?=some (.cells #[Iq 4,Iq a0,Iq a1,Iq a2,Iq a3,Iq a4,Iq a5,Iq a6,Iq a7,Iq a8,Iq a9,Iq b0,Iq b1,.string tx,.slice p m c,Iq up] 94 (0,0))):=Hz;clear Hz));all_goals go_wp2_with fail
     all_goals go_meet
     all_goals exact om _ HUN Su
    ·have e4:(kd==4)=false:=by have:=Ru.2;simp;omega
     go_wp2_with fail;go_meet;exact⟨P,tn.mono (by omega),fun _ _ _=>rfl,⟨fun e=>absurd e h4,fun _=>Xr⟩,dj⟩
   case rest=>
    obtain⟨P1,Ml,GD,VI,HNc⟩:=hcut;clear z0 z1 z2 z3 z4 z5 z6 z7 z8 z9 Sd Se Sf Sg Vw Sh bZ hAn;obtain⟨z0,z1,z2,z3,z4,z5,z6,z7,z8,z9,Sd,Se,Sf,Sg,Vw,Sh⟩:=Sr wc HNc;obtain⟨p0,oK⟩:=af (P1 i 0);obtain⟨p1,vS⟩:=af (P1 i 1);obtain⟨p2,hp2⟩:=af (P1 i 2);obtain⟨p3,Hu⟩:=af (P1 i 3);obtain⟨p4,hp4⟩:=af (P1 i 4);obtain⟨p5,hp5⟩:=af (P1 i 5);obtain⟨p6,hp6⟩:=af (P1 i 6);obtain⟨p7,hp7⟩:=af (P1 i 7);obtain⟨p8,hp8⟩:=af (P1 i 8);obtain⟨p9,hp9⟩:=af (P1 i 9);have Jp:Hid (∀u Q,U.grownBy u (some r)->u.rowIs pb 102 (N*10) (zM Q)->(∀t,t<10->Q i t=P1 i t)->u.cell? (aq pb (i*10))=some (Iq p0)/\u.cell? (aq pb (i*10+1))=some (Iq p1)/\u.cell? (aq pb (i*10+2))=some (Iq p2)/\u.cell? (aq pb (i*10+3))=some (Iq p3)/\u.cell? (aq pb (i*10+4))=some (Iq p4)/\u.cell? (aq pb (i*10+5))=some (Iq p5)/\u.cell? (aq pb (i*10+6))=some (Iq p6)/\u.cell? (aq pb (i*10+7))=some (Iq p7)/\u.cell? (aq pb (i*10+8))=some (Iq p8)/\u.cell? (aq pb (i*10+9))=some (Iq p9)):=fun u Q hg hr hq=>by
     refine⟨?_,?_,?_,?_,?_,?_,?_,?_,?_,?_⟩;·rw[<-oK,<-hq 0 (by omega)];exact bu (t:=0) hr hlt (by omega)
     ·rw[<-vS,<-hq 1 (by omega)];exact bu hr hlt (by omega)
     ·rw[<-hp2,<-hq 2 (by omega)];exact bu hr hlt (by omega)
     ·rw[<-Hu,<-hq 3 (by omega)];exact bu hr hlt (by omega)
     ·rw[<-hp4,<-hq 4 (by omega)];exact bu hr hlt (by omega)
     ·rw[<-hp5,<-hq 5 (by omega)];exact bu hr hlt (by omega)
     ·rw[<-hp6,<-hq 6 (by omega)];exact bu hr hlt (by omega)
     ·rw[<-hp7,<-hq 7 (by omega)];exact bu hr hlt (by omega)
     ·rw[<-hp8,<-hq 8 (by omega)];exact bu hr hlt (by omega)
     ·rw[<-hp9,<-hq 9 (by omega)];exact bu hr hlt (by omega)
    have HE:Hid (P i 0=p0/\P i 1=p1/\P i 2=p2/\P i 3=p3/\(0<=p8/\p8<=100000)/\0<=p9/\p9<=100000):=by
     refine⟨by rw[<-GD i 0 (by omega)];exact oK,by rw[<-GD i 1 (by omega)];exact vS,by rw[<-GD i 2 (by omega)];exact hp2,by rw[<-GD i 3 (by omega)];exact Hu,?_⟩;by_cases h4:kn=4
     ·obtain⟨r1,r2⟩:=VI.1 h4;have xF:=kZ.out;have OD:bf ks 0<L.length:=by
       rcases hT.kidok i sw with q|⟨_,_,q⟩|⟨q,_⟩;·rw[Ru.1]at q;omega
       ·have h1:=HKP h4;have:=_6 0 h1;omega
       ·rw[Ru.1]at q;omega
      have hh3:=hS.hb (bf ks 0) (P i 2) OD;unfold gu at r1;omega
     ·obtain⟨r1,r2⟩:=VI.2 h4;omega
    obtain⟨y0,y1,y2,y3,y4,y5,y6,y7,y8,y9⟩:=Jp wc P1 Ml.g Ml.row (fun _ _=>rfl);have KR1:Hid (∀u,(u=wc\/u=wc.drew)->Cw 121 #[Pq mb,fO kd a0 a1 a2 a3 a4 a5 a6 a7 a8 a9 b0 b1 tx (.slice p m c) up,.agg #[Iq p0,Iq p1,Iq p2,Iq p3,Iq p4,Iq p5,Iq p6,Iq p7,Iq p8,Iq p9]] u fun e u'=>∃q cq,e=Rw (.slice q m cq)/\u'.heap[An]?=some (.cells #[Iq kd,Iq a0,Iq a1,Iq a2,Iq a3,Iq a4,Iq a5,Iq a6,Iq a7,Iq a8,Iq a9,Iq b0,Iq b1,.string tx,.slice p m c,Iq up] 94 (0,0))/\(u'.cell? (aq pb (i*10))=some (Iq p0)/\u'.cell? (aq pb (i*10+1))=some (Iq p1)/\u'.cell? (aq pb (i*10+2))=some (Iq p2)/\u'.cell? (aq pb (i*10+3))=some (Iq p3)/\u'.cell? (aq pb (i*10+4))=some (Iq p4)/\u'.cell? (aq pb (i*10+5))=some (Iq p5)/\u'.cell? (aq pb (i*10+6))=some (Iq p6)/\u'.cell? (aq pb (i*10+7))=some (Iq p7)/\u'.cell? (aq pb (i*10+8))=some (Iq p8)/\u'.cell? (aq pb (i*10+9))=some (Iq p9))/\Hid (jL wc u' r m H (20000*i+100+10000) (cm kd a4 a5 a6 L ks Wd H p0 p1 p2 p3 p8 p9) (.returned (.slice q m cq)))/\Hid (Pw U u' r pb N P1 H (20000*i+10100))):=fun u hu=>by
     have jj:Bt wc u:=by
      rcases hu with rfl|rfl;·exact ag _ _
      ·exact(ag _ _).drew
     obtain⟨f0,f1,f2,f3,f4,f5⟩:=HE.out;have vT:=Ml.below jj;have:=KR u (20000*i+100) p8 p9 p4 p5 p6 p7 vT.g vT.m (by have:=HN1.out;omega) f4 f5;rw[f0,f1,f2,f3]at this;refine this.mono ?_;rintro e u' ⟨q,cq,R0,R1,R2,R3,rfl,s1,s2,s3,s4⟩;have hgw:=(aa jj).trans s3;have zq:=(az.1 HNc).1;have BW:Pw U u' r pb N P1 H (20000*i+10100):=Ml.grown hgw (s4.mono (by omega)) L_;refine⟨q,cq,rfl,(hgw.block An zq (fun e=>hAr (by injection e))).trans HNc,Jp u' P1 BW.g BW.row (fun _ _=>rfl),⟨q,cq,R0,R1,R2,R3,rfl,s1,?_,hgw,s4⟩,BW⟩;rcases s2 with e|⟨b,e,l,hr⟩;·exact .inl e
     ·exact .inr ⟨b,e,aH jj.size l,hr⟩
    unfold fO at KR1;clear KR tB dj tn HB1;go_wp2_with fail;go_region_held(fun W=>(W.cell? (aq An 0)=some (Iq kd)/\W.cell? (aq An 1)=some (Iq a0)/\W.cell? (aq An 2)=some (Iq a1)/\W.cell? (aq An 3)=some (Iq a2)/\W.cell? (aq An 4)=some (Iq a3)/\W.cell? (aq An 5)=some (Iq a4)/\W.cell? (aq An 6)=some (Iq a5)/\W.cell? (aq An 7)=some (Iq a6)/\W.cell? (aq An 8)=some (Iq a7)/\W.cell? (aq An 9)=some (Iq a8)/\W.cell? (aq An 10)=some (Iq a9)/\W.cell? (aq An 11)=some (Iq b0)/\W.cell? (aq An 12)=some (Iq b1)/\W.cell? (aq An 13)=some (.string tx)/\W.cell? (aq An 14)=some (.slice p m c)/\W.cell? (aq An 15)=some (Iq up))/\W.cell? (aq pb (i*10))=some (Iq p0)/\W.cell? (aq pb (i*10+1))=some (Iq p1)/\W.cell? (aq pb (i*10+2))=some (Iq p2)/\W.cell? (aq pb (i*10+3))=some (Iq p3)/\W.cell? (aq pb (i*10+4))=some (Iq p4)/\W.cell? (aq pb (i*10+5))=some (Iq p5)/\W.cell? (aq pb (i*10+6))=some (Iq p6)/\W.cell? (aq pb (i*10+7))=some (Iq p7)/\W.cell? (aq pb (i*10+8))=some (Iq p8)/\W.cell? (aq pb (i*10+9))=some (Iq p9)) (go_keep) (first|(go_at_call 121;refine ai (KR1 _ (by first|exact .inl rfl|exact .inr rfl)) ?_;rintro e u1 ⟨q,cq,rfl,Hz,⟨w0,w1,w2,w3,w4,w5,w6,w7,w8,w9⟩,_7,Su⟩;obtain⟨s0,s1,s2,s3,s4,s5,s6,s7,s8,s9,WQ,WS,WU,WV,WW,WX⟩:=Sr u1 Hz;have HUN:Hid (u1.heap[An]?=some (.cells #[Iq kd,Iq a0,Iq a1,Iq a2,Iq a3,Iq a4,Iq a5,Iq a6,Iq a7,Iq a8,Iq a9,Iq b0,Iq b1,.string tx,.slice p m c,Iq up] 94 (0,0))):=Hz;clear Hz));all_goals go_wp2_with fail
    all_goals
     obtain⟨q',cq',R0,R1,R2,R3,hqe,Wy,hrow,hgw,_⟩:=_7.out;injection hqe with hqe;injection hqe with zhk _ zhl;subst zhk;subst zhl;have zao:Hid (cm kd a4 a5 a6 L ks Wd H p0 p1 p2 p3 p8 p9 R0 R1 R2 R3):=Wy;have HROW:Hid (m=0\/∃b,q=some (aq b 0)/\b≠pb/\qW u1 b m R0 R1 R2 R3):=by
      rcases hrow with e|⟨b,e,l,hr⟩;·exact .inl e
      ·exact .inr ⟨b,e,by have:=Ml.row.lt;omega,hr⟩
     clear Wy hrow hgw _7 KR1 s0 s1 s2 s3 s4 s5 s6 s7 s8 s9 WQ WS WU WV WW WX w0 w1 w2 w3 w4 w5 w6 w7 w8 w9 z0 z1 z2 z3 z4 z5 z6 z7 z8 z9 Sd Se Sf Sg Vw Sh y0 y1 y2 y3 y4 y5 y6 y7 y8 y9;go_loopw[57] (fun kv wr2=>∃j:Nat,j<=m/\kv=Iq (j:Int)/\Hid (Pw U wr2 r pb N (Io P1 i ks R0 R1 R2 R3 j) H (20000*i+10100))/\Hid (wr2.heap[An]?=some (.cells #[Iq kd,Iq a0,Iq a1,Iq a2,Iq a3,Iq a4,Iq a5,Iq a6,Iq a7,Iq a8,Iq a9,Iq b0,Iq b1,.string tx,.slice p m c,Iq up] 94 (0,0)))/\Hid (m=0\/∃b,q=some (aq b 0)/\b≠pb/\qW wr2 b m R0 R1 R2 R3)) (fun kv _=>m-(intOf kv).toNat);case atStart=>exact⟨0,bm _,rfl,Su,HUN,HROW⟩
     case round=>
      obtain⟨j,hj,rfl,HPj,ZE,HRj⟩:=hrel;clear Su HUN HROW;by_cases hlj:j<m
      ·have zgX:(j:Int)<(m:Int):=by omega
       obtain⟨b,rfl,Yf,hbl,hbc⟩:=HRj.resolve_left (by omega);obtain⟨g0,g1,g2,g3⟩:=hbc j hlj;obtain⟨kb,ko,rfl,zbK,zbL,zbJ⟩:=HKB.resolve_left (by omega);obtain⟨cc,hcc⟩:=af (bf ks j);have Ou:=_6 j hlj;rw[hcc]at Ou;obtain⟨x0,Aw⟩:=af (R0 j);obtain⟨x1,uA⟩:=af (R1 j);obtain⟨x2,ky⟩:=af (R2 j);obtain⟨x3,RZ⟩:=af (R3 j);rw[Aw]at g0;rw[uA]at g1;rw[ky]at g2;rw[RZ]at g3;obtain⟨k0,hk0⟩:=af (A9 x0 x1 x2 x3 p4 p5 p6 p7);obtain⟨k1,El⟩:=af (pX x0 x1 x2 x3 p4 p5 p6 p7);obtain⟨k2,Wr⟩:=af (oA x0 x1 x2 x3 p4 p5 p6 p7);obtain⟨k3,wD⟩:=af (A_ x0 x1 x2 x3 p4 p5 p6 p7);have Tz:i∉ks:=fun Fa=>by obtain⟨a,ha,e⟩:=rP.1 Fa;have h1:=_6 a (by have:=VH.out;omega);unfold bf at h1;rw[di ha,e]at h1;have h2:i<i:=h1.1;omega
       have hPi:Io P1 i ks R0 R1 R2 R3 j i=P1 i:=qL j (fun t ht=>by have:=VH.out;omega) i Tz;obtain⟨W5,Hm⟩:=af (wr.alloc (.cells #[Iq x0,Iq x1,Iq x2,Iq x3] 100));obtain⟨Ar,za'⟩:=af wr.heap.size;have Rs:Hid (Bt wr W5):=by rw[<-Hm];exact((Gr.refl wr).alloc _).below
       have _u:W5.heap[Ar]?=some (.cells #[Iq x0,Iq x1,Iq x2,Iq x3] 100 (0,0)):=by rw[<-Hm,<-za'];exact heap_alloc_new _ _
       have za9:=(az.1 ZE).1;have zoT:=HPj.row.lt;have HP5:Hid (Pw U W5 r pb N (Io P1 i ks R0 R1 R2 R3 j) H (20000*i+10100)):=HPj.below Rs;have CAP:Hid (∀u,(u=W5\/u=W5.drew)->Cw 122 #[.agg #[Iq x0,Iq x1,Iq x2,Iq x3],.agg #[Iq p4,Iq p5,Iq p6,Iq p7]] u fun e u'=>e=Rw (.agg #[Iq k0,Iq k1,Iq k2,Iq k3])/\Hid (Bt W5 u')):=fun u hu=>by
        have jj:Bt W5 u:=by
         rcases hu with rfl|rfl;·exact ag _ _
         ·exact(ag _ _).drew
        have:=G_ x0 x1 x2 x3 p4 p5 p6 p7 u;rw[JO,hk0,El,Wr,wD]at this;exact this.mono fun e u' ⟨h1,h2⟩=>⟨h1,jj.trans (h2.below.mono jj.size)⟩
       have HSU:Hid (∀u,Bt W5 u->u.cell? (aq An 14)=some (.slice (some (aq kb ko)) m c)/\u.cell? (aq kb (ko+j))=some (Iq (cc:Int))/\u.cell? (aq Ar 0)=some (Iq x0)/\u.cell? (aq Ar 1)=some (Iq x1)/\u.cell? (aq Ar 2)=some (Iq x2)/\u.cell? (aq Ar 3)=some (Iq x3)/\u.cell? (aq pb (i*10+4))=some (Iq p4)/\u.cell? (aq pb (i*10+5))=some (Iq p5)/\u.cell? (aq pb (i*10+6))=some (Iq p6)/\u.cell? (aq pb (i*10+7))=some (Iq p7)):=fun u hu=>by
        have b_:=Rs.trans (hu.mono Rs.size);have vT:=HP5.below hu;have hn:=(b_.block An za9).trans ZE;have hr:=(hu.block Ar (az.1 _u).1).trans _u;have hkc:u.cell? (aq kb (ko+j))=some (Iq (cc:Int)):=by rw[<-hcc];exact(ba (a:=(aq kb (ko+j))) (vT.g.block kb zbK (fun e=>zbL (by injection e)))).trans (zbJ j hlj)
        have hpc:=Jp u _ vT.g vT.row (fun t _=>by rw[hPi]);obtain⟨_,_,_,_,c4,c5,c6,c7,_,_⟩:=hpc;refine⟨?_,hkc,?_,?_,?_,?_,c4,c5,c6,c7⟩;·rw[Lib.cell_of_heap hn];rfl
        ·rw[Lib.cell_of_heap hr];rfl
        ·rw[Lib.cell_of_heap hr];rfl
        ·rw[Lib.cell_of_heap hr];rfl
        ·rw[Lib.cell_of_heap hr];rfl
       have vO:Hid (∀u,Bt W5 u->(tw u pb (cc*10) x0 x1 x2 x3 k0 k1 k2 k3 0 0).cell? (aq An 14)=some (.slice (some (aq kb ko)) m c)/\(tw u pb (cc*10) x0 x1 x2 x3 k0 k1 k2 k3 0 0).cell? (aq kb (ko+j))=some (Iq (cc:Int))/\(tw u pb (cc*10) x0 x1 x2 x3 k0 k1 k2 k3 0 0).cell? (aq Ar 0)=some (Iq x0)/\(tw u pb (cc*10) x0 x1 x2 x3 k0 k1 k2 k3 0 0).cell? (aq Ar 1)=some (Iq x1)/\(tw u pb (cc*10) x0 x1 x2 x3 k0 k1 k2 k3 0 0).cell? (aq Ar 2)=some (Iq x2)/\(tw u pb (cc*10) x0 x1 x2 x3 k0 k1 k2 k3 0 0).cell? (aq Ar 3)=some (Iq x3)/\(tw u pb (cc*10) x0 x1 x2 x3 k0 k1 k2 k3 0 0).cell? (aq pb (i*10+4))=some (Iq p4)/\(tw u pb (cc*10) x0 x1 x2 x3 k0 k1 k2 k3 0 0).cell? (aq pb (i*10+5))=some (Iq p5)/\(tw u pb (cc*10) x0 x1 x2 x3 k0 k1 k2 k3 0 0).cell? (aq pb (i*10+6))=some (Iq p6)/\(tw u pb (cc*10) x0 x1 x2 x3 k0 k1 k2 k3 0 0).cell? (aq pb (i*10+7))=some (Iq p7)):=fun u hu=>by
        obtain⟨r0,r1,r2,r3,r4,r5,r6,r7,r8,r9⟩:=HSU u hu;have o1:∀b' o' v,b'≠pb->u.cell? (aq b' o')=some v->(tw u pb (cc*10) x0 x1 x2 x3 k0 k1 k2 k3 0 0).cell? (aq b' o')=some v:=fun b' o' v sr hv=>(IK b' o' (.inl sr)).trans hv;have o2:∀t v,t<10->u.cell? (aq pb (i*10+t))=some v->(tw u pb (cc*10) x0 x1 x2 x3 k0 k1 k2 k3 0 0).cell? (aq pb (i*10+t))=some v:=fun t v ht hv=>(IK pb (i*10+t) (by omega)).trans hv;have n1:An≠pb:=by omega
        have n2:kb≠pb:=by omega
        have n3:Ar≠pb:=by omega
        exact⟨o1 _ _ _ n1 r0,o1 _ _ _ n2 r1,o1 _ _ _ n3 r2,o1 _ _ _ n3 r3,o1 _ _ _ n3 r4,o1 _ _ _ n3 r5,o2 4 _ (by omega) r6,o2 5 _ (by omega) r7,o2 6 _ (by omega) r8,o2 7 _ (by omega) r9⟩
       have Eu:Hid (∀u,Bt W5 u->(∀o',u.frozen? (aq pb o')=false)/\pb<u.heap.size/\(∃v,u.cell? (aq pb (cc*10))=some v)/\(∃v,u.cell? (aq pb (cc*10+1))=some v)/\(∃v,u.cell? (aq pb (cc*10+2))=some v)/\(∃v,u.cell? (aq pb (cc*10+3))=some v)/\(∃v,u.cell? (aq pb (cc*10+4))=some v)/\(∃v,u.cell? (aq pb (cc*10+5))=some v)/\(∃v,u.cell? (aq pb (cc*10+6))=some v)/\(∃v,u.cell? (aq pb (cc*10+7))=some v)/\(∃v,u.cell? (aq pb (cc*10+8))=some v)/\(∃v,u.cell? (aq pb (cc*10+9))=some v)):=fun u hu=>by have vT:=HP5.below hu;exact⟨fun o'=>vT.row.frozen o',vT.row.lt,⟨_,bu (t:=0) vT.row Ou.2 (by omega)⟩,⟨_,bu vT.row Ou.2 (by omega)⟩,⟨_,bu vT.row Ou.2 (by omega)⟩,⟨_,bu vT.row Ou.2 (by omega)⟩,⟨_,bu vT.row Ou.2 (by omega)⟩,⟨_,bu vT.row Ou.2 (by omega)⟩,⟨_,bu vT.row Ou.2 (by omega)⟩,⟨_,bu vT.row Ou.2 (by omega)⟩,⟨_,bu vT.row Ou.2 (by omega)⟩,⟨_,bu vT.row Ou.2 (by omega)⟩⟩
       have om:Hid (∀u,Bt W5 u->Pw U (tw u pb (cc*10) x0 x1 x2 x3 k0 k1 k2 k3 0 0) r pb N (Io P1 i ks R0 R1 R2 R3 (j+1)) H (20000*i+10100)/\(tw u pb (cc*10) x0 x1 x2 x3 k0 k1 k2 k3 0 0).heap[An]?=some (.cells #[Iq kd,Iq a0,Iq a1,Iq a2,Iq a3,Iq a4,Iq a5,Iq a6,Iq a7,Iq a8,Iq a9,Iq b0,Iq b1,.string tx,.slice (some (aq kb ko)) m c,Iq up] 94 (0,0))/\(m=0\/∃b',some ((aq b 0):Addr)=some (aq b' 0)/\b'≠pb/\qW (tw u pb (cc*10) x0 x1 x2 x3 k0 k1 k2 k3 0 0) b' m R0 R1 R2 R3)):=fun u hu=>by
        have b_:=Rs.trans (hu.mono Rs.size);have key:∀b',b'≠pb->(tw u pb (cc*10) x0 x1 x2 x3 k0 k1 k2 k3 0 0).heap[b']?=u.heap[b']?:=fun b' sr=>Vm b' sr;refine⟨?_,(key An (by omega)).trans ((b_.block An za9).trans ZE),.inr ⟨b,rfl,Yf,?_,fun t ht=>?_⟩⟩;·have:=Qe (HP5.below hu) hpU L_ cc (Sa P1 i (R0 j) (R1 j) (R2 j) (R3 j)) x0 x1 x2 x3 k0 k1 k2 k3 0 0 Aw.symm uA.symm ky.symm RZ.symm (by rw[<-hk0,<-Aw,<-uA,<-ky,<-RZ,<-hp4,<-hp5,<-hp6,<-hp7];rfl) (by rw[<-El,<-Aw,<-uA,<-ky,<-RZ,<-hp4,<-hp5,<-hp6,<-hp7];rfl) (by rw[<-Wr,<-Aw,<-uA,<-ky,<-RZ,<-hp4,<-hp5,<-hp6,<-hp7];rfl) (by rw[<-wD,<-Aw,<-uA,<-ky,<-RZ,<-hp4,<-hp5,<-hp6,<-hp7];rfl) rfl rfl;rw[<-hcc]at this⊢;exact this
        ·have h1:=(az.1 (((key b Yf).trans (b_.block b hbl)).trans (D7 hbl))).1;exact h1
        ·obtain⟨r0,r1,r2,r3⟩:=hbc t ht;have kk:=(key b Yf).trans (b_.block b hbl);exact⟨(ba (a:=(aq b _)) kk).trans r0,(ba (a:=(aq b _)) kk).trans r1,(ba (a:=(aq b _)) kk).trans r2,(ba (a:=(aq b _)) kk).trans r3⟩
       obtain⟨t0,t1,t2,t3,t4,t5,t6,t7,t8,t9⟩:=HSU W5 (ag _ _);have HAN:Hid (wr.cell? (aq An 14)=some (.slice (some (aq kb ko)) m c)):=by show _=_;rw[Lib.cell_of_heap ZE.out];rfl
       have znQ:(cc:Int)<(N:Int):=by omega
       clear _u hbc hk0 El Wr wD Aw uA ky RZ hcc hPi Tz hbl HRj ZE HPj zbK zbL zbJ;go_wp2_with fail;clear Hm za' g0 g1 g2 g3;go_region_held(fun W=>W.cell? (aq An 14)=some (.slice (some (aq kb ko)) m c)/\W.cell? (aq kb (ko+j))=some (Iq (cc:Int))/\W.cell? (aq Ar 0)=some (Iq x0)/\W.cell? (aq Ar 1)=some (Iq x1)/\W.cell? (aq Ar 2)=some (Iq x2)/\W.cell? (aq Ar 3)=some (Iq x3)/\W.cell? (aq pb (i*10+4))=some (Iq p4)/\W.cell? (aq pb (i*10+5))=some (Iq p5)/\W.cell? (aq pb (i*10+6))=some (Iq p6)/\W.cell? (aq pb (i*10+7))=some (Iq p7)) (go_keep) (first|(go_at_call 122;refine ai (CAP _ (by first|exact .inl rfl|exact .inr rfl)) ?_;rintro e u2 ⟨rfl,yB⟩;obtain⟨f0,f1,f2,f3,f4,f5,f6,f7,f8,f9⟩:=HSU u2 yB;have HX:=vO u2 yB;unfold tw at HX;obtain⟨h0,h1,h2,h3,h4,h5,h6,h7,h8,h9⟩:=HX;obtain⟨Wp,zoU,⟨v0,e0⟩,⟨v1,e1⟩,⟨v2,e2⟩,⟨v3,e3⟩,⟨v4,e4⟩,⟨v5,e5⟩,⟨v6,e6⟩,⟨v7,e7⟩,⟨v8,e8⟩,⟨v9,e9⟩⟩:=Eu u2 yB));all_goals
        obtain⟨F1,F2,F3⟩:=om u2 yB;have HF1:=(show Hid _ from F1);have HF2:=(show Hid _ from F2);have HF3:=(show Hid _ from F3);clear F1 F2 F3;go_wp2;go_roundw;case rel=>exact⟨j+1,hlj,by go_num,HF1,HF2,HF3⟩
        case measure=>simp[intOf];omega
      ·have zgX:¬(j:Int)<(m:Int):=by omega
       obtain rfl:j=m:=by omega
       have __:Hid (cQ L Wd H w h aX off sn (Io P1 i ks R0 R1 R2 R3 j) (i+1)):=by have jD:=zao.out;rw[<-oK,<-vS,<-hp2,<-Hu,<-hp8,<-hp9]at jD;have:=gP P1 R0 R1 R2 R3 GD (fun e=>VI.1 (by have:=Ru.out;omega)) (fun e=>VI.2 (by have:=Ru.out;omega)) jD;exact this
       have HPN:Hid (Pw U wr r pb N (Io P1 i ks R0 R1 R2 R3 j) H (20000*(i+1))):=HPj.mono (by omega);clear HPj ZE HRj;go_wp2;go_roundw;case rel=>exact⟨i+1,_,hlt,by go_num,HPN,__⟩
       case measure=>simp[intOf];omega
  ·have aR:¬(i:Int)<(N:Int):=by omega
   obtain rfl:i=N:=by omega
   have HGO:Hid (U.grownBy wr (some r)/\wr.rowIs pb 102 (i*10) (zM P)/\cQ L Wd H w h aX off sn P i):=⟨HP.g,HP.row,HL⟩;go_wp2;go_ret;exact⟨pb,P,rfl,HGO.2.1,HGO.2.2,HGO.1,hpU⟩
section
variable{s:ByteArray} {L:List Nd} {Wd:Nat->Int} {H:Nat->Int->Int} {w h:Int} {aX off:Nat->Int} {sn:Nat} {P:Nat->Nat->Int}
theorem cQ.scroll(hT:gA s L)(hp:cQ L Wd H w h aX off sn P L.length){i}(hi:i<L.length)(h4:(ac L i).kind=4):
 (ac L i).kids.length=1/\0<=P i 8/\P i 8<=P i 9/\P (bf (ac L i).kids 0) 0=P i 0/\P (bf (ac L i).kids 0) 1=P i 1-P i 8/\P (bf (ac L i).kids 0) 2=P i 2/\P (bf (ac L i).kids 0) 3=P i 3+P i 9/\(aC (ac L i) 0=0->P i 8=0):=by
 have El:(ac L i).kids.length=1:=by
  rcases hT.kidok i hi with q|⟨_,_,q⟩|⟨q,_⟩;·omega
  ·exact q
  ·omega
 obtain⟨r1,r2⟩:=hp.sc i hi hi h4;obtain⟨R0,R1,R2,R3,hs,hk⟩:=hp.kr i hi hi;obtain⟨e0,e1,e2,e3⟩:=hs.scr (by omega) 0 (by omega);have k0:=hk 0 (by omega) 0 (by omega);have k1:=hk 0 (by omega) 1 (by omega);have k2:=hk 0 (by omega) 2 (by omega);have k3:=hk 0 (by omega) 3 (by omega);have k0:P (bf (ac L i).kids 0) 0=R0 0:=k0;have k1:P (bf (ac L i).kids 0) 1=R1 0:=k1;have k2:P (bf (ac L i).kids 0) 2=R2 0:=k2;have k3:P (bf (ac L i).kids 0) 3=R3 0:=k3;grind[gu,jE,aC,ac]
theorem zaV{x}(h0:0<=x)(h1:x<=100000):cl x=x:=by grind[cl]
theorem cQ.inRow(hT:gA s L)(hp:cQ L Wd H w h aX off sn P L.length){i}(hi:i<L.length)(h0:(ac L i).kind=0):
 ∃G,((ac L i).kids=[]\/bQ L (ac L i).kids (fun j=>Wd (bf (ac L i).kids j)) (P i 2) (aC (ac L i) 4) G)/\(∀j,j<(ac L i).kids.length->0<=G j/\G j<=100000)/\∀j,j<(ac L i).kids.length->P (bf (ac L i).kids j) 0=P i 0+offs G (aC (ac L i) 4) j/\P (bf (ac L i).kids j) 1=P i 1/\P (bf (ac L i).kids j) 2=G j/\P (bf (ac L i).kids j) 3=P i 3:=by obtain⟨R0,R1,R2,R3,hs,hk⟩:=hp.kr i hi hi;obtain⟨G,g1,g2,g3⟩:=hs.row (by omega);have hb:=(hT.vl.nv i hi).bd.2.1;rw[zaV hb.1 (by omega)]at g3;refine⟨G,g1,g2,fun j hj=>?_⟩;obtain⟨e0,e1,e2,e3⟩:=g3 j hj;have k0:P (bf (ac L i).kids j) 0=R0 j:=hk j hj 0 (by omega);have k1:P (bf (ac L i).kids j) 1=R1 j:=hk j hj 1 (by omega);have k2:P (bf (ac L i).kids j) 2=R2 j:=hk j hj 2 (by omega);have k3:P (bf (ac L i).kids j) 3=R3 j:=hk j hj 3 (by omega);omega
theorem Qx{f}{l}(hf:∀j∈l,0<=f j){k}(hk:k∈l):f k<=ar f l:=by
 induction l with
 |nil=>cases hk
 |cons a l ih=>have h0:=hf a (by simp);have h1:0<=ar f l:=cK fun j hj=>hf j (by simp[hj]);grind[ar]
theorem LC{r S1 S2 S:Int}(h1:r<=S1\/r<=S2->S=r)(h2:S1<r->S2<r->S=S2):S<=r:=by omega
theorem bQ.tiles{L}{ks}{N}{aM cR}{G}(g1:bQ L ks N aM cR G)(hk:0<ks.length):
 ar G (List.range ks.length)<=rm aM cR ks.length/\((∃j,j<ks.length/\0<aC (ac L (bf ks j)) 3/\aC (ac L (bf ks j)) 2<0)->ar G (List.range ks.length)=rm aM cR ks.length):=by
 have hr:=WP aM cR ks.length hk;obtain⟨t1,t2,t3⟩:=cV.tiles g1 (iN _ _ _);refine⟨LC t2 t3,fun⟨j,hj,q1,q2⟩=>t2 (.inr (ke hr ?_))⟩;have hcl:0<cl (aC (ac L (bf ks j)) 3):=by unfold cl;split;omega;split<;>omega
 have hm:ic (LG (ac L (bf ks j)) (N j)) (aC (ac L (bf ks j)) 2)=100000:=by unfold ic;rw[if_pos q2]
 refine ke ?_ (Qx (k:=j) (fun x _=>?_) (Ed.2 hj));all_goals grind[cl,aC,ac,bf,ic,LG,mq,gq]
theorem cQ.tiles(hT:gA s L)(hp:cQ L Wd H w h aX off sn P L.length){i}(hi:i<L.length)(h0:(ac L i).kind=0)(hk:0<(ac L i).kids.length):
 ∃G,(∀j,j<(ac L i).kids.length->0<=G j/\G j<=100000)/\(∀j,j<(ac L i).kids.length->P (bf (ac L i).kids j) 2=G j)/\ar G (List.range (ac L i).kids.length)<=rm (P i 2) (aC (ac L i) 4) (ac L i).kids.length/\((∃j,j<(ac L i).kids.length/\0<aC (ac L (bf (ac L i).kids j)) 3/\aC (ac L (bf (ac L i).kids j)) 2<0)->ar G (List.range (ac L i).kids.length)=rm (P i 2) (aC (ac L i) 4) (ac L i).kids.length):=by obtain⟨G,g1,g2,g3⟩:=hp.inRow hT hi h0;have g1:=g1.resolve_left (fun e=>by grind);exact⟨G,g2,fun j hj=>(g3 j hj).2.2.1,g1.tiles hk⟩
def GJ(P:Nat->Nat->Int)(w h:Int)(i:Nat):Prop:=0<=P i 4/\0<=P i 5/\0<=P i 6/\0<=P i 7/\P i 4+P i 6<=w/\P i 5+P i 7<=h
def MB(x y a b X Y A B:Int):Prop:=a<=0\/b<=0\/(X<=x/\Y<=y/\x+a<=X+A/\y+b<=Y+B)
theorem Ha{x y a b cx cy cw ch w h}(hw:1<=w/\w<=400)(hh:1<=h/\h<=400)(ha:0<=a/\a<=100000)(hb:0<=b/\b<=100000)(hc:0<=cx/\0<=cy/\0<=cw/\0<=ch/\cx+cw<=w/\cy+ch<=h):
 let c0:=A9 x y a b cx cy cw ch
 let c1:=pX x y a b cx cy cw ch
 let c2:=oA x y a b cx cy cw ch
 let c3:=A_ x y a b cx cy cw ch
 (0<=c0/\0<=c1/\0<=c2/\0<=c3/\c0+c2<=w/\c1+c3<=h)/\MB c0 c1 c2 c3 x y a b/\MB c0 c1 c2 c3 cx cy cw ch:=by
 dsimp only;unfold A9 pX oA A_ MB;by_cases q:gd x a cx cw>=ji x a cx cw\/gd y b cy ch>=ji y b cy ch;·omega
 ·rw[if_neg q,if_neg q,if_neg q,if_neg q];unfold gd ji bM bD at*;omega
theorem cQ.onScr(hT:gA s L)(hp:cQ L Wd H w h aX off sn P L.length)(hw:1<=w/\w<=400)(hh:1<=h/\h<=400):∀n i,i<n->i<L.length->GJ P w h i
 |0,i,h,_=>by omega
 |n+1,i,hn,hi=>by
  by_cases e:i=0;·subst e;obtain⟨r0,r1,r2,r3,r4,r5,r6,r7⟩:=hp.root;grind[GJ]
  ·obtain⟨u,k,hu,hk,hc,hup⟩:=hT.kid_of i (by omega) hi;have OS:=cQ.onScr hT hp hw hh n u (by omega) (by omega);obtain⟨R0,R1,R2,R3,hs,jd⟩:=hp.kr u (by omega) (by omega);have Yd:=hp.bd i hi;rw[<-hc]at Yd⊢;have k2:P (bf (ac L u).kids k) 2=R2 k:=jd k hk 2 (by omega);have k3:P (bf (ac L u).kids k) 3=R3 k:=jd k hk 3 (by omega);have k4:P (bf (ac L u).kids k) 4=A9 (R0 k) (R1 k) (R2 k) (R3 k) (P u 4) (P u 5) (P u 6) (P u 7):=jd k hk 4 (by omega);have k5:P (bf (ac L u).kids k) 5=pX (R0 k) (R1 k) (R2 k) (R3 k) (P u 4) (P u 5) (P u 6) (P u 7):=jd k hk 5 (by omega);have k6:P (bf (ac L u).kids k) 6=oA (R0 k) (R1 k) (R2 k) (R3 k) (P u 4) (P u 5) (P u 6) (P u 7):=jd k hk 6 (by omega);have k7:P (bf (ac L u).kids k) 7=A_ (R0 k) (R1 k) (R2 k) (R3 k) (P u 4) (P u 5) (P u 6) (P u 7):=jd k hk 7 (by omega);rw[k2,k3]at Yd;have q:=(Ha (x:=R0 k) (y:=R1 k) hw hh ⟨Yd.2.2.2.2.1,Yd.2.2.2.2.2.1⟩ Yd.2.2.2.2.2.2 OS).1;unfold GJ;rw[k4,k5,k6,k7];exact q
theorem cQ.clip(hT:gA s L)(hp:cQ L Wd H w h aX off sn P L.length)(hw:1<=w/\w<=400)(hh:1<=h/\h<=400){i}(hi:i<L.length)(h0:0<i):
 ∃u,u<i/\(ac L i).up=(u:Int)/\MB (P i 4) (P i 5) (P i 6) (P i 7) (P i 0) (P i 1) (P i 2) (P i 3)/\MB (P i 4) (P i 5) (P i 6) (P i 7) (P u 4) (P u 5) (P u 6) (P u 7):=by obtain⟨u,k,hu,hk,hc,hup⟩:=hT.kid_of i h0 hi;have OS:=cQ.onScr hT hp hw hh (u+1) u (by omega) (by omega);obtain⟨R0,R1,R2,R3,hs,jd⟩:=hp.kr u (by omega) (by omega);have Yd:=hp.bd i hi;refine⟨u,hu,hup,?_⟩;rw[<-hc]at Yd⊢;have k0:P (bf (ac L u).kids k) 0=R0 k:=jd k hk 0 (by omega);have k1:P (bf (ac L u).kids k) 1=R1 k:=jd k hk 1 (by omega);have k2:P (bf (ac L u).kids k) 2=R2 k:=jd k hk 2 (by omega);have k3:P (bf (ac L u).kids k) 3=R3 k:=jd k hk 3 (by omega);have k4:P (bf (ac L u).kids k) 4=A9 (R0 k) (R1 k) (R2 k) (R3 k) (P u 4) (P u 5) (P u 6) (P u 7):=jd k hk 4 (by omega);have k5:P (bf (ac L u).kids k) 5=pX (R0 k) (R1 k) (R2 k) (R3 k) (P u 4) (P u 5) (P u 6) (P u 7):=jd k hk 5 (by omega);have k6:P (bf (ac L u).kids k) 6=oA (R0 k) (R1 k) (R2 k) (R3 k) (P u 4) (P u 5) (P u 6) (P u 7):=jd k hk 6 (by omega);have k7:P (bf (ac L u).kids k) 7=A_ (R0 k) (R1 k) (R2 k) (R3 k) (P u 4) (P u 5) (P u 6) (P u 7):=jd k hk 7 (by omega);rw[k4,k5,k6,k7,k0,k1,k2,k3];exact(Ha hw hh (by omega) (by omega) OS).2
end
theorem uU{f g}  c  :∀k,(∀j,j<k->f j=g j)->offs f c k=offs g c k
 |0,_=>rfl
 |k+1,h=>by rw[qE,qE,uU c k (fun j hj=>h j (by omega)),h k (by omega)]
theorem cm.uniq{kd a4 a5 a6}{L}{ks}{Wd}{H}{x y w h of rm}{R0 R1 R2 R3 S0 S1 S2 S3}(s:cm kd a4 a5 a6 L ks Wd H x y w h of rm R0 R1 R2 R3)(s':cm kd a4 a5 a6 L ks Wd H x y w h of rm S0 S1 S2 S3)  j  (hj:j<ks.length):
 R0 j=S0 j/\R1 j=S1 j/\R2 j=S2 j/\R3 j=S3 j:=by
 have bj:ks≠[]:=fun e=>by grind
 by_cases h0:kd=0;·obtain⟨G,g1,_,g3⟩:=s.row h0;obtain⟨G',Wc,_,g3'⟩:=s'.row h0;have hu:=(g1.resolve_left bj).uniq (Wc.resolve_left bj);grind[uU,cl]
 ·by_cases h1:kd=1;·obtain⟨G,g1,_,g3⟩:=s.col h1;obtain⟨G',Wc,_,g3'⟩:=s'.col h1;have hu:=(g1.resolve_left bj).uniq (Wc.resolve_left bj);grind[uU,cl]
  ·by_cases h3:kd=3;·have e:=s.box h3 j hj;have f:=s'.box h3 j hj;grind[zU]
   ·by_cases h4:kd=4;·obtain⟨e0,e1,e2,e3⟩:=s.scr h4 j hj;obtain⟨f0,f1,f2,f3⟩:=s'.scr h4 j hj;omega
    ·obtain⟨e0,e1,e2,e3⟩:=s.rest h0 h1 h3 h4 j hj;obtain⟨f0,f1,f2,f3⟩:=s'.rest h0 h1 h3 h4 j hj;omega
section
variable{s:ByteArray} {L:List Nd} {Wd:Nat->Int} {H:Nat->Int->Int} {w h:Int} {aX off:Nat->Int} {sn:Nat} {P Q:Nat->Nat->Int}
theorem cQ.ext89(hp:cQ L Wd H w h aX off sn P L.length)(hq:cQ L Wd H w h aX off sn Q L.length){i}(hi:i<L.length)(h2:P i 2=Q i 2)(h3:P i 3=Q i 3):P i 8=Q i 8/\P i 9=Q i 9:=by
 by_cases h4:(ac L i).kind=4;·obtain⟨a,b⟩:=hp.sc i hi hi h4;obtain⟨c,d⟩:=hq.sc i hi hi h4;grind
 ·obtain⟨a,b⟩:=hp.no i hi (.inr h4);obtain⟨c,d⟩:=hq.no i hi (.inr h4);omega
theorem cQ.uniq(hT:gA s L)(hp:cQ L Wd H w h aX off sn P L.length)(hq:cQ L Wd H w h aX off sn Q L.length):∀n i,i<n->i<L.length->∀t,t<10->P i t=Q i t
 |0,i,h,_=>by omega
 |n+1,i,hn,hi=>by
  have key:∀t,t<8->P i t=Q i t:=by
   by_cases e:i=0;·subst e;obtain⟨a0,a1,a2,a3,a4,a5,a6,a7⟩:=hp.root;obtain⟨b0,b1,b2,b3,b4,b5,b6,b7⟩:=hq.root;grind
   ·obtain⟨u,k,hu,hk,hc,hup⟩:=hT.kid_of i (by omega) hi;have ih:=cQ.uniq hT hp hq n u (by omega) (by omega);obtain⟨R0,R1,R2,R3,hs,jd⟩:=hp.kr u (by omega) (by omega);obtain⟨S0,S1,S2,S3,hs',zgS⟩:=hq.kr u (by omega) (by omega);have jD:=hs.congr (ih 0 (by omega)) (ih 1 (by omega)) (ih 2 (by omega)) (ih 3 (by omega)) (ih 8 (by omega)) (ih 9 (by omega));obtain⟨e0,e1,e2,e3⟩:=jD.uniq hs' k hk;grind[Sa]
  grind[cQ.ext89]
end
theorem cm.size{kd a4 a5 a6:Int}{L:List Nd}{ks:List Nat}{Wd:Nat->Int}{H:Nat->Int->Int}{x y w h of rm x' y' of':Int}{R0 R1 R2 R3 S0 S1 S2 S3:Nat->Int}(s:cm kd a4 a5 a6 L ks Wd H x y w h of rm R0 R1 R2 R3)(s':cm kd a4 a5 a6 L ks Wd H x' y' w h of' rm S0 S1 S2 S3)(j:Nat)(hj:j<ks.length):
 R2 j=S2 j/\R3 j=S3 j:=by
 have bj:ks≠[]:=fun e=>by grind
 by_cases h0:kd=0;·obtain⟨G,g1,_,g3⟩:=s.row h0;obtain⟨G',Wc,_,g3'⟩:=s'.row h0;have hu:=(g1.resolve_left bj).uniq (Wc.resolve_left bj);grind
 ·by_cases h1:kd=1;·obtain⟨G,g1,_,g3⟩:=s.col h1;obtain⟨G',Wc,_,g3'⟩:=s'.col h1;have hu:=(g1.resolve_left bj).uniq (Wc.resolve_left bj);grind
  ·by_cases h3:kd=3;·have e:=zU (s.box h3 j hj);have f:=zU (s'.box h3 j hj);grind
   ·by_cases h4:kd=4;·obtain⟨e0,e1,e2,e3⟩:=s.scr h4 j hj;obtain⟨f0,f1,f2,f3⟩:=s'.scr h4 j hj;omega
    ·obtain⟨e0,e1,e2,e3⟩:=s.rest h0 h1 h3 h4 j hj;obtain⟨f0,f1,f2,f3⟩:=s'.rest h0 h1 h3 h4 j hj;omega
section
variable{s:ByteArray} {L:List Nd} {Wd:Nat->Int} {H:Nat->Int->Int} {w h:Int} {aX off idg ofg:Nat->Int} {sn sm:Nat} {P Q:Nat->Nat->Int}
theorem cQ.size(hT:gA s L)(hp:cQ L Wd H w h aX off sn P L.length)(hq:cQ L Wd H w h idg ofg sm Q L.length):∀n i,i<n->i<L.length->P i 2=Q i 2/\P i 3=Q i 3/\P i 9=Q i 9
 |0,i,h,_=>by omega
 |n+1,i,hn,hi=>by
  have key:P i 2=Q i 2/\P i 3=Q i 3:=by
   by_cases e:i=0;·subst e;obtain⟨a0,a1,a2,a3,a4,a5,a6,a7⟩:=hp.root;obtain⟨b0,b1,b2,b3,b4,b5,b6,b7⟩:=hq.root;omega
   ·obtain⟨u,k,hu,hk,hc,hup⟩:=hT.kid_of i (by omega) hi;obtain⟨i2,i3,i9⟩:=cQ.size hT hp hq n u (by omega) (by omega);obtain⟨R0,R1,R2,R3,hs,jd⟩:=hp.kr u (by omega) (by omega);obtain⟨S0,S1,S2,S3,hs',zgS⟩:=hq.kr u (by omega) (by omega);have jD:=hs.congr rfl rfl i2 i3 rfl i9;have e1:=jD.size hs' k hk;grind[Sa]
  refine⟨key.1,key.2,?_⟩;by_cases h4:(ac L i).kind=4;·obtain⟨a,b⟩:=hp.sc i hi hi h4;obtain⟨c,d⟩:=hq.sc i hi hi h4;rw[a,c,key.1,key.2]
  ·obtain⟨a,b⟩:=hp.no i hi (.inr h4);obtain⟨c,d⟩:=hq.no i hi (.inr h4);omega
end
