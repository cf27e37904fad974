import Derived.Test.YtbeiapdobffpiaaGreatDoorQ45
import Derived.Test.YtbeiapdobffpiaaGreatDoorQ43
set_option linter.all false
set_option maxRecDepth 100000
set_option maxHeartbeats 16000000
namespace Go.Proofs.YtbeiapdobffpiaaGreatDoor
open Go.RowKit Go.Sort Go.Proofs.Tryz
structure bW(kd a4 a5 a6:Int)(L:List Nd)(ks:List Nat)(Wd:Nat->Int)(H:Nat->Int->Int)(x y w h of rm:Int)(R0 R1 R2 R3:Nat->Int):Prop where
 row:kd=0->∃G,(ks=[]\/bL L ks (fun j=>Wd (aP ks j)) w a4 G)/\(∀j,j<ks.length->0<=G j/\G j<=100000)/\∀j,j<ks.length->R0 j=x+cm G (cl a4) j/\R1 j=y/\R2 j=G j/\R3 j=h
 col:kd=1->∃G,(ks=[]\/bL L ks (fun j=>H (aP ks j) w) h a4 G)/\(∀j,j<ks.length->0<=G j/\G j<=100000)/\∀j,j<ks.length->R0 j=x/\R1 j=y+cm G (cl a4) j/\R2 j=w/\R3 j=G j
 box:kd=3->∀j,j<ks.length->qI x y w h (a6+a5)=rv (R0 j) (R1 j) (R2 j) (R3 j)
 scr:kd=4->∀j,j<ks.length->R0 j=x/\R1 j=y-of/\R2 j=w/\R3 j=h+rm
 rest:kd≠0->kd≠1->kd≠3->kd≠4->∀j,j<ks.length->R0 j=x/\R1 j=y/\R2 j=w/\R3 j=h
def jp(U U':World)(r m:Nat)(H:Nat->Int->Int)(n:Nat)(X:(Nat->Int)->(Nat->Int)->(Nat->Int)->(Nat->Int)->Prop)(e:Ending):Prop:=∃q cq R0 R1 R2 R3,e=Rw (.slice q m cq)/\X R0 R1 R2 R3/\(m=0\/∃b,q=some (az b 0)/\U.heap.size<=b/\pG U' b m R0 R1 R2 R3)/\U.grownBy U' (some r)/\bu U' r H n
theorem jp.base{U U0 U'}{r m}{H}{n}{X}{e}(h:jp U U' r m H n X e)(h0:U0.grownBy U (some r)):jp U0 U' r m H n X e:=by
 obtain⟨q,cq,R0,R1,R2,R3,h1,h2,h3,h4,h5⟩:=h;refine⟨q,cq,R0,R1,R2,R3,h1,h2,?_,h0.trans h4,h5⟩;rcases h3 with h3|⟨b,e,h6,h7⟩;·exact .inl h3
 ·exact .inr ⟨b,e,aT h0.size h6,h7⟩
theorem Sl{W:World}{b m:Nat}{x y a c:Int}{Ls:List Value}(h:W.heap[b]?=some (.cells Ls.toArray 74 (0,0)))(hf:DX 4 Ls m m [Iq x,Iq y,Iq a,Iq c]):pG W b m (fun _=>x) (fun _=>y) (fun _=>a) (fun _=>c):=by
 refine⟨(aS.1 h).1,fun j hj=>⟨?_,?_,?_,?_⟩⟩;·rw[Lib.cell_of_heap h];have:=hf.2 j 0 _ hj rfl;simpa using this
 ·rw[Lib.cell_of_heap h];have:=hf.2 j 1 _ hj rfl;simpa using this
 ·rw[Lib.cell_of_heap h];have:=hf.2 j 2 _ hj rfl;simpa using this
 ·rw[Lib.cell_of_heap h];have:=hf.2 j 3 _ hj rfl;simpa using this
theorem Lq(m:Nat)(hm:m<=1000)  x y a c   u  :
 Cw 108 #[Sq u.heap.size 1 1,Iq (m:Int)] (u.alloc (.cells #[Iq x,Iq y,Iq a,Iq c] 74)) fun e u'=>∃q cq,e=Rw (.slice q m cq)/\Hid (m=0\/∃b,q=some (az b 0)/\u.heap.size<=b/\pG u' b m (fun _=>x) (fun _=>y) (fun _=>a) (fun _=>c))/\Hid (Bt u u'):=by
 have hb2:Bt u (u.alloc (.cells #[Iq x,Iq y,Iq a,Iq c] 74)):=(ag _ u).alloc (ai _) _;by_cases hz:m=0;·subst hz;refine(Ae (.inr (.inl ⟨rfl,rfl,rfl,rfl⟩)) (u.alloc (.cells #[Iq x,Iq y,Iq a,Iq c] 74)) u.heap.size).mono ?_;rintro e u' ⟨q,cq,rfl,hb⟩;exact⟨q,cq,rfl,.inl rfl,hb2.trans (hb.mono hb2.size)⟩
 ·refine(EZ (.inr (.inl ⟨rfl,rfl,rfl,rfl⟩)) (u.alloc (.cells #[Iq x,Iq y,Iq a,Iq c] 74)) [Iq x,Iq y,Iq a,Iq c] rfl (by simp[Value.oneCell']) u.heap.size m (by omega) (by simp) (fun k v hk=>?_)).mono ?_;·rw[World.cell?_alloc_at _ _ _ _ rfl];match k with
   |0=>exact hk
   |1=>exact hk
   |2=>exact hk
   |3=>exact hk
   |k+4=>cases hk
  ·rintro e u' ⟨rfl,⟨Ls,hl,hfl⟩,hb⟩;exact⟨_,_,rfl,.inr ⟨_,rfl,hb2.size,Sl hl hfl⟩,hb2.trans (hb.mono hb2.size)⟩
theorem jp.mono{U U'}{r m}{H}{n n'}{X}{e}(h:jp U U' r m H n X e)(hn:n<=n'):jp U U' r m H n' X e:=by obtain⟨q,cq,R0,R1,R2,R3,h1,h2,h3,h4,h5⟩:=h;exact⟨q,cq,R0,R1,R2,R3,h1,h2,h3,h4,h5.mono hn⟩
def Yj(kd a0 a1 a2 a3 a4 a5 a6 a7 a8 a9 b0 b1:Int)(tx:ByteArray)(kv:Value)(up:Int):Array Value:=#[Iq kd,Iq a0,Iq a1,Iq a2,Iq a3,Iq a4,Iq a5,Iq a6,Iq a7,Iq a8,Iq a9,Iq b0,Iq b1,.string tx,kv,Iq up]
theorem TF{U}{r nn m:Nat}{H}{X}(hm:m<=200)(hM:bu U r H nn)  u   x0 y0 w0 h0  (hu:Bt U u) (hsp:X (fun _=>x0) (fun _=>y0) (fun _=>w0) (fun _=>h0)):
 Cw 108 #[Sq u.heap.size 1 1,Iq (m:Int)] (u.alloc (.cells #[Iq x0,Iq y0,Iq w0,Iq h0] 74)) fun e u'=>∃q cq,e=Rw (.slice q m cq)/\Hid (jp U u' r m H (nn+100*m) X (.returned (.slice q m cq))):=by
 refine(Lq m (by omega) x0 y0 w0 h0 u).mono ?_;rintro e u' ⟨q,cq,rfl,q1,q2⟩;have hb:=hu.trans (q2.mono hu.size);refine⟨q,cq,rfl,q,cq,_,_,_,_,rfl,hsp,?_,ac hb,(hM.grown_below hb).mono (by omega)⟩;rcases q1.out with e|⟨b,e,l,h⟩;·exact .inl e
 ·exact .inr ⟨b,e,aT hu.size l,h⟩
theorem tX(mb r nn m:Nat)(L:List Nd)(ks:List Nat)(Wd:Nat->Int)(H:Nat->Int->Int)(kd a0 a1 a2 a3 a4 a5 a6 a7 a8 a9 b0 b1 up:Int)(tx:ByteArray)(p:Option Addr)(c:Nat)(x y w h c0 c1 c2 c3 of rm:Int)(U:World)
 (hmm:ks.length=m) (hm:m<=200) (hM:Hid (bu U r H nn)) (hx:-1000000000000<=x/\x<=1000000000000) (hy:-1000000000000<=y/\y<=1000000000000) (hw:0<=w/\w<=100000) (hh:0<=h/\h<=100000) (h5:0<=a5/\a5<=1000000) (h6:0<=a6/\a6<=1000000) (OO:0<=of/\of<=100000) (CU:0<=rm/\rm<=100000)
 (WR:Hid (kd=0->∀u,Bt U u->bu u r H nn->Cw 104 #[Pq mb,ik kd a0 a1 a2 a3 a4 a5 a6 a7 a8 a9 b0 b1 tx (.slice p m c) up] u fun e u'=>∃v,e=Rw v/\iq u u' r m L ks (fun j=>Wd (aP ks j)) H (nn+100*m) v))
 (WC:Hid (kd=1->∀u,Bt U u->bu u r H nn->Cw 106 #[Pq mb,ik kd a0 a1 a2 a3 a4 a5 a6 a7 a8 a9 b0 b1 tx (.slice p m c) up,Iq w] u fun e u'=>∃v,e=Rw v/\iq u u' r m L ks (fun j=>H (aP ks j) w) H (nn+100*m) v)):
 Cw 58 #[Pq mb,ik kd a0 a1 a2 a3 a4 a5 a6 a7 a8 a9 b0 b1 tx (.slice p m c) up,.agg #[Iq x,Iq y,Iq w,Iq h,Iq c0,Iq c1,Iq c2,Iq c3,Iq of,Iq rm]] U fun e U'=>jp U U' r m H (nn+100*m) (bW kd a4 a5 a6 L ks Wd H x y w h of rm) e:=by
 have oV:prog.follows .mixedOrders=true:=by kernel_rfl
 obtain⟨W3,Om⟩:=aj (((U.alloc (.cells (Yj kd a0 a1 a2 a3 a4 a5 a6 a7 a8 a9 b0 b1 tx (.slice p m c) up) 100)).alloc (.cells #[Iq x,Iq y,Iq w,Iq h,Iq c0,Iq c1,Iq c2,Iq c3,Iq of,Iq rm] 76)).alloc (.cells #[Iq x,Iq y,Iq w,Iq h] 74));obtain⟨A,hA⟩:=aj U.heap.size;have pF:Hid (Bt U W3):=by rw[<-Om];exact((((Gr.refl U).alloc _).alloc _).alloc _).below
 have hn3:W3.heap[A]?=some (.cells (Yj kd a0 a1 a2 a3 a4 a5 a6 a7 a8 a9 b0 b1 tx (.slice p m c) up) 100 (0,0)):=by rw[<-Om,<-hA,fC _ _ _ (by rw[aO,aO];omega),fC _ _ _ (by rw[aO];omega)];exact heap_alloc_new _ _
 have CJ:W3.heap[A+1]?=some (.cells #[Iq x,Iq y,Iq w,Iq h,Iq c0,Iq c1,Iq c2,Iq c3,Iq of,Iq rm] 76 (0,0)):=by rw[<-Om,<-hA,fC _ _ _ (by rw[aO,aO];omega),<-World.size_alloc];exact heap_alloc_new _ _
 have xO:W3.heap[A+1+1]?=some (.cells #[Iq x,Iq y,Iq w,Iq h] 74 (0,0)):=by rw[<-Om,<-hA,<-World.size_alloc,<-World.size_alloc];exact heap_alloc_new _ _
 unfold Yj at Om;have hrA:r<A:=by rw[<-hA];exact hM.lt
 have HS:Hid (∀u,W3.grownBy u (some r)->(u.cell? (az A 0)=some (Iq kd)/\u.cell? (az A 1)=some (Iq a0)/\u.cell? (az A 2)=some (Iq a1)/\u.cell? (az A 3)=some (Iq a2)/\u.cell? (az A 4)=some (Iq a3)/\u.cell? (az A 5)=some (Iq a4)/\u.cell? (az A 6)=some (Iq a5)/\u.cell? (az A 7)=some (Iq a6)/\u.cell? (az A 8)=some (Iq a7)/\u.cell? (az A 9)=some (Iq a8)/\u.cell? (az A 10)=some (Iq a9)/\u.cell? (az A 11)=some (Iq b0)/\u.cell? (az A 12)=some (Iq b1)/\u.cell? (az A 13)=some (.string tx)/\u.cell? (az A 14)=some (.slice p m c)/\u.cell? (az A 15)=some (Iq up))/\u.cell? (az (A+1+1) 0)=some (Iq x)/\u.cell? (az (A+1+1) 1)=some (Iq y)/\u.cell? (az (A+1+1) 2)=some (Iq w)/\u.cell? (az (A+1+1) 3)=some (Iq h)):=fun u hu=>by
  have hb1:=(hu.block A (aS.1 hn3).1 (fun e=>by injection e with e;omega)).trans hn3;have hb2:=(hu.block (A+1+1) (aS.1 xO).1 (fun e=>by injection e with e;omega)).trans xO;refine⟨⟨?_,?_,?_,?_,?_,?_,?_,?_,?_,?_,?_,?_,?_,?_,?_,?_⟩,?_,?_,?_,?_⟩;all_goals first
   |(rw[Lib.cell_of_heap hb1];rfl)
   |(rw[Lib.cell_of_heap hb2];rfl)
 obtain⟨⟨z0,z1,z2,z3,z4,z5,z6,z7,z8,z9,P7,P8,P9,M_,P_,Qa⟩,y0,y1,y2,y3⟩:=HS W3 (ac (ag _ _));have p8:W3.cell? (az (A+1) 8)=some (Iq of):=by rw[Lib.cell_of_heap CJ];rfl
 have p9:W3.cell? (az (A+1) 9)=some (Iq rm):=by rw[Lib.cell_of_heap CJ];rfl
 have IE:Hid (bu W3 r H nn):=hM.grown_below pF;have zim:A<W3.heap.size:=(aS.1 hn3).1;have zjO:¬A=W3.heap.size:=by omega
 have RP:=qH<|fun u x0 y0 w0 h0=>TF (X:=bW kd a4 a5 a6 L ks Wd H x y w h of rm) hm hM u x0 y0 w0 h0;by_cases Zq:kd=0\/kd=1;·-- a row,a col
  obtain⟨f,av,g,s,N,hf⟩:∃f av g s N,(kd=0/\f=104/\av=#[Pq mb,ik kd a0 a1 a2 a3 a4 a5 a6 a7 a8 a9 b0 b1 tx (.slice p m c) up]/\g=103/\s=w/\N=fun j=>Wd (aP ks j))\/(kd=1/\f=106/\av=#[Pq mb,ik kd a0 a1 a2 a3 a4 a5 a6 a7 a8 a9 b0 b1 tx (.slice p m c) up,Iq w]/\g=105/\s=h/\N=fun j=>H (aP ks j) w):=by
   rcases Zq with e|e;·exact⟨_,_,_,_,_,.inl ⟨e,rfl,rfl,rfl,rfl,rfl⟩⟩
   ·exact⟨_,_,_,_,_,.inr ⟨e,rfl,rfl,rfl,rfl,rfl⟩⟩
  have RW:Hid (∀u,(u=W3\/u=W3.drew)->Cw f av u fun e u'=>∃v,e=Rw v/\Hid (iq W3 u' r m L ks N H (nn+100*m) v)):=fun u hu=>by
   have iY:Bt W3 u:=by
    rcases hu with rfl|rfl;·exact ag _ _
    ·exact(ag _ _).drew
   have hc:Cw f av u fun e u'=>∃v,e=Rw v/\iq u u' r m L ks N H (nn+100*m) v:=by
    rcases hf with⟨e,rfl,rfl,_,_,rfl⟩|⟨e,rfl,rfl,_,_,rfl⟩;·exact WR e u (pF.trans (iY.mono pF.size)) (IE.grown_below iY)
    ·exact WC e u (pF.trans (iY.mono pF.size)) (IE.grown_below iY)
   refine hc.mono ?_;rintro e u' ⟨v,rfl,lb,rfl,q1,q2,q3,q4⟩;exact⟨_,rfl,lb,rfl,q1,aT iY.size q2,(ac iY).trans q3,q4⟩
  have IN:Hid (∀v u,iq W3 u r m L ks N H (nn+100*m) v->Cw g #[.agg #[Iq x,Iq y,Iq w,Iq h],Iq a4,v] u fun e u'=>∃q cq,e=Rw (.slice q m cq)/\Hid (jp W3 u' r m H (nn+100*m) (bW kd a4 a5 a6 L ks Wd H x y w h of rm) (.returned (.slice q m cq)))):=fun v u hv=>by
   obtain⟨G,hG⟩:=PH L ks N s a4;obtain⟨X,Y,P,Q,hXY⟩:∃X Y P Q:Nat->Int,(g=103/\s=w/\(∀k,X k=x+cm G (cl a4) k/\Y k=y/\P k=G k/\Q k=h)\/g=105/\s=h/\∀k,X k=x/\Y k=y+cm G (cl a4) k/\P k=w/\Q k=G k)/\((ks=[]\/bL L ks N s a4 G)->(∀j,j<m->0<=G j/\G j<=100000)->bW kd a4 a5 a6 L ks Wd H x y w h of rm X Y P Q):=by
    rcases hf with⟨rfl,_,_,e1,rfl,rfl⟩|⟨rfl,_,_,e1,rfl,rfl⟩;·exact⟨fun k=>_,fun k=>_,fun k=>_,fun k=>_,.inl ⟨e1,rfl,fun k=>⟨rfl,rfl,rfl,rfl⟩⟩,fun g1 g2=>⟨fun _=>⟨G,g1,by rw[hmm];exact g2,fun j _=>⟨rfl,rfl,rfl,rfl⟩⟩,nofun,nofun,nofun,fun e=>absurd rfl e⟩⟩
    ·exact⟨fun k=>_,fun k=>_,fun k=>_,fun k=>_,.inr ⟨e1,rfl,fun k=>⟨rfl,rfl,rfl,rfl⟩⟩,fun g1 g2=>⟨nofun,fun _=>⟨G,g1,by rw[hmm];exact g2,fun j _=>⟨rfl,rfl,rfl,rfl⟩⟩,nofun,nofun,fun _ e=>absurd rfl e⟩⟩
   refine(Tw g r m x y w h s a4 X Y P Q G L ks N H (nn+100*m) v W3 u hG hXY.1 hmm hm (by have:=pF.size;omega) hx hy hw hh hv).mono ?_;rintro e u' ⟨lb,rfl,⟨o1,o2,o3⟩,g1,g2⟩;obtain⟨lv,_,_,v2,v3,v4⟩:=hv;exact⟨_,_,rfl,_,_,_,_,_,_,rfl,hXY.2 g1 g2,.inr ⟨lb,rfl,aT v3.size o2,o1⟩,v3.trans (ac o3),v4.grown_below o3⟩
  clear hn3 CJ xO hM WR WC p8 p9 Zq RP;rcases hf with⟨hk,rfl,rfl,rfl,_,_⟩|⟨hk,rfl,rfl,rfl,_,_⟩;all_goals
   first
    |have e0:(kd==0)=true:=by simp[hk]
    |(have e0:(kd==0)=false:=(by simp[hk]);have e1:(kd==1)=true:=(by simp[hk]))
   clear hk;unfold ik at RW⊢;go_enter func58,ntmps58;go_wp2_with fail;clear Om hA;go_region_held(fun W=>(W.cell? (az A 0)=some (Iq kd)/\W.cell? (az A 1)=some (Iq a0)/\W.cell? (az A 2)=some (Iq a1)/\W.cell? (az A 3)=some (Iq a2)/\W.cell? (az A 4)=some (Iq a3)/\W.cell? (az A 5)=some (Iq a4)/\W.cell? (az A 6)=some (Iq a5)/\W.cell? (az A 7)=some (Iq a6)/\W.cell? (az A 8)=some (Iq a7)/\W.cell? (az A 9)=some (Iq a8)/\W.cell? (az A 10)=some (Iq a9)/\W.cell? (az A 11)=some (Iq b0)/\W.cell? (az A 12)=some (Iq b1)/\W.cell? (az A 13)=some (.string tx)/\W.cell? (az A 14)=some (.slice p m c)/\W.cell? (az A 15)=some (Iq up))/\W.cell? (az (A+1+1) 0)=some (Iq x)/\W.cell? (az (A+1+1) 1)=some (Iq y)/\W.cell? (az (A+1+1) 2)=some (Iq w)/\W.cell? (az (A+1+1) 3)=some (Iq h)) (go_keep) (first|((first|go_at_call 104|go_at_call 106);refine am (RW _ (by first|exact .inl rfl|exact .inr rfl)) ?_;rintro e u1 ⟨v1,rfl,HO⟩;obtain⟨⟨s0,s1,s2,s3,s4,s5,s6,s7,s8,s9,Ro,Rp,Rq,Rr,Rs,Rt⟩,e0,e1,e2,e3⟩:=HS u1 HO.g)|((first|go_at_call 103|go_at_call 105);refine am (IN _ _ HO) ?_;rintro e u2 ⟨q,cq,rfl,HZ⟩;obtain⟨⟨t0,t1,t2,t3,t4,t5,t6,t7,t8,t9,t10,t11,t12,t13,t14,t15⟩,f0,f1,f2,f3⟩:=HS u2 (by obtain⟨_,_,_,_,_,_,_,_,_,hq,_⟩:=HZ.out;exact hq)));all_goals go_wp2;go_ret;exact HZ.base (ac pF)
 by_cases k3:kd=3;·-- a box
  subst k3;obtain⟨i0,i1,i2,i3,S5⟩:∃i0 i1 i2 i3,qI x y w h (a6+a5)=rv i0 i1 i2 i3:=⟨_,_,_,_,rfl⟩;have yb:Hid (bW 3 a4 a5 a6 L ks Wd H x y w h of rm (fun _=>i0) (fun _=>i1) (fun _=>i2) (fun _=>i3)):=⟨nofun,nofun,fun _ j _=>S5,nofun,fun _ _ e=>absurd rfl e⟩;have FA:Hid (∀u,(u=W3\/u=W3.drew)->Cw 100 #[ik 3 a0 a1 a2 a3 a4 a5 a6 a7 a8 a9 b0 b1 tx (.slice p m c) up] u fun e u'=>e=Rw (Iq (a6+a5))/\Hid (Bt W3 u')):=fun u hu=>by
   have iY:Bt W3 u:=by
    rcases hu with rfl|rfl;·exact ag _ _
    ·exact(ag _ _).drew
   refine(lq 3 a0 a1 a2 a3 a4 a5 a6 a7 a8 a9 b0 b1 up tx p m c h5 h6 u).mono ?_;rintro e u' ⟨rfl,q⟩;exact⟨by unfold iy;rw[if_pos rfl],iY.trans (q.mono iY.size)⟩
  have IS:Hid (∀u,Bt W3 u->Cw 107 #[.agg #[Iq x,Iq y,Iq w,Iq h],Iq (a6+a5)] u fun e u'=>e=Rw (.agg #[Iq i0,Iq i1,Iq i2,Iq i3])/\Hid (Bt W3 u')):=fun u hu=>by have:=GH x y w h (a6+a5) u;rw[S5]at this;refine this.mono ?_;rintro e u' ⟨rfl,q⟩;exact⟨rfl,hu.trans (q.below.mono hu.size)⟩
  have WS:A+1+1<W3.heap.size:=(aS.1 xO).1;have HFZ:Hid (∀u,Bt W3 u->∀j,u.frozen? (az (A+1+1) j)=false):=fun u hu j=>frozen_of_row _ _ _ _ _ ((hu.block _ WS).trans xO);have HNX:Hid (∀u,Bt W3 u->((((u.setCell (az (A+1+1) 0) (Iq i0)).setCell (az (A+1+1) 1) (Iq i1)).setCell (az (A+1+1) 2) (Iq i2)).setCell (az (A+1+1) 3) (Iq i3)).heap[A+1+1]?=some (.cells #[Iq i0,Iq i1,Iq i2,Iq i3] 74 (0,0))/\((((u.setCell (az (A+1+1) 0) (Iq i0)).setCell (az (A+1+1) 1) (Iq i1)).setCell (az (A+1+1) 2) (Iq i2)).setCell (az (A+1+1) 3) (Iq i3)).heap[A]?=some (.cells (Yj 3 a0 a1 a2 a3 a4 a5 a6 a7 a8 a9 b0 b1 tx (.slice p m c) up) 100 (0,0))/\Bt U ((((u.setCell (az (A+1+1) 0) (Iq i0)).setCell (az (A+1+1) 1) (Iq i1)).setCell (az (A+1+1) 2) (Iq i2)).setCell (az (A+1+1) 3) (Iq i3))):=fun u hu=>by
   have hr4:R4 74 u (A+1+1) x y w h:=(hu.block _ WS).trans xO;have hl:∀t,U.heap.size<=((az (A+1+1) t):Addr).block:=fun t=>by rw[hA];show A<=A+1+1;omega
   refine⟨hr4.set i0 i1 i2 i3,?_,((((pF.trans (hu.mono pF.size)).setCell (hl 0) _).setCell (hl 1) _).setCell (hl 2) _).setCell (hl 3) _⟩;have bG:A≠A+1+1:=by omega
   rw[cF _ (az (A+1+1) 3) _ _ bG,cF _ (az (A+1+1) 2) _ _ bG,cF _ (az (A+1+1) 1) _ _ bG,cF _ (az (A+1+1) 0) _ _ bG];exact(hu.block A (aS.1 hn3).1).trans hn3
  unfold ik at FA⊢;clear hn3 CJ xO hM S5 WR WC Zq IE;go_enter func58,ntmps58;go_wp2_with fail;clear Om hA;go_region_with(first|(go_at_call 100;refine am (FA _ (by first|exact .inl rfl|exact .inr rfl)) ?_;rintro e u1 ⟨rfl,vM⟩;obtain⟨⟨s0,s1,s2,s3,s4,s5,s6,s7,s8,s9,Ro,Rp,Rq,Rr,Rs,Rt⟩,e0,e1,e2,e3⟩:=HS u1 (ac vM))|(go_at_call 107;refine am (IS _ vM) ?_;rintro e u2 ⟨rfl,_s⟩;obtain⟨⟨t0,t1,t2,t3,t4,t5,t6,t7,t8,t9,t10,t11,t12,t13,t14,t15⟩,f0,f1,f2,f3⟩:=HS u2 (ac _s);have Xq:=HFZ u2 _s));all_goals
   obtain⟨wc,Z2⟩:=aj ((((u2.setCell (az (A+1+1) 0) (Iq i0)).setCell (az (A+1+1) 1) (Iq i1)).setCell (az (A+1+1) 2) (Iq i2)).setCell (az (A+1+1) 3) (Iq i3));have IA:Hid (wc.heap[A+1+1]?=some (.cells #[Iq i0,Iq i1,Iq i2,Iq i3] 74 (0,0))/\wc.heap[A]?=some (.cells (Yj 3 a0 a1 a2 a3 a4 a5 a6 a7 a8 a9 b0 b1 tx (.slice p m c) up) 100 (0,0))/\Bt U wc):=by rw[<-Z2];exact HNX u2 _s
   have g0:wc.cell? (az (A+1+1) 0)=some (Iq i0):=by rw[Lib.cell_of_heap IA.1];rfl
   have g1:wc.cell? (az (A+1+1) 1)=some (Iq i1):=by rw[Lib.cell_of_heap IA.1];rfl
   have g2:wc.cell? (az (A+1+1) 2)=some (Iq i2):=by rw[Lib.cell_of_heap IA.1];rfl
   have g3:wc.cell? (az (A+1+1) 3)=some (Iq i3):=by rw[Lib.cell_of_heap IA.1];rfl
   have g14:wc.cell? (az A 14)=some (.slice p m c):=by rw[Lib.cell_of_heap IA.2.1];rfl
   have zin:A<wc.heap.size:=(aS.1 IA.2.1).1;have bG:¬A=wc.heap.size:=by omega
   rw[Z2];clear Z2 z0 z1 z2 z3 z4 z5 z6 z7 z8 z9 P7 P8 P9 M_ P_ Qa y0 y1 y2 y3 HS FA IS HFZ HNX s0 s1 s2 s3 s4 s5 s6 s7 s8 s9 Ro Rp Rq Rr Rs Rt e0 e1 e2 e3 t0 t1 t2 t3 t4 t5 t6 t7 t8 t9 t10 t11 t12 t13 t14 t15 f0 f1 f2 f3 Xq;go_wp2_with(go_at_call 108;refine am (RP _ _ _ _ _ IA.2.2 yb) ?_;rintro e u3 ⟨q,cq,rfl,HZ⟩);go_ret;exact HZ
 by_cases k4:kd=4;·-- a scroll
  subst k4;have yb:Hid (bW 4 a4 a5 a6 L ks Wd H x y w h of rm (fun _=>x) (fun _=>y-of) (fun _=>w) (fun _=>h+rm)):=⟨nofun,nofun,nofun,fun _ j _=>⟨rfl,rfl,rfl,rfl⟩,fun _ _ _ e=>absurd rfl e⟩;have n1:¬A+1+1=A:=by omega
  have n2:¬A+1+1=A+1:=by omega
  have n3:¬A=A+1+1:=by omega
  have n4:¬A+1=A+1+1:=by omega
  have Xq:∀j,W3.frozen? (az (A+1+1) j)=false:=fun j=>frozen_of_row _ _ _ _ _ xO;have DZ:Hid (Bt U ((W3.setCell (az (A+1+1) 1) (Iq (y-of))).setCell (az (A+1+1) 3) (Iq (h+rm)))):=(pF.setCell (p:=(az (A+1+1) 1)) (by rw[hA];show A<=A+1+1;omega) _).setCell (p:=(az (A+1+1) 3)) (by rw[hA];show A<=A+1+1;omega) _;obtain⟨W4,SE⟩:=aj ((W3.setCell (az (A+1+1) 1) (Iq (y-of))).setCell (az (A+1+1) 3) (Iq (h+rm)));have fT:W4.heap.size=W3.heap.size:=by rw[<-SE];simp
  have RP4:Hid (Cw 108 #[Sq W3.heap.size 1 1,Iq (m:Int)] (((W3.setCell (az (A+1+1) 1) (Iq (y-of))).setCell (az (A+1+1) 3) (Iq (h+rm))).alloc (.cells #[Iq x,Iq (y-of),Iq w,Iq (h+rm)] 74)) fun e u'=>∃q cq,e=Rw (.slice q m cq)/\Hid (jp U u' r m H (nn+100*m) (bW 4 a4 a5 a6 L ks Wd H x y w h of rm) (.returned (.slice q m cq)))):=by have:=RP W4 _ _ _ _ (by rw[<-SE];exact DZ) yb;rw[fT]at this;rw[SE];exact this
  unfold ik;clear hn3 CJ xO hM HS SE fT WR WC Zq IE k3;go_enter func58,ntmps58;go_upto_region 3 with fail;clear Om hA;go_wp2_with(go_at_call 108;refine am RP4 ?_;rintro e u2 ⟨q,cq,rfl,HZ⟩);go_ret;exact HZ
 have e0:(kd==0)=false:=by simp;omega
 have e1:(kd==1)=false:=by simp;omega
 have e3:(kd==3)=false:=by simp;omega
 have e4:(kd==4)=false:=by simp;omega
 have yb:Hid (bW kd a4 a5 a6 L ks Wd H x y w h of rm (fun _=>x) (fun _=>y) (fun _=>w) (fun _=>h)):=⟨by omega,by omega,by omega,by omega,fun _ _ _ _ j _=>⟨rfl,rfl,rfl,rfl⟩⟩;unfold ik;clear hn3 CJ xO hM HS WR WC IE;go_enter func58,ntmps58;go_upto_region 3 with fail;clear Om hA;go_wp2_with(go_at_call 108;refine am (RP _ _ _ _ _ pF yb) ?_;rintro e u2 ⟨q,cq,rfl,HZ⟩);go_ret;exact HZ
def Jr(ax ay aw ah bx fR bw bh:Int):Int:=if jt ax aw bx bw>=lM ax aw bx bw\/jt ay ah fR bh>=lM ay ah fR bh then 0 else jt ax aw bx bw
def Js(ax ay aw ah bx fR bw bh:Int):Int:=if jt ax aw bx bw>=lM ax aw bx bw\/jt ay ah fR bh>=lM ay ah fR bh then 0 else jt ay ah fR bh
def Jt(ax ay aw ah bx fR bw bh:Int):Int:=if jt ax aw bx bw>=lM ax aw bx bw\/jt ay ah fR bh>=lM ay ah fR bh then 0 else lM ax aw bx bw-jt ax aw bx bw
def Ju(ax ay aw ah bx fR bw bh:Int):Int:=if jt ax aw bx bw>=lM ax aw bx bw\/jt ay ah fR bh>=lM ay ah fR bh then 0 else lM ay ah fR bh-jt ay ah fR bh
theorem uz  ax ay aw ah bx fR bw bh  :yq ax ay aw ah bx fR bw bh=rv (Jr ax ay aw ah bx fR bw bh) (Js ax ay aw ah bx fR bw bh) (Jt ax ay aw ah bx fR bw bh) (Ju ax ay aw ah bx fR bw bh):=by grind[yq,Jr,Js,Jt,Ju]
def u_(P:Nat->Nat->Int)(c:Nat)(v:Nat->Int):Nat->Nat->Int:=fun q t=>if q=c then v t else P q t
def uY(P:Nat->Nat->Int)(i:Nat)(x y a b:Int)(t:Nat):Int:=
 if t=0 then x else if t=1 then y else if t=2 then a else if t=3 then b else if t=4 then Jr x y a b (P i 4) (P i 5) (P i 6) (P i 7)else if t=5 then Js x y a b (P i 4) (P i 5) (P i 6) (P i 7)else if t=6 then Jt x y a b (P i 4) (P i 5) (P i 6) (P i 7)else if t=7 then Ju x y a b (P i 4) (P i 5) (P i 6) (P i 7)else 0
def ES(P:Nat->Nat->Int)(i:Nat)(ks:List Nat)(R0 R1 R2 R3:Nat->Int):Nat->Nat->Nat->Int
 |0=>P
 |j+1=>u_ (ES P i ks R0 R1 R2 R3 j) (aP ks j) (uY P i (R0 j) (R1 j) (R2 j) (R3 j))
section
variable{P:Nat->Nat->Int} {i:Nat} {ks:List Nat} {R0 R1 R2 R3:Nat->Int}
theorem pq:∀j,(∀t,t<j->t<ks.length)->∀q,q∉ks->ES P i ks R0 R1 R2 R3 j q=P q
 |0,_,q,_=>rfl
 |j+1,hj,q,hq=>by have:=pq j (fun t ht=>hj t (by omega)) q hq;funext t;show(if q=aP ks j then _ else ES P i ks R0 R1 R2 R3 j q t)=_;rw[if_neg (fun e=>hq (by grind[fe])),this]
theorem O7(hn:ks.Nodup){a b}(ha:a<ks.length)(hb:b<ks.length)(e:aP ks a=aP ks b):a=b:=by
 unfold aP at e;rw[dN ha,dN hb]at e;rcases Nat.lt_trichotomy a b with h|h|h;·exact absurd e (Mj.1 hn a b ha hb h)
 ·exact h
 ·exact absurd e.symm (Mj.1 hn b a hb ha h)
theorem EU(hn:ks.Nodup):∀j,j<=ks.length->∀a,a<j->ES P i ks R0 R1 R2 R3 j (aP ks a)=uY P i (R0 a) (R1 a) (R2 a) (R3 a)
 |0,_,a,h=>by omega
 |j+1,hj,a,ha=>by
  funext t;show(if aP ks a=aP ks j then uY P i (R0 j) (R1 j) (R2 j) (R3 j) t else ES P i ks R0 R1 R2 R3 j (aP ks a) t)=_;by_cases e:a=j;·grind
  ·rw[if_neg (fun q=>e (O7 hn (by omega) (by omega) q)),EU hn j (by omega) a (by omega)]
end
theorem Ch.ok{L}{d}{ks}{a e}(h:Ch L d ks a e):∀j,a<=j->j<e->rl (L j):=by
 induction h with
 |nil d a=>omega
 |@cons d c r e1 e h1 h2 h3 h4 i1 i2=>grind
theorem dk.kidok{s}{L}(h:dk s L)  j  (hj:j<L.length):rl (ae L j):=h.ch.ok j (bc _) hj
structure dV(L:List Nd)(Wd:Nat->Int)(H:Nat->Int->Int)(w h:Int)(aX off:Nat->Int)(sn:Nat)(P:Nat->Nat->Int)(k:Nat):Prop where
 root:P 0 0=0/\P 0 1=0/\P 0 2=w/\P 0 3=h/\P 0 4=0/\P 0 5=0/\P 0 6=w/\P 0 7=h
 sc:∀i,i<L.length->i<k->(ae L i).kind=4->P i 9=dt (H (aP (ae L i).kids 0) (P i 2)) (P i 3)/\P i 8=min (max 0 (fw (aC (ae L i) 0) aX off sn)) (P i 9)
 no:∀i,i<L.length->(k<=i\/(ae L i).kind≠4)->P i 8=0/\P i 9=0
 kr:∀i,i<L.length->i<k->∃R0 R1 R2 R3,bW (ae L i).kind (aC (ae L i) 4) (aC (ae L i) 5) (aC (ae L i) 6) L (ae L i).kids Wd H (P i 0) (P i 1) (P i 2) (P i 3) (P i 8) (P i 9) R0 R1 R2 R3/\∀j,j<(ae L i).kids.length->∀t,t<8->P (aP (ae L i).kids j) t=uY P i (R0 j) (R1 j) (R2 j) (R3 j) t
 bd:∀i,i<L.length->-(((i:Int)+1)*100000000)<=P i 0/\P i 0<=((i:Int)+1)*100000000/\-(((i:Int)+1)*100000000)<=P i 1/\P i 1<=((i:Int)+1)*100000000/\0<=P i 2/\P i 2<=100000/\0<=P i 3/\P i 3<=100000
theorem GF{x y a b n i0 i1 i2 i3}(h:qI x y a b n=rv i0 i1 i2 i3):-200000<=i0/\i0<=200000/\-200000<=i1/\i1<=200000/\0<=i2/\i2<=100000/\0<=i3/\i3<=100000:=by unfold qI at h;obtain⟨rfl,rfl,rfl,rfl⟩:=xo h;have h1:=ef x;have h2:=ef y;have h3:=cJ a;have h4:=cJ b;have h5:=cJ n;omega
theorem bW.bd{kd a4 a5 a6}{L}{ks}{Wd}{H}{x y w h of rm}{R0 R1 R2 R3}(s:bW kd a4 a5 a6 L ks Wd H x y w h of rm R0 R1 R2 R3)(hm:ks.length<=100)(hw:0<=w/\w<=100000)(hh:0<=h/\h<=100000)(OO:0<=of/\of<=100000)(CU:0<=rm/\h+rm<=100000)  B  (hB:100000000<=B) (hx:-B<=x/\x<=B) (hy:-B<=y/\y<=B)  j  (hj:j<ks.length):
 -(B+100000000)<=R0 j/\R0 j<=B+100000000/\-(B+100000000)<=R1 j/\R1 j<=B+100000000/\0<=R2 j/\R2 j<=100000/\0<=R3 j/\R3 j<=100000:=by
 by_cases h0:kd=0;·obtain⟨G,g1,g2,g3⟩:=s.row h0;obtain⟨e0,e1,e2,e3⟩:=g3 j hj;have ho:=lG g2 (dm a4) j (by omega);grind
 ·by_cases h1:kd=1;·obtain⟨G,g1,g2,g3⟩:=s.col h1;obtain⟨e0,e1,e2,e3⟩:=g3 j hj;have ho:=lG g2 (dm a4) j (by omega);grind
  ·by_cases h3:kd=3;·have:=GF (s.box h3 j hj);omega
   ·by_cases h4:kd=4;·obtain⟨e0,e1,e2,e3⟩:=s.scr h4 j hj;omega
    ·obtain⟨e0,e1,e2,e3⟩:=s.rest h0 h1 h3 h4 j hj;omega
theorem bW.congr{kd a4 a5 a6}{L}{ks}{Wd}{H}{x y w h of rm x' y' w' h' _a rm'}{R0 R1 R2 R3}(s:bW kd a4 a5 a6 L ks Wd H x y w h of rm R0 R1 R2 R3)(e0:x=x')(e1:y=y')(e2:w=w')(e3:h=h')(e4:of=_a)(e5:rm=rm'):bW kd a4 a5 a6 L ks Wd H x' y' w' h' _a rm' R0 R1 R2 R3:=by grind
theorem dV.step{s}{L}{Wd}{H}{w h}{aX off}{sn k}{P P1}{R0 R1 R2 R3}(hT:dk s L)(hS:Sz L Wd H)(hp:dV L Wd H w h aX off sn P k)(hk:k<L.length)
 (h1:∀q t,¬(q=k/\(t=8\/t=9))->P1 q t=P q t)
 (h4:(ae L k).kind=4->P1 k 9=dt (H (aP (ae L k).kids 0) (P k 2)) (P k 3)/\P1 k 8=min (max 0 (fw (aC (ae L k) 0) aX off sn)) (P1 k 9))
 (hn:(ae L k).kind≠4->P1 k 8=0/\P1 k 9=0)
 (hs:bW (ae L k).kind (aC (ae L k) 4) (aC (ae L k) 5) (aC (ae L k) 6) L (ae L k).kids Wd H (P1 k 0) (P1 k 1) (P1 k 2) (P1 k 3) (P1 k 8) (P1 k 9) R0 R1 R2 R3):
 dV L Wd H w h aX off sn (ES P1 k (ae L k).kids R0 R1 R2 R3 (ae L k).kids.length) (k+1):=by
 obtain⟨ks,hks⟩:=aj ((ae L k).kids);rw[hks]at hs h4⊢;have gS:ks.Nodup:=by rw[<-hks];exact hT.nest.nd k hk
 have zb_:∀c,c∈ks->k<c/\c<L.length/\(ae L c).up=(k:Int):=fun c hc=>hT.nest.kid k c hk (by grind);have bH:ks.length<=100:=by rw[<-hks];exact hT.kids_le hk
 obtain⟨Q,hQ⟩:=aj (ES P1 k ks R0 R1 R2 R3 ks.length);have q1:∀q,q∉ks->Q q=P1 q:=fun q hq=>by rw[<-hQ];grind[pq]
 have q2:∀a,a<ks.length->Q (aP ks a)=uY P1 k (R0 a) (R1 a) (R2 a) (R3 a):=fun a ha=>by rw[<-hQ];grind[EU]
 rw[hQ];have oE:k∉ks:=fun hc=>by grind
 have hQk:=q1 k oE;have h00:0∉ks:=fun hc=>by grind
 have nk:∀i,i<k->i∉ks:=fun i hi hc=>by grind
 have mem:∀c,c∈ks->∃a,a<ks.length/\aP ks a=c:=fun c hc=>by obtain⟨a,ha,e⟩:=ox.1 hc;grind[aP]
 have QN:=hp.bd k hk;have e01:=h1 k 0 (by omega);have e11:=h1 k 1 (by omega);have e21:=h1 k 2 (by omega);have e31:=h1 k 3 (by omega);have zc:0<=P1 k 8/\P1 k 8<=100000/\0<=P1 k 9/\P1 k 3+P1 k 9<=100000:=by
  by_cases e4:(ae L k).kind=4
  ·obtain⟨r1,r2⟩:=h4 e4;have yY:aP ks 0<L.length:=by
    rcases hT.kidok k hk with q|⟨_,_,q⟩|⟨q,_⟩;·omega
    ·grind[fe]
    ·omega
   have hh:=hS.hb (aP ks 0) (P k 2) yY;grind[dt]
  ·omega
 refine⟨?_,fun i hi MY e4=>?_,fun i hi MY=>?_,fun i hi MY=>?_,fun i hi=>?_⟩;·rw[q1 0 h00];have r:=hp.root;grind
 ·by_cases e:i=k;·grind
  ·rw[q1 i (nk i (by omega)),h1 i 9 (by omega),h1 i 8 (by omega),h1 i 2 (by omega),h1 i 3 (by omega)];exact hp.sc i hi (by omega) e4
 ·by_cases hm:i∈ks;·obtain⟨a,ha,rfl⟩:=mem i hm;rw[q2 a ha];exact⟨rfl,rfl⟩
  ·rw[q1 i hm];by_cases e:i=k;·grind
   ·rw[h1 i 8 (by omega),h1 i 9 (by omega)];exact hp.no i hi (by omega)
 ·by_cases e:i=k;·subst e;refine⟨R0,R1,R2,R3,by grind,fun j hj t ht=>?_⟩;rw[hks]at hj⊢;rw[q2 j hj];grind[uY]
  ·have SY:i<k:=by omega
   obtain⟨S0,S1,S2,S3,s1,s2⟩:=hp.kr i hi SY;have hQi:∀t,Q i t=P i t:=fun t=>by grind
   refine⟨S0,S1,S2,S3,by grind,fun j hj t ht=>?_⟩;have hc:=hT.nest.kid i _ hi (fe hj);have hcn:aP (ae L i).kids j∉ks:=fun q=>by grind
   grind[uY]
 ·by_cases hm:i∈ks;·have MY:=zb_ i hm;obtain⟨a,ha,rfl⟩:=mem i hm;rw[q2 a ha];have hb:=hs.bd bH (by omega) (by omega) ⟨zc.1,zc.2.1⟩ ⟨zc.2.2.1,zc.2.2.2⟩ (((k:Int)+1)*100000000) (by omega) (by omega) (by omega) a ha;show-(((aP ks a:Nat):Int)+1)*100000000<=R0 a/\_;show _<=R0 a/\R0 a<=_/\_<=R1 a/\R1 a<=_/\0<=R2 a/\R2 a<=100000/\0<=R3 a/\R3 a<=100000;omega
  ·rw[q1 i hm];have hb:=hp.bd i hi;grind
theorem sG{f g}  c  :∀k,(∀j,j<k->f j=g j)->cm f c k=cm g c k
 |0,_=>rfl
 |k+1,h=>by rw[lH,lH,sG c k (fun j hj=>h j (by omega)),h k (by omega)]
theorem bW.uniq{kd a4 a5 a6}{L}{ks}{Wd}{H}{x y w h of rm}{R0 R1 R2 R3 S0 S1 S2 S3}(s:bW kd a4 a5 a6 L ks Wd H x y w h of rm R0 R1 R2 R3)(s':bW kd a4 a5 a6 L ks Wd H x y w h of rm S0 S1 S2 S3)  j  (hj:j<ks.length):
 R0 j=S0 j/\R1 j=S1 j/\R2 j=S2 j/\R3 j=S3 j:=by
 have bG:ks≠[]:=fun e=>by grind
 by_cases h0:kd=0;·obtain⟨G,g1,_,g3⟩:=s.row h0;obtain⟨G',Sn,_,g3'⟩:=s'.row h0;have hu:=(g1.resolve_left bG).uniq (Sn.resolve_left bG);grind[sG,cl]
 ·by_cases h1:kd=1;·obtain⟨G,g1,_,g3⟩:=s.col h1;obtain⟨G',Sn,_,g3'⟩:=s'.col h1;have hu:=(g1.resolve_left bG).uniq (Sn.resolve_left bG);grind[sG,cl]
  ·by_cases h3:kd=3;·have e:=s.box h3 j hj;have f:=s'.box h3 j hj;grind[xo]
   ·by_cases h4:kd=4;·obtain⟨e0,e1,e2,e3⟩:=s.scr h4 j hj;obtain⟨f0,f1,f2,f3⟩:=s'.scr h4 j hj;omega
    ·obtain⟨e0,e1,e2,e3⟩:=s.rest h0 h1 h3 h4 j hj;obtain⟨f0,f1,f2,f3⟩:=s'.rest h0 h1 h3 h4 j hj;omega
section
variable{s:ByteArray} {L:List Nd} {Wd:Nat->Int} {H:Nat->Int->Int} {w h:Int} {aX off:Nat->Int} {sn:Nat} {P Q:Nat->Nat->Int}
theorem dV.ext89(hp:dV L Wd H w h aX off sn P L.length)(hq:dV L Wd H w h aX off sn Q L.length){i}(hi:i<L.length)(h2:P i 2=Q i 2)(h3:P i 3=Q i 3):P i 8=Q i 8/\P i 9=Q i 9:=by
 by_cases h4:(ae L i).kind=4;·obtain⟨a,b⟩:=hp.sc i hi hi h4;obtain⟨c,d⟩:=hq.sc i hi hi h4;grind
 ·obtain⟨a,b⟩:=hp.no i hi (.inr h4);obtain⟨c,d⟩:=hq.no i hi (.inr h4);omega
theorem dV.uniq(hT:dk s L)(hp:dV L Wd H w h aX off sn P L.length)(hq:dV L Wd H w h aX off sn Q L.length):∀n i,i<n->i<L.length->∀t,t<10->P i t=Q i t
 |0,i,h,_=>by omega
 |n+1,i,hn,hi=>by
  have key:∀t,t<8->P i t=Q i t:=by
   by_cases e:i=0;·subst e;obtain⟨a0,a1,a2,a3,a4,a5,a6,a7⟩:=hp.root;obtain⟨b0,b1,b2,b3,b4,b5,b6,b7⟩:=hq.root;grind
   ·obtain⟨u,k,hu,hk,hc,q_⟩:=hT.kid_of i (by omega) hi;have ih:=dV.uniq hT hp hq n u (by omega) (by omega);obtain⟨R0,R1,R2,R3,hs,oE⟩:=hp.kr u (by omega) (by omega);obtain⟨S0,S1,S2,S3,hs',zca⟩:=hq.kr u (by omega) (by omega);have mZ:=hs.congr (ih 0 (by omega)) (ih 1 (by omega)) (ih 2 (by omega)) (ih 3 (by omega)) (ih 8 (by omega)) (ih 9 (by omega));obtain⟨e0,e1,e2,e3⟩:=mZ.uniq hs' k hk;grind[uY]
  grind[dV.ext89]
end
theorem bW.size{kd a4 a5 a6:Int}{L:List Nd}{ks:List Nat}{Wd:Nat->Int}{H:Nat->Int->Int}{x y w h of rm x' y' _a:Int}{R0 R1 R2 R3 S0 S1 S2 S3:Nat->Int}(s:bW kd a4 a5 a6 L ks Wd H x y w h of rm R0 R1 R2 R3)(s':bW kd a4 a5 a6 L ks Wd H x' y' w h _a rm S0 S1 S2 S3)(j:Nat)(hj:j<ks.length):
 R2 j=S2 j/\R3 j=S3 j:=by
 have bG:ks≠[]:=fun e=>by grind
 by_cases h0:kd=0;·obtain⟨G,g1,_,g3⟩:=s.row h0;obtain⟨G',Sn,_,g3'⟩:=s'.row h0;have hu:=(g1.resolve_left bG).uniq (Sn.resolve_left bG);grind
 ·by_cases h1:kd=1;·obtain⟨G,g1,_,g3⟩:=s.col h1;obtain⟨G',Sn,_,g3'⟩:=s'.col h1;have hu:=(g1.resolve_left bG).uniq (Sn.resolve_left bG);grind
  ·by_cases h3:kd=3;·have e:=xo (s.box h3 j hj);have f:=xo (s'.box h3 j hj);grind
   ·by_cases h4:kd=4;·obtain⟨e0,e1,e2,e3⟩:=s.scr h4 j hj;obtain⟨f0,f1,f2,f3⟩:=s'.scr h4 j hj;omega
    ·obtain⟨e0,e1,e2,e3⟩:=s.rest h0 h1 h3 h4 j hj;obtain⟨f0,f1,f2,f3⟩:=s'.rest h0 h1 h3 h4 j hj;omega
section
variable{s:ByteArray} {L:List Nd} {Wd:Nat->Int} {H:Nat->Int->Int} {w h:Int} {aX off idg ofg:Nat->Int} {sn sm:Nat} {P Q:Nat->Nat->Int}
theorem dV.size(hT:dk s L)(hp:dV L Wd H w h aX off sn P L.length)(hq:dV L Wd H w h idg ofg sm Q L.length):∀n i,i<n->i<L.length->P i 2=Q i 2/\P i 3=Q i 3/\P i 9=Q i 9
 |0,i,h,_=>by omega
 |n+1,i,hn,hi=>by
  have key:P i 2=Q i 2/\P i 3=Q i 3:=by
   by_cases e:i=0;·subst e;obtain⟨a0,a1,a2,a3,a4,a5,a6,a7⟩:=hp.root;obtain⟨b0,b1,b2,b3,b4,b5,b6,b7⟩:=hq.root;omega
   ·obtain⟨u,k,hu,hk,hc,q_⟩:=hT.kid_of i (by omega) hi;obtain⟨i2,i3,i9⟩:=dV.size hT hp hq n u (by omega) (by omega);obtain⟨R0,R1,R2,R3,hs,oE⟩:=hp.kr u (by omega) (by omega);obtain⟨S0,S1,S2,S3,hs',zca⟩:=hq.kr u (by omega) (by omega);have mZ:=hs.congr rfl rfl i2 i3 rfl i9;have e1:=mZ.size hs' k hk;grind[uY]
  refine⟨key.1,key.2,?_⟩;by_cases h4:(ae L i).kind=4;·obtain⟨a,b⟩:=hp.sc i hi hi h4;obtain⟨c,d⟩:=hq.sc i hi hi h4;rw[a,c,key.1,key.2]
  ·obtain⟨a,b⟩:=hp.no i hi (.inr h4);obtain⟨c,d⟩:=hq.no i hi (.inr h4);omega
end
theorem yo  a  :∀m,cS (fun _=>a) m=a*m
 |0=>rfl
 |m+1=>by show cS (fun _=>a) m+a=_;rw[yo a m,Nat.mul_succ]
theorem wZ{s}{L}{KV}{Wd}{H}  mb r g al wb nn  (hT:dk s L) (hS:Sz L Wd H)  i  (hi:i<L.length)  p   c  (uJ:KV i=.slice p (ae L i).kids.length c)  x y w h c0 c1 c2 c3 of rm   U  (hU:Hs U mb r g al wb L KV Wd H nn) (hn:nn<=10000000)
 (hx:-1000000000000<=x/\x<=1000000000000) (hy:-1000000000000<=y/\y<=1000000000000) (hw:0<=w/\w<=100000) (hh:0<=h/\h<=100000) (OO:0<=of/\of<=100000) (CU:0<=rm/\rm<=100000):
 Cw 58 #[Pq mb,ik (ae L i).kind (aC (ae L i) 0) (aC (ae L i) 1) (aC (ae L i) 2) (aC (ae L i) 3) (aC (ae L i) 4) (aC (ae L i) 5) (aC (ae L i) 6) (aC (ae L i) 7) (aC (ae L i) 8) (aC (ae L i) 9) (aC (ae L i) 10) (aC (ae L i) 11) ⟨(ae L i).text.toArray⟩ (.slice p (ae L i).kids.length c) (ae L i).up,.agg #[Iq x,Iq y,Iq w,Iq h,Iq c0,Iq c1,Iq c2,Iq c3,Iq of,Iq rm]] U fun e U'=>jp U U' r (ae L i).kids.length H (nn+10000) (bW (ae L i).kind (aC (ae L i) 4) (aC (ae L i) 5) (aC (ae L i) 6) L (ae L i).kids Wd H x y w h of rm) e:=by
 have hbd:=(hT.vl.nv i hi).bd;have hc:=hT.vl.cnt;have dD:=hT.kids_le hi;have oU:gm U r p (ae L i).kids.length (fun t=>(aP (ae L i).kids t:Int)):=by obtain⟨p',c',e,hk⟩:=hU.view.kid i hi;rw[uJ]at e;injection e with e1 e2 e3;rw[e1];exact hk
 have ZE:=yo 100;refine(tX mb r nn _ L _ Wd H _ _ _ _ _ _ _ _ _ _ _ _ _ _ _ p c x y w h c0 c1 c2 c3 of rm U rfl (by omega) hU.memo hx hy hw hh (by omega) (by omega) OO CU (fun _ u hu Gu=>?_) (fun _ u hu Gu=>?_)).mono fun e U' h=>h.mono (by omega);·refine(oa mb r g al wb nn L (ae L i).kids KV Wd H _ _ _ _ _ _ _ _ _ _ _ _ _ _ _ p c u (hU.view.grown (ac hu)) Gu (by omega) (fun j hj=>(de hT hi hj).2) (by omega) (oU.grown (ac hu)) (fun j hj=>hS.wb j hj)).mono ?_;rintro e u' ⟨v,q0,lb,q1,q2,q3,q4,q5⟩;exact⟨v,q0,lb,q1,q2,q3,q4,q5.mono (by omega)⟩
 ·rw[<-ZE];exact wy mb r g al wb nn w L (ae L i).kids (fun _=>100) KV Wd H _ _ _ _ _ _ _ _ _ _ _ _ _ _ _ p c u (hU.view.grown (ac hu)) Gu (by omega) (fun j hj=>(de hT hi hj).2) (by omega) (oU.grown (ac hu)) (fun j v hj=>hS.hb j v hj) (fun j u' n' hj hu' OM Vd=>by have hk:=de hT hi hj;rw[ZE]at Vd⊢;refine(rY mb r g al wb hT hS _ w n' u' hk.2 hw.1 hw.2 (hU.grown ((ac hu).trans hu') OM) (by omega)).mono ?_;rintro e u2 ⟨rfl,q1,q2⟩;exact⟨rfl,q1,q2.mono (by omega)⟩)
theorem Lk{U0 W}{r pb N n}{P}{H}(h:Pw U0 W r pb N P H n)(j5:U0.heap.size<=pb)(bG:pb≠r)  cc   v   v0 v1 v2 v3 v4 v5 v6 v7 v8 v9  (e0:v0=v 0) (e1:v1=v 1) (e2:v2=v 2) (e3:v3=v 3) (e4:v4=v 4) (e5:v5=v 5) (e6:v6=v 6) (e7:v7=v 7) (e8:v8=v 8) (e9:v9=v 9):Pw U0 ((((((((((W.setCell (az pb (cc*10)) (Iq v0)).setCell (az pb (cc*10+1)) (Iq v1)).setCell (az pb (cc*10+2)) (Iq v2)).setCell (az pb (cc*10+3)) (Iq v3)).setCell (az pb (cc*10+4)) (Iq v4)).setCell (az pb (cc*10+5)) (Iq v5)).setCell (az pb (cc*10+6)) (Iq v6)).setCell (az pb (cc*10+7)) (Iq v7)).setCell (az pb (cc*10+8)) (Iq v8)).setCell (az pb (cc*10+9)) (Iq v9)) r pb N (u_ P cc v) H n:=by
 have hh:=(((((((((h.set j5 bG cc 0 (by omega) v0).set j5 bG cc 1 (by omega) v1).set j5 bG cc 2 (by omega) v2).set j5 bG cc 3 (by omega) v3).set j5 bG cc 4 (by omega) v4).set j5 bG cc 5 (by omega) v5).set j5 bG cc 6 (by omega) v6).set j5 bG cc 7 (by omega) v7).set j5 bG cc 8 (by omega) v8).set j5 bG cc 9 (by omega) v9;refine⟨hh.g,hh.m,hh.row.congr fun q hq=>?_⟩;unfold j6 u_ bj;refine congrArg (Value.int .i64) ?_;by_cases e:q/10=cc
 ·rw[if_pos e];have:q %10=0\/q %10=1\/q %10=2\/q %10=3\/q %10=4\/q %10=5\/q %10=6\/q %10=7\/q %10=8\/q %10=9:=by omega
  grind
 grind
theorem pZ(w:World)  N   T  :(w.alloc (.cells (madeCells #[Iq 0,Iq 0,Iq 0,Iq 0,Iq 0,Iq 0,Iq 0,Iq 0,Iq 0,Iq 0] (N*10)) T)).rowIs w.heap.size T (N*10) (j6 fun _ _=>0):=by
 have:=World.rowIs_alloc w (madeCells #[Iq 0,Iq 0,Iq 0,Iq 0,Iq 0,Iq 0,Iq 0,Iq 0,Iq 0,Iq 0] (N*10)) T (j6 fun _ _=>0) (fun i hi=>by
  rw[size_madeCells]at hi;unfold j6;simp only[madeCells];have:i %10=0\/i %10=1\/i %10=2\/i %10=3\/i %10=4\/i %10=5\/i %10=6\/i %10=7\/i %10=8\/i %10=9:=by omega
  rcases this with e|e|e|e|e|e|e|e|e|e<;>simp[e,hi]);rw[size_madeCells]at this;omega
theorem Tz:(prog.info? 76).map (fun i=>(i.zero,i.size,i.bytes))=some (some (.agg #[Iq 0,Iq 0,Iq 0,Iq 0,Iq 0,Iq 0,Iq 0,Iq 0,Iq 0,Iq 0]),10,80):=by kernel_rfl
def We(U U':World)(r N:Nat)(L:List Nd)(Wd:Nat->Int)(H:Nat->Int->Int)(w h:Int)(aX off:Nat->Int)(sn:Nat)(e:Ending):Prop:=∃pb P,e=Rw (Sq pb N N)/\U'.rowIs pb 76 (N*10) (j6 P)/\dV L Wd H w h aX off sn P N/\U.grownBy U' (some r)/\U.heap.size<=pb
def _b(w h:Int)(t:Nat):Int:=if t=2\/t=6 then w else if t=3\/t=7 then h else 0
def tw(u:World)(pb o:Nat)(x0 x1 x2 x3 x4 x5 x6 x7 x8 x9:Int):World:=((((((((((u.setCell (az pb o) (Iq x0)).setCell (az pb (o+1)) (Iq x1)).setCell (az pb (o+2)) (Iq x2)).setCell (az pb (o+3)) (Iq x3)).setCell (az pb (o+4)) (Iq x4)).setCell (az pb (o+5)) (Iq x5)).setCell (az pb (o+6)) (Iq x6)).setCell (az pb (o+7)) (Iq x7)).setCell (az pb (o+8)) (Iq x8)).setCell (az pb (o+9)) (Iq x9))
theorem E6{u}{pb o}{x0 x1 x2 x3 x4 x5 x6 x7 x8 x9}  b' o'  (h:b'≠pb\/o'<o\/o+9<o'):(tw u pb o x0 x1 x2 x3 x4 x5 x6 x7 x8 x9).cell? (az b' o')=u.cell? (az b' o'):=by
 unfold tw;iterate 10 rw[dX]
 all_goals grind
theorem PU{u}{pb o}{x0 x1 x2 x3 x4 x5 x6 x7 x8 x9}  b'  (h:b'≠pb):(tw u pb o x0 x1 x2 x3 x4 x5 x6 x7 x8 x9).heap[b']?=u.heap[b']?:=by unfold tw;iterate 10 rw[cF _ (az pb _) _ _ h]
theorem Ds{s:ByteArray}{L:List Nd}{KV:Nat->Value}{Wd:Nat->Int}{H:Nat->Int->Int}(mb r g al wb:Nat)(hT:dk s L)(hS:Sz L Wd H)(w h:Int)(sp:Option Addr)(sn sc:Nat)(aX off:Nat->Int)(U:World)(hU:Hs U mb r g al wb L KV Wd H 0)(hw:1<=w/\w<=400)(hh:1<=h/\h<=400)(hsc:pH U sp sn aX off)(EG:sn<=4611686018427387904)(hsp:∀a:Addr,sp=some a->a.block<U.heap.size):
 Cw 36 #[Pq mb,Iq w,Iq h,.slice sp sn sc] U fun e U'=>We U U' r L.length L Wd H w h aX off sn e:=by
 have oV:prog.follows .mixedOrders=true:=by kernel_rfl
 obtain⟨N,hN⟩:=aj L.length;have hc:=hT.vl.cnt;have dL:=hT.pos;have W9:N<=100:=by omega
 obtain⟨i0,hi,eK,fZ,iD⟩:=info_parts Tz;have gR:∀W:World,(Instr.makeSlice 68 (Iq (N:Int)) (Iq (N:Int))).run prog W=.ok (Sq W.heap.size N N) (W.alloc (.cells (madeCells #[Iq 0,Iq 0,Iq 0,Iq 0,Iq 0,Iq 0,Iq 0,Iq 0,Iq 0,Iq 0] (N*10)) 76)):=fun W=>by have:=run_make (P:=prog) W 68 76 i0 _ underlying68 hi eK .i64 .i64 N N (by omega) (jL _) (by grind) (by omega);rw[fZ,oy]at this;exact this
 clear hi eK fZ iD;obtain⟨A,hA⟩:=aj U.heap.size;obtain⟨pb,j5⟩:=aj (A+1);have oW:=hU.view.ms;rw[hN]at oW;have Um:Hid (∀u,U.grownBy u (some r)->u.cell? (az mb 0)=some (Sq g N al)):=fun u hu=>by have:=(hu.block mb hU.view.ml (fun e=>hU.view.mr (by grind))).trans oW;rw[Lib.cell_of_heap this];rfl
 have m0:=Um U (ac (ag _ _));have nx:=hU.memo.lt;have Ij:pb≠r:=by omega
 have ZR:U.heap.size<=pb:=by omega
 have HU:Hid (Hs U mb r g al wb L KV Wd H 0):=hU;obtain⟨W2,Ig⟩:=aj ((U.alloc (.cells #[Iq 0,Iq 0,Iq w,Iq h] 74)).alloc (.cells (madeCells #[Iq 0,Iq 0,Iq 0,Iq 0,Iq 0,Iq 0,Iq 0,Iq 0,Iq 0,Iq 0] (N*10)) 76));have HB2:Hid (Bt U W2):=by rw[<-Ig];exact(((Gr.refl U).alloc _).alloc _).below
 have mZ:W2.heap[A]?=some (.cells #[Iq 0,Iq 0,Iq w,Iq h] 74 (0,0)):=by rw[<-Ig,<-hA,fC _ _ _ (by rw[aO];omega)];exact heap_alloc_new _ _
 have hr2:W2.rowIs pb 76 (N*10) (j6 fun _ _=>0):=by have:=pZ (U.alloc (.cells #[Iq 0,Iq 0,Iq w,Iq h] 74)) N 76;rw[aO,hA,j5,Ig]at this;exact this
 have tF:Hid (Pw U W2 r pb N (fun _ _=>0) H 0):=⟨ac HB2,hU.memo.grown_below HB2,hr2⟩;have h_:Hid (Pw U ((((((((((W2.setCell (az pb 0) (Iq 0)).setCell (az pb 1) (Iq 0)).setCell (az pb 2) (Iq w)).setCell (az pb 3) (Iq h)).setCell (az pb 4) (Iq 0)).setCell (az pb 5) (Iq 0)).setCell (az pb 6) (Iq w)).setCell (az pb 7) (Iq h)).setCell (az pb 8) (Iq 0)).setCell (az pb 9) (Iq 0)) r pb N (u_ (fun _ _=>0) 0 (_b w h)) H 0):=Lk tF ZR Ij 0 (_b w h) 0 0 w h 0 0 w h 0 0 rfl rfl rfl rfl rfl rfl rfl rfl rfl rfl;have HPL:Hid (dV L Wd H w h aX off sn (u_ (fun _ _=>0) 0 (_b w h)) 0):=by
  have e0:∀i t,i≠0->u_ (fun _ _=>0) 0 (_b w h) i t=0:=fun i t hi=>if_neg hi;refine⟨⟨rfl,rfl,rfl,rfl,rfl,rfl,rfl,rfl⟩,fun i _ hi=>by omega,fun i _ _=>?_,fun i _ hi=>by omega,fun i _=>?_⟩
  ·by_cases e:i=0;·subst e;exact⟨rfl,rfl⟩
   grind
  ·by_cases e:i=0;·subst e;show _<=(0:Int)/\(0:Int)<=_/\_<=(0:Int)/\(0:Int)<=_/\0<=w/\w<=100000/\0<=h/\h<=100000;omega
   grind
 have c0:W2.cell? (az A 0)=some (Iq 0):=by rw[Lib.cell_of_heap mZ];rfl
 have c1:W2.cell? (az A 1)=some (Iq 0):=by rw[Lib.cell_of_heap mZ];rfl
 have c2:W2.cell? (az A 2)=some (Iq w):=by rw[Lib.cell_of_heap mZ];rfl
 have c3:W2.cell? (az A 3)=some (Iq h):=by rw[Lib.cell_of_heap mZ];rfl
 have m2:=Um W2 (ac HB2);have MW:=fun j=>hr2.frozen j;have d0:W2.cell? (az pb 0)=some (Iq 0):=hr2.cell (by omega);have d1:W2.cell? (az pb 1)=some (Iq 0):=hr2.cell (by omega);have d2:W2.cell? (az pb 2)=some (Iq 0):=hr2.cell (by omega);have d3:W2.cell? (az pb 3)=some (Iq 0):=hr2.cell (by omega);have d4:W2.cell? (az pb 4)=some (Iq 0):=hr2.cell (by omega);have d5:W2.cell? (az pb 5)=some (Iq 0):=hr2.cell (by omega);have d6:W2.cell? (az pb 6)=some (Iq 0):=hr2.cell (by omega);have d7:W2.cell? (az pb 7)=some (Iq 0):=hr2.cell (by omega);have d8:W2.cell? (az pb 8)=some (Iq 0):=hr2.cell (by omega);have d9:W2.cell? (az pb 9)=some (Iq 0):=hr2.cell (by omega);have BF:=hr2.lt;have XT:(0:Int)<(N:Int):=by omega
 have zjS:¬pb=mb:=by have:=HU.view.ml;omega
 have zjT:¬mb=pb:=by omega
 have zjU:¬A=pb:=by omega
 have zjW:¬mb=A:=by have:=HU.view.ml;omega
 have zjX:mb<A:=by have:=HU.view.ml;omega
 have zjV:¬pb=A:=by omega
 have Ux:Hid (U.heap.size=A/\A+1=pb):=⟨hA,j5⟩;clear oW mZ hr2 hU;go_enter func36,ntmps36;go_upto_region 3 with fail;clear Ig hA gR j5 m0;go_wp2_with fail;go_loopw[34] (fun iv wr=>∃(i:Nat) (P:Nat->Nat->Int),i<=N/\iv=Iq (i:Int)/\Hid (Pw U wr r pb N P H (20000*i))/\Hid (dV L Wd H w h aX off sn P i)) (fun iv _=>N-(intOf iv).toNat);case atStart=>grind
 case round=>
  obtain⟨i,P,hiN,rfl,HP,HL⟩:=hrel;clear c0 c1 c2 c3 m2 MW d0 d1 d2 d3 d4 d5 d6 d7 d8 d9 BF tF h_ HPL;by_cases hlt:i<N
  ·have aK:(i:Int)<(N:Int):=by omega
   have mW:i<L.length:=by omega
   have WY:∀u n,U.grownBy u (some r)->bu u r H n->Hs u mb r g al wb L KV Wd H n:=fun u n hg hm=>HU.grown hg hm;obtain⟨p,c,uJ,oU⟩:=HU.view.kid i mW;have jk:=nU (HU.view.len i mW) (KV i);have gS:=HU.view.nd i mW;rw[jk,uJ]at gS;have iU:=HU.view.gl;have fQ:=HU.view.gr;have hbd:=HL.bd i mW;have hbN:((i:Int)+1)*100000000<=10000000000:=by omega
   have XN:=HL.no i mW (.inl (ai _));have dD:=hT.kids_le mW;have Gs:=HP.out;have KR:Hid (∀u n (of rm c0 c1 c2 c3:Int),U.grownBy u (some r)->bu u r H n->n<=10000000->(0<=of/\of<=100000)->(0<=rm/\rm<=100000)->Cw 58 #[Pq mb,ik (ae L i).kind (aC (ae L i) 0) (aC (ae L i) 1) (aC (ae L i) 2) (aC (ae L i) 3) (aC (ae L i) 4) (aC (ae L i) 5) (aC (ae L i) 6) (aC (ae L i) 7) (aC (ae L i) 8) (aC (ae L i) 9) (aC (ae L i) 10) (aC (ae L i) 11) ⟨(ae L i).text.toArray⟩ (.slice p (ae L i).kids.length c) (ae L i).up,.agg #[Iq (P i 0),Iq (P i 1),Iq (P i 2),Iq (P i 3),Iq c0,Iq c1,Iq c2,Iq c3,Iq of,Iq rm]] u fun e u'=>jp u u' r (ae L i).kids.length H (n+10000) (bW (ae L i).kind (aC (ae L i) 4) (aC (ae L i) 5) (aC (ae L i) 6) L (ae L i).kids Wd H (P i 0) (P i 1) (P i 2) (P i 3) of rm) e):=fun u n of rm c0 c1 c2 c3 hg hm hn OO CU=>
    wZ mb r g al wb n hT hS i mW p c uJ (P i 0) (P i 1) (P i 2) (P i 3) c0 c1 c2 c3 of rm u (WY u n hg hm) hn (by omega) (by omega) ⟨hbd.2.2.2.2.1,hbd.2.2.2.2.2.1⟩ ⟨hbd.2.2.2.2.2.2.1,hbd.2.2.2.2.2.2.2⟩ OO CU;have un:Hid ((ae L i).kind=4->∀u,Pw U u r pb N P H (20000*i)->Cw 57 #[Pq mb,.pointer (some (az pb (i*10))),ik 4 (aC (ae L i) 0) (aC (ae L i) 1) (aC (ae L i) 2) (aC (ae L i) 3) (aC (ae L i) 4) (aC (ae L i) 5) (aC (ae L i) 6) (aC (ae L i) 7) (aC (ae L i) 8) (aC (ae L i) 9) (aC (ae L i) 10) (aC (ae L i) 11) ⟨(ae L i).text.toArray⟩ (.slice p (ae L i).kids.length c) (ae L i).up,.slice sp sn sc] u fun e u'=>e=Rw (.tuple #[])/\Pw U u' r pb N (bj (bj P i 9 (dt (H (aP (ae L i).kids 0) (P i 2)) (P i 3))) i 8 (min (max 0 (fw (aC (ae L i) 0) aX off sn)) (dt (H (aP (ae L i).kids 0) (P i 2)) (P i 3)))) H (20000*i+100)/\Hid (∀b,b<u.heap.size->b≠r->b≠pb->u'.heap[b]?=u.heap[b]?)):=fun h4 u hu=>by
    have Gl:(ae L i).kids.length=1:=by
     rcases hT.kidok i mW with q|⟨_,_,q⟩|⟨q,_⟩;·omega
     ·exact q
     ·omega
    have hkd:=de hT mW (j:=0) (by omega);refine DE mb r pb N i (aP (ae L i).kids 0) (20000*i) P H (aC (ae L i) 0) (aC (ae L i) 1) (aC (ae L i) 2) (aC (ae L i) 3) (aC (ae L i) 4) (aC (ae L i) 5) (aC (ae L i) 6) (aC (ae L i) 7) (aC (ae L i) 8) (aC (ae L i) 9) (aC (ae L i) 10) (aC (ae L i) 11) (ae L i).up ⟨(ae L i).text.toArray⟩ p (ae L i).kids.length c sp sn sc aX off U u hu ZR Ij hlt (by omega) (by omega) ?_ (hS.hb _ _ hkd.2) ⟨hbd.2.2.2.2.2.2.1,hbd.2.2.2.2.2.2.2⟩ (fun v hv=>rY mb r g al wb hT hS _ _ _ v hkd.2 hbd.2.2.2.2.1 hbd.2.2.2.2.2.1 (WY v _ hv.g hv.m) (by omega)) (fun v P' n' hv=>?_);·obtain⟨b,o,e,q1,q2,q3⟩:=oU.resolve_left (by omega);exact⟨b,o,e,q1,q2,by have:=q3 0 (by omega);exact this⟩
    ·refine(Dl (aC (ae L i) 0) sp sn sc aX off v ((hsc.kept HU.memo hv.g)) EG (fun a e=>bn (hsp a e) hv.g.size)).mono ?_;rintro e v' ⟨rfl,q⟩;exact⟨rfl,q⟩
   have ya:Hid (∀j,j<(ae L i).kids.length->i<aP (ae L i).kids j/\aP (ae L i).kids j<N):=fun j hj=>by have:=de hT mW hj;omega
   have YR:Hid ((ae L i).kind=4->0<(ae L i).kids.length):=fun h4=>by rcases hT.kidok i mW with q|⟨_,_,q⟩|⟨q,_⟩<;>omega
   have _M:Hid ((ae L i).kids.length=0\/∃b o,p=some (az b o)/\b<U.heap.size/\b≠r/\∀j,j<(ae L i).kids.length->U.cell? (az b (o+j))=some (Iq (aP (ae L i).kids j:Int))):=oU;have fi:Hid (∀P1 R0 R1 R2 R3,(∀q t,¬(q=i/\(t=8\/t=9))->P1 q t=P q t)->((ae L i).kind=4->P1 i 9=dt (H (aP (ae L i).kids 0) (P i 2)) (P i 3)/\P1 i 8=min (max 0 (fw (aC (ae L i) 0) aX off sn)) (P1 i 9))->((ae L i).kind≠4->P1 i 8=0/\P1 i 9=0)->bW (ae L i).kind (aC (ae L i) 4) (aC (ae L i) 5) (aC (ae L i) 6) L (ae L i).kids Wd H (P1 i 0) (P1 i 1) (P1 i 2) (P1 i 3) (P1 i 8) (P1 i 9) R0 R1 R2 R3->dV L Wd H w h aX off sn (ES P1 i (ae L i).kids R0 R1 R2 R3 (ae L i).kids.length) (i+1)):=fun P1 R0 R1 R2 R3 q1 q2 q3 q4=>HL.step hT hS mW q1 q2 q3 q4;generalize ZL:(ae L i).kind=kn at gS KR un fi YR;generalize(ae L i).kids=ks at gS KR un fi ya _M YR dD;generalize(ae L i).up=up at gS KR un;generalize(ae L i).text.toArray=Yw at gS KR un;generalize aC (ae L i) 0=a0 at gS KR un fi;generalize aC (ae L i) 1=a1 at gS KR un fi;generalize aC (ae L i) 2=a2 at gS KR un fi;generalize aC (ae L i) 3=a3 at gS KR un fi;generalize aC (ae L i) 4=a4 at gS KR un fi;generalize aC (ae L i) 5=a5 at gS KR un fi;generalize aC (ae L i) 6=a6 at gS KR un fi;generalize aC (ae L i) 7=a7 at gS KR un fi;generalize aC (ae L i) 8=a8 at gS KR un fi;generalize aC (ae L i) 9=a9 at gS KR un fi;generalize aC (ae L i) 10=b0 at gS KR un fi;generalize aC (ae L i) 11=b1 at gS KR un fi;obtain⟨tx,zk⟩:∃z:ByteArray,⟨Yw⟩=z:=⟨_,rfl⟩;rw[zk]at gS KR un;obtain⟨m,hm⟩:=aj ks.length;rw[hm]at gS KR un fi ya _M YR dD;obtain⟨kd,hkd⟩:∃z:Int,(kn:Int)=z:=⟨_,rfl⟩;rw[hkd]at gS KR fi;have HQ:Hid (∀u,U.grownBy u (some r)->∀(t:Nat) x,[Iq kd,Iq a0,Iq a1,Iq a2,Iq a3,Iq a4,Iq a5,Iq a6,Iq a7,Iq a8,Iq a9,Iq b0,Iq b1,.string tx,.slice p m c,Iq up][t]?=some x->u.cell? (az g (i*16+t))=some x):=fun u hu t x ht=>(bU (a:=(az g (i*16+t))) (hu.block g iU (fun e=>fQ (by injection e)))).trans (gS t x ht);have q0:wr.cell? (az g (i*16))=some (Iq kd):=HQ wr HP.g 0 _ rfl;have q1:=HQ wr HP.g 1 _ rfl;have q2:=HQ wr HP.g 2 _ rfl;have q3:=HQ wr HP.g 3 _ rfl;have q4:=HQ wr HP.g 4 _ rfl;have q5:=HQ wr HP.g 5 _ rfl;have q6:=HQ wr HP.g 6 _ rfl;have q7:=HQ wr HP.g 7 _ rfl;have q8:=HQ wr HP.g 8 _ rfl;have q9:=HQ wr HP.g 9 _ rfl;have q10:=HQ wr HP.g 10 _ rfl;have q11:=HQ wr HP.g 11 _ rfl;have q12:=HQ wr HP.g 12 _ rfl;have q13:=HQ wr HP.g 13 _ rfl;have q14:=HQ wr HP.g 14 _ rfl;have q15:=HQ wr HP.g 15 _ rfl;obtain⟨W1,cE⟩:=aj (wr.alloc (.cells #[Iq kd,Iq a0,Iq a1,Iq a2,Iq a3,Iq a4,Iq a5,Iq a6,Iq a7,Iq a8,Iq a9,Iq b0,Iq b1,.string tx,.slice p m c,Iq up] 100));obtain⟨An,hAn⟩:=aj wr.heap.size;have bY:W1.heap[An]?=some (.cells #[Iq kd,Iq a0,Iq a1,Iq a2,Iq a3,Iq a4,Iq a5,Iq a6,Iq a7,Iq a8,Iq a9,Iq b0,Iq b1,.string tx,.slice p m c,Iq up] 100 (0,0)):=by rw[<-cE,<-hAn];exact heap_alloc_new _ _
   have HB1:Hid (Bt wr W1):=by rw[<-cE];exact((Gr.refl wr).alloc _).below
   have Bo:Hid (Pw U W1 r pb N P H (20000*i)):=HP.below HB1;have WU:An≠r:=by have:=HP.m.lt;omega
   have hpA:pb<An:=by rw[<-hAn];exact HP.row.lt
   have Nr:Hid (∀u:World,u.heap[An]?=some (.cells #[Iq kd,Iq a0,Iq a1,Iq a2,Iq a3,Iq a4,Iq a5,Iq a6,Iq a7,Iq a8,Iq a9,Iq b0,Iq b1,.string tx,.slice p m c,Iq up] 100 (0,0))->u.cell? (az An 0)=some (Iq kd)/\u.cell? (az An 1)=some (Iq a0)/\u.cell? (az An 2)=some (Iq a1)/\u.cell? (az An 3)=some (Iq a2)/\u.cell? (az An 4)=some (Iq a3)/\u.cell? (az An 5)=some (Iq a4)/\u.cell? (az An 6)=some (Iq a5)/\u.cell? (az An 7)=some (Iq a6)/\u.cell? (az An 8)=some (Iq a7)/\u.cell? (az An 9)=some (Iq a8)/\u.cell? (az An 10)=some (Iq a9)/\u.cell? (az An 11)=some (Iq b0)/\u.cell? (az An 12)=some (Iq b1)/\u.cell? (az An 13)=some (.string tx)/\u.cell? (az An 14)=some (.slice p m c)/\u.cell? (az An 15)=some (Iq up)):=fun u hu=>by refine⟨?_,?_,?_,?_,?_,?_,?_,?_,?_,?_,?_,?_,?_,?_,?_,?_⟩<;>(rw[Lib.cell_of_heap hu];rfl)
   obtain⟨z0,z1,z2,z3,z4,z5,z6,z7,z8,z9,P7,P8,P9,M_,P_,Qa⟩:=Nr W1 bY;have cH:Hid (W1.heap[An]?=some (.cells #[Iq kd,Iq a0,Iq a1,Iq a2,Iq a3,Iq a4,Iq a5,Iq a6,Iq a7,Iq a8,Iq a9,Iq b0,Iq b1,.string tx,.slice p m c,Iq up] 100 (0,0))):=bY;have ID:Hid ((ae L i).kind=kn/\(kn:Int)=kd):=⟨ZL,hkd⟩;have iW:Hid (-(((i:Int)+1)*100000000)<=P i 0/\P i 0<=((i:Int)+1)*100000000/\-(((i:Int)+1)*100000000)<=P i 1/\P i 1<=((i:Int)+1)*100000000/\0<=P i 2/\P i 2<=100000/\0<=P i 3/\P i 3<=100000):=hbd;have VL:Hid (P i 8=0/\P i 9=0):=XN;have HN1:Hid (N<=100/\L.length=N):=⟨W9,hN⟩;have xH:Hid (ks.length=m):=hm;clear bY gS jk uJ oU iU fQ WY Gs zk ZL hkd hbd XN hbN hm;go_upto_if 41 with fail;go_cut[48]from 42 to 47 (fun _ wx=>∃P1,Hid (Pw U wx r pb N P1 H (20000*i+100))/\Hid (∀q t,¬(q=i/\(t=8\/t=9))->P1 q t=P q t)/\Hid ((kn=4->P1 i 9=dt (H (aP ks 0) (P i 2)) (P i 3)/\P1 i 8=min (max 0 (fw a0 aX off sn)) (P1 i 9))/\(kn≠4->P1 i 8=0/\P1 i 9=0))/\Hid (wx.heap[An]?=some (.cells #[Iq kd,Iq a0,Iq a1,Iq a2,Iq a3,Iq a4,Iq a5,Iq a6,Iq a7,Iq a8,Iq a9,Iq b0,Iq b1,.string tx,.slice p m c,Iq up] 100 (0,0))));case first=>
    by_cases h4:kn=4
    ·have hk4:kd=4:=by have:=ID.2;omega
     subst hk4;have SC1:Hid (∀u,(u=W1\/u=W1.drew)->Cw 57 #[Pq mb,.pointer (some (az pb (i*10))),ik 4 a0 a1 a2 a3 a4 a5 a6 a7 a8 a9 b0 b1 tx (.slice p m c) up,.slice sp sn sc] u fun e u'=>e=Rw (.tuple #[])/\u'.heap[An]?=some (.cells #[Iq 4,Iq a0,Iq a1,Iq a2,Iq a3,Iq a4,Iq a5,Iq a6,Iq a7,Iq a8,Iq a9,Iq b0,Iq b1,.string tx,.slice p m c,Iq up] 100 (0,0))/\Hid (Pw U u' r pb N (bj (bj P i 9 (dt (H (aP ks 0) (P i 2)) (P i 3))) i 8 (min (max 0 (fw a0 aX off sn)) (dt (H (aP ks 0) (P i 2)) (P i 3)))) H (20000*i+100))):=fun u hu=>by
      have iY:Bt W1 u:=by
       rcases hu with rfl|rfl;·exact ag _ _
       ·exact(ag _ _).drew
      refine(un h4 u (Bo.below iY)).mono ?_;rintro e u' ⟨rfl,q1,q2⟩;have xM:=(aS.1 cH).1;exact⟨rfl,(q2 An (bn xM iY.size) WU (by omega)).trans ((iY.block An xM).trans cH),q1⟩
     have gT:Hid (∀wx,wx.heap[An]?=some (.cells #[Iq 4,Iq a0,Iq a1,Iq a2,Iq a3,Iq a4,Iq a5,Iq a6,Iq a7,Iq a8,Iq a9,Iq b0,Iq b1,.string tx,.slice p m c,Iq up] 100 (0,0))->Pw U wx r pb N (bj (bj P i 9 (dt (H (aP ks 0) (P i 2)) (P i 3))) i 8 (min (max 0 (fw a0 aX off sn)) (dt (H (aP ks 0) (P i 2)) (P i 3)))) H (20000*i+100)->∃P1,Hid (Pw U wx r pb N P1 H (20000*i+100))/\Hid (∀q t,¬(q=i/\(t=8\/t=9))->P1 q t=P q t)/\Hid ((kn=4->P1 i 9=dt (H (aP ks 0) (P i 2)) (P i 3)/\P1 i 8=min (max 0 (fw a0 aX off sn)) (P1 i 9))/\(kn≠4->P1 i 8=0/\P1 i 9=0))/\Hid (wx.heap[An]?=some (.cells #[Iq 4,Iq a0,Iq a1,Iq a2,Iq a3,Iq a4,Iq a5,Iq a6,Iq a7,Iq a8,Iq a9,Iq b0,Iq b1,.string tx,.slice p m c,Iq up] 100 (0,0)))):=fun wx hn hp=>by
      refine⟨_,hp,fun q t hq=>?_,⟨fun _=>?_,fun e=>absurd h4 e⟩,hn⟩;·unfold bj;rw[if_neg (fun e=>hq ⟨e.1,.inl e.2⟩),if_neg (fun e=>hq ⟨e.1,.inr e.2⟩)]
      ·unfold bj;simp
     unfold ik at SC1;clear cE hAn;go_wp2_with fail;go_region_held(fun W=>W.cell? (az An 0)=some (Iq 4)/\W.cell? (az An 1)=some (Iq a0)/\W.cell? (az An 2)=some (Iq a1)/\W.cell? (az An 3)=some (Iq a2)/\W.cell? (az An 4)=some (Iq a3)/\W.cell? (az An 5)=some (Iq a4)/\W.cell? (az An 6)=some (Iq a5)/\W.cell? (az An 7)=some (Iq a6)/\W.cell? (az An 8)=some (Iq a7)/\W.cell? (az An 9)=some (Iq a8)/\W.cell? (az An 10)=some (Iq a9)/\W.cell? (az An 11)=some (Iq b0)/\W.cell? (az An 12)=some (Iq b1)/\W.cell? (az An 13)=some (.string tx)/\W.cell? (az An 14)=some (.slice p m c)/\W.cell? (az An 15)=some (Iq up)) (go_keep) (first|(go_at_call 57;refine am (SC1 _ (by first|exact .inl rfl|exact .inr rfl)) ?_;rintro e u1 ⟨rfl,CY,Nt⟩;obtain⟨s0,s1,s2,s3,s4,s5,s6,s7,s8,s9,Ro,Rp,Rq,Rr,Rs,Rt⟩:=Nr u1 CY;have Y3:Hid (u1.heap[An]?=some (.cells #[Iq 4,Iq a0,Iq a1,Iq a2,Iq a3,Iq a4,Iq a5,Iq a6,Iq a7,Iq a8,Iq a9,Iq b0,Iq b1,.string tx,.slice p m c,Iq up] 100 (0,0))):=CY;clear CY));all_goals go_wp2_with fail
     all_goals go_meet
     all_goals exact gT _ Y3 Nt
    ·have e4:(kd==4)=false:=by have:=ID.2;simp;omega
     go_wp2_with fail;go_meet;exact⟨P,Bo.mono (by omega),fun _ _ _=>rfl,⟨fun e=>absurd e h4,fun _=>VL⟩,cH⟩
   case rest=>
    obtain⟨P1,IF,vP,YZ,_3⟩:=hcut;clear z0 z1 z2 z3 z4 z5 z6 z7 z8 z9 P7 P8 P9 M_ P_ Qa cE hAn;obtain⟨z0,z1,z2,z3,z4,z5,z6,z7,z8,z9,P7,P8,P9,M_,P_,Qa⟩:=Nr wc _3;obtain⟨p0,EE⟩:=aj (P1 i 0);obtain⟨p1,Gx⟩:=aj (P1 i 1);obtain⟨p2,hp2⟩:=aj (P1 i 2);obtain⟨p3,CJ⟩:=aj (P1 i 3);obtain⟨p4,XQ⟩:=aj (P1 i 4);obtain⟨p5,XR⟩:=aj (P1 i 5);obtain⟨p6,Ve⟩:=aj (P1 i 6);obtain⟨p7,XS⟩:=aj (P1 i 7);obtain⟨p8,hp8⟩:=aj (P1 i 8);obtain⟨p9,hp9⟩:=aj (P1 i 9);have _7:Hid (∀u Q,U.grownBy u (some r)->u.rowIs pb 76 (N*10) (j6 Q)->(∀t,t<10->Q i t=P1 i t)->u.cell? (az pb (i*10))=some (Iq p0)/\u.cell? (az pb (i*10+1))=some (Iq p1)/\u.cell? (az pb (i*10+2))=some (Iq p2)/\u.cell? (az pb (i*10+3))=some (Iq p3)/\u.cell? (az pb (i*10+4))=some (Iq p4)/\u.cell? (az pb (i*10+5))=some (Iq p5)/\u.cell? (az pb (i*10+6))=some (Iq p6)/\u.cell? (az pb (i*10+7))=some (Iq p7)/\u.cell? (az pb (i*10+8))=some (Iq p8)/\u.cell? (az pb (i*10+9))=some (Iq p9)):=fun u Q hg hr hq=>by
     refine⟨?_,?_,?_,?_,?_,?_,?_,?_,?_,?_⟩;·rw[<-EE,<-hq 0 (by omega)];exact aW (t:=0) hr hlt (by omega)
     ·rw[<-Gx,<-hq 1 (by omega)];exact aW hr hlt (by omega)
     ·rw[<-hp2,<-hq 2 (by omega)];exact aW hr hlt (by omega)
     ·rw[<-CJ,<-hq 3 (by omega)];exact aW hr hlt (by omega)
     ·rw[<-XQ,<-hq 4 (by omega)];exact aW hr hlt (by omega)
     ·rw[<-XR,<-hq 5 (by omega)];exact aW hr hlt (by omega)
     ·rw[<-Ve,<-hq 6 (by omega)];exact aW hr hlt (by omega)
     ·rw[<-XS,<-hq 7 (by omega)];exact aW hr hlt (by omega)
     ·rw[<-hp8,<-hq 8 (by omega)];exact aW hr hlt (by omega)
     ·rw[<-hp9,<-hq 9 (by omega)];exact aW hr hlt (by omega)
    have HE:Hid (P i 0=p0/\P i 1=p1/\P i 2=p2/\P i 3=p3/\(0<=p8/\p8<=100000)/\0<=p9/\p9<=100000):=by
     refine⟨by rw[<-vP i 0 (by omega)];exact EE,by rw[<-vP i 1 (by omega)];exact Gx,by rw[<-vP i 2 (by omega)];exact hp2,by rw[<-vP i 3 (by omega)];exact CJ,?_⟩;by_cases h4:kn=4
     ·obtain⟨r1,r2⟩:=YZ.1 h4;have uG:=iW.out;have yY:aP ks 0<L.length:=by
       rcases hT.kidok i mW with q|⟨_,_,q⟩|⟨q,_⟩;·rw[ID.1]at q;omega
       ·have h1:=YR h4;have:=ya 0 h1;omega
       ·rw[ID.1]at q;omega
      have hh3:=hS.hb (aP ks 0) (P i 2) yY;unfold dt at r1;omega
     ·obtain⟨r1,r2⟩:=YZ.2 h4;omega
    obtain⟨y0,y1,y2,y3,y4,y5,y6,y7,y8,y9⟩:=_7 wc P1 IF.g IF.row (fun _ _=>rfl);have KR1:Hid (∀u,(u=wc\/u=wc.drew)->Cw 58 #[Pq mb,ik kd a0 a1 a2 a3 a4 a5 a6 a7 a8 a9 b0 b1 tx (.slice p m c) up,.agg #[Iq p0,Iq p1,Iq p2,Iq p3,Iq p4,Iq p5,Iq p6,Iq p7,Iq p8,Iq p9]] u fun e u'=>∃q cq,e=Rw (.slice q m cq)/\u'.heap[An]?=some (.cells #[Iq kd,Iq a0,Iq a1,Iq a2,Iq a3,Iq a4,Iq a5,Iq a6,Iq a7,Iq a8,Iq a9,Iq b0,Iq b1,.string tx,.slice p m c,Iq up] 100 (0,0))/\(u'.cell? (az pb (i*10))=some (Iq p0)/\u'.cell? (az pb (i*10+1))=some (Iq p1)/\u'.cell? (az pb (i*10+2))=some (Iq p2)/\u'.cell? (az pb (i*10+3))=some (Iq p3)/\u'.cell? (az pb (i*10+4))=some (Iq p4)/\u'.cell? (az pb (i*10+5))=some (Iq p5)/\u'.cell? (az pb (i*10+6))=some (Iq p6)/\u'.cell? (az pb (i*10+7))=some (Iq p7)/\u'.cell? (az pb (i*10+8))=some (Iq p8)/\u'.cell? (az pb (i*10+9))=some (Iq p9))/\Hid (jp wc u' r m H (20000*i+100+10000) (bW kd a4 a5 a6 L ks Wd H p0 p1 p2 p3 p8 p9) (.returned (.slice q m cq)))/\Hid (Pw U u' r pb N P1 H (20000*i+10100))):=fun u hu=>by
     have iY:Bt wc u:=by
      rcases hu with rfl|rfl;·exact ag _ _
      ·exact(ag _ _).drew
     obtain⟨f0,f1,f2,f3,f4,f5⟩:=HE.out;have sa:=IF.below iY;have:=KR u (20000*i+100) p8 p9 p4 p5 p6 p7 sa.g sa.m (by have:=HN1.out;omega) f4 f5;rw[f0,f1,f2,f3]at this;refine this.mono ?_;rintro e u' ⟨q,cq,R0,R1,R2,R3,rfl,s1,s2,s3,s4⟩;have Xt:=(ac iY).trans s3;have xM:=(aS.1 _3).1;have zg:Pw U u' r pb N P1 H (20000*i+10100):=IF.grown Xt (s4.mono (by omega)) Ij;refine⟨q,cq,rfl,(Xt.block An xM (fun e=>WU (by injection e))).trans _3,_7 u' P1 zg.g zg.row (fun _ _=>rfl),⟨q,cq,R0,R1,R2,R3,rfl,s1,?_,Xt,s4⟩,zg⟩;rcases s2 with e|⟨b,e,l,hr⟩;·exact .inl e
     ·exact .inr ⟨b,e,aT iY.size l,hr⟩
    unfold ik at KR1;clear KR un cH Bo HB1;go_wp2_with fail;go_region_held(fun W=>(W.cell? (az An 0)=some (Iq kd)/\W.cell? (az An 1)=some (Iq a0)/\W.cell? (az An 2)=some (Iq a1)/\W.cell? (az An 3)=some (Iq a2)/\W.cell? (az An 4)=some (Iq a3)/\W.cell? (az An 5)=some (Iq a4)/\W.cell? (az An 6)=some (Iq a5)/\W.cell? (az An 7)=some (Iq a6)/\W.cell? (az An 8)=some (Iq a7)/\W.cell? (az An 9)=some (Iq a8)/\W.cell? (az An 10)=some (Iq a9)/\W.cell? (az An 11)=some (Iq b0)/\W.cell? (az An 12)=some (Iq b1)/\W.cell? (az An 13)=some (.string tx)/\W.cell? (az An 14)=some (.slice p m c)/\W.cell? (az An 15)=some (Iq up))/\W.cell? (az pb (i*10))=some (Iq p0)/\W.cell? (az pb (i*10+1))=some (Iq p1)/\W.cell? (az pb (i*10+2))=some (Iq p2)/\W.cell? (az pb (i*10+3))=some (Iq p3)/\W.cell? (az pb (i*10+4))=some (Iq p4)/\W.cell? (az pb (i*10+5))=some (Iq p5)/\W.cell? (az pb (i*10+6))=some (Iq p6)/\W.cell? (az pb (i*10+7))=some (Iq p7)/\W.cell? (az pb (i*10+8))=some (Iq p8)/\W.cell? (az pb (i*10+9))=some (Iq p9)) (go_keep) (first|(go_at_call 58;refine am (KR1 _ (by first|exact .inl rfl|exact .inr rfl)) ?_;rintro e u1 ⟨q,cq,rfl,CY,⟨w0,w1,w2,w3,w4,w5,w6,w7,w8,w9⟩,Ni,Nt⟩;obtain⟨s0,s1,s2,s3,s4,s5,s6,s7,s8,s9,Ro,Rp,Rq,Rr,Rs,Rt⟩:=Nr u1 CY;have Y3:Hid (u1.heap[An]?=some (.cells #[Iq kd,Iq a0,Iq a1,Iq a2,Iq a3,Iq a4,Iq a5,Iq a6,Iq a7,Iq a8,Iq a9,Iq b0,Iq b1,.string tx,.slice p m c,Iq up] 100 (0,0))):=CY;clear CY));all_goals go_wp2_with fail
    all_goals
     obtain⟨q',cq',R0,R1,R2,R3,ZU,Q9,hrow,Xt,_⟩:=Ni.out;injection ZU with ZU;injection ZU with zcB _ zcC;subst zcB;subst zcC;have VW:Hid (bW kd a4 a5 a6 L ks Wd H p0 p1 p2 p3 p8 p9 R0 R1 R2 R3):=Q9;have HROW:Hid (m=0\/∃b,q=some (az b 0)/\b≠pb/\pG u1 b m R0 R1 R2 R3):=by
      rcases hrow with e|⟨b,e,l,hr⟩;·exact .inl e
      ·exact .inr ⟨b,e,by have:=IF.row.lt;omega,hr⟩
     clear Q9 hrow Xt Ni KR1 s0 s1 s2 s3 s4 s5 s6 s7 s8 s9 Ro Rp Rq Rr Rs Rt w0 w1 w2 w3 w4 w5 w6 w7 w8 w9 z0 z1 z2 z3 z4 z5 z6 z7 z8 z9 P7 P8 P9 M_ P_ Qa y0 y1 y2 y3 y4 y5 y6 y7 y8 y9;go_loopw[57] (fun kv wr2=>∃j:Nat,j<=m/\kv=Iq (j:Int)/\Hid (Pw U wr2 r pb N (ES P1 i ks R0 R1 R2 R3 j) H (20000*i+10100))/\Hid (wr2.heap[An]?=some (.cells #[Iq kd,Iq a0,Iq a1,Iq a2,Iq a3,Iq a4,Iq a5,Iq a6,Iq a7,Iq a8,Iq a9,Iq b0,Iq b1,.string tx,.slice p m c,Iq up] 100 (0,0)))/\Hid (m=0\/∃b,q=some (az b 0)/\b≠pb/\pG wr2 b m R0 R1 R2 R3)) (fun kv _=>m-(intOf kv).toNat);case atStart=>exact⟨0,bc _,rfl,Nt,Y3,HROW⟩
     case round=>
      obtain⟨j,hj,rfl,VQ,Uo,RX⟩:=hrel;clear Nt Y3 HROW;by_cases ZM:j<m
      ·have zci:(j:Int)<(m:Int):=by omega
       obtain⟨b,rfl,SM,tN,hbc⟩:=RX.resolve_left (by omega);obtain⟨g0,g1,g2,g3⟩:=hbc j ZM;obtain⟨kb,ko,rfl,XF,XG,XE⟩:=_M.resolve_left (by omega);obtain⟨cc,hcc⟩:=aj (aP ks j);have J3:=ya j ZM;rw[hcc]at J3;obtain⟨x0,xS⟩:=aj (R0 j);obtain⟨x1,qG⟩:=aj (R1 j);obtain⟨x2,m6⟩:=aj (R2 j);obtain⟨x3,Ts⟩:=aj (R3 j);rw[xS]at g0;rw[qG]at g1;rw[m6]at g2;rw[Ts]at g3;obtain⟨k0,S9⟩:=aj (Jr x0 x1 x2 x3 p4 p5 p6 p7);obtain⟨k1,Gl⟩:=aj (Js x0 x1 x2 x3 p4 p5 p6 p7);obtain⟨k2,OK⟩:=aj (Jt x0 x1 x2 x3 p4 p5 p6 p7);obtain⟨k3,tP⟩:=aj (Ju x0 x1 x2 x3 p4 p5 p6 p7);have MY:i∉ks:=fun hmem=>by obtain⟨a,ha,e⟩:=ox.1 hmem;have h1:=ya a (by have:=xH.out;omega);unfold aP at h1;rw[dN ha,e]at h1;have h2:i<i:=h1.1;omega
       have hPi:ES P1 i ks R0 R1 R2 R3 j i=P1 i:=pq j (fun t ht=>by have:=xH.out;omega) i MY;obtain⟨W5,hW5⟩:=aj (wr.alloc (.cells #[Iq x0,Iq x1,Iq x2,Iq x3] 74));obtain⟨Ar,WW⟩:=aj wr.heap.size;have kg:Hid (Bt wr W5):=by rw[<-hW5];exact((Gr.refl wr).alloc _).below
       have hr5:W5.heap[Ar]?=some (.cells #[Iq x0,Iq x1,Iq x2,Iq x3] 74 (0,0)):=by rw[<-hW5,<-WW];exact heap_alloc_new _ _
       have WT:=(aS.1 Uo).1;have zj5:=VQ.row.lt;have _6:Hid (Pw U W5 r pb N (ES P1 i ks R0 R1 R2 R3 j) H (20000*i+10100)):=VQ.below kg;have CAP:Hid (∀u,(u=W5\/u=W5.drew)->Cw 59 #[.agg #[Iq x0,Iq x1,Iq x2,Iq x3],.agg #[Iq p4,Iq p5,Iq p6,Iq p7]] u fun e u'=>e=Rw (.agg #[Iq k0,Iq k1,Iq k2,Iq k3])/\Hid (Bt W5 u')):=fun u hu=>by
        have iY:Bt W5 u:=by
         rcases hu with rfl|rfl;·exact ag _ _
         ·exact(ag _ _).drew
        have:=N1 x0 x1 x2 x3 p4 p5 p6 p7 u;rw[uz,S9,Gl,OK,tP]at this;exact this.mono fun e u' ⟨h1,h2⟩=>⟨h1,iY.trans (h2.below.mono iY.size)⟩
       have HSU:Hid (∀u,Bt W5 u->u.cell? (az An 14)=some (.slice (some (az kb ko)) m c)/\u.cell? (az kb (ko+j))=some (Iq (cc:Int))/\u.cell? (az Ar 0)=some (Iq x0)/\u.cell? (az Ar 1)=some (Iq x1)/\u.cell? (az Ar 2)=some (Iq x2)/\u.cell? (az Ar 3)=some (Iq x3)/\u.cell? (az pb (i*10+4))=some (Iq p4)/\u.cell? (az pb (i*10+5))=some (Iq p5)/\u.cell? (az pb (i*10+6))=some (Iq p6)/\u.cell? (az pb (i*10+7))=some (Iq p7)):=fun u hu=>by
        have hbw:=kg.trans (hu.mono kg.size);have sa:=_6.below hu;have hn:=(hbw.block An WT).trans Uo;have hr:=(hu.block Ar (aS.1 hr5).1).trans hr5;have Cx:u.cell? (az kb (ko+j))=some (Iq (cc:Int)):=by rw[<-hcc];exact(bU (a:=(az kb (ko+j))) (sa.g.block kb XF (fun e=>XG (by injection e)))).trans (XE j ZM)
        have Q4:=_7 u _ sa.g sa.row (fun t _=>by rw[hPi]);obtain⟨_,_,_,_,c4,c5,c6,c7,_,_⟩:=Q4;refine⟨?_,Cx,?_,?_,?_,?_,c4,c5,c6,c7⟩;·rw[Lib.cell_of_heap hn];rfl
        ·rw[Lib.cell_of_heap hr];rfl
        ·rw[Lib.cell_of_heap hr];rfl
        ·rw[Lib.cell_of_heap hr];rfl
        ·rw[Lib.cell_of_heap hr];rfl
       have xJ:Hid (∀u,Bt W5 u->(tw u pb (cc*10) x0 x1 x2 x3 k0 k1 k2 k3 0 0).cell? (az An 14)=some (.slice (some (az kb ko)) m c)/\(tw u pb (cc*10) x0 x1 x2 x3 k0 k1 k2 k3 0 0).cell? (az kb (ko+j))=some (Iq (cc:Int))/\(tw u pb (cc*10) x0 x1 x2 x3 k0 k1 k2 k3 0 0).cell? (az Ar 0)=some (Iq x0)/\(tw u pb (cc*10) x0 x1 x2 x3 k0 k1 k2 k3 0 0).cell? (az Ar 1)=some (Iq x1)/\(tw u pb (cc*10) x0 x1 x2 x3 k0 k1 k2 k3 0 0).cell? (az Ar 2)=some (Iq x2)/\(tw u pb (cc*10) x0 x1 x2 x3 k0 k1 k2 k3 0 0).cell? (az Ar 3)=some (Iq x3)/\(tw u pb (cc*10) x0 x1 x2 x3 k0 k1 k2 k3 0 0).cell? (az pb (i*10+4))=some (Iq p4)/\(tw u pb (cc*10) x0 x1 x2 x3 k0 k1 k2 k3 0 0).cell? (az pb (i*10+5))=some (Iq p5)/\(tw u pb (cc*10) x0 x1 x2 x3 k0 k1 k2 k3 0 0).cell? (az pb (i*10+6))=some (Iq p6)/\(tw u pb (cc*10) x0 x1 x2 x3 k0 k1 k2 k3 0 0).cell? (az pb (i*10+7))=some (Iq p7)):=fun u hu=>by
        obtain⟨r0,r1,r2,r3,r4,r5,r6,r7,r8,r9⟩:=HSU u hu;have o1:∀b' o' v,b'≠pb->u.cell? (az b' o')=some v->(tw u pb (cc*10) x0 x1 x2 x3 k0 k1 k2 k3 0 0).cell? (az b' o')=some v:=fun b' o' v j4 hv=>(E6 b' o' (.inl j4)).trans hv;have o2:∀t v,t<10->u.cell? (az pb (i*10+t))=some v->(tw u pb (cc*10) x0 x1 x2 x3 k0 k1 k2 k3 0 0).cell? (az pb (i*10+t))=some v:=fun t v ht hv=>(E6 pb (i*10+t) (by omega)).trans hv;have n1:An≠pb:=by omega
        have n2:kb≠pb:=by omega
        have n3:Ar≠pb:=by omega
        exact⟨o1 _ _ _ n1 r0,o1 _ _ _ n2 r1,o1 _ _ _ n3 r2,o1 _ _ _ n3 r3,o1 _ _ _ n3 r4,o1 _ _ _ n3 r5,o2 4 _ (by omega) r6,o2 5 _ (by omega) r7,o2 6 _ (by omega) r8,o2 7 _ (by omega) r9⟩
       have IA:Hid (∀u,Bt W5 u->(∀o',u.frozen? (az pb o')=false)/\pb<u.heap.size/\(∃v,u.cell? (az pb (cc*10))=some v)/\(∃v,u.cell? (az pb (cc*10+1))=some v)/\(∃v,u.cell? (az pb (cc*10+2))=some v)/\(∃v,u.cell? (az pb (cc*10+3))=some v)/\(∃v,u.cell? (az pb (cc*10+4))=some v)/\(∃v,u.cell? (az pb (cc*10+5))=some v)/\(∃v,u.cell? (az pb (cc*10+6))=some v)/\(∃v,u.cell? (az pb (cc*10+7))=some v)/\(∃v,u.cell? (az pb (cc*10+8))=some v)/\(∃v,u.cell? (az pb (cc*10+9))=some v)):=fun u hu=>by have sa:=_6.below hu;exact⟨fun o'=>sa.row.frozen o',sa.row.lt,⟨_,aW (t:=0) sa.row J3.2 (by omega)⟩,⟨_,aW sa.row J3.2 (by omega)⟩,⟨_,aW sa.row J3.2 (by omega)⟩,⟨_,aW sa.row J3.2 (by omega)⟩,⟨_,aW sa.row J3.2 (by omega)⟩,⟨_,aW sa.row J3.2 (by omega)⟩,⟨_,aW sa.row J3.2 (by omega)⟩,⟨_,aW sa.row J3.2 (by omega)⟩,⟨_,aW sa.row J3.2 (by omega)⟩,⟨_,aW sa.row J3.2 (by omega)⟩⟩
       have gT:Hid (∀u,Bt W5 u->Pw U (tw u pb (cc*10) x0 x1 x2 x3 k0 k1 k2 k3 0 0) r pb N (ES P1 i ks R0 R1 R2 R3 (j+1)) H (20000*i+10100)/\(tw u pb (cc*10) x0 x1 x2 x3 k0 k1 k2 k3 0 0).heap[An]?=some (.cells #[Iq kd,Iq a0,Iq a1,Iq a2,Iq a3,Iq a4,Iq a5,Iq a6,Iq a7,Iq a8,Iq a9,Iq b0,Iq b1,.string tx,.slice (some (az kb ko)) m c,Iq up] 100 (0,0))/\(m=0\/∃b',some ((az b 0):Addr)=some (az b' 0)/\b'≠pb/\pG (tw u pb (cc*10) x0 x1 x2 x3 k0 k1 k2 k3 0 0) b' m R0 R1 R2 R3)):=fun u hu=>by
        have hbw:=kg.trans (hu.mono kg.size);have key:∀b',b'≠pb->(tw u pb (cc*10) x0 x1 x2 x3 k0 k1 k2 k3 0 0).heap[b']?=u.heap[b']?:=fun b' j4=>PU b' j4;refine⟨?_,(key An (by omega)).trans ((hbw.block An WT).trans Uo),.inr ⟨b,rfl,SM,?_,fun t ht=>?_⟩⟩;·have:=Lk (_6.below hu) ZR Ij cc (uY P1 i (R0 j) (R1 j) (R2 j) (R3 j)) x0 x1 x2 x3 k0 k1 k2 k3 0 0 xS.symm qG.symm m6.symm Ts.symm (by rw[<-S9,<-xS,<-qG,<-m6,<-Ts,<-XQ,<-XR,<-Ve,<-XS];rfl) (by rw[<-Gl,<-xS,<-qG,<-m6,<-Ts,<-XQ,<-XR,<-Ve,<-XS];rfl) (by rw[<-OK,<-xS,<-qG,<-m6,<-Ts,<-XQ,<-XR,<-Ve,<-XS];rfl) (by rw[<-tP,<-xS,<-qG,<-m6,<-Ts,<-XQ,<-XR,<-Ve,<-XS];rfl) rfl rfl;rw[<-hcc]at this⊢;exact this
        ·have h1:=(aS.1 (((key b SM).trans (hbw.block b tN)).trans (Mv tN))).1;exact h1
        ·obtain⟨r0,r1,r2,r3⟩:=hbc t ht;have kk:=(key b SM).trans (hbw.block b tN);exact⟨(bU (a:=(az b _)) kk).trans r0,(bU (a:=(az b _)) kk).trans r1,(bU (a:=(az b _)) kk).trans r2,(bU (a:=(az b _)) kk).trans r3⟩
       obtain⟨t0,t1,t2,t3,t4,t5,t6,t7,t8,t9⟩:=HSU W5 (ag _ _);have HAN:Hid (wr.cell? (az An 14)=some (.slice (some (az kb ko)) m c)):=by show _=_;rw[Lib.cell_of_heap Uo.out];rfl
       have zi7:(cc:Int)<(N:Int):=by omega
       clear hr5 hbc S9 Gl OK tP xS qG m6 Ts hcc hPi MY tN RX Uo VQ XF XG XE;go_wp2_with fail;clear hW5 WW g0 g1 g2 g3;go_region_held(fun W=>W.cell? (az An 14)=some (.slice (some (az kb ko)) m c)/\W.cell? (az kb (ko+j))=some (Iq (cc:Int))/\W.cell? (az Ar 0)=some (Iq x0)/\W.cell? (az Ar 1)=some (Iq x1)/\W.cell? (az Ar 2)=some (Iq x2)/\W.cell? (az Ar 3)=some (Iq x3)/\W.cell? (az pb (i*10+4))=some (Iq p4)/\W.cell? (az pb (i*10+5))=some (Iq p5)/\W.cell? (az pb (i*10+6))=some (Iq p6)/\W.cell? (az pb (i*10+7))=some (Iq p7)) (go_keep) (first|(go_at_call 59;refine am (CAP _ (by first|exact .inl rfl|exact .inr rfl)) ?_;rintro e u2 ⟨rfl,vM⟩;obtain⟨f0,f1,f2,f3,f4,f5,f6,f7,f8,f9⟩:=HSU u2 vM;have HX:=xJ u2 vM;unfold tw at HX;obtain⟨h0,h1,h2,h3,h4,h5,h6,h7,h8,h9⟩:=HX;obtain⟨Xq,zj6,⟨v0,e0⟩,⟨v1,e1⟩,⟨v2,e2⟩,⟨v3,e3⟩,⟨v4,e4⟩,⟨v5,e5⟩,⟨v6,e6⟩,⟨v7,e7⟩,⟨v8,e8⟩,⟨v9,e9⟩⟩:=IA u2 vM));all_goals
        obtain⟨F1,F2,F3⟩:=gT u2 vM;have HF1:=(show Hid _ from F1);have HF2:=(show Hid _ from F2);have HF3:=(show Hid _ from F3);clear F1 F2 F3;go_wp2;go_roundw;case rel=>exact⟨j+1,ZM,by go_num,HF1,HF2,HF3⟩
        case measure=>simp[intOf];omega
      ·have zci:¬(j:Int)<(m:Int):=by omega
       obtain rfl:j=m:=by omega
       have VK:Hid (dV L Wd H w h aX off sn (ES P1 i ks R0 R1 R2 R3 j) (i+1)):=by have mZ:=VW.out;rw[<-EE,<-Gx,<-hp2,<-CJ,<-hp8,<-hp9]at mZ;have:=fi P1 R0 R1 R2 R3 vP (fun e=>YZ.1 (by have:=ID.out;omega)) (fun e=>YZ.2 (by have:=ID.out;omega)) mZ;exact this
       have HPN:Hid (Pw U wr r pb N (ES P1 i ks R0 R1 R2 R3 j) H (20000*(i+1))):=VQ.mono (by omega);clear VQ Uo RX;go_wp2;go_roundw;case rel=>exact⟨i+1,_,hlt,by go_num,HPN,VK⟩
       case measure=>simp[intOf];omega
  ·have aK:¬(i:Int)<(N:Int):=by omega
   obtain rfl:i=N:=by omega
   have _A:Hid (U.grownBy wr (some r)/\wr.rowIs pb 76 (i*10) (j6 P)/\dV L Wd H w h aX off sn P i):=⟨HP.g,HP.row,HL⟩;go_wp2;go_ret;exact⟨pb,P,rfl,_A.2.1,_A.2.2,_A.1,ZR⟩
section
variable{s:ByteArray} {L:List Nd} {Wd:Nat->Int} {H:Nat->Int->Int} {w h:Int} {aX off:Nat->Int} {sn:Nat} {P:Nat->Nat->Int}
theorem dV.scroll(hT:dk s L)(hp:dV L Wd H w h aX off sn P L.length){i}(hi:i<L.length)(h4:(ae L i).kind=4):
 (ae L i).kids.length=1/\0<=P i 8/\P i 8<=P i 9/\P (aP (ae L i).kids 0) 0=P i 0/\P (aP (ae L i).kids 0) 1=P i 1-P i 8/\P (aP (ae L i).kids 0) 2=P i 2/\P (aP (ae L i).kids 0) 3=P i 3+P i 9/\(aC (ae L i) 0=0->P i 8=0):=by
 have Gl:(ae L i).kids.length=1:=by
  rcases hT.kidok i hi with q|⟨_,_,q⟩|⟨q,_⟩;·omega
  ·exact q
  ·omega
 obtain⟨r1,r2⟩:=hp.sc i hi hi h4;obtain⟨R0,R1,R2,R3,hs,hk⟩:=hp.kr i hi hi;obtain⟨e0,e1,e2,e3⟩:=hs.scr (by omega) 0 (by omega);have k0:=hk 0 (by omega) 0 (by omega);have k1:=hk 0 (by omega) 1 (by omega);have k2:=hk 0 (by omega) 2 (by omega);have k3:=hk 0 (by omega) 3 (by omega);have k0:P (aP (ae L i).kids 0) 0=R0 0:=k0;have k1:P (aP (ae L i).kids 0) 1=R1 0:=k1;have k2:P (aP (ae L i).kids 0) 2=R2 0:=k2;have k3:P (aP (ae L i).kids 0) 3=R3 0:=k3;grind[dt,fw,aC,ae]
theorem Wv{x}(h0:0<=x)(h1:x<=100000):cl x=x:=by grind[cl]
theorem dV.inRow(hT:dk s L)(hp:dV L Wd H w h aX off sn P L.length){i}(hi:i<L.length)(h0:(ae L i).kind=0):
 ∃G,((ae L i).kids=[]\/bL L (ae L i).kids (fun j=>Wd (aP (ae L i).kids j)) (P i 2) (aC (ae L i) 4) G)/\(∀j,j<(ae L i).kids.length->0<=G j/\G j<=100000)/\∀j,j<(ae L i).kids.length->P (aP (ae L i).kids j) 0=P i 0+cm G (aC (ae L i) 4) j/\P (aP (ae L i).kids j) 1=P i 1/\P (aP (ae L i).kids j) 2=G j/\P (aP (ae L i).kids j) 3=P i 3:=by obtain⟨R0,R1,R2,R3,hs,hk⟩:=hp.kr i hi hi;obtain⟨G,g1,g2,g3⟩:=hs.row (by omega);have hb:=(hT.vl.nv i hi).bd.2.1;rw[Wv hb.1 (by omega)]at g3;refine⟨G,g1,g2,fun j hj=>?_⟩;obtain⟨e0,e1,e2,e3⟩:=g3 j hj;have k0:P (aP (ae L i).kids j) 0=R0 j:=hk j hj 0 (by omega);have k1:P (aP (ae L i).kids j) 1=R1 j:=hk j hj 1 (by omega);have k2:P (aP (ae L i).kids j) 2=R2 j:=hk j hj 2 (by omega);have k3:P (aP (ae L i).kids j) 3=R3 j:=hk j hj 3 (by omega);omega
theorem LM{f}{l}(hf:∀j∈l,0<=f j){k}(hk:k∈l):f k<=aA f l:=by
 induction l with
 |nil=>cases hk
 |cons a l ih=>have h0:=hf a (by simp);have h1:0<=aA f l:=cy fun j hj=>hf j (by simp[hj]);grind[aA]
theorem Hw{r S1 S2 S:Int}(h1:r<=S1\/r<=S2->S=r)(h2:S1<r->S2<r->S=S2):S<=r:=by omega
theorem bL.tiles{L}{ks}{N}{aD bM}{G}(g1:bL L ks N aD bM G)(hk:0<ks.length):
 aA G (List.range ks.length)<=rm aD bM ks.length/\((∃j,j<ks.length/\0<aC (ae L (aP ks j)) 3/\aC (ae L (aP ks j)) 2<0)->aA G (List.range ks.length)=rm aD bM ks.length):=by
 have hr:=Lr aD bM ks.length hk;obtain⟨t1,t2,t3⟩:=ci.tiles g1 (fY _ _ _);refine⟨Hw t2 t3,fun⟨j,hj,q1,q2⟩=>t2 (.inr (g_ hr ?_))⟩;have hcl:0<cl (aC (ae L (aP ks j)) 3):=by unfold cl;split;omega;split<;>omega
 have hm:dK (ti (ae L (aP ks j)) (N j)) (aC (ae L (aP ks j)) 2)=100000:=by unfold dK;rw[if_pos q2]
 refine g_ ?_ (LM (k:=j) (fun x _=>?_) (vB.2 hj));all_goals grind[cl,aC,ae,aP,dK,ti,gE,dm]
theorem dV.tiles(hT:dk s L)(hp:dV L Wd H w h aX off sn P L.length){i}(hi:i<L.length)(h0:(ae L i).kind=0)(hk:0<(ae L i).kids.length):
 ∃G,(∀j,j<(ae L i).kids.length->0<=G j/\G j<=100000)/\(∀j,j<(ae L i).kids.length->P (aP (ae L i).kids j) 2=G j)/\aA G (List.range (ae L i).kids.length)<=rm (P i 2) (aC (ae L i) 4) (ae L i).kids.length/\((∃j,j<(ae L i).kids.length/\0<aC (ae L (aP (ae L i).kids j)) 3/\aC (ae L (aP (ae L i).kids j)) 2<0)->aA G (List.range (ae L i).kids.length)=rm (P i 2) (aC (ae L i) 4) (ae L i).kids.length):=by obtain⟨G,g1,g2,g3⟩:=hp.inRow hT hi h0;have g1:=g1.resolve_left (fun e=>by grind);exact⟨G,g2,fun j hj=>(g3 j hj).2.2.1,g1.tiles hk⟩
end
theorem Ch.uniq{L}{d}{ks}{a e}(h:Ch L d ks a e):∀{d' e'},Ch L d' ks a e'->e=e':=by
 induction h with
 |nil d a=>intro d' e' h;cases h;rfl
 |@cons d c r e1 e h1 h2 h3 h4 i1 i2=>
  intro d' e' h;cases h with
  |cons _ _ k3 k4=>grind
theorem Ch.all{L}{d}{ks}{a e}(h:Ch L d ks a e):∀k,a<=k->k<e->∃d' e',Ch L d' (L k).kids (k+1) e'/\e'<=e:=by
 induction h with
 |nil d a=>omega
 |@cons d c r e1 e h1 h2 h3 h4 i1 i2=>
  intro k k1 k2;by_cases e0:k=c;·subst e0;exact⟨_,_,h3,h4.le⟩
  ·by_cases l:k<e1;·obtain⟨d',e',q,q1⟩:=i1 k (by omega) l;exact⟨d',e',q,aT q1 h4.le⟩
   grind
def xx(en:Nat->Nat)(ks:List Nat)(a:Nat):Nat->Nat
 |0=>a
 |j+1=>en (aP ks j)
theorem Ch.st{L}{en}{d}{ks}{a e}(h:Ch L d ks a e):(∀k,a<=k->k<e->∃d,Ch L d (L k).kids (k+1) (en k))->(∀j,j<ks.length->aP ks j=xx en ks a j)/\e=xx en ks a ks.length:=by
 induction h with
 |nil d a=>exact fun _=>⟨fun j hj=>absurd hj (by simp),rfl⟩
 |@cons d c r e1 e h1 h2 h3 h4 i1 i2=>
  intro hen;obtain⟨d0,h0⟩:=hen c (ai _) (by have:=h3.le;have:=h4.le;omega);have e0:=h3.uniq h0;obtain⟨q1,q2⟩:=i2 (fun k a b=>hen k (by have:=h3.le;omega) b);have key:∀j,j<=r.length->xx en (c::r) c (j+1)=xx en r e1 j:=fun j hj=>by
   cases j with
   |zero=>exact e0.symm
   |succ j=>rfl
  refine⟨fun j hj=>?_,?_⟩;·cases j with
   |zero=>rfl
   |succ j=>rw[key j (by grind)];exact q1 j (by grind)
  grind
structure En(L:List Nd)(en:Nat->Nat):Prop where
 lt:∀k,k<L.length->k<en k
 le:∀k,k<L.length->en k<=L.length
 kid:∀k j,k<L.length->j<(ae L k).kids.length->aP (ae L k).kids j=xx en (ae L k).kids (k+1) j
 last:∀k,k<L.length->en k=xx en (ae L k).kids (k+1) (ae L k).kids.length
 sub:∀k i,k<L.length->k<=i->i<en k->en i<=en k
theorem WB{s}{L}(hT:dk s L):∃en,En L en:=by
 have key:∀k,∃e,k<L.length->∃d,Ch (ae L) d (ae L k).kids (k+1) e/\e<=L.length:=fun k=>by
  by_cases h:k<L.length;·obtain⟨d,e,h1,h2⟩:=hT.ch.all k (bc _) h;grind
  ·exact⟨0,fun q=>absurd q h⟩
 obtain⟨en,hen⟩:=Classical.skolem.1 key;have st:∀k,k<L.length->(∀j,j<(ae L k).kids.length->aP (ae L k).kids j=xx en (ae L k).kids (k+1) j)/\en k=xx en (ae L k).kids (k+1) (ae L k).kids.length:=fun k hk=>by obtain⟨d,h1,h2⟩:=hen k hk;exact h1.st (en:=en) (fun i _ b=>(hen i (by omega)).imp fun _ q=>q.1)
 refine⟨en,fun k hk=>by obtain⟨_,h1,_⟩:=hen k hk;have:=h1.le;omega,fun k hk=>(hen k hk).choose_spec.2,fun k j hk hj=>(st k hk).1 j hj,fun k hk=>(st k hk).2,fun k i hk h1 h2=>?_⟩;by_cases e:i=k;·grind
 ·obtain⟨_,q,ql⟩:=hen k hk;obtain⟨_,e',q1,q2⟩:=q.all i (by omega) h2;obtain⟨_,q3,_⟩:=hen i (by omega);rw[q3.uniq q1];exact q2
section
variable{s:ByteArray} {L:List Nd} {en:Nat->Nat}
theorem En.st_mono(h:En L en)(hT:dk s L){k}(hk:k<L.length){j}(hj:j<(ae L k).kids.length):xx en (ae L k).kids (k+1) j<xx en (ae L k).kids (k+1) (j+1):=by rw[<-h.kid k j hk hj];exact h.lt _ (hT.nest.kid k _ hk (fe hj)).2.1
theorem En.st_up(h:En L en)(hT:dk s L){k}(hk:k<L.length):∀d j,j+d<=(ae L k).kids.length->xx en (ae L k).kids (k+1) j<=xx en (ae L k).kids (k+1) (j+d)
 |0,j,_=>ai _
 |d+1,j,hj=>aT (h.st_up hT hk d j (by omega)) (Nat.le_of_lt (h.st_mono hT hk (j:=j+d) (by omega)))
theorem En.st_end(h:En L en)(hT:dk s L){k}(hk:k<L.length){j}(hj:j<=(ae L k).kids.length):xx en (ae L k).kids (k+1) j<=en k:=by rw[h.last k hk];have:=h.st_up hT hk ((ae L k).kids.length-j) j (by omega);grind
theorem En.find(h:En L en){k}(hk:k<L.length):∀j,j<=(ae L k).kids.length->∀i,k<i->i<xx en (ae L k).kids (k+1) j->∃a,a<j/\aP (ae L k).kids a<=i/\i<en (aP (ae L k).kids a)
 |0,_,i,h1,h2=>by have:i<k+1:=h2;omega
 |j+1,hj,i,h1,h2=>by
  by_cases e:aP (ae L k).kids j<=i;·exact⟨j,by omega,e,h2⟩
  ·rw[h.kid k j hk (by omega)]at e;obtain⟨a,q1,q2⟩:=h.find hk j (by omega) i h1 (by omega);grind
end
def uk(L:List Nd)(Wd:Nat->Int)(H:Nat->Int->Int)(aX off:Nat->Int)(sn:Nat)(P:Nat->Nat->Int)(i:Nat):Prop:=
 ((ae L i).kind=4->P i 9=dt (H (aP (ae L i).kids 0) (P i 2)) (P i 3)/\P i 8=min (max 0 (fw (aC (ae L i) 0) aX off sn)) (P i 9))/\((ae L i).kind≠4->P i 8=0/\P i 9=0)/\
  ∃R0 R1 R2 R3,bW (ae L i).kind (aC (ae L i) 4) (aC (ae L i) 5) (aC (ae L i) 6) L (ae L i).kids Wd H (P i 0) (P i 1) (P i 2) (P i 3) (P i 8) (P i 9) R0 R1 R2 R3/\∀j,j<(ae L i).kids.length->∀t,t<8->P (aP (ae L i).kids j) t=uY P i (R0 j) (R1 j) (R2 j) (R3 j) t
theorem uk.congr{L}{Wd}{H}{aX off}{sn}{P P'}{i}(h:uk L Wd H aX off sn P i)(h1:P' i=P i)(h2:∀j,j<(ae L i).kids.length->∀t,t<8->P' (aP (ae L i).kids j) t=P (aP (ae L i).kids j) t):uk L Wd H aX off sn P' i:=by obtain⟨a,b,R0,R1,R2,R3,c,d⟩:=h;refine⟨by grind,by grind,R0,R1,R2,R3,by grind,fun j hj t ht=>?_⟩;grind[uY]
theorem dV.all{s}{L}{Wd}{H}{w h}{aX off}{sn}{P}(hT:dk s L)(hS:Sz L Wd H)(hw:1<=w/\w<=400)(hh:1<=h/\h<=400)(hr:P 0 0=0/\P 0 1=0/\P 0 2=w/\P 0 3=h/\P 0 4=0/\P 0 5=0/\P 0 6=w/\P 0 7=h)(ha:∀i,i<L.length->uk L Wd H aX off sn P i):dV L Wd H w h aX off sn P L.length:=by
 have bd:∀n i,i<n->i<L.length->-(((i:Int)+1)*100000000)<=P i 0/\P i 0<=((i:Int)+1)*100000000/\-(((i:Int)+1)*100000000)<=P i 1/\P i 1<=((i:Int)+1)*100000000/\0<=P i 2/\P i 2<=100000/\0<=P i 3/\P i 3<=100000:=fun n=>by
  induction n with
  |zero=>omega
  |succ n ih=>
   intro i hi hL;by_cases h0:i=0;·grind
   ·obtain⟨u,k,hu,hk,hc,q_⟩:=hT.kid_of i (by omega) hL;have hb:=ih u (by omega) (by omega);obtain⟨a1,a2,R0,R1,R2,R3,q1,q2⟩:=ha u (by omega);have zc:0<=P u 8/\P u 8<=100000/\0<=P u 9/\P u 3+P u 9<=100000:=by
     by_cases e4:(ae L u).kind=4;·obtain⟨r1,r2⟩:=a1 e4;have hh:=hS.hb (aP (ae L u).kids 0) (P u 2) (hT.nest.kid u _ (by omega) (fe (ks:=(ae L u).kids) (j:=0) (by omega))).2.1;unfold dt at r1;omega
     ·omega
    have hB:=q1.bd (hT.kids_le (by omega)) ⟨hb.2.2.2.2.1,hb.2.2.2.2.2.1⟩ ⟨hb.2.2.2.2.2.2.1,hb.2.2.2.2.2.2.2⟩ ⟨zc.1,zc.2.1⟩ ⟨zc.2.2.1,zc.2.2.2⟩ (((u:Int)+1)*100000000) (by omega) ⟨hb.1,hb.2.1⟩ ⟨hb.2.2.1,hb.2.2.2.1⟩ k hk;have p0:P i 0=R0 k:=by rw[<-hc];exact q2 k hk 0 (by omega)
    have p1:P i 1=R1 k:=by rw[<-hc];exact q2 k hk 1 (by omega)
    have p2:P i 2=R2 k:=by rw[<-hc];exact q2 k hk 2 (by omega)
    have p3:P i 3=R3 k:=by rw[<-hc];exact q2 k hk 3 (by omega)
    omega
 exact⟨hr,fun i hi _ e=>(ha i hi).1 e,fun i hi q=>(ha i hi).2.1 (by rcases q with q|q;omega;exact q),fun i hi _=>(ha i hi).2.2,fun i hi=>bd (i+1) i (by omega) hi⟩
structure rp(en:Nat->Nat)(P:Nat->Nat->Int)(k:Nat):Prop where
 b0:-(((k:Int)+1)*100000000)<=P k 0/\P k 0<=((k:Int)+1)*100000000
 b1:-(((k:Int)+1)*100000000)<=P k 1/\P k 1<=((k:Int)+1)*100000000
 b2:0<=P k 2/\P k 2<=100000
 b3:0<=P k 3/\P k 3<=100000
 z:∀i,k<=i->i<en k->P i 8=0/\P i 9=0
section
variable(L:List Nd) (en:Nat->Nat) (Wd:Nat->Int) (H:Nat->Int->Int) (aX off:Nat->Int) (sn:Nat)
def ro(P Q:Nat->Nat->Int)(k:Nat):Prop:=(∀i,k<=i->i<en k->uk L Wd H aX off sn Q i)/\(∀i t,¬(k<=i/\i<en k)->Q i t=P i t)/\∀t,t<8->Q k t=P k t
structure iZ(R0 R1 R2 R3:Nat->Int)(of rm:Int)(P Q:Nat->Nat->Int)(k j:Nat):Prop where
 dn:∀i,k<i->i<xx en (ae L k).kids (k+1) j->uk L Wd H aX off sn Q i
 pl:∀a,a<j->∀t,t<8->Q (aP (ae L k).kids a) t=uY Q k (R0 a) (R1 a) (R2 a) (R3 a) t
 sm:∀i t,¬(k<=i/\i<xx en (ae L k).kids (k+1) j)->Q i t=P i t
 se:∀t,t<8->Q k t=P k t
 sc:(0<j->Q k 8=of/\Q k 9=rm)/\(j=0->Q k 8=0/\Q k 9=0)
end
def kQ(Q:Nat->Nat->Int)(k c:Nat)(x y a b of rm:Int)(i t:Nat):Int:=if i=c/\t<8 then uY Q k x y a b t else if i=k/\t=8 then of else if i=k/\t=9 then rm else Q i t
section
variable{s:ByteArray} {L:List Nd} {en:Nat->Nat} {Wd:Nat->Int} {H:Nat->Int->Int} {aX off:Nat->Int} {sn:Nat} {R0 R1 R2 R3:Nat->Int} {of rm:Int} {P Q Q1 Q2:Nat->Nat->Int} {k j:Nat}
theorem uZ{P P'}{i}(h:∀t,4<=t->t<8->P' i t=P i t)  x y a b   t  :uY P' i x y a b t=uY P i x y a b t:=by grind[uY]
theorem iZ.step(hT:dk s L)(he:En L en)(hk:k<L.length)(hj:j<(ae L k).kids.length)(h:iZ L en Wd H aX off sn R0 R1 R2 R3 of rm P Q k j)(h1:∀i t,Q1 i t=kQ Q k (aP (ae L k).kids j) (R0 j) (R1 j) (R2 j) (R3 j) of rm i t)(h2:ro L en Wd H aX off sn Q1 Q2 (aP (ae L k).kids j)):iZ L en Wd H aX off sn R0 R1 R2 R3 of rm P Q2 k (j+1):=by
 have hc:=he.kid k j hk hj;have hcl:=hT.nest.kid k _ hk (fe hj);have hs1:xx en (ae L k).kids (k+1) (j+1)=en (aP (ae L k).kids j):=rfl;obtain⟨c,Gc⟩:=aj (aP (ae L k).kids j);rw[Gc]at hc hcl h1 h2 hs1;have hlt:=he.lt c hcl.2.1;have o1:∀i t,i≠c->i≠k->Q1 i t=Q i t:=fun i t a b=>by grind[kQ]
 have ok:∀t,t<8->Q1 k t=Q k t:=fun t a=>by grind[kQ]
 have o2:=h2.2.1;have kk:=fun t a=>(o2 k t (by omega)).trans (ok t a);have old:∀i,k<i->i<c->Q2 i=Q i:=fun i a b=>by grind
 refine⟨fun i a b=>?_,fun a ha t ht=>?_,fun i t q=>?_,fun t ht=>(kk t ht).trans (h.se t ht),⟨fun _=>?_,fun q=>by omega⟩⟩
 ·rw[hs1]at b;by_cases l:i<c
  ·refine(h.dn i a (by omega)).congr (old i a l) fun q hq t ht=>?_;obtain⟨z,z1,z2,z3⟩:=he.find hk j (by omega) i a (by omega);have hz:=hT.nest.kid k _ hk (fe (ks:=(ae L k).kids) (j:=z) (by omega));have e1:=he.sub _ i hz.2.1 z2 z3;have e2:=he.st_up hT hk (j-(z+1)) (z+1) (by omega);rw[show z+1+(j-(z+1))=j by omega]at e2;have e3:xx en (ae L k).kids (k+1) (z+1)=en (aP (ae L k).kids z):=rfl;have mW:i<L.length:=by have:=hcl.2.1;omega
   have e4:=hT.nest.kid i _ mW (fe hq);have e5:=he.kid i q mW hq;have e6:=he.st_mono hT mW hq;have e7:=he.st_end hT mW (j:=q+1) (by omega);grind
  ·exact h2.1 i (by omega) b
 ·by_cases e:a=j;·subst e;rw[Gc,h2.2.2 t ht,h1];grind[kQ,uZ]
  ·have Ii:=hT.nest.kid k _ hk (fe (ks:=(ae L k).kids) (j:=a) (by omega));have e1:=he.kid k a hk (by omega);have e2:=he.st_mono hT hk (j:=a) (by omega);have e3:=he.st_up hT hk (j-(a+1)) (a+1) (by omega);rw[show a+1+(j-(a+1))=j by omega]at e3;rw[old _ (by omega) (by omega),h.pl a (by omega) t ht,uZ (P:=Q) (P':=Q2) (i:=k) (fun t _ q=>kk t q)]
 ·rw[hs1]at q;rw[o2 i t (by omega),o1 i t (by omega) (by omega)];exact h.sm i t (by omega)
 grind[kQ]
theorem iZ.pre(hT:dk s L)(he:En L en)(hk:k<L.length)(hj:j<(ae L k).kids.length)(hP:rp en P k)(hs:bW (ae L k).kind (aC (ae L k) 4) (aC (ae L k) 5) (aC (ae L k) 6) L (ae L k).kids Wd H (P k 0) (P k 1) (P k 2) (P k 3) of rm R0 R1 R2 R3)(OO:0<=of/\of<=100000)(CU:0<=rm/\P k 3+rm<=100000)(h:iZ L en Wd H aX off sn R0 R1 R2 R3 of rm P Q k j)(h1:∀i t,Q1 i t=kQ Q k (aP (ae L k).kids j) (R0 j) (R1 j) (R2 j) (R3 j) of rm i t):rp en Q1 (aP (ae L k).kids j):=by
 have hc:=he.kid k j hk hj;have hcl:=hT.nest.kid k _ hk (fe hj);have hse:=he.st_end hT hk (j:=j+1) (by omega);have hB:=hs.bd (hT.kids_le hk) hP.b2 hP.b3 OO CU (((k:Int)+1)*100000000) (by omega) hP.b0 hP.b1 j hj;obtain⟨c,Gc⟩:=aj (aP (ae L k).kids j);have hs1:xx en (ae L k).kids (k+1) (j+1)=en (aP (ae L k).kids j):=rfl;rw[Gc]at hc hcl h1 hs1⊢;have p:∀t,t<8->Q1 c t=uY Q k (R0 j) (R1 j) (R2 j) (R3 j) t:=fun t ht=>by grind[kQ]
 have p0:Q1 c 0=R0 j:=p 0 (by omega);have p1:Q1 c 1=R1 j:=p 1 (by omega);have p2:Q1 c 2=R2 j:=p 2 (by omega);have p3:Q1 c 3=R3 j:=p 3 (by omega);refine⟨by omega,by omega,by omega,by omega,fun i a b=>?_⟩;have e:∀t,8<=t->Q1 i t=P i t:=fun t ht=>by rw[h1];unfold kQ;rw[if_neg (by omega),if_neg (by omega),if_neg (by omega)];exact h.sm i t (by omega)
 rw[e 8 (by omega),e 9 (by omega)];exact hP.z i (by omega) (by omega)
theorem iZ.fin(hT:dk s L)(he:En L en)(hk:k<L.length)(hs:bW (ae L k).kind (aC (ae L k) 4) (aC (ae L k) 5) (aC (ae L k) 6) L (ae L k).kids Wd H (P k 0) (P k 1) (P k 2) (P k 3) of rm R0 R1 R2 R3)(h4:(ae L k).kind=4->rm=dt (H (aP (ae L k).kids 0) (P k 2)) (P k 3)/\of=min (max 0 (fw (aC (ae L k) 0) aX off sn)) rm)(hn:(ae L k).kind≠4->of=0/\rm=0)(h:iZ L en Wd H aX off sn R0 R1 R2 R3 of rm P Q k (ae L k).kids.length):ro L en Wd H aX off sn P Q k:=by
 have hl:=he.last k hk;have q:Q k 8=of/\Q k 9=rm:=by
  by_cases h0:0<(ae L k).kids.length;·exact h.sc.1 h0
  ·have e4:(ae L k).kind≠4:=fun e=>by rcases hT.kidok k hk with z|⟨_,_,z⟩|⟨z,_⟩<;>omega
   have:=h.sc.2 (by omega);omega
 refine⟨fun i a b=>?_,fun i t a=>h.sm i t (by omega),h.se⟩;by_cases e:i=k;·subst e;have s0:=h.se 0 (by omega);have s1:=h.se 1 (by omega);have s2:=h.se 2 (by omega);have s3:=h.se 3 (by omega);refine⟨fun e=>?_,fun e=>?_,R0,R1,R2,R3,?_,fun a ha t ht=>h.pl a ha t ht⟩;all_goals grind
 ·exact h.dn i (by omega) (by omega)
theorem zdg  Q   c  (v:Nat->Int)  i t  :bj (bj (bj (bj (bj (bj (bj (bj Q c 0 (v 0)) c 1 (v 1)) c 2 (v 2)) c 3 (v 3)) c 4 (v 4)) c 5 (v 5)) c 6 (v 6)) c 7 (v 7) i t=if i=c/\t<8 then v t else Q i t:=by
 have p:∀(Q:Nat->Nat->Int) n,bj Q c n (v n) i t=if i=c/\t=n then v t else Q i t:=fun Q n=>by grind[bj]
 simp only[p];by_cases h:i=c/\t<8;·omega
 ·rw[if_neg h,if_neg (by omega),if_neg (by omega),if_neg (by omega),if_neg (by omega),if_neg (by omega),if_neg (by omega),if_neg (by omega),if_neg (by omega)]
end
structure KrG(kd a4 a5 a6:Int)(L:List Nd)(ks:List Nat)(Wd:Nat->Int)(H:Nat->Int->Int)(x y w h o of rm:Int)(G R0 R1 R2 R3:Nat->Int):Prop where
 g0:kd=0->ks.length=0\/bL L ks (fun j=>Wd (aP ks j)) w a4 G
 g1:kd=1->ks.length=0\/bL L ks (fun j=>H (aP ks j) w) h a4 G
 gb:∀j,j<ks.length->0<=G j/\G j<=100000
 r0:kd=0->∀j,R0 j=x+cm G (cl a4) j/\R1 j=y/\R2 j=G j/\R3 j=h
 r1:kd=1->∀j,R0 j=x/\R1 j=y+cm G (cl a4) j/\R2 j=w/\R3 j=G j
 r3:kd=3->∀j,qI x y w h (a6+a5)=rv (R0 j) (R1 j) (R2 j) (R3 j)
 r4:kd=4->(rm=dt (H (aP ks 0) w) h/\of=min (max 0 o) rm)/\∀j,R0 j=x/\R1 j=y-of/\R2 j=w/\R3 j=h+rm
 rr:kd≠0->kd≠1->kd≠3->kd≠4->∀j,R0 j=x/\R1 j=y/\R2 j=w/\R3 j=h
 no:kd≠4->of=0/\rm=0
section
variable{kd a4 a5 a6:Int} {L:List Nd} {ks:List Nat} {Wd:Nat->Int} {H:Nat->Int->Int} {x y w h o of rm:Int} {G R0 R1 R2 R3:Nat->Int}
theorem KrG.spec(k:KrG kd a4 a5 a6 L ks Wd H x y w h o of rm G R0 R1 R2 R3):bW kd a4 a5 a6 L ks Wd H x y w h of rm R0 R1 R2 R3:=
 ⟨fun e=>⟨G,(k.g0 e).imp lk id,k.gb,fun j _=>k.r0 e j⟩,fun e=>⟨G,(k.g1 e).imp lk id,k.gb,fun j _=>k.r1 e j⟩,fun e j _=>k.r3 e j,fun e j _=>(k.r4 e).2 j,fun a b c d j _=>k.rr a b c d j⟩
end
theorem LH  L   ks   N   aD bM  (U:World) (hm:ks.length<=200):∃G,(ks.length=0\/bL L ks N aD bM G)/\∀j,j<ks.length->0<=G j/\G j<=100000:=by
 by_cases h0:ks.length=0;·simp_all
 ·obtain⟨G,hG⟩:=uQ L ks N aD bM U (by omega) hm;refine⟨G,.inr hG,fun j hj=>?_⟩;have:=(ci.tiles hG (rW _ _ _)).1 j hj;exact⟨this.1,g_ this.2 (gE _ _).2⟩
theorem Yf  L   ks   Wd   H  (U:World) (hm:ks.length<=200)  kd a4 a5 a6 x y w h o  :∃of rm G R0 R1 R2 R3,KrG kd a4 a5 a6 L ks Wd H x y w h o of rm G R0 R1 R2 R3:=by
 by_cases h0:kd=0;·obtain⟨G,g1,g2⟩:=LH L ks (fun j=>Wd (aP ks j)) w a4 U hm;exact⟨0,0,G,fun j=>x+cm G (cl a4) j,fun _=>y,G,fun _=>h,fun _=>g1,fun e=>by omega,g2,fun _ j=>⟨rfl,rfl,rfl,rfl⟩,fun e=>by omega,fun e=>by omega,fun e=>by omega,fun e=>absurd h0 e,fun _=>⟨rfl,rfl⟩⟩
 ·by_cases h1:kd=1;·obtain⟨G,g1,g2⟩:=LH L ks (fun j=>H (aP ks j) w) h a4 U hm;exact⟨0,0,G,fun _=>x,fun j=>y+cm G (cl a4) j,fun _=>w,G,fun e=>by omega,fun _=>g1,g2,fun e=>by omega,fun _ j=>⟨rfl,rfl,rfl,rfl⟩,fun e=>by omega,fun e=>by omega,fun _ e=>absurd h1 e,fun _=>⟨rfl,rfl⟩⟩
  ·by_cases h3:kd=3;·obtain⟨i0,i1,i2,i3,hi⟩:∃i0 i1 i2 i3,qI x y w h (a6+a5)=rv i0 i1 i2 i3:=⟨_,_,_,_,rfl⟩;exact⟨0,0,fun _=>0,fun _=>i0,fun _=>i1,fun _=>i2,fun _=>i3,fun e=>by omega,fun e=>by omega,fun j _=>⟨by omega,by omega⟩,fun e=>by omega,fun e=>by omega,fun _ _=>hi,fun e=>by omega,fun _ _ e=>absurd h3 e,fun _=>⟨rfl,rfl⟩⟩
   ·by_cases h4:kd=4;·exact⟨min (max 0 o) (dt (H (aP ks 0) w) h),dt (H (aP ks 0) w) h,fun _=>0,fun _=>x,fun _=>y-min (max 0 o) (dt (H (aP ks 0) w) h),fun _=>w,fun _=>h+dt (H (aP ks 0) w) h,fun e=>by omega,fun e=>by omega,fun j _=>⟨by omega,by omega⟩,fun e=>by omega,fun e=>by omega,fun e=>by omega,fun _=>⟨⟨rfl,rfl⟩,fun _=>⟨rfl,rfl,rfl,rfl⟩⟩,fun _ _ _ e=>absurd h4 e,fun e=>absurd h4 e⟩
    ·exact⟨0,0,fun _=>0,fun _=>x,fun _=>y,fun _=>w,fun _=>h,fun e=>by omega,fun e=>by omega,fun j _=>⟨by omega,by omega⟩,fun e=>by omega,fun e=>by omega,fun e=>by omega,fun e=>by omega,fun _ _ _ _ _=>⟨rfl,rfl,rfl,rfl⟩,fun _=>⟨rfl,rfl⟩⟩
def IV(W:World)(B m:Nat)(G:Nat->Int)(v:Value):Prop:=0<m->∃ob,v=Sq ob m m/\B<=ob/\∀i,i<m->W.cell? (az ob i)=some (Iq (G i))
theorem IV.below{W W'}{B m}{G}{v}(h:IV W B m G v)(hb:Bt W W'):IV W' B m G v:=fun a=>by obtain⟨ob,e,b,c⟩:=h a;grind[aN]
theorem IV.mono{W}{B B' m}{G}{v}(h:IV W B m G v)(hb:B'<=B):IV W B' m G v:=fun a=>by obtain⟨ob,e,b,c⟩:=h a;grind
theorem QD{U U'}{L}{ks}{N}{e}{aD bM}{G}(h:DW U U' L ks N e)(hm:ks.length<=200)(hG:ks.length=0\/bL L ks N aD bM G):
 ∃p c,e=Rw (.slice p ks.length c)/\Hid (Bt U U')/\Hid (Cw 113 #[Iq aD,Iq bM,.slice p ks.length c] U' fun e x=>∃v,e=Rw v/\Hid (Bt U' x)/\Hid (IV x U.heap.size ks.length G v))/\Hid (Cw 115 #[Iq aD,Iq bM,.slice p ks.length c] U' fun e x=>∃v,e=Rw v/\Hid (Bt U' x)/\Hid (IV x U.heap.size ks.length (cm G (cl bM)) v)):=by
 obtain⟨p,c,rfl,hr,hb⟩:=h;refine⟨p,c,rfl,hb,?_⟩;by_cases h0:ks.length=0
 ·rw[h0];have z:=kX p c aD bM U';constructor;·refine z.mono ?_;rintro e x ⟨q,rfl,j4⟩;exact⟨_,rfl,j4,fun h=>by omega⟩
  ·refine(G_ _ aD bM U' p z).mono ?_;rintro e x ⟨q,rfl,j4⟩;exact⟨_,rfl,j4,fun h=>by omega⟩
 ·obtain⟨b,rfl,hr2⟩:=hr.resolve_left h0;have hsp:=hG.resolve_left h0;constructor;·refine(kW ks.length b 0 c _ _ _ aD bM U' hr2 (by omega) hm G hsp).mono ?_;rintro e x ⟨ob,rfl,hB,hf,j4⟩;exact⟨_,rfl,j4,fun _=>⟨ob,rfl,aT hb.size hB,fun i hi=>by have:=(hf.2 i hi).1;grind⟩⟩
  ·refine(G9 ks.length b 0 c _ _ _ aD bM U' hr2 (by omega) hm G hsp).mono ?_;rintro e x ⟨ob,rfl,hB,hf,j4⟩;exact⟨_,rfl,j4,fun _=>⟨ob,rfl,aT hb.size hB,fun i hi=>by have:=(hf.2 i hi).1;grind⟩⟩
