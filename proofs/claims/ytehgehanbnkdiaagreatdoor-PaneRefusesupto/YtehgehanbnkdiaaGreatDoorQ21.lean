import Derived.Test.YtehgehanbnkdiaaGreatDoorQ20
set_option linter.all false
set_option maxRecDepth 100000
set_option maxHeartbeats 16000000
namespace Go.Proofs.YtehgehanbnkdiaaGreatDoor
open Go.RowKit Go.Proofs.Tryz
def SZ(e:Ending):Prop:=∃x y z u,e=Rw (.agg #[Iq x,Iq y,Iq z,Iq u])/\-100000<=x/\-100000<=y
def J_{j Z:Int}(a:-100000<=j)(d:j<Z)(e:Z<=9223372036854775807):-100000<=wrap64 (j+1)/\(Z-wrap64 (j+1)).toNat<(Z-j).toNat:=by unfold wrap64;omega
def Hd(a b c d p q r s:Int)(w:AT):Cw 134 #[.agg #[Iq a,Iq b,Iq c,Iq d],.agg #[Iq p,Iq q,Iq r,Iq s]] w λe w'=>SZ e/\Bq w w':=by
 refine(w_ a b c d p q r s w).mono λe w' ⟨h,g⟩=>⟨?_,g.below⟩;rw[h];unfold mz;split;.exact⟨_,_,_,_,rfl,dg,dg⟩
 .exact⟨_,_,_,_,rfl,by unfold dV aH;omega,by unfold dV aH;omega⟩
def Ij{w:AT}{B:Nat}{t:TypeId}{i j k l a d e f:Fd}(h:w.heap[B]?=some (.cells #[i,j,k,l] t (0,0))):
 ((((w.setCell (aq B 0) a).setCell (aq B 1) d).setCell (aq B 2) e).setCell (aq B 3) f).heap[B]?=some (.cells #[a,d,e,f] t (0,0)):=by rw[heap_setCell_same _ _ _ _ _ _ (heap_setCell_same _ _ _ _ _ _ (heap_setCell_same _ _ _ _ _ _ (heap_setCell_same _ _ _ _ _ _ h)))];rfl
def Pf{W:AT}{X:Nat}{a b c d:Fd}{t:TypeId}(h:W.heap[X]?=some (.cells #[a,b,c,d] t (0,0))):W.cell? (aq X 0)=some a/\W.cell? (aq X 1)=some b/\W.cell? (aq X 2)=some c/\W.cell? (aq X 3)=some d/\∀j,W.frozen? (aq X j)=false:=
 ⟨cell_of_row _ _ 0 _ _ _ h,cell_of_row _ _ 1 _ _ _ h,cell_of_row _ _ 2 _ _ _ h,cell_of_row _ _ 3 _ _ _ h,λj=>frozen_of_row _ _ _ _ _ h⟩
def UU(w0:AT)(p:Fd)(wx:AT):Prop:=∃(X:Nat) (a b c d:Int),p=Pq X/\wx.heap[X]?=some (.cells #[Iq a,Iq b,Iq c,Iq d] 123 (0,0))/\w0.heap.size<=X/\Bq w0 wx/\-100000<=a/\-100000<=b
section
variable{K M cap W H n b:Nat} {w:AT}
def Rf(h:KK K M cap W H n b w)(x y z u f g o E G C D:Int):Cw 132 #[Pq K,.agg #[Iq x,Iq y,Iq z,Iq u],.agg #[Iq f,Iq g,Iq o],.agg #[Iq E,Iq G,Iq C,Iq D]] w λe w'=>qL e/\gz K M cap W H n b w w':=by
 have zr:prog.follows .mixedOrders=true:=pt;obtain⟨S,hS⟩:=af w.heap.size;obtain⟨d,l⟩:=af (((w.alloc (.cells #[Iq x,Iq y,Iq z,Iq u] 123)).alloc (.cells #[Iq f,Iq g,Iq o] 107)).alloc (.cells #[Iq E,Iq G,Iq C,Iq D] 123));have bW:Hid (Bq w d):=by rw[<-l];exact(No.alloc At _).alloc (by simp;omega) _
 have O:d.heap[S+2]?=some (.cells #[Iq E,Iq G,Iq C,Iq D] 123 (0,0)):=by rw[<-l,<-hS];have:=heap_alloc_new ((w.alloc (.cells #[Iq x,Iq y,Iq z,Iq u] 123)).alloc (.cells #[Iq f,Iq g,Iq o] 107)) (.cells #[Iq E,Iq G,Iq C,Iq D] 123);rwa[ai,ai]at this
 have a1:d.heap[S+1]?=some (.cells #[Iq f,Iq g,Iq o] 107 (0,0)):=by rw[<-l,<-hS,bG _ _ _ At];exact vM _ _ _
 have Z:d.heap[S]?=some (.cells #[Iq x,Iq y,Iq z,Iq u] 123 (0,0)):=by rw[<-l,<-hS,bG _ _ _ (by simp;omega),bG _ _ _ At];exact heap_alloc_new _ _
 have H0:=qH (h.refl.below bW);have k0:=H0.1.c0;have k1:=H0.1.c1;have zj:Hid (M<S/\K<S):=⟨by rw[<-hS];exact h.kb.1,by rw[<-hS];exact klt h.c0⟩;have HC:Hid (∀v,Bq d v->(v.cell? (aq S 0)=some (Iq x)/\v.cell? (aq S 1)=some (Iq y)/\v.cell? (aq S 2)=some (Iq z)/\v.cell? (aq S 3)=some (Iq u))/\(v.cell? (aq (S+2) 0)=some (Iq E)/\v.cell? (aq (S+2) 1)=some (Iq G)/\v.cell? (aq (S+2) 2)=some (Iq C)/\v.cell? (aq (S+2) 3)=some (Iq D))/\v.cell? (aq K 0)=some (Iq W)/\v.cell? (aq K 1)=some (Iq H)):=λv a=>⟨⟨aV a (cell_of_row _ _ 0 _ _ _ Z),aV a (cell_of_row _ _ 1 _ _ _ Z),aV a (cell_of_row _ _ 2 _ _ _ Z),aV a (cell_of_row _ _ 3 _ _ _ Z)⟩,⟨aV a (cell_of_row _ _ 0 _ _ _ O),aV a (cell_of_row _ _ 1 _ _ _ O),aV a (cell_of_row _ _ 2 _ _ _ O),aV a (cell_of_row _ _ 3 _ _ _ O)⟩,aV a k0,aV a k1⟩;have R:=qH a1;have U:=qH O;have zt:=h.sz.2.2.2.2.2;obtain⟨⟨p0,p1,p2,p3⟩,⟨q0,q1,q2,q3⟩,_⟩:=HC d Ok;have zm:=World.new_ne d _ p0;have zn:=World.new_ne d _ q0;have zo:=World.new_ne d _ k0;have HE:Hid (Bq d d.drew):=Ok.drew;have V:Hid (Bq d (d.alloc (.cells #[Iq 0,Iq 0,Iq 0,Iq 0] 123)).drew):=No.drew;clear h Z a1 O;go_enter func132,ntmps132;go_upto_region 1 with fail;try rw[l]
 try rw[hS]
 go_cut[8]from 11 to 23 (UU d);.go_region_held(λv=>(v.cell? (aq S 0)=some (Iq x)/\v.cell? (aq S 1)=some (Iq y)/\v.cell? (aq S 2)=some (Iq z)/\v.cell? (aq S 3)=some (Iq u))/\(v.cell? (aq (S+2) 0)=some (Iq E)/\v.cell? (aq (S+2) 1)=some (Iq G)/\v.cell? (aq (S+2) 2)=some (Iq C)/\v.cell? (aq (S+2) 3)=some (Iq D))/\v.cell? (aq K 0)=some (Iq W)/\v.cell? (aq K 1)=some (Iq H)) (go_keep) (first
   |(go_at_call 134;(with_reducible refine ag (Hd x y z u E G C D _) ?_);rintro e v1 ⟨⟨f0,f1,f2,f3,rfl,_⟩,I⟩;have s:Hid (Bq d v1):=(by first|exact HE.out.trans I|exact V.out.trans (I.mono V.out.size));obtain⟨⟨s0,s1,s2,s3⟩,⟨s4,s5,s6,s7⟩,s8,s9⟩:=HC.out v1 s.out;have zu:=World.new_ne v1 _ s0;have zv:=World.new_ne v1 _ s4;have zw:=World.new_ne v1 _ s8;have P:Hid (Bq d (v1.alloc (.cells #[Iq 0,Iq 0,Iq 0,Iq 0] 123))):=s.out.alloc s.out.size _;(try(have ZA:=qH ((I.block d.heap.size (by simp[World.drew])).trans (vL d (.cells #[Iq 0,Iq 0,Iq 0,Iq 0] 123)));obtain⟨zq,zB,zC,zD,zE⟩:=Pf ZA.out)))
   |(go_at_call 134;refine ag (Hd _ _ _ _ _ _ _ _ _) ?_;rintro e v2 ⟨⟨g0,g1,g2,g3,rfl,m0,m1⟩,A⟩;have N:Hid (Bq d v2):=(by first|exact s.out.trans (A.mono s.out.size)|exact P.out.trans (A.mono P.out.size));obtain⟨⟨t0,t1,t2,t3⟩,⟨t4,t5,t6,t7⟩,t8,t9⟩:=HC.out v2 N.out;have zx:=World.new_ne v2 _ t0;have zy:=World.new_ne v2 _ t4;have zA:=World.new_ne v2 _ t8;(try(have ZB:=qH ((A.block d.heap.size (klt zq)).trans ZA.out);obtain⟨zF,zG,zH,zI,zJ⟩:=Pf ZB.out));(try(have ZC:=qH ((A.block v1.heap.size At).trans (vL v1 (.cells #[Iq 0,Iq 0,Iq 0,Iq 0] 123)));obtain⟨zK,zL,zM,zN,zO⟩:=Pf ZC.out))));all_goals
   go_wp2_with fail;go_meet;first
    |exact⟨_,_,_,_,_,rfl,Ij ZB,LE,(((N.setCell LE _).setCell LE _).setCell LE _).setCell LE _,m0,m1⟩
    |exact⟨_,_,_,_,_,rfl,Ij ZC,s.size,(((N.setCell s.size _).setCell s.size _).setCell s.size _).setCell s.size _,m0,m1⟩
    |exact⟨_,_,_,_,_,rfl,vL _ _,N.size,N.alloc N.size _,m0,m1⟩
 obtain⟨X,e0,e1,e2,e3,rfl,HX,hX,J,zk,zl⟩:=hcut;clear p0 p1 p2 p3 q0 q1 q2 q3 k0 k1 zm zn zo l;have H1:=qH (H0.below J);have L:Hid (∀v,gz K M cap W H n b wc v->(v.cell? (aq X 0)=some (Iq e0)/\v.cell? (aq X 1)=some (Iq e1)/\v.cell? (aq X 2)=some (Iq e2)/\v.cell? (aq X 3)=some (Iq e3))/\(v.cell? (aq (S+1) 0)=some (Iq f)/\v.cell? (aq (S+1) 1)=some (Iq g)/\v.cell? (aq (S+1) 2)=some (Iq o))/\(v.cell? (aq (S+2) 0)=some (Iq E)/\v.cell? (aq (S+2) 1)=some (Iq G)/\v.cell? (aq (S+2) 2)=some (Iq C)/\v.cell? (aq (S+2) 3)=some (Iq D))):=λv a=>by
  have hm:=zj.out;have hz:=bW.size;have b1:=(J.block (S+1) (aj.1 R.out).1).trans R.out;have b2:=(J.block (S+2) (aj.1 U.out).1).trans U.out;have r:∀j,M<j->some j≠some M:=λj hj e=>by injection e;omega
  exact⟨⟨a.2.cell (cell_of_row _ _ 0 _ _ _ HX) (r X dg),a.2.cell (cell_of_row _ _ 1 _ _ _ HX) (r X dg),a.2.cell (cell_of_row _ _ 2 _ _ _ HX) (r X dg),a.2.cell (cell_of_row _ _ 3 _ _ _ HX) (r X dg)⟩,⟨a.2.cell (cell_of_row _ _ 0 _ _ _ b1) (r (S+1) dg),a.2.cell (cell_of_row _ _ 1 _ _ _ b1) (r (S+1) dg),a.2.cell (cell_of_row _ _ 2 _ _ _ b1) (r (S+1) dg)⟩,⟨a.2.cell (cell_of_row _ _ 0 _ _ _ b2) (r (S+2) dg),a.2.cell (cell_of_row _ _ 1 _ _ _ b2) (r (S+2) dg),a.2.cell (cell_of_row _ _ 2 _ _ _ b2) (r (S+2) dg),a.2.cell (cell_of_row _ _ 3 _ _ _ b2) (r (S+2) dg)⟩⟩
 have Y:=qH H1.1.refl;obtain⟨⟨x0,x1,x2,x3⟩,_⟩:=L wc Y;go_wp2;clear x0 x1 x2 x3;have zg:=qH (ib (e1+e3));have ze:=qH (ib (e0+e2));go_loopw[9] (λi wr=>∃j:Int,i=Iq j/\-100000<=j/\Hid (gz K M cap W H n b wc wr)) (λi _=>(wrap64 (e1+e3)-intOf i).toNat);.exact⟨_,rfl,zl,Y⟩
 obtain⟨j,rfl,zh,HR⟩:=hrel;obtain⟨⟨x0,x1,x2,x3⟩,⟨s0,s1,s2⟩,⟨c0,c1,c2,c3⟩⟩:=L wr HR;by_cases hj:j<wrap64 (e1+e3)
 .go_wp2;have HJ:=qH hj;clear hj x0 x1 x2 x3 s0 s1 s2 c0 c1 c2 c3;go_loopw[10] (λi wi=>∃k:Int,i=Iq k/\-100000<=k/\Hid (gz K M cap W H n b wc wi)) (λi _=>(wrap64 (e0+e2)-intOf i).toNat);.exact⟨_,rfl,zk,HR⟩
  obtain⟨k,rfl,zi,HQ⟩:=hrel;obtain⟨⟨x0,x1,x2,x3⟩,⟨s0,s1,s2⟩,⟨c0,c1,c2,c3⟩⟩:=L _ HQ;by_cases hk:k<wrap64 (e0+e2);.go_wp2_with(go_at_call 136;refine ag (LQ HQ.out.1 _ _ _ _ _ (by show 1<=b;omega)) ?_;rintro e u3 ⟨rfl,g3⟩);exact⟨⟨_,rfl,(J_ zi hk ze).1,HQ.trans g3⟩,(J_ zi hk ze).2⟩
  .go_wp2;exact⟨⟨_,rfl,(J_ zh HJ zg).1,HQ⟩,(J_ zh HJ zg).2⟩
 .go_wp2;go_end0;exact⟨rfl,H1.trans HR⟩
end
def NS(a b c d e f:Int)(w:AT):Cw 214 #[.agg #[Iq a,Iq b,Iq c],.agg #[Iq d,Iq e,Iq f]] w λe w'=>Of e/\Bq w w':=(Es a b c d e f w).mono λe w' ⟨h,g⟩=>⟨⟨_,_,_,h⟩,g.below⟩
def vE{w:AT}{g n cap:Nat}(h:uy w g n):∀f k,k<f->k<n->∀U,Bq w U->
 Cw 131 #[Sq g n cap,Iq (k:Nat)] U λe U'=>Of e/\Bq U U'
 |0,k,h1,h2,U,X=>dg
 |f+1,k,h1,h2,U,X=>by
  have zy:prog.follows .mixedOrders=true:=pt;obtain⟨kd,ab,t,kp,m,kc,up,N⟩:=h.2 k h2;have zB:=N.u0;have zl:Hid (0<=up->∀u,Bq w u->Cw 131 #[Sq g n cap,Iq up] u λe U'=>Of e/\Bq u U'):=λh0 u hu=>by obtain⟨p,rfl⟩:=db h0;exact vE h f p dg dg u hu
  obtain⟨a9,A9⟩:=N.a 9 dg;obtain⟨D,zg⟩:=N.a 10 dg;obtain⟨E,zh⟩:=N.a 11 dg;have hn:=h.1;have zA:(k:Int)<n:=dg;obtain⟨A,hA⟩:=af U.heap.size;obtain⟨W0,I⟩:=af (U.alloc (.cells #[Iq 0,Iq 0,Iq 0] 107));have G:Bq U W0:=by rw[<-I];exact No
  have zn:W0.heap[A]?=some (.cells #[Iq 0,Iq 0,Iq 0] 107 (0,0)):=by rw[<-I,<-hA];exact heap_alloc_new _ _
  have zo:W0.heap.size=A+1:=by rw[<-I,ai,hA]
  obtain⟨c0,c1,c2,c3,c4⟩:=N.c W0 (X.trans (G.mono X.size));obtain⟨o,Y⟩:=af (W0.alloc (.cells #[Iq kd,Sq ab 12 12,.string t,.slice kp m kc,Iq up] 176));have ze:Bq W0 o:=by rw[<-Y];exact No
  have Z:o.heap[A+1]?=some (.cells #[Iq kd,Sq ab 12 12,.string t,.slice kp m kc,Iq up] 176 (0,0)):=by rw[<-Y,<-zo];exact heap_alloc_new _ _
  have P:=qH (G.trans (ze.mono G.size));have zi:=qH ((ze.block A dg).trans zn);have z1:=cell_of_row _ _ 1 _ _ _ Z;have z4:=cell_of_row _ _ 4 _ _ _ Z;simp only[List.getElem?_toArray,List.getElem?_cons_succ,CZ]at z1 z4;have L:=X.trans (P.mono X.size);have y0:=A9 o L;have y1:=zg o L;have y2:=zh o L;have zv:=World.new_ne o _ z1;have zw:=World.new_ne o _ y0;have HU:=qH X;clear N A9 zg zh Z zn L ze G X;go_enter func131,ntmps131;go_wp2_with fail;go_region_held(λW=>W.cell? (aq (A+1) 1)=some (Sq ab 12 12)/\W.cell? (aq ab 9)=some (Iq a9)/\W.cell? (aq ab 10)=some (Iq D)/\W.cell? (aq ab 11)=some (Iq E)) (go_keep) (fail);obtain⟨B,hB⟩:=af o.heap.size;obtain⟨W2,J⟩:=af (o.alloc (.cells #[Iq a9,Iq D,Iq E] 107)).drew;have i:Bq o W2:=by rw[<-J];exact No.drew
  have O:W2.heap[B]?=some (.cells #[Iq a9,Iq D,Iq E] 107 (0,0)):=by rw[<-J,<-hB];exact heap_alloc_new _ _
  have r:=qH (P.trans (i.mono P.size));have l:=(i.block A (aj.1 zi.out).1).trans zi.out;have x4:=(i.cell (klt z4)).trans z4;obtain⟨s0,s1,s2,_⟩:=vO O;have V:Hid (∀u,Bq W2 u->u.heap[A]?=some (.cells #[Iq 0,Iq 0,Iq 0] 107 (0,0))/\u.heap[B]?=some (.cells #[Iq a9,Iq D,Iq E] 107 (0,0))):=λu hu=>⟨(hu.block A (aj.1 l).1).trans l,(hu.block B (aj.1 O).1).trans O⟩;have zk:Hid (∀u v0 v1 v2,Bq W2 u->Bq U (((u.setCell (aq A 0) v0).setCell (aq A 1) v1).setCell (aq A 2) v2)):=λu v0 v1 v2 hu=>by have hb:=r.trans (hu.mono r.size);exact((hb.setCell (by show _<=A;omega) _).setCell (by show _<=A;omega) _).setCell (by show _<=A;omega) _
  rw[J,hB];clear J i O z1 z4 y0 y1 y2 Y I zo c0 c1 c2 c3 c4 l zv zw;by_cases h0:up<0;.go_wp2_with(go_at_call 214;refine(NS _ _ _ _ _ _ _).mono ?_;rintro e u5 ⟨⟨x,y,z,rfl⟩,s⟩;obtain⟨d,_⟩:=V.out u5 s;have S:=qH d;obtain⟨k0,k1,k2,kf⟩:=vO d;clear d);refine bodyPost_ret (results_cell_row rfl _ _ A _ _ _ _ rfl (pN S) underlying107 rfl pt) rfl ?_;exact⟨⟨_,_,_,rfl⟩,zk _ _ _ _ s⟩
  .have zt:0<=up:=dg;have Db:=qH (zl.out zt);have zr:=qH (HU.trans (r.mono HU.size));clear zl;go_wp2_with(first
    |(go_at_call 131;refine(Db.out _ zr.out).mono ?_;rintro e u5 ⟨⟨b0,b1,b2,rfl⟩,s⟩;have zx:=(r.out.size);have j:Bq W2 u5:=s;obtain⟨C,hC⟩:=af u5.heap.size;obtain⟨W3,zm⟩:=af (u5.alloc (.cells #[Iq b0,Iq b1,Iq b2] 107));have zu:W3.heap[C]?=some (.cells #[Iq b0,Iq b1,Iq b2] 107 (0,0)):=(by rw[<-zm,<-hC];exact heap_alloc_new _ _);have R:Hid (Bq W2 W3):=(by rw[<-zm];exact j.alloc j.size _);obtain⟨l0,l1,l2,_⟩:=vO zu;obtain⟨m0,m1,m2,_⟩:=vO (V.out W3 R.out).2)
    |(go_at_call 214;refine(NS _ _ _ _ _ _ _).mono ?_;rintro e u6 ⟨⟨x,y,z,rfl⟩,zq⟩;have zj:=qH<|R.out.trans (zq.mono R.out.size);obtain⟨d,_⟩:=V.out u6 zj.out;have S:=qH d;obtain⟨k0,k1,k2,kf⟩:=vO d;clear d));refine bodyPost_ret (results_cell_row rfl _ _ A _ _ _ _ rfl (pN S) underlying107 rfl pt) rfl ?_;exact⟨⟨_,_,_,rfl⟩,zk _ _ _ _ zj⟩
def qM{w u:AT}{M g o:Nat}{v:Fd}(k:w.grownBy u (some M))(h:w.cell? (aq g o)=some v)(a:g≠M):u.cell? (aq g o)=some v:=k.cell h λe=>a (by injection e)
section
variable{K M cp W H c b:Nat}
def Hn{w U:AT}{g n cap l pc k:Nat}(h:uy w g n)(hU:Bq w U)(hM:w.heap.size<=M)(hP:KB U l (n*10) KZ)(St:l≠M)(hK:KK K M cp W H c b U)(hb:20<=b)(h2:k<n):
 Cw 88 #[Pq K,Sq g n cap,Sq l n pc,Iq (k:Nat)] U λe U'=>qL e/\gz K M cp W H c b U U':=by
 have QW:prog.follows .mixedOrders=true:=pt;obtain⟨kd,ab,t,kp,m,kc,up,N⟩:=h.2 k h2;have hn:=h.1;have TY:=N.tl;have hk:(k:Int)<n:=dg;obtain⟨a6,A6⟩:=N.a 6 dg;obtain⟨a7,A7⟩:=N.a 7 dg;obtain⟨a8,A8⟩:=N.a 8 dg;obtain⟨zG,zx⟩:=N.a 10 dg;obtain⟨c0,c1,c2,c3,c4⟩:=N.c U hU;clear N;obtain⟨V,hV,bV,HV⟩:=Ih U kd up ab m kc t kp;obtain⟨x,I⟩:=(hP.below bV).z (j:=k*10) dg;obtain⟨y,O⟩:=(hP.below bV).z (j:=k*10+1) dg;obtain⟨z,J⟩:=(hP.below bV).z (j:=k*10+2) dg;obtain⟨q,R⟩:=(hP.below bV).z (j:=k*10+3) dg;obtain⟨cx,L⟩:=(hP.below bV).z (j:=k*10+4) dg;obtain⟨cy,S⟩:=(hP.below bV).z (j:=k*10+5) dg;obtain⟨ca,Y⟩:=(hP.below bV).z (j:=k*10+6) dg;obtain⟨cb,Z⟩:=(hP.below bV).z (j:=k*10+7) dg;obtain⟨d,zH⟩:=af U.heap.size;have XW:V.heap.size=d+1:=by rw[<-hV,ai,zH]
 obtain⟨W2,zw⟩:=af (V.alloc (.cells #[Iq x,Iq y,Iq z,Iq q] 123));have bW:Bq V W2:=by rw[<-zw];exact No
 have zl:=qH (bV.trans (bW.mono bV.size));have zu:=qH (hU.trans (zl.mono hU.size));have ST:=qH (vE (cap:=cap) h n k h2 h2 W2 zu);have hr:W2.heap[d+1]?=some (.cells #[Iq x,Iq y,Iq z,Iq q] 123 (0,0)):=by rw[<-zw,<-XW];exact heap_alloc_new _ _
 have zv:=qH hK.kb.1;have G:Hid (∀u,W2.grownBy u (some M)->(u.cell? (aq d 0)=some (Iq kd)/\u.cell? (aq d 1)=some (Sq ab 12 12)/\u.cell? (aq d 2)=some (.string t)/\u.cell? (aq d 3)=some (.slice kp m kc)/\u.cell? (aq d 4)=some (Iq up))/\(u.cell? (aq (d+1) 0)=some (Iq x)/\u.cell? (aq (d+1) 1)=some (Iq y)/\u.cell? (aq (d+1) 2)=some (Iq z)/\u.cell? (aq (d+1) 3)=some (Iq q))/\(u.cell? (aq l (k*10+4))=some (Iq cx)/\u.cell? (aq l (k*10+5))=some (Iq cy)/\u.cell? (aq l (k*10+6))=some (Iq ca)/\u.cell? (aq l (k*10+7))=some (Iq cb))/\(u.cell? (aq ab 6)=some (Iq a6)/\u.cell? (aq ab 7)=some (Iq a7)/\u.cell? (aq ab 8)=some (Iq a8)/\u.cell? (aq ab 10)=some (Iq zG))):=λu hu=>by
  have HN:=HV W2 bW;rw[zH]at HN;obtain⟨h0,h1,h2,h3,h4⟩:=HN;have C:d≠M:=by have:=zv.out;omega
  have e2:d+1≠M:=by have:=zv.out;omega
  have zk:Bq w u:=zu.grown hu zu.size λq e=>by injection e;omega
  have P:=λj v (hj:V.cell? (aq l j)=some v)=>qM hu ((bW.cell (klt hj)).trans hj) St;exact⟨⟨qM hu h0 C,qM hu h1 C,qM hu h2 C,qM hu h3 C,qM hu h4 C⟩,⟨qM hu (cell_of_row _ _ 0 _ _ _ hr) e2,qM hu (cell_of_row _ _ 1 _ _ _ hr) e2,qM hu (cell_of_row _ _ 2 _ _ _ hr) e2,qM hu (cell_of_row _ _ 3 _ _ _ hr) e2⟩,⟨P _ _ L,P _ _ S,P _ _ Y,P _ _ Z⟩,A6 u zk,A7 u zk,A8 u zk,zx u zk⟩
 have zC:=qH (hK.refl.below zl);clear h hU hP hK A6 A7 A8 zx L S Y Z hr;go_enter func88,ntmps88;go_wp2_with fail;refine ag ST.out ?_;rintro e w3 ⟨⟨f,g0,o,rfl⟩,b3⟩;clear ST c0 c1 c2 c3 c4 I O J R hV zw;obtain⟨A,XN⟩:=af w3.heap.size;obtain⟨W4,zi⟩:=af (w3.alloc (.cells #[Iq f,Iq g0,Iq o] 107));have b4:Bq W2 W4:=by rw[<-zi];exact b3.alloc b3.size _
 have zT:W4.heap[A]?=some (.cells #[Iq f,Iq g0,Iq o] 107 (0,0)):=by rw[<-zi,<-XN];exact heap_alloc_new _ _
 have zq:=qH (zC.below b4);have E:Hid (∀u,gz K M cp W H c b W4 u->W2.grownBy u (some M)/\u.cell? (aq A 0)=some (Iq f)/\u.cell? (aq A 1)=some (Iq g0)/\u.cell? (aq A 2)=some (Iq o)):=λu hu=>by
  have C:A≠M:=by have:=zv.out;have:=zl.size;have:=b3.size;omega
  obtain⟨p0,p1,p2,_⟩:=vO zT;exact⟨(show W2.grownBy W4 (some M)from⟨b4.os,b4.tape,b4.output,b4.size,λi hi _=>b4.block i hi⟩).trans hu.2,qM hu.2 p0 C,qM hu.2 p1 C,qM hu.2 p2 C⟩
 have zt:=qH zq.1.refl;obtain⟨zL,p0,p1,p2⟩:=E W4 zt;obtain⟨⟨n0,n1,n2,n3,n4⟩,⟨I,O,J,R⟩,⟨L,S,Y,Z⟩,y6,y7,y8,ze⟩:=G W4 zL;clear zT b4 b3 zC bW zL;try rw[zi]
 go_upto_if 36 with fail;clear zi;go_cut[36]from 37 to 45 (λ_ wx=>Hid (gz K M cp W H c b W4 wx))
 .by_cases _F:0<zG;.have PE:=qH (zt.below ((ac _ W4).drew));go_wp2_with fail;go_region_held(λu=>(u.cell? (aq (d+1) 0)=some (Iq x)/\u.cell? (aq (d+1) 1)=some (Iq y)/\u.cell? (aq (d+1) 2)=some (Iq z)/\u.cell? (aq (d+1) 3)=some (Iq q))/\(u.cell? (aq A 0)=some (Iq f)/\u.cell? (aq A 1)=some (Iq g0)/\u.cell? (aq A 2)=some (Iq o))/\(u.cell? (aq l (k*10+4))=some (Iq cx)/\u.cell? (aq l (k*10+5))=some (Iq cy)/\u.cell? (aq l (k*10+6))=some (Iq ca)/\u.cell? (aq l (k*10+7))=some (Iq cb))) (go_keep) (first
    |(go_at_call 132;refine ag (Rf PE.out.1 _ _ _ _ _ _ _ _ _ _ _) ?_;rintro e u5 ⟨rfl,g5⟩;have P5:=qH<|PE.out.trans g5;obtain⟨j0,j1,j2,j3⟩:=E.out u5 P5.out;obtain⟨_,⟨l0,l1,l2,l3⟩,⟨m0,m1,m2,m3⟩,_⟩:=G.out u5 j0;clear j0 g5));all_goals go_wp2_with fail;go_meet;exact P5
  .go_wp2_with fail;go_meet;exact zt
 have H5:=hcut;obtain⟨W5,rfl⟩:=xX wc;clear hcut p0 p1 p2 n0 n1 n2 n3 n4 I O J R L S Y Z y6 y7 y8 ze;obtain⟨zM,p0,p1,p2⟩:=E W5 H5;obtain⟨⟨n0,n1,n2,n3,n4⟩,⟨I,O,J,R⟩,⟨L,S,Y,Z⟩,y6,y7,y8,ze⟩:=G W5 zM;go_wp2_with fail;refine(Rb _ _ _ _ _ _ _ _ _ _ _ _ y6).mono ?_;rintro e w6 ⟨⟨bd,rfl⟩,b6⟩;have H6:=qH (H5.below b6);clear p0 p1 p2 n0 n1 n2 n3 n4 I O J R L S Y Z y6 y7 y8 ze zM b6 H5;go_upto_if 48 with fail;go_cut[48]from 49 to 96 (λ_ wx=>Hid (gz K M cp W H c b W4 wx))
 .obtain⟨W6,rfl⟩:=xX w6;cases bd;.go_wp2_with fail;go_meet;exact H6
  .obtain⟨zN,p0,p1,p2⟩:=E W6 H6;obtain⟨_,⟨I,O,J,R⟩,⟨L,S,Y,Z⟩,_⟩:=G W6 zN;have ZS:=World.new_ne W6 _ I;have ZT:=World.new_ne W6 _ L;have HE:Hid (Bq W6 W6.drew):=Ok.drew;have zo:Hid (Bq W6 (W6.alloc (.cells #[Iq 0,Iq 0,Iq 0,Iq 0] 123)).drew):=No.drew;have zy:Hid (∀u,Bq W6 u->(u.cell? (aq (d+1) 0)=some (Iq x)/\u.cell? (aq (d+1) 1)=some (Iq y)/\u.cell? (aq (d+1) 2)=some (Iq z)/\u.cell? (aq (d+1) 3)=some (Iq q))/\(u.cell? (aq l (k*10+4))=some (Iq cx)/\u.cell? (aq l (k*10+5))=some (Iq cy)/\u.cell? (aq l (k*10+6))=some (Iq ca)/\u.cell? (aq l (k*10+7))=some (Iq cb))):=λu hu=>by obtain⟨_,a,b,_⟩:=G u (E u (H6.below hu)).1;exact⟨a,b⟩
   clear zN p0 p1 p2;go_upto_region 6 with fail;go_cut[11]from 49 to 55 (UU W6);.go_region_held(λu=>(u.cell? (aq (d+1) 0)=some (Iq x)/\u.cell? (aq (d+1) 1)=some (Iq y)/\u.cell? (aq (d+1) 2)=some (Iq z)/\u.cell? (aq (d+1) 3)=some (Iq q))/\(u.cell? (aq l (k*10+4))=some (Iq cx)/\u.cell? (aq l (k*10+5))=some (Iq cy)/\u.cell? (aq l (k*10+6))=some (Iq ca)/\u.cell? (aq l (k*10+7))=some (Iq cb))) (go_keep) (first
     |(go_at_call 134;refine ag (Hd _ _ _ _ _ _ _ _ _) ?_;rintro e v2 ⟨⟨g0,g1,g2,g3,rfl,m0,m1⟩,zm⟩;have E6:Hid (Bq W6 v2):=(by first|exact HE.out.trans zm|exact zo.out.trans (zm.mono zo.out.size));obtain⟨⟨t0,t1,t2,t3⟩,⟨t4,t5,t6,t7⟩⟩:=zy.out v2 E6.out;have ne6:=World.new_ne v2 _ t0;have ne7:=World.new_ne v2 _ t4;(try(have ZB:=qH ((zm.block W6.heap.size (by simp[World.drew])).trans (vL W6 (.cells #[Iq 0,Iq 0,Iq 0,Iq 0] 123)));obtain⟨zb0,zb1,zb2,zb3,zb4⟩:=Pf ZB.out))));all_goals
     go_wp2_with fail;go_meet;first
      |exact⟨_,_,_,_,_,rfl,Ij ZB,LE,(((E6.setCell LE _).setCell LE _).setCell LE _).setCell LE _,m0,m1⟩
      |exact⟨_,_,_,_,_,rfl,vL _ _,E6.size,E6.alloc E6.size _,m0,m1⟩
   obtain⟨X,e0,C,e2,e3,rfl,HX,hX,zU,Yf,Vg⟩:=hcut;obtain⟨W8,rfl⟩:=xX wc;have H8:=qH (H6.below zU);have zg:=qH H8.1.refl;have r:Hid (∀u,gz K M cp W H c b W8 u->gz K M cp W H c b W4 u/\(u.cell? (aq X 0)=some (Iq e0)/\u.cell? (aq X 1)=some (Iq C)/\u.cell? (aq X 2)=some (Iq e2)/\u.cell? (aq X 3)=some (Iq e3))/\(u.cell? (aq (d+1) 0)=some (Iq x)/\u.cell? (aq (d+1) 1)=some (Iq y)/\u.cell? (aq (d+1) 2)=some (Iq z)/\u.cell? (aq (d+1) 3)=some (Iq q))/\(u.cell? (aq A 0)=some (Iq f)/\u.cell? (aq A 1)=some (Iq g0)/\u.cell? (aq A 2)=some (Iq o))/\(u.cell? (aq l (k*10+4))=some (Iq cx)/\u.cell? (aq l (k*10+5))=some (Iq cy)/\u.cell? (aq l (k*10+6))=some (Iq ca)/\u.cell? (aq l (k*10+7))=some (Iq cb))):=λu hu=>by
    have C:X≠M:=by have:=H6.1.kb.1;omega
    have T:=H8.trans hu;obtain⟨a0,a1⟩:=E u T;obtain⟨_,a2,a3,_⟩:=G u a0;exact⟨T,⟨qM hu.2 (cell_of_row _ _ 0 _ _ _ HX) C,qM hu.2 (cell_of_row _ _ 1 _ _ _ HX) C,qM hu.2 (cell_of_row _ _ 2 _ _ _ HX) C,qM hu.2 (cell_of_row _ _ 3 _ _ _ HX) C⟩,a2,a1,a3⟩
   obtain⟨_,⟨x0,x1,x2,x3⟩,_⟩:=r W8 zg;clear I O J R L S Y Z ZS ZT HE zo zy;have zK:=qH (ib (C+e3));have zh:=qH (ib (e0+e2));go_wp2;clear x0 x1 x2 x3;go_loopw[12] (λi wr=>∃j:Int,i=Iq j/\-100000<=j/\Hid (gz K M cp W H c b W8 wr)) (λi _=>(wrap64 (C+e3)-intOf i).toNat);.exact⟨_,rfl,Vg,zg⟩
   obtain⟨j,rfl,zR,HR⟩:=hrel;obtain⟨_,⟨x0,x1,x2,x3⟩,_⟩:=r wr HR;by_cases hj:j<wrap64 (C+e3)
   .go_wp2;have HJ:=qH hj;clear hj x0 x1 x2 x3;go_loopw[13] (λi wi=>∃k:Int,i=Iq k/\-100000<=k/\Hid (gz K M cp W H c b W8 wi)) (λi _=>(wrap64 (e0+e2)-intOf i).toNat);.exact⟨_,rfl,Yf,HR⟩
    obtain⟨i,rfl,zj,HQ⟩:=hrel;obtain⟨_,⟨x0,x1,x2,x3⟩,⟨I,O,J,R⟩,⟨p0,p1,p2⟩,⟨L,S,Y,Z⟩⟩:=r _ HQ;by_cases hi:i<wrap64 (e0+e2)
    .go_wp2_with(go_at_call 135;refine(Re _ _ _ _ _ _ _).mono ?_;rintro e v1 ⟨⟨ed,rfl⟩,b1⟩;have Q1:=qH<|HQ.out.below b1);all_goals first
      |exact⟨⟨_,rfl,(J_ zj hi zh).1,Q1⟩,(J_ zj hi zh).2⟩
      |skip
     obtain⟨ex,hex,WR⟩:=Rv ed;replace WR:=qH WR;clear x0 x1 x2 x3 I O J R p0 p1 p2 L S Y Z;obtain⟨_,_,_,⟨p0,p1,p2⟩,⟨L,S,Y,Z⟩⟩:=r _ Q1;have Q2:=qH (Q1.below ((ac _ v1).drew));go_region_held(λu=>(u.cell? (aq A 0)=some (Iq f)/\u.cell? (aq A 1)=some (Iq g0)/\u.cell? (aq A 2)=some (Iq o))/\(u.cell? (aq l (k*10+4))=some (Iq cx)/\u.cell? (aq l (k*10+5))=some (Iq cy)/\u.cell? (aq l (k*10+6))=some (Iq ca)/\u.cell? (aq l (k*10+7))=some (Iq cb))) (go_keep) (first
      |(go_at_call 137;refine ag (WR.out _) ?_;rintro e u2 ⟨rfl,g2⟩;have Q3:=qH<|Q2.out.below g2;obtain⟨_,_,_,⟨a0,a1,a2⟩,⟨a3,a4,a5,_a⟩⟩:=r.out u2 Q3.out;clear g2)
      |(go_at_call 136;refine ag (LQ Q3.out.1 _ _ _ _ _ dg) ?_;rintro e u3 ⟨rfl,g3⟩;have Q4:=qH<|Q3.out.trans g3;obtain⟨_,_,_,⟨d0,d1,d2⟩,⟨d3,d4,d5,d6⟩⟩:=r.out u3 Q4.out;clear g3));all_goals go_wp2_with fail;exact⟨⟨_,rfl,(J_ zj hi zh).1,Q4⟩,(J_ zj hi zh).2⟩
    .go_wp2;exact⟨⟨_,rfl,(J_ zR HJ zK).1,HQ⟩,(J_ zR HJ zK).2⟩
   .go_wp2;go_meet;exact(r _ HR).1
 have H7:=hcut;obtain⟨W7,rfl⟩:=xX wc;clear hcut H6;obtain⟨zO,p0,p1,p2⟩:=E W7 H7;obtain⟨⟨n0,n1,n2,n3,n4⟩,⟨I,O,J,R⟩,⟨L,S,Y,Z⟩,y6,y7,y8,ze⟩:=G W7 zO;by_cases h5:kd=5
 .subst h5;go_wp2_with fail;refine(Rq _ _ _ _ _ _ _ _ _ _ TY y8).mono ?_;rintro e w8 ⟨⟨v,ln,rfl,hln,K8⟩,b8⟩;obtain⟨p,pc',rfl,HP⟩:=K8.sl;have XQ:=qH H7.1.kb.1;have H8:=qH (H7.below b8);have zg:=qH H8.1.refl;have r:Hid (∀u,gz K M cp W H c b w8 u->gz K M cp W H c b W4 u/\(∀j,j<ln->∃D T,p=some (aq D 0)/\u.cell? (aq D j)=some (.string T)/\T.size<=80004)/\(u.cell? (aq d 1)=some (Sq ab 12 12)/\u.cell? (aq ab 7)=some (Iq a7))/\(u.cell? (aq (d+1) 0)=some (Iq x)/\u.cell? (aq (d+1) 1)=some (Iq y)/\u.cell? (aq (d+1) 2)=some (Iq z)/\u.cell? (aq (d+1) 3)=some (Iq q))/\(u.cell? (aq A 0)=some (Iq f)/\u.cell? (aq A 1)=some (Iq g0)/\u.cell? (aq A 2)=some (Iq o))/\(u.cell? (aq l (k*10+4))=some (Iq cx)/\u.cell? (aq l (k*10+5))=some (Iq cy)/\u.cell? (aq l (k*10+6))=some (Iq ca)/\u.cell? (aq l (k*10+7))=some (Iq cb))):=λu hu=>by have T:=H8.trans hu;obtain⟨a0,a1⟩:=E u T;obtain⟨⟨_,n1,_⟩,a2,a3,_,a7,_⟩:=G u a0;refine⟨T,λj hj=>?_,⟨n1,a7⟩,a2,a1,a3⟩;obtain⟨D,rfl,hB,HB⟩:=HP dg;obtain⟨_,_,d0,T,rfl,hT⟩:=HB.2 j dg;exact⟨D,T,rfl,qM hu.2 d0 (by have:=XQ.out;omega),hT⟩
  clear p0 p1 p2 n0 n1 n2 n3 n4 I O J R L S Y Z y6 y7 y8 ze zO b8 K8 HP;go_wp2;go_loopw[16] (λi wr=>∃j:Nat,i=Iq j/\j<=ln/\Hid (gz K M cp W H c b w8 wr)) (λi _=>ln-(intOf i).toNat);.exact⟨0,rfl,dg,zg⟩
  obtain⟨j,rfl,hj,HR⟩:=hrel;by_cases Sp:j<ln;.have zS:(j:Int)<ln:=dg;obtain⟨_,HL,⟨n1,y7⟩,⟨I,O,J,R⟩,_⟩:=r wr HR;obtain⟨D,T,rfl,d0,hT⟩:=HL j Sp;have zA:Hid (∀u,Bq wr u->(u.cell? (aq D j)=some (.string T)/\u.cell? (aq (d+1) 2)=some (Iq z)/\u.cell? (aq d 1)=some (Sq ab 12 12)/\u.cell? (aq ab 7)=some (Iq a7))/\u.cell? (aq (d+1) 0)=some (Iq x)):=λu hu=>⟨⟨aV hu d0,aV hu J,aV hu n1,aV hu y7⟩,aV hu I⟩;have HE:Hid (Bq wr wr.drew):=Ok.drew;clear HL;go_wp2_with fail;go_region_held(λu=>u.cell? (aq D j)=some (.string T)/\u.cell? (aq (d+1) 2)=some (Iq z)/\u.cell? (aq d 1)=some (Sq ab 12 12)/\u.cell? (aq ab 7)=some (Iq a7)) (go_keep) (first
    |(go_at_call 140;refine ag (OR T _ _ _ dg) ?_;rintro e u2 ⟨⟨T2,rfl,XT⟩,g2⟩;have E2:=qH<|HE.out.trans g2;obtain⟨⟨a0,a1,a2,a3⟩,a4⟩:=zA.out u2 E2.out;clear g2)
    |(go_at_call 139;refine ag (jN T2 _ dg) ?_;rintro e u3 ⟨⟨v3,cn,rfl,_W,K3⟩,g3⟩;have E3:=qH<|E2.out.trans (g3.mono E2.out.size);have zD:=qH K3;have zI:=qH E2.out.size;obtain⟨⟨d0,d1,d2,d3⟩,d4⟩:=zA.out u3 E3.out;clear g3 K3));all_goals
    obtain⟨p3,cc,rfl,zr⟩:=zD.sl;have zJ:=qH HR.1.kb.1;have H9:=qH (HR.below E3);have zn:Hid (∀u,gz K M cp W H c b u3 u->gz K M cp W H c b w8 u/\∀i,i<cn->∃D t w,p3=some (aq D 0)/\u.cell? (aq D (i*2))=some (.string t)/\u.cell? (aq D (i*2+1))=some (Iq w)/\t.size<=20):=λu hu=>by
     refine⟨H9.trans hu,λi hi=>?_⟩;obtain⟨D,rfl,hB,HB⟩:=zr dg;obtain⟨_,_,f0,f1,_⟩:=HB.2 (i*2) dg;obtain⟨s,rfl,hs⟩:=f1 dg;obtain⟨_,_,f2,_,f3⟩:=HB.2 (i*2+1) dg;obtain⟨w',rfl,_⟩:=f3 dg;have ne:D≠M:=by have:=zJ.out;have:=zI.out;omega
     exact⟨D,s,w',rfl,qM hu.2 f0 ne,qM hu.2 f2 ne,hs⟩
    have zX:=qH H9.1.refl;have zV:Hid (∀i,i<cn->∀D,p3=some (aq D 0)->D≠M):=λi hi D e=>by obtain⟨pg',rfl,hB,_⟩:=zr dg;have:=zJ.out;have:=zI.out;injection e with e;injection e;omega
    clear zr zD a0 a1 a2 a3 a4 d0 d1 d2 d3 n1 y7 I O J R;go_wp2;clear d4;go_loopw[18,19] (λa i wi=>∃(ii:Nat) (zz:Int),i=Iq ii/\a=Iq zz/\ii<=cn/\Hid (gz K M cp W H c b u3 wi)) (λ_ i _=>cn-(intOf i).toNat);.exact⟨0,_,rfl,rfl,dg,zX⟩
    obtain⟨ii,zz,rfl,rfl,_9,HQ⟩:=hrel;by_cases zP:ii<cn;.have zQ:(ii:Int)<cn:=dg;obtain⟨zF,zE⟩:=zn _ HQ;obtain⟨gg,tt,ww,rfl,zY,zZ,htt⟩:=zE ii zP;obtain⟨_,_,_,⟨I,O,J,R⟩,⟨p0,p1,p2⟩,⟨L,S,Y,Z⟩⟩:=r _ zF;have zB:=qH (HQ.below (Ok.drew));clear zE zF;go_wp2_with fail;go_region_held(λu=>u.cell? (aq (d+1) 1)=some (Iq y)/\(u.cell? (aq gg (ii*2))=some (.string tt)/\u.cell? (aq gg (ii*2+1))=some (Iq ww))/\(u.cell? (aq A 0)=some (Iq f)/\u.cell? (aq A 1)=some (Iq g0)/\u.cell? (aq A 2)=some (Iq o))/\(u.cell? (aq l (k*10+4))=some (Iq cx)/\u.cell? (aq l (k*10+5))=some (Iq cy)/\u.cell? (aq l (k*10+6))=some (Iq ca)/\u.cell? (aq l (k*10+7))=some (Iq cb))) (go_keep) (first
      |(go_at_call 136;refine ag (LQ zB.out.1 _ _ _ _ _ dg) ?_;rintro e u4 ⟨rfl,g4⟩;have Q4:=qH<|zB.out.trans g4;have neg:gg≠M:=(zV.out ii zP gg rfl);have _D:=qM g4.2 zY neg;have _E:=qM g4.2 zZ neg;obtain⟨_,_,_,⟨_,_f,_,_⟩,⟨_g,_h,_i⟩,⟨_j,_k,_l,_m⟩⟩:=r.out u4 (zn.out u4 Q4.out).1;clear g4));all_goals go_wp2_with fail;exact⟨⟨ii+1,_,by go_num,rfl,dg,Q4⟩,by simp only[intOf];omega⟩
    .have zQ:¬(ii:Int)<cn:=dg;go_wp2;exact⟨⟨j+1,by go_num,dg,(zn _ HQ).1⟩,by simp only[intOf];omega⟩
  .have zS:¬(j:Int)<ln:=dg;go_wp2;go_end0;exact⟨rfl,zq.trans (r _ HR).1⟩
 .have e5:(kd==5)=false:=by simpa using h5
  go_wp2;go_end0;exact⟨rfl,zq.trans H7⟩
end
def J4(W H:Int)(w:AT)(e:Ending)(w':AT):Prop:=Bq w w'/\((∃x y,e=Rw (.tuple #[.slice none 0 0,.slice none 0 0,Iq x,Iq y])/\x≠0)\/∃g n cap pb pc,e=Rw (.tuple #[Sq g n cap,Sq pb n pc,Iq 0,Iq 0])/\uy w' g n/\KB w' pb (n*10) KZ/\1<=W/\W<=400/\1<=H/\H<=400)
def Xb(w:AT)(e:Ending)(w':AT):Prop:=Bq w w'/\∃p n cap x y,e=Rw (.tuple #[.slice p n cap,Iq x,Iq y])/\n<=160000/\(0<n->∃M,p=some (aq M 0)/\w.heap.size<=M/\KB w' M (n*5) (xU n 20))
def O0{t:BY}{W H:Int}{v:Fd}{w:AT}(s:Cw 49 #[.string t,Iq W,Iq H,v] w λe w'=>J4 W H w e w'):Cw 53 #[.string t,Iq W,Iq H,v] w λe w'=>Xb w e w':=by
 replace s:=qH s;go_enter func53,ntmps53;go_wp2_with fail;refine ag s.out ?_;rintro e w1 ⟨a,⟨x,y,rfl,hx⟩|⟨g,n,cap,pb,I,rfl,N,P,zg,w2,h1,h2⟩⟩
 .have ze:(x !=0)=true:=by simpa using hx
  go_wp2;go_ret3;exact⟨a,none,0,0,_,_,rfl,dg,λh=>dg⟩
 .obtain⟨W,rfl⟩:=db (by omega:0<=W);obtain⟨H,rfl⟩:=db (by omega:0<=H);replace a:=qH a;have O:=qH N;have C:=qH P;have hn:=N.1;clear N P s;go_wp2_with fail;refine(Hk W H 20 dg _).mono ?_;rintro e z o;obtain⟨K,M,cp,S,J,c,rfl,U,V,k,D,E,l⟩:=o.resolve_left λq=>q.2.2 dg;clear o;obtain rfl:W=S:=dg;obtain rfl:H=J:=dg;have L:=qH k.refl;have A:=qH (And.intro D E);replace l:=qH l;clear k D E U V;go_wp2;go_loopw[17] (λi wr=>∃j:Nat,i=Iq j/\j<=n/\Hid (gz K M cp W H c 20 z wr)) (λi _=>n-(intOf i).toNat);.exact⟨0,rfl,dg,L⟩
  obtain⟨j,rfl,hj,d⟩:=hrel;by_cases u:j<n
  .have r:(j:Int)<n:=dg;have G:=A.out;have f:Bq w1 wr:=l.grown d.2 l.size λq e=>by injection e;omega
   have Z:pb≠M:=by have:=C.1;omega
   have R:=qH (Hn (cap:=cap) (pc:=I) O f G.2 (C.below f) Z d.1 LE u);clear f;go_wp2_with(go_at_call 88;refine ag R.out ?_;rintro e u3 ⟨rfl,X⟩);exact⟨⟨j+1,by go_num,dg,d.trans X⟩,by simp only[intOf];omega⟩
  .have r:¬(j:Int)<n:=dg;have k2:=d.1.c2;have nb:=d.1.nb;have G:=A.out;go_wp2;go_ret3;have Y:Bq w wr:=(a.trans (l.mono a.size)).grown d.2 (by have:=a.size;have:=l.size;omega) λq e=>by injection e;have:=a.size;omega
   exact⟨Y,_,c,cp,_,_,rfl,nb,λ_=>⟨M,rfl,by have:=a.size;omega,d.1.kb⟩⟩
section
variable{T K M cap W H n b B bc F M0:Nat} {hf:BY} {w0 w:AT}
def ka.newC{a d cap' b':Nat}(h:ka T K M cap W H n b B bc hf w)(k:KK a d cap' W H n b' w)(f:a≠T/\d≠T/\a≠B/\d≠B):ka T a d cap' W H n b' B bc hf (w.setCell (aq T 0) (Pq a)):=by obtain⟨A,C,l,D,E⟩:=h.ne;refine⟨h.tb.setP 0 _ ⟨λ_=>rfl,λe=>dg,λe=>dg,λe=>dg,λe=>dg,λe=>dg,λe=>dg⟩ λj u i ⟨G,o,r,s,x,y,z⟩=>⟨λe=>absurd e i,o,r,s,x,y,z⟩,k.of (by simp[World.setCell]) (aM _ _ _ a f.1) (aM _ _ _ d f.2.1),h.bb.set _ _ _ λe=>absurd e l,?_⟩;omega
def ZN{Bb m:Nat}{v:Fd}(h:gA T W H n B bc F M0 w0 hf w)(c:Int)(L:KR w Bb 3 1 v m KZ)(m1:1<=m)(m2:m<=16):Cw 198 #[Pq T,.int .u8 c,v] w λe w'=>qL e/\gA T W H n B bc F M0 w0 hf w':=by
 have ze:prog.follows .mixedOrders=true:=pt;have G:=qH h;have N:=qH λf g o=>OS f g o w L m1 m2;obtain⟨lb,lc,rfl,_,KL⟩:=L.kb dg;obtain⟨_,_,l0,x0,rfl⟩:=KL.2 0 dg;obtain⟨J,z⟩:∃J,1<m->w.cell? (aq lb 1)=some (Iq J):=by
  by_cases C:1<m;.obtain⟨_,_,l1,J,rfl⟩:=KL.2 1 dg;exact⟨J,λ_=>l1⟩
  .exact⟨0,λe=>absurd e C⟩
 replace z:=qH z;obtain⟨K,M,cap,b,h,hF,k3,V⟩:=h;obtain⟨x,y,f,g,o,la,mk,⟨t0,t1,t2,t3,t4,t5,t6,t7,t8,t9⟩,hx,hy,hl⟩:=h.at;have k0:=h.kk.c0;have k1:=h.kk.c1;have Z:=h.kk.sz;have nb:=h.kk.nb;have z0:=h.fz 0 dg;have z1:=h.fz 1 dg;have z2:=h.fz 2 dg;have z3:=h.fz 3 dg;have z4:=h.fz 4 dg;have z5:=h.fz 5 dg;obtain⟨n1,n2,n3,n4,n5⟩:=h.ne;have n6:=Ne.symm n1;have s:=qH h;have P:=qH k3;have HF:=qH hF;have zg:=qH V;clear L KL h k3;obtain⟨s1,s2,s3,s4,s5,_⟩:=Z;clear s5;rcases(by omega:c=72\/c=74\/c=109\/(c≠72/\c≠74/\c≠109))with rfl|rfl|rfl|⟨c1,c2,c3⟩
 .rcases(by omega:m=1\/1<m)with C|C;focus subst C
  rotate_left;focus have l1:=z C
  rotate_left;all_goals
   try have zh:(1:Int)<m:=dg
   clear z N;go_enter func198,ntmps198;go_wp2_with(first|(go_at_call 44;refine Ut (kZ _ _ _) ?_;rintro u6 U;obtain rfl:=U.symm)|(go_at_call 211;refine Ut (pJ _ _ _) ?_;rintro u6 U;obtain rfl:=U.symm));go_end0;exact⟨rfl,(G.setT 2 _ (nw _ dg)).setT 1 _ (nw _ dg)⟩
 .clear N z;rcases(by omega:x0=2\/x0≠2)with rfl|hx0;.go_enter func198,ntmps198;go_wp2_with fail;have HE:Hid (Bq w w.drew):=Ok.drew;have X:Hid (T<w.heap.size/\B<w.heap.size):=⟨s.tb.1,s.bb.1⟩;go_region_held(λu=>u.cell? (aq T 0)=some (Pq K)/\u.cell? (aq K 0)=some (Iq W)/\u.cell? (aq K 1)=some (Iq H)) (go_keep) (first|(go_at_call 40;refine(Rn s.out.kk s.out.kk.sz.2.2.2.2.2 _).mono ?_;rintro e u5 ⟨S,M',cap',rfl,I,g1,g2,D⟩;have I:=qH I;have O:=qH<|HE.out.trans D;have r:=qH<|s.out.below O.out;have E:Hid (w.heap.size<=S/\w.heap.size<=M'):=⟨g1,g2⟩;obtain⟨_,_,_,_,_,_,_,⟨q0,q1,q2,q3,q4,q5,q6,q7,q8,q9⟩,_⟩:=r.out.at;have p0:=r.out.kk.c0;have p1:=r.out.kk.c1;have u0:=r.out.fz 0 dg;clear g1 g2 D));all_goals
    have H6:Hid (gA T W H n B bc F M0 w0 hf (u5.setCell (aq T 0) (Pq S))):=⟨S,M',cap',b,r.newC I (by have:=X.out;have:=E.out;omega),HF,(P.below O).set _ _ _ (.inl rfl),by have:=E.out;have:=P.size;omega,V.2.1,V.2.2.1,λl=>absurd l (by have:=E.out;have:=P.size;omega)⟩;clear I r O E;go_wp2_with fail;go_loopw[10] (λi wr=>∃j:Nat,i=Iq j/\j<=n/\Hid (gA T W H n B bc F M0 w0 hf wr)) (λi _=>n-(intOf i).toNat);.exact⟨0,rfl,dg,H6⟩
    obtain⟨j,rfl,hj,R⟩:=hrel;obtain⟨_,_,_,_,k,_⟩:=R.out;obtain⟨_,_,_,_,_,_,_,⟨_,_,_,_,_,_,_,_,_,v9⟩,_⟩:=k.at;by_cases Y:j<n;.have A:(j:Int)<n:=dg;obtain⟨zb,_,d,⟨_,rfl⟩⟩:=k.bb.2 j Y;clear k;go_wp2;exact⟨⟨j+1,by go_num,dg,R.setB _ _⟩,by simp only[intOf];omega⟩
    .have A:¬(j:Int)<n:=dg;go_wp2;go_end0;exact⟨rfl,R⟩
  .have e0:(x0==2)=false:=by simpa using hx0
   go_enter func198,ntmps198;go_wp2;go_end0;exact⟨rfl,G⟩
 .go_enter func198,ntmps198;go_wp2_with(go_at_call 263;refine ag (N.out _ _ _) ?_;rintro e u5 ⟨⟨a,b',c',rfl⟩,D⟩;have H5:=qH (G.out.below D);obtain⟨_,_,_,_,k,_⟩:=H5.out;obtain⟨x',y',f',g',o',zi,zj,⟨q0,q1,q2,q3,q4,q5,q6,q7,q8,q9⟩,_⟩:=k.at;have u3:=k.fz 3 dg;have u4:=k.fz 4 dg;have zk:=k.fz 5 dg;clear k);go_end0;exact⟨rfl,((H5.setT 3 _ (nw _ dg)).setT 4 _ (nw _ dg)).setT 5 _ (nw _ dg)⟩
 .have e1:(c==72)=false:=by simpa using c1
  have e2:(c==74)=false:=by simpa using c2
  have e3:(c==109)=false:=by simpa using c3
  go_enter func198,ntmps198;go_wp2;go_end0;exact⟨rfl,G⟩
end
def Ix{q:BY}(h:0<q.size):q.toList.isEmpty=false:=by
 cases hh:q.toList.isEmpty with
 |false=>rfl
 |true=>rw[List.isEmpty_iff,ByteArray.toList_eq]at hh;have:q.data.toList.length=q.size:=eK;rw[hh]at this;simp at this;omega
section
variable{T W H n B bc F M0:Nat} {hf:BY} {w0 w w':AT}
def U8(T W H n B bc F M0:Nat)(w0:AT)(hf:BY)(e:Ending)(w':AT):Prop:=∃c oE,e=Rw (.bool c)/\gA T W H n B bc F M0 w0 oE w'/\oE.size<=hf.size/\(c=true->oE.size<hf.size)
def gA.cut(h:gA T W H n B bc F M0 w0 hf w)(a:Nat)(d:Nat)(e:d<=4*a)(f:a<=hf.size):gA T W H n B bc (F-d) M0 w0 (hf.extract a hf.size) (w.setCell (aq T 6) (.string (hf.extract a hf.size))):=h.half d (by rw[nW];omega)
def LF(h:gA T W H n B bc F M0 w0 hf w)(hF:F<=70368744177664):Cw 123 #[Pq T] w λe w'=>U8 T W H n B bc F M0 w0 hf e w':=by
 have J:prog.follows .mixedOrders=true:=pt;obtain⟨K,M,cap,b,s,⟨b4,U⟩,_⟩:=id h;obtain⟨x,y,f,g,o,la,mk,⟨t0,t1,t2,t3,t4,t5,t6,t7,t8,t9⟩,hx,hy,hl⟩:=s.at;have Z:=s.fz 7 dg;have N:=s.fz 6 dg;obtain⟨L,r⟩:=af (w.setCell (aq T 7) (Iq (-1)));have k:Hid (gA T W H n B bc F M0 w0 hf L):=by rw[<-r];exact h.setT 7 _ (nw _ dg)
 clear s;obtain⟨_,_,_,_,u,_⟩:=k.out;obtain⟨_,_,_,_,_,_,_,⟨_,_,_,_,_,_,q6,_⟩,_⟩:=u.at;have u6:=u.fz 6 dg;clear u;have V:hf.size<=70368744177664:=dg;by_cases h2:hf.size<2;.have z:(hf.size:Int)<2:=dg;go_enter func123,ntmps123;go_wp2;go_ret;exact⟨false,hf,rfl,k,LE,At⟩
 .have z:¬(hf.size:Int)<2:=dg;have S:(1:Int)<hf.size:=dg;go_enter func123,ntmps123;have d:∀a:Nat,(hf.extract a hf.size).size=hf.size-a:=λa=>by rw[nW];omega
  replace d:=qH d;go_wp2_with fail;all_goals first
   |(go_ret;exact⟨true,_,rfl,k.cut 2 0 dg dg,by rw[d.out];omega,λ_=>by rw[d.out];omega⟩)
   |skip
  clear t0 t1 t2 t3 t4 t5 t6 t7 t8 t9 Z N r;go_loopw[4] (λi wr=>∃j:Nat,i=Iq j/\2<=j/\j<=hf.size/\wr=L) (λi _=>hf.size-(intOf i).toNat);.exact⟨2,rfl,dg,dg,rfl⟩
  obtain⟨j,rfl,j2,jn,rfl⟩:=hrel;by_cases hj:j<hf.size
  .have C:(j:Int)<hf.size:=dg;have D:((j:Int)==hf.size)=false:=by simp;omega
   have P:Hid (Bq wr wr.drew):=Ok.drew;go_wp2_with fail;all_goals first
    |exact⟨⟨j+1,by go_num,dg,dg,trivial⟩,by simp only[intOf];omega⟩
    |(go_ret;exact⟨true,_,rfl,k.cut (j+1) 0 dg dg,by rw[d.out];omega,λ_=>by rw[d.out];omega⟩)
    |skip
   go_region_held(λ_=>True) (trivial) (first
    |(go_at_call 199;refine(LL _ _ (by rw[nW];omega)).mono ?_;rintro e u5 ⟨⟨v,m,rfl,X,Y,I⟩,E⟩;have O:=qH<|k.out.below (P.out.trans E);have R:=qH I;clear I E)
    |(go_at_call 198;refine ag (ZN O.out _ R.out X Y) ?_;rintro e u6 ⟨rfl,l⟩;have G:=qH l;clear l;obtain⟨_,_,_,_,A,_⟩:=G.out;obtain⟨_,_,_,_,_,_,_,⟨_,_,_,_,_,_,v6,_⟩,_⟩:=A.at;have N:=A.fz 6 dg;clear A));all_goals go_wp2;go_ret;exact⟨true,_,rfl,G.cut (j+1) 0 dg dg,by rw[d.out];omega,λ_=>by rw[d.out];omega⟩
  .have C:¬(j:Int)<hf.size:=dg;have D:((j:Int)==hf.size)=true:=by simp;omega
   go_wp2;go_ret;exact⟨false,hf,rfl,k,LE,At⟩
def Rt(h:gA T W H n B bc F M0 w0 hf w)(hF:F<=70368744177660):Cw 82 #[Pq T] w λe w'=>U8 T W H n B bc F M0 w0 hf e w':=by
 obtain⟨K,M,cap,b,A,⟨b4,Z⟩,_⟩:=id h;obtain⟨x,y,f,g,o,la,mk,⟨t0,t1,t2,t3,t4,t5,t6,t7,t8,t9⟩,hx,hy,hl⟩:=A.at;have z7:=A.fz 7 dg;have R:=A.fz 6 dg;have zg:hf.size<=70368744177664:=dg;clear A;have z:=qH h;have s:=qH (LF h dg);clear h;by_cases N:hf.size=0
 .obtain rfl:hf=⟨#[]⟩:=by obtain⟨⟨l⟩⟩:=hf;simp[ByteArray.size]at N;rw[N]
  go_enter func82,ntmps82;go_wp2;go_ret;exact⟨false,_,rfl,z,LE,At⟩
 .have hp:(0:Int)<hf.size:=dg;have ze:=Ix (q:=hf) dg;have i:∀a:Nat,(hf.extract a hf.size).size=hf.size-a:=λa=>by rw[nW];omega
  replace i:=qH i;have V:Hid (∀r u oE,gA T W H n B bc (F-4) M0 w0 oE u->Cw 126 #[Pq T,Iq r] u λe w'=>qL e/\gA T W H n B bc F M0 w0 oE w'):=λr u oE k=>(O7 k dg r).mono λe w' ⟨a,b⟩=>⟨a,b.mono dg⟩;have D:Hid (∀q:Nat,1<=q->q<=hf.size->∀u,gA T W H n B bc F M0 w0 hf u->gA T W H n B bc (F-4) M0 w0 (hf.extract q hf.size) (u.setCell (aq T 6) (.string (hf.extract q hf.size)))):=λq h1 X u k=>k.cut q 4 dg X;go_enter func82,ntmps82;go_upto_if 18 with fail;by_cases O:((hf[0]' dg).toNat:Int)=27
  .have G:(((hf[0]' dg).toNat:Int)==27)=true:=by simpa using O
   go_wp2_with(go_at_call 123;refine ag s.out ?_;rintro e u5 ⟨c,oE,rfl,S,s5,l5⟩);go_ret;exact⟨c,oE,rfl,S,s5,l5⟩
  .have G:(((hf[0]' dg).toNat:Int)==27)=false:=by simpa using O
   clear s;have E:Hid (T<w.heap.size):=klt t6;go_wp2_with(first
    |(go_at_call 124;refine(O8 hf 0 dg _ dg).mono ?_;rintro e w5 ⟨⟨q,rfl,q4,qs⟩,Y⟩;obtain rfl:=Y.symm)
    |(go_at_call 125;refine(Br _ _ (by rw[nW];omega)).mono ?_;rintro e w6 ⟨⟨v,m,rfl,m1,P,L⟩,d⟩;have hm:1<=m:=(by rw[nW]at P;omega);obtain⟨lb,lc,rfl,l6,KL⟩:=L.kb hm;obtain⟨_,_,l0,x0,rfl⟩:=KL.2 0 dg;have nl:T≠lb:=(by have:=E.out;omega);have zh:=Ne.symm nl;have C:=qH<|z.out.below d;have I:=aV d t6;have J:=(d.frozen (klt t6)).trans R;clear L KL m1 P d)
    |(go_at_call 127;refine(LD hf _ dg).mono ?_;rintro e w6 ⟨⟨c,rfl⟩,d⟩;have C:=qH<|z.out.below d;have I:=aV d t6;have J:=(d.frozen (klt t6)).trans R;clear d)
    |(go_at_call 126;refine ag (V.out _ _ _ (D.out _ dg dg _ C.out)) ?_;rintro e w7 ⟨rfl,j⟩;have U:=qH j;clear j));all_goals
    go_ret;first
     |exact⟨true,_,rfl,(z.setT 7 _ (nw _ dg)).cut 1 0 dg dg,by rw[i.out];omega,λ_=>by rw[i.out];omega⟩
     |exact⟨true,_,rfl,U,by rw[i.out];omega,λ_=>by rw[i.out];omega⟩
     |exact⟨false,_,rfl,C,LE,At⟩
end
section
variable{T K M cap W H n b B bc F M0:Nat} {hf oE:BY} {w0 w w':AT}
def gA.more(h:gA T W H n B bc F M0 w0 hf w)(hd:oE.size<=hf.size+1):gA T W H n B bc (F+4) M0 w0 oE (w.setCell (aq T 6) (.string oE)):=by obtain⟨K,M,cap,b,h,hF,k,a⟩:=h;exact⟨K,M,cap,b,h.setT 6 _ ⟨λe=>dg,λe=>dg,λe=>dg,λ_=>rfl,λe=>dg,λe=>dg,λe=>dg⟩ (.inr rfl),dg,k.set _ _ _ (.inl rfl),a⟩
def Ua(T:Nat)(w:AT):Nat:=match w.cell? (aq T 6)with|some (.string s)=>s.size|_=>0
def gA.hs(h:gA T W H n B bc F M0 w0 hf w):Ua T w=hf.size:=by obtain⟨_,_,_,_,a,_⟩:=h;obtain⟨_,_,_,_,_,_,_,⟨_,_,_,_,_,_,t6,_⟩,_⟩:=a.at;simp[Ua,t6]
def Xu(T W H n B bc F M0:Nat)(w0:AT)(e:Ending)(w':AT):Prop:=qL e/\∃oE,gA T W H n B bc F M0 w0 oE w'
def Pa(h:gA T W H n B bc F M0 w0 hf w)(s:BY)(hF:F+4*s.size<=70368744177660):Cw 46 #[Pq T,.string s] w λe w'=>Xu T W H n B bc (F+4*s.size) M0 w0 e w':=by
 replace h:=qH h;obtain⟨N,D⟩:=af s.size;go_enter func46,ntmps46;go_wp2;go_loopw[4] (λi wr=>∃(j:Nat) (oE:BY),i=Iq j/\j<=N/\Hid (gA T W H n B bc (F+4*j) M0 w0 oE wr)) (λi _=>N-(intOf i).toNat);.exact⟨0,hf,rfl,dg,h⟩
 obtain⟨j,q,rfl,G,d⟩:=hrel;by_cases z:j<N
 .have a:(j:Int)<s.size:=dg;obtain⟨_,_,_,_,k,E,_⟩:=d.out;obtain⟨_,_,_,_,_,_,_,⟨_,_,_,_,_,_,t6,_⟩,_⟩:=k.at;have J:=k.fz 6 dg;have y:(s.extract j (j+1)).size=1:=by rw[nW];omega
  have x:¬9223372036854775807<q.size+1:=dg;clear k;have u:Hid (gA T W H n B bc (F+4*(j+1)) M0 w0 (q++s.extract j (j+1)) (wr.setCell (aq T 6) (.string (q++s.extract j (j+1)))).drew):=(d.more (by rw[kG];omega)).below Ok.drew;go_wp2_with fail;go_region;all_goals
   go_wp2;go_loopw[5] (λb wi=>∃(c:Bool) (p:BY),b=.bool c/\Hid (gA T W H n B bc (F+4*(j+1)) M0 w0 p wi)) (λb wi=>rH b*(Ua T wi+1));.exact⟨true,_,rfl,u⟩
   obtain⟨c,p,rfl,f⟩:=hrel;cases c;.go_wp2;exact⟨⟨j+1,p,by go_num,dg,f⟩,by simp only[intOf];omega⟩
   .go_wp2_with(go_at_call 82;refine ag (Rt f.out dg) ?_;rintro e u5 ⟨c,C,rfl,l,I,r⟩;have o:=qH l;have A:=qH r;clear r l);refine⟨⟨c,C,rfl,o⟩,?_⟩;rw[o.hs,f.hs];cases c;.simp[rH]
    .have:=A rfl;simp[rH];omega
 .have a:¬(j:Int)<s.size:=dg;obtain rfl:j=N:=dg;go_wp2;go_end0;exact⟨rfl,q,d⟩
end
section
variable{T K M cap W H n b B bc:Nat} {hf:BY} {w w':AT}
def Hc:(prog.info? 4).map (λi=>(i.zero,i.size,i.bytes))=some (some (.bool false),1,1):=pt
def Xa(T K M cap W H n b:Nat)(hf:BY)(w:AT)(e:Ending)(w':AT):Prop:=qL e/\∃B,ka T K M cap W H n b B n hf w'/\w.grownBy w' (some T)/\w.heap.size<=B
def LH(h:ka T K M cap W H n b B bc hf w):Cw 45 #[Pq T] w λe w'=>Xa T K M cap W H n b hf w e w':=by
 have nb:=h.kk.nb;have s:=run_make_row' (P:=prog) 106 4 (.bool false) 1 underlying106 Hc rfl .i64 .i64 n dg dg;obtain⟨x,y,f,g,o,L,mk,⟨t0,_,_,_,_,_,_,_,_,t9⟩,_⟩:=h.at;have z:=h.kk.c2;have a:Bq w (w.alloc (.cells (madeCells #[.bool false] n) 4)):=No;have J:=aV a t9;have X:=(a.frozen (klt t9)).trans (h.fz 9 dg);obtain⟨N,O,R,S,U⟩:=h.ne;have r:Hid (T<w.heap.size/\K<w.heap.size/\M<w.heap.size):=⟨h.tb.1,klt z,h.kk.kb.1⟩;have i:Hid (∃B,ka T K M cap W H n b B n hf ((w.alloc (.cells (madeCells #[.bool false] n) 4)).setCell (aq T 9) (Sq w.heap.size n n))/\w.grownBy ((w.alloc (.cells (madeCells #[.bool false] n) 4)).setCell (aq T 9) (Sq w.heap.size n n)) (some T)/\w.heap.size<=B):=by have d:=h.below a;have:=r.out;refine⟨w.heap.size,⟨d.tb.setP 9 _ ⟨λe=>dg,λe=>dg,λe=>dg,λe=>dg,λe=>dg,λ_=>rfl,λe=>dg⟩ λj u l ⟨A,C,D,E,G,V,I⟩=>⟨A,C,D,E,G,λe=>absurd e l,I⟩,d.kk.of (by simp[World.setCell]) (aM _ _ _ K (by show K≠T;omega)) (aM _ _ _ M (by show M≠T;omega)),(KB.make w n 4 (.bool false) λ_=>⟨_,rfl⟩).set _ _ _ λe=>dg,dg⟩,⟨a.os,a.tape,a.output,by simp[World.setCell],λc k d=>(aM _ _ _ c λe=>d (by rw[e])).trans (a.block c k)⟩,LE⟩
 clear h a;go_enter func45,ntmps45;go_wp2;go_end0;exact⟨rfl,i⟩
def KB.row{w:AT}{g m:Nat}{a:Array Fd}{t:TypeId}{P:Nat->Fd->Prop}(h:w.heap[g]?=some (.cells a t (0,0)))(f:m=a.size)(d:∀j v,a[j]?=some v->P j v):KB w g m P:=by refine⟨(aj.1 h).1,λj e=>⟨frozen_of_row _ _ _ _ _ h,a[j]' dg,?_,d j _ (xO _)⟩⟩;rw[cell_of_row _ _ _ _ _ _ h];exact xO _
def yp{W u:AT}{T o:Nat}{v:Fd}(h:W.grownBy u (some T)):W.grownBy (u.setCell (aq T o) v) (some T):=⟨h.os,h.tape,h.output,by simpa[World.setCell]using h.size,λb d a=>(aM _ _ _ b λe=>a (by rw[e])).trans (h.block b d a)⟩
def KB.imp{w:AT}{g m:Nat}{P Q:Nat->Fd->Prop}(h:KB w g m P)(e:∀j v,j<m->P j v->Q j v):KB w g m Q:=⟨h.1,λj d=>by obtain⟨a,x,b,c⟩:=h.2 j d;exact⟨a,x,b,e j x d c⟩⟩
def KB.setQ{w:AT}{g m k:Nat}{P:Nat->Fd->Prop}{x:Fd}(h:KB w g m λj v=>j<k->P j v)(d:P k x):KB (w.setCell (aq g k) x) g m λj v=>j<k+1->P j v:=h.setP k x (λ_=>d) λj v e a f=>a dg
def Xg(W H:Int)(w:AT)(e:Ending)(w':AT):Prop:=Bq w w'/\((∃x,e=Rw (.tuple #[.pointer none,Iq x])/\x≠0/\¬(1<=W/\W<=400/\1<=H/\H<=400))\/∃(T K M cap W' H' n B:Nat),e=Rw (.tuple #[Pq T,Iq 0])/\W=W'/\H=H'/\ka T K M cap W' H' n 4 B n ⟨#[]⟩ w'/\w.heap.size<=T/\w.heap.size<=K/\w.heap.size<=M/\w.heap.size<=B)
def NP(W H:Int)(w:AT):Cw 17 #[Iq W,Iq H] w λe w'=>Xg W H w e w':=by
 go_enter func17,ntmps17;go_wp2_with fail;refine(Hk W H 4 dg _).mono ?_;rintro e a (⟨rfl,rfl,d⟩|⟨K,M,cap,W,H,n,rfl,rfl,rfl,k,r,s,f⟩);.replace d:=qH d;go_wp2;go_ret2;exact⟨Ok,.inl ⟨_,rfl,dg,d⟩⟩
 .have nb:=k.nb;have y:=run_make_row' (P:=prog) 106 4 (.bool false) 1 underlying106 Hc rfl .i64 .i64 n dg dg;have z:(W:Int)*(H:Int)=(n:Int):=by rw[k.sz.2.2.2.2.1];simp
  have i:=qH k;have u:=qH (And.intro r s);replace f:=qH f;have x:Hid (K<a.heap.size/\M<a.heap.size):=⟨klt k.c0,k.kb.1⟩;clear k r s;go_wp2;go_ret2;have l:Bq a (a.alloc (.cells (madeCells #[.bool false] n) 4)):=No;have o:=l.alloc l.size (.cells #[Pq K,Iq 0,Iq 0,Iq 0,Iq 0,Iq 0,.string ⟨#[]⟩,Iq (-1),Iq 0,Sq a.heap.size n n] 109);have hG:=u.out;have A:=x.out;have h:=i.sz;have C:1<=n:=by rw[h.2.2.2.2.1];exact ik h.1 h.2.2.1
  refine⟨f.trans (o.mono f.size),.inr ⟨a.heap.size+1,K,M,cap,W,H,n,a.heap.size,rfl,rfl,rfl,⟨KB.row (vM _ _ _) rfl λj v d=>?_,(i.refl.below o).1,(KB.make a n 4 (.bool false) λ_=>⟨_,rfl⟩).below No,dg⟩,by have:=f.size;omega,hG.1,hG.2,f.size⟩⟩;rcases(by have:=(aj.1 d).1;simp at this;omega:j=0\/j=1\/j=2\/j=3\/j=4\/j=5\/j=6\/j=7\/j=8\/j=9)with rfl|rfl|rfl|rfl|rfl|rfl|rfl|rfl|rfl|rfl;all_goals simp at d;subst d
  .exact⟨λ_=>rfl,λe=>dg,λe=>dg,λe=>dg,λe=>dg,λe=>dg,λe=>dg⟩
  .exact nw 0 dg K
  .exact nw 0 dg K
  .exact nw 0 dg K
  .exact nw 0 dg K
  .exact nw 0 dg K
  .exact⟨λe=>dg,λe=>dg,λe=>dg,λ_=>rfl,λe=>dg,λe=>dg,λe=>dg⟩
  .exact nw (-1) dg K
  .exact nw 0 dg K
  .exact⟨λe=>dg,λe=>dg,λe=>dg,λe=>dg,λe=>dg,λ_=>rfl,λe=>dg⟩
def Xl(T:Nat)(W H:Int)(w:AT)(e:Ending)(w':AT):Prop:=Db e/\((Bq w w'/\e≠.returned (Iq 0))\/∃(K M cap W' H' n B:Nat),W=W'/\H=H'/\ka T K M cap W' H' n 4 B n ⟨#[]⟩ w'/\w.grownBy w' (some T)/\w.heap.size<=K/\w.heap.size<=M/\w.heap.size<=B)
def Hr(h:ka T K M cap W H n b B bc hf w)(p q:Int):Cw 42 #[Pq T,Iq p,Iq q] w λe w'=>Xl T p q w e w':=by
 have s:=qH h;clear h;go_enter func42,ntmps42;go_wp2_with fail;refine(NP p q _).mono ?_;rintro e C ⟨i,⟨x,rfl,N,_⟩|⟨T',a,D,cap',p,q,d,k,rfl,rfl,rfl,u,E,I,J,L⟩⟩
 .have zg:(x !=0)=true:=by simpa using N
  go_wp2;go_ret;exact⟨⟨_,rfl⟩,.inl ⟨i,λe=>N (by injection e with e;injection e)⟩⟩
 .have r:=qH (s.below i);obtain⟨x,y,f,g,o,la,mk,⟨t0,t1,t2,t3,t4,t5,t6,t7,t8,t9⟩,_⟩:=r.at;obtain⟨x',y',f',g',o',zh,zi,⟨s0,s1,s2,s3,s4,s5,s6,s7,s8,s9⟩,sx,sy,sl⟩:=u.at;have z:=λj A=>r.fz j A;have z0:=z 0 dg;have z1:=z 1 dg;have z2:=z 2 dg;have z3:=z 3 dg;have z4:=z 4 dg;have z5:=z 5 dg;have z6:=z 6 dg;have z7:=z 7 dg;have z8:=z 8 dg;have z9:=z 9 dg;have l:=qH u;have HG:=qH (And.intro E (And.intro I (And.intro J L)));replace i:=qH i;have hT:=qH s.tb.1;have nT:T'≠T:=by have:=s.tb.1;omega
  clear z u E I J L;go_wp2;go_ret;have hG:=HG.out;have ze:=hT.out;have hs:=i.size;have G:∀O P R S U V X Y Z x9,C.grownBy ((((((((((C.setCell (aq T 0) O).setCell (aq T 1) P).setCell (aq T 2) R).setCell (aq T 3) S).setCell (aq T 4) U).setCell (aq T 5) V).setCell (aq T 6) X).setCell (aq T 7) Y).setCell (aq T 8) Z).setCell (aq T 9) x9) (some T):=λO P R S U V X Y Z x9=>yp (yp (yp (yp (yp (yp (yp (yp (yp (yp (World.grownBy.refl _ _))))))))));refine⟨⟨_,rfl⟩,.inr ⟨a,D,cap',p,q,d,k,rfl,rfl,⟨?_,l.kk.of (G _ _ _ _ _ _ _ _ _ _).size ((G _ _ _ _ _ _ _ _ _ _).block a (klt l.kk.c0) λe=>by injection e;omega) ((G _ _ _ _ _ _ _ _ _ _).block D l.kk.kb.1 λe=>by injection e;omega),l.bb.of (G _ _ _ _ _ _ _ _ _ _).size ((G _ _ _ _ _ _ _ _ _ _).block k l.bb.1 λe=>by injection e;omega),by have:=l.ne;omega⟩,⟨(G _ _ _ _ _ _ _ _ _ _).os.trans i.os,(G _ _ _ _ _ _ _ _ _ _).tape.trans i.tape,(G _ _ _ _ _ _ _ _ _ _).output.trans i.output,aA hs (G _ _ _ _ _ _ _ _ _ _).size,λc h1 h2=>((G _ _ _ _ _ _ _ _ _ _).block c dg h2).trans (i.block c h1)⟩,hG.2.1,hG.2.2.1,hG.2.2.2⟩⟩;have h0:KB C T 10 (λj v=>j<0->Nt a k d d p q ⟨#[]⟩ j v):=r.tb.imp λj v _ _ e=>dg;have z:Nt a k d d p q ⟨#[]⟩ 0 (Pq a)/\Nt a k d d p q ⟨#[]⟩ 6 (.string ⟨#[]⟩)/\Nt a k d d p q ⟨#[]⟩ 9 (Sq k d d):=⟨⟨λ_=>rfl,λe=>dg,λe=>dg,λe=>dg,λe=>dg,λe=>dg,λe=>dg⟩,⟨λe=>dg,λe=>dg,λe=>dg,λ_=>rfl,λe=>dg,λe=>dg,λe=>dg⟩,⟨λe=>dg,λe=>dg,λe=>dg,λe=>dg,λe=>dg,λ_=>rfl,λe=>dg⟩⟩;exact((((((((((h0.setQ z.1).setQ (nw _ dg a)).setQ (nw _ dg a)).setQ (nw _ dg a)).setQ (nw _ dg a)).setQ (nw _ dg a)).setQ z.2.1).setQ (nw _ dg a)).setQ (nw _ dg a)).setQ z.2.2).imp λj v A h=>h A
end
structure uz(Q:Nat)(t:BY)(p q:Int)(v:Fd)(m:Nat)(fr:Bool)(w:AT):Prop where
 sb:w.heap[Q]?=some (.cells #[.string t,Iq p,Iq q,v,.bool fr] 102 (0,0))
 of:KR w (Q+1) 112 2 v m KZ
def LX{W:AT}{X:Nat}{a b c d e:Fd}{t:TypeId}(h:W.heap[X]?=some (.cells #[a,b,c,d,e] t (0,0))):(W.cell? (aq X 0)=some a/\W.cell? (aq X 1)=some b/\W.cell? (aq X 2)=some c/\W.cell? (aq X 3)=some d/\W.cell? (aq X 4)=some e)/\∀j,W.frozen? (aq X j)=false:=
 ⟨⟨cell_of_row _ _ 0 _ _ _ h,cell_of_row _ _ 1 _ _ _ h,cell_of_row _ _ 2 _ _ _ h,cell_of_row _ _ 3 _ _ _ h,cell_of_row _ _ 4 _ _ _ h⟩,λj=>frozen_of_row _ _ _ _ _ h⟩
section
variable{Q m:Nat} {t:BY} {p q:Int} {v:Fd} {fr:Bool} {w:AT}
def Xp(Q m:Nat)(t:BY)(p q:Int)(v:Fd)(fr:Bool)(w:AT)(e:Ending)(w':AT):Prop:=Db e/\∃p' q' Tk,uz Q t p' q' v m Tk w'/\w.grownBy w' (some Q)/\(Tk=false->fr=false)/\(e=Rw (Iq 0)->Tk=true)
def KR.low2{w:AT}{B n s k:Nat}{e:TypeId}{v:Fd}{P:Nat->Fd->Prop}(h:KR w B e s v n P)(o:k<B){w':AT}(g:w.grownBy w' (some k)):KR w' B e s v n P:=by
 obtain⟨l,h,j⟩:=h;refine⟨l,⟨h.1,?_⟩,j⟩;rcases h.2 with i|⟨g',cap,f,a,b,c,d⟩;.exact .inl i
 .exact .inr ⟨g',cap,f,a,b,(g.block g' (aj.1 c).1 λe=>by injection e;omega).trans c,d⟩
def Hq(h:uz Q t p q v m fr w)(x y:Int):Cw 41 #[Pq Q,Iq x,Iq y] w λe w'=>Xp Q m t p q v fr w e w':=by
 obtain⟨⟨l,c1,c2,c3,c4⟩,o⟩:=LX h.sb;have G:Hid (w.grownBy (((w.setCell (aq Q 1) (Iq x)).setCell (aq Q 2) (Iq y)).setCell (aq Q 4) (.bool true)) (some Q)):=yp (yp (yp (World.grownBy.refl _ _)));have j:Hid (uz Q t x y v m true (((w.setCell (aq Q 1) (Iq x)).setCell (aq Q 2) (Iq y)).setCell (aq Q 4) (.bool true))):=⟨by rw[heap_setCell_same _ _ _ _ _ _ (heap_setCell_same _ _ _ _ _ _ (heap_setCell_same _ _ _ _ _ _ h.sb))];rfl,h.of.low2 dg G⟩;have i:=qH h;clear h;rcases(by omega:x<1\/(1<=x/\400<x)\/(1<=x/\x<=400/\y<1)\/(1<=x/\x<=400/\1<=y/\400<y)\/(1<=x/\x<=400/\1<=y/\y<=400))with h|⟨a,d⟩|⟨a,d,f⟩|⟨a,d,f,k⟩|⟨a,d,f,k⟩;all_goals
  go_enter func41,ntmps41;go_wp2;go_ret;first
   |exact⟨⟨_,rfl⟩,x,y,true,j,G,At,λ_=>rfl⟩
   |exact⟨⟨_,rfl⟩,p,q,fr,i,World.grownBy.refl _ _,λe=>e,λe=>by injection e with e;injection e with _ e;simp at e⟩
def Xn(w:AT)(e:Ending)(w':AT):Prop:=Bq w w'/\∃p n cap,e=Rw (.slice p n cap)/\n<=160000/\(0<n->∃M,p=some (aq M 0)/\w.heap.size<=M/\KB w' M (n*5) (xU n 20))
def vD(h:uz Q t p q v m fr w)(i:∀u,Bq w u->Cw 49 #[.string t,Iq p,Iq q,v] u λe z=>J4 p q u e z):Cw 26 #[Pq Q] w λe w'=>Xn w e w':=by
 have l:prog.follows .mixedOrders=true:=pt;obtain⟨⟨s,c1,c2,c3,c4⟩,_⟩:=LX h.sb;obtain⟨C,A,rfl,_⟩:=h.of.sl;have f:Hid (Bq w w.drew):=Ok.drew;have o:=qH (O0 (i _ f));clear h i;go_enter func26,ntmps26;go_wp2_with fail;go_region_held(λu=>u.cell? (aq Q 0)=some (.string t)/\u.cell? (aq Q 1)=some (Iq p)/\u.cell? (aq Q 2)=some (Iq q)/\u.cell? (aq Q 3)=some (.slice C m A)) (go_keep) (first
  |(go_at_call 53;refine ag o.out ?_;rintro e u3 ⟨k,y,x,qR,D,E,rfl,d,j⟩;have r:=qH j;have a:=qH<|f.out.trans k;have d0:=aV a.out s;have d1:=aV a.out c1;have d2:=aV a.out c2;have d3:=aV a.out c3;clear j k));all_goals go_wp2;go_ret;exact⟨a,y,x,qR,rfl,d,r⟩
end
def Hu(id:Int)(W:AT):Cw 43 #[.slice none 0 0,Iq id] W λe w'=>U7 0 e/\w'=W:=by
 go_enter func43,ntmps43;go_wp2;go_loop[5] (λi=>i=Iq 0) (λ_=>0);.rfl
 subst hrel;go_wp2;go_ret;exact⟨⟨_,rfl,dg,dg⟩,rfl⟩
def Xd(a b:Fd)(w':AT):Prop:=(a=.slice none 0 0/\b=.slice none 0 0)\/∃g n cap pb pc,a=Sq g n cap/\b=Sq pb n pc/\uy w' g n/\KB w' pb (n*10) KZ
def J4.any{W H:Int}{w w':AT}{e:Ending}(h:J4 W H w e w'):Bq w w'/\∃a b x y,e=Rw (.tuple #[a,b,Iq x,Iq y])/\Hid (Xd a b w'):=by
 obtain⟨b,⟨x,y,rfl,_⟩|⟨g,n,cap,d,f,rfl,N,P,_⟩⟩:=h;.exact⟨b,_,_,_,_,rfl,.inl ⟨rfl,rfl⟩⟩
 .exact⟨b,_,_,_,_,rfl,.inr ⟨g,n,cap,d,f,rfl,rfl,N,P⟩⟩
section
variable{Q m:Nat} {t:BY} {p q:Int} {v:Fd} {fr:Bool} {w:AT}
def PP(e:Ending):Prop:=∃x y z,e=Rw (.tuple #[Iq x,Iq y,Iq z])
def vC(h:uz Q t p q v m fr w)(l:∀u,Bq w u->Cw 49 #[.string t,Iq p,Iq q,v] u λe D=>J4 p q u e D)(id:Int):Cw 22 #[Pq Q,Iq id] w λe w'=>PP e/\Bq w w':=by
 have y:prog.follows .mixedOrders=true:=pt;obtain⟨⟨s,c1,c2,c3,c4⟩,_⟩:=LX h.sb;obtain⟨G,E,rfl,_⟩:=h.of.sl;have k:Hid (Bq w w.drew):=Ok.drew;have f:=qH (l _ k);clear h l;go_enter func22,ntmps22;go_wp2_with fail;go_region_held(λu=>u.cell? (aq Q 0)=some (.string t)/\u.cell? (aq Q 1)=some (Iq p)/\u.cell? (aq Q 2)=some (Iq q)/\u.cell? (aq Q 3)=some (.slice G m E)) (go_keep) (first
  |(go_at_call 49;refine ag f.out ?_;intro e u3 x;obtain⟨r,O,R,Y,Z,rfl,i⟩:=x.any;have a:=qH<|k.out.trans r;have d0:=aV a.out s;have d1:=aV a.out c1;have d2:=aV a.out c2;have d3:=aV a.out c3;clear x r));all_goals
  clear d0 d1 d2 d3 s c1 c2 c3 c4 f;rcases i.out with⟨rfl,rfl⟩|⟨g,n,cap,V,X,rfl,rfl,N,P⟩;.go_wp2_with(go_at_call 43;refine(Hu _ _).mono ?_;rintro e u4 ⟨⟨z,rfl,I,J⟩,d⟩;obtain rfl:=d.symm;obtain rfl:z=-1:=dg);go_ret3;exact⟨⟨_,_,_,rfl⟩,a⟩
  .have A:=qH (Bv (cap:=cap) N id u3 Ok);have o:=qH P;have L:=N.1;clear N P i;go_wp2_with fail;refine ag A.out ?_;rintro e u4 ⟨⟨z,rfl,I,J⟩,d⟩;obtain rfl:=d.symm;rcases(by omega:z=-1\/0<=z)with rfl|C;.go_wp2;go_ret3;exact⟨⟨_,_,_,rfl⟩,a⟩
   .obtain⟨z,rfl⟩:=db C;obtain⟨S,d8⟩:=o.z (j:=z*10+8) dg;obtain⟨U,d9⟩:=o.z (j:=z*10+9) dg;go_wp2_with fail;go_quiet(fail);go_wp2;go_ret3;exact⟨⟨_,_,_,rfl⟩,below_drewN a _⟩
end
def KR.setc{w:AT}{B n s g cap:Nat}{e:TypeId}{P:Nat->Fd->Prop}(h:KR w B e s (Sq g n cap) n P)(o:Nat)(x:Fd)(l:P o x):KR (w.setCell (aq g o) x) B e s (Sq g n cap) n P:=by
 obtain⟨r,h,k⟩:=h;rcases h.2 with⟨i,_⟩|⟨g',cap',d,a,b,c,d1,d2,d3,d4⟩;.simp at i
 .obtain⟨rfl,rfl⟩:g=g'/\cap=cap':=by simpa using a
  refine⟨r.set o x,⟨by rw[xK];exact h.1,.inr ⟨g,cap,d.setIfInBounds o x,rfl,b,heap_setCell_same _ _ _ _ _ _ c,d1,d2,by simpa using d3,?_⟩⟩,λj u hu=>?_⟩;.rw[Array.toList_setIfInBounds,List.take_set,d4]
  .rw[List.getElem?_set]at hu;by_cases f:o=j
   .subst f;rw[if_pos rfl]at hu;split at hu;.simp at hu;subst hu;exact l
    .simp at hu
   .rw[if_neg f]at hu;exact k j u hu
structure US(Q:Nat)(v:Fd)(w w':AT):Prop where
 os:w'.os=w.os
 tape:w'.tape=w.tape
 output:w'.output=w.output
 size:w.heap.size<=w'.heap.size
 block:∀b,b<w.heap.size->b≠Q->v.ownBlock≠some b->w'.heap[b]?=w.heap[b]?
section
variable{Q m:Nat} {t:BY} {p q:Int} {v:Fd} {fr:Bool} {w w':AT}
def uz.below(h:uz Q t p q v m fr w)(b:Bq w w'):uz Q t p q v m fr w':=⟨(b.block Q (aj.1 h.sb).1).trans h.sb,h.of.below b⟩
def S8(Q m:Nat)(t:BY)(p q:Int)(v:Fd)(fr:Bool)(w w':AT):Prop:=∃v' m',uz Q t p q v' m' fr w'/\m'<=m+1/\US Q v w w'/\∀b,v'.ownBlock=some b->v.ownBlock=some b\/w.heap.size<=b
def NQ:(prog.info? 112).map (λi=>(i.zero,i.size,i.bytes))=some (some (.agg #[Iq 0,Iq 0]),2,16):=pt
def Hv(h:uz Q t p q v m fr w)(P:∀u,Bq w u->Cw 49 #[.string t,Iq p,Iq q,v] u λe u'=>J4 p q u e u')(hm:m<=1099511627776)(id C:Int):Cw 20 #[Pq Q,Iq id,Iq C] w λe w'=>Db e/\S8 Q m t p q v fr w w':=by
 obtain⟨i0,hi,I,J,L⟩:=info_parts NQ;have OF:=qH (vC h P id);have O:=qH h;clear h P;go_enter func20,ntmps20;go_wp2_with fail;refine ag OF.out ?_;rintro e V ⟨⟨a,b,c,rfl⟩,d⟩;have f:=qH (O.below d);replace d:=qH d;have l:Hid (S8 Q m t p q v fr w V):=⟨v,m,f,dg,⟨d.os,d.tape,d.output,d.size,λi hi _ _=>d.block i hi⟩,λ_=>.inl⟩;clear OF O;by_cases S:c=0;.subst S;obtain⟨⟨Y,c1,c2,c3,c4⟩,fz⟩:=LX f.sb;obtain⟨vp,N,rfl,_⟩:=f.of.sl;go_wp2_with(go_at_call 44;refine Ut (kZ _ _ _) ?_;rintro u6 h6;obtain rfl:=h6.symm);all_goals
   clear Y c1 c2 c4;go_loopw[11] (λi wr=>∃j:Nat,i=Iq j/\j<=m/\wr=V) (λi _=>m-(intOf i).toNat);.exact⟨0,rfl,dg,rfl⟩
   obtain⟨j,rfl,hj,rfl⟩:=hrel;by_cases zg:j<m
   .have x:(j:Int)<m:=dg;obtain⟨g,gc,U,hg,KG⟩:=f.of.kb dg;obtain⟨rfl,rfl⟩:vp=some (aq g 0)/\N=gc:=by simpa using U
    obtain⟨f0,_,d0,x0,rfl⟩:=KG.2 (j*2) dg;obtain⟨f1,_,d1,x1,rfl⟩:=KG.2 (j*2+1) dg;have X:Hid (∀z:Int,S8 Q m t p q (Sq g m N) fr w (wr.setCell (aq g (j*2+1)) (Iq z))):=λz=>⟨Sq g m N,m,⟨(aM _ _ _ Q (by show Q≠g;omega)).trans f.sb,f.of.setc _ _ ⟨_,rfl⟩⟩,dg,⟨d.os,d.tape,d.output,by simpa[World.setCell]using d.size,λi hi _ D=>(aM _ _ _ i λe=>D (by rw[e];rfl)).trans (d.block i hi)⟩,λ_=>.inl⟩;clear U KG;go_wp2;all_goals first
     |exact⟨⟨j+1,by go_num,dg,by trivial⟩,by simp only[intOf];omega⟩
     |(go_ret;exact⟨⟨_,rfl⟩,X _⟩)
   .have x:¬(j:Int)<m:=dg;have E:Below (Q+1) wr wr:=Ok;have G:Q+1<=wr.heap.size:=(aj.1 f.sb).1;go_wp2_with(at_builtin;refine Pb (W0:=wr) (w:=wr) hi I J L f.out.of E G [_,_] rfl _ _ rfl underlying100 ⟨rfl,by decide,by decide⟩ rfl rfl rfl ⟨rfl,rfl⟩ dg (λi u hu=>by have:=nQ hu;simp at this;rcases this with rfl|rfl<;>exact⟨_,rfl⟩) ?_;intro v' w6 A o r;obtain⟨zi,zh,rfl,_⟩:=A.sl;have k:=qH o;have y:=qH A;have s:=qH r;have R:=qH ((o.block Q (xP _)).trans f.out.sb);obtain⟨⟨_,_,_,e3,_⟩,Z⟩:=LX R.out;clear A o r);go_ret;refine⟨⟨_,rfl⟩,_,m+1,⟨by rw[heap_setCell_same _ _ _ _ _ _ R];rfl,y.low (xP _) _ _⟩,LE,⟨k.os.trans d.os,k.tape.trans d.tape,k.output.trans d.output,by have:=k.size;have:=d.size;simp[World.setCell];omega,λi h1 h2 D=>(aM _ _ _ i h2).trans ((s.out.1 i (by have:=d.size;omega) D).trans (d.block i h1))⟩,λb e=>(s.out.2 b e).imp (λq=>q) λq=>aA d.size q⟩
 .have ze:(c !=0)=true:=by simpa using S
  go_wp2;go_ret;exact⟨⟨_,rfl⟩,l⟩
end
def U6(w:AT)(g n cap:Nat)(v:Fd):Prop:=∀pb pc U,w.heap.size<=pb->Bq w U->KB U pb (n*10) KZ->Cw 128 #[Sq g n cap,Sq pb n pc,Iq 0,v] U λe U'=>qL e/\KY U pb n U'
def LM:(prog.info? 125).map (λi=>(i.zero,i.size,i.bytes))=some (some (.agg #[Iq 0,Iq 0,Iq 0,Iq 0,Iq 0,Iq 0,Iq 0,Iq 0,Iq 0,Iq 0]),10,80):=pt
def KB.ten(w:AT)(n T:Nat):KB (w.alloc (.cells (madeCells #[Iq 0,Iq 0,Iq 0,Iq 0,Iq 0,Iq 0,Iq 0,Iq 0,Iq 0,Iq 0] n) T)) w.heap.size n KZ:=by refine⟨At,λj a=>⟨At,Iq 0,?_,_,rfl⟩⟩;rw[World.cell?_alloc_at _ _ _ _ rfl];rcases(by omega:j %10=0\/j %10=1\/j %10=2\/j %10=3\/j %10=4\/j %10=5\/j %10=6\/j %10=7\/j %10=8\/j %10=9)with h|h|h|h|h|h|h|h|h|h<;>simp[madeCells,a,h]
def LP{w:AT}{g n cap:Nat}{v:Fd}(V:1<=n/\n<=100)(i:U6 w g n cap v)(x y:Int):Cw 84 #[Sq g n cap,Iq x,Iq y,v] w λe w'=>(∃a,e=Rw (Sq a n n)/\KB w' a (n*10) KZ)/\Bq w w':=by
 obtain⟨S,hi,o,r,s⟩:=info_parts LM;have O:∀W:AT,(Instr.makeSlice 120 (Iq (n:Int)) (Iq (n:Int))).run prog W=.ok (Sq W.heap.size n n) (W.alloc (.cells (madeCells #[Iq 0,Iq 0,Iq 0,Iq 0,Iq 0,Iq 0,Iq 0,Iq 0,Iq 0,Iq 0] (n*10)) 125)):=λW=>by have:=run_make (P:=prog) W 120 125 S _ underlying120 hi o .i64 .i64 n n dg (ie _) (by rw[s];omega) dg;rw[r,iO]at this;exact this
 clear hi o r s;obtain⟨a,l⟩:=af w.heap.size;obtain⟨d,k⟩:=af (w.alloc (.cells (madeCells #[Iq 0,Iq 0,Iq 0,Iq 0,Iq 0,Iq 0,Iq 0,Iq 0,Iq 0,Iq 0] (n*10)) 125));have z:KB d a (n*10) KZ:=by rw[<-k,<-l];exact KB.ten _ _ _
 have A:Bq w d:=by rw[<-k];exact No
 have Z:∀j,j<10->(∃x,d.cell? (aq a j)=some (Iq x))/\d.frozen? (aq a j)=false:=λj U=>by obtain⟨f,_,c,x,rfl⟩:=z.2 j dg;exact⟨⟨x,c⟩,f⟩
 obtain⟨⟨_,d0⟩,f0⟩:=Z 0 dg;obtain⟨⟨_,d1⟩,f1⟩:=Z 1 dg;obtain⟨⟨_,d2⟩,f2⟩:=Z 2 dg;obtain⟨⟨_,d3⟩,f3⟩:=Z 3 dg;obtain⟨⟨_,d4⟩,f4⟩:=Z 4 dg;obtain⟨⟨_,d5⟩,f5⟩:=Z 5 dg;obtain⟨⟨_,d6⟩,f6⟩:=Z 6 dg;obtain⟨⟨_,d7⟩,f7⟩:=Z 7 dg;obtain⟨⟨_,d8⟩,f8⟩:=Z 8 dg;obtain⟨⟨_,d9⟩,f9⟩:=Z 9 dg;have J:KY d a n d:=⟨World.grownBy.refl _ _,z⟩;have u:=(((((((((J.set 0 0).set 1 0).set 2 x).set 3 y).set 4 0).set 5 0).set 6 x).set 7 y).set 8 0).set 9 0;obtain⟨I,D⟩:=af ((((((((((d.setCell (aq a 0) (Iq 0)).setCell (aq a 1) (Iq 0)).setCell (aq a 2) (Iq x)).setCell (aq a 3) (Iq y)).setCell (aq a 4) (Iq 0)).setCell (aq a 5) (Iq 0)).setCell (aq a 6) (Iq x)).setCell (aq a 7) (Iq y)).setCell (aq a 8) (Iq 0)).setCell (aq a 9) (Iq 0));rw[D]at u;have C:Bq w I:=A.grown u.1 A.size λq e=>by injection e;omega
 have N:=qH (i a n I dg C u.2);have h:=qH C;have E:=qH (xI l);have R:(0:Int)<n:=dg;clear Z z A J u C i;go_enter func84,ntmps84;go_wp2_with(go_at_call 128;refine ag N.out ?_;rintro e u5 ⟨rfl,L⟩;have G:=qH L;clear L);go_ret;have X:=E.out;exact⟨⟨a,rfl,G.2⟩,h.grown G.1 h.size λq e=>by injection e;omega⟩
def uy.below{w w':AT}{g n:Nat}(h:uy w g n)(b:Bq w w'):uy w' g n:=by
 refine⟨h.1,λk l=>?_⟩;obtain⟨s,ab,t,y,m,r,up,N⟩:=h.2 k l;have U:∀W,Bq w' W->Bq w W:=λW d=>b.trans (d.mono b.size);refine⟨s,ab,t,y,m,r,up,N.tl,N.ml,N.u0,λW d=>N.c W (U W d),λj f=>?_,λi hi=>?_⟩;.obtain⟨x,H⟩:=N.a j f;exact⟨x,λW d=>H W (U W d)⟩
 .obtain⟨o,u,c,e,z,A,H⟩:=N.kid i hi;exact⟨o,u,c,e,z,A,λW d=>H W (U W d)⟩
def S4(w:AT)(e:Ending)(w':AT):Prop:=Bq w w'/\((∃v x y,e=Rw (.tuple #[v,Iq x,Iq y])/\x≠0)\/∃g n cap,e=Rw (.tuple #[Sq g n cap,Iq 0,Iq 0])/\1<=n/\uy w' g n)
def LI{w:AT}{t:BY}{v:Fd}(k:Cw 13 #[.string t] w λe w'=>S4 w e w')(d:∀w' g n cap,Bq w w'->1<=n->uy w' g n->U6 w' g n cap v)(x y:Int):Cw 49 #[.string t,Iq x,Iq y,v] w λe w'=>J4 x y w e w':=by
 replace k:=qH k;replace d:=qH d;go_enter func49,ntmps49;go_wp2_with fail;refine ag k.out ?_;rintro e E ⟨f,⟨u,a,b,rfl,s⟩|⟨g,n,cap,rfl,z,N⟩⟩
 .have D:(a !=0)=true:=by simpa using s
  go_wp2;refine bodyPost_ret (v:=.tuple #[.slice none 0 0,.slice none 0 0,Iq a,Iq b]) (by simp[results,results49,go_sem]) rfl ?_;exact⟨f,.inl ⟨a,b,rfl,s⟩⟩
 .have C:=qH λx y=>LP ⟨z,N.1⟩ (d.out E g n cap f z N) x y;replace f:=qH f;replace N:=qH N;rcases(by omega:x<1\/(1<=x/\400<x)\/(1<=x/\x<=400/\y<1)\/(1<=x/\x<=400/\1<=y/\400<y)\/(1<=x/\x<=400/\1<=y/\y<=400))with h|⟨i,j⟩|⟨i,j,l⟩|⟨i,j,l,r⟩|⟨i,j,l,r⟩;rotate_right;.go_wp2_with(go_at_call 84;refine ag (C.out _ _) ?_;rintro e G ⟨⟨A,rfl,P⟩,o⟩);refine bodyPost_ret (v:=.tuple #[Sq g n cap,Sq A n n,Iq 0,Iq 0]) (by simp[results,results49,go_sem]) rfl ?_;exact⟨f.trans (o.mono f.size),.inr ⟨g,n,cap,A,n,rfl,N.below o,P,i,j,l,r⟩⟩
  all_goals go_wp2;refine bodyPost_ret (v:=.tuple #[.slice none 0 0,.slice none 0 0,Iq 6,Iq 0]) (by simp[results,results49,go_sem]) rfl ?_;exact⟨f,.inl ⟨_,_,rfl,dg⟩⟩
section
variable{Q m:Nat} {t:BY} {p q:Int} {v:Fd} {fr:Bool} {w:AT}
def Xo(Q m:Nat)(p q:Int)(v:Fd)(fr:Bool)(w:AT)(e:Ending)(w':AT):Prop:=(∃x y,e=Rw (.tuple #[Iq x,Iq y]))/\∃t' v' m',uz Q t' p q v' m' fr w'/\m'<=m/\w.grownBy w' (some Q)/\∀b,v'.ownBlock=some b->v.ownBlock=some b\/w.heap.size<=b
def Rr(h:uz Q t p q v m fr w){s:BY}(x:Cw 13 #[.string s] w λe w'=>S4 w e w')(hm:m<=1099511627776):Cw 19 #[Pq Q,.string s] w λe w'=>Xo Q m p q v fr w e w':=by
 obtain⟨i0,hi,I,J,L⟩:=info_parts NQ;have A:=qH h;replace x:=qH x;clear h;go_enter func19,ntmps19;go_wp2_with fail;refine ag x.out ?_;rintro e y ⟨d,⟨u,a,b,rfl,Y⟩|⟨g,n,cap,rfl,hn,N⟩⟩
 .have Z:(a !=0)=true:=by simpa using Y
  go_wp2;go_ret2;exact⟨⟨_,_,rfl⟩,t,v,m,A.below d,LE,J9 d,λ_=>.inl⟩
 .have C:=qH (A.below d);have U:=qH λid W X=>Bv (cap:=cap) N id W X;replace d:=qH d;obtain⟨⟨E,c1,c2,c3,c4⟩,P⟩:=LX C.sb;obtain⟨vp,vc,rfl,D⟩:=C.of.sl;replace D:=qH D;have R:Hid (Q<y.heap.size):=klt E;clear N A x;go_wp2;clear E c1 c2 c3 c4 P;go_loopw[9,10] (λl i wr=>∃(j k:Nat),i=Iq j/\j<=m/\k<=j/\KR wr y.heap.size 112 2 l k KZ/\Bq y wr) (λ_ i _=>m-(intOf i).toNat);.exact⟨0,0,rfl,dg,dg,KR.nil _ _ _ _ _,Ok⟩
  obtain⟨j,k,rfl,hj,hk,o,f⟩:=hrel;have O:=qH ((f.block Q R.out).trans C.sb);obtain⟨⟨E,c1,c2,c3,c4⟩,P⟩:=LX O.out;by_cases ze:j<m;.have r:(j:Int)<m:=dg;obtain⟨gg,rfl,_,KG⟩:=D dg;obtain⟨x0,d0⟩:=(KG.below f).z (j:=j*2) dg;obtain⟨x1,d1⟩:=(KG.below f).z (j:=j*2+1) dg;go_wp2_with(first
    |(go_at_call 43;refine ag (U.out _ _ f) ?_;rintro e u4 ⟨⟨z,rfl,z0,z1⟩,V⟩;obtain rfl:=V.symm)
    |(at_builtin;refine yK (W0:=y) hi I J L o f [Iq x0,Iq x1] rfl _ _ rfl underlying100 ⟨rfl,by decide,by decide⟩ rfl rfl rfl ⟨rfl,rfl⟩ dg (λi u hu=>by have:=nQ hu;simp at this;rcases this with rfl|rfl<;>exact⟨_,rfl⟩) ?_;intro v' w6 S G _));all_goals first
    |exact⟨⟨j+1,k+1,by go_num,dg,dg,S,G⟩,by simp only[intOf];omega⟩
    |exact⟨⟨j+1,k,by go_num,dg,dg,o,f⟩,by simp only[intOf];omega⟩
  .have r:¬(j:Int)<m:=dg;obtain⟨lp,lc,rfl,_⟩:=o.sl;go_wp2;go_ret2;refine⟨⟨_,_,rfl⟩,s,.slice lp k lc,k,⟨?_,?_⟩,dg,(J9 d).trans ((J9 f).trans (yp (yp (World.grownBy.refl _ _)))),λb e=>.inr (by obtain⟨_,K,_⟩:=o;have:=(K.lt b e).1;have:=d.size;omega)⟩;.rw[heap_setCell_same _ _ _ _ _ _ (heap_setCell_same _ _ _ _ _ _ O)];rfl
   .exact((o.base (by have:=R.out;omega)).low (xP _) _ _).low (xP _) _ _
end
section
variable{w:AT} {g g' n b b' cap cap':Nat}
def KB.ce{w:AT}{M n b:Nat}(h:KB w M (n*5) (xU n b)){i:Nat}(hi:i<n):∃s f g o p,(w.cell? (aq M (i*5))=some (.string s)/\w.cell? (aq M (i*5+1))=some (Iq f)/\w.cell? (aq M (i*5+2))=some (Iq g)/\w.cell? (aq M (i*5+3))=some (Iq o)/\w.cell? (aq M (i*5+4))=some (Iq p))/\Hid (s.size<=b/\(p=1->i+1<n)/\(p=2->0<i)):=by have H:=h.2;obtain⟨_,x,c,P,_⟩:=H (i*5) dg;obtain⟨s,rfl,l⟩:=P dg;obtain⟨_,y,c1,_,a⟩:=H (i*5+1) dg;obtain⟨f,rfl,_⟩:=a dg;obtain⟨_,z,c2,_,P2⟩:=H (i*5+2) dg;obtain⟨g,rfl,_⟩:=P2 dg;obtain⟨_,A,c3,_,d⟩:=H (i*5+3) dg;obtain⟨o,rfl,_⟩:=d dg;obtain⟨_,C,c4,_,j⟩:=H (i*5+4) dg;obtain⟨p,rfl,k⟩:=j dg;obtain⟨r,u⟩:=k dg;exact⟨s,f,g,o,p,⟨c,c1,c2,c3,c4⟩,l,λe=>by have:=r e;omega,λe=>by have:=u e;omega⟩
def Xj(n:Nat)(e:Ending):Prop:=∃x,e=Rw (Iq x)/\-1<=x/\x<n
def Hm(h:KB w g (n*5) (xU n b))(o:n<=160000){i:Nat}(hi:i<n):Cw 83 #[Sq g n cap,Iq (i:Nat)] w λe w'=>Xj n e/\w'=w:=by
 obtain⟨_,_,_,_,p,⟨_,_,_,_,d4⟩,a⟩:=h.ce hi;have d:(i:Int)<n:=dg;clear h;rcases(by omega:p=1\/p=2\/(p≠1/\p≠2))with rfl|rfl|⟨f,j⟩;all_goals
  try have k:(p==1)=false:=by simpa using f
  try have l:(p==2)=false:=by simpa using j
  go_enter func83,ntmps83;go_wp2;go_ret;exact⟨⟨_,rfl,dg,by first|omega|(have:=a.2.1 (by trivial);omega)⟩,rfl⟩
def Ug(a b c d e:Bool):a=false\/a=true/\(b=false\/b=true/\(c=false\/c=true/\(d=false\/d=true/\(e=false\/e=true)))):=by revert a b c d e;decide
def W_(P:Prop)(e:Ending):Prop:=∃c,e=Rw (.bool c)/\(c=true->P)
def OY{p r:zze}{a:Nat}(h:0<n->∃g,p=some (aq g 0)/\KB w g (n*5) (xU n b))(l:0<a->∃g,r=some (aq g 0)/\KB w g (a*5) (xU a b'))(R:n<=160000):Cw 47 #[.slice p n cap,.slice r a cap'] w λe w'=>W_ (n=a) e/\Bq w w':=by
 replace h:=qH h;replace l:=qH l;by_cases e:n=a
 .subst e;go_enter func47,ntmps47;go_wp2;go_loopw[5] (λi wr=>∃j:Nat,i=Iq j/\j<=n/\Hid (Bq w wr)) (λi _=>n-(intOf i).toNat);.exact⟨0,rfl,dg,Ok⟩
  obtain⟨j,rfl,P,d⟩:=hrel;by_cases f:j<n
  .have k:(j:Int)<n:=dg;obtain⟨g,rfl,H⟩:=h dg;obtain⟨g',rfl,o⟩:=l dg;obtain⟨J,f1,A,D,G,⟨N,c1,c2,c3,c4⟩,_⟩:=(H.below d).ce f;obtain⟨L,f2,C,E,I,⟨d0,d1,d2,d3,d4⟩,_⟩:=(o.below d).ce f;clear H o;rcases Ug (J.toList==L.toList) (f1==f2) (A==C) (D==E) (G==I)with s|⟨s,u|⟨u,x|⟨x,y|⟨y,z|z⟩⟩⟩⟩;all_goals go_wp2_with fail;go_quiet(fail);go_wp2
   all_goals first
    |exact⟨⟨j+1,by go_num,dg,below_drewN d _⟩,by simp only[intOf];omega⟩
    |(go_ret;exact⟨⟨_,rfl,λ_=>by trivial⟩,below_drewN d _⟩)
  .have k:¬(j:Int)<n:=dg;go_wp2;go_ret;exact⟨⟨_,rfl,λ_=>by trivial⟩,d⟩
 .have O:((n:Int)!=a)=true:=by simp;omega
  go_enter func47,ntmps47;go_wp2;go_ret;exact⟨⟨_,rfl,At⟩,Ok⟩
def Hx(h:KB w g (n*5) (xU n b))(D:KB w g' (n*5) (xU n b'))(X:n<=160000):Cw 48 #[Sq g n cap,Sq g' n cap'] w λe w'=>(∃B,e=Rw (Sq B n n)/\KB w' B n PO)/\Bq w w':=by
 have O:=run_make_row' (P:=prog) 106 4 (.bool false) 1 underlying106 Hc rfl .i64 .i64 n dg dg;have bV:Hid (Bq w (w.alloc (.cells (madeCells #[.bool false] n) 4))):=No;have l:Hid (KB (w.alloc (.cells (madeCells #[.bool false] n) 4)) w.heap.size n PO):=KB.make w n 4 (.bool false) λ_=>⟨_,rfl⟩;replace h:=qH h;replace D:=qH D;go_enter func48,ntmps48;go_wp2;obtain⟨S,hS⟩:=af w.heap.size;rw[hS]at l|-;have N:w.heap.size<=S:=dg;have C:=qH N;clear hS O;go_loopw[6] (λi wr=>∃j:Nat,i=Iq j/\j<=n/\Hid (Bq w wr)/\Hid (KB wr S n PO)) (λi _=>n-(intOf i).toNat);.exact⟨0,rfl,dg,bV,l⟩
 obtain⟨j,rfl,hj,E,KS⟩:=hrel;by_cases d:j<n
 .have G:(j:Int)<n:=dg;have H:=qH (h.below E);have R:=qH (D.below E);obtain⟨s1,f1,g1,o1,p1,⟨c0,c1,c2,c3,c4⟩,_⟩:=H.ce d;obtain⟨s2,f2,g2,o2,p2,⟨d0,d1,d2,d3,d4⟩,_⟩:=R.ce d;obtain⟨zf,_,zc,_,rfl⟩:=KS.2 j d;go_upto_region 5 with fail;go_cut[26]from 18 to 25 (λs wx=>(∃c,s=.bool c)/\Hid (Bq wr wx));.rcases Ug (s1.toList==s2.toList) (f1==f2) (g1==g2) (o1==o2) (p1==p2)with e0|⟨e0,e1|⟨e1,e2|⟨e2,e3|⟨e3,e4|e4⟩⟩⟩⟩;all_goals go_quiet(fail);go_wp2;go_meet;exact⟨⟨_,rfl⟩,below_drewN Ok _⟩
  obtain⟨⟨c,rfl⟩,V⟩:=hcut;have f:=qH (E.trans (V.mono E.size));have J:=qH (KS.below V);have H5:=qH (h.below f);have L:=qH (D.below f);obtain⟨Z,_,Y,_,rfl⟩:=J.2 j d;clear c0 c1 c2 c3 c4 d0 d1 d2 d3 d4 zf zc H R KS;cases c;.go_wp2;exact⟨⟨j+1,by go_num,dg,f,J⟩,by simp only[intOf];omega⟩
  .have a:=qH (f.setCell (p:=(aq S j)) C.out (.bool true));have o:=qH (J.set S j (.bool true) λ_=>⟨_,rfl⟩);have U:=qH (h.below a);have A:=qH (D.below a);clear H5 L;go_wp2_with fail;refine(Hm U X d).mono ?_;rintro e u7 ⟨⟨x,rfl,x0,x1⟩,h7⟩;obtain rfl:=h7.symm;go_wp2_with fail;refine(Hm A X d).mono ?_;rintro e u8 ⟨⟨y,rfl,y0,y1⟩,h8⟩;obtain rfl:=h8.symm;clear U A Z Y;have ST:Hid (∀(u:AT) (i:Nat),KB u S n PO->Bq w u->KB (u.setCell (aq S i) (.bool true)) S n PO/\Bq w (u.setCell (aq S i) (.bool true))):=λu i k b=>⟨k.set _ _ _ λ_=>⟨_,rfl⟩,b.setCell C.out _⟩;obtain⟨u9,I⟩:=af (wc.setCell (aq S j) (.bool true));rw[I]at a o|-;clear I f J;rcases(by omega:x=-1\/0<=x)with rfl|hx
   .rcases(by omega:y=-1\/0<=y)with rfl|hy;.go_wp2;exact⟨⟨j+1,by go_num,dg,a,o⟩,by simp only[intOf];omega⟩
    .obtain⟨y,rfl⟩:=db hy;obtain⟨yf,_,yc,_,rfl⟩:=o.2 y dg;go_wp2;exact⟨⟨j+1,by go_num,dg,(ST _ _ o a).2,(ST _ _ o a).1⟩,by simp only[intOf];omega⟩
   .obtain⟨x,rfl⟩:=db hx;obtain⟨Z,_,Y,_,rfl⟩:=o.2 x dg;obtain⟨r,z⟩:=ST _ x o a;replace r:=qH r;replace z:=qH z;rcases(by omega:y=-1\/0<=y)with rfl|hy;.go_wp2;exact⟨⟨j+1,by go_num,dg,z,r⟩,by simp only[intOf];omega⟩
    .obtain⟨y,rfl⟩:=db hy;obtain⟨yf,_,yc,_,rfl⟩:=r.2 y dg;go_wp2;exact⟨⟨j+1,by go_num,dg,(ST _ _ r z).2,(ST _ _ r z).1⟩,by simp only[intOf];omega⟩
 .have G:¬(j:Int)<n:=dg;go_wp2;go_ret;exact⟨⟨S,rfl,KS⟩,E⟩
end
