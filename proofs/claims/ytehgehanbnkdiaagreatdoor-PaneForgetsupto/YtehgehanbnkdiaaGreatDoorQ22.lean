import Derived.Test.YtehgehanbnkdiaaGreatDoorQ19
import Derived.Test.YtehgehanbnkdiaaGreatDoorQ12
set_option linter.all false
set_option maxRecDepth 100000
set_option maxHeartbeats 16000000
namespace Go.Proofs.YtehgehanbnkdiaaGreatDoor
open Go.RowKit Go.Proofs.Tryz
theorem Oc(a b c d n:Int)(w:AT):Cw 207 #[.agg #[Iq a,Iq b,Iq c,Iq d],Iq n] w λe w'=>VY e/\Bq w w':=(yM a b c d n w).mono λe w' ⟨h,g⟩=>⟨⟨_,_,_,_,h⟩,g.below⟩
theorem Ti(a b c d p q r s:Int):∃x y z u,∀w,Cw 134 #[.agg #[Iq a,Iq b,Iq c,Iq d],.agg #[Iq p,Iq q,Iq r,Iq s]] w λe w'=>e=Rw (.agg #[Iq x,Iq y,Iq z,Iq u])/\Bq w w':=by
 have H:∃x y z u,ma a b c d p q r s=.agg #[Iq x,Iq y,Iq z,Iq u]:=by
  unfold ma;split;·exact⟨_,_,_,_,rfl⟩
  ·exact⟨_,_,_,_,rfl⟩
 obtain⟨x,y,z,u,H⟩:=H;exact⟨x,y,z,u,λw=>(wD a b c d p q r s w).mono λe w' ⟨h,g⟩=>⟨h.trans (congrArg _ H),g.below⟩⟩
structure sK(W:AT)(pb n A:Nat)(u:AT):Prop where
 y:KY W pb n u
 q:KB u A 4 KZ
 sz:W.heap.size<=A
 lt:pb<A
theorem sK.set{W u:AT}{a n A:Nat}(h:sK W a n A u)(o:Nat)(x:Int):sK W a n A (u.setCell (aq a o) (Iq x)):=⟨h.y.set o x,h.q.set _ _ _ λ_=>⟨_,rfl⟩,h.sz,h.lt⟩
theorem sK.rect{W u:AT}{a n A:Nat}(h:sK W a n A u)(o:Nat)(x:Int):sK W a n A (u.setCell (aq A o) (Iq x)):=⟨h.y.other _ _ _ h.sz (by have:=h.lt;omega),h.q.set _ _ _ λ_=>⟨_,rfl⟩,h.sz,h.lt⟩
theorem sK.below{W u v:AT}{a n A:Nat}(h:sK W a n A u)(b:Bq u v):sK W a n A v:=⟨h.y.below b,h.q.below b,h.sz,h.lt⟩
theorem sK.cs{W u:AT}{a n A:Nat}(h:sK W a n A u):(∃x,u.cell? (aq A 0)=some (Iq x))/\(∃x,u.cell? (aq A 1)=some (Iq x))/\(∃x,u.cell? (aq A 2)=some (Iq x))/\(∃x,u.cell? (aq A 3)=some (Iq x))/\u.frozen? (aq A 0)=false/\u.frozen? (aq A 1)=false/\u.frozen? (aq A 2)=false/\u.frozen? (aq A 3)=false:=⟨h.q.z dg,h.q.z dg,h.q.z dg,h.q.z dg,(h.q.2 _ dg).1,(h.q.2 _ dg).1,(h.q.2 _ dg).1,(h.q.2 _ dg).1⟩
theorem KB.row4{w:AT}{g:Nat}{a b c d:Int}{t:TypeId}(h:w.heap[g]?=some (.cells #[Iq a,Iq b,Iq c,Iq d] t (0,0))):KB w g 4 KZ:=by
 refine⟨(aj.1 h).1,λj e=>⟨frozen_of_row _ _ _ _ _ h,?_⟩⟩;rcases(by omega:j=0\/j=1\/j=2\/j=3)with rfl|rfl|rfl|rfl;·exact⟨_,cell_of_row _ _ 0 _ _ _ h,_,rfl⟩
 ·exact⟨_,cell_of_row _ _ 1 _ _ _ h,_,rfl⟩
 ·exact⟨_,cell_of_row _ _ 2 _ _ _ h,_,rfl⟩
 ·exact⟨_,cell_of_row _ _ 3 _ _ _ h,_,rfl⟩
def xJ(W:AT)(pb m:Nat)(v:Fd):Prop:=∃g c,v=Sq g m c/\pb<g/\KB W g m KZ
theorem xJ.gr{W u:AT}{a m:Nat}{v:Fd}(h:xJ W a m v)(k:W.grownBy u (some a)):xJ u a m v:=by obtain⟨g,c,e,l,h⟩:=h;exact⟨g,c,e,l,h.of k.size (k.block g h.1 λe=>by injection e;omega)⟩
theorem Qs{w:AT}{g n A f pc sn:Nat}{sv:Fd}(h:uf w g n)(hS:Q9 w sv sn)(zZ:sn<=1099511627776)(Qc:w.heap.size<=f)(k:Nat)(h2:k<n)(KK:Hid (∀c,k<c->c<n->∀U,Bq w U->KB U f (n*10) KZ->Cw 128 #[Sq g n A,Sq f n pc,Iq (c:Nat),sv] U λe U'=>qv e/\KY U f n U'))(U:AT)(hU:Bq w U)(hP:KB U f (n*10) KZ):
 Cw 128 #[Sq g n A,Sq f n pc,Iq (k:Nat),sv] U λe U'=>qv e/\KY U f n U':=by
 have Qa:prog.follows .mixedOrders=true:=pt;obtain⟨B,ab,t,kp,m,kc,up,N⟩:=h.2 k h2;have zU:Hid (∀i,i<m->∃kb ko c,kp=some (aq kb ko)/\c<n/\(∀W,Bq w W->W.cell? (aq kb (ko+i))=some (Iq (c:Nat)))/\∀U,Bq w U->KB U f (n*10) KZ->Cw 128 #[Sq g n A,Sq f n pc,Iq (c:Nat),sv] U λe U'=>qv e/\KY U f n U'):=λi hi=>by obtain⟨kb,ko,c,e,l1,l2,hc⟩:=N.kid i hi;exact⟨kb,ko,c,e,l2,hc,KK c l1 l2⟩
 clear KK;have hn:=h.1;have zN:=N.ml;have hk:(k:Int)<n:=dg;have hs:=hU.size;obtain⟨a0,A0⟩:=N.a 0 dg;obtain⟨a4,A4⟩:=N.a 4 dg;obtain⟨a5,A5⟩:=N.a 5 dg;obtain⟨a6,A6⟩:=N.a 6 dg;have R:Hid (∀W,Bq w W->W.cell? (aq ab 0)=some (Iq a0)/\W.cell? (aq ab 4)=some (Iq a4)/\W.cell? (aq ab 5)=some (Iq a5)/\W.cell? (aq ab 6)=some (Iq a6)):=λW hW=>⟨A0 W hW,A4 W hW,A5 W hW,A6 W hW⟩;clear A0 A4 A5 A6;have AC:Hid (∀u,Bq w u->Cw 204 #[Sq g n A,Iq (k:Nat)] u λe X=>(∃v,e=Rw v/\Hid (Mu 203 m v X)/\Hid (Mu 205 m v X))/\Hid (Bq u X)):=λu hu=>(Th (cap:=A) h N h2 u hu).1.mono λe X ⟨h,b⟩=>⟨Tt h zN,b⟩;have DN:Hid (∀x u,Bq w u->Cw 206 #[Sq g n A,Iq (k:Nat),Iq x] u λe X=>(∃v,e=Rw v/\Hid (Mu 203 m v X)/\Hid (Mu 205 m v X))/\Hid (Bq u X)):=λx u hu=>((Th (cap:=A) h N h2 u hu).2 x λc hc u hu=>ty h n c dg hc x u hu).mono λe X ⟨h,b⟩=>⟨Tt h zN,b⟩;have HI:=qH λc (hc:c<n) x u hu=>ty (cap:=A) h n c dg hc x u hu;have OF:=qH λid u hu=>Ki hS zZ id u hu;obtain⟨c0,c1,c2,c3,c4⟩:=N.c U hU;clear N;obtain⟨V,hV,bV,HV⟩:=GK U B up ab m kc t kp;obtain⟨x,r0⟩:=(hP.below bV).z (j:=k*10) dg;obtain⟨y,r1⟩:=(hP.below bV).z (j:=k*10+1) dg;obtain⟨z,r2⟩:=(hP.below bV).z (j:=k*10+2) dg;obtain⟨q,r3⟩:=(hP.below bV).z (j:=k*10+3) dg;obtain⟨l,zl⟩:=af U.heap.size;have zX:V.heap.size=l+1:=by rw[<-hV,ai,zl]
 obtain⟨J,zy⟩:=af (V.alloc (.cells #[Iq x,Iq y,Iq z,Iq q] 123));have bW:Bq V J:=by rw[<-zy];exact(ac _ _).alloc (ad _) _
 have zm:=qH (bV.trans (bW.mono bV.size));have XP:f<l:=by have:=hP.1;omega
 have Y2:Hid (KY U f n J):=(show KY U f n U from⟨World.grownBy.refl _ _,hP⟩).below zm;have hr:J.heap[l+1]?=some (.cells #[Iq x,Iq y,Iq z,Iq q] 123 (0,0)):=by rw[<-zy,<-zX];exact heap_alloc_new _ _
 have D:Hid (∀u,J.grownBy u (some f)->(u.cell? (aq l 0)=some (Iq B)/\u.cell? (aq l 1)=some (Sq ab 12 12)/\u.cell? (aq l 2)=some (.string t)/\u.cell? (aq l 3)=some (.slice kp m kc)/\u.cell? (aq l 4)=some (Iq up))/\u.cell? (aq (l+1) 0)=some (Iq x)/\u.cell? (aq (l+1) 1)=some (Iq y)/\u.cell? (aq (l+1) 2)=some (Iq z)/\u.cell? (aq (l+1) 3)=some (Iq q)):=λu hu=>by
  have ne:∀j,l<=j->some j≠some f:=λj hj e=>by injection e;omega
  have H:=HV J bW;rw[zl]at H;obtain⟨h0,h1,h2,h3,h4⟩:=H;exact⟨⟨hu.cell h0 (ne _ At),hu.cell h1 (ne _ At),hu.cell h2 (ne _ At),hu.cell h3 (ne _ At),hu.cell h4 (ne _ At)⟩,hu.cell (cell_of_row _ _ 0 _ _ _ hr) (ne _ At),hu.cell (cell_of_row _ _ 1 _ _ _ hr) (ne _ At),hu.cell (cell_of_row _ _ 2 _ _ _ hr) (ne _ At),hu.cell (cell_of_row _ _ 3 _ _ _ hr) (ne _ At)⟩
 have E:=qH (hU.trans (zm.mono hs));have G:Hid (∀u,J.grownBy u (some f)->Bq w u):=λu hu=>E.grown hu E.size λq e=>by injection e;omega
 have ZL:l<=J.heap.size:=by have:=zm.size;omega
 obtain⟨⟨z0,z1,z2,z3,z4⟩,z5,z6,z7,z8⟩:=D J (World.grownBy.refl _ _);obtain⟨y0,y4,y5,y6⟩:=R J E;clear hr;go_enter func128,ntmps128;go_upto_if 28 with fail;clear c0 c1 c2 c3 c4 r0 r1 r2 r3 hV zy;have T:Hid (∀u,Bq J u->u.cell? (aq (l+1) 3)=some (Iq q)/\u.cell? (aq (l+1) 2)=some (Iq z)/\u.cell? (aq l 1)=some (Sq ab 12 12)/\u.cell? (aq ab 4)=some (Iq a4)):=λu hu=>by obtain⟨⟨_,h1,_⟩,_,_,h2,h3⟩:=D u (Jh hu);exact⟨h3,h2,h1,(R u (G u (Jh hu))).2.1⟩
 go_cut[10,11,28]from 29 to 48 (λv1 v2 _ wx=>Hid (Bq J wx)/\Hid (B=0->xJ wx f m v1/\xJ wx f m v2));case first=>
  by_cases k0:B=0
  ·have e0:(B==0)=true:=by rw[k0];rfl
   have HD:=qH E.drew;have S:Hid (Bq J J.drew):=(ac _ _).drew;clear k0;go_wp2_with fail;go_region_held(λu=>u.cell? (aq (l+1) 2)=some (Iq z)/\u.cell? (aq l 1)=some (Sq ab 12 12)/\u.cell? (aq ab 4)=some (Iq a4)) (go_keep) (first
    |(go_at_call 204;refine ag (AC.out _ HD.out) ?_;rintro e u5 ⟨⟨v5,rfl,SP,_⟩,L⟩;have p:=qH<|S.out.trans (L.out.mono S.out.size);obtain⟨_,s1,s2,s3⟩:=T.out u5 p.out)
    |(go_at_call 203;refine ag (SP.out _ _) ?_;rintro e u6 ⟨⟨g6,c6,rfl,l6,K6⟩,ze⟩;have F:=qH<|p.out.trans (ze.mono p.out.size);have zr:Hid (xJ u6 f m (Sq g6 m c6)):=⟨_,_,rfl,by have:=p.out.size;omega,K6⟩;obtain⟨_,t1,t2,t3⟩:=T.out u6 F.out;clear K6 l6));all_goals
    have zo:=qH ((E.trans (F.mono E.size)).drew);have O:=qH F.drew;clear s1 s2 s3;go_wp2_with fail;go_region_held(λu=>u.cell? (aq (l+1) 2)=some (Iq z)/\u.cell? (aq l 1)=some (Sq ab 12 12)/\u.cell? (aq ab 4)=some (Iq a4)) (go_keep) (first
     |(go_at_call 204;refine ag (AC.out _ zo.out) ?_;rintro e u7 ⟨⟨v7,rfl,_,SO⟩,M⟩;have HF7:=qH<|O.out.trans (M.out.mono O.out.size);obtain⟨_,q1,q2,q3⟩:=T.out u7 HF7.out)
     |(go_at_call 205;refine ag (SO.out _ _) ?_;rintro e u8 ⟨⟨g8,c8,rfl,l8,K8⟩,zg⟩;have zh:=qH<|HF7.out.trans (zg.mono HF7.out.size);have zt:Hid (xJ u8 f m (Sq g8 m c8)):=⟨_,_,rfl,by have:=HF7.out.size;omega,K8⟩;obtain⟨_,x1,x2,x3⟩:=T.out u8 zh.out;clear K8 l8;have zu:Hid (xJ u8 f m (Sq g6 m c6)):=zr.out.gr (Jh ((ac _ _).drew.trans (M.out.trans (zg.mono M.out.size))))));all_goals go_wp2_with fail;go_meet;exact⟨zh,λ_=>⟨zu,zt⟩⟩
  ·have e0:(B==0)=false:=by simpa using k0
   have zv:=qH k0;clear k0;go_wp2_with fail;go_meet;exact⟨ac _ _,λq=>absurd q zv⟩
 case rest=>
  obtain⟨Z,zq⟩:=hcut;obtain⟨W3,rfl⟩:=xF wc;obtain⟨w1,rfl⟩:=xF u10;obtain⟨w2,rfl⟩:=xF u11;have zw:=qH (E.trans (Z.mono E.size));clear z0 z1 z2 z3 z4 z5 z6 z7 z8 y0 y4 y5 y6;obtain⟨⟨z0,z1,z2,z3,z4⟩,z5,z6,z7,z8⟩:=D W3 (Jh Z);obtain⟨y0,y4,y5,y6⟩:=R W3 zw;go_upto_if 51 with fail;go_cut[10,11,51]from 52 to 75 (λv1 v2 _ wx=>Hid (Bq J wx)/\Hid (B=0\/B=1->xJ wx f m v1/\xJ wx f m v2));case first=>
   by_cases k1:B=1
   ·have e1:(B==1)=true:=by rw[k1];rfl
    have HD:=qH zw.drew;have S:=qH Z.drew;clear k1 zq;go_wp2_with fail;go_region_held(λu=>u.cell? (aq (l+1) 3)=some (Iq q)/\u.cell? (aq (l+1) 2)=some (Iq z)/\u.cell? (aq l 1)=some (Sq ab 12 12)/\u.cell? (aq ab 4)=some (Iq a4)) (go_keep) (first
     |(go_at_call 206;refine ag (DN.out _ _ HD.out) ?_;rintro e u5 ⟨⟨v5,rfl,SP,_⟩,L⟩;have p:=qH<|S.out.trans (L.out.mono S.out.size);obtain⟨s0,s1,s2,s3⟩:=T.out u5 p.out)
     |(go_at_call 203;refine ag (SP.out _ _) ?_;rintro e u6 ⟨⟨g6,c6,rfl,l6,K6⟩,ze⟩;have F:=qH<|p.out.trans (ze.mono p.out.size);have zr:Hid (xJ u6 f m (Sq g6 m c6)):=⟨_,_,rfl,by have:=p.out.size;omega,K6⟩;obtain⟨t0,t1,t2,t3⟩:=T.out u6 F.out;clear K6 l6));all_goals
     have zo:=qH ((E.trans (F.mono E.size)).drew);have O:=qH F.drew;clear s0 s1 s2 s3;go_wp2_with fail;go_region_held(λu=>u.cell? (aq (l+1) 3)=some (Iq q)/\u.cell? (aq (l+1) 2)=some (Iq z)/\u.cell? (aq l 1)=some (Sq ab 12 12)/\u.cell? (aq ab 4)=some (Iq a4)) (go_keep) (first
      |(go_at_call 206;refine ag (DN.out _ _ zo.out) ?_;rintro e u7 ⟨⟨v7,rfl,_,SO⟩,M⟩;have HF7:=qH<|O.out.trans (M.out.mono O.out.size);obtain⟨q0,q1,q2,q3⟩:=T.out u7 HF7.out)
      |(go_at_call 205;refine ag (SO.out _ _) ?_;rintro e u8 ⟨⟨g8,c8,rfl,l8,K8⟩,zg⟩;have zh:=qH<|HF7.out.trans (zg.mono HF7.out.size);have zt:Hid (xJ u8 f m (Sq g8 m c8)):=⟨_,_,rfl,by have:=HF7.out.size;omega,K8⟩;obtain⟨x0,x1,x2,x3⟩:=T.out u8 zh.out;clear K8 l8;have zu:Hid (xJ u8 f m (Sq g6 m c6)):=zr.out.gr (Jh ((ac _ _).drew.trans (M.out.trans (zg.mono M.out.size))))));all_goals go_wp2_with fail;go_meet;exact⟨zh,λ_=>⟨zu,zt⟩⟩
   ·have e1:(B==1)=false:=by simpa using k1
    have zv:=qH k1;clear k1;go_wp2_with fail;go_meet;exact⟨Z,λq=>zq (q.resolve_right zv)⟩
  case rest=>
   obtain⟨zF,zG⟩:=hcut;obtain⟨W4,rfl⟩:=xF wc;obtain⟨v1,rfl⟩:=xF u10;obtain⟨v2,rfl⟩:=xF u11;clear z0 z1 z2 z3 z4 z5 z6 z7 z8 y0 y4 y5 y6 AC DN zq Z zw T;have zI:Hid (KY U f n W4):=Y2.below zF;go_wp2;go_loopw[12] (λiv wr=>∃j:Nat,j<=m/\iv=Iq (j:Int)/\Hid (KY W4 f n wr)) (λiv _=>m-(intOf iv).toNat);case atStart=>exact⟨0,aP _,rfl,World.grownBy.refl _ _,zI.2⟩
   case round=>
    obtain⟨j,hj,rfl,P⟩:=hrel;have zi:Hid (J.grownBy wr (some f)):=(Jh zF).trans P.1;obtain⟨⟨z0,z1,z2,z3,z4⟩,z5,z6,z7,z8⟩:=D wr zi;by_cases zB:j<m
    ·have zM:(j:Int)<m:=dg
     obtain⟨kb,ko,o,rfl,zY,hc,zx⟩:=zU j zB;have k0:=hc wr (G wr zi);replace zx:=qH zx;clear hc;have W_:(o:Int)<n:=dg;obtain⟨C,zk⟩:=af wr.heap.size;obtain⟨Q,zA⟩:=af (wr.alloc (.cells #[Iq x,Iq y,Iq z,Iq q] 123));have zn:Hid (Bq wr Q):=by rw[<-zA];exact(ac _ _).alloc (ad _) _
     have zO:Q.heap[C]?=some (.cells #[Iq x,Iq y,Iq z,Iq q] 123 (0,0)):=by rw[<-zA,<-zk];exact heap_alloc_new _ _
     have s:Hid (sK wr f n C Q):=⟨(show KY wr f n wr from⟨World.grownBy.refl _ _,P.2⟩).below zn,KB.row4 zO,dg,by have:=P.2.1;omega⟩;have r:Hid (∀u,sK wr f n C u->J.grownBy u (some f)):=λu hu=>zi.trans hu.y.1;have zj:Hid (B=0\/B=1->xJ wr f m v1/\xJ wr f m v2):=λe=>⟨(zG e).1.gr P.1,(zG e).2.gr P.1⟩;have zl:Hid (l+1<C/\ab<C):=⟨by rw[<-zk];exact klt z5,by rw[<-zk];exact klt (R wr (G wr zi)).1⟩;obtain⟨⟨p0,p1,p2,p3,p4⟩,p5,p6,p7,p8⟩:=D Q (r Q s);obtain⟨y0,Y6,zC,zD⟩:=R Q (G Q (r Q s));have zE:=qH zk;go_upto_block 2 with fail;clear z0 z1 z2 z3 z4 z5 z6 z7 z8 k0 zA zk;go_cut[15,16]from 91 to 181 (λ_ _ wx=>Hid (sK wr f n C wx));case first=>
      obtain⟨⟨_,q0⟩,⟨_,q1⟩,⟨_,q2⟩,⟨_,q3⟩,g0,g1,g2,g3⟩:=s.out.cs;have hL:=s.lt;have hN:=zl.out;have n1:¬C=l+1:=dg;have n2:¬C=l:=dg;have n3:¬C=ab:=dg;have n4:¬C=f:=dg;have CR:Hid (∀u,sK wr f n C u->∀a b c d:Int,Hid (sK wr f n C ((((u.setCell (aq C 0) (Iq a)).setCell (aq C 1) (Iq b)).setCell (aq C 2) (Iq c)).setCell (aq C 3) (Iq d)))):=λu hu a b c d=>(((hu.rect 0 a).rect 1 b).rect 2 c).rect 3 d;have S:Hid (Bq Q Q.drew):=(ac _ _).drew;have zT:=qH (s.below S);rcases(by omega:(B=0\/B=1)\/B=3\/B=4\/(B≠0/\B≠1/\B≠3/\B≠4))with q|q|q|⟨q,q',zQ,zR⟩
      ·obtain⟨⟨b1,e1,rfl,l1,K1⟩,b2,e2,rfl,l2,K2⟩:=zj q;obtain⟨s1,o1⟩:=(K1.below zn).z zB;obtain⟨s2,o2⟩:=(K2.below zn).z zB;have m1:=K1.1;have m2:=K2.1;have n5:¬C=b1:=by have:=zE.out;omega
       have n6:¬C=b2:=by have:=zE.out;omega
       clear m1 m2 zj K1 K2;rcases q with rfl|rfl;all_goals go_wp2_with fail;go_region_held(λu=>(u.cell? (aq (l+1) 0)=some (Iq x)/\u.cell? (aq (l+1) 1)=some (Iq y)/\u.cell? (aq (l+1) 2)=some (Iq z)/\u.cell? (aq (l+1) 3)=some (Iq q))/\u.cell? (aq b1 j)=some (Iq s1)/\u.cell? (aq b2 j)=some (Iq s2)) (go_keep) (fail);all_goals go_wp2_with fail;go_meet;exact CR.out _ zT _ _ _ _
      ·subst q;have FR:Hid (∀u,Bq Q u->Cw 208 #[.agg #[Iq 3,Sq ab 12 12,.string t,.slice (some (aq kb ko)) m kc,Iq up]] u λe w'=>Cf e/\Hid (Bq u w')):=λu hu=>Ob _ _ _ _ _ _ _ u ((hu.cell (klt zC)).trans zC) ((hu.cell (klt zD)).trans zD);have T:Hid (∀u,Bq Q u->sK wr f n C u/\(u.cell? (aq l 0)=some (Iq 3)/\u.cell? (aq l 1)=some (Sq ab 12 12)/\u.cell? (aq l 2)=some (.string t)/\u.cell? (aq l 3)=some (.slice (some (aq kb ko)) m kc)/\u.cell? (aq l 4)=some (Iq up))/\u.cell? (aq (l+1) 0)=some (Iq x)/\u.cell? (aq (l+1) 1)=some (Iq y)/\u.cell? (aq (l+1) 2)=some (Iq z)/\u.cell? (aq (l+1) 3)=some (Iq q)):=λu hu=>⟨s.below hu,D u (r u (s.below hu))⟩;clear zj;go_wp2_with fail;go_region_held(λu=>(u.cell? (aq l 0)=some (Iq 3)/\u.cell? (aq l 1)=some (Sq ab 12 12)/\u.cell? (aq l 2)=some (.string t)/\u.cell? (aq l 3)=some (.slice (some (aq kb ko)) m kc)/\u.cell? (aq l 4)=some (Iq up))/\u.cell? (aq (l+1) 0)=some (Iq x)/\u.cell? (aq (l+1) 1)=some (Iq y)/\u.cell? (aq (l+1) 2)=some (Iq z)/\u.cell? (aq (l+1) 3)=some (Iq q)) (go_keep) (first
        |(go_at_call 208;refine ag (FR.out _ S.out) ?_;rintro e u5 ⟨⟨fr,rfl⟩,L⟩;have p:=qH<|S.out.trans (L.out.mono S.out.size);obtain⟨_,⟨s0,s1,s2,s3,s4⟩,s5,s6,s7,s8⟩:=T.out u5 p.out)
        |(go_at_call 207;refine ag (Oc _ _ _ _ _ _) ?_;rintro e u6 ⟨⟨x1,x2,x3,x4,rfl⟩,ze⟩;have F:=qH<|p.out.trans (ze.mono p.out.size);obtain⟨K6,⟨t0,t1,t2,t3,t4⟩,t5,t6,t7,t8⟩:=T.out u6 F.out;have zH:=qH K6;clear K6;obtain⟨⟨_,w0⟩,⟨_,w1⟩,⟨_,w2⟩,⟨_,w3⟩,d0,d1,d2,d3⟩:=zH.out.cs));all_goals go_wp2_with fail;go_meet;exact CR.out _ zH _ _ _ _
      ·subst q;have HG:=qH kH;have HL:=qH pw;have zS:=qH (HI o zY);have HD:Hid (Bq w Q.drew):=(G Q (r Q s)).drew;have kl:=Int.natCast_nonneg k;clear zj;go_wp2_with fail;go_region_held(λu=>u.cell? (aq (l+1) 3)=some (Iq q)/\u.cell? (aq (l+1) 2)=some (Iq z)) (go_keep) (first
        |(go_at_call 209;refine ag (zS.out _ _ HD.out) ?_;rintro e u5 ⟨⟨hh,rfl,_⟩,L⟩;have p:=qH<|S.out.trans (L.mono S.out.size);obtain⟨_,s5,s6,s7,s8⟩:=D.out u5 (r.out u5 (s.out.below p.out)))
        |(go_at_call 44;refine ag (HG.out _ _ _) ?_;rintro e u6 ⟨rfl,h6⟩;obtain rfl:=h6.symm));all_goals
        have Q5:=qH (s.below p);obtain⟨_,c9⟩:=Q5.y.2.z (j:=k*10+9) dg;have f9:=(Q5.y.2.2 (k*10+9) dg).1;have Q6:=qH (Q5.set (k*10+9) (wrap64 (max q hh-q)));obtain⟨w6,zP⟩:=af (u5.setCell (aq f (k*10+9)) (Iq (wrap64 (max q hh-q))));rw[zP]at Q6;have G6:=qH (r w6 Q6);obtain⟨⟨_,x1,_,_,_⟩,x5,x6,x7,x8⟩:=D w6 G6;have x0:=(R w6 (G w6 G6)).1;have zV:=qH (OF a0 w6 (G w6 G6));obtain⟨_,c8⟩:=Q6.y.2.z (j:=k*10+8) dg;have f8:=(Q6.y.2.2 (k*10+8) dg).1;have Q7:Hid (∀v,sK wr f n C (w6.setCell (aq f (k*10+8)) (Iq v))):=λv=>Q6.set (k*10+8) v;have L7:Hid (∀v,∃w7,w6.setCell (aq f (k*10+8)) (Iq v)=w7/\Hid (sK wr f n C w7)/\w7.cell? (aq (l+1) 0)=some (Iq x)/\w7.cell? (aq (l+1) 1)=some (Iq y)/\w7.cell? (aq (l+1) 2)=some (Iq z)/\w7.cell? (aq f (k*10+8))=some (Iq v)):=λv=>⟨_,rfl,Q7 v,((D _ (r _ (Q7 v))).2).1,((D _ (r _ (Q7 v))).2).2.1,((D _ (r _ (Q7 v))).2).2.2.1,jY _ _ _ c8⟩;go_wp2_with(first
         |(go_at_call 210;refine ag zV.out ?_;rintro e u8 ⟨⟨o8,rfl⟩,h8⟩;obtain rfl:=h8.symm)
         |(go_at_call 211;refine ag (HL.out _ _ _) ?_;rintro e u8 ⟨rfl,h8⟩;obtain rfl:=h8.symm)
         |(go_at_call 44;refine ag (HG.out _ _ _) ?_;rintro e u8 ⟨rfl,h8⟩;obtain rfl:=h8.symm;obtain⟨w7,Yp,zK,g5,g6,g7,g8⟩:=L7.out (max 0 (min o8 (wrap64 (max q hh-q))))));obtain⟨⟨_,j0⟩,⟨_,j1⟩,⟨_,j2⟩,⟨_,j3⟩,i0,i1,i2,i3⟩:=zK.out.cs;have Q8:=qH (zK.below (ac _ _).drew);clear c9 f9 zP Yp c8 f8 x0 x1 x5 x6 x7 x8 s5 s6 s7 s8;go_region_held(λu=>u.cell? (aq (l+1) 0)=some (Iq x)/\u.cell? (aq (l+1) 1)=some (Iq y)/\u.cell? (aq (l+1) 2)=some (Iq z)/\u.cell? (aq f (k*10+8))=some (Iq (max 0 (min o8 (wrap64 (max q hh-q)))))) (go_keep) (fail);all_goals go_wp2_with fail;go_meet;exact CR.out _ Q8 _ _ _ _
      ·have e0:(B==0)=false:=by simpa using q
       have e1:(B==1)=false:=by simpa using q'
       have e3:(B==3)=false:=by simpa using zQ
       have e4:(B==4)=false:=by simpa using zR
       clear q q' zQ zR;go_wp2_with fail;go_meet;exact s
     case rest=>
      have I:=hcut;obtain⟨W5,rfl⟩:=xF wc;clear hcut p0 p1 p2 p3 p4 p5 p6 p7 p8 y0 Y6 zC zD zj s zO;obtain⟨f0,q0⟩:=I.q.z (j:=0) dg;obtain⟨f1,q1⟩:=I.q.z (j:=1) dg;obtain⟨f2,q2⟩:=I.q.z (j:=2) dg;obtain⟨f3,q3⟩:=I.q.z (j:=3) dg;obtain⟨_,m0⟩:=I.y.2.z (j:=o*10) dg;obtain⟨_,m1⟩:=I.y.2.z (j:=o*10+1) dg;obtain⟨_,m2⟩:=I.y.2.z (j:=o*10+2) dg;obtain⟨_,m3⟩:=I.y.2.z (j:=o*10+3) dg;have g0:=(I.y.2.2 (o*10) dg).1;have g1:=(I.y.2.2 (o*10+1) dg).1;have g2:=(I.y.2.2 (o*10+2) dg).1;have g3:=(I.y.2.2 (o*10+3) dg).1;have n4:¬f=C:=by have:=I.lt;omega
      have n5:¬C=f:=by have:=I.lt;omega
      have Q2:=qH ((((I.set (o*10) f0).set (o*10+1) f1).set (o*10+2) f2).set (o*10+3) f3);obtain⟨W6,zL⟩:=af ((((W5.setCell (aq f (o*10)) (Iq f0)).setCell (aq f (o*10+1)) (Iq f1)).setCell (aq f (o*10+2)) (Iq f2)).setCell (aq f (o*10+3)) (Iq f3));rw[zL]at Q2;obtain⟨b0,r0⟩:=Q2.q.z (j:=0) dg;obtain⟨b1,r1⟩:=Q2.q.z (j:=1) dg;obtain⟨b2,r2⟩:=Q2.q.z (j:=2) dg;obtain⟨b3,r3⟩:=Q2.q.z (j:=3) dg;obtain⟨c4,r4⟩:=Q2.y.2.z (j:=k*10+4) dg;obtain⟨c5,r5⟩:=Q2.y.2.z (j:=k*10+5) dg;obtain⟨c6,r6⟩:=Q2.y.2.z (j:=k*10+6) dg;obtain⟨c7,r7⟩:=Q2.y.2.z (j:=k*10+7) dg;obtain⟨d0,d1,d2,d3,CP⟩:=Ti b0 b1 b2 b3 c4 c5 c6 c7;replace CP:=qH CP;have zJ:Hid (∀u,Bq W6 u->Cw 128 #[Sq g n A,Sq f n pc,Iq (o:Int),sv] ((((u.setCell (aq f (o*10+4)) (Iq d0)).setCell (aq f (o*10+5)) (Iq d1)).setCell (aq f (o*10+6)) (Iq d2)).setCell (aq f (o*10+7)) (Iq d3)) λe X=>qv e/\KY W4 f n X):=λu hu=>by have Y:=(((((Q2.below hu).set (o*10+4) d0).set (o*10+5) d1).set (o*10+6) d2).set (o*10+7) d3).y;exact(zx.out _ (G _ (zi.trans Y.1)) Y.2).mono λe X ⟨h1,h2⟩=>⟨h1,(P.trans Y).trans h2⟩
      have HM:Hid (∀u,Bq W6 u->(∃v,u.cell? (aq f (o*10+4))=some v)/\(∃v,u.cell? (aq f (o*10+5))=some v)/\(∃v,u.cell? (aq f (o*10+6))=some v)/\(∃v,u.cell? (aq f (o*10+7))=some v)/\u.frozen? (aq f (o*10+4))=false/\u.frozen? (aq f (o*10+5))=false/\u.frozen? (aq f (o*10+6))=false/\u.frozen? (aq f (o*10+7))=false):=λu hu=>by have K:=(Q2.below hu).y.2;obtain⟨_,a4⟩:=K.z (j:=o*10+4) dg;obtain⟨_,a5⟩:=K.z (j:=o*10+5) dg;obtain⟨_,a6⟩:=K.z (j:=o*10+6) dg;obtain⟨_,a7⟩:=K.z (j:=o*10+7) dg;exact⟨⟨_,a4⟩,⟨_,a5⟩,⟨_,a6⟩,⟨_,a7⟩,(K.2 _ dg).1,(K.2 _ dg).1,(K.2 _ dg).1,(K.2 _ dg).1⟩
      have O:Hid (Bq W6 W6.drew):=(ac _ _).drew;go_upto_region 29 with fail;clear q0 q1 q2 q3 m0 m1 m2 m3 g0 g1 g2 g3 zL I;go_region_with(go_at_call 134;refine ag (CP.out _) ?_;rintro e u5 ⟨rfl,B5⟩;have E5:Hid (Bq W6 u5):=(by first|exact B5|exact O.out.trans B5);have L5:=qH<|zJ.out u5 E5.out;obtain⟨⟨_,e4⟩,⟨_,e5⟩,⟨_,e6⟩,⟨_,e7⟩,h4,h5,h6,h7⟩:=HM.out u5 E5.out;clear B5);all_goals go_wp2_with(go_at_call 128;refine ag L5.out ?_;rintro e u8 ⟨rfl,Y8⟩);exact⟨⟨j+1,dg,by go_num,Y8⟩,by simp only[intOf];omega⟩
    ·have zM:¬(j:Int)<m:=dg
     go_wp2;go_end0;exact⟨rfl,zI.trans P⟩
theorem Qr{w:AT}{g n cap d pc j:Nat}{sv:Fd}(h:uf w g n)(hS:Q9 w sv j)(b:j<=1099511627776)(a:w.heap.size<=d):∀f k,n<=k+f->k<n->∀U,Bq w U->KB U d (n*10) KZ->
 Cw 128 #[Sq g n cap,Sq d n pc,Iq (k:Nat),sv] U λe l=>qv e/\KY U d n l
 |0,k,m,i=>dg
 |f+1,k,m,i=>Qs h hS b a k i λc p o=>Qr h hS b a f c dg o
