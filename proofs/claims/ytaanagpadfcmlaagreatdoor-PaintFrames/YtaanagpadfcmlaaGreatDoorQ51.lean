import Derived.Test.YtaanagpadfcmlaaGreatDoorQ50
set_option linter.all false
set_option maxRecDepth 100000
set_option maxHeartbeats 16000000
namespace Go.Proofs.YtaanagpadfcmlaaGreatDoor
open Go.RowKit Go.Sort Go.Proofs.Tryz
theorem xg{a U b}{c}(h:Bt a U)(d:U.grownBy b (some c))(hp:a.heap.size<=c):Bt a b:=h.grown d h.size (λq e=>rd)
theorem iK{W c:World}{a o}(h:W.grownBy c (some a))v:W.grownBy (c.setCell (aj a o) v) (some a):=
 ⟨h.os,h.tape,h.output,by simpa[World.setCell]using h.size,λb f d=>(bK c (aj a o) v b (λe=>d (by rw[e]))).trans (h.block b f d)⟩
theorem kV{W a:World}{c b}(h:W.grownBy a (some c))(e:b≠c){o}{v}(d:W.cell? (aj b o)=some v):a.cell? (aj b o)=some v:=h.cell d rd
theorem IV.gb{W d}{f B m}{G}{v}(h:IV W B m G v)(g:W.grownBy d (some f))(k:f<B):IV d B m G v:=λa=>by obtain⟨j,e,b,c⟩:=h a;exact⟨j,e,b,λi hi=>kV g dg (c i hi)⟩
def Gy(L:List Nd)(en:Nat->Nat)(Wd:Nat->Int)(H:Nat->Int->Int)(dM off:Nat->Int)(sn pb:Nat)(P:Nat->Nat->Int)(k:Nat)(u u':World):Prop:=u.grownBy u' (some pb)/\∃Q,u'.rowIs pb 103 (L.length*10) (js Q)/\qg L en Wd H dM off sn P Q k
theorem IQ{s:ByteArray}{L:List Nd}{Wd:Nat->Int}{H:Nat->Int->Int}(hT:dp s L)(hZ:Sz L Wd H){en:Nat->Nat}(he:En L en)(g ze f pc:Nat)(sp:Option Addr)(S sc:Nat)(E off:Nat->Int)(U0:World)(hN:ip U0 g L.length (aa L))(hsc:jB U0 sp S E off)(Qs:S<=4611686018427387904)(Pk:U0.heap.size<=f)(k:Nat)(N:k<L.length)(P:Nat->Nat->Int)(U:World)(hU:Bt U0 U)(hR:U.rowIs f 103 (L.length*10) (js P))(hP:qh en P k)(QO:Hid (∀j,j<(aa L k).kids.length->∀Q u,Bt U0 u->u.rowIs f 103 (L.length*10) (js Q)->qh en Q (aH (aa L k).kids j)->Cw 70 #[Sq g L.length ze,Sq f L.length pc,Iq (aH (aa L k).kids j:Int),.slice sp S sc] u λe u'=>e=Rw (.tuple #[])/\Hid (Gy L en Wd H E off S f Q (aH (aa L k).kids j) u u'))):
 Cw 70 #[Sq g L.length ze,Sq f L.length pc,Iq (k:Int),.slice sp S sc] U λe U'=>e=Rw (.tuple #[])/\Hid (Gy L en Wd H E off S f P k U U'):=by
 have Qm:prog.follows .mixedOrders=true:=ns;obtain⟨ab,kv,hn⟩:=hN.nd k N;obtain⟨kp,kc,Om,Ph⟩:=hn.kids;subst Om;have Qk:=hT.kids_le N;have XU:=hT.vl.cnt;have hbd:=(hT.vl.nv k N).bd;obtain⟨x,hx⟩:=ad (P k 0);obtain⟨y,hy⟩:=ad (P k 1);obtain⟨w,hw⟩:=ad (P k 2);obtain⟨h,hh⟩:=ad (P k 3);obtain⟨o,ho⟩:=ad (fi (ap (aa L k) 0) E off S);obtain⟨B,hkd⟩:∃z:Int,((aa L k).kind:Int)=z:=⟨_,rfl⟩;obtain⟨of,rm,G,R0,R1,R2,R3,hKG⟩:=Qz L (aa L k).kids Wd H U dg B (ap (aa L k) 4) (ap (aa L k) 5) (ap (aa L k) 6) x y w h o;have QX:=hP.b0;have Pd:=hP.b1;have zw:=hP.b2;have Pe:=hP.b3;rw[hx]at QX;rw[hy]at Pd;rw[hw]at zw;rw[hh]at Pe;have Q5:(k:Int)<=100:=dg;have Q9:0<=of/\of<=100000/\0<=rm/\h+rm<=100000:=by
  by_cases e4:B=4
  ·obtain⟨⟨r1,r2⟩,_⟩:=hKG.r4 e4;have Ip:aH (aa L k).kids 0<L.length:=by
    rcases hT.kidok k N with q|⟨_,_,q⟩|⟨q,_⟩;·omega
    ·exact(di hT N dg).2
    ·omega
   have UI:=hZ.hb (aH (aa L k).kids 0) w Ip;unfold dA at r1;omega
  ·obtain⟨r1,r2⟩:=hKG.no e4;omega
 have hsp:ct (aa L k).kind (ap (aa L k) 4) (ap (aa L k) 5) (ap (aa L k) 6) L (aa L k).kids Wd H (P k 0) (P k 1) (P k 2) (P k 3) of rm R0 R1 R2 R3:=by rw[hx,hy,hw,hh,hkd];exact hKG.spec
 have T:Hid (∀j,j<(aa L k).kids.length->∀Q Q1 Q2,iu L en Wd H E off S R0 R1 R2 R3 of rm P Q k j->(∀i t,Q1 i t=kt Q k (aH (aa L k).kids j) (R0 j) (R1 j) (R2 j) (R3 j) of rm i t)->qh en Q1 (aH (aa L k).kids j)/\(qg L en Wd H E off S Q1 Q2 (aH (aa L k).kids j)->iu L en Wd H E off S R0 R1 R2 R3 of rm P Q2 k (j+1))):=λj hj Q Q1 Q2 hi h1=>
  ⟨hi.pre hT he N hj hP hsp ⟨Q9.1,Q9.2.1⟩ ⟨Q9.2.2.1,by rw[hh];exact Q9.2.2.2⟩ h1,λh2=>hi.step hT he N hj h1 h2⟩;have zN:Hid (∀Q,iu L en Wd H E off S R0 R1 R2 R3 of rm P Q k (aa L k).kids.length->qg L en Wd H E off S P Q k):=λQ hi=>hi.fin hT he N hsp (λe=>by rw[hw,hh,ho];exact(hKG.r4 dg).1) (λe=>hKG.no dg);have Rr:Hid (iu L en Wd H E off S R0 R1 R2 R3 of rm P P k 0):=⟨λi a b=>by have:i<k+1:=b;omega,λa q=>dg,λi t _=>rfl,λt _=>rfl,λq=>dg,λ_=>hP.z k (ae _) (he.lt k N)⟩;have Rx:=qH<|hKG.no;have K:=qH<|hKG;have O8:Hid (B=4->(aa L k).kids.length=1):=λe=>by rcases hT.kidok k N with q|⟨_,_,q⟩|⟨q,_⟩<;>omega
 have zq:Hid (∀j,j<(aa L k).kids.length->k<aH (aa L k).kids j/\aH (aa L k).kids j<L.length):=λj hj=>di hT N hj;obtain⟨E1,V⟩:=ad (U.alloc (.cells #[Iq B,Sq ab 12 12,.string ⟨(aa L k).text.toArray⟩,.slice kp (aa L k).kids.length kc,Iq (aa L k).up] 100));obtain⟨W2,QT⟩:=ad (E1.alloc (.cells #[Iq x,Iq y,Iq w,Iq h] 101));obtain⟨l,Sk⟩:=ad U.heap.size;have Qf:W2.heap[l]?=some (.cells #[Iq B,Sq ab 12 12,.string ⟨(aa L k).text.toArray⟩,.slice kp (aa L k).kids.length kc,Iq (aa L k).up] 100 (0,0)):=by rw[<-QT,<-V,<-Sk,cK _ _ _ (by rw[au];omega)];exact heap_alloc_new _ _
 have Sl:E1.heap.size=l+1:=by rw[<-V,au,Sk]
 have zg:R4 101 W2 (l+1) x y w h:=by have:=R4.new E1 x y w h 101;rw[Sl]at this;rw[<-QT];exact this
 have zT:Hid (Bt U W2):=by rw[<-QT,<-V];exact(((Gr.refl U).alloc _).alloc _).below
 have HR2:=qH<|rowIs_below hR zT;have Va:f<l:=by rw[<-Sk];exact hR.lt
 have HU2:=qH<|hU.trans (zT.mono hU.size);have zK:Hid (∀u,W2.grownBy u (some f)->Bt U0 u):=λu hu=>xg HU2 hu Pk;have RG:Hid (∀u,W2.grownBy u (some f)->U.grownBy u (some f)):=λu hu=>(ac zT).trans hu;have J:Hid (∀u,W2.grownBy u (some f)->(u.cell? (aj l 0)=some (Iq B)/\u.cell? (aj l 1)=some (Sq ab 12 12)/\u.cell? (aj l 2)=some (.string ⟨(aa L k).text.toArray⟩)/\u.cell? (aj l 3)=some (.slice kp (aa L k).kids.length kc)/\u.cell? (aj l 4)=some (Iq (aa L k).up))/\u.cell? (aj (l+1) 0)=some (Iq x)/\u.cell? (aj (l+1) 1)=some (Iq y)/\u.cell? (aj (l+1) 2)=some (Iq w)/\u.cell? (aj (l+1) 3)=some (Iq h)):=λu hu=>by
  have n1:l≠f:=dg;have n2:l+1≠f:=dg;refine⟨⟨?_,?_,?_,?_,?_⟩,kV hu n2 zg.c0,kV hu n2 zg.c1,kV hu n2 zg.c2,kV hu n2 zg.c3⟩<;>exact kV hu n1 (by rw[Lib.cell_of_heap Qf];rfl)
 have D:Hid (∀u,W2.grownBy u (some f)->u.cell? (aj ab 0)=some (Iq (ap (aa L k) 0))/\u.cell? (aj ab 4)=some (Iq (ap (aa L k) 4))/\u.cell? (aj ab 5)=some (Iq (ap (aa L k) 5))/\u.cell? (aj ab 6)=some (Iq (ap (aa L k) 6))):=λu hu=>by have hb:=zK u hu;exact⟨an hb (hn.att 0 dg),an hb (hn.att 4 dg),an hb (hn.att 5 dg),an hb (hn.att 6 dg)⟩
 have Rt:Hid ((aa L k).kids.length=0\/∃kb ko,kp=some (aj kb ko)/\∀u,W2.grownBy u (some f)->∀i,i<(aa L k).kids.length->u.cell? (aj kb (ko+i))=some (Iq (aH (aa L k).kids i:Int))):=by
  rcases Ph with e|⟨kb,ko,e,_,hc⟩;·exact .inl (by rw[e];rfl)
  ·exact .inr ⟨kb,ko,e,λu hu i hi=>an (zK u hu) (hc i hi)⟩
 have A0:=qH<|λq u hu=>(ql hT hZ g ze k N u (hN.below hu)).mono λe u' z=>Nk z dg (hKG.g0 q);have A1:=qH<|λq u hu=>(Hx hT hZ g ze k N w zw.1 zw.2 u (hN.below hu)).mono λe u' z=>Nk z dg (hKG.g1 q);have zX:Hid (∀j,j<(aa L k).kids.length->∀u,Bt U0 u->Cw 155 #[Sq g L.length ze,Iq (aH (aa L k).kids j:Int),Iq w] u λe U'=>e=Rw (Iq (H (aH (aa L k).kids j) w))/\Hid (Bt u U')):=λj hj u hu=>ma hT hZ g ze L.length _ dg (di hT N hj).2 w zw.1 zw.2 u (hN.below hu);have OF:Hid (∀u,Bt U0 u->Cw 156 #[.slice sp S sc,Iq (ap (aa L k) 0)] u λe w'=>e=Rw (Iq o)/\w'=u):=λu hu=>by rw[<-ho];exact JC sp S sc E off _ u (hsc.below hu) Qs
 have zV:Hid (∀j,j<(aa L k).kids.length->0<=H (aH (aa L k).kids j) w/\H (aH (aa L k).kids j) w<=100000):=λj hj=>hZ.hb _ _ (di hT N hj).2;obtain⟨_,YV,YW,YX,_⟩:=hbd;have ZL:Hid (P k 0=x/\P k 1=y/\P k 2=w/\P k 3=h):=⟨hx,hy,hw,hh⟩;have c0:=hn.c0;have c1:=hn.c1;have c2:=hn.c2;have c3:=hn.c3;have c4:=hn.c4;rw[hkd]at c0;have d0:=an hU c0;have d1:=an hU c1;have d2:=an hU c2;have d3:=an hU c3;have d4:=an hU c4;have TV:Bt U E1:=by rw[<-V];exact((Gr.refl U).alloc _).below
 have zQ:=rowIs_below hR TV;have r0:E1.cell? (aj f (k*10))=some (Iq x):=by have:=aS zQ N (t:=0) dg;rw[hx]at this;exact this
 have r1:E1.cell? (aj f (k*10+1))=some (Iq y):=by have:=aS zQ N (t:=1) dg;rw[hy]at this;exact this
 have r2:E1.cell? (aj f (k*10+2))=some (Iq w):=by have:=aS zQ N (t:=2) dg;rw[hw]at this;exact this
 have r3:E1.cell? (aj f (k*10+3))=some (Iq h):=by have:=aS zQ N (t:=3) dg;rw[hh]at this;exact this
 have UN:(k:Int)<(L.length:Int):=dg;generalize UP:(aa L k).kids=ks at T zN zq J Rt A0 A1 zX zV Qk QO O8 V d3 K;obtain⟨m,hm⟩:=ad ks.length;rw[hm]at T zN zq J Rt A0 A1 zX zV Qk QO O8 V d3;generalize(aa L k).text=tx at V d2 J;generalize(aa L k).up=up at V d4 J;obtain⟨⟨z0,z1,z2,z3,z4⟩,z5,z6,z7,z8⟩:=J W2 (ac (af _ _));obtain⟨y0,y4,y5,y6⟩:=D W2 (ac (af _ _));have zS:Hid (l<=W2.heap.size/\f<l):=⟨by have:=zT.size;omega,Va⟩;generalize ap (aa L k) 0=a0 at D OF y0;generalize ap (aa L k) 4=a4 at D A0 A1 K YV y4;generalize ap (aa L k) 5=a5 at D K YW y5;generalize ap (aa L k) 6=a6 at D K YX y6;clear hn Ph Qf zg hsp hKG hP hN hsc c0 c1 c2 c3 c4 zQ TV hR hx hy hw hh ho hkd hT hZ he;go_enter func70,ntmps70;go_upto_if 28 with fail;clear d0 d1 d2 d3 d4 r0 r1 r2 r3 V QT;go_cut[10,11,28]from 29 to 48 (λv1 v2 _ wx=>Hid (Bt W2 wx)/\Hid (B=0->IV wx l m G v1/\IV wx l m (cd G (cl a4)) v2));case first=>
  by_cases k0:B=0
  ·have e0:(B==0)=true:=by rw[k0];rfl
   have AC:=A0 k0;have AC:=qH<|AC;have HD:=qH<|HU2.drew;have HE:Hid (Bt W2 W2.drew):=(af _ _).drew;have HZ:Hid (∀u,Bt W2 u->u.cell? (aj (l+1) 2)=some (Iq w)/\u.cell? (aj l 1)=some (Sq ab 12 12)/\u.cell? (aj ab 4)=some (Iq a4)):=λu hu=>⟨an hu z7,an hu z1,an hu y4⟩;clear k0 A0 A1;go_wp2_with fail;go_region_held(λW=>W.cell? (aj (l+1) 2)=some (Iq w)/\W.cell? (aj l 1)=some (Sq ab 12 12)/\W.cell? (aj ab 4)=some (Iq a4)) (go_keep) (first
    |(go_at_call 150;refine ag (AC _ HD) ?_;rintro e u5 ⟨p,c,rfl,zj,HSP,_⟩;have C:=qH<|HE.trans (zj.mono HE.size);obtain⟨s1,s2,s3⟩:=HZ u5 C)
    |(go_at_call 149;refine ag HSP ?_;rintro e u6 ⟨v6,rfl,zI,Rp⟩;have HF6:=qH<|C.trans (zI.mono C.size);obtain⟨t1,t2,t3⟩:=HZ u6 HF6));all_goals
    have Rm:=qH<|(HU2.trans (HF6.mono HU2.size)).drew;have zL:=qH<|HF6.drew;clear s1 s2 s3;go_wp2_with fail;go_region_held(λW=>W.cell? (aj (l+1) 2)=some (Iq w)/\W.cell? (aj l 1)=some (Sq ab 12 12)/\W.cell? (aj ab 4)=some (Iq a4)) (go_keep) (first
     |(go_at_call 150;refine ag (AC _ Rm) ?_;rintro e u7 ⟨p7,c7,rfl,zk,_,RF⟩;have HF7:=qH<|zL.trans (zk.mono zL.size);obtain⟨q1,q2,q3⟩:=HZ u7 HF7)
     |(go_at_call 151;refine ag RF ?_;rintro e u8 ⟨v8,rfl,zJ,Rq⟩;have zM:=qH<|HF7.trans (zJ.mono HF7.size);obtain⟨x1,x2,x3⟩:=HZ u8 zM));all_goals go_wp2_with fail;go_meet;have hA:=zS.1;have h6:=HF6.size;refine⟨zM,λ_=>⟨((((Rp.mono hA).below (af _ _).drew).below zk).below zJ),Rq.mono (aF hA h6)⟩⟩
  ·have e0:(B==0)=false:=by simp;exact k0
   have Rz:=qH<|k0;clear k0 A0 A1;go_wp2_with fail;go_meet;exact⟨af _ _,λq=>absurd q Rz⟩
 case rest=>
  obtain⟨Y,Ro⟩:=hcut;obtain⟨W3,rfl⟩:=Lj wc;obtain⟨w1,rfl⟩:=Lj u10;obtain⟨w2,rfl⟩:=Lj u11;have HU3:=qH<|HU2.trans (Y.mono HU2.size);clear z0 z1 z2 z3 z4 z5 z6 z7 z8 y0 y4 y5 y6;obtain⟨⟨z0,z1,z2,z3,z4⟩,z5,z6,z7,z8⟩:=J W3 (ac Y);obtain⟨y0,y4,y5,y6⟩:=D W3 (ac Y);go_upto_if 51 with fail;go_cut[10,11,51]from 52 to 75 (λv1 v2 _ wx=>Hid (Bt W2 wx)/\Hid (B=0\/B=1->IV wx l m G v1/\IV wx l m (cd G (cl a4)) v2));case first=>
   by_cases k1:B=1
   ·have e1:(B==1)=true:=by rw[k1];rfl
    have AC:=A1 k1;have AC:=qH<|AC;have HD:=qH<|HU3.drew;have HE:Hid (Bt W3 W3.drew):=(af _ _).drew;have HZ:Hid (∀u,Bt W3 u->u.cell? (aj (l+1) 3)=some (Iq h)/\u.cell? (aj (l+1) 2)=some (Iq w)/\u.cell? (aj l 1)=some (Sq ab 12 12)/\u.cell? (aj ab 4)=some (Iq a4)):=λu hu=>⟨an hu z8,an hu z7,an hu z1,an hu y4⟩;clear k1 A0 A1 Ro;go_wp2_with fail;go_region_held(λW=>W.cell? (aj (l+1) 3)=some (Iq h)/\W.cell? (aj (l+1) 2)=some (Iq w)/\W.cell? (aj l 1)=some (Sq ab 12 12)/\W.cell? (aj ab 4)=some (Iq a4)) (go_keep) (first
     |(go_at_call 152;refine ag (AC _ HD) ?_;rintro e u5 ⟨p,c,rfl,zj,HSP,_⟩;have C:=qH<|HE.trans (zj.mono HE.size);obtain⟨s0,s1,s2,s3⟩:=HZ u5 C)
     |(go_at_call 149;refine ag HSP ?_;rintro e u6 ⟨v6,rfl,zI,Rp⟩;have HF6:=qH<|C.trans (zI.mono C.size);obtain⟨t0,t1,t2,t3⟩:=HZ u6 HF6));all_goals
     have Rm:=qH<|(HU3.trans (HF6.mono HU3.size)).drew;have zL:=qH<|HF6.drew;clear s0 s1 s2 s3;go_wp2_with fail;go_region_held(λW=>W.cell? (aj (l+1) 3)=some (Iq h)/\W.cell? (aj (l+1) 2)=some (Iq w)/\W.cell? (aj l 1)=some (Sq ab 12 12)/\W.cell? (aj ab 4)=some (Iq a4)) (go_keep) (first
      |(go_at_call 152;refine ag (AC _ Rm) ?_;rintro e u7 ⟨p7,c7,rfl,zk,_,RF⟩;have HF7:=qH<|zL.trans (zk.mono zL.size);obtain⟨q0,q1,q2,q3⟩:=HZ u7 HF7)
      |(go_at_call 151;refine ag RF ?_;rintro e u8 ⟨v8,rfl,zJ,Rq⟩;have zM:=qH<|HF7.trans (zJ.mono HF7.size);obtain⟨x0,x1,x2,x3⟩:=HZ u8 zM));all_goals go_wp2_with fail;go_meet;have hA:=aF zS.1 Y.size;have h6:=HF6.size;refine⟨Y.trans (zM.mono Y.size),λ_=>⟨((((Rp.mono hA).below (af _ _).drew).below zk).below zJ),Rq.mono (aF hA h6)⟩⟩
   ·have e1:(B==1)=false:=by simp;exact k1
    have Rz:=qH<|k1;clear k1 A0 A1;go_wp2_with fail;go_meet;exact⟨Y,λq=>Ro (q.resolve_right Rz)⟩
  case rest=>
   obtain⟨HB4,Pr⟩:=hcut;obtain⟨W4,rfl⟩:=Lj wc;obtain⟨v1,rfl⟩:=Lj u10;obtain⟨v2,rfl⟩:=Lj u11;clear z0 z1 z2 z3 z4 z5 z6 z7 z8 y0 y4 y5 y6 A0 A1 Ro Y HU3;have HG4:Hid (W2.grownBy W4 (some f)):=ac HB4;have HR4:=qH<|rowIs_below HR2 HB4;go_wp2;go_loopw[12] (λiv wr=>∃(j:Nat) (Q:Nat->Nat->Int),j<=m/\iv=Iq (j:Int)/\Hid (W4.grownBy wr (some f))/\Hid (wr.rowIs f 103 (L.length*10) (js Q))/\Hid (iu L en Wd H E off S R0 R1 R2 R3 of rm P Q k j)) (λiv _=>m-(intOf iv).toNat);case atStart=>exact⟨0,P,aR _,rfl,ac (af _ _),HR4,Rr⟩
   case round=>
    obtain⟨j,Q,hj,rfl,zU,KJ,zY⟩:=hrel;have O:=qH<|HG4.trans zU;obtain⟨⟨z0,z1,z2,z3,z4⟩,z5,z6,z7,z8⟩:=J wr O;by_cases zi:j<m
    ·have Ir:(j:Int)<(m:Int):=dg
     obtain⟨kb,ko,rfl,Q4⟩:=Rt.resolve_left dg;have k0:=Q4 wr O j zi;obtain⟨XT,X⟩:=zq j zi;have KD:=QO j zi;have zv:=T j zi Q;have zD:=zX j zi;have hH:=zV j zi;have T5:Hid (B=4->aH ks 0=aH ks j):=λe=>by have:=O8 e;rw[show j=0 by omega]
     have ZJ:=K.gb j dg;obtain⟨f0,zx⟩:=ad (R0 j);obtain⟨f1,zy⟩:=ad (R1 j);obtain⟨f2,zz⟩:=ad (R2 j);obtain⟨f3,zh⟩:=ad (R3 j);obtain⟨gj,QZ⟩:=ad (G j);obtain⟨oj,zR⟩:=ad (cd G (cl a4) j);have U8:0<=oj/\oj<=100000000:=by rw[<-zR];have:=la (n:=m) (g:=G) (λi hi=>K.gb i dg) (dq a4) j dg;omega
     have za:Hid (B=0\/B=1->∃ob I,v1=Sq ob m m/\v2=Sq I m m/\l<=ob/\l<=I/\wr.cell? (aj ob j)=some (Iq gj)/\wr.cell? (aj I j)=some (Iq oj)):=λq=>by obtain⟨i1,i2⟩:=Pr q;obtain⟨ob,e1,b1,c1⟩:=(i1.gb zU zS.2) dg;obtain⟨I,e2,b2,c2⟩:=(i2.gb zU zS.2) dg;exact⟨ob,I,e1,e2,b1,b2,by rw[<-QZ];exact c1 j zi,by rw[<-zR];exact c2 j zi⟩
     have zm:Hid (B=0->x+oj=f0/\y=f1/\gj=f2/\h=f3):=λe=>by have:=K.r0 e j;rw[zx,zy,zz,zh,zR,QZ]at this;omega
     have zn:Hid (B=1->x=f0/\y+oj=f1/\w=f2/\gj=f3):=λe=>by have:=K.r1 e j;rw[zx,zy,zz,zh,zR,QZ]at this;omega
     have zo:=qH<|λe=>by have:=K.r3 e j;rw[zx,zy,zz,zh]at this;exact this
     have zr:Hid (B≠0->B≠1->B≠3->B≠4->x=f0/\y=f1/\w=f2/\h=f3):=λa b c d=>by have:=K.rr a b c d j;rw[zx,zy,zz,zh]at this;omega
     have zb:Hid (B=4->(rm=dA (H (aH ks j) w) h/\of=min (max 0 o) rm)/\x=f0/\y-of=f1/\w=f2/\h+rm=f3):=λe=>by obtain⟨q1,q2⟩:=K.r4 e;rw[T5 e]at q1;have:=q2 j;rw[zx,zy,zz,zh]at this;exact⟨q1,dg,dg,dg,dg⟩
     have HQQ:Hid (B≠4->∀i t,Q i t=if i=k/\t=8 then of else if i=k/\t=9 then rm else Q i t):=λe i t=>by
      have h1:=Rx e;have h2:=zY.sc;have h3:Q k 8=of/\Q k 9=rm:=by by_cases z:0<j;exact h2.1 z;have:=h2.2 dg;omega
      by_cases a:i=k/\t=8;·rw[if_pos a,a.1,a.2];exact h3.1
      ·rw[if_neg a];by_cases b:i=k/\t=9;·rw[if_pos b,b.1,b.2];exact h3.2
       ·rw[if_neg b]
     rw[zx,zy,zz,zh]at zv;obtain⟨TL,Vt⟩:=ad (H (aH ks j) w);obtain⟨r,SB⟩:=ad (aH ks j);rw[Vt]at zD hH zb;rw[SB]at k0 XT X KD zv zD;have zD:=qH<|zD;have zv:=qH<|zv;have KD:=qH<|KD;have XS:(r:Int)<(L.length:Int):=dg
     -- the Vu FP
     obtain⟨A,hAq⟩:=ad wr.heap.size;obtain⟨F,Sr⟩:=ad (wr.alloc (.cells #[Iq x,Iq y,Iq w,Iq h] 101));have M:Hid (R4 101 F A x y w h):=by rw[<-Sr,<-hAq];exact R4.new _ _ _ _ _ _
     have Z:Hid (Bt wr F):=by rw[<-Sr];exact((Gr.refl wr).alloc _).below
     have Ve:f<A:=by rw[<-hAq];exact KJ.lt
     have Xw:l+1<A:=by rw[<-hAq];exact jK wr _ z5
     have XG:ab<A:=by rw[<-hAq];exact jK wr _ (D wr O).1
     have zH:=qH<|hAq;have zG:Hid (∀u,Bt F u->u.rowIs f 103 (L.length*10) (js Q)):=λu hu=>rowIs_below (rowIs_below KJ Z) hu;have zl:Hid (∀u,Bt F u->wr.grownBy u (some f)):=λu hu=>ac (Z.trans (hu.mono Z.size));have R:=qH<|λu hu=>O.trans (zl u hu);have zZ:Hid (∀u,Bt F u->R4 101 u A x y w h):=λu hu=>(hu.block A M.lt).trans M;have HX:Hid (∀u Q1 q0 q1 q2 q3,wr.grownBy u (some f)->u.rowIs f 103 (L.length*10) (js Q1)->R4 101 u A q0 q1 q2 q3->∀a b c d:Int,wr.grownBy ((((u.setCell (aj A 0) (Iq a)).setCell (aj A 1) (Iq b)).setCell (aj A 2) (Iq c)).setCell (aj A 3) (Iq d)) (some f)/\R4 101 ((((u.setCell (aj A 0) (Iq a)).setCell (aj A 1) (Iq b)).setCell (aj A 2) (Iq c)).setCell (aj A 3) (Iq d)) A a b c d/\((((u.setCell (aj A 0) (Iq a)).setCell (aj A 1) (Iq b)).setCell (aj A 2) (Iq c)).setCell (aj A 3) (Iq d)).rowIs f 103 (L.length*10) (js Q1)):=λu Q1 q0 q1 q2 q3 hg hr h4 a b c d=>by have hA:=zH.out;refine⟨ek (ek (ek (ek hg (a:=(aj A 0)) (by show wr.heap.size<=A;omega) _) (a:=(aj A 1)) (by show wr.heap.size<=A;omega) _) (a:=(aj A 2)) (by show wr.heap.size<=A;omega) _) (a:=(aj A 3)) (by show wr.heap.size<=A;omega) _,h4.set a b c d,?_⟩;refine hr.of_block ?_;rw[bK _ (aj A 3) _ f (by show f≠A;omega),bK _ (aj A 2) _ f (by show f≠A;omega),bK _ (aj A 1) _ f (by show f≠A;omega),bK _ (aj A 0) _ f (by show f≠A;omega)]
     clear Q4 zx zy zz zh QZ zR T zX zV K QO Pr T5 Vt SB;obtain⟨⟨p0,p1,p2,p3,p4⟩,p5,p6,p7,p8⟩:=J F (R F (af _ _));obtain⟨y0,Zv,VY,VZ⟩:=D F (R F (af _ _));go_upto_block 2 with fail;clear z0 z1 z2 z3 z4 z5 z6 z7 z8 k0 Sr hAq;go_cut[15,16]from 91 to 181 (λ_ _ wx=>∃Q1,Hid (wr.grownBy wx (some f))/\Hid (R4 101 wx A f0 f1 f2 f3)/\Hid (wx.rowIs f 103 (L.length*10) (js Q1))/\Hid (∀i t,Q1 i t=if i=k/\t=8 then of else if i=k/\t=9 then rm else Q i t));case first=>
      have q0:=M.c0;have q1:=M.c1;have q2:=M.c2;have q3:=M.c3;have qf:=M.fz;have n1:¬A=l+1:=dg;have n2:¬A=l:=dg;have n3:¬A=ab:=dg;have n4:¬A=f:=dg;by_cases k0:B=0
      ·have e0:(B==0)=true:=by rw[k0];rfl
       obtain⟨ob,I,Qv,Tn,b1,b2,zA,zB⟩:=za (.inl k0);have o1:=an Z zA;have o2:=an Z zB;have n5:¬A=ob:=by have:ob<_:=jK wr _ zA;have:=zH.out;omega
       have n6:¬A=I:=by have:I<_:=jK wr _ zB;have:=zH.out;omega
       have HF:=qH<|zm k0;have zt:=qH<|HQQ dg;have wv:IntKind.i64.wrap (x+oj)=x+oj:=IntWalk.i64_in _ ⟨dg,dg⟩;subst Qv Tn;clear k0 za zm zn zo zb zr HQQ zA zB QX Pd zw Pe;go_wp2_with fail;go_region_held(λW=>W.cell? (aj (l+1) 0)=some (Iq x)/\W.cell? (aj (l+1) 1)=some (Iq y)/\W.cell? (aj (l+1) 3)=some (Iq h)/\W.cell? (aj ob j)=some (Iq gj)/\W.cell? (aj I j)=some (Iq oj)) (go_keep) (fail);all_goals go_wp2_with fail;go_meet;obtain⟨g1,g2,g3⟩:=HX F Q x y w h (zl F (af _ _)) (zG F (af _ _)) M (x+oj) y gj h;obtain⟨w0,w1,w2,w3⟩:=HF.out;refine⟨Q,fS g1,?_,g3,zt⟩;rw[<-w0,<-w1,<-w2,<-w3];exact g2
      ·have e0:(B==0)=false:=by simp;exact k0
       by_cases k1:B=1
       ·have e1:(B==1)=true:=by rw[k1];rfl
        clear k0;obtain⟨ob,I,Qv,Tn,b1,b2,zA,zB⟩:=za (.inr k1);have o1:=an Z zA;have o2:=an Z zB;have n5:¬A=ob:=by have:ob<_:=jK wr _ zA;have:=zH.out;omega
        have n6:¬A=I:=by have:I<_:=jK wr _ zB;have:=zH.out;omega
        have HF:=qH<|zn k1;have zt:=qH<|HQQ dg;have wv:IntKind.i64.wrap (y+oj)=y+oj:=IntWalk.i64_in _ ⟨dg,dg⟩;subst Qv Tn;clear k1 za zm zn zo zb zr HQQ zA zB QX Pd zw Pe;go_wp2_with fail;go_region_held(λW=>W.cell? (aj (l+1) 0)=some (Iq x)/\W.cell? (aj (l+1) 1)=some (Iq y)/\W.cell? (aj (l+1) 2)=some (Iq w)/\W.cell? (aj ob j)=some (Iq gj)/\W.cell? (aj I j)=some (Iq oj)) (go_keep) (fail);all_goals go_wp2_with fail;go_meet;obtain⟨g1,g2,g3⟩:=HX F Q x y w h (zl F (af _ _)) (zG F (af _ _)) M x (y+oj) w gj;obtain⟨w0,w1,w2,w3⟩:=HF.out;refine⟨Q,fS g1,?_,g3,zt⟩;rw[<-w0,<-w1,<-w2,<-w3];exact g2
       ·have e1:(B==1)=false:=by simp;exact k1
        by_cases k3:B=3
        ·have e3:(B==3)=true:=by rw[k3];rfl
         clear k0 k1;have HF:=qH<|zo k3;have zt:=qH<|HQQ dg;have FR:Hid (∀u,Bt F u->Cw 154 #[.agg #[Iq B,Sq ab 12 12,.string ⟨tx.toArray⟩,.slice (some (aj kb ko)) m kc,Iq up]] u λe w'=>e=Rw (Iq (a6+a5))/\Hid (Bt u w')):=λu hu=>mz B ab ⟨tx.toArray⟩ _ up a5 a6 u (an hu VY) (an hu VZ) dg dg;have IN:Hid (∀u,Cw 153 #[.agg #[Iq x,Iq y,Iq w,Iq h],Iq (a6+a5)] u λe w'=>e=Rw (.agg #[Iq f0,Iq f1,Iq f2,Iq f3])/\Hid (Bt u w')):=λu=>(B9 x y w h (a6+a5) u).mono λe w' q=>⟨by rw[q.1,HF.out];rfl,q.2.below⟩;have HZ:Hid (∀u,Bt F u->((u.cell? (aj l 0)=some (Iq B)/\u.cell? (aj l 1)=some (Sq ab 12 12)/\u.cell? (aj l 2)=some (.string ⟨tx.toArray⟩)/\u.cell? (aj l 3)=some (.slice (some (aj kb ko)) m kc)/\u.cell? (aj l 4)=some (Iq up))/\u.cell? (aj (l+1) 0)=some (Iq x)/\u.cell? (aj (l+1) 1)=some (Iq y)/\u.cell? (aj (l+1) 2)=some (Iq w)/\u.cell? (aj (l+1) 3)=some (Iq h))/\R4 101 u A x y w h):=λu hu=>⟨J u (R u hu),zZ u hu⟩;have HE:Hid (Bt F F.drew):=(af _ _).drew;clear k3 za zm zn zo zb zr HQQ;go_wp2_with fail;go_region_held(λW=>(W.cell? (aj l 0)=some (Iq B)/\W.cell? (aj l 1)=some (Sq ab 12 12)/\W.cell? (aj l 2)=some (.string ⟨tx.toArray⟩)/\W.cell? (aj l 3)=some (.slice (some (aj kb ko)) m kc)/\W.cell? (aj l 4)=some (Iq up))/\W.cell? (aj (l+1) 0)=some (Iq x)/\W.cell? (aj (l+1) 1)=some (Iq y)/\W.cell? (aj (l+1) 2)=some (Iq w)/\W.cell? (aj (l+1) 3)=some (Iq h)) (go_keep) (first
          |(go_at_call 154;refine ag (FR _ HE) ?_;rintro e u5 ⟨rfl,zj⟩;have C:=qH<|HE.trans (zj.mono HE.size);obtain⟨⟨⟨s0,s1,s2,s3,s4⟩,s5,s6,s7,s8⟩,s9⟩:=HZ u5 C;clear s9)
          |(go_at_call 153;refine ag (IN _) ?_;rintro e u6 ⟨rfl,zI⟩;have HF6:=qH<|C.trans (zI.mono C.size);obtain⟨⟨⟨t0,t1,t2,t3,t4⟩,t5,t6,t7,t8⟩,t9⟩:=HZ u6 HF6;have tq0:=t9.c0;have tq1:=t9.c1;have tq2:=t9.c2;have tq3:=t9.c3;have tqf:=t9.fz;clear t9));all_goals go_wp2_with fail;go_meet;obtain⟨g1,g2,g3⟩:=HX u6 Q x y w h (zl u6 HF6) (zG u6 HF6) (zZ u6 HF6) f0 f1 f2 f3;exact⟨Q,g1,g2,g3,zt⟩
        ·have e3:(B==3)=false:=by simp;exact k3
         by_cases k4:B=4
         ·have e4:(B==4)=true:=by rw[k4];rfl
          obtain⟨⟨Qq,S5⟩,w0,w1,w2,w3⟩:=zb k4;have m1:max h TL=f3:=by unfold dA at Qq;omega
          have m2:max 0 (min o rm)=of:=dg;have XJ:=Pe;have V9:Hid (∀u,Cw 73 #[Iq h,Iq TL] u λe w'=>e=Rw (Iq f3)/\w'=u):=λu=>by rw[<-m1];exact greatest_any h TL u
          obtain⟨lo,Q6⟩:=ad (min o rm);have Xc:Hid (∀u,Cw 74 #[Iq o,Iq rm] u λe w'=>e=Rw (Iq lo)/\w'=u):=λu=>by rw[<-Q6];exact least_any o rm u
          have V_:Hid (∀u,Cw 73 #[Iq 0,Iq lo] u λe w'=>e=Rw (Iq of)/\w'=u):=λu=>by rw[<-m2,Q6];exact greatest_any 0 lo u
          have HD:Hid (Bt U0 F.drew):=(zK F (R F (af _ _))).drew;have HE:Hid (Bt F F.drew):=(af _ _).drew;have HF:=qH<|And.intro w0 (And.intro w1 w2);have zh:0<=f3/\f3<=100000:=dg
          have dr:f3-h=rm:=dg;have wv:IntKind.i64.wrap (y-of)=y-of:=IntWalk.i64_in _ ⟨dg,dg⟩;have WM:Hid (∀i t,ba (ba Q k 9 rm) k 8 of i t=if i=k/\t=8 then of else if i=k/\t=9 then rm else Q i t):=λi t=>rfl;clear k0 k1 k3 k4 Qq S5 w0 w1 w2 w3 m1 m2 Q6 za zm zn zo zb zr HQQ;go_wp2_with fail;go_region_held(λW=>W.cell? (aj (l+1) 3)=some (Iq h)/\W.cell? (aj (l+1) 2)=some (Iq w)) (go_keep) (first
           |(go_at_call 155;refine ag (zD _ HD) ?_;rintro e u5 ⟨rfl,zj⟩;have C:Hid (Bt F u5):=HE.trans (zj.mono HE.size);obtain⟨_,s5,s6,s7,s8⟩:=J u5 (R u5 C))
           |(go_at_call 73;refine ag (V9 _) ?_;rintro e u6 ⟨rfl,h6⟩;obtain rfl:=h6.symm));all_goals
           have zP:=zG u5 C;have c9:=aS zP N (t:=9) dg;have cf:=zP.frozen;have hpu:=zP.lt;obtain⟨w6,Tq⟩:=ad (u5.setCell (aj f (k*10+9)) (Iq rm));have zC:Hid (wr.grownBy w6 (some f)):=by rw[<-Tq];exact iK (zl u5 C) _
           have zc:Hid (w6.rowIs f 103 (L.length*10) (js (ba Q k 9 rm))):=by rw[<-Tq];exact dy zP k 9 dg rm
           have zE:Hid (R4 101 w6 A x y w h):=by rw[<-Tq];exact(zZ u5 C).other dg _
           have Xe:=qH<|OF w6 (zK w6 (O.trans zC));obtain⟨⟨_,x1,_,_,_⟩,x5,x6,x7,x8⟩:=J w6 (O.trans zC);have x0:=(D w6 (O.trans zC)).1;have c8:=aS zc N (t:=8) dg;have Z8:=zc.frozen;have hp6:=zc.lt;obtain⟨w7,Tr⟩:=ad (w6.setCell (aj f (k*10+8)) (Iq of));have T4:Hid (wr.grownBy w7 (some f)):=by rw[<-Tr];exact iK zC _
           have Uf:Hid (w7.rowIs f 103 (L.length*10) (js (ba (ba Q k 9 rm) k 8 of))):=by rw[<-Tr];exact dy zc k 8 dg of
           have zF:Hid (R4 101 w7 A x y w h):=by rw[<-Tr];exact zE.other dg _
           obtain⟨_,v5,v6,v7,v8⟩:=J w7 (O.trans T4);have v9:w7.cell? (aj f (k*10+8))=some (Iq of):=by have:=aS Uf N (t:=8) dg;simpa[ba]using this
           have vq0:=zF.c0;have vq1:=zF.c1;have vq2:=zF.c2;have vq3:=zF.c3;have vqf:=zF.fz;clear zP;go_wp2_with(first
            |(go_at_call 156;refine ag Xe ?_;rintro e u8 ⟨rfl,h8⟩;obtain rfl:=h8.symm)
            |(go_at_call 74;refine ag (Xc _) ?_;rintro e u8 ⟨rfl,h8⟩;obtain rfl:=h8.symm)
            |(go_at_call 73;refine ag (V_ _) ?_;rintro e u8 ⟨rfl,h8⟩;obtain rfl:=h8.symm));go_region_held(λW=>W.cell? (aj (l+1) 0)=some (Iq x)/\W.cell? (aj (l+1) 1)=some (Iq y)/\W.cell? (aj (l+1) 2)=some (Iq w)/\W.cell? (aj f (k*10+8))=some (Iq of)) (go_keep) (fail);all_goals go_wp2_with fail;go_meet;obtain⟨g1,g2,g3⟩:=HX w7 _ x y w h T4 Uf zF x (y-of) w f3;obtain⟨r0,r1,r2⟩:=HF.out;refine⟨_,fS g1,?_,g3,WM⟩;rw[<-r0,<-r1,<-r2];exact g2
         ·have e4:(B==4)=false:=by simp;exact k4
          have HF:=qH<|zr k0 k1 k3 k4;have zt:=qH<|HQQ k4;clear k0 k1 k3 k4 za zm zn zo zb zr HQQ;go_wp2_with fail;go_meet;obtain⟨w0,w1,w2,w3⟩:=HF.out;refine⟨Q,zl F (af _ _),?_,zG F (af _ _),zt⟩;rw[<-w0,<-w1,<-w2,<-w3];exact M
     case rest=>
      obtain⟨Q1,Wk,zO,zu,Ue⟩:=hcut;obtain⟨W5,rfl⟩:=Lj wc;clear p0 p1 p2 p3 p4 p5 p6 p7 p8 y0 Zv VY VZ za zm zn zo zb zr HQQ HX zZ zG zl R Z M zD;have q0:=zO.c0;have q1:=zO.c1;have q2:=zO.c2;have q3:=zO.c3;have n4:¬f=A:=dg;have n5:¬A=f:=dg;have Yd:k≠r:=dg;obtain⟨c4,Sw⟩:=ad (Q k 4);obtain⟨c5,Sx⟩:=ad (Q k 5);obtain⟨c6,Sy⟩:=ad (Q k 6);obtain⟨c7,SA⟩:=ad (Q k 7);obtain⟨d0,QY⟩:=ad (uT f0 f1 f2 f3 c4 c5 c6 c7);obtain⟨d1,Nu⟩:=ad (uU f0 f1 f2 f3 c4 c5 c6 c7);obtain⟨d2,SD⟩:=ad (sO f0 f1 f2 f3 c4 c5 c6 c7);obtain⟨d3,SE⟩:=ad (uV f0 f1 f2 f3 c4 c5 c6 c7);have CP:Hid (∀u,Cw 39 #[.agg #[Iq f0,Iq f1,Iq f2,Iq f3],.agg #[Iq c4,Iq c5,Iq c6,Iq c7]] u λe w'=>e=Rw (.agg #[Iq d0,Iq d1,Iq d2,Iq d3])/\Hid (Bt u w')):=λu=>(rB f0 f1 f2 f3 c4 c5 c6 c7 u).mono λe w' q=>⟨by rw[q.1,tF,QY,Nu,SD,SE];rfl,q.2.below⟩;obtain⟨Q3,Sp⟩:=ad (ba (ba (ba (ba (ba (ba (ba (ba Q1 r 0 f0) r 1 f1) r 2 f2) r 3 f3) r 4 d0) r 5 d1) r 6 d2) r 7 d3);have RJ:Hid (∀i t,Q3 i t=kt Q k r f0 f1 f2 f3 of rm i t):=λi t=>by have:=TC Q1 r (vx Q k f0 f1 f2 f3) i t;rw[<-Sp];unfold kt;rw[<-Ue i t,<-this];unfold vx;simp only[Sw,Sx,Sy,SA,QY,Nu,SD,SE];rfl
      obtain⟨W6,QU⟩:=ad ((((W5.setCell (aj f (r*10)) (Iq f0)).setCell (aj f (r*10+1)) (Iq f1)).setCell (aj f (r*10+2)) (Iq f2)).setCell (aj f (r*10+3)) (Iq f3));have zc:Hid (W6.rowIs f 103 (L.length*10) (js (ba (ba (ba (ba Q1 r 0 f0) r 1 f1) r 2 f2) r 3 f3))):=by rw[<-QU];exact dy (dy (dy (dy zu r 0 dg f0) r 1 dg f1) r 2 dg f2) r 3 dg f3
      have zC:Hid (wr.grownBy W6 (some f)):=by rw[<-QU];exact iK (iK (iK (iK Wk _) _) _) _
      have zE:Hid (R4 101 W6 A f0 f1 f2 f3):=by rw[<-QU];exact(((zO.other n5 _).other n5 _).other n5 _).other n5 _
      have r0:=zE.c0;have r1:=zE.c1;have r2:=zE.c2;have r3:=zE.c3;have PC:∀t c,4<=t->t<8->Q k t=c->W6.cell? (aj f (k*10+t))=some (Iq c):=λt c h1 h2 h3=>by
       have:=aS zc N (t:=t) dg;rw[this];have e:ba (ba (ba (ba Q1 r 0 f0) r 1 f1) r 2 f2) r 3 f3 k t=c:=by unfold ba;rw[if_neg dg,if_neg dg,if_neg dg,if_neg dg,Ue.out,if_neg dg,if_neg dg,h3]
       rw[e]
      have r4:=PC 4 c4 dg dg Sw;have r5:=PC 5 c5 dg dg Sx;have r6:=PC 6 c6 dg dg Sy;have r7:=PC 7 c7 dg dg SA;have m0:=aS zu X (t:=0) dg;have m1:=aS zu X (t:=1) dg;have m2:=aS zu X (t:=2) dg;have m3:=aS zu X (t:=3) dg;rw[nK]at m0;have mf:=zu.frozen;have ml:=zu.lt;have HM:Hid (∀u,Bt W6 u->(∀o',u.frozen? (aj f o')=false)/\f<u.heap.size/\(∃v,u.cell? (aj f (r*10+4))=some v)/\(∃v,u.cell? (aj f (r*10+5))=some v)/\(∃v,u.cell? (aj f (r*10+6))=some v)/\∃v,u.cell? (aj f (r*10+7))=some v):=λu hu=>by have hr:=rowIs_below zc hu;exact⟨hr.frozen,hr.lt,⟨_,aS hr X dg⟩,⟨_,aS hr X dg⟩,⟨_,aS hr X dg⟩,⟨_,aS hr X dg⟩⟩
      have Uj:Hid (∀u,Bt W6 u->Cw 70 #[Sq g L.length ze,Sq f L.length pc,Iq (r:Int),.slice sp S sc] ((((u.setCell (aj f (r*10+4)) (Iq d0)).setCell (aj f (r*10+5)) (Iq d1)).setCell (aj f (r*10+6)) (Iq d2)).setCell (aj f (r*10+7)) (Iq d3)) λe u'=>e=Rw (.tuple #[])/\∃Q',Hid (W4.grownBy u' (some f))/\Hid (u'.rowIs f 103 (L.length*10) (js Q'))/\Hid (iu L en Wd H E off S R0 R1 R2 R3 of rm P Q' k (j+1))):=λu hu=>by
       have hr:((((u.setCell (aj f (r*10+4)) (Iq d0)).setCell (aj f (r*10+5)) (Iq d1)).setCell (aj f (r*10+6)) (Iq d2)).setCell (aj f (r*10+7)) (Iq d3)).rowIs f 103 (L.length*10) (js Q3):=by rw[<-Sp];exact dy (dy (dy (dy (rowIs_below zc hu) r 4 dg d0) r 5 dg d1) r 6 dg d2) r 7 dg d3
       have hg:wr.grownBy ((((u.setCell (aj f (r*10+4)) (Iq d0)).setCell (aj f (r*10+5)) (Iq d1)).setCell (aj f (r*10+6)) (Iq d2)).setCell (aj f (r*10+7)) (Iq d3)) (some f):=iK (iK (iK (iK (zC.trans (ac hu)) _) _) _) _;have XY:=zU.trans hg;refine(KD Q3 _ (zK _ (O.trans hg)) hr (zv Q3 Q3 zY RJ).1).mono ?_;rintro e u' ⟨rfl,z⟩;obtain⟨z1,Q',z2,z3⟩:=z.out;exact⟨rfl,Q',XY.trans z1,z2,(zv Q3 Q' zY RJ).2 z3⟩
      have RX:Hid (∀u,Bt W6 u->Cw 70 #[Sq g L.length ze,Sq f L.length pc,Iq (r:Int),.slice sp S sc] ((((u.setCell (aj f (r*10+4)) (Iq d0)).setCell (aj f (r*10+5)) (Iq d1)).setCell (aj f (r*10+6)) (Iq d2)).setCell (aj f (r*10+7)) (Iq d3)) λe u'=>e=Rw (.tuple #[])/\∃Q',Hid (W4.grownBy u' (some f))/\Hid (u'.rowIs f 103 (L.length*10) (js Q'))/\Hid (iu L en Wd H E off S R0 R1 R2 R3 of rm P Q' k (j+1))):=Uj.out;have HE:Hid (Bt W6 W6.drew):=(af _ _).drew;clear PC Sw Sx Sy SA QY Nu SD SE Sp zv KD RX;go_wp2_with fail;clear m0 m1 m2 m3 mf ml q0 q1 q2 q3 QU;go_region_with(go_at_call 39;refine ag (CP _) ?_;rintro e u7 ⟨rfl,zk⟩;have HF7:Hid (Bt W6 u7):=HE.trans (zk.mono HE.size);obtain⟨i0,i1,⟨i2,i3⟩,⟨i4,i5⟩,⟨i6,i7⟩,i8,i9⟩:=HM u7 HF7);all_goals
       go_wp2_with(go_at_call 70;refine ag (Uj u7 HF7) ?_;rintro e u9 ⟨rfl,Q',Wl,RK,Wo⟩);go_roundw;case rel=>exact⟨j+1,Q',dg,by go_num,Wl,RK,Wo⟩
       case measure=>simp[intOf];omega
    ·have Ir:¬(j:Int)<(m:Int):=dg
     obtain rfl:j=m:=dg;go_wp2;go_end0;exact⟨rfl,RG _ O,Q,KJ,zN Q zY⟩
theorem Du{s}{L}{t}{H}(p:dp s L)(z:Sz L t H){n}(A:En L n)g b d q sp h r a off c(v:ip c g L.length (aa L))(l:jB c sp h a off)(m:h<=4611686018427387904)(i:c.heap.size<=d):∀f k,L.length<=k+f->k<L.length->∀P U,Bt c U->U.rowIs d 103 (L.length*10) (js P)->qh n P k->
 Cw 70 #[Sq g L.length b,Sq d L.length q,Iq (k:Int),.slice sp h r] U λe B=>e=Rw (.tuple #[])/\Hid (Gy L n t H a off h d P k U B)
 |0,k,h1,o,P,U,y,x,w=>dg
 |f+1,k,h1,o,P,U,y,x,w=>IQ p z A g b d q sp h r a off c v l m i k o P U y x w λj C Q u hu D hp=>by have:=di p o C;exact Du p z A g b d q sp h r a off c v l m i f _ dg this.2 Q u hu D hp
theorem LF:(prog.info? 103).map (λi=>(i.zero,i.size,i.bytes))=some (some (.agg #[Iq 0,Iq 0,Iq 0,Iq 0,Iq 0,Iq 0,Iq 0,Iq 0,Iq 0,Iq 0]),10,80):=ns
def AN(U U':World)(L:List Nd)(Wd:Nat->Int)(H:Nat->Int->Int)(w h:Int)(dM off:Nat->Int)(sn pb:Nat):Prop:=Bt U U'/\∃P,U'.rowIs pb 103 (L.length*10) (js P)/\cV L Wd H w h dM off sn P L.length
theorem yD{s:ByteArray}{L:List Nd}{M:Nat->Int}{H:Nat->Int->Int}(l:dp s L)(R:Sz L M H)(g x:Nat)(sp:Option Addr)(B Z:Nat)(m off:Nat->Int)(w h:Int)(U:World)(hN:ip U g L.length (aa L))(F:jB U sp B m off)(V:B<=4611686018427387904)(hw:1<=w/\w<=400)(hh:1<=h/\h<=400):
 Cw 35 #[Sq g L.length x,Iq w,Iq h,.slice sp B Z] U λe U'=>∃b,e=Rw (Sq b L.length L.length)/\Hid (AN U U' L M H w h m off B b):=by
 have c:=l.pos;have hc:=l.vl.cnt;obtain⟨i0,hi,G,I,Y⟩:=info_parts LF;obtain⟨N,f⟩:=ad L.length;have zc:∀W:World,(Instr.makeSlice 63 (Iq (N:Int)) (Iq (N:Int))).run prog W=.ok (Sq W.heap.size N N) (W.alloc (.cells (madeCells #[Iq 0,Iq 0,Iq 0,Iq 0,Iq 0,Iq 0,Iq 0,Iq 0,Iq 0,Iq 0] (N*10)) 103)):=λW=>by have:=run_make (P:=prog) W 63 103 i0 _ underlying63 hi G .i64 .i64 N N dg (iD _) rd dg;rw[I,jG]at this;exact this
 clear hi G I Y;obtain⟨O,p⟩:=Qc l;obtain⟨b,S⟩:=ad U.heap.size;obtain⟨d,C⟩:=ad (U.alloc (.cells (madeCells #[Iq 0,Iq 0,Iq 0,Iq 0,Iq 0,Iq 0,Iq 0,Iq 0,Iq 0,Iq 0] (N*10)) 103));have a:d.rowIs b 103 (N*10) (js λ_ _=>0):=by have:=oW U N 103;rw[S,C]at this;exact this
 have E:Bt U d:=by rw[<-C];exact((Gr.refl U).alloc _).below
 obtain⟨J,D⟩:=ad ((((((((((d.setCell (aj b 0) (Iq 0)).setCell (aj b 1) (Iq 0)).setCell (aj b 2) (Iq w)).setCell (aj b 3) (Iq h)).setCell (aj b 4) (Iq 0)).setCell (aj b 5) (Iq 0)).setCell (aj b 6) (Iq w)).setCell (aj b 7) (Iq h)).setCell (aj b 8) (Iq 0)).setCell (aj b 9) (Iq 0));obtain⟨P,K⟩:=ad (ba (ba (ba (ba (ba (ba (ba (ba (ba (ba (λ_ _=>0) 0 0 0) 0 1 0) 0 2 w) 0 3 h) 0 4 0) 0 5 0) 0 6 w) 0 7 h) 0 8 0) 0 9 0);have A:J.rowIs b 103 (N*10) (js P):=by rw[<-D,<-K];exact dy (dy (dy (dy (dy (dy (dy (dy (dy (dy a 0 0 dg 0) 0 1 dg 0) 0 2 dg w) 0 3 dg h) 0 4 dg 0) 0 5 dg 0) 0 6 dg w) 0 7 dg h) 0 8 dg 0) 0 9 dg 0
 have y:Bt U J:=by rw[<-D];have k:∀{X:World} {o:Nat} {v:Value},Bt U X->Bt U (X.setCell (aj b o) v):=λhX=>hX.setCell rd _;exact k (k (k (k (k (k (k (k (k (k E)))))))))
 have pz:∀i,P i 8=0/\P i 9=0:=λi=>by rw[<-K];simp_all[ba]
 have p0:P 0 0=0/\P 0 1=0/\P 0 2=w/\P 0 3=h/\P 0 4=0/\P 0 5=0/\P 0 6=w/\P 0 7=h:=by rw[<-K];refine⟨rfl,rfl,rfl,rfl,rfl,rfl,rfl,rfl⟩
 have r:qh O P 0:=⟨dg,dg,dg,dg,λi _ _=>pz i⟩;have e0:O 0=L.length:=by
  have h1:=p.le 0 c;have h2:∀n i,i<n->i<L.length->i<O 0:=λn=>by
   induction n with
   |zero=>omega
   |succ n ih=>
    intro i _ hi;by_cases q:i=0;·rw[q];exact p.lt 0 c
    ·obtain⟨u,k,hu,hk,zb,_⟩:=l.kid_of i dg hi;have q1:=ih u dg dg;have q2:=p.sub 0 u c (aR _) q1;have q3:=p.kid u k dg hk;have q4:=p.st_mono l (k:=u) dg hk;have q5:=p.st_end l (k:=u) dg (j:=k+1) dg;omega
  have h3:=h2 L.length (L.length-1) dg dg;omega
 have LY:Hid (Cw 70 #[Sq g N x,Sq b N N,Iq 0,.slice sp B Z] J λe u'=>e=Rw (.tuple #[])/\Hid (AN U u' L M H w h m off B b)):=by rw[<-f];rw[<-f]at A;refine(Du l R p g x b L.length sp B Z m off U hN F V dg L.length 0 dg c P J y A r).mono ?_;rintro e u' ⟨rfl,z⟩;obtain⟨z1,Q,z2,z3,z4,t⟩:=z.out;refine⟨rfl,xg y z1 dg,Q,z2,cV.all l R hw hh ?_ λi hi=>z3 i (aR _) dg⟩;rw[t 0 dg,t 1 dg,t 2 dg,t 3 dg,t 4 dg,t 5 dg,t 6 dg,t 7 dg];exact p0
 have d0:d.cell? (aj b 0)=some (Iq 0):=a.cell dg;have d1:d.cell? (aj b 1)=some (Iq 0):=a.cell dg;have d2:d.cell? (aj b 2)=some (Iq 0):=a.cell dg;have d3:d.cell? (aj b 3)=some (Iq 0):=a.cell dg;have d4:d.cell? (aj b 4)=some (Iq 0):=a.cell dg;have d5:d.cell? (aj b 5)=some (Iq 0):=a.cell dg;have d6:d.cell? (aj b 6)=some (Iq 0):=a.cell dg;have d7:d.cell? (aj b 7)=some (Iq 0):=a.cell dg;have d8:d.cell? (aj b 8)=some (Iq 0):=a.cell dg;have d9:d.cell? (aj b 9)=some (Iq 0):=a.cell dg;have df:=a.frozen;have dl:=a.lt;have T:(0:Int)<(N:Int):=dg;have za:=qH<|f;rw[f];clear a A E y K pz p0 r e0 hN F l R p f;go_enter func35,ntmps35;go_wp2_with(go_at_call 70;refine ag LY ?_;rintro e u9 ⟨rfl,HO⟩);go_ret;simp_all
