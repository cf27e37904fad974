import Derived.Test.YtbeiapdobffpiaaGreatDoorQ46
set_option linter.all false
set_option maxRecDepth 100000
set_option maxHeartbeats 16000000
namespace Go.Proofs.YtbeiapdobffpiaaGreatDoor
open Go.RowKit Go.Sort Go.Proofs.Tryz
theorem yH{U0 U U'}{pb}(h:Bt U0 U)(hg:U.grownBy U' (some pb))(hp:U0.heap.size<=pb):Bt U0 U':=h.grown hg h.size (fun q e=>by grind)
theorem ji{W W':World}{pb o}(h:W.grownBy W' (some pb))  v  :W.grownBy (W'.setCell (az pb o) v) (some pb):=
 ⟨h.os,h.tape,h.output,by simpa[World.setCell]using h.size,fun b hb hn=>(cF W' (az pb o) v b (fun e=>hn (by rw[e]))).trans (h.block b hb hn)⟩
theorem lr{W W':World}{pb b}(h:W.grownBy W' (some pb))(hb:b≠pb){o}{v}(hc:W.cell? (az b o)=some v):W'.cell? (az b o)=some v:=h.cell hc (by grind)
theorem IV.gb{W W'}{pb B m}{G}{v}(h:IV W B m G v)(hg:W.grownBy W' (some pb))(hB:pb<B):IV W' B m G v:=fun a=>by obtain⟨ob,e,b,c⟩:=h a;exact⟨ob,e,b,fun i hi=>lr hg (by omega) (c i hi)⟩
def IU(L:List Nd)(en:Nat->Nat)(Wd:Nat->Int)(H:Nat->Int->Int)(aX off:Nat->Int)(sn pb:Nat)(P:Nat->Nat->Int)(k:Nat)(u u':World):Prop:=u.grownBy u' (some pb)/\∃Q,u'.rowIs pb 82 (L.length*10) (j6 Q)/\ro L en Wd H aX off sn P Q k
theorem KM{s:ByteArray}{L:List Nd}{Wd:Nat->Int}{H:Nat->Int->Int}(hT:dk s L)(hZ:Sz L Wd H){en:Nat->Nat}(he:En L en)(g al pb pc:Nat)(sp:Option Addr)(sn sc:Nat)(aX off:Nat->Int)(U0:World)(hN:ip U0 g L.length (ae L))(hsc:pH U0 sp sn aX off)(EG:sn<=4611686018427387904)(j5:U0.heap.size<=pb)(k:Nat)(hk:k<L.length)(P:Nat->Nat->Int)(U:World)(hU:Bt U0 U)(hR:U.rowIs pb 82 (L.length*10) (j6 P))(hP:rp en P k)
 (BR:Hid (∀j,j<(ae L k).kids.length->∀Q u,Bt U0 u->u.rowIs pb 82 (L.length*10) (j6 Q)->rp en Q (aP (ae L k).kids j)->Cw 63 #[Sq g L.length al,Sq pb L.length pc,Iq (aP (ae L k).kids j:Int),.slice sp sn sc] u fun e u'=>e=Rw (.tuple #[])/\Hid (IU L en Wd H aX off sn pb Q (aP (ae L k).kids j) u u'))):
 Cw 63 #[Sq g L.length al,Sq pb L.length pc,Iq (k:Int),.slice sp sn sc] U fun e U'=>e=Rw (.tuple #[])/\Hid (IU L en Wd H aX off sn pb P k U U'):=by
 have oV:prog.follows .mixedOrders=true:=by kernel_rfl
 obtain⟨ab,kv,hn⟩:=hN.nd k hk;obtain⟨kp,kc,uJ,oU⟩:=hn.kids;subst uJ;have dD:=hT.kids_le hk;have kH:=hT.vl.cnt;have hbd:=(hT.vl.nv k hk).bd;obtain⟨x,hx⟩:=aj (P k 0);obtain⟨y,hy⟩:=aj (P k 1);obtain⟨w,hw⟩:=aj (P k 2);obtain⟨h,hh⟩:=aj (P k 3);obtain⟨o,ho⟩:=aj (fw (aC (ae L k) 0) aX off sn);obtain⟨kd,hkd⟩:∃z:Int,((ae L k).kind:Int)=z:=⟨_,rfl⟩;obtain⟨of,rm,G,R0,R1,R2,R3,hKG⟩:=Yf L (ae L k).kids Wd H U (by omega) kd (aC (ae L k) 4) (aC (ae L k) 5) (aC (ae L k) 6) x y w h o;have hb0:=hP.b0;have hb1:=hP.b1;have hb2:=hP.b2;have uG:=hP.b3;rw[hx]at hb0;rw[hy]at hb1;rw[hw]at hb2;rw[hh]at uG;have oE:(k:Int)<=100:=by omega
 have zc:0<=of/\of<=100000/\0<=rm/\h+rm<=100000:=by
  by_cases e4:kd=4
  ·obtain⟨⟨r1,r2⟩,_⟩:=hKG.r4 e4;have yY:aP (ae L k).kids 0<L.length:=by
    rcases hT.kidok k hk with q|⟨_,_,q⟩|⟨q,_⟩;·omega
    ·exact(de hT hk (by omega)).2
    ·omega
   have Xu:=hZ.hb (aP (ae L k).kids 0) w yY;unfold dt at r1;omega
  ·obtain⟨r1,r2⟩:=hKG.no e4;omega
 have hsp:bW (ae L k).kind (aC (ae L k) 4) (aC (ae L k) 5) (aC (ae L k) 6) L (ae L k).kids Wd H (P k 0) (P k 1) (P k 2) (P k 3) of rm R0 R1 R2 R3:=by rw[hx,hy,hw,hh,hkd];exact hKG.spec
 have fi:Hid (∀j,j<(ae L k).kids.length->∀Q Q1 Q2,iZ L en Wd H aX off sn R0 R1 R2 R3 of rm P Q k j->(∀i t,Q1 i t=kQ Q k (aP (ae L k).kids j) (R0 j) (R1 j) (R2 j) (R3 j) of rm i t)->rp en Q1 (aP (ae L k).kids j)/\(ro L en Wd H aX off sn Q1 Q2 (aP (ae L k).kids j)->iZ L en Wd H aX off sn R0 R1 R2 R3 of rm P Q2 k (j+1))):=fun j hj Q Q1 Q2 hi h1=>
  ⟨hi.pre hT he hk hj hP hsp ⟨zc.1,zc.2.1⟩ ⟨zc.2.2.1,by rw[hh];exact zc.2.2.2⟩ h1,fun h2=>hi.step hT he hk hj h1 h2⟩;have gT:Hid (∀Q,iZ L en Wd H aX off sn R0 R1 R2 R3 of rm P Q k (ae L k).kids.length->ro L en Wd H aX off sn P Q k):=fun Q hi=>hi.fin hT he hk hsp (fun e=>by rw[hw,hh,ho];exact(hKG.r4 (by omega)).1) (fun e=>hKG.no (by omega));have _I:Hid (iZ L en Wd H aX off sn R0 R1 R2 R3 of rm P P k 0):=⟨fun i a b=>by have:i<k+1:=b;omega,fun a q=>by omega,fun i t _=>rfl,fun t _=>rfl,fun q=>by omega,fun _=>hP.z k (ai _) (he.lt k hk)⟩;have VL:=qH<|hKG.no;have x_:=qH<|hKG;have Ni:Hid (kd=4->(ae L k).kids.length=1):=fun e=>by rcases hT.kidok k hk with q|⟨_,_,q⟩|⟨q,_⟩<;>omega
 have IC:Hid (∀j,j<(ae L k).kids.length->k<aP (ae L k).kids j/\aP (ae L k).kids j<L.length):=fun j hj=>de hT hk hj;obtain⟨E1,Oi⟩:=aj (U.alloc (.cells #[Iq kd,Sq ab 12 12,.string ⟨(ae L k).text.toArray⟩,.slice kp (ae L k).kids.length kc,Iq (ae L k).up] 107));obtain⟨W2,Ig⟩:=aj (E1.alloc (.cells #[Iq x,Iq y,Iq w,Iq h] 80));obtain⟨An,hAn⟩:=aj U.heap.size;have Xg:W2.heap[An]?=some (.cells #[Iq kd,Sq ab 12 12,.string ⟨(ae L k).text.toArray⟩,.slice kp (ae L k).kids.length kc,Iq (ae L k).up] 107 (0,0)):=by rw[<-Ig,<-Oi,<-hAn,fC _ _ _ (by rw[aO];omega)];exact heap_alloc_new _ _
 have za':E1.heap.size=An+1:=by rw[<-Oi,aO,hAn]
 have J0:R4 80 W2 (An+1) x y w h:=by have:=R4.new E1 x y w h 80;rw[za']at this;rw[<-Ig];exact this
 have HB2:Hid (Bt U W2):=by rw[<-Ig,<-Oi];exact(((Gr.refl U).alloc _).alloc _).below
 have HR2:=qH<|rowIs_below hR HB2;have hpA:pb<An:=by rw[<-hAn];exact hR.lt
 have HU2:=qH<|hU.trans (HB2.mono hU.size);have Ix:Hid (∀u,W2.grownBy u (some pb)->Bt U0 u):=fun u hu=>yH HU2 hu j5;have BN:Hid (∀u,W2.grownBy u (some pb)->U.grownBy u (some pb)):=fun u hu=>(ac HB2).trans hu;have HCL:Hid (∀u,W2.grownBy u (some pb)->(u.cell? (az An 0)=some (Iq kd)/\u.cell? (az An 1)=some (Sq ab 12 12)/\u.cell? (az An 2)=some (.string ⟨(ae L k).text.toArray⟩)/\u.cell? (az An 3)=some (.slice kp (ae L k).kids.length kc)/\u.cell? (az An 4)=some (Iq (ae L k).up))/\u.cell? (az (An+1) 0)=some (Iq x)/\u.cell? (az (An+1) 1)=some (Iq y)/\u.cell? (az (An+1) 2)=some (Iq w)/\u.cell? (az (An+1) 3)=some (Iq h)):=fun u hu=>by
  have n1:An≠pb:=by omega
  have n2:An+1≠pb:=by omega
  refine⟨⟨?_,?_,?_,?_,?_⟩,lr hu n2 J0.c0,lr hu n2 J0.c1,lr hu n2 J0.c2,lr hu n2 J0.c3⟩<;>exact lr hu n1 (by rw[Lib.cell_of_heap Xg];rfl)
 have gd:Hid (∀u,W2.grownBy u (some pb)->u.cell? (az ab 0)=some (Iq (aC (ae L k) 0))/\u.cell? (az ab 4)=some (Iq (aC (ae L k) 4))/\u.cell? (az ab 5)=some (Iq (aC (ae L k) 5))/\u.cell? (az ab 6)=some (Iq (aC (ae L k) 6))):=fun u hu=>by have hb:=Ix u hu;exact⟨aN hb (hn.att 0 (by omega)),aN hb (hn.att 4 (by omega)),aN hb (hn.att 5 (by omega)),aN hb (hn.att 6 (by omega))⟩
 have ya:Hid ((ae L k).kids.length=0\/∃kb ko,kp=some (az kb ko)/\∀u,W2.grownBy u (some pb)->∀i,i<(ae L k).kids.length->u.cell? (az kb (ko+i))=some (Iq (aP (ae L k).kids i:Int))):=by
  rcases oU with e|⟨kb,ko,e,_,hc⟩;·exact .inl (by rw[e];rfl)
  ·exact .inr ⟨kb,ko,e,fun u hu i hi=>aN (Ix u hu) (hc i hi)⟩
 have A0:=qH<|fun q u hu=>(ry hT hZ g al k hk u (hN.below hu)).mono fun e u' z=>QD z (by omega) (hKG.g0 q);have A1:=qH<|fun q u hu=>(JH hT hZ g al k hk w hb2.1 hb2.2 u (hN.below hu)).mono fun e u' z=>QD z (by omega) (hKG.g1 q);have Uj:Hid (∀j,j<(ae L k).kids.length->∀u,Bt U0 u->Cw 120 #[Sq g L.length al,Iq (aP (ae L k).kids j:Int),Iq w] u fun e U'=>e=Rw (Iq (H (aP (ae L k).kids j) w))/\Hid (Bt u U')):=fun j hj u hu=>mz hT hZ g al L.length _ (by omega) (de hT hk hj).2 w hb2.1 hb2.2 u (hN.below hu);have OF:Hid (∀u,Bt U0 u->Cw 121 #[.slice sp sn sc,Iq (aC (ae L k) 0)] u fun e w'=>e=Rw (Iq o)/\w'=u):=fun u hu=>by rw[<-ho];exact Lt sp sn sc aX off _ u (hsc.below hu) EG
 have MG:Hid (∀j,j<(ae L k).kids.length->0<=H (aP (ae L k).kids j) w/\H (aP (ae L k).kids j) w<=100000):=fun j hj=>hZ.hb _ _ (de hT hk hj).2;obtain⟨_,Tp,Tq,Tr,_⟩:=hbd;have HPX:Hid (P k 0=x/\P k 1=y/\P k 2=w/\P k 3=h):=⟨hx,hy,hw,hh⟩;have c0:=hn.c0;have c1:=hn.c1;have c2:=hn.c2;have c3:=hn.c3;have c4:=hn.c4;rw[hkd]at c0;have d0:=aN hU c0;have d1:=aN hU c1;have d2:=aN hU c2;have d3:=aN hU c3;have d4:=aN hU c4;have Ue:Bt U E1:=by rw[<-Oi];exact((Gr.refl U).alloc _).below
 have Xb:=rowIs_below hR Ue;have r0:E1.cell? (az pb (k*10))=some (Iq x):=by have:=aW Xb hk (t:=0) (by omega);rw[hx]at this;exact this
 have r1:E1.cell? (az pb (k*10+1))=some (Iq y):=by have:=aW Xb hk (t:=1) (by omega);rw[hy]at this;exact this
 have r2:E1.cell? (az pb (k*10+2))=some (Iq w):=by have:=aW Xb hk (t:=2) (by omega);rw[hw]at this;exact this
 have r3:E1.cell? (az pb (k*10+3))=some (Iq h):=by have:=aW Xb hk (t:=3) (by omega);rw[hh]at this;exact this
 have U8:(k:Int)<(L.length:Int):=by omega
 generalize hks:(ae L k).kids=ks at fi gT IC HCL ya A0 A1 Uj MG dD BR Ni Oi d3 x_;obtain⟨m,hm⟩:=aj ks.length;rw[hm]at fi gT IC HCL ya A0 A1 Uj MG dD BR Ni Oi d3;generalize(ae L k).text=tx at Oi d2 HCL;generalize(ae L k).up=up at Oi d4 HCL;obtain⟨⟨z0,z1,z2,z3,z4⟩,z5,z6,z7,z8⟩:=HCL W2 (ac (ag _ _));obtain⟨y0,y4,y5,y6⟩:=gd W2 (ac (ag _ _));have H6:Hid (An<=W2.heap.size/\pb<An):=⟨by have:=HB2.size;omega,hpA⟩;generalize aC (ae L k) 0=a0 at gd OF y0;generalize aC (ae L k) 4=a4 at gd A0 A1 x_ Tp y4;generalize aC (ae L k) 5=a5 at gd x_ Tq y5;generalize aC (ae L k) 6=a6 at gd x_ Tr y6;clear hn oU Xg J0 hsp hKG hP hN hsc c0 c1 c2 c3 c4 Xb Ue hR hx hy hw hh ho hkd hT hZ he;go_enter func63,ntmps63;go_upto_if 28 with fail;clear d0 d1 d2 d3 d4 r0 r1 r2 r3 Oi Ig;go_cut[10,11,28]from 29 to 48 (fun v1 v2 _ wx=>Hid (Bt W2 wx)/\Hid (kd=0->IV wx An m G v1/\IV wx An m (cm G (cl a4)) v2));case first=>
  by_cases k0:kd=0
  ·have e0:(kd==0)=true:=by rw[k0];rfl
   have AC:=A0 k0;have AC:=qH<|AC;have HD:=qH<|HU2.drew;have HE:Hid (Bt W2 W2.drew):=(ag _ _).drew;have HZ:Hid (∀u,Bt W2 u->u.cell? (az (An+1) 2)=some (Iq w)/\u.cell? (az An 1)=some (Sq ab 12 12)/\u.cell? (az ab 4)=some (Iq a4)):=fun u hu=>⟨aN hu z7,aN hu z1,aN hu y4⟩;clear k0 A0 A1;go_wp2_with fail;go_region_held(fun W=>W.cell? (az (An+1) 2)=some (Iq w)/\W.cell? (az An 1)=some (Sq ab 12 12)/\W.cell? (az ab 4)=some (Iq a4)) (go_keep) (first
    |(go_at_call 114;refine am (AC _ HD) ?_;rintro e u5 ⟨p,c,rfl,kg,yb,_⟩;have HF5:=qH<|HE.trans (kg.mono HE.size);obtain⟨s1,s2,s3⟩:=HZ u5 HF5)
    |(go_at_call 113;refine am yb ?_;rintro e u6 ⟨v6,rfl,rk,_F⟩;have HF6:=qH<|HF5.trans (rk.mono HF5.size);obtain⟨t1,t2,t3⟩:=HZ u6 HF6));all_goals
    have _v:=qH<|(HU2.trans (HF6.mono HU2.size)).drew;have HE6:=qH<|HF6.drew;clear s1 s2 s3;go_wp2_with fail;go_region_held(fun W=>W.cell? (az (An+1) 2)=some (Iq w)/\W.cell? (az An 1)=some (Sq ab 12 12)/\W.cell? (az ab 4)=some (Iq a4)) (go_keep) (first
     |(go_at_call 114;refine am (AC _ _v) ?_;rintro e u7 ⟨p7,c7,rfl,Fq,_,_5⟩;have HF7:=qH<|HE6.trans (Fq.mono HE6.size);obtain⟨q1,q2,q3⟩:=HZ u7 HF7)
     |(go_at_call 115;refine am _5 ?_;rintro e u8 ⟨v8,rfl,Vy,_G⟩;have Bm:=qH<|HF7.trans (Vy.mono HF7.size);obtain⟨x1,x2,x3⟩:=HZ u8 Bm));all_goals go_wp2_with fail;go_meet;have hA:=H6.1;have h6:=HF6.size;refine⟨Bm,fun _=>⟨((((_F.mono hA).below (ag _ _).drew).below Fq).below Vy),_G.mono (aT hA h6)⟩⟩
  ·have e0:(kd==0)=false:=by simp;exact k0
   have Ns:=qH<|k0;clear k0 A0 A1;go_wp2_with fail;go_meet;exact⟨ag _ _,fun q=>absurd q Ns⟩
 case rest=>
  obtain⟨pF,_E⟩:=hcut;obtain⟨W3,rfl⟩:=N7 wc;obtain⟨w1,rfl⟩:=N7 u10;obtain⟨w2,rfl⟩:=N7 u11;have HU3:=qH<|HU2.trans (pF.mono HU2.size);clear z0 z1 z2 z3 z4 z5 z6 z7 z8 y0 y4 y5 y6;obtain⟨⟨z0,z1,z2,z3,z4⟩,z5,z6,z7,z8⟩:=HCL W3 (ac pF);obtain⟨y0,y4,y5,y6⟩:=gd W3 (ac pF);go_upto_if 51 with fail;go_cut[10,11,51]from 52 to 75 (fun v1 v2 _ wx=>Hid (Bt W2 wx)/\Hid (kd=0\/kd=1->IV wx An m G v1/\IV wx An m (cm G (cl a4)) v2));case first=>
   by_cases k1:kd=1
   ·have e1:(kd==1)=true:=by rw[k1];rfl
    have AC:=A1 k1;have AC:=qH<|AC;have HD:=qH<|HU3.drew;have HE:Hid (Bt W3 W3.drew):=(ag _ _).drew;have HZ:Hid (∀u,Bt W3 u->u.cell? (az (An+1) 3)=some (Iq h)/\u.cell? (az (An+1) 2)=some (Iq w)/\u.cell? (az An 1)=some (Sq ab 12 12)/\u.cell? (az ab 4)=some (Iq a4)):=fun u hu=>⟨aN hu z8,aN hu z7,aN hu z1,aN hu y4⟩;clear k1 A0 A1 _E;go_wp2_with fail;go_region_held(fun W=>W.cell? (az (An+1) 3)=some (Iq h)/\W.cell? (az (An+1) 2)=some (Iq w)/\W.cell? (az An 1)=some (Sq ab 12 12)/\W.cell? (az ab 4)=some (Iq a4)) (go_keep) (first
     |(go_at_call 116;refine am (AC _ HD) ?_;rintro e u5 ⟨p,c,rfl,kg,yb,_⟩;have HF5:=qH<|HE.trans (kg.mono HE.size);obtain⟨s0,s1,s2,s3⟩:=HZ u5 HF5)
     |(go_at_call 113;refine am yb ?_;rintro e u6 ⟨v6,rfl,rk,_F⟩;have HF6:=qH<|HF5.trans (rk.mono HF5.size);obtain⟨t0,t1,t2,t3⟩:=HZ u6 HF6));all_goals
     have _v:=qH<|(HU3.trans (HF6.mono HU3.size)).drew;have HE6:=qH<|HF6.drew;clear s0 s1 s2 s3;go_wp2_with fail;go_region_held(fun W=>W.cell? (az (An+1) 3)=some (Iq h)/\W.cell? (az (An+1) 2)=some (Iq w)/\W.cell? (az An 1)=some (Sq ab 12 12)/\W.cell? (az ab 4)=some (Iq a4)) (go_keep) (first
      |(go_at_call 116;refine am (AC _ _v) ?_;rintro e u7 ⟨p7,c7,rfl,Fq,_,_5⟩;have HF7:=qH<|HE6.trans (Fq.mono HE6.size);obtain⟨q0,q1,q2,q3⟩:=HZ u7 HF7)
      |(go_at_call 115;refine am _5 ?_;rintro e u8 ⟨v8,rfl,Vy,_G⟩;have Bm:=qH<|HF7.trans (Vy.mono HF7.size);obtain⟨x0,x1,x2,x3⟩:=HZ u8 Bm));all_goals go_wp2_with fail;go_meet;have hA:=aT H6.1 pF.size;have h6:=HF6.size;refine⟨pF.trans (Bm.mono pF.size),fun _=>⟨((((_F.mono hA).below (ag _ _).drew).below Fq).below Vy),_G.mono (aT hA h6)⟩⟩
   ·have e1:(kd==1)=false:=by simp;exact k1
    have Ns:=qH<|k1;clear k1 A0 A1;go_wp2_with fail;go_meet;exact⟨pF,fun q=>_E (q.resolve_right Ns)⟩
  case rest=>
   obtain⟨DZ,VH⟩:=hcut;obtain⟨W4,rfl⟩:=N7 wc;obtain⟨v1,rfl⟩:=N7 u10;obtain⟨v2,rfl⟩:=N7 u11;clear z0 z1 z2 z3 z4 z5 z6 z7 z8 y0 y4 y5 y6 A0 A1 _E pF HU3;have HG4:Hid (W2.grownBy W4 (some pb)):=ac DZ;have HR4:=qH<|rowIs_below HR2 DZ;go_wp2;go_loopw[12] (fun iv wr=>∃(j:Nat) (Q:Nat->Nat->Int),j<=m/\iv=Iq (j:Int)/\Hid (W4.grownBy wr (some pb))/\Hid (wr.rowIs pb 82 (L.length*10) (j6 Q))/\Hid (iZ L en Wd H aX off sn R0 R1 R2 R3 of rm P Q k j)) (fun iv _=>m-(intOf iv).toNat);case atStart=>exact⟨0,P,bc _,rfl,ac (ag _ _),HR4,_I⟩
   case round=>
    obtain⟨j,Q,hj,rfl,YN,RX,YP⟩:=hrel;have fU:=qH<|HG4.trans YN;obtain⟨⟨z0,z1,z2,z3,z4⟩,z5,z6,z7,z8⟩:=HCL wr fU;by_cases hlt:j<m
    ·have aK:(j:Int)<(m:Int):=by omega
     obtain⟨kb,ko,rfl,Cx⟩:=ya.resolve_left (by omega);have k0:=Cx wr fU j hlt;obtain⟨J4,OA⟩:=IC j hlt;have KD:=BR j hlt;have HST:=fi j hlt Q;have HH4:=Uj j hlt;have hH:=MG j hlt;have HKJ:Hid (kd=4->aP ks 0=aP ks j):=fun e=>by have:=Ni e;rw[show j=0 by omega]
     have YM:=x_.gb j (by omega);obtain⟨f0,QQ⟩:=aj (R0 j);obtain⟨f1,Ct⟩:=aj (R1 j);obtain⟨f2,hf2⟩:=aj (R2 j);obtain⟨f3,J6⟩:=aj (R3 j);obtain⟨gj,ZI⟩:=aj (G j);obtain⟨oj,XP⟩:=aj (cm G (cl a4) j);have xP:0<=oj/\oj<=100000000:=by rw[<-XP];have:=lG (n:=m) (g:=G) (fun i hi=>x_.gb i (by omega)) (dm a4) j (by omega);omega
     have Qj:Hid (kd=0\/kd=1->∃ob G4,v1=Sq ob m m/\v2=Sq G4 m m/\An<=ob/\An<=G4/\wr.cell? (az ob j)=some (Iq gj)/\wr.cell? (az G4 j)=some (Iq oj)):=fun q=>by obtain⟨i1,i2⟩:=VH q;obtain⟨ob,e1,b1,c1⟩:=(i1.gb YN H6.2) (by omega);obtain⟨G4,e2,b2,c2⟩:=(i2.gb YN H6.2) (by omega);exact⟨ob,G4,e1,e2,b1,b2,by rw[<-ZI];exact c1 j hlt,by rw[<-XP];exact c2 j hlt⟩
     have HK0:Hid (kd=0->x+oj=f0/\y=f1/\gj=f2/\h=f3):=fun e=>by have:=x_.r0 e j;rw[QQ,Ct,hf2,J6,XP,ZI]at this;omega
     have HK1:Hid (kd=1->x=f0/\y+oj=f1/\w=f2/\gj=f3):=fun e=>by have:=x_.r1 e j;rw[QQ,Ct,hf2,J6,XP,ZI]at this;omega
     have HK3:=qH<|fun e=>by have:=x_.r3 e j;rw[QQ,Ct,hf2,J6]at this;exact this
     have HKr:Hid (kd≠0->kd≠1->kd≠3->kd≠4->x=f0/\y=f1/\w=f2/\h=f3):=fun a b c d=>by have:=x_.rr a b c d j;rw[QQ,Ct,hf2,J6]at this;omega
     have IB:Hid (kd=4->(rm=dt (H (aP ks j) w) h/\of=min (max 0 o) rm)/\x=f0/\y-of=f1/\w=f2/\h+rm=f3):=fun e=>by obtain⟨q1,q2⟩:=x_.r4 e;rw[HKJ e]at q1;have:=q2 j;rw[QQ,Ct,hf2,J6]at this;exact⟨q1,by omega,by omega,by omega,by omega⟩
     have HQQ:Hid (kd≠4->∀i t,Q i t=if i=k/\t=8 then of else if i=k/\t=9 then rm else Q i t):=fun e i t=>by
      have h1:=VL e;have h2:=YP.sc;have h3:Q k 8=of/\Q k 9=rm:=by by_cases z:0<j;exact h2.1 z;have:=h2.2 (by omega);omega
      by_cases a:i=k/\t=8;·rw[if_pos a,a.1,a.2];exact h3.1
      ·rw[if_neg a];by_cases b:i=k/\t=9;·rw[if_pos b,b.1,b.2];exact h3.2
       ·rw[if_neg b]
     rw[QQ,Ct,hf2,J6]at HST;obtain⟨y4v,hy4⟩:=aj (H (aP ks j) w);obtain⟨cc,Gc⟩:=aj (aP ks j);rw[hy4]at HH4 hH IB;rw[Gc]at k0 J4 OA KD HST HH4;have HH4:=qH<|HH4;have HST:=qH<|HST;have KD:=qH<|KD;have zi8:(cc:Int)<(L.length:Int):=by omega
     -- the zfW Vp
     obtain⟨Aq,hAq⟩:=aj wr.heap.size;obtain⟨Wq,hWq⟩:=aj (wr.alloc (.cells #[Iq x,Iq y,Iq w,Iq h] 80));have IJ:Hid (R4 80 Wq Aq x y w h):=by rw[<-hWq,<-hAq];exact R4.new _ _ _ _ _ _
     have Qf:Hid (Bt wr Wq):=by rw[<-hWq];exact((Gr.refl wr).alloc _).below
     have ZT:pb<Aq:=by rw[<-hAq];exact RX.lt
     have zio:An+1<Aq:=by rw[<-hAq];exact ln wr _ z5
     have ziT:ab<Aq:=by rw[<-hAq];exact ln wr _ (gd wr fU).1
     have Vx:=qH<|hAq;have Uv:Hid (∀u,Bt Wq u->u.rowIs pb 82 (L.length*10) (j6 Q)):=fun u hu=>rowIs_below (rowIs_below RX Qf) hu;have xZ:Hid (∀u,Bt Wq u->wr.grownBy u (some pb)):=fun u hu=>ac (Qf.trans (hu.mono Qf.size));have Fw:=qH<|fun u hu=>fU.trans (xZ u hu);have Y1:Hid (∀u,Bt Wq u->R4 80 u Aq x y w h):=fun u hu=>(hu.block Aq IJ.lt).trans IJ;have HX:Hid (∀u Q1 q0 q1 q2 q3,wr.grownBy u (some pb)->u.rowIs pb 82 (L.length*10) (j6 Q1)->R4 80 u Aq q0 q1 q2 q3->∀a b c d:Int,wr.grownBy ((((u.setCell (az Aq 0) (Iq a)).setCell (az Aq 1) (Iq b)).setCell (az Aq 2) (Iq c)).setCell (az Aq 3) (Iq d)) (some pb)/\R4 80 ((((u.setCell (az Aq 0) (Iq a)).setCell (az Aq 1) (Iq b)).setCell (az Aq 2) (Iq c)).setCell (az Aq 3) (Iq d)) Aq a b c d/\((((u.setCell (az Aq 0) (Iq a)).setCell (az Aq 1) (Iq b)).setCell (az Aq 2) (Iq c)).setCell (az Aq 3) (Iq d)).rowIs pb 82 (L.length*10) (j6 Q1)):=fun u Q1 q0 q1 q2 q3 hg hr h4 a b c d=>by have hA:=Vx.out;refine⟨eG (eG (eG (eG hg (a:=(az Aq 0)) (by show wr.heap.size<=Aq;omega) _) (a:=(az Aq 1)) (by show wr.heap.size<=Aq;omega) _) (a:=(az Aq 2)) (by show wr.heap.size<=Aq;omega) _) (a:=(az Aq 3)) (by show wr.heap.size<=Aq;omega) _,h4.set a b c d,?_⟩;refine hr.of_block ?_;rw[cF _ (az Aq 3) _ pb (by show pb≠Aq;omega),cF _ (az Aq 2) _ pb (by show pb≠Aq;omega),cF _ (az Aq 1) _ pb (by show pb≠Aq;omega),cF _ (az Aq 0) _ pb (by show pb≠Aq;omega)]
     clear Cx QQ Ct hf2 J6 ZI XP fi Uj MG x_ BR VH HKJ hy4 Gc;obtain⟨⟨p0,p1,p2,p3,p4⟩,p5,p6,p7,p8⟩:=HCL Wq (Fw Wq (ag _ _));obtain⟨y0,ya4,ya5,ya6⟩:=gd Wq (Fw Wq (ag _ _));go_upto_block 2 with fail;clear z0 z1 z2 z3 z4 z5 z6 z7 z8 k0 hWq hAq;go_cut[15,16]from 91 to 181 (fun _ _ wx=>∃Q1,Hid (wr.grownBy wx (some pb))/\Hid (R4 80 wx Aq f0 f1 f2 f3)/\Hid (wx.rowIs pb 82 (L.length*10) (j6 Q1))/\Hid (∀i t,Q1 i t=if i=k/\t=8 then of else if i=k/\t=9 then rm else Q i t));case first=>
      have q0:=IJ.c0;have q1:=IJ.c1;have q2:=IJ.c2;have q3:=IJ.c3;have qf:=IJ.fz;have n1:¬Aq=An+1:=by omega
      have n2:¬Aq=An:=by omega
      have n3:¬Aq=ab:=by omega
      have n4:¬Aq=pb:=by omega
      by_cases k0:kd=0
      ·have e0:(kd==0)=true:=by rw[k0];rfl
       obtain⟨ob,G4,zl,CZ,b1,b2,TQ,TR⟩:=Qj (.inl k0);have o1:=aN Qf TQ;have o2:=aN Qf TR;have n5:¬Aq=ob:=by have:ob<_:=ln wr _ TQ;have:=Vx.out;omega
       have n6:¬Aq=G4:=by have:G4<_:=ln wr _ TR;have:=Vx.out;omega
       have HF:=qH<|HK0 k0;have Nu:=qH<|HQQ (by omega);have wv:IntKind.i64.wrap (x+oj)=x+oj:=IntWalk.i64_in _ ⟨by omega,by omega⟩;subst zl CZ;clear k0 Qj HK0 HK1 HK3 IB HKr HQQ TQ TR hb0 hb1 hb2 uG;go_wp2_with fail;go_region_held(fun W=>W.cell? (az (An+1) 0)=some (Iq x)/\W.cell? (az (An+1) 1)=some (Iq y)/\W.cell? (az (An+1) 3)=some (Iq h)/\W.cell? (az ob j)=some (Iq gj)/\W.cell? (az G4 j)=some (Iq oj)) (go_keep) (fail);all_goals go_wp2_with fail;go_meet;obtain⟨g1,g2,g3⟩:=HX Wq Q x y w h (xZ Wq (ag _ _)) (Uv Wq (ag _ _)) IJ (x+oj) y gj h;obtain⟨w0,w1,w2,w3⟩:=HF.out;refine⟨Q,gx g1,?_,g3,Nu⟩;rw[<-w0,<-w1,<-w2,<-w3];exact g2
      ·have e0:(kd==0)=false:=by simp;exact k0
       by_cases k1:kd=1
       ·have e1:(kd==1)=true:=by rw[k1];rfl
        clear k0;obtain⟨ob,G4,zl,CZ,b1,b2,TQ,TR⟩:=Qj (.inr k1);have o1:=aN Qf TQ;have o2:=aN Qf TR;have n5:¬Aq=ob:=by have:ob<_:=ln wr _ TQ;have:=Vx.out;omega
        have n6:¬Aq=G4:=by have:G4<_:=ln wr _ TR;have:=Vx.out;omega
        have HF:=qH<|HK1 k1;have Nu:=qH<|HQQ (by omega);have wv:IntKind.i64.wrap (y+oj)=y+oj:=IntWalk.i64_in _ ⟨by omega,by omega⟩;subst zl CZ;clear k1 Qj HK0 HK1 HK3 IB HKr HQQ TQ TR hb0 hb1 hb2 uG;go_wp2_with fail;go_region_held(fun W=>W.cell? (az (An+1) 0)=some (Iq x)/\W.cell? (az (An+1) 1)=some (Iq y)/\W.cell? (az (An+1) 2)=some (Iq w)/\W.cell? (az ob j)=some (Iq gj)/\W.cell? (az G4 j)=some (Iq oj)) (go_keep) (fail);all_goals go_wp2_with fail;go_meet;obtain⟨g1,g2,g3⟩:=HX Wq Q x y w h (xZ Wq (ag _ _)) (Uv Wq (ag _ _)) IJ x (y+oj) w gj;obtain⟨w0,w1,w2,w3⟩:=HF.out;refine⟨Q,gx g1,?_,g3,Nu⟩;rw[<-w0,<-w1,<-w2,<-w3];exact g2
       ·have e1:(kd==1)=false:=by simp;exact k1
        by_cases k3:kd=3
        ·have e3:(kd==3)=true:=by rw[k3];rfl
         clear k0 k1;have HF:=qH<|HK3 k3;have Nu:=qH<|HQQ (by omega);have FR:Hid (∀u,Bt Wq u->Cw 118 #[.agg #[Iq kd,Sq ab 12 12,.string ⟨tx.toArray⟩,.slice (some (az kb ko)) m kc,Iq up]] u fun e w'=>e=Rw (Iq (a6+a5))/\Hid (Bt u w')):=fun u hu=>mP kd ab ⟨tx.toArray⟩ _ up a5 a6 u (aN hu ya5) (aN hu ya6) (by omega) (by omega);have IN:Hid (∀u,Cw 117 #[.agg #[Iq x,Iq y,Iq w,Iq h],Iq (a6+a5)] u fun e w'=>e=Rw (.agg #[Iq f0,Iq f1,Iq f2,Iq f3])/\Hid (Bt u w')):=fun u=>(Du x y w h (a6+a5) u).mono fun e w' q=>⟨by rw[q.1,HF.out];rfl,q.2.below⟩;have HZ:Hid (∀u,Bt Wq u->((u.cell? (az An 0)=some (Iq kd)/\u.cell? (az An 1)=some (Sq ab 12 12)/\u.cell? (az An 2)=some (.string ⟨tx.toArray⟩)/\u.cell? (az An 3)=some (.slice (some (az kb ko)) m kc)/\u.cell? (az An 4)=some (Iq up))/\u.cell? (az (An+1) 0)=some (Iq x)/\u.cell? (az (An+1) 1)=some (Iq y)/\u.cell? (az (An+1) 2)=some (Iq w)/\u.cell? (az (An+1) 3)=some (Iq h))/\R4 80 u Aq x y w h):=fun u hu=>⟨HCL u (Fw u hu),Y1 u hu⟩;have HE:Hid (Bt Wq Wq.drew):=(ag _ _).drew;clear k3 Qj HK0 HK1 HK3 IB HKr HQQ;go_wp2_with fail;go_region_held(fun W=>(W.cell? (az An 0)=some (Iq kd)/\W.cell? (az An 1)=some (Sq ab 12 12)/\W.cell? (az An 2)=some (.string ⟨tx.toArray⟩)/\W.cell? (az An 3)=some (.slice (some (az kb ko)) m kc)/\W.cell? (az An 4)=some (Iq up))/\W.cell? (az (An+1) 0)=some (Iq x)/\W.cell? (az (An+1) 1)=some (Iq y)/\W.cell? (az (An+1) 2)=some (Iq w)/\W.cell? (az (An+1) 3)=some (Iq h)) (go_keep) (first
          |(go_at_call 118;refine am (FR _ HE) ?_;rintro e u5 ⟨rfl,kg⟩;have HF5:=qH<|HE.trans (kg.mono HE.size);obtain⟨⟨⟨s0,s1,s2,s3,s4⟩,s5,s6,s7,s8⟩,s9⟩:=HZ u5 HF5;clear s9)
          |(go_at_call 117;refine am (IN _) ?_;rintro e u6 ⟨rfl,rk⟩;have HF6:=qH<|HF5.trans (rk.mono HF5.size);obtain⟨⟨⟨t0,t1,t2,t3,t4⟩,t5,t6,t7,t8⟩,t9⟩:=HZ u6 HF6;have tq0:=t9.c0;have tq1:=t9.c1;have tq2:=t9.c2;have tq3:=t9.c3;have tqf:=t9.fz;clear t9));all_goals go_wp2_with fail;go_meet;obtain⟨g1,g2,g3⟩:=HX u6 Q x y w h (xZ u6 HF6) (Uv u6 HF6) (Y1 u6 HF6) f0 f1 f2 f3;exact⟨Q,g1,g2,g3,Nu⟩
        ·have e3:(kd==3)=false:=by simp;exact k3
         by_cases k4:kd=4
         ·have e4:(kd==4)=true:=by rw[k4];rfl
          obtain⟨⟨CU,OO⟩,w0,w1,w2,w3⟩:=IB k4;have m1:max h y4v=f3:=by unfold dt at CU;omega
          have m2:max 0 (min o rm)=of:=by omega
          have ziY:=uG;have GEH:Hid (∀u,Cw 119 #[Iq h,Iq y4v] u fun e w'=>e=Rw (Iq f3)/\w'=u):=fun u=>by rw[<-m1];exact greatest_any h y4v u
          obtain⟨lo,mX⟩:=aj (min o rm);have LEO:Hid (∀u,Cw 122 #[Iq o,Iq rm] u fun e w'=>e=Rw (Iq lo)/\w'=u):=fun u=>by rw[<-mX];exact least_any o rm u
          have GEO:Hid (∀u,Cw 119 #[Iq 0,Iq lo] u fun e w'=>e=Rw (Iq of)/\w'=u):=fun u=>by rw[<-m2,mX];exact greatest_any 0 lo u
          have HD:Hid (Bt U0 Wq.drew):=(Ix Wq (Fw Wq (ag _ _))).drew;have HE:Hid (Bt Wq Wq.drew):=(ag _ _).drew;have HF:=qH<|And.intro w0 (And.intro w1 w2);have J6:0<=f3/\f3<=100000:=by omega
          have dr:f3-h=rm:=by omega
          have wv:IntKind.i64.wrap (y-of)=y-of:=IntWalk.i64_in _ ⟨by omega,by omega⟩;have HQP:Hid (∀i t,bj (bj Q k 9 rm) k 8 of i t=if i=k/\t=8 then of else if i=k/\t=9 then rm else Q i t):=fun i t=>rfl;clear k0 k1 k3 k4 CU OO w0 w1 w2 w3 m1 m2 mX Qj HK0 HK1 HK3 IB HKr HQQ;go_wp2_with fail;go_region_held(fun W=>W.cell? (az (An+1) 3)=some (Iq h)/\W.cell? (az (An+1) 2)=some (Iq w)) (go_keep) (first
           |(go_at_call 120;refine am (HH4 _ HD) ?_;rintro e u5 ⟨rfl,kg⟩;have HF5:Hid (Bt Wq u5):=HE.trans (kg.mono HE.size);obtain⟨_,s5,s6,s7,s8⟩:=HCL u5 (Fw u5 HF5))
           |(go_at_call 119;refine am (GEH _) ?_;rintro e u6 ⟨rfl,h6⟩;obtain rfl:=h6.symm));all_goals
           have Xa:=Uv u5 HF5;have c9:=aW Xa hk (t:=9) (by omega);have cf:=Xa.frozen;have sa:=Xa.lt;obtain⟨w6,M9⟩:=aj (u5.setCell (az pb (k*10+9)) (Iq rm));have Uh:Hid (wr.grownBy w6 (some pb)):=by rw[<-M9];exact ji (xZ u5 HF5) _
           have H_:Hid (w6.rowIs pb 82 (L.length*10) (j6 (bj Q k 9 rm))):=by rw[<-M9];exact dB Xa k 9 (by omega) rm
           have Ur:Hid (R4 80 w6 Aq x y w h):=by rw[<-M9];exact(Y1 u5 HF5).other (by omega) _
           have OF2:=qH<|OF w6 (Ix w6 (fU.trans Uh));obtain⟨⟨_,x1,_,_,_⟩,x5,x6,x7,x8⟩:=HCL w6 (fU.trans Uh);have x0:=(gd w6 (fU.trans Uh)).1;have c8:=aW H_ hk (t:=8) (by omega);have cf6:=H_.frozen;have Ve:=H_.lt;obtain⟨w7,X9⟩:=aj (w6.setCell (az pb (k*10+8)) (Iq of));have MF:Hid (wr.grownBy w7 (some pb)):=by rw[<-X9];exact ji Uh _
           have Qn:Hid (w7.rowIs pb 82 (L.length*10) (j6 (bj (bj Q k 9 rm) k 8 of))):=by rw[<-X9];exact dB H_ k 8 (by omega) of
           have Us:Hid (R4 80 w7 Aq x y w h):=by rw[<-X9];exact Ur.other (by omega) _
           obtain⟨_,v5,v6,v7,v8⟩:=HCL w7 (fU.trans MF);have v9:w7.cell? (az pb (k*10+8))=some (Iq of):=by have:=aW Qn hk (t:=8) (by omega);simpa[bj]using this
           have vq0:=Us.c0;have vq1:=Us.c1;have vq2:=Us.c2;have vq3:=Us.c3;have vqf:=Us.fz;clear Xa;go_wp2_with(first
            |(go_at_call 121;refine am OF2 ?_;rintro e u8 ⟨rfl,h8⟩;obtain rfl:=h8.symm)
            |(go_at_call 122;refine am (LEO _) ?_;rintro e u8 ⟨rfl,h8⟩;obtain rfl:=h8.symm)
            |(go_at_call 119;refine am (GEO _) ?_;rintro e u8 ⟨rfl,h8⟩;obtain rfl:=h8.symm));go_region_held(fun W=>W.cell? (az (An+1) 0)=some (Iq x)/\W.cell? (az (An+1) 1)=some (Iq y)/\W.cell? (az (An+1) 2)=some (Iq w)/\W.cell? (az pb (k*10+8))=some (Iq of)) (go_keep) (fail);all_goals go_wp2_with fail;go_meet;obtain⟨g1,g2,g3⟩:=HX w7 _ x y w h MF Qn Us x (y-of) w f3;obtain⟨r0,r1,r2⟩:=HF.out;refine⟨_,gx g1,?_,g3,HQP⟩;rw[<-r0,<-r1,<-r2];exact g2
         ·have e4:(kd==4)=false:=by simp;exact k4
          have HF:=qH<|HKr k0 k1 k3 k4;have Nu:=qH<|HQQ k4;clear k0 k1 k3 k4 Qj HK0 HK1 HK3 IB HKr HQQ;go_wp2_with fail;go_meet;obtain⟨w0,w1,w2,w3⟩:=HF.out;refine⟨Q,xZ Wq (ag _ _),?_,Uv Wq (ag _ _),Nu⟩;rw[<-w0,<-w1,<-w2,<-w3];exact IJ
     case rest=>
      obtain⟨Q1,VG,VS,xI,HQe⟩:=hcut;obtain⟨W5,rfl⟩:=N7 wc;clear p0 p1 p2 p3 p4 p5 p6 p7 p8 y0 ya4 ya5 ya6 Qj HK0 HK1 HK3 IB HKr HQQ HX Y1 Uv xZ Fw Qf IJ HH4;have q0:=VS.c0;have q1:=VS.c1;have q2:=VS.c2;have q3:=VS.c3;have n4:¬pb=Aq:=by omega
      have n5:¬Aq=pb:=by omega
      have zjz:k≠cc:=by omega
      obtain⟨c4,ZD⟩:=aj (Q k 4);obtain⟨c5,hc5⟩:=aj (Q k 5);obtain⟨c6,hc6⟩:=aj (Q k 6);obtain⟨c7,hc7⟩:=aj (Q k 7);obtain⟨d0,Cq⟩:=aj (Jr f0 f1 f2 f3 c4 c5 c6 c7);obtain⟨d1,BB⟩:=aj (Js f0 f1 f2 f3 c4 c5 c6 c7);obtain⟨d2,SV⟩:=aj (Jt f0 f1 f2 f3 c4 c5 c6 c7);obtain⟨d3,Xl⟩:=aj (Ju f0 f1 f2 f3 c4 c5 c6 c7);have CP:Hid (∀u,Cw 123 #[.agg #[Iq f0,Iq f1,Iq f2,Iq f3],.agg #[Iq c4,Iq c5,Iq c6,Iq c7]] u fun e w'=>e=Rw (.agg #[Iq d0,Iq d1,Iq d2,Iq d3])/\Hid (Bt u w')):=fun u=>(Lo f0 f1 f2 f3 c4 c5 c6 c7 u).mono fun e w' q=>⟨by rw[q.1,uz,Cq,BB,SV,Xl];rfl,q.2.below⟩;obtain⟨Q3,W_⟩:=aj (bj (bj (bj (bj (bj (bj (bj (bj Q1 cc 0 f0) cc 1 f1) cc 2 f2) cc 3 f3) cc 4 d0) cc 5 d1) cc 6 d2) cc 7 d3);have _9:Hid (∀i t,Q3 i t=kQ Q k cc f0 f1 f2 f3 of rm i t):=fun i t=>by have:=zdg Q1 cc (uY Q k f0 f1 f2 f3) i t;rw[<-W_];unfold kQ;rw[<-HQe i t,<-this];unfold uY;simp only[ZD,hc5,hc6,hc7,Cq,BB,SV,Xl];rfl
      obtain⟨W6,Zx⟩:=aj ((((W5.setCell (az pb (cc*10)) (Iq f0)).setCell (az pb (cc*10+1)) (Iq f1)).setCell (az pb (cc*10+2)) (Iq f2)).setCell (az pb (cc*10+3)) (Iq f3));have H_:Hid (W6.rowIs pb 82 (L.length*10) (j6 (bj (bj (bj (bj Q1 cc 0 f0) cc 1 f1) cc 2 f2) cc 3 f3))):=by rw[<-Zx];exact dB (dB (dB (dB xI cc 0 (by omega) f0) cc 1 (by omega) f1) cc 2 (by omega) f2) cc 3 (by omega) f3
      have Uh:Hid (wr.grownBy W6 (some pb)):=by rw[<-Zx];exact ji (ji (ji (ji VG _) _) _) _
      have Ur:Hid (R4 80 W6 Aq f0 f1 f2 f3):=by rw[<-Zx];exact(((VS.other n5 _).other n5 _).other n5 _).other n5 _
      have r0:=Ur.c0;have r1:=Ur.c1;have r2:=Ur.c2;have r3:=Ur.c3;have PC:∀t c,4<=t->t<8->Q k t=c->W6.cell? (az pb (k*10+t))=some (Iq c):=fun t c h1 h2 h3=>by
       have:=aW H_ hk (t:=t) (by omega);rw[this];have e:bj (bj (bj (bj Q1 cc 0 f0) cc 1 f1) cc 2 f2) cc 3 f3 k t=c:=by unfold bj;rw[if_neg (by omega),if_neg (by omega),if_neg (by omega),if_neg (by omega),HQe.out,if_neg (by omega),if_neg (by omega),h3]
       rw[e]
      have r4:=PC 4 c4 (by omega) (by omega) ZD;have r5:=PC 5 c5 (by omega) (by omega) hc5;have r6:=PC 6 c6 (by omega) (by omega) hc6;have r7:=PC 7 c7 (by omega) (by omega) hc7;have m0:=aW xI OA (t:=0) (by omega);have m1:=aW xI OA (t:=1) (by omega);have m2:=aW xI OA (t:=2) (by omega);have m3:=aW xI OA (t:=3) (by omega);rw[Fa]at m0;have mf:=xI.frozen;have ml:=xI.lt;have HM:Hid (∀u,Bt W6 u->(∀o',u.frozen? (az pb o')=false)/\pb<u.heap.size/\(∃v,u.cell? (az pb (cc*10+4))=some v)/\(∃v,u.cell? (az pb (cc*10+5))=some v)/\(∃v,u.cell? (az pb (cc*10+6))=some v)/\∃v,u.cell? (az pb (cc*10+7))=some v):=fun u hu=>by have hr:=rowIs_below H_ hu;exact⟨hr.frozen,hr.lt,⟨_,aW hr OA (by omega)⟩,⟨_,aW hr OA (by omega)⟩,⟨_,aW hr OA (by omega)⟩,⟨_,aW hr OA (by omega)⟩⟩
      have LAY:Hid (∀u,Bt W6 u->Cw 63 #[Sq g L.length al,Sq pb L.length pc,Iq (cc:Int),.slice sp sn sc] ((((u.setCell (az pb (cc*10+4)) (Iq d0)).setCell (az pb (cc*10+5)) (Iq d1)).setCell (az pb (cc*10+6)) (Iq d2)).setCell (az pb (cc*10+7)) (Iq d3)) fun e u'=>e=Rw (.tuple #[])/\∃Q',Hid (W4.grownBy u' (some pb))/\Hid (u'.rowIs pb 82 (L.length*10) (j6 Q'))/\Hid (iZ L en Wd H aX off sn R0 R1 R2 R3 of rm P Q' k (j+1))):=fun u hu=>by
       have hr:((((u.setCell (az pb (cc*10+4)) (Iq d0)).setCell (az pb (cc*10+5)) (Iq d1)).setCell (az pb (cc*10+6)) (Iq d2)).setCell (az pb (cc*10+7)) (Iq d3)).rowIs pb 82 (L.length*10) (j6 Q3):=by rw[<-W_];exact dB (dB (dB (dB (rowIs_below H_ hu) cc 4 (by omega) d0) cc 5 (by omega) d1) cc 6 (by omega) d2) cc 7 (by omega) d3
       have hg:wr.grownBy ((((u.setCell (az pb (cc*10+4)) (Iq d0)).setCell (az pb (cc*10+5)) (Iq d1)).setCell (az pb (cc*10+6)) (Iq d2)).setCell (az pb (cc*10+7)) (Iq d3)) (some pb):=ji (ji (ji (ji (Uh.trans (ac hu)) _) _) _) _;have OG:=YN.trans hg;refine(KD Q3 _ (Ix _ (fU.trans hg)) hr (HST Q3 Q3 YP _9).1).mono ?_;rintro e u' ⟨rfl,z⟩;obtain⟨z1,Q',z2,z3⟩:=z.out;exact⟨rfl,Q',OG.trans z1,z2,(HST Q3 Q' YP _9).2 z3⟩
      have zaB:Hid (∀u,Bt W6 u->Cw 63 #[Sq g L.length al,Sq pb L.length pc,Iq (cc:Int),.slice sp sn sc] ((((u.setCell (az pb (cc*10+4)) (Iq d0)).setCell (az pb (cc*10+5)) (Iq d1)).setCell (az pb (cc*10+6)) (Iq d2)).setCell (az pb (cc*10+7)) (Iq d3)) fun e u'=>e=Rw (.tuple #[])/\∃Q',Hid (W4.grownBy u' (some pb))/\Hid (u'.rowIs pb 82 (L.length*10) (j6 Q'))/\Hid (iZ L en Wd H aX off sn R0 R1 R2 R3 of rm P Q' k (j+1))):=LAY.out;have HE:Hid (Bt W6 W6.drew):=(ag _ _).drew;clear PC ZD hc5 hc6 hc7 Cq BB SV Xl W_ HST KD zaB;go_wp2_with fail;clear m0 m1 m2 m3 mf ml q0 q1 q2 q3 Zx;go_region_with(go_at_call 123;refine am (CP _) ?_;rintro e u7 ⟨rfl,Fq⟩;have HF7:Hid (Bt W6 u7):=HE.trans (Fq.mono HE.size);obtain⟨i0,i1,⟨i2,i3⟩,⟨i4,i5⟩,⟨i6,i7⟩,i8,i9⟩:=HM u7 HF7);all_goals
       go_wp2_with(go_at_call 63;refine am (LAY u7 HF7) ?_;rintro e u9 ⟨rfl,Q',HG9,HR9,HI9⟩);go_roundw;case rel=>exact⟨j+1,Q',by omega,by go_num,HG9,HR9,HI9⟩
       case measure=>simp[intOf];omega
    ·have aK:¬(j:Int)<(m:Int):=by omega
     obtain rfl:j=m:=by omega
     go_wp2;go_end0;exact⟨rfl,BN _ fU,Q,RX,gT Q YP⟩
theorem EL{s}{L}{Wd}{H}(hT:dk s L)(hZ:Sz L Wd H){en}(he:En L en)  g al pb pc   sp   sn sc   aX off   U0  (hN:ip U0 g L.length (ae L)) (hsc:pH U0 sp sn aX off) (EG:sn<=4611686018427387904) (j5:U0.heap.size<=pb):∀f k,L.length<=k+f->k<L.length->∀P U,Bt U0 U->U.rowIs pb 82 (L.length*10) (j6 P)->rp en P k->
 Cw 63 #[Sq g L.length al,Sq pb L.length pc,Iq (k:Int),.slice sp sn sc] U fun e U'=>e=Rw (.tuple #[])/\Hid (IU L en Wd H aX off sn pb P k U U')
 |0,k,h1,h2,P,U,hU,hR,hP=>by omega
 |f+1,k,h1,h2,P,U,hU,hR,hP=>KM hT hZ he g al pb pc sp sn sc aX off U0 hN hsc EG j5 k h2 P U hU hR hP fun j hj Q u hu hr hp=>by have:=de hT h2 hj;exact EL hT hZ he g al pb pc sp sn sc aX off U0 hN hsc EG j5 f _ (by omega) this.2 Q u hu hr hp
theorem O2:(prog.info? 82).map (fun i=>(i.zero,i.size,i.bytes))=some (some (.agg #[Iq 0,Iq 0,Iq 0,Iq 0,Iq 0,Iq 0,Iq 0,Iq 0,Iq 0,Iq 0]),10,80):=by kernel_rfl
def BS(U U':World)(L:List Nd)(Wd:Nat->Int)(H:Nat->Int->Int)(w h:Int)(aX off:Nat->Int)(sn pb:Nat):Prop:=Bt U U'/\∃P,U'.rowIs pb 82 (L.length*10) (j6 P)/\dV L Wd H w h aX off sn P L.length
theorem Ai{s:ByteArray}{L:List Nd}{Wd:Nat->Int}{H:Nat->Int->Int}(hT:dk s L)(hZ:Sz L Wd H)(g al:Nat)(sp:Option Addr)(sn sc:Nat)(aX off:Nat->Int)(w h:Int)(U:World)(hN:ip U g L.length (ae L))(hsc:pH U sp sn aX off)(EG:sn<=4611686018427387904)(hw:1<=w/\w<=400)(hh:1<=h/\h<=400):
 Cw 39 #[Sq g L.length al,Iq w,Iq h,.slice sp sn sc] U fun e U'=>∃pb,e=Rw (Sq pb L.length L.length)/\Hid (BS U U' L Wd H w h aX off sn pb):=by
 have dL:=hT.pos;have hc:=hT.vl.cnt;obtain⟨i0,hi,eK,fZ,iD⟩:=info_parts O2;obtain⟨N,hNe⟩:=aj L.length;have gR:∀W:World,(Instr.makeSlice 77 (Iq (N:Int)) (Iq (N:Int))).run prog W=.ok (Sq W.heap.size N N) (W.alloc (.cells (madeCells #[Iq 0,Iq 0,Iq 0,Iq 0,Iq 0,Iq 0,Iq 0,Iq 0,Iq 0,Iq 0] (N*10)) 82)):=fun W=>by have:=run_make (P:=prog) W 77 82 i0 _ underlying77 hi eK .i64 .i64 N N (by omega) (jL _) (by grind) (by omega);rw[fZ,oy]at this;exact this
 clear hi eK fZ iD;obtain⟨en,he⟩:=WB hT;obtain⟨pb,j5⟩:=aj U.heap.size;obtain⟨W1,cE⟩:=aj (U.alloc (.cells (madeCells #[Iq 0,Iq 0,Iq 0,Iq 0,Iq 0,Iq 0,Iq 0,Iq 0,Iq 0,Iq 0] (N*10)) 82));have hr1:W1.rowIs pb 82 (N*10) (j6 fun _ _=>0):=by have:=pZ U N 82;rw[j5,cE]at this;exact this
 have hb1:Bt U W1:=by rw[<-cE];exact((Gr.refl U).alloc _).below
 obtain⟨W2,Ig⟩:=aj ((((((((((W1.setCell (az pb 0) (Iq 0)).setCell (az pb 1) (Iq 0)).setCell (az pb 2) (Iq w)).setCell (az pb 3) (Iq h)).setCell (az pb 4) (Iq 0)).setCell (az pb 5) (Iq 0)).setCell (az pb 6) (Iq w)).setCell (az pb 7) (Iq h)).setCell (az pb 8) (Iq 0)).setCell (az pb 9) (Iq 0));obtain⟨P,hP⟩:=aj (bj (bj (bj (bj (bj (bj (bj (bj (bj (bj (fun _ _=>0) 0 0 0) 0 1 0) 0 2 w) 0 3 h) 0 4 0) 0 5 0) 0 6 w) 0 7 h) 0 8 0) 0 9 0);have hr2:W2.rowIs pb 82 (N*10) (j6 P):=by rw[<-Ig,<-hP];exact dB (dB (dB (dB (dB (dB (dB (dB (dB (dB hr1 0 0 (by omega) 0) 0 1 (by omega) 0) 0 2 (by omega) w) 0 3 (by omega) h) 0 4 (by omega) 0) 0 5 (by omega) 0) 0 6 (by omega) w) 0 7 (by omega) h) 0 8 (by omega) 0) 0 9 (by omega) 0
 have hb2:Bt U W2:=by rw[<-Ig];have k:∀{X:World} {o:Nat} {v:Value},Bt U X->Bt U (X.setCell (az pb o) v):=fun hX=>hX.setCell (by grind) _;exact k (k (k (k (k (k (k (k (k (k hb1)))))))))
 have pz:∀i,P i 8=0/\P i 9=0:=fun i=>by rw[<-hP];simp_all[bj]
 have p0:P 0 0=0/\P 0 1=0/\P 0 2=w/\P 0 3=h/\P 0 4=0/\P 0 5=0/\P 0 6=w/\P 0 7=h:=by rw[<-hP];refine⟨rfl,rfl,rfl,rfl,rfl,rfl,rfl,rfl⟩
 have gV:rp en P 0:=⟨by omega,by omega,by omega,by omega,fun i _ _=>pz i⟩;have e0:en 0=L.length:=by
  have h1:=he.le 0 dL;have h2:∀n i,i<n->i<L.length->i<en 0:=fun n=>by
   induction n with
   |zero=>omega
   |succ n ih=>
    intro i _ hi;by_cases q:i=0;·rw[q];exact he.lt 0 dL
    ·obtain⟨u,k,hu,hk,J4,_⟩:=hT.kid_of i (by omega) hi;have q1:=ih u (by omega) (by omega);have q2:=he.sub 0 u dL (bc _) q1;have q3:=he.kid u k (by omega) hk;have q4:=he.st_mono hT (k:=u) (by omega) hk;have q5:=he.st_end hT (k:=u) (by omega) (j:=k+1) (by omega);omega
  have h3:=h2 L.length (L.length-1) (by omega) (by omega);omega
 have LY:Hid (Cw 63 #[Sq g N al,Sq pb N N,Iq 0,.slice sp sn sc] W2 fun e u'=>e=Rw (.tuple #[])/\Hid (BS U u' L Wd H w h aX off sn pb)):=by rw[<-hNe];rw[<-hNe]at hr2;refine(EL hT hZ he g al pb L.length sp sn sc aX off U hN hsc EG (by omega) L.length 0 (by omega) dL P W2 hb2 hr2 gV).mono ?_;rintro e u' ⟨rfl,z⟩;obtain⟨z1,Q,z2,z3,z4,z5⟩:=z.out;refine⟨rfl,yH hb2 z1 (by omega),Q,z2,dV.all hT hZ hw hh ?_ fun i hi=>z3 i (bc _) (by omega)⟩;rw[z5 0 (by omega),z5 1 (by omega),z5 2 (by omega),z5 3 (by omega),z5 4 (by omega),z5 5 (by omega),z5 6 (by omega),z5 7 (by omega)];exact p0
 have d0:W1.cell? (az pb 0)=some (Iq 0):=hr1.cell (by omega);have d1:W1.cell? (az pb 1)=some (Iq 0):=hr1.cell (by omega);have d2:W1.cell? (az pb 2)=some (Iq 0):=hr1.cell (by omega);have d3:W1.cell? (az pb 3)=some (Iq 0):=hr1.cell (by omega);have d4:W1.cell? (az pb 4)=some (Iq 0):=hr1.cell (by omega);have d5:W1.cell? (az pb 5)=some (Iq 0):=hr1.cell (by omega);have d6:W1.cell? (az pb 6)=some (Iq 0):=hr1.cell (by omega);have d7:W1.cell? (az pb 7)=some (Iq 0):=hr1.cell (by omega);have d8:W1.cell? (az pb 8)=some (Iq 0):=hr1.cell (by omega);have d9:W1.cell? (az pb 9)=some (Iq 0):=hr1.cell (by omega);have df:=hr1.frozen;have dl:=hr1.lt;have XT:(0:Int)<(N:Int):=by omega
 have HNe:=qH<|hNe;rw[hNe];clear hr1 hr2 hb1 hb2 hP pz p0 gV e0 hN hsc hT hZ he hNe;go_enter func39,ntmps39;go_wp2_with(go_at_call 63;refine am LY ?_;rintro e u9 ⟨rfl,HO⟩);go_ret;simp_all
