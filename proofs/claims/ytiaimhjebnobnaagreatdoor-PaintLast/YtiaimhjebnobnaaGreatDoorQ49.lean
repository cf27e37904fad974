import Derived.Test.YtiaimhjebnobnaaGreatDoorQ48
set_option linter.all false
set_option maxRecDepth 100000
set_option maxHeartbeats 16000000
namespace Go.Proofs.YtiaimhjebnobnaaGreatDoor
open Go.RowKit Go.Sort Go.Proofs.Tryz
theorem C6{U0 U U'}{pb}(h:Bt U0 U)(hg:U.grownBy U' (some pb))(hp:U0.heap.size<=pb):Bt U0 U':=h.grown hg h.size (fun q e=>by grind)
theorem kz{W W':World}{pb o}(h:W.grownBy W' (some pb))  v  :W.grownBy (W'.setCell (az pb o) v) (some pb):=
 ⟨h.os,h.tape,h.output,by simpa[World.setCell]using h.size,fun b hb hn=>(cF W' (az pb o) v b (fun e=>hn (by rw[e]))).trans (h.block b hb hn)⟩
theorem nu{W W':World}{pb b}(h:W.grownBy W' (some pb))(hb:b≠pb){o}{v}(hc:W.cell? (az b o)=some v):W'.cell? (az b o)=some v:=h.cell hc (by grind)
theorem IV.gb{W W'}{pb B m}{G}{v}(h:IV W B m G v)(hg:W.grownBy W' (some pb))(hB:pb<B):IV W' B m G v:=fun a=>by obtain⟨ob,e,b,c⟩:=h a;exact⟨ob,e,b,fun i hi=>nu hg (by omega) (c i hi)⟩
def Nx(L:List Nd)(en:Nat->Nat)(Wd:Nat->Int)(H:Nat->Int->Int)(bi off:Nat->Int)(sn pb:Nat)(P:Nat->Nat->Int)(k:Nat)(u u':World):Prop:=u.grownBy u' (some pb)/\∃Q,u'.rowIs pb 75 (L.length*10) (lr Q)/\uu L en Wd H bi off sn P Q k
theorem PZ{s:ByteArray}{L:List Nd}{Wd:Nat->Int}{H:Nat->Int->Int}(hT:dZ s L)(hZ:Sz L Wd H){en:Nat->Nat}(he:En L en)(g cap pb pc:Nat)(sp:Option Addr)(sn sc:Nat)(bi off:Nat->Int)(U0:World)(hN:ju U0 g L.length (ae L))(hsc:mg U0 sp sn bi off)(xj:sn<=4611686018427387904)(lR:U0.heap.size<=pb)(k:Nat)(hk:k<L.length)(P:Nat->Nat->Int)(U:World)(hU:Bt U0 U)(hR:U.rowIs pb 75 (L.length*10) (lr P))(hP:uw en P k)
 (Br:Hid (∀j,j<(ae L k).kids.length->∀Q u,Bt U0 u->u.rowIs pb 75 (L.length*10) (lr Q)->uw en Q (aP (ae L k).kids j)->Cw 43 #[Sq g L.length cap,Sq pb L.length pc,Iq (aP (ae L k).kids j:Int),.slice sp sn sc] u fun e u'=>e=Rw (.tuple #[])/\Hid (Nx L en Wd H bi off sn pb Q (aP (ae L k).kids j) u u'))):
 Cw 43 #[Sq g L.length cap,Sq pb L.length pc,Iq (k:Int),.slice sp sn sc] U fun e U'=>e=Rw (.tuple #[])/\Hid (Nx L en Wd H bi off sn pb P k U U'):=by
 have kD:prog.follows .mixedOrders=true:=by kernel_rfl
 obtain⟨ab,kv,hn⟩:=hN.nd k hk;obtain⟨kp,kc,pD,ru⟩:=hn.kids;subst pD;have dj:=hT.kids_le hk;have vk:=hT.vl.cnt;have hbd:=(hT.vl.nv k hk).bd;obtain⟨x,hx⟩:=ag (P k 0);obtain⟨y,hy⟩:=ag (P k 1);obtain⟨w,hw⟩:=ag (P k 2);obtain⟨h,hh⟩:=ag (P k 3);obtain⟨o,ho⟩:=ag (gN (aF (ae L k) 0) bi off sn);obtain⟨kd,hkd⟩:∃z:Int,((ae L k).kind:Int)=z:=⟨_,rfl⟩;obtain⟨of,rm,G,R0,R1,R2,R3,hKG⟩:=zdr L (ae L k).kids Wd H U (by omega) kd (aF (ae L k) 4) (aF (ae L k) 5) (aF (ae L k) 6) x y w h o;have hb0:=hP.b0;have hb1:=hP.b1;have hb2:=hP.b2;have qR:=hP.b3;rw[hx]at hb0;rw[hy]at hb1;rw[hw]at hb2;rw[hh]at qR;have ke:(k:Int)<=100:=by omega
 have Dr:0<=of/\of<=100000/\0<=rm/\h+rm<=100000:=by
  by_cases e4:kd=4
  ·obtain⟨⟨r1,r2⟩,_⟩:=hKG.r4 e4;have Dm:aP (ae L k).kids 0<L.length:=by
    rcases hT.kidok k hk with q|⟨_,_,q⟩|⟨q,_⟩;·omega
    ·exact(dM hT hk (by omega)).2
    ·omega
   have hhb:=hZ.hb (aP (ae L k).kids 0) w Dm;unfold ep at r1;omega
  ·obtain⟨r1,r2⟩:=hKG.no e4;omega
 have hsp:cY (ae L k).kind (aF (ae L k) 4) (aF (ae L k) 5) (aF (ae L k) 6) L (ae L k).kids Wd H (P k 0) (P k 1) (P k 2) (P k 3) of rm R0 R1 R2 R3:=by rw[hx,hy,hw,hh,hkd];exact hKG.spec
 have gp:Hid (∀j,j<(ae L k).kids.length->∀Q Q1 Q2,jY L en Wd H bi off sn R0 R1 R2 R3 of rm P Q k j->(∀i t,Q1 i t=mV Q k (aP (ae L k).kids j) (R0 j) (R1 j) (R2 j) (R3 j) of rm i t)->uw en Q1 (aP (ae L k).kids j)/\(uu L en Wd H bi off sn Q1 Q2 (aP (ae L k).kids j)->jY L en Wd H bi off sn R0 R1 R2 R3 of rm P Q2 k (j+1))):=fun j hj Q Q1 Q2 hi h1=>
  ⟨hi.pre hT he hk hj hP hsp ⟨Dr.1,Dr.2.1⟩ ⟨Dr.2.2.1,by rw[hh];exact Dr.2.2.2⟩ h1,fun h2=>hi.step hT he hk hj h1 h2⟩;have iB:Hid (∀Q,jY L en Wd H bi off sn R0 R1 R2 R3 of rm P Q k (ae L k).kids.length->uu L en Wd H bi off sn P Q k):=fun Q hi=>hi.fin hT he hk hsp (fun e=>by rw[hw,hh,ho];exact(hKG.r4 (by omega)).1) (fun e=>hKG.no (by omega));have zfS:Hid (jY L en Wd H bi off sn R0 R1 R2 R3 of rm P P k 0):=⟨fun i a b=>by have:i<k+1:=b;omega,fun a q=>by omega,fun i t _=>rfl,fun t _=>rfl,fun q=>by omega,fun _=>hP.z k (ai _) (he.lt k hk)⟩;have HNO:=qH<|hKG.no;have BS:=qH<|hKG;have S_:Hid (kd=4->(ae L k).kids.length=1):=fun e=>by rcases hT.kidok k hk with q|⟨_,_,q⟩|⟨q,_⟩<;>omega
 have Nf:Hid (∀j,j<(ae L k).kids.length->k<aP (ae L k).kids j/\aP (ae L k).kids j<L.length):=fun j hj=>dM hT hk hj;obtain⟨E1,T9⟩:=ag (U.alloc (.cells #[Iq kd,Sq ab 12 12,.string ⟨(ae L k).text.toArray⟩,.slice kp (ae L k).kids.length kc,Iq (ae L k).up] 77));obtain⟨W2,pU⟩:=ag (E1.alloc (.cells #[Iq x,Iq y,Iq w,Iq h] 73));obtain⟨An,hAn⟩:=ag U.heap.size;have zci:W2.heap[An]?=some (.cells #[Iq kd,Sq ab 12 12,.string ⟨(ae L k).text.toArray⟩,.slice kp (ae L k).kids.length kc,Iq (ae L k).up] 77 (0,0)):=by rw[<-pU,<-T9,<-hAn,du _ _ _ (by rw[aI];omega)];exact heap_alloc_new _ _
 have zhg:E1.heap.size=An+1:=by rw[<-T9,aI,hAn]
 have OS:R4 73 W2 (An+1) x y w h:=by have:=R4.new E1 x y w h 73;rw[zhg]at this;rw[<-pU];exact this
 have HB2:Hid (Bt U W2):=by rw[<-pU,<-T9];exact(((Gr.refl U).alloc _).alloc _).below
 have HR2:=qH<|rowIs_below hR HB2;have hpA:pb<An:=by rw[<-hAn];exact hR.lt
 have HU2:=qH<|hU.trans (HB2.mono hU.size);have M_:Hid (∀u,W2.grownBy u (some pb)->Bt U0 u):=fun u hu=>C6 HU2 hu lR;have FJ:Hid (∀u,W2.grownBy u (some pb)->U.grownBy u (some pb)):=fun u hu=>(ac HB2).trans hu;have HCL:Hid (∀u,W2.grownBy u (some pb)->(u.cell? (az An 0)=some (Iq kd)/\u.cell? (az An 1)=some (Sq ab 12 12)/\u.cell? (az An 2)=some (.string ⟨(ae L k).text.toArray⟩)/\u.cell? (az An 3)=some (.slice kp (ae L k).kids.length kc)/\u.cell? (az An 4)=some (Iq (ae L k).up))/\u.cell? (az (An+1) 0)=some (Iq x)/\u.cell? (az (An+1) 1)=some (Iq y)/\u.cell? (az (An+1) 2)=some (Iq w)/\u.cell? (az (An+1) 3)=some (Iq h)):=fun u hu=>by
  have n1:An≠pb:=by omega
  have n2:An+1≠pb:=by omega
  refine⟨⟨?_,?_,?_,?_,?_⟩,nu hu n2 OS.c0,nu hu n2 OS.c1,nu hu n2 OS.c2,nu hu n2 OS.c3⟩<;>exact nu hu n1 (by rw[Lib.cell_of_heap zci];rfl)
 have im:Hid (∀u,W2.grownBy u (some pb)->u.cell? (az ab 0)=some (Iq (aF (ae L k) 0))/\u.cell? (az ab 4)=some (Iq (aF (ae L k) 4))/\u.cell? (az ab 5)=some (Iq (aF (ae L k) 5))/\u.cell? (az ab 6)=some (Iq (aF (ae L k) 6))):=fun u hu=>by have hb:=M_ u hu;exact⟨aC hb (hn.att 0 (by omega)),aC hb (hn.att 4 (by omega)),aC hb (hn.att 5 (by omega)),aC hb (hn.att 6 (by omega))⟩
 have BT:Hid ((ae L k).kids.length=0\/∃kb ko,kp=some (az kb ko)/\∀u,W2.grownBy u (some pb)->∀i,i<(ae L k).kids.length->u.cell? (az kb (ko+i))=some (Iq (aP (ae L k).kids i:Int))):=by
  rcases ru with e|⟨kb,ko,e,_,hc⟩;·exact .inl (by rw[e];rfl)
  ·exact .inr ⟨kb,ko,e,fun u hu i hi=>aC (M_ u hu) (hc i hi)⟩
 have A0:=qH<|fun q u hu=>(uB hT hZ g cap k hk u (hN.below hu)).mono fun e u' z=>Wz z (by omega) (hKG.g0 q);have A1:=qH<|fun q u hu=>(Oq hT hZ g cap k hk w hb2.1 hb2.2 u (hN.below hu)).mono fun e u' z=>Wz z (by omega) (hKG.g1 q);have _p:Hid (∀j,j<(ae L k).kids.length->∀u,Bt U0 u->Cw 84 #[Sq g L.length cap,Iq (aP (ae L k).kids j:Int),Iq w] u fun e U'=>e=Rw (Iq (H (aP (ae L k).kids j) w))/\Hid (Bt u U')):=fun j hj u hu=>oY hT hZ g cap L.length _ (by omega) (dM hT hk hj).2 w hb2.1 hb2.2 u (hN.below hu);have OF:Hid (∀u,Bt U0 u->Cw 85 #[.slice sp sn sc,Iq (aF (ae L k) 0)] u fun e w'=>e=Rw (Iq o)/\w'=u):=fun u hu=>by rw[<-ho];exact QM sp sn sc bi off _ u (hsc.below hu) xj
 have Se:Hid (∀j,j<(ae L k).kids.length->0<=H (aP (ae L k).kids j) w/\H (aP (ae L k).kids j) w<=100000):=fun j hj=>hZ.hb _ _ (dM hT hk hj).2;obtain⟨_,Zo,Zp,Zq,_⟩:=hbd;have HPX:Hid (P k 0=x/\P k 1=y/\P k 2=w/\P k 3=h):=⟨hx,hy,hw,hh⟩;have c0:=hn.c0;have c1:=hn.c1;have c2:=hn.c2;have c3:=hn.c3;have c4:=hn.c4;rw[hkd]at c0;have d0:=aC hU c0;have d1:=aC hU c1;have d2:=aC hU c2;have d3:=aC hU c3;have d4:=aC hU c4;have _l:Bt U E1:=by rw[<-T9];exact((Gr.refl U).alloc _).below
 have hRE:=rowIs_below hR _l;have r0:E1.cell? (az pb (k*10))=some (Iq x):=by have:=bf hRE hk (t:=0) (by omega);rw[hx]at this;exact this
 have r1:E1.cell? (az pb (k*10+1))=some (Iq y):=by have:=bf hRE hk (t:=1) (by omega);rw[hy]at this;exact this
 have r2:E1.cell? (az pb (k*10+2))=some (Iq w):=by have:=bf hRE hk (t:=2) (by omega);rw[hw]at this;exact this
 have r3:E1.cell? (az pb (k*10+3))=some (Iq h):=by have:=bf hRE hk (t:=3) (by omega);rw[hh]at this;exact this
 have Uv:(k:Int)<(L.length:Int):=by omega
 generalize hks:(ae L k).kids=ks at gp iB Nf HCL BT A0 A1 _p Se dj Br S_ T9 d3 BS;obtain⟨m,hm⟩:=ag ks.length;rw[hm]at gp iB Nf HCL BT A0 A1 _p Se dj Br S_ T9 d3;generalize(ae L k).text=tx at T9 d2 HCL;generalize(ae L k).up=up at T9 d4 HCL;obtain⟨⟨z0,z1,z2,z3,z4⟩,z5,z6,z7,z8⟩:=HCL W2 (ac (aj _ _));obtain⟨y0,y4,y5,y6⟩:=im W2 (ac (aj _ _));have Mv:Hid (An<=W2.heap.size/\pb<An):=⟨by have:=HB2.size;omega,hpA⟩;generalize aF (ae L k) 0=a0 at im OF y0;generalize aF (ae L k) 4=a4 at im A0 A1 BS Zo y4;generalize aF (ae L k) 5=a5 at im BS Zp y5;generalize aF (ae L k) 6=a6 at im BS Zq y6;clear hn ru zci OS hsp hKG hP hN hsc c0 c1 c2 c3 c4 hRE _l hR hx hy hw hh ho hkd hT hZ he;go_enter func43,ntmps43;go_upto_if 28 with fail;clear d0 d1 d2 d3 d4 r0 r1 r2 r3 T9 pU;go_cut[10,11,28]from 29 to 48 (fun v1 v2 _ wx=>Hid (Bt W2 wx)/\Hid (kd=0->IV wx An m G v1/\IV wx An m (cR G (cl a4)) v2));case first=>
  by_cases k0:kd=0
  ·have e0:(kd==0)=true:=by rw[k0];rfl
   have AC:=A0 k0;have AC:=qH<|AC;have HD:=qH<|HU2.drew;have HE:Hid (Bt W2 W2.drew):=(aj _ _).drew;have HZ:Hid (∀u,Bt W2 u->u.cell? (az (An+1) 2)=some (Iq w)/\u.cell? (az An 1)=some (Sq ab 12 12)/\u.cell? (az ab 4)=some (Iq a4)):=fun u hu=>⟨aC hu z7,aC hu z1,aC hu y4⟩;clear k0 A0 A1;go_wp2_with fail;go_region_held(fun W=>W.cell? (az (An+1) 2)=some (Iq w)/\W.cell? (az An 1)=some (Sq ab 12 12)/\W.cell? (az ab 4)=some (Iq a4)) (go_keep) (first
    |(go_at_call 78;refine ao (AC _ HD) ?_;rintro e u5 ⟨p,c,rfl,io,BU,_⟩;have HF5:=qH<|HE.trans (io.mono HE.size);obtain⟨s1,s2,s3⟩:=HZ u5 HF5)
    |(go_at_call 77;refine ao BU ?_;rintro e u6 ⟨v6,rfl,kw,HI6⟩;have HF6:=qH<|HF5.trans (kw.mono HF5.size);obtain⟨t1,t2,t3⟩:=HZ u6 HF6));all_goals
    have HD6:=qH<|(HU2.trans (HF6.mono HU2.size)).drew;have HE6:=qH<|HF6.drew;clear s1 s2 s3;go_wp2_with fail;go_region_held(fun W=>W.cell? (az (An+1) 2)=some (Iq w)/\W.cell? (az An 1)=some (Sq ab 12 12)/\W.cell? (az ab 4)=some (Iq a4)) (go_keep) (first
     |(go_at_call 78;refine ao (AC _ HD6) ?_;rintro e u7 ⟨p7,c7,rfl,qY,_,HO7⟩;have HF7:=qH<|HE6.trans (qY.mono HE6.size);obtain⟨q1,q2,q3⟩:=HZ u7 HF7)
     |(go_at_call 79;refine ao HO7 ?_;rintro e u8 ⟨v8,rfl,V6,HI8⟩;have Fi:=qH<|HF7.trans (V6.mono HF7.size);obtain⟨x1,x2,x3⟩:=HZ u8 Fi));all_goals go_wp2_with fail;go_meet;have hA:=Mv.1;have h6:=HF6.size;refine⟨Fi,fun _=>⟨((((HI6.mono hA).below (aj _ _).drew).below qY).below V6),HI8.mono (aO hA h6)⟩⟩
  ·have e0:(kd==0)=false:=by simp;exact k0
   have Tg:=qH<|k0;clear k0 A0 A1;go_wp2_with fail;go_meet;exact⟨aj _ _,fun q=>absurd q Tg⟩
 case rest=>
  obtain⟨HB3,HI3⟩:=hcut;obtain⟨W3,rfl⟩:=TN wc;obtain⟨w1,rfl⟩:=TN u10;obtain⟨w2,rfl⟩:=TN u11;have HU3:=qH<|HU2.trans (HB3.mono HU2.size);clear z0 z1 z2 z3 z4 z5 z6 z7 z8 y0 y4 y5 y6;obtain⟨⟨z0,z1,z2,z3,z4⟩,z5,z6,z7,z8⟩:=HCL W3 (ac HB3);obtain⟨y0,y4,y5,y6⟩:=im W3 (ac HB3);go_upto_if 51 with fail;go_cut[10,11,51]from 52 to 75 (fun v1 v2 _ wx=>Hid (Bt W2 wx)/\Hid (kd=0\/kd=1->IV wx An m G v1/\IV wx An m (cR G (cl a4)) v2));case first=>
   by_cases k1:kd=1
   ·have e1:(kd==1)=true:=by rw[k1];rfl
    have AC:=A1 k1;have AC:=qH<|AC;have HD:=qH<|HU3.drew;have HE:Hid (Bt W3 W3.drew):=(aj _ _).drew;have HZ:Hid (∀u,Bt W3 u->u.cell? (az (An+1) 3)=some (Iq h)/\u.cell? (az (An+1) 2)=some (Iq w)/\u.cell? (az An 1)=some (Sq ab 12 12)/\u.cell? (az ab 4)=some (Iq a4)):=fun u hu=>⟨aC hu z8,aC hu z7,aC hu z1,aC hu y4⟩;clear k1 A0 A1 HI3;go_wp2_with fail;go_region_held(fun W=>W.cell? (az (An+1) 3)=some (Iq h)/\W.cell? (az (An+1) 2)=some (Iq w)/\W.cell? (az An 1)=some (Sq ab 12 12)/\W.cell? (az ab 4)=some (Iq a4)) (go_keep) (first
     |(go_at_call 80;refine ao (AC _ HD) ?_;rintro e u5 ⟨p,c,rfl,io,BU,_⟩;have HF5:=qH<|HE.trans (io.mono HE.size);obtain⟨s0,s1,s2,s3⟩:=HZ u5 HF5)
     |(go_at_call 77;refine ao BU ?_;rintro e u6 ⟨v6,rfl,kw,HI6⟩;have HF6:=qH<|HF5.trans (kw.mono HF5.size);obtain⟨t0,t1,t2,t3⟩:=HZ u6 HF6));all_goals
     have HD6:=qH<|(HU3.trans (HF6.mono HU3.size)).drew;have HE6:=qH<|HF6.drew;clear s0 s1 s2 s3;go_wp2_with fail;go_region_held(fun W=>W.cell? (az (An+1) 3)=some (Iq h)/\W.cell? (az (An+1) 2)=some (Iq w)/\W.cell? (az An 1)=some (Sq ab 12 12)/\W.cell? (az ab 4)=some (Iq a4)) (go_keep) (first
      |(go_at_call 80;refine ao (AC _ HD6) ?_;rintro e u7 ⟨p7,c7,rfl,qY,_,HO7⟩;have HF7:=qH<|HE6.trans (qY.mono HE6.size);obtain⟨q0,q1,q2,q3⟩:=HZ u7 HF7)
      |(go_at_call 79;refine ao HO7 ?_;rintro e u8 ⟨v8,rfl,V6,HI8⟩;have Fi:=qH<|HF7.trans (V6.mono HF7.size);obtain⟨x0,x1,x2,x3⟩:=HZ u8 Fi));all_goals go_wp2_with fail;go_meet;have hA:=aO Mv.1 HB3.size;have h6:=HF6.size;refine⟨HB3.trans (Fi.mono HB3.size),fun _=>⟨((((HI6.mono hA).below (aj _ _).drew).below qY).below V6),HI8.mono (aO hA h6)⟩⟩
   ·have e1:(kd==1)=false:=by simp;exact k1
    have Tg:=qH<|k1;clear k1 A0 A1;go_wp2_with fail;go_meet;exact⟨HB3,fun q=>HI3 (q.resolve_right Tg)⟩
  case rest=>
   obtain⟨HB4,zaM⟩:=hcut;obtain⟨W4,rfl⟩:=TN wc;obtain⟨v1,rfl⟩:=TN u10;obtain⟨v2,rfl⟩:=TN u11;clear z0 z1 z2 z3 z4 z5 z6 z7 z8 y0 y4 y5 y6 A0 A1 HI3 HB3 HU3;have HG4:Hid (W2.grownBy W4 (some pb)):=ac HB4;have HR4:=qH<|rowIs_below HR2 HB4;go_wp2;go_loopw[12] (fun iv wr=>∃(j:Nat) (Q:Nat->Nat->Int),j<=m/\iv=Iq (j:Int)/\Hid (W4.grownBy wr (some pb))/\Hid (wr.rowIs pb 75 (L.length*10) (lr Q))/\Hid (jY L en Wd H bi off sn R0 R1 R2 R3 of rm P Q k j)) (fun iv _=>m-(intOf iv).toNat);case atStart=>exact⟨0,P,aZ _,rfl,ac (aj _ _),HR4,zfS⟩
   case round=>
    obtain⟨j,Q,hj,rfl,HGj,X9,HIj⟩:=hrel;have gX:=qH<|HG4.trans HGj;obtain⟨⟨z0,z1,z2,z3,z4⟩,z5,z6,z7,z8⟩:=HCL wr gX;by_cases hlt:j<m
    ·have aN:(j:Int)<(m:Int):=by omega
     obtain⟨kb,ko,rfl,Gm⟩:=BT.resolve_left (by omega);have k0:=Gm wr gX j hlt;obtain⟨OX,Uk⟩:=Nf j hlt;have KD:=Br j hlt;have HST:=gp j hlt Q;have HH4:=_p j hlt;have hH:=Se j hlt;have HKJ:Hid (kd=4->aP ks 0=aP ks j):=fun e=>by have:=S_ e;rw[show j=0 by omega]
     have HGB:=BS.gb j (by omega);obtain⟨f0,WU⟩:=ag (R0 j);obtain⟨f1,xg⟩:=ag (R1 j);obtain⟨f2,hf2⟩:=ag (R2 j);obtain⟨f3,O3⟩:=ag (R3 j);obtain⟨gj,hgj⟩:=ag (G j);obtain⟨oj,hoj⟩:=ag (cR G (cl a4) j);have BH:0<=oj/\oj<=100000000:=by rw[<-hoj];have:=nP (n:=m) (g:=G) (fun i hi=>BS.gb i (by omega)) (dU a4) j (by omega);omega
     have We:Hid (kd=0\/kd=1->∃ob LI,v1=Sq ob m m/\v2=Sq LI m m/\An<=ob/\An<=LI/\wr.cell? (az ob j)=some (Iq gj)/\wr.cell? (az LI j)=some (Iq oj)):=fun q=>by obtain⟨i1,i2⟩:=zaM q;obtain⟨ob,e1,b1,c1⟩:=(i1.gb HGj Mv.2) (by omega);obtain⟨LI,e2,b2,c2⟩:=(i2.gb HGj Mv.2) (by omega);exact⟨ob,LI,e1,e2,b1,b2,by rw[<-hgj];exact c1 j hlt,by rw[<-hoj];exact c2 j hlt⟩
     have HK0:Hid (kd=0->x+oj=f0/\y=f1/\gj=f2/\h=f3):=fun e=>by have:=BS.r0 e j;rw[WU,xg,hf2,O3,hoj,hgj]at this;omega
     have HK1:Hid (kd=1->x=f0/\y+oj=f1/\w=f2/\gj=f3):=fun e=>by have:=BS.r1 e j;rw[WU,xg,hf2,O3,hoj,hgj]at this;omega
     have HK3:=qH<|fun e=>by have:=BS.r3 e j;rw[WU,xg,hf2,O3]at this;exact this
     have HKr:Hid (kd≠0->kd≠1->kd≠3->kd≠4->x=f0/\y=f1/\w=f2/\h=f3):=fun a b c d=>by have:=BS.rr a b c d j;rw[WU,xg,hf2,O3]at this;omega
     have Nc:Hid (kd=4->(rm=ep (H (aP ks j) w) h/\of=min (max 0 o) rm)/\x=f0/\y-of=f1/\w=f2/\h+rm=f3):=fun e=>by obtain⟨q1,q2⟩:=BS.r4 e;rw[HKJ e]at q1;have:=q2 j;rw[WU,xg,hf2,O3]at this;exact⟨q1,by omega,by omega,by omega,by omega⟩
     have HQQ:Hid (kd≠4->∀i t,Q i t=if i=k/\t=8 then of else if i=k/\t=9 then rm else Q i t):=fun e i t=>by
      have h1:=HNO e;have h2:=HIj.sc;have h3:Q k 8=of/\Q k 9=rm:=by by_cases z:0<j;exact h2.1 z;have:=h2.2 (by omega);omega
      by_cases a:i=k/\t=8;·rw[if_pos a,a.1,a.2];exact h3.1
      ·rw[if_neg a];by_cases b:i=k/\t=9;·rw[if_pos b,b.1,b.2];exact h3.2
       ·rw[if_neg b]
     rw[WU,xg,hf2,O3]at HST;obtain⟨y4v,hy4⟩:=ag (H (aP ks j) w);obtain⟨cc,K1⟩:=ag (aP ks j);rw[hy4]at HH4 hH Nc;rw[K1]at k0 OX Uk KD HST HH4;have HH4:=qH<|HH4;have HST:=qH<|HST;have KD:=qH<|KD;have zph:(cc:Int)<(L.length:Int):=by omega
     -- the zmd L5
     obtain⟨Aq,hAq⟩:=ag wr.heap.size;obtain⟨Wq,hWq⟩:=ag (wr.alloc (.cells #[Iq x,Iq y,Iq w,Iq h] 73));have Nn:Hid (R4 73 Wq Aq x y w h):=by rw[<-hWq,<-hAq];exact R4.new _ _ _ _ _ _
     have V9:Hid (Bt wr Wq):=by rw[<-hWq];exact((Gr.refl wr).alloc _).below
     have Xc:pb<Aq:=by rw[<-hAq];exact X9.lt
     have zoD:An+1<Aq:=by rw[<-hAq];exact l8 wr _ z5
     have zo7:ab<Aq:=by rw[<-hAq];exact l8 wr _ (im wr gX).1
     have HAQ:=qH<|hAq;have _B:Hid (∀u,Bt Wq u->u.rowIs pb 75 (L.length*10) (lr Q)):=fun u hu=>rowIs_below (rowIs_below X9 V9) hu;have xq:Hid (∀u,Bt Wq u->wr.grownBy u (some pb)):=fun u hu=>ac (V9.trans (hu.mono V9.size));have JU:=qH<|fun u hu=>gX.trans (xq u hu);have HQu:Hid (∀u,Bt Wq u->R4 73 u Aq x y w h):=fun u hu=>(hu.block Aq Nn.lt).trans Nn;have HX:Hid (∀u Q1 q0 q1 q2 q3,wr.grownBy u (some pb)->u.rowIs pb 75 (L.length*10) (lr Q1)->R4 73 u Aq q0 q1 q2 q3->∀a b c d:Int,wr.grownBy ((((u.setCell (az Aq 0) (Iq a)).setCell (az Aq 1) (Iq b)).setCell (az Aq 2) (Iq c)).setCell (az Aq 3) (Iq d)) (some pb)/\R4 73 ((((u.setCell (az Aq 0) (Iq a)).setCell (az Aq 1) (Iq b)).setCell (az Aq 2) (Iq c)).setCell (az Aq 3) (Iq d)) Aq a b c d/\((((u.setCell (az Aq 0) (Iq a)).setCell (az Aq 1) (Iq b)).setCell (az Aq 2) (Iq c)).setCell (az Aq 3) (Iq d)).rowIs pb 75 (L.length*10) (lr Q1)):=fun u Q1 q0 q1 q2 q3 hg hr h4 a b c d=>by have hA:=HAQ.out;refine⟨fH (fH (fH (fH hg (a:=(az Aq 0)) (by show wr.heap.size<=Aq;omega) _) (a:=(az Aq 1)) (by show wr.heap.size<=Aq;omega) _) (a:=(az Aq 2)) (by show wr.heap.size<=Aq;omega) _) (a:=(az Aq 3)) (by show wr.heap.size<=Aq;omega) _,h4.set a b c d,?_⟩;refine hr.of_block ?_;rw[cF _ (az Aq 3) _ pb (by show pb≠Aq;omega),cF _ (az Aq 2) _ pb (by show pb≠Aq;omega),cF _ (az Aq 1) _ pb (by show pb≠Aq;omega),cF _ (az Aq 0) _ pb (by show pb≠Aq;omega)]
     clear Gm WU xg hf2 O3 hgj hoj gp _p Se BS Br zaM HKJ hy4 K1;obtain⟨⟨p0,p1,p2,p3,p4⟩,p5,p6,p7,p8⟩:=HCL Wq (JU Wq (aj _ _));obtain⟨y0,ya4,ya5,ya6⟩:=im Wq (JU Wq (aj _ _));go_upto_block 2 with fail;clear z0 z1 z2 z3 z4 z5 z6 z7 z8 k0 hWq hAq;go_cut[15,16]from 91 to 181 (fun _ _ wx=>∃Q1,Hid (wr.grownBy wx (some pb))/\Hid (R4 73 wx Aq f0 f1 f2 f3)/\Hid (wx.rowIs pb 75 (L.length*10) (lr Q1))/\Hid (∀i t,Q1 i t=if i=k/\t=8 then of else if i=k/\t=9 then rm else Q i t));case first=>
      have q0:=Nn.c0;have q1:=Nn.c1;have q2:=Nn.c2;have q3:=Nn.c3;have qf:=Nn.fz;have n1:¬Aq=An+1:=by omega
      have n2:¬Aq=An:=by omega
      have n3:¬Aq=ab:=by omega
      have n4:¬Aq=pb:=by omega
      by_cases k0:kd=0
      ·have e0:(kd==0)=true:=by rw[k0];rfl
       obtain⟨ob,LI,oB,sB,b1,b2,ZS,ZT⟩:=We (.inl k0);have o1:=aC V9 ZS;have o2:=aC V9 ZT;have n5:¬Aq=ob:=by have:ob<_:=l8 wr _ ZS;have:=HAQ.out;omega
       have n6:¬Aq=LI:=by have:LI<_:=l8 wr _ ZT;have:=HAQ.out;omega
       have HF:=qH<|HK0 k0;have Tk:=qH<|HQQ (by omega);have wv:IntKind.i64.wrap (x+oj)=x+oj:=IntWalk.i64_in _ ⟨by omega,by omega⟩;subst oB sB;clear k0 We HK0 HK1 HK3 Nc HKr HQQ ZS ZT hb0 hb1 hb2 qR;go_wp2_with fail;go_region_held(fun W=>W.cell? (az (An+1) 0)=some (Iq x)/\W.cell? (az (An+1) 1)=some (Iq y)/\W.cell? (az (An+1) 3)=some (Iq h)/\W.cell? (az ob j)=some (Iq gj)/\W.cell? (az LI j)=some (Iq oj)) (go_keep) (fail);all_goals go_wp2_with fail;go_meet;obtain⟨g1,g2,g3⟩:=HX Wq Q x y w h (xq Wq (aj _ _)) (_B Wq (aj _ _)) Nn (x+oj) y gj h;obtain⟨w0,w1,w2,w3⟩:=HF.out;refine⟨Q,iC g1,?_,g3,Tk⟩;rw[<-w0,<-w1,<-w2,<-w3];exact g2
      ·have e0:(kd==0)=false:=by simp;exact k0
       by_cases k1:kd=1
       ·have e1:(kd==1)=true:=by rw[k1];rfl
        clear k0;obtain⟨ob,LI,oB,sB,b1,b2,ZS,ZT⟩:=We (.inr k1);have o1:=aC V9 ZS;have o2:=aC V9 ZT;have n5:¬Aq=ob:=by have:ob<_:=l8 wr _ ZS;have:=HAQ.out;omega
        have n6:¬Aq=LI:=by have:LI<_:=l8 wr _ ZT;have:=HAQ.out;omega
        have HF:=qH<|HK1 k1;have Tk:=qH<|HQQ (by omega);have wv:IntKind.i64.wrap (y+oj)=y+oj:=IntWalk.i64_in _ ⟨by omega,by omega⟩;subst oB sB;clear k1 We HK0 HK1 HK3 Nc HKr HQQ ZS ZT hb0 hb1 hb2 qR;go_wp2_with fail;go_region_held(fun W=>W.cell? (az (An+1) 0)=some (Iq x)/\W.cell? (az (An+1) 1)=some (Iq y)/\W.cell? (az (An+1) 2)=some (Iq w)/\W.cell? (az ob j)=some (Iq gj)/\W.cell? (az LI j)=some (Iq oj)) (go_keep) (fail);all_goals go_wp2_with fail;go_meet;obtain⟨g1,g2,g3⟩:=HX Wq Q x y w h (xq Wq (aj _ _)) (_B Wq (aj _ _)) Nn x (y+oj) w gj;obtain⟨w0,w1,w2,w3⟩:=HF.out;refine⟨Q,iC g1,?_,g3,Tk⟩;rw[<-w0,<-w1,<-w2,<-w3];exact g2
       ·have e1:(kd==1)=false:=by simp;exact k1
        by_cases k3:kd=3
        ·have e3:(kd==3)=true:=by rw[k3];rfl
         clear k0 k1;have HF:=qH<|HK3 k3;have Tk:=qH<|HQQ (by omega);have FR:Hid (∀u,Bt Wq u->Cw 82 #[.agg #[Iq kd,Sq ab 12 12,.string ⟨tx.toArray⟩,.slice (some (az kb ko)) m kc,Iq up]] u fun e w'=>e=Rw (Iq (a6+a5))/\Hid (Bt u w')):=fun u hu=>pm kd ab ⟨tx.toArray⟩ _ up a5 a6 u (aC hu ya5) (aC hu ya6) (by omega) (by omega);have IN:Hid (∀u,Cw 81 #[.agg #[Iq x,Iq y,Iq w,Iq h],Iq (a6+a5)] u fun e w'=>e=Rw (.agg #[Iq f0,Iq f1,Iq f2,Iq f3])/\Hid (Bt u w')):=fun u=>(Hi x y w h (a6+a5) u).mono fun e w' q=>⟨by rw[q.1,HF.out];rfl,q.2.below⟩;have HZ:Hid (∀u,Bt Wq u->((u.cell? (az An 0)=some (Iq kd)/\u.cell? (az An 1)=some (Sq ab 12 12)/\u.cell? (az An 2)=some (.string ⟨tx.toArray⟩)/\u.cell? (az An 3)=some (.slice (some (az kb ko)) m kc)/\u.cell? (az An 4)=some (Iq up))/\u.cell? (az (An+1) 0)=some (Iq x)/\u.cell? (az (An+1) 1)=some (Iq y)/\u.cell? (az (An+1) 2)=some (Iq w)/\u.cell? (az (An+1) 3)=some (Iq h))/\R4 73 u Aq x y w h):=fun u hu=>⟨HCL u (JU u hu),HQu u hu⟩;have HE:Hid (Bt Wq Wq.drew):=(aj _ _).drew;clear k3 We HK0 HK1 HK3 Nc HKr HQQ;go_wp2_with fail;go_region_held(fun W=>(W.cell? (az An 0)=some (Iq kd)/\W.cell? (az An 1)=some (Sq ab 12 12)/\W.cell? (az An 2)=some (.string ⟨tx.toArray⟩)/\W.cell? (az An 3)=some (.slice (some (az kb ko)) m kc)/\W.cell? (az An 4)=some (Iq up))/\W.cell? (az (An+1) 0)=some (Iq x)/\W.cell? (az (An+1) 1)=some (Iq y)/\W.cell? (az (An+1) 2)=some (Iq w)/\W.cell? (az (An+1) 3)=some (Iq h)) (go_keep) (first
          |(go_at_call 82;refine ao (FR _ HE) ?_;rintro e u5 ⟨rfl,io⟩;have HF5:=qH<|HE.trans (io.mono HE.size);obtain⟨⟨⟨s0,s1,s2,s3,s4⟩,s5,s6,s7,s8⟩,s9⟩:=HZ u5 HF5;clear s9)
          |(go_at_call 81;refine ao (IN _) ?_;rintro e u6 ⟨rfl,kw⟩;have HF6:=qH<|HF5.trans (kw.mono HF5.size);obtain⟨⟨⟨t0,t1,t2,t3,t4⟩,t5,t6,t7,t8⟩,t9⟩:=HZ u6 HF6;have tq0:=t9.c0;have tq1:=t9.c1;have tq2:=t9.c2;have tq3:=t9.c3;have tqf:=t9.fz;clear t9));all_goals go_wp2_with fail;go_meet;obtain⟨g1,g2,g3⟩:=HX u6 Q x y w h (xq u6 HF6) (_B u6 HF6) (HQu u6 HF6) f0 f1 f2 f3;exact⟨Q,g1,g2,g3,Tk⟩
        ·have e3:(kd==3)=false:=by simp;exact k3
         by_cases k4:kd=4
         ·have e4:(kd==4)=true:=by rw[k4];rfl
          obtain⟨⟨Gu,Uy⟩,w0,w1,w2,w3⟩:=Nc k4;have m1:max h y4v=f3:=by unfold ep at Gu;omega
          have m2:max 0 (min o rm)=of:=by omega
          have zo':=qR;have GEH:Hid (∀u,Cw 83 #[Iq h,Iq y4v] u fun e w'=>e=Rw (Iq f3)/\w'=u):=fun u=>by rw[<-m1];exact greatest_any h y4v u
          obtain⟨lo,pE⟩:=ag (min o rm);have LEO:Hid (∀u,Cw 86 #[Iq o,Iq rm] u fun e w'=>e=Rw (Iq lo)/\w'=u):=fun u=>by rw[<-pE];exact least_any o rm u
          have GEO:Hid (∀u,Cw 83 #[Iq 0,Iq lo] u fun e w'=>e=Rw (Iq of)/\w'=u):=fun u=>by rw[<-m2,pE];exact greatest_any 0 lo u
          have HD:Hid (Bt U0 Wq.drew):=(M_ Wq (JU Wq (aj _ _))).drew;have HE:Hid (Bt Wq Wq.drew):=(aj _ _).drew;have HF:=qH<|And.intro w0 (And.intro w1 w2);have O3:0<=f3/\f3<=100000:=by omega
          have dr:f3-h=rm:=by omega
          have wv:IntKind.i64.wrap (y-of)=y-of:=IntWalk.i64_in _ ⟨by omega,by omega⟩;have HQP:Hid (∀i t,bE (bE Q k 9 rm) k 8 of i t=if i=k/\t=8 then of else if i=k/\t=9 then rm else Q i t):=fun i t=>rfl;clear k0 k1 k3 k4 Gu Uy w0 w1 w2 w3 m1 m2 pE We HK0 HK1 HK3 Nc HKr HQQ;go_wp2_with fail;go_region_held(fun W=>W.cell? (az (An+1) 3)=some (Iq h)/\W.cell? (az (An+1) 2)=some (Iq w)) (go_keep) (first
           |(go_at_call 84;refine ao (HH4 _ HD) ?_;rintro e u5 ⟨rfl,io⟩;have HF5:Hid (Bt Wq u5):=HE.trans (io.mono HE.size);obtain⟨_,s5,s6,s7,s8⟩:=HCL u5 (JU u5 HF5))
           |(go_at_call 83;refine ao (GEH _) ?_;rintro e u6 ⟨rfl,h6⟩;obtain rfl:=h6.symm));all_goals
           have MG:=_B u5 HF5;have c9:=bf MG hk (t:=9) (by omega);have cf:=MG.frozen;have vp:=MG.lt;obtain⟨w6,SO⟩:=ag (u5.setCell (az pb (k*10+9)) (Iq rm));have _n:Hid (wr.grownBy w6 (some pb)):=by rw[<-SO];exact kz (xq u5 HF5) _
           have Ij:Hid (w6.rowIs pb 75 (L.length*10) (lr (bE Q k 9 rm))):=by rw[<-SO];exact eh MG k 9 (by omega) rm
           have _x:Hid (R4 73 w6 Aq x y w h):=by rw[<-SO];exact(HQu u5 HF5).other (by omega) _
           have OF2:=qH<|OF w6 (M_ w6 (gX.trans _n));obtain⟨⟨_,x1,_,_,_⟩,x5,x6,x7,x8⟩:=HCL w6 (gX.trans _n);have x0:=(im w6 (gX.trans _n)).1;have c8:=bf Ij hk (t:=8) (by omega);have cf6:=Ij.frozen;have hp6:=Ij.lt;obtain⟨w7,hw7⟩:=ag (w6.setCell (az pb (k*10+8)) (Iq of));have Sd:Hid (wr.grownBy w7 (some pb)):=by rw[<-hw7];exact kz _n _
           have Np:Hid (w7.rowIs pb 75 (L.length*10) (lr (bE (bE Q k 9 rm) k 8 of))):=by rw[<-hw7];exact eh Ij k 8 (by omega) of
           have _y:Hid (R4 73 w7 Aq x y w h):=by rw[<-hw7];exact _x.other (by omega) _
           obtain⟨_,v5,v6,v7,v8⟩:=HCL w7 (gX.trans Sd);have v9:w7.cell? (az pb (k*10+8))=some (Iq of):=by have:=bf Np hk (t:=8) (by omega);simpa[bE]using this
           have vq0:=_y.c0;have vq1:=_y.c1;have vq2:=_y.c2;have vq3:=_y.c3;have vqf:=_y.fz;clear MG;go_wp2_with(first
            |(go_at_call 85;refine ao OF2 ?_;rintro e u8 ⟨rfl,h8⟩;obtain rfl:=h8.symm)
            |(go_at_call 86;refine ao (LEO _) ?_;rintro e u8 ⟨rfl,h8⟩;obtain rfl:=h8.symm)
            |(go_at_call 83;refine ao (GEO _) ?_;rintro e u8 ⟨rfl,h8⟩;obtain rfl:=h8.symm));go_region_held(fun W=>W.cell? (az (An+1) 0)=some (Iq x)/\W.cell? (az (An+1) 1)=some (Iq y)/\W.cell? (az (An+1) 2)=some (Iq w)/\W.cell? (az pb (k*10+8))=some (Iq of)) (go_keep) (fail);all_goals go_wp2_with fail;go_meet;obtain⟨g1,g2,g3⟩:=HX w7 _ x y w h Sd Np _y x (y-of) w f3;obtain⟨r0,r1,r2⟩:=HF.out;refine⟨_,iC g1,?_,g3,HQP⟩;rw[<-r0,<-r1,<-r2];exact g2
         ·have e4:(kd==4)=false:=by simp;exact k4
          have HF:=qH<|HKr k0 k1 k3 k4;have Tk:=qH<|HQQ k4;clear k0 k1 k3 k4 We HK0 HK1 HK3 Nc HKr HQQ;go_wp2_with fail;go_meet;obtain⟨w0,w1,w2,w3⟩:=HF.out;refine⟨Q,xq Wq (aj _ _),?_,_B Wq (aj _ _),Tk⟩;rw[<-w0,<-w1,<-w2,<-w3];exact Nn
     case rest=>
      obtain⟨Q1,Sb,HQ5,tU,HQe⟩:=hcut;obtain⟨W5,rfl⟩:=TN wc;clear p0 p1 p2 p3 p4 p5 p6 p7 p8 y0 ya4 ya5 ya6 We HK0 HK1 HK3 Nc HKr HQQ HX HQu _B xq JU V9 Nn HH4;have q0:=HQ5.c0;have q1:=HQ5.c1;have q2:=HQ5.c2;have q3:=HQ5.c3;have n4:¬pb=Aq:=by omega
      have n5:¬Aq=pb:=by omega
      have zpK:k≠cc:=by omega
      obtain⟨c4,hc4⟩:=ag (Q k 4);obtain⟨c5,hc5⟩:=ag (Q k 5);obtain⟨c6,_1⟩:=ag (Q k 6);obtain⟨c7,hc7⟩:=ag (Q k 7);obtain⟨d0,Sx⟩:=ag (zR f0 f1 f2 f3 c4 c5 c6 c7);obtain⟨d1,Fu⟩:=ag (zS f0 f1 f2 f3 c4 c5 c6 c7);obtain⟨d2,Y1⟩:=ag (xz f0 f1 f2 f3 c4 c5 c6 c7);obtain⟨d3,hd3⟩:=ag (zT f0 f1 f2 f3 c4 c5 c6 c7);have CP:Hid (∀u,Cw 87 #[.agg #[Iq f0,Iq f1,Iq f2,Iq f3],.agg #[Iq c4,Iq c5,Iq c6,Iq c7]] u fun e w'=>e=Rw (.agg #[Iq d0,Iq d1,Iq d2,Iq d3])/\Hid (Bt u w')):=fun u=>(QF f0 f1 f2 f3 c4 c5 c6 c7 u).mono fun e w' q=>⟨by rw[q.1,yo,Sx,Fu,Y1,hd3];rfl,q.2.below⟩;obtain⟨Q3,hQ3⟩:=ag (bE (bE (bE (bE (bE (bE (bE (bE Q1 cc 0 f0) cc 1 f1) cc 2 f2) cc 3 f3) cc 4 d0) cc 5 d1) cc 6 d2) cc 7 d3);have HQ3:Hid (∀i t,Q3 i t=mV Q k cc f0 f1 f2 f3 of rm i t):=fun i t=>by have:=zjh Q1 cc (AK Q k f0 f1 f2 f3) i t;rw[<-hQ3];unfold mV;rw[<-HQe i t,<-this];unfold AK;simp only[hc4,hc5,_1,hc7,Sx,Fu,Y1,hd3];rfl
      obtain⟨W6,YQ⟩:=ag ((((W5.setCell (az pb (cc*10)) (Iq f0)).setCell (az pb (cc*10+1)) (Iq f1)).setCell (az pb (cc*10+2)) (Iq f2)).setCell (az pb (cc*10+3)) (Iq f3));have Ij:Hid (W6.rowIs pb 75 (L.length*10) (lr (bE (bE (bE (bE Q1 cc 0 f0) cc 1 f1) cc 2 f2) cc 3 f3))):=by rw[<-YQ];exact eh (eh (eh (eh tU cc 0 (by omega) f0) cc 1 (by omega) f1) cc 2 (by omega) f2) cc 3 (by omega) f3
      have _n:Hid (wr.grownBy W6 (some pb)):=by rw[<-YQ];exact kz (kz (kz (kz Sb _) _) _) _
      have _x:Hid (R4 73 W6 Aq f0 f1 f2 f3):=by rw[<-YQ];exact(((HQ5.other n5 _).other n5 _).other n5 _).other n5 _
      have r0:=_x.c0;have r1:=_x.c1;have r2:=_x.c2;have r3:=_x.c3;have PC:∀t c,4<=t->t<8->Q k t=c->W6.cell? (az pb (k*10+t))=some (Iq c):=fun t c h1 h2 h3=>by
       have:=bf Ij hk (t:=t) (by omega);rw[this];have e:bE (bE (bE (bE Q1 cc 0 f0) cc 1 f1) cc 2 f2) cc 3 f3 k t=c:=by unfold bE;rw[if_neg (by omega),if_neg (by omega),if_neg (by omega),if_neg (by omega),HQe.out,if_neg (by omega),if_neg (by omega),h3]
       rw[e]
      have r4:=PC 4 c4 (by omega) (by omega) hc4;have r5:=PC 5 c5 (by omega) (by omega) hc5;have r6:=PC 6 c6 (by omega) (by omega) _1;have r7:=PC 7 c7 (by omega) (by omega) hc7;have m0:=bf tU Uk (t:=0) (by omega);have m1:=bf tU Uk (t:=1) (by omega);have m2:=bf tU Uk (t:=2) (by omega);have m3:=bf tU Uk (t:=3) (by omega);rw[w_]at m0;have mf:=tU.frozen;have ml:=tU.lt;have HM:Hid (∀u,Bt W6 u->(∀o',u.frozen? (az pb o')=false)/\pb<u.heap.size/\(∃v,u.cell? (az pb (cc*10+4))=some v)/\(∃v,u.cell? (az pb (cc*10+5))=some v)/\(∃v,u.cell? (az pb (cc*10+6))=some v)/\∃v,u.cell? (az pb (cc*10+7))=some v):=fun u hu=>by have hr:=rowIs_below Ij hu;exact⟨hr.frozen,hr.lt,⟨_,bf hr Uk (by omega)⟩,⟨_,bf hr Uk (by omega)⟩,⟨_,bf hr Uk (by omega)⟩,⟨_,bf hr Uk (by omega)⟩⟩
      have LAY:Hid (∀u,Bt W6 u->Cw 43 #[Sq g L.length cap,Sq pb L.length pc,Iq (cc:Int),.slice sp sn sc] ((((u.setCell (az pb (cc*10+4)) (Iq d0)).setCell (az pb (cc*10+5)) (Iq d1)).setCell (az pb (cc*10+6)) (Iq d2)).setCell (az pb (cc*10+7)) (Iq d3)) fun e u'=>e=Rw (.tuple #[])/\∃Q',Hid (W4.grownBy u' (some pb))/\Hid (u'.rowIs pb 75 (L.length*10) (lr Q'))/\Hid (jY L en Wd H bi off sn R0 R1 R2 R3 of rm P Q' k (j+1))):=fun u hu=>by
       have hr:((((u.setCell (az pb (cc*10+4)) (Iq d0)).setCell (az pb (cc*10+5)) (Iq d1)).setCell (az pb (cc*10+6)) (Iq d2)).setCell (az pb (cc*10+7)) (Iq d3)).rowIs pb 75 (L.length*10) (lr Q3):=by rw[<-hQ3];exact eh (eh (eh (eh (rowIs_below Ij hu) cc 4 (by omega) d0) cc 5 (by omega) d1) cc 6 (by omega) d2) cc 7 (by omega) d3
       have hg:wr.grownBy ((((u.setCell (az pb (cc*10+4)) (Iq d0)).setCell (az pb (cc*10+5)) (Iq d1)).setCell (az pb (cc*10+6)) (Iq d2)).setCell (az pb (cc*10+7)) (Iq d3)) (some pb):=kz (kz (kz (kz (_n.trans (ac hu)) _) _) _) _;have Uq:=HGj.trans hg;refine(KD Q3 _ (M_ _ (gX.trans hg)) hr (HST Q3 Q3 HIj HQ3).1).mono ?_;rintro e u' ⟨rfl,z⟩;obtain⟨z1,Q',z2,z3⟩:=z.out;exact⟨rfl,Q',Uq.trans z1,z2,(HST Q3 Q' HIj HQ3).2 z3⟩
      have zgJ:Hid (∀u,Bt W6 u->Cw 43 #[Sq g L.length cap,Sq pb L.length pc,Iq (cc:Int),.slice sp sn sc] ((((u.setCell (az pb (cc*10+4)) (Iq d0)).setCell (az pb (cc*10+5)) (Iq d1)).setCell (az pb (cc*10+6)) (Iq d2)).setCell (az pb (cc*10+7)) (Iq d3)) fun e u'=>e=Rw (.tuple #[])/\∃Q',Hid (W4.grownBy u' (some pb))/\Hid (u'.rowIs pb 75 (L.length*10) (lr Q'))/\Hid (jY L en Wd H bi off sn R0 R1 R2 R3 of rm P Q' k (j+1))):=LAY.out;have HE:Hid (Bt W6 W6.drew):=(aj _ _).drew;clear PC hc4 hc5 _1 hc7 Sx Fu Y1 hd3 hQ3 HST KD zgJ;go_wp2_with fail;clear m0 m1 m2 m3 mf ml q0 q1 q2 q3 YQ;go_region_with(go_at_call 87;refine ao (CP _) ?_;rintro e u7 ⟨rfl,qY⟩;have HF7:Hid (Bt W6 u7):=HE.trans (qY.mono HE.size);obtain⟨i0,i1,⟨i2,i3⟩,⟨i4,i5⟩,⟨i6,i7⟩,i8,i9⟩:=HM u7 HF7);all_goals
       go_wp2_with(go_at_call 43;refine ao (LAY u7 HF7) ?_;rintro e u9 ⟨rfl,Q',HG9,HR9,HI9⟩);go_roundw;case rel=>exact⟨j+1,Q',by omega,by go_num,HG9,HR9,HI9⟩
       case measure=>simp[intOf];omega
    ·have aN:¬(j:Int)<(m:Int):=by omega
     obtain rfl:j=m:=by omega
     go_wp2;go_end0;exact⟨rfl,FJ _ gX,Q,X9,iB Q HIj⟩
theorem Jc{s}{L}{Wd}{H}(hT:dZ s L)(hZ:Sz L Wd H){en}(he:En L en)  g cap pb pc   sp   sn sc   bi off   U0  (hN:ju U0 g L.length (ae L)) (hsc:mg U0 sp sn bi off) (xj:sn<=4611686018427387904) (lR:U0.heap.size<=pb):∀f k,L.length<=k+f->k<L.length->∀P U,Bt U0 U->U.rowIs pb 75 (L.length*10) (lr P)->uw en P k->
 Cw 43 #[Sq g L.length cap,Sq pb L.length pc,Iq (k:Int),.slice sp sn sc] U fun e U'=>e=Rw (.tuple #[])/\Hid (Nx L en Wd H bi off sn pb P k U U')
 |0,k,h1,h2,P,U,hU,hR,hP=>by omega
 |f+1,k,h1,h2,P,U,hU,hR,hP=>PZ hT hZ he g cap pb pc sp sn sc bi off U0 hN hsc xj lR k h2 P U hU hR hP fun j hj Q u hu hr hp=>by have:=dM hT h2 hj;exact Jc hT hZ he g cap pb pc sp sn sc bi off U0 hN hsc xj lR f _ (by omega) this.2 Q u hu hr hp
theorem UN:(prog.info? 75).map (fun i=>(i.zero,i.size,i.bytes))=some (some (.agg #[Iq 0,Iq 0,Iq 0,Iq 0,Iq 0,Iq 0,Iq 0,Iq 0,Iq 0,Iq 0]),10,80):=by kernel_rfl
def FO(U U':World)(L:List Nd)(Wd:Nat->Int)(H:Nat->Int->Int)(w h:Int)(bi off:Nat->Int)(sn pb:Nat):Prop:=Bt U U'/\∃P,U'.rowIs pb 75 (L.length*10) (lr P)/\dB L Wd H w h bi off sn P L.length
theorem Eu{s:ByteArray}{L:List Nd}{Wd:Nat->Int}{H:Nat->Int->Int}(hT:dZ s L)(hZ:Sz L Wd H)(g cap:Nat)(sp:Option Addr)(sn sc:Nat)(bi off:Nat->Int)(w h:Int)(U:World)(hN:ju U g L.length (ae L))(hsc:mg U sp sn bi off)(xj:sn<=4611686018427387904)(hw:1<=w/\w<=400)(hh:1<=h/\h<=400):
 Cw 19 #[Sq g L.length cap,Iq w,Iq h,.slice sp sn sc] U fun e U'=>∃pb,e=Rw (Sq pb L.length L.length)/\Hid (FO U U' L Wd H w h bi off sn pb):=by
 have fZ:=hT.pos;have hc:=hT.vl.cnt;obtain⟨i0,hi,eG,fs,gd⟩:=info_parts UN;obtain⟨N,hNe⟩:=ag L.length;have iU:∀W:World,(Instr.makeSlice 32 (Iq (N:Int)) (Iq (N:Int))).run prog W=.ok (Sq W.heap.size N N) (W.alloc (.cells (madeCells #[Iq 0,Iq 0,Iq 0,Iq 0,Iq 0,Iq 0,Iq 0,Iq 0,Iq 0,Iq 0] (N*10)) 75)):=fun W=>by have:=run_make (P:=prog) W 32 75 i0 _ underlying32 hi eG .i64 .i64 N N (by omega) (li _) (by grind) (by omega);rw[fs,lY]at this;exact this
 clear hi eG fs gd;obtain⟨en,he⟩:=zbP hT;obtain⟨pb,lR⟩:=ag U.heap.size;obtain⟨W1,cC⟩:=ag (U.alloc (.cells (madeCells #[Iq 0,Iq 0,Iq 0,Iq 0,Iq 0,Iq 0,Iq 0,Iq 0,Iq 0,Iq 0] (N*10)) 75));have hr1:W1.rowIs pb 75 (N*10) (lr fun _ _=>0):=by have:=sK U N 75;rw[lR,cC]at this;exact this
 have hb1:Bt U W1:=by rw[<-cC];exact((Gr.refl U).alloc _).below
 obtain⟨W2,pU⟩:=ag ((((((((((W1.setCell (az pb 0) (Iq 0)).setCell (az pb 1) (Iq 0)).setCell (az pb 2) (Iq w)).setCell (az pb 3) (Iq h)).setCell (az pb 4) (Iq 0)).setCell (az pb 5) (Iq 0)).setCell (az pb 6) (Iq w)).setCell (az pb 7) (Iq h)).setCell (az pb 8) (Iq 0)).setCell (az pb 9) (Iq 0));obtain⟨P,hP⟩:=ag (bE (bE (bE (bE (bE (bE (bE (bE (bE (bE (fun _ _=>0) 0 0 0) 0 1 0) 0 2 w) 0 3 h) 0 4 0) 0 5 0) 0 6 w) 0 7 h) 0 8 0) 0 9 0);have hr2:W2.rowIs pb 75 (N*10) (lr P):=by rw[<-pU,<-hP];exact eh (eh (eh (eh (eh (eh (eh (eh (eh (eh hr1 0 0 (by omega) 0) 0 1 (by omega) 0) 0 2 (by omega) w) 0 3 (by omega) h) 0 4 (by omega) 0) 0 5 (by omega) 0) 0 6 (by omega) w) 0 7 (by omega) h) 0 8 (by omega) 0) 0 9 (by omega) 0
 have hb2:Bt U W2:=by rw[<-pU];have k:∀{X:World} {o:Nat} {v:Value},Bt U X->Bt U (X.setCell (az pb o) v):=fun hX=>hX.setCell (by grind) _;exact k (k (k (k (k (k (k (k (k (k hb1)))))))))
 have pz:∀i,P i 8=0/\P i 9=0:=fun i=>by rw[<-hP];simp_all[bE]
 have p0:P 0 0=0/\P 0 1=0/\P 0 2=w/\P 0 3=h/\P 0 4=0/\P 0 5=0/\P 0 6=w/\P 0 7=h:=by rw[<-hP];refine⟨rfl,rfl,rfl,rfl,rfl,rfl,rfl,rfl⟩
 have je:uw en P 0:=⟨by omega,by omega,by omega,by omega,fun i _ _=>pz i⟩;have e0:en 0=L.length:=by
  have h1:=he.le 0 fZ;have h2:∀n i,i<n->i<L.length->i<en 0:=fun n=>by
   induction n with
   |zero=>omega
   |succ n ih=>
    intro i _ hi;by_cases q:i=0;·rw[q];exact he.lt 0 fZ
    ·obtain⟨u,k,hu,hk,OX,_⟩:=hT.kid_of i (by omega) hi;have q1:=ih u (by omega) (by omega);have q2:=he.sub 0 u fZ (aZ _) q1;have q3:=he.kid u k (by omega) hk;have q4:=he.st_mono hT (k:=u) (by omega) hk;have q5:=he.st_end hT (k:=u) (by omega) (j:=k+1) (by omega);omega
  have h3:=h2 L.length (L.length-1) (by omega) (by omega);omega
 have LY:Hid (Cw 43 #[Sq g N cap,Sq pb N N,Iq 0,.slice sp sn sc] W2 fun e u'=>e=Rw (.tuple #[])/\Hid (FO U u' L Wd H w h bi off sn pb)):=by rw[<-hNe];rw[<-hNe]at hr2;refine(Jc hT hZ he g cap pb L.length sp sn sc bi off U hN hsc xj (by omega) L.length 0 (by omega) fZ P W2 hb2 hr2 je).mono ?_;rintro e u' ⟨rfl,z⟩;obtain⟨z1,Q,z2,z3,z4,z5⟩:=z.out;refine⟨rfl,C6 hb2 z1 (by omega),Q,z2,dB.all hT hZ hw hh ?_ fun i hi=>z3 i (aZ _) (by omega)⟩;rw[z5 0 (by omega),z5 1 (by omega),z5 2 (by omega),z5 3 (by omega),z5 4 (by omega),z5 5 (by omega),z5 6 (by omega),z5 7 (by omega)];exact p0
 have d0:W1.cell? (az pb 0)=some (Iq 0):=hr1.cell (by omega);have d1:W1.cell? (az pb 1)=some (Iq 0):=hr1.cell (by omega);have d2:W1.cell? (az pb 2)=some (Iq 0):=hr1.cell (by omega);have d3:W1.cell? (az pb 3)=some (Iq 0):=hr1.cell (by omega);have d4:W1.cell? (az pb 4)=some (Iq 0):=hr1.cell (by omega);have d5:W1.cell? (az pb 5)=some (Iq 0):=hr1.cell (by omega);have d6:W1.cell? (az pb 6)=some (Iq 0):=hr1.cell (by omega);have d7:W1.cell? (az pb 7)=some (Iq 0):=hr1.cell (by omega);have d8:W1.cell? (az pb 8)=some (Iq 0):=hr1.cell (by omega);have d9:W1.cell? (az pb 9)=some (Iq 0):=hr1.cell (by omega);have df:=hr1.frozen;have dl:=hr1.lt;have zc0:(0:Int)<(N:Int):=by omega
 have HNe:=qH<|hNe;rw[hNe];clear hr1 hr2 hb1 hb2 hP pz p0 je e0 hN hsc hT hZ he hNe;go_enter func19,ntmps19;go_wp2_with(go_at_call 43;refine ao LY ?_;rintro e u9 ⟨rfl,HO⟩);go_ret;simp_all
