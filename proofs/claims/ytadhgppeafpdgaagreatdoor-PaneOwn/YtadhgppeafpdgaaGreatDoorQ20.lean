import Derived.Test.YtadhgppeafpdgaaGreatDoorQ19
import Derived.RegionDies
set_option linter.all false
set_option maxRecDepth 100000
set_option maxHeartbeats 16000000
namespace Go.Proofs.YtadhgppeafpdgaaGreatDoor
open Go.RowKit Go.Proofs.Tryz
theorem Pm{i}(h:i<0):m_ i=.tuple #[Iq 0,.bool false]:=by grind[m_]
theorem KT{i}(h:¬i<0):m_ i=.tuple #[Iq i,.bool true]:=by grind[m_]
theorem xL  s   i  :dt s i<7:=by
 unfold dt;rcases oF (og s i) eh 0 with h|h;·omega
 ·have:eh.length=7:=rfl;omega
theorem mem_add{w0 w w'}{rb ab B}{E}{s}{st}{L}{i}{er}(h:Mem w0 w rb ab B E s st)(ha:nC w w' rb B s i (Sq ab 12 12) (fu E er) L)(hg:fI s ⟨i,L,er⟩):Mem w0 w' rb ab B E s ⟨i,L,er⟩:=by obtain⟨e,k,_,f,_⟩:=h;obtain⟨nv,KV,p,n,fr,_⟩:=ha;exact⟨e.fr fr,k.fr fr e.rbB e.lo,hg,f.trans fr,nv,KV,p,n⟩
theorem wX(rb ab B:Nat)(E:Nat->Addr)(s:ByteArray)(f:Nat)(hnode:GI rb ab B E s f)(hs:s.size<=100000):GI rb ab B E s (f+1):=by
 intro up depth st w0 w hM hup hd hf;have Sr:=qH<|hnode;have HM:=qH<|hM;obtain⟨env,kn,good,fr,nv,KV,pr,pn⟩:=hM;have qm:=env.rbB;have ri:=env.lo;have Oz:=good.il;have Yy:=good.ll;have HG:=qH<|good;obtain⟨sA,cn0,rfl⟩:∃p c,nv=.slice p st.L.length c:=iE pn.nr.row.choose_spec;have CW:=pi rb s st.i (Sq ab 12 12) (.slice sA st.L.length cn0) (fu E st.er) w pr (by omega) Oz;obtain⟨at_,dm⟩:=af (sk s st.i);have To:at_<=s.size:=by rw[<-dm];exact ng s st.i Oz
 have zgo:st.i<=at_:=by rw[<-dm];exact rM s st.i
 obtain⟨k,hk⟩:=af (run aB s at_);have cZ:k<=s.size:=by rw[<-hk];exact lM _ _ _ To
 obtain⟨t,ht⟩:=af (s.extract at_ k);have HK:Hid (dt s st.i=aJ eh t 0):=by show _=_;unfold dt og;rw[dm,hk,ht]
 have HW:=qH<|fun h=>by have:=rq h Oz;rw[dm,hk]at this;exact this
 rw[dm,hk,ht]at CW;have VE:=qH<|CW;have HPN:=qH<|pn;have CK:Hid (∀W,Kn W->Cw 109 #[.string t] W fun e w'=>e=Rw (m_ (aJ eh t 0))/\w'=W):=fun W hW=>KS t W _ _ _ _ _ _ _ (hW 0 (by omega)) (hW 1 (by omega)) (hW 2 (by omega)) (hW 3 (by omega)) (hW 4 (by omega)) (hW 5 (by omega)) (hW 6 (by omega));rw[<-HK.out]at CK;have Wu:=xL s st.i;have HP:Hid (aG s (f+1) up depth st=if dt s st.i<0 then .error at_ else pd (UG s (dt s st.i).toNat st.L.length k (jU st.er (kN st.L.length depth) at_) (grown st.L ⟨(dt s st.i).toNat,aV,[],[],up⟩)) fun cC=>pc s (dt s st.i).toNat st.L.length (aG s f (st.L.length:Int) (depth+1)) cC):=by show _=_;unfold aG;rw[dm,hk]
 obtain⟨ki,zt⟩:=af (dt s st.i);rw[zt]at CK HP HW Wu;have HT:Hid (∀W,W.cell? (aq 9 0)=some (aT (E 2))->Cw 61 #[Iq (at_:Int)] W fun e w'=>e=Rw (.iface 138 (.agg #[Iq (at_:Int),.iface 371 (.pointer (some (E 2)))]))/\w'=W):=fun W he=>fE _ W (E 2) he;clear CW dm hk ht HK zt pr pn env kn good fr hnode;by_cases kV:ki<0
 ·have GD:Hid (aG s (f+1) up depth st=.error at_):=by show _=_;rw[HP.out,if_pos kV]
  rw[Pm kV]at CK;clear HP HW;go_enter func59,ntmps59;go_wp2_with fail;refine VE.mono ?_;rintro e w1 ⟨rfl,h1,g1⟩;have HF1:=qH<|Fr.grown g1 HM.1.le;have HE1:=qH<|HM.1.fr HF1;have Xm:=qH<|HM.2.1.fr HF1 qm ri;clear h1 g1;go_wp2_with fail;refine(CK _ Xm).mono ?_;rintro e w2 ⟨rfl,hw⟩;obtain rfl:=hw.symm;go_wp2_with fail;refine(HT _ HE1.g2).mono ?_;rintro e w3 ⟨rfl,hw⟩;obtain rfl:=hw.symm;go_wp2;refine⟨rfl,?_⟩;rw[GD.out];exact⟨rfl,HM.2.2.2.1.trans HF1⟩
 ·obtain⟨kind,rfl⟩:∃q:Nat,ki=(q:Int):=⟨ki.toNat,by omega⟩;have jd:kind<7:=by omega
  have znH:=HW kV;have tq:Hid (aG s (f+1) up depth st=pd (UG s kind st.L.length k (jU st.er (kN st.L.length depth) at_) (grown st.L ⟨kind,aV,[],[],up⟩)) fun cC=>pc s kind st.L.length (aG s f (st.L.length:Int) (depth+1)) cC):=by show _=_;rw[HP.out,if_neg kV];simp only[lW]
  rw[KT kV]at CK;have hL:st.L.length<=100000:=by omega
  obtain⟨L1,vP⟩:=af (grown st.L ⟨kind,aV,[],[],up⟩);have zbe:L1.length=st.L.length+1:=by rw[<-vP];exact eJ _ _
  obtain⟨ze,Kx⟩:=af (jU st.er (kN st.L.length depth) at_);have zcj:up<st.L.length:=by omega
  have HG1:Hid (fI s ⟨k,L1,ze⟩):=⟨cZ,by grind,fun j=>by show(ac L1 j).kids.length<=L1.length;rw[zbe,<-vP];exact uj _ _ rfl zcj HG.kl j⟩;have znc:L1.length<=k:=by omega
  have Zy:Hid ((ac L1 st.L.length).kind=kind):=by
   show _=_;rw[<-vP];by_cases hu:up<0;·grind[grown,eq]
   ·rw[oH st.L _ up.toNat (by grind) (by omega),aY _ (by omega),eq]
  rw[vP,Kx]at tq;clear HP HW kV;go_enter func59,ntmps59;go_wp2_with fail;refine VE.mono ?_;rintro e w1 ⟨rfl,h1,g1⟩;have HF1:=qH<|Fr.grown g1 HM.1.le;have HE1:=qH<|HM.1.fr HF1;have Xm:=qH<|HM.2.1.fr HF1 qm ri;have HR1:=qH<|h1;have HN1:=qH<|HPN.up (Up.grown g1 qm);clear h1 g1;go_wp2_with fail;refine(CK _ Xm).mono ?_;rintro e w2 ⟨rfl,hw⟩;obtain rfl:=hw.symm;have CR:Hid (Cw 111 #[Pq rb,Iq (depth:Int)] w1 fun e w'=>e=Rw (ZU E (kN st.L.length depth))/\w'=w1):=by have:=Dt rb s k (Sq ab 12 12) (fu E st.er) sA st.L.length cn0 depth (E 3) (E 4) w1 HR1 HE1.g3 HE1.g4;rw[UU]at this;exact this
  go_wp2_with fail;refine CR.mono ?_;rintro e w3 ⟨rfl,hw⟩;obtain rfl:=hw.symm;have CP:Hid (Cw 110 #[Pq rb,ZU E (kN st.L.length depth),Iq (at_:Int)] w1 fun e w'=>e=Rw (.tuple #[])/\PR w' rb s k (Sq ab 12 12) (.slice sA st.L.length cn0) (fu E ze)/\w1.grownBy w' (some rb)):=by have:=keep_all rb s k (Sq ab 12 12) (.slice sA st.L.length cn0) E st.er (kN st.L.length depth) at_ w1 HR1;rw[Kx]at this;exact this
  clear Kx;go_wp2_with fail;refine CP.mono ?_;rintro e w4 ⟨rfl,h4,g4⟩;have HF4:=qH<|HF1.trans (Fr.grown g4 HE1.le);have HE4:=qH<|HM.1.fr HF4;have HM4:Hid (Mem w0 w4 rb ab B E s ⟨k,st.L,ze⟩):=⟨HE4,HM.2.1.fr HF4 qm ri,⟨cZ,by grind,HG.kl⟩,HM.2.2.2.1.trans HF4,_,KV,h4,HN1.up (Up.grown g4 qm)⟩;have CA:Hid (Cw 112 #[Pq rb,Iq (kind:Int),Iq up] w4 fun e w'=>e=Rw (Iq (st.L.length:Int))/\nC w4 w' rb B s k (Sq ab 12 12) (fu E ze) L1):=by have:=AW rb ab B s k _ (fu E ze) st.L KV kind up w4 h4 (HN1.up (Up.grown g4 qm)) HE4.tab qm HE4.abB HE4.ne HE4.le hL hup (fun j ks hj hks=>by rw[<-hks];have:=HG.kl j;omega);rw[vP]at this;exact this
  clear h4 g4 CP CR HF1 HE1 Xm HR1 HN1 vP;go_wp2_with fail;refine CA.mono ?_;rintro e w5 ⟨rfl,h5⟩;have HM5:=qH<|mem_add HM4 h5 HG1;obtain⟨idx,Yt⟩:=af st.L.length;rw[Yt]at tq zbe Zy hL;rw[Yt];have zt:k=(⟨k,L1,ze⟩:PS).i:=rfl;have CT:Hid (Cw 113 #[Pq rb,.int .u8 123] w5 fun e w'=>e=Rw (.bool (a_ s k 123))/\Mem w0 w' rb ab B E s ⟨aD s k 123,L1,ze⟩):=qt (st:=⟨k,L1,ze⟩) 123 HM5 (by omega) (by omega);have rh:=cY s k 123;have kM:=fT (s:=s) (i:=k) (c:=123) (by omega) cZ;have E5:depth+1<=k:=by omega
  have Yq:s.size<f+k:=by omega
  clear h5 HM4 CA HE4 HF4 Yt HG1 HM HG HPN VE CK HT hup zcj hd hf Oz Yy To zgo zt;by_cases hq:a_ s k 123=true
  ·obtain⟨zfH,kn5,za4,fr5,nv5,KV5,pr5,pn5⟩:=HM5.out;rw[hq]at CT;go_wp2_with fail;refine CT.mono ?_;rintro e w6 ⟨rfl,h6⟩;clear zfH kn5 za4 fr5 pr5 pn5;have VF:=qH<|h6;obtain⟨env,kn,good,fr,nv,ZL,pr,pn⟩:=h6;obtain⟨bl,cap,rfl,hBl,Tr,_,_⟩:=pn.nr.form (by grind);have CA:=qH<|readAttributes_any rb ab B E s (aD s k 123) ze L1 ZL bl cap idx kind w6 env pr pn (by omega) (by omega) Zy jd (by omega) kM;have c3:=pr.c3;have BT:(idx:Int)<(L1.length:Int):=by omega
   clear env kn good fr pr pn CT HM5;cases hp:dF s kind idx (s.size+1) (aD s k 123) ze L1 []with
   |error b=>
    have gI:Hid (aG s (f+1) up depth st=.error b):=by show _=_;rw[tq.out];unfold UG;rw[if_pos hq,hp];rfl
    rw[hp]at CA;clear hp tq hq;go_wp2_with fail;refine CA.mono ?_;rintro e w7 ⟨f7,rfl⟩;refine⟨rfl,?_⟩;rw[gI.out];exact⟨rfl,VF.2.2.2.1.trans (f7.fr VF.1.le hBl)⟩
   |ok r=>
    obtain⟨i2,eT,L2⟩:=r;have iA:Hid (aG s (f+1) up depth st=pc s kind idx (aG s f (idx:Int) (depth+1)) ⟨i2,L2,eT⟩):=by show _=_;rw[tq.out];unfold UG;rw[if_pos hq,hp];rfl
    obtain⟨b1,b2,b3,b4⟩:=tM _ _ _ _ _ _ _ _ kM hp;rw[hp]at CA;clear hp tq hq;go_wp2_with fail;refine CA.mono ?_;rintro e w7 ⟨f7,rfl,h7,n7,l7⟩;have RH:=f7.fr VF.1.le hBl;obtain⟨cC,lB⟩:∃z:PS,⟨i2,L2,eT⟩=z:=⟨_,rfl⟩;have kd1:depth+1<=cC.i:=by rw[<-lB];show depth+1<=i2;omega
    have kf1:s.size<f+cC.i:=by rw[<-lB];show s.size<f+i2;omega
    have T8:idx<cC.L.length:=by rw[<-lB];show idx<L2.length;omega
    have yD:Hid (Mem w0 w7 rb ab B E s cC):=by
     rw[<-lB];refine⟨VF.1.fr RH,VF.2.1.fr RH qm ri,⟨b2,?_,fun j=>?_⟩,VF.2.2.2.1.trans RH,_,ZL,h7,n7⟩;·grind
     ·show(ac L2 j).kids.length<=L2.length;rw[b4,b3];exact VF.2.2.1.kl j
    rw[lB]at iA;clear h7 n7 f7 RH CA lB c3 rh kM E5 Yq Zy VF;have iD:kind=0\/kind=1\/kind=2\/kind=3\/kind=4\/kind=5\/kind=6:=by omega
    have hdi:((depth+1:Nat):Int)=(depth:Int)+1:=by omega
    have hdb:(depth:Int)+1<=1000000:=by have:=yD.2.2.1.il;omega
    have CL:Hid (Cw 117 #[Pq rb,Iq (idx:Int),Iq ((depth:Int)+1)] w7 fun e w'=>dH w0 w' e rb ab B E s (gU s (aG s f (idx:Int) (depth+1)) cC)):=by have:=rI rb ab B E s f Sr (by omega) idx (depth+1) cC w0 w7 yD T8 kd1 kf1;rw[hdi]at this;exact this
    rcases iD with rfl|rfl|rfl|rfl|rfl|rfl|rfl;iterate 3
     ·have vV:Hid (aG s (f+1) up depth st=gU s (aG s f (idx:Int) (depth+1)) cC):=by show _=_;rw[iA.out];rfl
      obtain⟨R,hR⟩:=af (gU s (aG s f (idx:Int) (depth+1)) cC);rw[hR]at CL vV;clear hR iA;go_wp2_with fail;refine CL.mono ?_;cases R with
      |error b=>rintro e x7 ⟨rfl,f7⟩;refine⟨rfl,?_⟩;rw[vV.out];exact⟨rfl,f7⟩
      |ok eX=>rintro e x7 ⟨rfl,h7⟩;have HM7:=qH<|h7;clear h7 CL;go_wp2;go_end0;show dH _ _ _ _ _ _ _ _ _;rw[vV.out];exact⟨rfl,HM7⟩
    iterate 2
     ·by_cases hb:a_ s cC.i 91=true
      ·have CX:Hid (Cw 116 #[Pq rb,.int .u8 91] w7 fun e w'=>dH w0 w' e rb ab B E s (dA s cC 91)):=ep 91 yD (by omega) (by omega);have e1:dA s cC 91=.ok {cC with i:=aD s cC.i 91}:=by unfold dA;rw[if_pos hb]
       rw[e1]at CX;obtain⟨eX,zx⟩:∃z:PS,{cC with i:=aD s cC.i 91}=z:=⟨_,rfl⟩;have z1:cC.i<=eX.i:=by rw[<-zx];exact cY _ _ _
       have z2:eX.L.length=cC.L.length:=by rw[<-zx]
       rw[zx]at CX;have vV:Hid (∀r,aG s f (idx:Int) (depth+1) eX=r->aG s (f+1) up depth st=pd r fun jZ=>dA s jZ 93):=fun r hr=>by rw[iA.out];show qG s (aG s f (idx:Int) (depth+1)) cC=_;grind[qG]
       clear e1 zx hb CL iA;go_wp2_with fail;refine CX.mono ?_;rintro e x7 ⟨rfl,h7⟩;have CN:Hid (Cw 59 #[Pq rb,Iq (idx:Int),Iq ((depth:Int)+1)] x7 fun e w'=>dH w0 w' e rb ab B E s (aG s f (idx:Int) (depth+1) eX)):=by have:=Sr (idx:Int) (depth+1) eX w0 x7 h7 (.inr ⟨by omega,by omega⟩) (by omega) (by omega);rw[hdi]at this;exact this
       clear h7 CX;cases hp:aG s f (idx:Int) (depth+1) eX with
       |error b=>have gI:Hid (aG s (f+1) up depth st=.error b):=vV _ hp;rw[hp]at CN;clear hp vV;go_wp2_with fail;refine CN.mono ?_;rintro e x8 ⟨rfl,f8⟩;refine⟨rfl,?_⟩;rw[gI.out];exact⟨rfl,f8⟩
       |ok jZ=>
        have gI:Hid (aG s (f+1) up depth st=dA s jZ 93):=vV _ hp;rw[hp]at CN;clear hp vV;go_wp2_with fail;refine CN.mono ?_;rintro e x8 ⟨rfl,h8⟩;have CX:Hid (Cw 116 #[Pq rb,.int .u8 93] x8 fun e w'=>dH w0 w' e rb ab B E s (dA s jZ 93)):=ep 93 h8 (by omega) (by omega);obtain⟨R,hR⟩:=af (dA s jZ 93);rw[hR]at CX gI;clear h8 CN hR;go_wp2_with fail;refine CX.mono ?_;cases R with
        |error b=>rintro e x9 ⟨rfl,f9⟩;refine⟨rfl,?_⟩;rw[gI.out];exact⟨rfl,f9⟩
        |ok st4=>rintro e x9 ⟨rfl,h9⟩;have HM9:=qH<|h9;clear h9 CX;go_wp2;go_end0;show dH _ _ _ _ _ _ _ _ _;rw[gI.out];exact⟨rfl,HM9⟩
      ·have CX:Hid (Cw 116 #[Pq rb,.int .u8 91] w7 fun e w'=>dH w0 w' e rb ab B E s (dA s cC 91)):=ep 91 yD (by omega) (by omega);have e1:dA s cC 91=.error (sk s cC.i):=by unfold dA;rw[if_neg hb]
       rw[e1]at CX;have gI:Hid (aG s (f+1) up depth st=.error (sk s cC.i)):=by show _=_;rw[iA.out];show qG s (aG s f (idx:Int) (depth+1)) cC=_;unfold qG;rw[if_neg hb]
       clear e1 hb CL iA;go_wp2_with fail;refine CX.mono ?_;rintro e x7 ⟨rfl,f7⟩;refine⟨rfl,?_⟩;rw[gI.out];exact⟨rfl,f7⟩
    ·obtain⟨env,kn,good,fr,nv,ZL,pr,pn⟩:=yD.out;obtain⟨bl,cap,rfl,hBl,Tr,_,_⟩:=pn.nr.form (by omega);have HEV:=qH<|env;have vM:=qH<|pr;have HPN:=qH<|pn;have CS:Hid (∀W,PR W rb s cC.i (Sq ab 12 12) (Sq bl cC.L.length cap) (fu E cC.er)->W.cell? (aq 9 0)=some (aT (E 2))->Cw 115 #[Pq rb] W fun e w'=>SA W w' e rb s (Sq ab 12 12) (Sq bl cC.L.length cap) (fu E cC.er) (E 2) (mS s cC.i)):=fun W h1 h2=>lI rb s cC.i _ _ _ (E 2) W h1 (by omega) good.il (by omega) h2;have HG1:=qH<|good;clear env kn good fr pr pn CL;cases zw:mS s cC.i with
     |error b=>
      have gI:Hid (aG s (f+1) up depth st=.error b):=by show _=_;rw[iA.out];show iW s idx cC=_;unfold iW;rw[zw]
      rw[zw]at CS;clear zw iA;have c3:=vM.c3;have BT:(idx:Int)<(cC.L.length:Int):=by omega
      go_wp2_with fail;go_region_dies;all_goals refine(CS _ (vM.drewN 1) HEV.g2).mono ?_;rintro e x7 ⟨g7,rfl⟩;refine⟨rfl,?_⟩;rw[gI.out];exact⟨rfl,yD.2.2.2.1.trans ((Fr.drewN B rb w7 1).trans (Fr.grown g7 HEV.le))⟩
     |ok r=>
      obtain⟨i2,tt⟩:=r;have gI:Hid (aG s (f+1) up depth st=.ok {cC with i:=i2,L:=aF cC.L idx tt}):=by show _=_;rw[iA.out];show iW s idx cC=_;unfold iW;rw[zw]
      have HGT:=qH<|(vz (s:=s) (idx:=idx) HG1 (by unfold iW;rw[zw])).good;rw[zw]at CS;clear zw iA;have c3:=vM.c3;have BT:(idx:Int)<(cC.L.length:Int):=by omega
      have ce:=HPN.nr.cells bl rfl idx T8 13 _ (Iu (HPN.len idx T8));obtain⟨ov,TG⟩:∃z:ByteArray,⟨(ac cC.L idx).text.toArray⟩=z:=⟨_,rfl⟩;rw[TG]at ce;have cf:w7.frozen? (aq bl (idx*16+13))=false:=HPN.nr.frz rfl _;have Yg:bl≠rb:=by omega
      clear TG;go_wp2_with fail;go_region_with(first|(go_at_call 115;refine(CS _ (vM.drewN 1) HEV.g2).mono ?_;rintro e x7 ⟨g7,rfl,h7⟩;have HR7:=qH<|h7;have Xk:=qH<|g7;have k3:=h7.c3;have Yc:x7.heap[bl]?=w7.heap[bl]?:=g7.block bl Tr (by grind);have kc:=(ba Yc).trans ce;have kf:=(vI Yc).trans cf;clear h7 g7));all_goals
       have HMT:Hid (Mem w0 (x7.setCell (aq bl (idx*16+13)) (.string ⟨tt.toArray⟩)) rb ab B E s {cC with i:=i2,L:=aF cC.L idx tt}):=by
        have RH:=(Fr.drewN B rb w7 1).trans (Fr.grown Xk HEV.le);have XV:Fr B rb w7 (x7.setCell (aq bl (idx*16+13)) (.string ⟨tt.toArray⟩)):=RH.trans (Fr.own (fw x7 bl _ _) (aH HEV.le RH.size) (fun q e=>by grind));have pn7:=(HPN.up (Up.drewN B w7 1)).up (Up.grown Xk qm);have pn8:=pn7.setText T8 tt;have _C:(aF cC.L idx tt).length=cC.L.length:=by unfold aF;simp
        refine⟨HEV.fr XV,yD.2.1.fr XV qm ri,HGT,yD.2.2.2.1.trans XV,Sq bl cC.L.length cap,ZL,PR.far HR7 (fw x7 bl _ _) (fun q e=>by grind) qm,?_⟩;exact pn8
       clear k3 Yc kc kf Xk HR7 ce cf c3;go_wp2;go_end0;show dH _ _ _ _ _ _ _ _ _;rw[gI.out];exact⟨rfl,HMT⟩
    ·have vV:Hid (aG s (f+1) up depth st=.ok cC):=by show _=_;rw[iA.out];rfl
     clear CL iA;go_wp2;go_end0;show dH _ _ _ _ _ _ _ _ _;rw[vV.out];exact⟨rfl,yD⟩
  ·have iA:Hid (aG s (f+1) up depth st=pc s kind idx (aG s f (idx:Int) (depth+1)) ⟨aD s k 123,L1,ze⟩):=by show _=_;rw[tq.out];unfold UG;rw[if_neg hq];rfl
   rw[show a_ s k 123=false by grind]at CT;clear hq tq;go_wp2_with fail;refine CT.mono ?_;rintro e w6 ⟨rfl,h6⟩;obtain⟨cC,lB⟩:∃z:PS,⟨aD s k 123,L1,ze⟩=z:=⟨_,rfl⟩;have kd1:depth+1<=cC.i:=by rw[<-lB];show depth+1<=aD s k 123;omega
   have kf1:s.size<f+cC.i:=by rw[<-lB];show s.size<f+aD s k 123;omega
   have T8:idx<cC.L.length:=by rw[<-lB];show idx<L1.length;omega
   rw[lB]at h6 iA;have yD:=qH<|h6;clear h6 CT lB HM5 rh kM E5 Yq Zy;have iD:kind=0\/kind=1\/kind=2\/kind=3\/kind=4\/kind=5\/kind=6:=by omega
   have hdi:((depth+1:Nat):Int)=(depth:Int)+1:=by omega
   have hdb:(depth:Int)+1<=1000000:=by have:=yD.2.2.1.il;omega
   have CL:Hid (Cw 117 #[Pq rb,Iq (idx:Int),Iq ((depth:Int)+1)] w6 fun e w'=>dH w0 w' e rb ab B E s (gU s (aG s f (idx:Int) (depth+1)) cC)):=by have:=rI rb ab B E s f Sr (by omega) idx (depth+1) cC w0 w6 yD T8 kd1 kf1;rw[hdi]at this;exact this
   rcases iD with rfl|rfl|rfl|rfl|rfl|rfl|rfl;iterate 3
    ·have vV:Hid (aG s (f+1) up depth st=gU s (aG s f (idx:Int) (depth+1)) cC):=by show _=_;rw[iA.out];rfl
     obtain⟨R,hR⟩:=af (gU s (aG s f (idx:Int) (depth+1)) cC);rw[hR]at CL vV;clear hR iA;go_wp2_with fail;refine CL.mono ?_;cases R with
     |error b=>rintro e x7 ⟨rfl,f7⟩;refine⟨rfl,?_⟩;rw[vV.out];exact⟨rfl,f7⟩
     |ok eX=>rintro e x7 ⟨rfl,h7⟩;have HM7:=qH<|h7;clear h7 CL;go_wp2;go_end0;show dH _ _ _ _ _ _ _ _ _;rw[vV.out];exact⟨rfl,HM7⟩
   iterate 2
    ·by_cases hb:a_ s cC.i 91=true
     ·have CX:Hid (Cw 116 #[Pq rb,.int .u8 91] w6 fun e w'=>dH w0 w' e rb ab B E s (dA s cC 91)):=ep 91 yD (by omega) (by omega);have e1:dA s cC 91=.ok {cC with i:=aD s cC.i 91}:=by unfold dA;rw[if_pos hb]
      rw[e1]at CX;obtain⟨eX,zx⟩:∃z:PS,{cC with i:=aD s cC.i 91}=z:=⟨_,rfl⟩;have z1:cC.i<=eX.i:=by rw[<-zx];exact cY _ _ _
      have z2:eX.L.length=cC.L.length:=by rw[<-zx]
      rw[zx]at CX;have vV:Hid (∀r,aG s f (idx:Int) (depth+1) eX=r->aG s (f+1) up depth st=pd r fun jZ=>dA s jZ 93):=fun r hr=>by rw[iA.out];show qG s (aG s f (idx:Int) (depth+1)) cC=_;grind[qG]
      clear e1 zx hb CL iA;go_wp2_with fail;refine CX.mono ?_;rintro e x7 ⟨rfl,h7⟩;have CN:Hid (Cw 59 #[Pq rb,Iq (idx:Int),Iq ((depth:Int)+1)] x7 fun e w'=>dH w0 w' e rb ab B E s (aG s f (idx:Int) (depth+1) eX)):=by have:=Sr (idx:Int) (depth+1) eX w0 x7 h7 (.inr ⟨by omega,by omega⟩) (by omega) (by omega);rw[hdi]at this;exact this
      clear h7 CX;cases hp:aG s f (idx:Int) (depth+1) eX with
      |error b=>have gI:Hid (aG s (f+1) up depth st=.error b):=vV _ hp;rw[hp]at CN;clear hp vV;go_wp2_with fail;refine CN.mono ?_;rintro e x8 ⟨rfl,f8⟩;refine⟨rfl,?_⟩;rw[gI.out];exact⟨rfl,f8⟩
      |ok jZ=>
       have gI:Hid (aG s (f+1) up depth st=dA s jZ 93):=vV _ hp;rw[hp]at CN;clear hp vV;go_wp2_with fail;refine CN.mono ?_;rintro e x8 ⟨rfl,h8⟩;have CX:Hid (Cw 116 #[Pq rb,.int .u8 93] x8 fun e w'=>dH w0 w' e rb ab B E s (dA s jZ 93)):=ep 93 h8 (by omega) (by omega);obtain⟨R,hR⟩:=af (dA s jZ 93);rw[hR]at CX gI;clear h8 CN hR;go_wp2_with fail;refine CX.mono ?_;cases R with
       |error b=>rintro e x9 ⟨rfl,f9⟩;refine⟨rfl,?_⟩;rw[gI.out];exact⟨rfl,f9⟩
       |ok st4=>rintro e x9 ⟨rfl,h9⟩;have HM9:=qH<|h9;clear h9 CX;go_wp2;go_end0;show dH _ _ _ _ _ _ _ _ _;rw[gI.out];exact⟨rfl,HM9⟩
     ·have CX:Hid (Cw 116 #[Pq rb,.int .u8 91] w6 fun e w'=>dH w0 w' e rb ab B E s (dA s cC 91)):=ep 91 yD (by omega) (by omega);have e1:dA s cC 91=.error (sk s cC.i):=by unfold dA;rw[if_neg hb]
      rw[e1]at CX;have gI:Hid (aG s (f+1) up depth st=.error (sk s cC.i)):=by show _=_;rw[iA.out];show qG s (aG s f (idx:Int) (depth+1)) cC=_;unfold qG;rw[if_neg hb]
      clear e1 hb CL iA;go_wp2_with fail;refine CX.mono ?_;rintro e x7 ⟨rfl,f7⟩;refine⟨rfl,?_⟩;rw[gI.out];exact⟨rfl,f7⟩
   ·obtain⟨env,kn,good,fr,nv,ZL,pr,pn⟩:=yD.out;obtain⟨bl,cap,rfl,hBl,Tr,_,_⟩:=pn.nr.form (by omega);have HEV:=qH<|env;have vM:=qH<|pr;have HPN:=qH<|pn;have CS:Hid (∀W,PR W rb s cC.i (Sq ab 12 12) (Sq bl cC.L.length cap) (fu E cC.er)->W.cell? (aq 9 0)=some (aT (E 2))->Cw 115 #[Pq rb] W fun e w'=>SA W w' e rb s (Sq ab 12 12) (Sq bl cC.L.length cap) (fu E cC.er) (E 2) (mS s cC.i)):=fun W h1 h2=>lI rb s cC.i _ _ _ (E 2) W h1 (by omega) good.il (by omega) h2;have HG1:=qH<|good;clear env kn good fr pr pn CL;cases zw:mS s cC.i with
    |error b=>
     have gI:Hid (aG s (f+1) up depth st=.error b):=by show _=_;rw[iA.out];show iW s idx cC=_;unfold iW;rw[zw]
     rw[zw]at CS;clear zw iA;have c3:=vM.c3;have BT:(idx:Int)<(cC.L.length:Int):=by omega
     go_wp2_with fail;go_region_dies;all_goals refine(CS _ (vM.drewN 1) HEV.g2).mono ?_;rintro e x7 ⟨g7,rfl⟩;refine⟨rfl,?_⟩;rw[gI.out];exact⟨rfl,yD.2.2.2.1.trans ((Fr.drewN B rb w6 1).trans (Fr.grown g7 HEV.le))⟩
    |ok r=>
     obtain⟨i2,tt⟩:=r;have gI:Hid (aG s (f+1) up depth st=.ok {cC with i:=i2,L:=aF cC.L idx tt}):=by show _=_;rw[iA.out];show iW s idx cC=_;unfold iW;rw[zw]
     have HGT:=qH<|(vz (s:=s) (idx:=idx) HG1 (by unfold iW;rw[zw])).good;rw[zw]at CS;clear zw iA;have c3:=vM.c3;have BT:(idx:Int)<(cC.L.length:Int):=by omega
     have ce:=HPN.nr.cells bl rfl idx T8 13 _ (Iu (HPN.len idx T8));obtain⟨ov,TG⟩:∃z:ByteArray,⟨(ac cC.L idx).text.toArray⟩=z:=⟨_,rfl⟩;rw[TG]at ce;have cf:w6.frozen? (aq bl (idx*16+13))=false:=HPN.nr.frz rfl _;have Yg:bl≠rb:=by omega
     clear TG;go_wp2_with fail;go_region_with(first|(go_at_call 115;refine(CS _ (vM.drewN 1) HEV.g2).mono ?_;rintro e x7 ⟨g7,rfl,h7⟩;have HR7:=qH<|h7;have Xk:=qH<|g7;have k3:=h7.c3;have Yc:x7.heap[bl]?=w6.heap[bl]?:=g7.block bl Tr (by grind);have kc:=(ba Yc).trans ce;have kf:=(vI Yc).trans cf;clear h7 g7));all_goals
      have HMT:Hid (Mem w0 (x7.setCell (aq bl (idx*16+13)) (.string ⟨tt.toArray⟩)) rb ab B E s {cC with i:=i2,L:=aF cC.L idx tt}):=by
       have RH:=(Fr.drewN B rb w6 1).trans (Fr.grown Xk HEV.le);have XV:Fr B rb w6 (x7.setCell (aq bl (idx*16+13)) (.string ⟨tt.toArray⟩)):=RH.trans (Fr.own (fw x7 bl _ _) (aH HEV.le RH.size) (fun q e=>by grind));have pn7:=(HPN.up (Up.drewN B w6 1)).up (Up.grown Xk qm);have pn8:=pn7.setText T8 tt;have _C:(aF cC.L idx tt).length=cC.L.length:=by unfold aF;simp
       refine⟨HEV.fr XV,yD.2.1.fr XV qm ri,HGT,yD.2.2.2.1.trans XV,Sq bl cC.L.length cap,ZL,PR.far HR7 (fw x7 bl _ _) (fun q e=>by grind) qm,?_⟩;exact pn8
      clear k3 Yc kc kf Xk HR7 ce cf c3;go_wp2;go_end0;show dH _ _ _ _ _ _ _ _ _;rw[gI.out];exact⟨rfl,HMT⟩
   ·have vV:Hid (aG s (f+1) up depth st=.ok cC):=by show _=_;rw[iA.out];rfl
    clear CL iA;go_wp2;go_end0;show dH _ _ _ _ _ _ _ _ _;rw[vV.out];exact⟨rfl,yD⟩
theorem ph  rb ab B   E   s  (hs:s.size<=100000):∀f,GI rb ab B E s f
 |0=>fun up depth st w0 w h hup hd hf=>absurd h.2.2.1.il (by omega)
 |f+1=>wX rb ab B E s f (ph rb ab B E s hs f) hs
def Dc(s:ByteArray)(st:PS):Except (Option (Nat×Nat)) (List Nd):=if sk s st.i<s.size then .error (some (2,sk s st.i))else match st.er with
 |some f=>.error (some f)
 |none=>.ok st.L
def WN(s:ByteArray):Except Nat PS->Except (Option (Nat×Nat)) (List Nd)
 |.error b=>.error (some (2,b))
 |.ok st=>Dc s st
def bJ(s:ByteArray):Except (Option (Nat×Nat)) (List Nd):=if 4000<s.size then .error none else WN s (aG s (s.size+1) (-1) 0 ⟨0,[],none⟩)
def pv(E:Nat->Addr):Option (Nat×Nat)->Value
 |none=>aT (E 1)
 |some (c,p)=>cD (p:Int) (aT (E c))
def VX(w w':World)(e:Ending)(E:Nat->Addr)(r:Except (Option (Nat×Nat)) (List Nd)):Prop:=Bt w w'/\match r with
 |.error x=>e=.panicked [{v:=pv E x,recovered:=false}]
 |.ok L=>∃nv KV,e=Rw nv/\PN w' w.heap.size nv L KV
structure xe(W:World)(E:Nat->Addr):Prop where
 sz:12<=W.heap.size
 kn:Kn W
 g1:W.cell? (aq 0 0)=some (aT (E 1))
 g2:W.cell? (aq 9 0)=some (aT (E 2))
 g3:W.cell? (aq 1 0)=some (aT (E 3))
 g4:W.cell? (aq 2 0)=some (aT (E 4))
 g5:W.cell? (aq 3 0)=some (aT (E 5))
 g6:W.cell? (aq 4 0)=some (aT (E 6))
 g7:W.cell? (aq 5 0)=some (aT (E 7))
theorem Zg(W:World)  s   av   E  :PR (W.alloc (.cells #[.string s,Iq 0,av,.slice none 0 0,.nilIface] 144)) W.heap.size s 0 av (.slice none 0 0) (fu E none):=
 ⟨by simp,by simp_all,by simp_all,by simp_all,by simp_all,by rw[World.cell?_alloc_at _ _ _ _ rfl];rfl,fun j=>frozen_of_row _ _ _ _ _ (heap_alloc_new _ _)⟩
theorem PN.base{W}{B B'}{nv}{L}{KV}(h:PN W B nv L KV)(hb:B'<=B):PN W B' nv L KV:=by
 obtain⟨xs,hx⟩:=h.nr.row;have own:∀{e:TypeId} {size n:Nat} {v:Value} {ys:List Value},W.ownsRow B e size v n ys->W.ownsRow B' e size v n ys:=fun{e size n v ys} h=>⟨h.1,by
  rcases h.2 with h2|⟨g,cap,cM,a,b,c⟩;·exact .inl h2
  ·exact .inr ⟨g,cap,cM,a,aH hb b,c⟩⟩;exact⟨⟨⟨xs,own hx⟩,h.nr.cells,h.nr.len,fun j hj=>own (h.nr.kids j hj),h.nr.sep⟩,h.len⟩
theorem readTree_any(s:ByteArray)(E:Nat->Addr)(w:World)(hG:xe w E):
 Calls prog 37 #[.string s] w fun e w'=>VX w w' e E (bJ s):=by
 by_cases Ww:4000<s.size
 ·have HP:Hid (bJ s=.error none):=by show _=_;unfold bJ;rw[if_pos Ww]
  have _g:(4000:Int)<(s.size:Int):=by omega
  have g1:w.cell? (aq 0 0)=some (.iface 371 (.pointer (some (E 1)))):=hG.g1;clear hG;go_enter func37,ntmps37;go_wp2;refine⟨rfl,?_⟩;rw[HP.out];exact⟨ag _ _,rfl⟩
 ·have _g:¬(4000:Int)<(s.size:Int):=by omega
  have uu:(s.size:Int)<=4000:=by omega
  have X7:=qH<|hG;have HP:Hid (bJ s=WN s (aG s (s.size+1) (-1) 0 ⟨0,[],none⟩)):=by show _=_;unfold bJ;rw[if_neg Ww]
  obtain⟨A,hA⟩:=af w.heap.size;have CA:Hid (Calls prog 58 #[] w fun e w'=>e=.returned (Sq A 12 12)/\w'=w.alloc (.cells jO 195)):=by have:=tJ w;rw[hA]at this;exact this
  have HT:Hid (MO (w.alloc (.cells jO 195)) A):=by have:=Vh w;rw[hA]at this;exact this
  have HB1:Hid (Below A w (w.alloc (.cells jO 195))):=by show Below _ _ _;rw[<-hA];exact(ag _ _).alloc (ae _) _
  obtain⟨w1,iO⟩:=af (w.alloc (.cells jO 195));have hs1:w1.heap.size=A+1:=by rw[<-iO,aA,hA]
  rw[iO]at CA HT HB1;have HAs:=qH<|hA;have ri:=hG.sz;rw[hA]at ri;clear hG iO hA;go_enter func37,ntmps37;go_wp2_with fail;refine CA.mono ?_;rintro e w1' ⟨rfl,hw⟩;obtain rfl:=hw.symm;go_wp2_with fail;obtain⟨w2,sW⟩:=af (w1.alloc (.cells #[.string s,Iq 0,Sq A 12 12,.slice none 0 0,.nilIface] 144));have jD:w2.heap.size=A+2:=by rw[<-sW,aA,hs1]
  have HB2:Hid (Below A w w2):=by rw[<-sW];exact HB1.alloc (by omega) _
  have vM:Hid (PR w2 (A+1) s 0 (Sq A 12 12) (.slice none 0 0) (fu E none)):=by rw[<-sW,<-hs1];exact Zg _ _ _ _
  have HT2:Hid (MO w2 A):=by have:=HT.fr (Fr.below (B:=A+1) (r:=A+1) ((ag w1.heap.size w1).alloc (ae _) (.cells #[.string s,Iq 0,Sq A 12 12,.slice none 0 0,.nilIface] 144)) (by omega)) (by omega) (by omega);rw[sW]at this;exact this
  have hc:∀(g:Nat) v,g<12->w.cell? (aq g 0)=some v->w2.cell? (aq g 0)=some v:=fun g v hg e=>(HB2.cell (p:=(aq g 0)) (by grind)).trans e;have HEV:Hid (Vx w2 (A+1) A (A+2) E):=⟨HT2,by omega,by omega,by omega,by omega,by omega,hc _ _ (by decide) X7.g2,hc _ _ (by decide) X7.g3,hc _ _ (by decide) X7.g4,hc _ _ (by decide) X7.g5,hc _ _ (by decide) X7.g6,hc _ _ (by decide) X7.g7⟩;have Ru:Hid (Kn w2):=fun j hj=>(HB2.cell (p:=(aq 11 j)) (by grind)).trans (X7.kn j hj);have HM:Hid (Mem w2 w2 (A+1) A (A+2) E s ⟨0,[],none⟩):=⟨HEV,Ru,⟨bm _,ae _,fun j=>bm _⟩,Fr.refl _ _ _,_,fun _=>.nilFunc,vM,⟨NR.nothing _ _ _ _ _ _ _,fun j hj=>absurd hj (by grind)⟩⟩;have CN:Hid (Calls prog 59 #[Pq (A+1),Iq (-1),Iq 0] w2 fun e w'=>dH w2 w' e (A+1) A (A+2) E s (aG s (s.size+1) (-1) 0 ⟨0,[],none⟩)):=ph (A+1) A (A+2) E s (by omega) (s.size+1) (-1) 0 ⟨0,[],none⟩ w2 w2 HM (.inl rfl) (ae _) (by omega);have HBF:Hid (∀w',Fr (A+2) (A+1) w2 w'->Below w.heap.size w w'):=fun w' f=>by rw[HAs.out];exact HB2.trans ⟨f.os,f.tape,f.output,f.size,fun k hk=>f.block k (by omega) (by omega)⟩
  have zg0:Hid (∀W,W.cell? (aq 9 0)=some (aT (E 2))->∀(q:Nat),Calls prog 61 #[Iq (q:Int)] W fun e w'=>e=.returned (.iface 138 (.agg #[Iq (q:Int),.iface 371 (.pointer (some (E 2)))]))/\w'=W):=fun W he q=>fE _ W (E 2) he;rw[sW];clear sW hc HT HB1 CA hs1;cases hp:aG s (s.size+1) (-1) 0 ⟨0,[],none⟩with
  |error b=>
   have gI:Hid (bJ s=.error (some (2,b))):=by show _=_;rw[HP.out,hp];rfl
   rw[hp]at CN;clear hp HP;refine CN.mono ?_;rintro e w3 ⟨rfl,f3⟩;refine⟨rfl,?_⟩;rw[gI.out];exact⟨HBF _ f3,rfl⟩
  |ok st=>
   have gI:Hid (bJ s=Dc s st):=by show _=_;rw[HP.out,hp];rfl
   rw[hp]at CN;clear hp HP;refine CN.mono ?_;rintro e w3 ⟨rfl,env3,kn3,Wf,fr3,nv,KV,pr3,pn3⟩;have CB:=qH<|skipBlanks_any (A+1) s st.i _ nv _ w3 pr3 (by omega) Wf.il;have HE3:=qH<|env3;have HF3:=qH<|fr3;have HN3:=qH<|pn3;obtain⟨i2,qi⟩:=af (sk s st.i);have Jr:Hid (bJ s=if i2<s.size then .error (some (2,i2))else match st.er with
    |some f=>.error (some f)
    |none=>.ok st.L):=by show _=_;rw[gI.out];unfold Dc;rw[qi]
   rw[qi]at CB;clear env3 kn3 Wf fr3 pr3 pn3 CN qi gI;go_wp2_with fail;refine CB.mono ?_;rintro e w4 ⟨rfl,h4,g4⟩;have HF4:=qH<|HF3.trans (Fr.grown g4 HE3.le);have HN4:=qH<|HN3.up (Up.grown g4 (by omega));have HE4:=qH<|HE3.fr (Fr.grown g4 HE3.le);have c1:=h4.c1;have c3:=h4.c3;have c4:=h4.c4;clear h4 g4 CB HF3 HN3 HE3;by_cases hlt:i2<s.size
   ·have aR:(i2:Int)<(s.size:Int):=by omega
    have HR3:Hid (bJ s=.error (some (2,i2))):=by show _=_;rw[Jr.out,if_pos hlt]
    clear Jr;go_wp2_with fail;refine(zg0 _ HE4.g2 i2).mono ?_;rintro e w5 ⟨rfl,hw⟩;obtain rfl:=hw.symm;go_wp2;refine⟨rfl,?_⟩;rw[HR3.out];exact⟨HBF _ HF4,rfl⟩
   ·cases L4:st.er with
    |none=>
     have HR3:Hid (bJ s=.ok st.L):=by show _=_;rw[Jr.out,if_neg hlt,L4]
     rw[L4]at c4;have c4':w4.cell? (aq (A+1) 4)=some .nilIface:=c4;clear Jr c4 L4;go_wp2;go_ret;show VX _ _ _ _ _;rw[HR3.out];exact⟨HBF _ HF4,nv,KV,rfl,HN4.base (by rw[HAs.out];omega)⟩
    |some fp=>
     obtain⟨c,q⟩:=fp;have HR3:Hid (bJ s=.error (some (c,q))):=by show _=_;rw[Jr.out,if_neg hlt,L4]
     rw[L4]at c4;have c4':w4.cell? (aq (A+1) 4)=some (.iface 138 (.agg #[Iq (q:Int),.iface 371 (.pointer (some (E c)))])):=c4;clear Jr c4 L4;go_wp2;refine⟨rfl,?_⟩;rw[HR3.out];exact⟨HBF _ HF4,rfl⟩
def DK(name:ByteArray)(kind:Nat):Option Nat:=if aJ cE name 0<0\/lH kind (aJ cE name 0).toNat=false then none else some (aJ cE name 0).toNat
theorem vt  j kind  (hj:j<12) (hk:kind<7):dR (iz j) kind 12 0=DK (iz j) kind:=by
 have h1:j=0\/j=1\/j=2\/j=3\/j=4\/j=5\/j=6\/j=7\/j=8\/j=9\/j=10\/j=11:=by omega
 have h2:kind=0\/kind=1\/kind=2\/kind=3\/kind=4\/kind=5\/kind=6:=by omega
 rcases h1 with rfl|rfl|rfl|rfl|rfl|rfl|rfl|rfl|rfl|rfl|rfl|rfl<;>rcases h2 with rfl|rfl|rfl|rfl|rfl|rfl|rfl<;>decide
theorem pF{name}  kind  (h:∀j,j<12->iz j≠name):dR name kind 12 0=none/\aJ cE name 0=-1:=by
 have hs:∀f j,j+f<=12->dR name kind f j=none:=fun f=>by
  induction f with
  |zero=>intro j _;rfl
  |succ f ih=>grind[dR]
 have hf:∀(ws:List ByteArray) k,(∀x∈ws,x≠name)->aJ ws name k=-1:=fun ws=>by
  induction ws with
  |nil=>intro k _;rfl
  |cons a r ih=>grind[aJ]
 refine⟨hs 12 0 (by omega),hf cE 0 (fun x hx=>?_)⟩;obtain⟨j,hj,rfl⟩:=List.getElem_of_mem hx;have Ht:j<12:=hj;grind[iz]
theorem Vc  name   kind  (hk:kind<7):dR name kind 12 0=DK name kind:=by grind[iz,vt,pF,DK]
theorem Ke{name}(h:¬aJ cE name 0<0):(aJ cE name 0).toNat<12/\iz (aJ cE name 0).toNat=name:=by
 by_cases hx:∃j,j<12/\iz j=name
 ·obtain⟨j,hj,rfl⟩:=hx;have h1:j=0\/j=1\/j=2\/j=3\/j=4\/j=5\/j=6\/j=7\/j=8\/j=9\/j=10\/j=11:=by omega
  rcases h1 with rfl|rfl|rfl|rfl|rfl|rfl|rfl|rfl|rfl|rfl|rfl|rfl<;>decide
 ·exact absurd (by rw[(pF (name:=name) 0 (fun j hj e=>hx ⟨j,hj,e⟩)).2];decide) h
theorem Y9{i j}(hi:i<12)(hj:j<12)(h:iz i=iz j):i=j:=by
 have h1:i=0\/i=1\/i=2\/i=3\/i=4\/i=5\/i=6\/i=7\/i=8\/i=9\/i=10\/i=11:=by omega
 have key:∀i,i<12->(aJ cE (iz i) 0).toNat=i:=by decide
 grind
theorem BB  ws   x y  :∀k,(0<=aJ (ws++[y]) x k↔(0<=aJ ws x k\/y=x)):=by
 induction ws with
 |nil=>grind[aJ]
 |cons a r ih=>grind[aJ]
theorem JA  f   c p c2 p2  :jN (jN f c p) c2 p2=jN f c p:=by cases f<;>rfl
theorem kj  b   f   c p c2 p2  :dW b (jN f c p) c2 p2=jN f c p:=by grind[dW,JA]
theorem AV{f:jA}(h:f≠none)  c p  :jN f c p=f:=by cases f with
 |none=>grind
 |some x=>rfl
theorem ow  f   c p  :jN f c p≠none:=by cases f<;>simp[jN]
theorem Gl  L   kind   a   up   ix   n  :(grown L ⟨kind,a,[],[],up⟩).modify L.length (fun d=>{d with attr:=d.attr.set ix n})=grown L ⟨kind,a.set ix n,[],[],up⟩:=by
 have key:∀(M:List Nd) (d:Nd) (f:Nd->Nd),M.length=L.length->(M++[d]).modify L.length f=M++[f d]:=fun M d f hM=>by apply IV;grind
 grind[grown]
theorem BJ  L   d  :(grown L d).map (fun x=>x.attr)=L.map (fun x=>x.attr)++[d.attr]:=by
 unfold grown;split;·simp
 ·rw[pK];congr 1;apply IV;grind
theorem xE  L   k   n  :fV L k n=(L.map fun x=>x.attr).any fun a=>a[k]?.getD 0==n:=by grind[fV]
theorem BQ  L   d   n  :fV (grown L d) 0 n=(m7 L n||(d.attr[0]?.getD 0==n)):=by rw[xE,BJ,List.any_append,<-xE,E3];simp
structure Mh(kind:Nat)(up:Int)(L:List Nd)(er:jA)(a:List Int)(seen:List Nat)(L':List Nd)(ws:List ByteArray):Prop where
 len:L'.length=L.length+1
 same:er=none->L'=grown L ⟨kind,a,[],[],up⟩
 q:∀ix,ix<12->lH kind ix=true->(seen.contains ix=true↔0<=aJ ws (iz ix) 0)
 z:seen.contains 0=false->a[0]?.getD 0=0
def aEq(kind:Nat)(up:Int)(L:List Nd)(ws:List ByteArray)(r:Except Nat (Nat×jA×List Int×List Nat))(r':Except Nat (Nat×jA×List Nd×ByteArray)):Prop:=match r,r' with
 |.error b,.error b'=>b=b'
 |.ok (i,er,a,seen),.ok (i',er',L',t)=>i=i'/\er=er'/\Mh kind up L er a seen L' (ws++[t])
 |_,_=>False
theorem WG  ix  :nW ix=lF[ix]?.getD 0:=rfl
theorem JH{s}{kind}{up}{L}{er}{a}{seen}{L'}{ws}(hk:kind<7)(h:Mh kind up L er a seen L' ws)  i  :
 aEq kind up L ws (iK s kind L i er a seen) (eD s kind ws L' L.length i er):=by
 unfold iK eD;simp only[];by_cases OB:run aB s (sk s i)=sk s i;·rw[if_pos OB,if_pos OB];rfl
 ·rw[if_neg OB,if_neg OB];obtain⟨at_,dm⟩:=af (sk s i);obtain⟨k,jd⟩:=af (run aB s at_);obtain⟨t,ht⟩:=af (s.extract at_ k);rw[dm,jd,ht];unfold fY;by_cases hq:a_ s k 61=true
  ·rw[if_pos hq,if_pos hq];unfold sx;simp only[];obtain⟨j2,L5⟩:=af (sk s (aD s k 61));obtain⟨e2,Yp⟩:=af (run aP s j2);rw[L5,Yp];by_cases hb:kD s j2 e2=true;·rw[if_pos hb,if_pos hb];rfl
   ·rw[if_neg hb,if_neg hb];obtain⟨n,hn⟩:=af (dv s j2 (e2-j2));rw[hn];have OO:=Vc t kind hk;unfold DK at OO;by_cases _o:aJ cE t 0<0\/lH kind (aJ cE t 0).toNat=false
    ·rw[if_pos _o];rw[if_pos _o]at OO;have hao:sa t kind ws=some 7:=by unfold sa;rw[OO]
     rw[hao];refine⟨rfl,rfl,h.len,fun e=>absurd e (ow _ _ _),fun ix BT how=>?_,h.z⟩;rw[h.q ix BT how,BB];constructor;·omega
     ·rintro(q|rfl);·exact q
      ·exfalso;rcases _o with h1|h1
       ·have h2:=(vt ix kind BT hk);rw[OO]at h2;unfold DK at h2;rw[if_neg (by
         have key:∀i,i<12->¬aJ cE (iz i) 0<0:=by decide
         grind)]at h2;cases h2
       ·have key:∀i,i<12->(aJ cE (iz i) 0).toNat=i:=by decide
        grind
    ·rw[if_neg _o];rw[if_neg _o]at OO;have fW:¬aJ cE t 0<0:=fun q=>_o (.inl q);have how:lH kind (aJ cE t 0).toNat=true:=by
      cases ho:lH kind (aJ cE t 0).toNat with
      |true=>rfl
      |false=>grind
     obtain⟨BT,hnm⟩:=Ke fW;obtain⟨ix,hixe⟩:=af ((aJ cE t 0).toNat);have zgL:aJ cE t 0=(ix:Int):=by omega
     rw[hixe]at OO how BT hnm⊢;rw[zgL];have zw:=h.q ix BT how;rw[hnm]at zw;have har:yJ t kind=ix:=by unfold yJ;rw[OO];rfl
     rw[har];have BV:∀_F,_F<12->lH kind _F=true->((ix::seen).contains _F=true↔0<=aJ (ws++[t]) (iz _F) 0):=fun _F zgK zhe=>by rw[BB,<-h.q _F zgK zhe,List.contains_cons];grind[Y9]
     have hz':(ix::seen).contains 0=false->(a.set ix n)[0]?.getD 0=0:=fun e=>by
      rw[List.contains_cons]at e;simp only[Bool.or_eq_false_iff]at e;have bj:ix≠0:=fun q=>by grind
      rw[vH bj];exact h.z e.2
     have _l:0<=n:=by have:=(zcE s (aD s k 61) (-1)).1;unfold nV at this;rw[if_pos (by decide),L5,Yp,hn]at this;exact this
     by_cases hc:seen.contains ix=true
     ·have hf:=zw.1 hc;have hao:sa t kind ws=some 5:=by unfold sa;rw[OO];simp only[if_pos hf]
      rw[hao,hc];have e1:dW true er 5 at_=jN er 5 at_:=rfl;rw[e1,kj,kj];exact⟨rfl,rfl,h.len,fun e=>absurd e (ow _ _ _),BV,hz'⟩
     ·have hf:¬0<=aJ ws t 0:=fun q=>hc (zw.2 q);have hao:sa t kind ws=none:=by unfold sa;rw[OO];simp only[if_neg hf]
      have hcf:seen.contains ix=false:=by simpa using hc
      rw[hao,hcf];have e1:dW false er 5 at_=er:=rfl;rw[e1];show _=_/\_=_/\Mh kind up L _ _ _ _ _;by_cases hm:nW ix<n
      ·have e2':dW (decide (lF[ix]?.getD 0<n)) er 6 j2=jN er 6 j2:=by rw[<-WG,decide_eq_true hm];rfl
       have e3:zY L' ix n=some 6:=by unfold zY;rw[if_pos hm]
       have e4:pB L' L.length ix n=L':=by unfold pB;rw[if_pos (.inl hm)]
       rw[e2',kj,e3,e4];exact⟨rfl,rfl,h.len,fun e=>absurd e (ow _ _ _),BV,hz'⟩
      ·have e2':dW (decide (lF[ix]?.getD 0<n)) er 6 j2=er:=by rw[<-WG,decide_eq_false hm];rfl
       have e3:zY L' ix n=if wY L' ix n=true then some 5 else none:=by unfold zY;rw[if_neg hm]
       have e4:pB L' L.length ix n=if wY L' ix n=true then L' else L'.modify L.length fun d=>{d with attr:=d.attr.set ix n}:=by
        unfold pB;by_cases Ma:wY L' ix n=true;·grind
        ·grind
       rw[e2',e3];by_cases L4:er=none
       ·have hL':=h.same L4;have Ma:wY L' ix n=(decide ((ix:Int)=0/\0<n)&&m7 L n):=by
         unfold wY;by_cases hi0:ix=0;·subst hi0;have ha0:=h.z hcf;rw[hL',BQ];show((0:Nat)==0&&(n !=oe 0)&&(m7 L n||(a[0]?.getD 0==n)))=_;rw[ha0];have hw:oe 0=0:=rfl;grind
         ·grind[sF]
        rw[<-Ma];by_cases hs1:wY L' ix n=true;·rw[if_pos hs1,e4,if_pos hs1,hs1];exact⟨rfl,rfl,h.len,fun e=>absurd e (ow _ _ _),BV,hz'⟩
        ·rw[if_neg hs1,e4,if_neg hs1];have jD:wY L' ix n=false:=by simpa using hs1
         rw[jD];refine⟨rfl,rfl,by simpa using h.len,fun _=>?_,BV,hz'⟩;grind[Gl]
       ·have k1:∀b,dW b er 5 j2=er:=fun b=>by grind[dW,AV]
        have k2:∀o,jU er o j2=er:=fun o=>by cases o with
         |none=>rfl
         |some c=>exact AV L4 _ _
        rw[k1,k2];exact⟨rfl,rfl,by rw[rL];exact h.len,fun e=>absurd e L4,BV,hz'⟩
  ·rw[if_neg hq,if_neg hq];rfl
theorem B_  s   i c  :a_ s (sk s i) c=a_ s i c:=by unfold a_;rw[DD]
theorem BI  s   i c  :aD s (sk s i) c=aD s i c:=by unfold aD;rw[DD]
theorem zk{s}{i c}(h:¬a_ s i c=true):aD s i c=sk s i:=by grind[a_,aD]
def bEq(kind:Nat)(up:Int)(L:List Nd)(r:Except Nat (Nat×jA×List Int))(r':Except Nat (Nat×jA×List Nd)):Prop:=match r,r' with
 |.error b,.error b'=>b=b'
 |.ok (i,er,a),.ok (i',er',L')=>i=i'/\er=er'/\L'.length=L.length+1/\(er=none->L'=grown L ⟨kind,a,[],[],up⟩)
 |_,_=>False
theorem A5{s}{kind}{up}{L}(hk:kind<7):∀f i er a seen L' ws,Mh kind up L er a seen L' ws->bEq kind up L (dY s kind L f i er a seen) (dF s kind L.length f i er L' ws)
 |0,i,er,a,seen,L',ws,h=>rfl
 |f+1,i,er,a,seen,L',ws,h=>by
  have hs:=JH (s:=s) hk h i;unfold dY dF;revert hs;cases iK s kind L i er a seen with
  |error b=>
   cases eD s kind ws L' L.length i er with
   |error b'=>exact fun q=>q
   |ok r=>exact fun q=>q.elim
  |ok r=>
   obtain⟨i2,eT,a2,pA⟩:=r;cases eD s kind ws L' L.length i er with
   |error b'=>exact fun q=>q.elim
   |ok r'=>
    obtain⟨i3,er3,L3,t⟩:=r';rintro⟨rfl,rfl,h2⟩;show bEq kind up L (if a_ s i2 59=true then _ else _) (if a_ s i2 59=true then _ else _);by_cases hq:a_ s i2 59=true;·rw[if_pos hq,if_pos hq];exact A5 hk f _ _ _ _ _ _ h2
    ·rw[if_neg hq,if_neg hq,zk hq];unfold nZ fY;rw[B_,BI,DD];by_cases hc:a_ s i2 125=true;·rw[if_pos hc,if_pos hc];exact⟨rfl,rfl,h2.len,h2.same⟩
     ·rw[if_neg hc,if_neg hc];rfl
structure Ai(a b:PS):Prop where
 i:a.i=b.i
 er:a.er=b.er
 len:a.L.length=b.L.length
 same:a.er=none->a.L=b.L
def Ej(r r':Except Nat PS):Prop:=match r,r' with
 |.error b,.error b'=>b=b'
 |.ok a,.ok b=>Ai a b
 |_,_=>False
theorem Ai.to{a b}(h:Ai a b)  i  :Ai {a with i:=i} {b with i:=i}:=⟨rfl,h.er,h.len,h.same⟩
theorem N6{s:ByteArray}{a b:PS}{c:Nat}(h:Ai a b):Ej (match fY s a.i c with
 |.error e=>.error e
 |.ok i=>.ok {a with i:=i}) (dA s b c):=by
 unfold fY dA;rw[h.i];by_cases hq:a_ s b.i c=true;·rw[if_pos hq,if_pos hq];exact h.to _
 ·rw[if_neg hq,if_neg hq];rfl
theorem XR{s}{b}{c}:dA s {b with i:=sk s b.i} c=dA s b c:=by grind[dA,a_,sk,B_,aD,BI,DD]
theorem Ib{s}{bn iU}(hn:∀a b,Ai a b->Ej (bn a) (iU b)):∀f a b,Ai a b->Ej (iQ s bn f a) (ig s iU f b)
 |0,a,b,h=>h.i
 |f+1,a,b,h=>by
  have h1:=hn a b h;unfold iQ ig;revert h1;cases bn a with
  |error e=>
   cases iU b with
   |error e'=>grind
   |ok b2=>exact fun q=>q.elim
  |ok a2=>
   cases iU b with
   |error e'=>exact fun q=>q.elim
   |ok b2=>
    intro h2;have zn:Ai a2 b2:=h2;show Ej (if a_ s a2.i 44=true then _ else _) (if a_ s b2.i 44=true then _ else _);rw[zn.i];by_cases hq:a_ s b2.i 44=true;·rw[if_pos hq,if_pos hq];exact Ib hn f _ _ (zn.to _)
    ·rw[if_neg hq,if_neg hq,zk hq,XR];have:=N6 (s:=s) (c:=93) zn;rw[zn.i]at this;omega
theorem si{L M}{d e}(h:L.length=M.length):(grown L d).length=(grown M e).length:=by grind[eJ]
theorem Vk{s:ByteArray}{idx:Nat}{a b:PS}(h:Ai a b):Ej (match mS s a.i with
 |.error e=>.error e
 |.ok (i2,t)=>.ok {a with i:=i2,L:=aF a.L idx t}) (iW s idx b):=by
 unfold iW;rw[h.i];cases mS s b.i with
 |error e=>rfl
 |ok r=>obtain⟨i2,t⟩:=r;exact⟨rfl,h.er,by show(aF a.L idx t).length=(aF b.L idx t).length;unfold aF;simpa using h.len,fun q=>by show aF a.L idx t=aF b.L idx t;rw[h.same q]⟩
theorem Uk{s:ByteArray}{bn iU:PS->Except Nat PS}(hn:∀a b,Ai a b->Ej (bn a) (iU b)){a b:PS}(h:Ai a b):Ej (match fY s a.i 91 with
 |.error e=>.error e
 |.ok i2=>if a_ s i2 93 then .ok {a with i:=aD s i2 93}else iQ s bn (s.size+1) {a with i:=sk s i2}) (gU s iU b):=by
 unfold fY gU;rw[h.i];by_cases hq:a_ s b.i 91=true
 ·rw[if_pos hq,if_pos hq];show Ej (if a_ s (aD s b.i 91) 93=true then _ else _) _;by_cases hc:a_ s (aD s b.i 91) 93=true;·rw[if_pos hc,if_pos hc];exact h.to _
  ·rw[if_neg hc,if_neg hc,zk hc];exact Ib hn _ _ _ (h.to _)
 ·rw[if_neg hq,if_neg hq];rfl
theorem Zb{s:ByteArray}{bn iU:PS->Except Nat PS}(hn:∀a b,Ai a b->Ej (bn a) (iU b)){a b:PS}(h:Ai a b):Ej (match fY s a.i 91 with
 |.error e=>.error e
 |.ok i2=>match bn {a with i:=i2}with
  |.error e=>.error e
  |.ok jZ=>match fY s jZ.i 93 with
   |.error e=>.error e
   |.ok i4=>.ok {jZ with i:=i4}) (qG s iU b):=by
 unfold fY qG;rw[h.i];by_cases hq:a_ s b.i 91=true
 ·rw[if_pos hq,if_pos hq];have h1:=hn _ _ (h.to (aD s b.i 91));unfold pd;revert h1;show Ej (bn {a with i:=aD s b.i 91}) _->Ej (match bn {a with i:=aD s b.i 91}with
   |.error e=>.error e
   |.ok jZ=>_) _;cases bn {a with i:=aD s b.i 91}with
  |error e=>
   cases iU {b with i:=aD s b.i 91}with
   |error e'=>grind
   |ok b2=>exact fun q=>q.elim
  |ok a2=>
   cases iU {b with i:=aD s b.i 91}with
   |error e'=>exact fun q=>q.elim
   |ok b2=>exact fun q=>N6 (s:=s) (c:=93) q
 ·rw[if_neg hq,if_neg hq];rfl
theorem G7{s}{kind idx}{bn iU}(hk:kind<7)(hn:∀a b,Ai a b->Ej (bn a) (iU b)){a b}(h:Ai a b):Ej (lk s kind idx bn a) (pc s kind idx iU b):=by
 unfold lk pc;by_cases h3:kind<3;·rw[if_pos h3,if_neg (by omega),if_neg (by omega),if_neg (by omega)];exact Uk hn h
 ·rw[if_neg h3];by_cases h5:kind<5;·rw[if_pos h5,if_neg (by omega),if_neg (by omega),if_pos (by omega)];exact Zb hn h
  ·rw[if_neg h5];by_cases h6:kind=5;·rw[if_pos h6,if_pos h6];exact Vk h
   ·rw[if_neg h6,if_neg h6,if_pos (by omega)];exact h
theorem Qk  er   n depth p  :dW (decide (12<=depth)) (dW (decide (100<=n)) er 3 p) 4 p=jU er (kN n depth) p:=by
 unfold kN;by_cases h1:100<=n;·rw[decide_eq_true h1,if_pos h1];show dW _ (jN er 3 p) 4 p=_;rw[kj];rfl
 ·rw[decide_eq_false h1,if_neg h1];show dW _ er 4 p=_;by_cases h2:12<=depth;·rw[decide_eq_true h2,if_pos h2];rfl
  ·rw[decide_eq_false h2,if_neg h2];rfl
theorem zC{s}{i}(e:run aB s (sk s i)=sk s i):dt s i<0:=by
 have:og s i=ByteArray.empty:=by unfold og;rw[e];apply ju;simp
 unfold dt;rw[this];decide
theorem Fu{er}{o}{p}(h:jU er o p=none):er=none:=by
 cases o with
 |none=>exact h
 |some c=>exact absurd h (ow _ _ _)
theorem Ih{s}:∀f  up  depth a b,Ai a b->Ej (js s f up depth a) (aG s f up depth b)
 |0,up,depth,a,b,h=>h.i
 |f+1,up,depth,a,b,h=>by
  unfold js aG;simp only[];rw[h.i,h.len];have Wv:aJ eh (s.extract (sk s b.i) (run aB s (sk s b.i))) 0=dt s b.i:=rfl;rw[Wv];by_cases kV:dt s b.i<0;·rw[if_pos (.inr kV),if_pos kV];rfl
  ·have OB:¬run aB s (sk s b.i)=sk s b.i:=fun e=>kV (zC e);rw[if_neg (by rintro(q|q);exact OB q;exact kV q),if_neg kV];have Wu:=xL s b.i;obtain⟨kind,zbM⟩:=af ((dt s b.i).toNat);have hk:kind<7:=by omega
   obtain⟨k,jd⟩:=af (run aB s (sk s b.i));rw[zbM,jd,Qk,h.er];obtain⟨ze,Kx⟩:=af (jU b.er (kN b.L.length depth) (sk s b.i));rw[Kx];have h0:=fun q=>h.same (by rw[h.er];exact Fu (Kx.trans q));have hnode:∀x y,Ai x y->Ej (js s f (b.L.length:Int) (depth+1) x) (aG s f (b.L.length:Int) (depth+1) y):=fun x y Ay=>Ih f _ _ x y Ay;unfold pV UG;by_cases hq:a_ s k 123=true;·rw[if_pos hq,if_pos hq];have hA:Mh kind up a.L ze aV [] (grown b.L ⟨kind,aV,[],[],up⟩) []:=⟨by rw[eJ,h.len],fun q=>by rw[h0 q],fun ix BT how=>by simp[aJ],fun _=>rfl⟩;have hE:=A5 (s:=s) hk (s.size+1) (aD s k 123) ze aV [] _ [] hA;rw[h.len]at hE;revert hE;cases hx:dY s kind a.L (s.size+1) (aD s k 123) ze aV []with
    |error e=>
     cases dF s kind b.L.length (s.size+1) (aD s k 123) ze (grown b.L ⟨kind,aV,[],[],up⟩) []with
     |error e'=>exact fun q=>q
     |ok r=>exact fun q=>q.elim
    |ok r=>
     obtain⟨i2,eT,a2⟩:=r;cases hy:dF s kind b.L.length (s.size+1) (aD s k 123) ze (grown b.L ⟨kind,aV,[],[],up⟩) []with
     |error e'=>exact fun q=>q.elim
     |ok r'=>obtain⟨i3,er3,L3⟩:=r';rintro⟨rfl,rfl,hl,hs⟩;exact G7 hk hnode ⟨rfl,rfl,by show(grown a.L _).length=L3.length;rw[eJ,hl],fun q=>by show grown a.L _=L3;exact(hs q).symm⟩
   ·rw[if_neg hq,if_neg hq,zk hq];exact G7 hk hnode ⟨rfl,rfl,si h.len,fun q=>by show grown a.L _=grown b.L _;rw[h0 q]⟩
def conv:Except (Option (Nat×Nat)) (List Nd)->Except (Nat×Nat) (List Nd)
 |.ok L=>.ok L
 |.error none=>.error (1,0)
 |.error (some f)=>.error f
theorem IJ  s  :conv (bJ s)=pf s:=by
 unfold bJ pf;by_cases hl:4000<s.size;·rw[if_pos hl,if_pos hl];rfl
 ·rw[if_neg hl,if_neg hl];have h:=Ih (s:=s) (s.size+1) (-1) 0 ⟨0,[],none⟩ ⟨0,[],none⟩ ⟨rfl,rfl,rfl,fun _=>rfl⟩;revert h;cases js s (s.size+1) (-1) 0 ⟨0,[],none⟩with
  |error b=>
   cases aG s (s.size+1) (-1) 0 ⟨0,[],none⟩with
   |error b'=>rintro rfl;rfl
   |ok st=>exact fun q=>q.elim
  |ok a=>
   cases aG s (s.size+1) (-1) 0 ⟨0,[],none⟩with
   |error b'=>exact fun q=>q.elim
   |ok b=>
    intro h;have h':Ai a b:=h;show conv (Dc s b)=if sk s a.i<s.size then _ else _;unfold Dc;rw[h'.i,h'.er];by_cases hq:sk s b.i<s.size;·rw[if_pos hq,if_pos hq];rfl
    ·rw[if_neg hq,if_neg hq];cases hb:b.er with
     |some f=>rfl
     |none=>show Except.ok b.L=Except.ok a.L;rw[h'.same (by rw[h'.er,hb])]
def CR(f:jA):Prop:=∀c p,f=some (c,p)->2<=c/\c<=7
theorem CR.none:CR none:=fun c p e=>by cases e
theorem CR.add{f}(h:CR f){c}(hc:2<=c/\c<=7)  p  :CR (jN f c p):=by
 cases f with
 |none=>intro c' p' e;cases e;exact hc
 |some x=>exact h
theorem CR.addI{f}(h:CR f)  b  {c} (hc:2<=c/\c<=7)  p  :CR (dW b f c p):=by
 cases b with
 |false=>exact h
 |true=>exact h.add hc p
theorem za0{kind}{L}{er}{a}{seen}{st}(h:CR er):CR (fa kind L er a seen st).1:=by
 unfold fa;split;·exact h.add (by omega) _
 ·exact((h.addI _ (by omega) _).addI _ (by omega) _).addI _ (by omega) _
theorem Nk{s}{kind}{L}{i}{er}{a}{seen}{e}{eT}{a2}{s2}(h:CR er)(hh:iK s kind L i er a seen=.ok (e,eT,a2,s2)):CR eT:=by rcases Ez s kind L i er a seen (-1) (by omega)with⟨_,h2⟩|⟨_,h2⟩;all_goals grind[za0,lP]
theorem xn{s}{kind}{L}:∀  f i   er   a   seen   i2   eT   a2,CR er->dY s kind L f i er a seen=.ok (i2,eT,a2)->CR eT
 |0,i,er,a,seen,i2,eT,a2,h,e=>by cases e
 |f+1,i,er,a,seen,i2,eT,a2,h,e=>by
  cases h1:iK s kind L i er a seen with
  |error b=>simp_all[EC]
  |ok q=>
   obtain⟨j,er3,a3,s3⟩:=q;have h3:=Nk h h1;by_cases hm:a_ s j 59=true;·rw[A4 h1 hm]at e;exact xn f _ _ _ _ _ _ _ h3 e
   ·rw[A3 h1 hm]at e;grind[NI]
theorem JI{s}{kind}{L}{i}{er}{i2}{eT}{a2}(h:CR er)(e:pV s kind L i er=.ok (i2,eT,a2)):CR eT:=by grind[pV,xn]
theorem Cg{s}{bn}(hn:∀st cj,CR st.er->bn st=.ok cj->CR cj.er):∀  f   st cj,CR st.er->iQ s bn f st=.ok cj->CR cj.er
 |0,st,cj,h,e=>by cases e
 |f+1,st,cj,h,e=>by
  rw[iQ]at e;cases h1:bn st with
  |error b=>grind
  |ok eX=>
   rw[h1]at e;simp only at e;have h2:=hn st eX h h1;split at e;·exact Cg hn f _ cj (by exact h2) e
   grind
theorem Nr{s}{kind k}{bn}(hn:∀st cj,CR st.er->bn st=.ok cj->CR cj.er){st cj}(h:CR st.er)(e:lk s kind k bn st=.ok cj):CR cj.er:=by
 unfold lk at e;split at e
 ·split at e;·cases e
  ·split at e;·grind
   ·exact Cg hn _ _ _ (by exact h) e
 grind
theorem Cx{s}:∀  f   up   depth   st cj,CR st.er->js s f up depth st=.ok cj->CR cj.er
 |0,up,depth,st,cj,h,e=>by cases e
 |f+1,up,depth,st,cj,h,e=>by
  rw[js]at e;split at e;·cases e
  ·split at e;·cases e
   ·rename_i h1;exact Nr (fun a b=>Cx f _ _ a b) (JI ((h.addI _ (by omega) _).addI _ (by omega) _) h1) e
theorem uZ{s}{c p}(h:bJ s=.error (some (c,p))):2<=c/\c<=7:=by
 have h1:=IJ s;rw[h]at h1;have h2:pf s=.error (c,p):=h1.symm;unfold pf at h2;split at h2;·grind[bJ]
 ·split at h2;·grind
  ·rename_i st h3;have hc:=Cx _ _ _ _ _ (CR.none) h3;split at h2;·grind
   ·split at h2;·rename_i f hf;injection h2 with h2;exact hc c p (by grind)
    grind
