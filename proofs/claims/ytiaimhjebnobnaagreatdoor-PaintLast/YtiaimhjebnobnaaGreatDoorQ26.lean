import Derived.Test.YtiaimhjebnobnaaGreatDoorQ25
import Derived.RegionDies
set_option linter.all false
set_option maxRecDepth 100000
set_option maxHeartbeats 16000000
namespace Go.Proofs.YtiaimhjebnobnaaGreatDoor
open Go.RowKit Go.Proofs.Tryz
theorem PX{i}(h:i<0):oD i=.tuple #[Iq 0,.bool false]:=by grind[oD]
theorem Lw{i}(h:¬i<0):oD i=.tuple #[Iq i,.bool true]:=by grind[oD]
theorem yI  s   i  :eJ s i<7:=by
 unfold eJ;rcases kP (pA s i) cM 0 with h|h;·omega
 ·have:cM.length=7:=rfl;omega
theorem mem_add{w0 w w'}{rb ab B}{E}{s}{st}{L}{i}{er}(h:Mem w0 w rb ab B E s st)(ha:oL w w' rb B s i (Sq ab 12 12) (gJ E er) L)(hg:gP s ⟨i,L,er⟩):Mem w0 w' rb ab B E s ⟨i,L,er⟩:=by obtain⟨e,k,_,f,_⟩:=h;obtain⟨nv,KV,p,n,fr,_⟩:=ha;exact⟨e.fr fr,k.fr fr e.rbB e.lo,hg,f.trans fr,nv,KV,p,n⟩
theorem xR(rb ab B:Nat)(E:Nat->Addr)(s:ByteArray)(f:Nat)(hnode:Ik rb ab B E s f)(hs:s.size<=100000):Ik rb ab B E s (f+1):=by
 intro up af st w0 w hM hup hd hf;have Tf:=qH<|hnode;have HM:=qH<|hM;obtain⟨env,kn,good,fr,nv,KV,pr,pn⟩:=hM;have ry:=env.rbB;have pE:=env.lo;have K8:=good.il;have WY:=good.ll;have HG:=qH<|good;obtain⟨pn0,cn0,rfl⟩:∃p c,nv=.slice p st.L.length c:=dQ pn.nr.row.choose_spec;have CW:=qu rb s st.i (Sq ab 12 12) (.slice pn0 st.L.length cn0) (gJ E st.er) w pr (by omega) K8;obtain⟨at_,b9⟩:=ag (sk s st.i);have Ue:at_<=s.size:=by rw[<-b9];exact fw s st.i K8
 have zhF:st.i<=at_:=by rw[<-b9];exact dX s st.i
 obtain⟨k,hk⟩:=ag (run aB s at_);have dj:k<=s.size:=by rw[<-hk];exact jN _ _ _ Ue
 obtain⟨t,ht⟩:=ag (s.extract at_ k);have HK:Hid (eJ s st.i=aR cM t 0):=by show _=_;unfold eJ pA;rw[b9,hk,ht]
 have HW:=qH<|fun h=>by have:=sG h K8;rw[b9,hk]at this;exact this
 rw[b9,hk,ht]at CW;have Wb:=qH<|CW;have HPN:=qH<|pn;have CK:Hid (∀W,Kn W->Cw 133 #[.string t] W fun e w'=>e=Rw (oD (aR cM t 0))/\w'=W):=fun W hW=>Lv t W _ _ _ _ _ _ _ (hW 0 (by omega)) (hW 1 (by omega)) (hW 2 (by omega)) (hW 3 (by omega)) (hW 4 (by omega)) (hW 5 (by omega)) (hW 6 (by omega));rw[<-HK.out]at CK;have SI:=yI s st.i;have HP:Hid (aS s (f+1) up af st=if eJ s st.i<0 then .error at_ else qq (Vj s (eJ s st.i).toNat st.L.length k (kY st.er (lS st.L.length af) at_) (grown st.L ⟨(eJ s st.i).toNat,aX,[],[],up⟩)) fun dk=>qp s (eJ s st.i).toNat st.L.length (aS s f (st.L.length:Int) (af+1)) dk):=by show _=_;unfold aS;rw[b9,hk]
 obtain⟨ki,ru⟩:=ag (eJ s st.i);rw[ru]at CK HP HW SI;have HT:Hid (∀W,W.cell? (az 7 0)=some (bH (E 2))->Cw 67 #[Iq (at_:Int)] W fun e w'=>e=Rw (.iface 132 (.agg #[Iq (at_:Int),.iface 362 (.pointer (some (E 2)))]))/\w'=W):=fun W he=>gM _ W (E 2) he;clear CW b9 hk ht HK ru pr pn env kn good fr hnode;by_cases kE:ki<0
 ·have zz:Hid (aS s (f+1) up af st=.error at_):=by show _=_;rw[HP.out,if_pos kE]
  rw[PX kE]at CK;clear HP HW;go_enter func65,ntmps65;go_wp2_with fail;refine Wb.mono ?_;rintro e w1 ⟨rfl,h1,g1⟩;have HF1:=qH<|Fr.grown g1 HM.1.le;have HE1:=qH<|HM.1.fr HF1;have HK1:=qH<|HM.2.1.fr HF1 ry pE;clear h1 g1;go_wp2_with fail;refine(CK _ HK1).mono ?_;rintro e w2 ⟨rfl,hw⟩;obtain rfl:=hw.symm;go_wp2_with fail;refine(HT _ HE1.g2).mono ?_;rintro e w3 ⟨rfl,hw⟩;obtain rfl:=hw.symm;go_wp2;refine⟨rfl,?_⟩;rw[zz.out];exact⟨rfl,HM.2.2.2.1.trans HF1⟩
 ·obtain⟨kind,rfl⟩:∃q:Nat,ki=(q:Int):=⟨ki.toNat,by omega⟩;have ke:kind<7:=by omega
  have zo9:=HW kE;have xt:Hid (aS s (f+1) up af st=qq (Vj s kind st.L.length k (kY st.er (lS st.L.length af) at_) (grown st.L ⟨kind,aX,[],[],up⟩)) fun dk=>qp s kind st.L.length (aS s f (st.L.length:Int) (af+1)) dk):=by show _=_;rw[HP.out,if_neg kE];simp only[lY]
  rw[Lw kE]at CK;have hL:st.L.length<=100000:=by omega
  obtain⟨L1,qQ⟩:=ag (grown st.L ⟨kind,aX,[],[],up⟩);have zb_:L1.length=st.L.length+1:=by rw[<-qQ];exact dP _ _
  obtain⟨mH,K7⟩:=ag (kY st.er (lS st.L.length af) at_);have zdc:up<st.L.length:=by omega
  have HG1:Hid (gP s ⟨k,L1,mH⟩):=⟨dj,by grind,fun j=>by show(ae L1 j).kids.length<=L1.length;rw[zb_,<-qQ];exact vc _ _ rfl zdc HG.kl j⟩;have zoL:L1.length<=k:=by omega
  have XW:Hid ((ae L1 st.L.length).kind=kind):=by
   show _=_;rw[<-qQ];by_cases hu:up<0;·grind[grown,dp]
   ·rw[kR st.L _ up.toNat (by grind) (by omega),aV _ (by omega),dp]
  rw[qQ,K7]at xt;clear HP HW kE;go_enter func65,ntmps65;go_wp2_with fail;refine Wb.mono ?_;rintro e w1 ⟨rfl,h1,g1⟩;have HF1:=qH<|Fr.grown g1 HM.1.le;have HE1:=qH<|HM.1.fr HF1;have HK1:=qH<|HM.2.1.fr HF1 ry pE;have HR1:=qH<|h1;have HN1:=qH<|HPN.up (Up.grown g1 ry);clear h1 g1;go_wp2_with fail;refine(CK _ HK1).mono ?_;rintro e w2 ⟨rfl,hw⟩;obtain rfl:=hw.symm;have CR:Hid (Cw 135 #[Pq rb,Iq (af:Int)] w1 fun e w'=>e=Rw (_U E (lS st.L.length af))/\w'=w1):=by have:=Er rb s k (Sq ab 12 12) (gJ E st.er) pn0 st.L.length cn0 af (E 3) (E 4) w1 HR1 HE1.g3 HE1.g4;rw[Vv]at this;exact this
  go_wp2_with fail;refine CR.mono ?_;rintro e w3 ⟨rfl,hw⟩;obtain rfl:=hw.symm;have CP:Hid (Cw 134 #[Pq rb,_U E (lS st.L.length af),Iq (at_:Int)] w1 fun e w'=>e=Rw (.tuple #[])/\PR w' rb s k (Sq ab 12 12) (.slice pn0 st.L.length cn0) (gJ E mH)/\w1.grownBy w' (some rb)):=by have:=keep_all rb s k (Sq ab 12 12) (.slice pn0 st.L.length cn0) E st.er (lS st.L.length af) at_ w1 HR1;rw[K7]at this;exact this
  clear K7;go_wp2_with fail;refine CP.mono ?_;rintro e w4 ⟨rfl,h4,g4⟩;have HF4:=qH<|HF1.trans (Fr.grown g4 HE1.le);have HE4:=qH<|HM.1.fr HF4;have HM4:Hid (Mem w0 w4 rb ab B E s ⟨k,st.L,mH⟩):=⟨HE4,HM.2.1.fr HF4 ry pE,⟨dj,by grind,HG.kl⟩,HM.2.2.2.1.trans HF4,_,KV,h4,HN1.up (Up.grown g4 ry)⟩;have CA:Hid (Cw 136 #[Pq rb,Iq (kind:Int),Iq up] w4 fun e w'=>e=Rw (Iq (st.L.length:Int))/\oL w4 w' rb B s k (Sq ab 12 12) (gJ E mH) L1):=by have:=Cc rb ab B s k _ (gJ E mH) st.L KV kind up w4 h4 (HN1.up (Up.grown g4 ry)) HE4.tab ry HE4.abB HE4.ne HE4.le hL hup (fun j ks hj hks=>by rw[<-hks];have:=HG.kl j;omega);rw[qQ]at this;exact this
  clear h4 g4 CP CR HF1 HE1 HK1 HR1 HN1 qQ;go_wp2_with fail;refine CA.mono ?_;rintro e w5 ⟨rfl,h5⟩;have HM5:=qH<|mem_add HM4 h5 HG1;obtain⟨idx,Y5⟩:=ag st.L.length;rw[Y5]at xt zb_ XW hL;rw[Y5];have ru:k=(⟨k,L1,mH⟩:PS).i:=rfl;have CT:Hid (Cw 137 #[Pq rb,.int .u8 123] w5 fun e w'=>e=Rw (.bool (aT s k 123))/\Mem w0 w' rb ab B E s ⟨aA s k 123,L1,mH⟩):=rE (st:=⟨k,L1,mH⟩) 123 HM5 (by omega) (by omega);have oW:=cu s k 123;have kV:=eU (s:=s) (i:=k) (c:=123) (by omega) dj;have Fu:af+1<=k:=by omega
  have xg:s.size<f+k:=by omega
  clear h5 HM4 CA HE4 HF4 Y5 HG1 HM HG HPN Wb CK HT hup zdc hd hf K8 WY Ue zhF ru;by_cases hq:aT s k 123=true
  ·obtain⟨zg4,kn5,zbV,fr5,nv5,KV5,pr5,pn5⟩:=HM5.out;rw[hq]at CT;go_wp2_with fail;refine CT.mono ?_;rintro e w6 ⟨rfl,h6⟩;clear zg4 kn5 zbV fr5 pr5 pn5;have Wg:=qH<|h6;obtain⟨env,kn,good,fr,nv,Sl,pr,pn⟩:=h6;obtain⟨bl,cap,rfl,YH,Uh,_,_⟩:=pn.nr.form (by grind);have CA:=qH<|readAttributes_any rb ab B E s (aA s k 123) mH L1 Sl bl cap idx kind w6 env pr pn (by omega) (by omega) XW ke (by omega) kV;have c3:=pr.c3;have Dl:(idx:Int)<(L1.length:Int):=by omega
   clear env kn good fr pr pn CT HM5;cases hp:eV s kind idx (s.size+1) (aA s k 123) mH L1 []with
   |error b=>
    have fW:Hid (aS s (f+1) up af st=.error b):=by show _=_;rw[xt.out];unfold Vj;rw[if_pos hq,hp];rfl
    rw[hp]at CA;clear hp xt hq;go_wp2_with fail;refine CA.mono ?_;rintro e w7 ⟨f7,rfl⟩;refine⟨rfl,?_⟩;rw[fW.out];exact⟨rfl,Wg.2.2.2.1.trans (f7.fr Wg.1.le YH)⟩
   |ok r=>
    obtain⟨i2,fd,L2⟩:=r;have jm:Hid (aS s (f+1) up af st=qp s kind idx (aS s f (idx:Int) (af+1)) ⟨i2,L2,fd⟩):=by show _=_;rw[xt.out];unfold Vj;rw[if_pos hq,hp];rfl
    obtain⟨b1,b2,b3,b4⟩:=uJ _ _ _ _ _ _ _ _ kV hp;rw[hp]at CA;clear hp xt hq;go_wp2_with fail;refine CA.mono ?_;rintro e w7 ⟨f7,rfl,h7,n7,l7⟩;have Sr:=f7.fr Wg.1.le YH;obtain⟨dk,mO⟩:∃z:PS,⟨i2,L2,fd⟩=z:=⟨_,rfl⟩;have kd1:af+1<=dk.i:=by rw[<-mO];show af+1<=i2;omega
    have kf1:s.size<f+dk.i:=by rw[<-mO];show s.size<f+i2;omega
    have UW:idx<dk.L.length:=by rw[<-mO];show idx<L2.length;omega
    have zx:Hid (Mem w0 w7 rb ab B E s dk):=by
     rw[<-mO];refine⟨Wg.1.fr Sr,Wg.2.1.fr Sr ry pE,⟨b2,?_,fun j=>?_⟩,Wg.2.2.2.1.trans Sr,_,Sl,h7,n7⟩;·grind
     ·show(ae L2 j).kids.length<=L2.length;rw[b4,b3];exact Wg.2.2.1.kl j
    rw[mO]at jm;clear h7 n7 f7 Sr CA mO c3 oW kV Fu xg XW Wg;have pB:kind=0\/kind=1\/kind=2\/kind=3\/kind=4\/kind=5\/kind=6:=by omega
    have hdi:((af+1:Nat):Int)=(af:Int)+1:=by omega
    have hdb:(af:Int)+1<=1000000:=by have:=zx.2.2.1.il;omega
    have CL:Hid (Cw 141 #[Pq rb,Iq (idx:Int),Iq ((af:Int)+1)] w7 fun e w'=>eX w0 w' e rb ab B E s (iW s (aS s f (idx:Int) (af+1)) dk)):=by have:=sO rb ab B E s f Tf (by omega) idx (af+1) dk w0 w7 zx UW kd1 kf1;rw[hdi]at this;exact this
    rcases pB with rfl|rfl|rfl|rfl|rfl|rfl|rfl;iterate 3
     ·have xw:Hid (aS s (f+1) up af st=iW s (aS s f (idx:Int) (af+1)) dk):=by show _=_;rw[jm.out];rfl
      obtain⟨R,hR⟩:=ag (iW s (aS s f (idx:Int) (af+1)) dk);rw[hR]at CL xw;clear hR jm;go_wp2_with fail;refine CL.mono ?_;cases R with
      |error b=>rintro e x7 ⟨rfl,f7⟩;refine⟨rfl,?_⟩;rw[xw.out];exact⟨rfl,f7⟩
      |ok fk=>rintro e x7 ⟨rfl,h7⟩;have Sf:=qH<|h7;clear h7 CL;go_wp2;go_end0;show eX _ _ _ _ _ _ _ _ _;rw[xw.out];exact⟨rfl,Sf⟩
    iterate 2
     ·by_cases hb:aT s dk.i 91=true
      ·have CX:Hid (Cw 140 #[Pq rb,.int .u8 91] w7 fun e w'=>eX w0 w' e rb ab B E s (eP s dk 91)):=fL 91 zx (by omega) (by omega);have e1:eP s dk 91=.ok {dk with i:=aA s dk.i 91}:=by unfold eP;rw[if_pos hb]
       rw[e1]at CX;obtain⟨fk,Ai⟩:∃z:PS,{dk with i:=aA s dk.i 91}=z:=⟨_,rfl⟩;have z1:dk.i<=fk.i:=by rw[<-Ai];exact cu _ _ _
       have z2:fk.L.length=dk.L.length:=by rw[<-Ai]
       rw[Ai]at CX;have xw:Hid (∀r,aS s f (idx:Int) (af+1) fk=r->aS s (f+1) up af st=qq r fun eD=>eP s eD 93):=fun r hr=>by rw[jm.out];show rL s (aS s f (idx:Int) (af+1)) dk=_;grind[rL]
       clear e1 Ai hb CL jm;go_wp2_with fail;refine CX.mono ?_;rintro e x7 ⟨rfl,h7⟩;have CN:Hid (Cw 65 #[Pq rb,Iq (idx:Int),Iq ((af:Int)+1)] x7 fun e w'=>eX w0 w' e rb ab B E s (aS s f (idx:Int) (af+1) fk)):=by have:=Tf (idx:Int) (af+1) fk w0 x7 h7 (.inr ⟨by omega,by omega⟩) (by omega) (by omega);rw[hdi]at this;exact this
       clear h7 CX;cases hp:aS s f (idx:Int) (af+1) fk with
       |error b=>have fW:Hid (aS s (f+1) up af st=.error b):=xw _ hp;rw[hp]at CN;clear hp xw;go_wp2_with fail;refine CN.mono ?_;rintro e x8 ⟨rfl,f8⟩;refine⟨rfl,?_⟩;rw[fW.out];exact⟨rfl,f8⟩
       |ok eD=>
        have fW:Hid (aS s (f+1) up af st=eP s eD 93):=xw _ hp;rw[hp]at CN;clear hp xw;go_wp2_with fail;refine CN.mono ?_;rintro e x8 ⟨rfl,h8⟩;have CX:Hid (Cw 140 #[Pq rb,.int .u8 93] x8 fun e w'=>eX w0 w' e rb ab B E s (eP s eD 93)):=fL 93 h8 (by omega) (by omega);obtain⟨R,hR⟩:=ag (eP s eD 93);rw[hR]at CX fW;clear h8 CN hR;go_wp2_with fail;refine CX.mono ?_;cases R with
        |error b=>rintro e x9 ⟨rfl,f9⟩;refine⟨rfl,?_⟩;rw[fW.out];exact⟨rfl,f9⟩
        |ok st4=>rintro e x9 ⟨rfl,h9⟩;have HM9:=qH<|h9;clear h9 CX;go_wp2;go_end0;show eX _ _ _ _ _ _ _ _ _;rw[fW.out];exact⟨rfl,HM9⟩
      ·have CX:Hid (Cw 140 #[Pq rb,.int .u8 91] w7 fun e w'=>eX w0 w' e rb ab B E s (eP s dk 91)):=fL 91 zx (by omega) (by omega);have e1:eP s dk 91=.error (sk s dk.i):=by unfold eP;rw[if_neg hb]
       rw[e1]at CX;have fW:Hid (aS s (f+1) up af st=.error (sk s dk.i)):=by show _=_;rw[jm.out];show rL s (aS s f (idx:Int) (af+1)) dk=_;unfold rL;rw[if_neg hb]
       clear e1 hb CL jm;go_wp2_with fail;refine CX.mono ?_;rintro e x7 ⟨rfl,f7⟩;refine⟨rfl,?_⟩;rw[fW.out];exact⟨rfl,f7⟩
    ·obtain⟨env,kn,good,fr,nv,Sl,pr,pn⟩:=zx.out;obtain⟨bl,cap,rfl,YH,Uh,_,_⟩:=pn.nr.form (by omega);have HEV:=qH<|env;have zA:=qH<|pr;have HPN:=qH<|pn;have CS:Hid (∀W,PR W rb s dk.i (Sq ab 12 12) (Sq bl dk.L.length cap) (gJ E dk.er)->W.cell? (az 7 0)=some (bH (E 2))->Cw 139 #[Pq rb] W fun e w'=>Tv W w' e rb s (Sq ab 12 12) (Sq bl dk.L.length cap) (gJ E dk.er) (E 2) (fi s dk.i)):=fun W h1 h2=>m7 rb s dk.i _ _ _ (E 2) W h1 (by omega) good.il (by omega) h2;have HG1:=qH<|good;clear env kn good fr pr pn CL;cases Ah:fi s dk.i with
     |error b=>
      have fW:Hid (aS s (f+1) up af st=.error b):=by show _=_;rw[jm.out];show jJ s idx dk=_;unfold jJ;rw[Ah]
      rw[Ah]at CS;clear Ah jm;have c3:=zA.c3;have Dl:(idx:Int)<(dk.L.length:Int):=by omega
      go_wp2_with fail;go_region_dies;all_goals refine(CS _ (zA.drewN 1) HEV.g2).mono ?_;rintro e x7 ⟨g7,rfl⟩;refine⟨rfl,?_⟩;rw[fW.out];exact⟨rfl,zx.2.2.2.1.trans ((Fr.drewN B rb w7 1).trans (Fr.grown g7 HEV.le))⟩
     |ok r=>
      obtain⟨i2,tt⟩:=r;have fW:Hid (aS s (f+1) up af st=.ok {dk with i:=i2,L:=aH dk.L idx tt}):=by show _=_;rw[jm.out];show jJ s idx dk=_;unfold jJ;rw[Ah]
      have HGT:=qH<|(wN (s:=s) (idx:=idx) HG1 (by unfold jJ;rw[Ah])).good;rw[Ah]at CS;clear Ah jm;have c3:=zA.c3;have Dl:(idx:Int)<(dk.L.length:Int):=by omega
      have ce:=HPN.nr.cells bl rfl idx UW 13 _ (Jo (HPN.len idx UW));obtain⟨ov,UA⟩:∃z:ByteArray,⟨(ae dk.L idx).text.toArray⟩=z:=⟨_,rfl⟩;rw[UA]at ce;have cf:w7.frozen? (az bl (idx*16+13))=false:=HPN.nr.frz rfl _;have Sw:bl≠rb:=by omega
      clear UA;go_wp2_with fail;go_region_with(first|(go_at_call 139;refine(CS _ (zA.drewN 1) HEV.g2).mono ?_;rintro e x7 ⟨g7,rfl,h7⟩;have Np:=qH<|h7;have Sd:=qH<|g7;have k3:=h7.c3;have Gf:x7.heap[bl]?=w7.heap[bl]?:=g7.block bl Uh (by grind);have kc:=(bU Gf).trans ce;have kf:=(qN Gf).trans cf;clear h7 g7));all_goals
       have HMT:Hid (Mem w0 (x7.setCell (az bl (idx*16+13)) (.string ⟨tt.toArray⟩)) rb ab B E s {dk with i:=i2,L:=aH dk.L idx tt}):=by
        have Sr:=(Fr.drewN B rb w7 1).trans (Fr.grown Sd HEV.le);have YD:Fr B rb w7 (x7.setCell (az bl (idx*16+13)) (.string ⟨tt.toArray⟩)):=Sr.trans (Fr.own (ct x7 bl _ _) (aO HEV.le Sr.size) (fun q e=>by grind));have pn7:=(HPN.up (Up.drewN B w7 1)).up (Up.grown Sd ry);have pn8:=pn7.setText UW tt;have hwl:(aH dk.L idx tt).length=dk.L.length:=by unfold aH;simp
        refine⟨HEV.fr YD,zx.2.1.fr YD ry pE,HGT,zx.2.2.2.1.trans YD,Sq bl dk.L.length cap,Sl,PR.far Np (ct x7 bl _ _) (fun q e=>by grind) ry,?_⟩;exact pn8
       clear k3 Gf kc kf Sd Np ce cf c3;go_wp2;go_end0;show eX _ _ _ _ _ _ _ _ _;rw[fW.out];exact⟨rfl,HMT⟩
    ·have xw:Hid (aS s (f+1) up af st=.ok dk):=by show _=_;rw[jm.out];rfl
     clear CL jm;go_wp2;go_end0;show eX _ _ _ _ _ _ _ _ _;rw[xw.out];exact⟨rfl,zx⟩
  ·have jm:Hid (aS s (f+1) up af st=qp s kind idx (aS s f (idx:Int) (af+1)) ⟨aA s k 123,L1,mH⟩):=by show _=_;rw[xt.out];unfold Vj;rw[if_neg hq];rfl
   rw[show aT s k 123=false by grind]at CT;clear hq xt;go_wp2_with fail;refine CT.mono ?_;rintro e w6 ⟨rfl,h6⟩;obtain⟨dk,mO⟩:∃z:PS,⟨aA s k 123,L1,mH⟩=z:=⟨_,rfl⟩;have kd1:af+1<=dk.i:=by rw[<-mO];show af+1<=aA s k 123;omega
   have kf1:s.size<f+dk.i:=by rw[<-mO];show s.size<f+aA s k 123;omega
   have UW:idx<dk.L.length:=by rw[<-mO];show idx<L1.length;omega
   rw[mO]at h6 jm;have zx:=qH<|h6;clear h6 CT mO HM5 oW kV Fu xg XW;have pB:kind=0\/kind=1\/kind=2\/kind=3\/kind=4\/kind=5\/kind=6:=by omega
   have hdi:((af+1:Nat):Int)=(af:Int)+1:=by omega
   have hdb:(af:Int)+1<=1000000:=by have:=zx.2.2.1.il;omega
   have CL:Hid (Cw 141 #[Pq rb,Iq (idx:Int),Iq ((af:Int)+1)] w6 fun e w'=>eX w0 w' e rb ab B E s (iW s (aS s f (idx:Int) (af+1)) dk)):=by have:=sO rb ab B E s f Tf (by omega) idx (af+1) dk w0 w6 zx UW kd1 kf1;rw[hdi]at this;exact this
   rcases pB with rfl|rfl|rfl|rfl|rfl|rfl|rfl;iterate 3
    ·have xw:Hid (aS s (f+1) up af st=iW s (aS s f (idx:Int) (af+1)) dk):=by show _=_;rw[jm.out];rfl
     obtain⟨R,hR⟩:=ag (iW s (aS s f (idx:Int) (af+1)) dk);rw[hR]at CL xw;clear hR jm;go_wp2_with fail;refine CL.mono ?_;cases R with
     |error b=>rintro e x7 ⟨rfl,f7⟩;refine⟨rfl,?_⟩;rw[xw.out];exact⟨rfl,f7⟩
     |ok fk=>rintro e x7 ⟨rfl,h7⟩;have Sf:=qH<|h7;clear h7 CL;go_wp2;go_end0;show eX _ _ _ _ _ _ _ _ _;rw[xw.out];exact⟨rfl,Sf⟩
   iterate 2
    ·by_cases hb:aT s dk.i 91=true
     ·have CX:Hid (Cw 140 #[Pq rb,.int .u8 91] w6 fun e w'=>eX w0 w' e rb ab B E s (eP s dk 91)):=fL 91 zx (by omega) (by omega);have e1:eP s dk 91=.ok {dk with i:=aA s dk.i 91}:=by unfold eP;rw[if_pos hb]
      rw[e1]at CX;obtain⟨fk,Ai⟩:∃z:PS,{dk with i:=aA s dk.i 91}=z:=⟨_,rfl⟩;have z1:dk.i<=fk.i:=by rw[<-Ai];exact cu _ _ _
      have z2:fk.L.length=dk.L.length:=by rw[<-Ai]
      rw[Ai]at CX;have xw:Hid (∀r,aS s f (idx:Int) (af+1) fk=r->aS s (f+1) up af st=qq r fun eD=>eP s eD 93):=fun r hr=>by rw[jm.out];show rL s (aS s f (idx:Int) (af+1)) dk=_;grind[rL]
      clear e1 Ai hb CL jm;go_wp2_with fail;refine CX.mono ?_;rintro e x7 ⟨rfl,h7⟩;have CN:Hid (Cw 65 #[Pq rb,Iq (idx:Int),Iq ((af:Int)+1)] x7 fun e w'=>eX w0 w' e rb ab B E s (aS s f (idx:Int) (af+1) fk)):=by have:=Tf (idx:Int) (af+1) fk w0 x7 h7 (.inr ⟨by omega,by omega⟩) (by omega) (by omega);rw[hdi]at this;exact this
      clear h7 CX;cases hp:aS s f (idx:Int) (af+1) fk with
      |error b=>have fW:Hid (aS s (f+1) up af st=.error b):=xw _ hp;rw[hp]at CN;clear hp xw;go_wp2_with fail;refine CN.mono ?_;rintro e x8 ⟨rfl,f8⟩;refine⟨rfl,?_⟩;rw[fW.out];exact⟨rfl,f8⟩
      |ok eD=>
       have fW:Hid (aS s (f+1) up af st=eP s eD 93):=xw _ hp;rw[hp]at CN;clear hp xw;go_wp2_with fail;refine CN.mono ?_;rintro e x8 ⟨rfl,h8⟩;have CX:Hid (Cw 140 #[Pq rb,.int .u8 93] x8 fun e w'=>eX w0 w' e rb ab B E s (eP s eD 93)):=fL 93 h8 (by omega) (by omega);obtain⟨R,hR⟩:=ag (eP s eD 93);rw[hR]at CX fW;clear h8 CN hR;go_wp2_with fail;refine CX.mono ?_;cases R with
       |error b=>rintro e x9 ⟨rfl,f9⟩;refine⟨rfl,?_⟩;rw[fW.out];exact⟨rfl,f9⟩
       |ok st4=>rintro e x9 ⟨rfl,h9⟩;have HM9:=qH<|h9;clear h9 CX;go_wp2;go_end0;show eX _ _ _ _ _ _ _ _ _;rw[fW.out];exact⟨rfl,HM9⟩
     ·have CX:Hid (Cw 140 #[Pq rb,.int .u8 91] w6 fun e w'=>eX w0 w' e rb ab B E s (eP s dk 91)):=fL 91 zx (by omega) (by omega);have e1:eP s dk 91=.error (sk s dk.i):=by unfold eP;rw[if_neg hb]
      rw[e1]at CX;have fW:Hid (aS s (f+1) up af st=.error (sk s dk.i)):=by show _=_;rw[jm.out];show rL s (aS s f (idx:Int) (af+1)) dk=_;unfold rL;rw[if_neg hb]
      clear e1 hb CL jm;go_wp2_with fail;refine CX.mono ?_;rintro e x7 ⟨rfl,f7⟩;refine⟨rfl,?_⟩;rw[fW.out];exact⟨rfl,f7⟩
   ·obtain⟨env,kn,good,fr,nv,Sl,pr,pn⟩:=zx.out;obtain⟨bl,cap,rfl,YH,Uh,_,_⟩:=pn.nr.form (by omega);have HEV:=qH<|env;have zA:=qH<|pr;have HPN:=qH<|pn;have CS:Hid (∀W,PR W rb s dk.i (Sq ab 12 12) (Sq bl dk.L.length cap) (gJ E dk.er)->W.cell? (az 7 0)=some (bH (E 2))->Cw 139 #[Pq rb] W fun e w'=>Tv W w' e rb s (Sq ab 12 12) (Sq bl dk.L.length cap) (gJ E dk.er) (E 2) (fi s dk.i)):=fun W h1 h2=>m7 rb s dk.i _ _ _ (E 2) W h1 (by omega) good.il (by omega) h2;have HG1:=qH<|good;clear env kn good fr pr pn CL;cases Ah:fi s dk.i with
    |error b=>
     have fW:Hid (aS s (f+1) up af st=.error b):=by show _=_;rw[jm.out];show jJ s idx dk=_;unfold jJ;rw[Ah]
     rw[Ah]at CS;clear Ah jm;have c3:=zA.c3;have Dl:(idx:Int)<(dk.L.length:Int):=by omega
     go_wp2_with fail;go_region_dies;all_goals refine(CS _ (zA.drewN 1) HEV.g2).mono ?_;rintro e x7 ⟨g7,rfl⟩;refine⟨rfl,?_⟩;rw[fW.out];exact⟨rfl,zx.2.2.2.1.trans ((Fr.drewN B rb w6 1).trans (Fr.grown g7 HEV.le))⟩
    |ok r=>
     obtain⟨i2,tt⟩:=r;have fW:Hid (aS s (f+1) up af st=.ok {dk with i:=i2,L:=aH dk.L idx tt}):=by show _=_;rw[jm.out];show jJ s idx dk=_;unfold jJ;rw[Ah]
     have HGT:=qH<|(wN (s:=s) (idx:=idx) HG1 (by unfold jJ;rw[Ah])).good;rw[Ah]at CS;clear Ah jm;have c3:=zA.c3;have Dl:(idx:Int)<(dk.L.length:Int):=by omega
     have ce:=HPN.nr.cells bl rfl idx UW 13 _ (Jo (HPN.len idx UW));obtain⟨ov,UA⟩:∃z:ByteArray,⟨(ae dk.L idx).text.toArray⟩=z:=⟨_,rfl⟩;rw[UA]at ce;have cf:w6.frozen? (az bl (idx*16+13))=false:=HPN.nr.frz rfl _;have Sw:bl≠rb:=by omega
     clear UA;go_wp2_with fail;go_region_with(first|(go_at_call 139;refine(CS _ (zA.drewN 1) HEV.g2).mono ?_;rintro e x7 ⟨g7,rfl,h7⟩;have Np:=qH<|h7;have Sd:=qH<|g7;have k3:=h7.c3;have Gf:x7.heap[bl]?=w6.heap[bl]?:=g7.block bl Uh (by grind);have kc:=(bU Gf).trans ce;have kf:=(qN Gf).trans cf;clear h7 g7));all_goals
      have HMT:Hid (Mem w0 (x7.setCell (az bl (idx*16+13)) (.string ⟨tt.toArray⟩)) rb ab B E s {dk with i:=i2,L:=aH dk.L idx tt}):=by
       have Sr:=(Fr.drewN B rb w6 1).trans (Fr.grown Sd HEV.le);have YD:Fr B rb w6 (x7.setCell (az bl (idx*16+13)) (.string ⟨tt.toArray⟩)):=Sr.trans (Fr.own (ct x7 bl _ _) (aO HEV.le Sr.size) (fun q e=>by grind));have pn7:=(HPN.up (Up.drewN B w6 1)).up (Up.grown Sd ry);have pn8:=pn7.setText UW tt;have hwl:(aH dk.L idx tt).length=dk.L.length:=by unfold aH;simp
       refine⟨HEV.fr YD,zx.2.1.fr YD ry pE,HGT,zx.2.2.2.1.trans YD,Sq bl dk.L.length cap,Sl,PR.far Np (ct x7 bl _ _) (fun q e=>by grind) ry,?_⟩;exact pn8
      clear k3 Gf kc kf Sd Np ce cf c3;go_wp2;go_end0;show eX _ _ _ _ _ _ _ _ _;rw[fW.out];exact⟨rfl,HMT⟩
   ·have xw:Hid (aS s (f+1) up af st=.ok dk):=by show _=_;rw[jm.out];rfl
    clear CL jm;go_wp2;go_end0;show eX _ _ _ _ _ _ _ _ _;rw[xw.out];exact⟨rfl,zx⟩
theorem qt  rb ab B   E   s  (hs:s.size<=100000):∀f,Ik rb ab B E s f
 |0=>fun up af st w0 w h hup hd hf=>absurd h.2.2.1.il (by omega)
 |f+1=>xR rb ab B E s f (qt rb ab B E s hs f) hs
def Eb(s:ByteArray)(st:PS):Except (Option (Nat×Nat)) (List Nd):=if sk s st.i<s.size then .error (some (2,sk s st.i))else match st.er with
 |some f=>.error (some f)
 |none=>.ok st.L
def Xx(s:ByteArray):Except Nat PS->Except (Option (Nat×Nat)) (List Nd)
 |.error b=>.error (some (2,b))
 |.ok st=>Eb s st
def cL(s:ByteArray):Except (Option (Nat×Nat)) (List Nd):=if 4000<s.size then .error none else Xx s (aS s (s.size+1) (-1) 0 ⟨0,[],none⟩)
def pv(E:Nat->Addr):Option (Nat×Nat)->Value
 |none=>bH (E 1)
 |some (c,p)=>dw (p:Int) (bH (E c))
def Ww(w w':World)(e:Ending)(E:Nat->Addr)(r:Except (Option (Nat×Nat)) (List Nd)):Prop:=Bt w w'/\match r with
 |.error x=>e=.panicked [{v:=pv E x,recovered:=false}]
 |.ok L=>∃nv KV,e=Rw nv/\PN w' w.heap.size nv L KV
structure BQ(W:World)(E:Nat->Addr):Prop where
 sz:9<=W.heap.size
 kn:Kn W
 g1:W.cell? (az 0 0)=some (bH (E 1))
 g2:W.cell? (az 7 0)=some (bH (E 2))
 g3:W.cell? (az 1 0)=some (bH (E 3))
 g4:W.cell? (az 2 0)=some (bH (E 4))
 g5:W.cell? (az 3 0)=some (bH (E 5))
 g6:W.cell? (az 4 0)=some (bH (E 6))
 g7:W.cell? (az 5 0)=some (bH (E 7))
theorem Z5(W:World)  s   av   E  :PR (W.alloc (.cells #[.string s,Iq 0,av,.slice none 0 0,.nilIface] 138)) W.heap.size s 0 av (.slice none 0 0) (gJ E none):=
 ⟨by simp,by simp_all,by simp_all,by simp_all,by simp_all,by rw[World.cell?_alloc_at _ _ _ _ rfl];rfl,fun j=>frozen_of_row _ _ _ _ _ (heap_alloc_new _ _)⟩
theorem PN.base{W}{B B'}{nv}{L}{KV}(h:PN W B nv L KV)(hb:B'<=B):PN W B' nv L KV:=by
 obtain⟨xs,hx⟩:=h.nr.row;have own:∀{e:TypeId} {size n:Nat} {v:Value} {ys:List Value},W.ownsRow B e size v n ys->W.ownsRow B' e size v n ys:=fun{e size n v ys} h=>⟨h.1,by
  rcases h.2 with h2|⟨g,cap,ik,a,b,c⟩;·exact .inl h2
  ·exact .inr ⟨g,cap,ik,a,aO hb b,c⟩⟩;exact⟨⟨⟨xs,own hx⟩,h.nr.cells,h.nr.len,fun j hj=>own (h.nr.kids j hj),h.nr.sep⟩,h.len⟩
theorem readTree_any(s:ByteArray)(E:Nat->Addr)(w:World)(hG:BQ w E):
 Calls prog 34 #[.string s] w fun e w'=>Ww w w' e E (cL s):=by
 by_cases WZ:4000<s.size
 ·have HP:Hid (cL s=.error none):=by show _=_;unfold cL;rw[if_pos WZ]
  have SJ:(4000:Int)<(s.size:Int):=by omega
  have g1:w.cell? (az 0 0)=some (.iface 362 (.pointer (some (E 1)))):=hG.g1;clear hG;go_enter func34,ntmps34;go_wp2;refine⟨rfl,?_⟩;rw[HP.out];exact⟨aj _ _,rfl⟩
 ·have SJ:¬(4000:Int)<(s.size:Int):=by omega
  have yA:(s.size:Int)<=4000:=by omega
  have YJ:=qH<|hG;have HP:Hid (cL s=Xx s (aS s (s.size+1) (-1) 0 ⟨0,[],none⟩)):=by show _=_;unfold cL;rw[if_neg WZ]
  obtain⟨A,hA⟩:=ag w.heap.size;have CA:Hid (Calls prog 64 #[] w fun e w'=>e=.returned (Sq A 12 12)/\w'=w.alloc (.cells kK 203)):=by have:=uG w;rw[hA]at this;exact this
  have HT:Hid (NJ (w.alloc (.cells kK 203)) A):=by have:=VL w;rw[hA]at this;exact this
  have HB1:Hid (Below A w (w.alloc (.cells kK 203))):=by show Below _ _ _;rw[<-hA];exact(aj _ _).alloc (ai _) _
  obtain⟨w1,eQ⟩:=ag (w.alloc (.cells kK 203));have hs1:w1.heap.size=A+1:=by rw[<-eQ,aI,hA]
  rw[eQ]at CA HT HB1;have HAs:=qH<|hA;have pE:=hG.sz;rw[hA]at pE;clear hG eQ hA;go_enter func34,ntmps34;go_wp2_with fail;refine CA.mono ?_;rintro e w1' ⟨rfl,hw⟩;obtain rfl:=hw.symm;go_wp2_with fail;obtain⟨w2,vt⟩:=ag (w1.alloc (.cells #[.string s,Iq 0,Sq A 12 12,.slice none 0 0,.nilIface] 138));have oi:w2.heap.size=A+2:=by rw[<-vt,aI,hs1]
  have HB2:Hid (Below A w w2):=by rw[<-vt];exact HB1.alloc (by omega) _
  have zA:Hid (PR w2 (A+1) s 0 (Sq A 12 12) (.slice none 0 0) (gJ E none)):=by rw[<-vt,<-hs1];exact Z5 _ _ _ _
  have HT2:Hid (NJ w2 A):=by have:=HT.fr (Fr.below (B:=A+1) (r:=A+1) ((aj w1.heap.size w1).alloc (ai _) (.cells #[.string s,Iq 0,Sq A 12 12,.slice none 0 0,.nilIface] 138)) (by omega)) (by omega) (by omega);rw[vt]at this;exact this
  have hc:∀(g:Nat) v,g<9->w.cell? (az g 0)=some v->w2.cell? (az g 0)=some v:=fun g v hg e=>(HB2.cell (p:=(az g 0)) (by grind)).trans e;have HEV:Hid (VZ w2 (A+1) A (A+2) E):=⟨HT2,by omega,by omega,by omega,by omega,by omega,hc _ _ (by decide) YJ.g2,hc _ _ (by decide) YJ.g3,hc _ _ (by decide) YJ.g4,hc _ _ (by decide) YJ.g5,hc _ _ (by decide) YJ.g6,hc _ _ (by decide) YJ.g7⟩;have JW:Hid (Kn w2):=fun j hj=>(HB2.cell (p:=(az 8 j)) (by grind)).trans (YJ.kn j hj);have HM:Hid (Mem w2 w2 (A+1) A (A+2) E s ⟨0,[],none⟩):=⟨HEV,JW,⟨aZ _,ai _,fun j=>aZ _⟩,Fr.refl _ _ _,_,fun _=>.nilFunc,zA,⟨NR.nothing _ _ _ _ _ _ _,fun j hj=>absurd hj (by grind)⟩⟩;have CN:Hid (Calls prog 65 #[Pq (A+1),Iq (-1),Iq 0] w2 fun e w'=>eX w2 w' e (A+1) A (A+2) E s (aS s (s.size+1) (-1) 0 ⟨0,[],none⟩)):=qt (A+1) A (A+2) E s (by omega) (s.size+1) (-1) 0 ⟨0,[],none⟩ w2 w2 HM (.inl rfl) (ai _) (by omega);have HBF:Hid (∀w',Fr (A+2) (A+1) w2 w'->Below w.heap.size w w'):=fun w' f=>by rw[HAs.out];exact HB2.trans ⟨f.os,f.tape,f.output,f.size,fun k hk=>f.block k (by omega) (by omega)⟩
  have zii:Hid (∀W,W.cell? (az 7 0)=some (bH (E 2))->∀(q:Nat),Calls prog 67 #[Iq (q:Int)] W fun e w'=>e=.returned (.iface 132 (.agg #[Iq (q:Int),.iface 362 (.pointer (some (E 2)))]))/\w'=W):=fun W he q=>gM _ W (E 2) he;rw[vt];clear vt hc HT HB1 CA hs1;cases hp:aS s (s.size+1) (-1) 0 ⟨0,[],none⟩with
  |error b=>
   have fW:Hid (cL s=.error (some (2,b))):=by show _=_;rw[HP.out,hp];rfl
   rw[hp]at CN;clear hp HP;refine CN.mono ?_;rintro e w3 ⟨rfl,f3⟩;refine⟨rfl,?_⟩;rw[fW.out];exact⟨HBF _ f3,rfl⟩
  |ok st=>
   have fW:Hid (cL s=Eb s st):=by show _=_;rw[HP.out,hp];rfl
   rw[hp]at CN;clear hp HP;refine CN.mono ?_;rintro e w3 ⟨rfl,env3,kn3,WK,fr3,nv,KV,pr3,pn3⟩;have CB:=qH<|skipBlanks_any (A+1) s st.i _ nv _ w3 pr3 (by omega) WK.il;have HE3:=qH<|env3;have HF3:=qH<|fr3;have HN3:=qH<|pn3;obtain⟨i2,pW⟩:=ag (sk s st.i);have JY:Hid (cL s=if i2<s.size then .error (some (2,i2))else match st.er with
    |some f=>.error (some f)
    |none=>.ok st.L):=by show _=_;rw[fW.out];unfold Eb;rw[pW]
   rw[pW]at CB;clear env3 kn3 WK fr3 pr3 pn3 CN pW fW;go_wp2_with fail;refine CB.mono ?_;rintro e w4 ⟨rfl,h4,g4⟩;have HF4:=qH<|HF3.trans (Fr.grown g4 HE3.le);have HN4:=qH<|HN3.up (Up.grown g4 (by omega));have HE4:=qH<|HE3.fr (Fr.grown g4 HE3.le);have c1:=h4.c1;have c3:=h4.c3;have c4:=h4.c4;clear h4 g4 CB HF3 HN3 HE3;by_cases hlt:i2<s.size
   ·have aN:(i2:Int)<(s.size:Int):=by omega
    have HR3:Hid (cL s=.error (some (2,i2))):=by show _=_;rw[JY.out,if_pos hlt]
    clear JY;go_wp2_with fail;refine(zii _ HE4.g2 i2).mono ?_;rintro e w5 ⟨rfl,hw⟩;obtain rfl:=hw.symm;go_wp2;refine⟨rfl,?_⟩;rw[HR3.out];exact⟨HBF _ HF4,rfl⟩
   ·cases Ac:st.er with
    |none=>
     have HR3:Hid (cL s=.ok st.L):=by show _=_;rw[JY.out,if_neg hlt,Ac]
     rw[Ac]at c4;have c4':w4.cell? (az (A+1) 4)=some .nilIface:=c4;clear JY c4 Ac;go_wp2;go_ret;show Ww _ _ _ _ _;rw[HR3.out];exact⟨HBF _ HF4,nv,KV,rfl,HN4.base (by rw[HAs.out];omega)⟩
    |some fp=>
     obtain⟨c,q⟩:=fp;have HR3:Hid (cL s=.error (some (c,q))):=by show _=_;rw[JY.out,if_neg hlt,Ac]
     rw[Ac]at c4;have c4':w4.cell? (az (A+1) 4)=some (.iface 132 (.agg #[Iq (q:Int),.iface 362 (.pointer (some (E c)))])):=c4;clear JY c4 Ac;go_wp2;refine⟨rfl,?_⟩;rw[HR3.out];exact⟨HBF _ HF4,rfl⟩
def EH(name:ByteArray)(kind:Nat):Option Nat:=if aR cI name 0<0\/iu kind (aR cI name 0).toNat=false then none else some (aR cI name 0).toNat
theorem wH  j kind  (hj:j<12) (hk:kind<7):fx (jq j) kind 12 0=EH (jq j) kind:=by
 have h1:j=0\/j=1\/j=2\/j=3\/j=4\/j=5\/j=6\/j=7\/j=8\/j=9\/j=10\/j=11:=by omega
 have h2:kind=0\/kind=1\/kind=2\/kind=3\/kind=4\/kind=5\/kind=6:=by omega
 rcases h1 with rfl|rfl|rfl|rfl|rfl|rfl|rfl|rfl|rfl|rfl|rfl|rfl<;>rcases h2 with rfl|rfl|rfl|rfl|rfl|rfl|rfl<;>decide
theorem qG{name}  kind  (h:∀j,j<12->jq j≠name):fx name kind 12 0=none/\aR cI name 0=-1:=by
 have hs:∀f j,j+f<=12->fx name kind f j=none:=fun f=>by
  induction f with
  |zero=>intro j _;rfl
  |succ f ih=>grind[fx]
 have hf:∀(ws:List ByteArray) k,(∀x∈ws,x≠name)->aR ws name k=-1:=fun ws=>by
  induction ws with
  |nil=>intro k _;rfl
  |cons a r ih=>grind[aR]
 refine⟨hs 12 0 (by omega),hf cI 0 (fun x hx=>?_)⟩;obtain⟨j,hj,rfl⟩:=List.getElem_of_mem hx;have rq:j<12:=hj;grind[jq]
theorem VH  name   kind  (hk:kind<7):fx name kind 12 0=EH name kind:=by grind[jq,wH,qG,EH]
theorem KK{name}(h:¬aR cI name 0<0):(aR cI name 0).toNat<12/\jq (aR cI name 0).toNat=name:=by
 by_cases hx:∃j,j<12/\jq j=name
 ·obtain⟨j,hj,rfl⟩:=hx;have h1:j=0\/j=1\/j=2\/j=3\/j=4\/j=5\/j=6\/j=7\/j=8\/j=9\/j=10\/j=11:=by omega
  rcases h1 with rfl|rfl|rfl|rfl|rfl|rfl|rfl|rfl|rfl|rfl|rfl|rfl<;>decide
 ·exact absurd (by rw[(qG (name:=name) 0 (fun j hj e=>hx ⟨j,hj,e⟩)).2];decide) h
theorem ZR{i j}(hi:i<12)(hj:j<12)(h:jq i=jq j):i=j:=by
 have h1:i=0\/i=1\/i=2\/i=3\/i=4\/i=5\/i=6\/i=7\/i=8\/i=9\/i=10\/i=11:=by omega
 have key:∀i,i<12->(aR cI (jq i) 0).toNat=i:=by decide
 grind
theorem Cz  ws   x y  :∀k,(0<=aR (ws++[y]) x k↔(0<=aR ws x k\/y=x)):=by
 induction ws with
 |nil=>grind[aR]
 |cons a r ih=>grind[aR]
theorem J8  f   c p c2 p2  :jn (jn f c p) c2 p2=jn f c p:=by cases f<;>rfl
theorem lz  b   f   c p c2 p2  :bS b (jn f c p) c2 p2=jn f c p:=by grind[bS,J8]
theorem Cb{f:gW}(h:f≠none)  c p  :jn f c p=f:=by cases f with
 |none=>grind
 |some x=>rfl
theorem pK  f   c p  :jn f c p≠none:=by cases f<;>simp[jn]
theorem Ic  L   kind   a   up   ix   n  :(grown L ⟨kind,a,[],[],up⟩).modify L.length (fun d=>{d with attr:=d.attr.set ix n})=grown L ⟨kind,a.set ix n,[],[],up⟩:=by
 have key:∀(M:List Nd) (d:Nd) (f:Nd->Nd),M.length=L.length->(M++[d]).modify L.length f=M++[f d]:=fun M d f hM=>by apply Rp;grind
 grind[grown]
theorem Db  L   d  :(grown L d).map (fun x=>x.attr)=L.map (fun x=>x.attr)++[d.attr]:=by
 unfold grown;split;·simp
 ·rw[np];congr 1;apply Rp;grind
theorem yx  L   k   n  :ib L k n=(L.map fun x=>x.attr).any fun a=>a[k]?.getD 0==n:=by grind[ib]
theorem Dg  L   d   n  :ib (grown L d) 0 n=(fI L n||(d.attr[0]?.getD 0==n)):=by rw[yx,Db,Rt,<-yx,Ge];simp
structure M4(kind:Nat)(up:Int)(L:List Nd)(er:gW)(a:List Int)(seen:List Nat)(L':List Nd)(ws:List ByteArray):Prop where
 len:L'.length=L.length+1
 same:er=none->L'=grown L ⟨kind,a,[],[],up⟩
 q:∀ix,ix<12->iu kind ix=true->(seen.contains ix=true↔0<=aR ws (jq ix) 0)
 z:seen.contains 0=false->a[0]?.getD 0=0
def aEq(kind:Nat)(up:Int)(L:List Nd)(ws:List ByteArray)(r:Except Nat (Nat×gW×List Int×List Nat))(r':Except Nat (Nat×gW×List Nd×ByteArray)):Prop:=match r,r' with
 |.error b,.error b'=>b=b'
 |.ok (i,er,a,seen),.ok (i',er',L',t)=>i=i'/\er=er'/\M4 kind up L er a seen L' (ws++[t])
 |_,_=>False
theorem Xq  ix  :o6 ix=jH[ix]?.getD 0:=rfl
theorem J'{s}{kind}{up}{L}{er}{a}{seen}{L'}{ws}(hk:kind<7)(h:M4 kind up L er a seen L' ws)  i  :
 aEq kind up L ws (jx s kind L i er a seen) (fN s kind ws L' L.length i er):=by
 unfold jx fN;simp only[];by_cases I4:run aB s (sk s i)=sk s i;·rw[if_pos I4,if_pos I4];rfl
 ·rw[if_neg I4,if_neg I4];obtain⟨at_,b9⟩:=ag (sk s i);obtain⟨k,ke⟩:=ag (run aB s at_);obtain⟨t,ht⟩:=ag (s.extract at_ k);rw[b9,ke,ht];unfold dd;by_cases hq:aT s k 61=true
  ·rw[if_pos hq,if_pos hq];unfold tK;simp only[];obtain⟨j2,IZ⟩:=ag (sk s (aA s k 61));obtain⟨e2,Y3⟩:=ag (run aW s j2);rw[IZ,Y3];by_cases hb:lG s j2 e2=true;·rw[if_pos hb,if_pos hb];rfl
   ·rw[if_neg hb,if_neg hb];obtain⟨n,hn⟩:=ag (dv s j2 (e2-j2));rw[hn];have FD:=VH t kind hk;unfold EH at FD;by_cases SL:aR cI t 0<0\/iu kind (aR cI t 0).toNat=false
    ·rw[if_pos SL];rw[if_pos SL]at FD;have hao:tr t kind ws=some 7:=by unfold tr;rw[FD]
     rw[hao];refine⟨rfl,rfl,h.len,fun e=>absurd e (pK _ _ _),fun ix Dl how=>?_,h.z⟩;rw[h.q ix Dl how,Cz];constructor;·omega
     ·rintro(q|rfl);·exact q
      ·exfalso;rcases SL with h1|h1
       ·have h2:=(wH ix kind Dl hk);rw[FD]at h2;unfold EH at h2;rw[if_neg (by
         have key:∀i,i<12->¬aR cI (jq i) 0<0:=by decide
         grind)]at h2;cases h2
       ·have key:∀i,i<12->(aR cI (jq i) 0).toNat=i:=by decide
        grind
    ·rw[if_neg SL];rw[if_neg SL]at FD;have fZ:¬aR cI t 0<0:=fun q=>SL (.inl q);have how:iu kind (aR cI t 0).toNat=true:=by
      cases ho:iu kind (aR cI t 0).toNat with
      |true=>rfl
      |false=>grind
     obtain⟨Dl,hnm⟩:=KK fZ;obtain⟨ix,hixe⟩:=ag ((aR cI t 0).toNat);have zh5:aR cI t 0=(ix:Int):=by omega
     rw[hixe]at FD how Dl hnm⊢;rw[zh5];have Ah:=h.q ix Dl how;rw[hnm]at Ah;have WM:zJ t kind=ix:=by unfold zJ;rw[FD];rfl
     rw[WM];have Dp:∀ix',ix'<12->iu kind ix'=true->((ix::seen).contains ix'=true↔0<=aR (ws++[t]) (jq ix') 0):=fun ix' zh4 ziD=>by rw[Cz,<-h.q ix' zh4 ziD,List.contains_cons];grind[ZR]
     have hz':(ix::seen).contains 0=false->(a.set ix n)[0]?.getD 0=0:=fun e=>by
      rw[List.contains_cons]at e;simp only[Bool.or_eq_false_iff]at e;have bZ:ix≠0:=fun q=>by grind
      rw[wZ bZ];exact h.z e.2
     have Do:0<=n:=by have:=(Xr s (aA s k 61) (-1)).1;unfold nV at this;rw[if_pos (by decide),IZ,Y3,hn]at this;exact this
     by_cases hc:seen.contains ix=true
     ·have hf:=Ah.1 hc;have hao:tr t kind ws=some 5:=by unfold tr;rw[FD];simp only[if_pos hf]
      rw[hao,hc];have e1:bS true er 5 at_=jn er 5 at_:=rfl;rw[e1,lz,lz];exact⟨rfl,rfl,h.len,fun e=>absurd e (pK _ _ _),Dp,hz'⟩
     ·have hf:¬0<=aR ws t 0:=fun q=>hc (Ah.2 q);have hao:tr t kind ws=none:=by unfold tr;rw[FD];simp only[if_neg hf]
      have hcf:seen.contains ix=false:=by simpa using hc
      rw[hao,hcf];have e1:bS false er 5 at_=er:=rfl;rw[e1];show _=_/\_=_/\M4 kind up L _ _ _ _ _;by_cases hm:o6 ix<n
      ·have e2':bS (decide (jH[ix]?.getD 0<n)) er 6 j2=jn er 6 j2:=by rw[<-Xq,decide_eq_true hm];rfl
       have e3:A3 L' ix n=some 6:=by unfold A3;rw[if_pos hm]
       have e4:setL L' L.length ix n=L':=by unfold setL;rw[if_pos (.inl hm)]
       rw[e2',lz,e3,e4];exact⟨rfl,rfl,h.len,fun e=>absurd e (pK _ _ _),Dp,hz'⟩
      ·have e2':bS (decide (jH[ix]?.getD 0<n)) er 6 j2=er:=by rw[<-Xq,decide_eq_false hm];rfl
       have e3:A3 L' ix n=if xV L' ix n=true then some 5 else none:=by unfold A3;rw[if_neg hm]
       have e4:setL L' L.length ix n=if xV L' ix n=true then L' else L'.modify L.length fun d=>{d with attr:=d.attr.set ix n}:=by
        unfold setL;by_cases I7:xV L' ix n=true;·grind
        ·grind
       rw[e2',e3];by_cases Ac:er=none
       ·have hL':=h.same Ac;have I7:xV L' ix n=(decide ((ix:Int)=0/\0<n)&&fI L n):=by
         unfold xV;by_cases O7:ix=0;·subst O7;have Su:=h.z hcf;rw[hL',Dg];show((0:Nat)==0&&(n !=pw 0)&&(fI L n||(a[0]?.getD 0==n)))=_;rw[Su];have hw:pw 0=0:=rfl;grind
         ·grind[tN]
        rw[<-I7];by_cases hs1:xV L' ix n=true;·rw[if_pos hs1,e4,if_pos hs1,hs1];exact⟨rfl,rfl,h.len,fun e=>absurd e (pK _ _ _),Dp,hz'⟩
        ·rw[if_neg hs1,e4,if_neg hs1];have oi:xV L' ix n=false:=by simpa using hs1
         rw[oi];refine⟨rfl,rfl,by simpa using h.len,fun _=>?_,Dp,hz'⟩;grind[Ic]
       ·have k1:∀b,bS b er 5 j2=er:=fun b=>by grind[bS,Cb]
        have k2:∀o,kY er o j2=er:=fun o=>by cases o with
         |none=>rfl
         |some c=>exact Cb Ac _ _
        rw[k1,k2];exact⟨rfl,rfl,by rw[sS];exact h.len,fun e=>absurd e Ac,Dp,hz'⟩
  ·rw[if_neg hq,if_neg hq];rfl
theorem Dy  s   i c  :aT s (sk s i) c=aT s i c:=by unfold aT;rw[m8]
theorem Da  s   i c  :aA s (sk s i) c=aA s i c:=by unfold aA;rw[m8]
theorem Aa{s}{i c}(h:¬aT s i c=true):aA s i c=sk s i:=by grind[aT,aA]
def bEq(kind:Nat)(up:Int)(L:List Nd)(r:Except Nat (Nat×gW×List Int))(r':Except Nat (Nat×gW×List Nd)):Prop:=match r,r' with
 |.error b,.error b'=>b=b'
 |.ok (i,er,a),.ok (i',er',L')=>i=i'/\er=er'/\L'.length=L.length+1/\(er=none->L'=grown L ⟨kind,a,[],[],up⟩)
 |_,_=>False
theorem Cg{s}{kind}{up}{L}(hk:kind<7):∀f i er a seen L' ws,M4 kind up L er a seen L' ws->bEq kind up L (d_ s kind L f i er a seen) (eV s kind L.length f i er L' ws)
 |0,i,er,a,seen,L',ws,h=>rfl
 |f+1,i,er,a,seen,L',ws,h=>by
  have hs:=J' (s:=s) hk h i;unfold d_ eV;revert hs;cases jx s kind L i er a seen with
  |error b=>
   cases fN s kind ws L' L.length i er with
   |error b'=>exact fun q=>q
   |ok r=>exact fun q=>q.elim
  |ok r=>
   obtain⟨i2,fd,a2,qC⟩:=r;cases fN s kind ws L' L.length i er with
   |error b'=>exact fun q=>q.elim
   |ok r'=>
    obtain⟨i3,er3,L3,t⟩:=r';rintro⟨rfl,rfl,h2⟩;show bEq kind up L (if aT s i2 59=true then _ else _) (if aT s i2 59=true then _ else _);by_cases hq:aT s i2 59=true;·rw[if_pos hq,if_pos hq];exact Cg hk f _ _ _ _ _ _ h2
    ·rw[if_neg hq,if_neg hq,Aa hq];unfold pd dd;rw[Dy,Da,m8];by_cases hc:aT s i2 125=true;·rw[if_pos hc,if_pos hc];exact⟨rfl,rfl,h2.len,h2.same⟩
     ·rw[if_neg hc,if_neg hc];rfl
structure Bu(a b:PS):Prop where
 i:a.i=b.i
 er:a.er=b.er
 len:a.L.length=b.L.length
 same:a.er=none->a.L=b.L
def Fp(r r':Except Nat PS):Prop:=match r,r' with
 |.error b,.error b'=>b=b'
 |.ok a,.ok b=>Bu a b
 |_,_=>False
theorem Bu.to{a b}(h:Bu a b)  i  :Bu {a with i:=i} {b with i:=i}:=⟨rfl,h.er,h.len,h.same⟩
theorem Oz{s:ByteArray}{a b:PS}{c:Nat}(h:Bu a b):Fp (match dd s a.i c with
 |.error e=>.error e
 |.ok i=>.ok {a with i:=i}) (eP s b c):=by
 unfold dd eP;rw[h.i];by_cases hq:aT s b.i c=true;·rw[if_pos hq,if_pos hq];exact h.to _
 ·rw[if_neg hq,if_neg hq];rfl
theorem Yz{s}{b}{c}:eP s {b with i:=sk s b.i} c=eP s b c:=by grind[eP,aT,sk,Dy,aA,Da,m8]
theorem Ja{s}{bJ jI}(hn:∀a b,Bu a b->Fp (bJ a) (jI b)):∀f a b,Bu a b->Fp (eI s bJ f a) (ji s jI f b)
 |0,a,b,h=>h.i
 |f+1,a,b,h=>by
  have h1:=hn a b h;unfold eI ji;revert h1;cases bJ a with
  |error e=>
   cases jI b with
   |error e'=>grind
   |ok b2=>exact fun q=>q.elim
  |ok a2=>
   cases jI b with
   |error e'=>exact fun q=>q.elim
   |ok b2=>
    intro h2;have ue:Bu a2 b2:=h2;show Fp (if aT s a2.i 44=true then _ else _) (if aT s b2.i 44=true then _ else _);rw[ue.i];by_cases hq:aT s b2.i 44=true;·rw[if_pos hq,if_pos hq];exact Ja hn f _ _ (ue.to _)
    ·rw[if_neg hq,if_neg hq,Aa hq,Yz];have:=Oz (s:=s) (c:=93) ue;rw[ue.i]at this;omega
theorem tA{L M}{d e}(h:L.length=M.length):(grown L d).length=(grown M e).length:=by grind[dP]
theorem VN{s:ByteArray}{idx:Nat}{a b:PS}(h:Bu a b):Fp (match fi s a.i with
 |.error e=>.error e
 |.ok (i2,t)=>.ok {a with i:=i2,L:=aH a.L idx t}) (jJ s idx b):=by
 unfold jJ;rw[h.i];cases fi s b.i with
 |error e=>rfl
 |ok r=>obtain⟨i2,t⟩:=r;exact⟨rfl,h.er,by show(aH a.L idx t).length=(aH b.L idx t).length;unfold aH;simpa using h.len,fun q=>by show aH a.L idx t=aH b.L idx t;rw[h.same q]⟩
theorem Va{s:ByteArray}{bJ jI:PS->Except Nat PS}(hn:∀a b,Bu a b->Fp (bJ a) (jI b)){a b:PS}(h:Bu a b):Fp (match dd s a.i 91 with
 |.error e=>.error e
 |.ok i2=>if aT s i2 93 then .ok {a with i:=aA s i2 93}else eI s bJ (s.size+1) {a with i:=sk s i2}) (iW s jI b):=by
 unfold dd iW;rw[h.i];by_cases hq:aT s b.i 91=true
 ·rw[if_pos hq,if_pos hq];show Fp (if aT s (aA s b.i 91) 93=true then _ else _) _;by_cases hc:aT s (aA s b.i 91) 93=true;·rw[if_pos hc,if_pos hc];exact h.to _
  ·rw[if_neg hc,if_neg hc,Aa hc];exact Ja hn _ _ _ (h.to _)
 ·rw[if_neg hq,if_neg hq];rfl
theorem ZW{s:ByteArray}{bJ jI:PS->Except Nat PS}(hn:∀a b,Bu a b->Fp (bJ a) (jI b)){a b:PS}(h:Bu a b):Fp (match dd s a.i 91 with
 |.error e=>.error e
 |.ok i2=>match bJ {a with i:=i2}with
  |.error e=>.error e
  |.ok eD=>match dd s eD.i 93 with
   |.error e=>.error e
   |.ok i4=>.ok {eD with i:=i4}) (rL s jI b):=by
 unfold dd rL;rw[h.i];by_cases hq:aT s b.i 91=true
 ·rw[if_pos hq,if_pos hq];have h1:=hn _ _ (h.to (aA s b.i 91));unfold qq;revert h1;show Fp (bJ {a with i:=aA s b.i 91}) _->Fp (match bJ {a with i:=aA s b.i 91}with
   |.error e=>.error e
   |.ok eD=>_) _;cases bJ {a with i:=aA s b.i 91}with
  |error e=>
   cases jI {b with i:=aA s b.i 91}with
   |error e'=>grind
   |ok b2=>exact fun q=>q.elim
  |ok a2=>
   cases jI {b with i:=aA s b.i 91}with
   |error e'=>exact fun q=>q.elim
   |ok b2=>exact fun q=>Oz (s:=s) (c:=93) q
 ·rw[if_neg hq,if_neg hq];rfl
theorem Iw{s}{kind idx}{bJ jI}(hk:kind<7)(hn:∀a b,Bu a b->Fp (bJ a) (jI b)){a b}(h:Bu a b):Fp (jZ s kind idx bJ a) (qp s kind idx jI b):=by
 unfold jZ qp;by_cases h3:kind<3;·rw[if_pos h3,if_neg (by omega),if_neg (by omega),if_neg (by omega)];exact Va hn h
 ·rw[if_neg h3];by_cases h5:kind<5;·rw[if_pos h5,if_neg (by omega),if_neg (by omega),if_pos (by omega)];exact ZW hn h
  ·rw[if_neg h5];by_cases h6:kind=5;·rw[if_pos h6,if_pos h6];exact VN h
   ·rw[if_neg h6,if_neg h6,if_pos (by omega)];exact h
theorem QN  er   n af p  :bS (decide (12<=af)) (bS (decide (100<=n)) er 3 p) 4 p=kY er (lS n af) p:=by
 unfold lS;by_cases h1:100<=n;·rw[decide_eq_true h1,if_pos h1];show bS _ (jn er 3 p) 4 p=_;rw[lz];rfl
 ·rw[decide_eq_false h1,if_neg h1];show bS _ er 4 p=_;by_cases h2:12<=af;·rw[decide_eq_true h2,if_pos h2];rfl
  ·rw[decide_eq_false h2,if_neg h2];rfl
theorem Ao{s}{i}(e:run aB s (sk s i)=sk s i):eJ s i<0:=by
 have:pA s i=ByteArray.empty:=by unfold pA;rw[e];apply nh;simp
 unfold eJ;rw[this];decide
theorem GJ{er}{o}{p}(h:kY er o p=none):er=none:=by
 cases o with
 |none=>exact h
 |some c=>exact absurd h (pK _ _ _)
theorem Jf{s}:∀f  up  af a b,Bu a b->Fp (de s f up af a) (aS s f up af b)
 |0,up,af,a,b,h=>h.i
 |f+1,up,af,a,b,h=>by
  unfold de aS;simp only[];rw[h.i,h.len];have K_:aR cM (s.extract (sk s b.i) (run aB s (sk s b.i))) 0=eJ s b.i:=rfl;rw[K_];by_cases kE:eJ s b.i<0;·rw[if_pos (.inr kE),if_pos kE];rfl
  ·have I4:¬run aB s (sk s b.i)=sk s b.i:=fun e=>kE (Ao e);rw[if_neg (by rintro(q|q);exact I4 q;exact kE q),if_neg kE];have SI:=yI s b.i;obtain⟨kind,zcN⟩:=ag ((eJ s b.i).toNat);have hk:kind<7:=by omega
   obtain⟨k,ke⟩:=ag (run aB s (sk s b.i));rw[zcN,ke,QN,h.er];obtain⟨mH,K7⟩:=ag (kY b.er (lS b.L.length af) (sk s b.i));rw[K7];have h0:=fun q=>h.same (by rw[h.er];exact GJ (K7.trans q));have hnode:∀x y,Bu x y->Fp (de s f (b.L.length:Int) (af+1) x) (aS s f (b.L.length:Int) (af+1) y):=fun x y Ll=>Jf f _ _ x y Ll;unfold dC Vj;by_cases hq:aT s k 123=true;·rw[if_pos hq,if_pos hq];have hA:M4 kind up a.L mH aX [] (grown b.L ⟨kind,aX,[],[],up⟩) []:=⟨by rw[dP,h.len],fun q=>by rw[h0 q],fun ix Dl how=>by simp[aR],fun _=>rfl⟩;have hE:=Cg (s:=s) hk (s.size+1) (aA s k 123) mH aX [] _ [] hA;rw[h.len]at hE;revert hE;cases hx:d_ s kind a.L (s.size+1) (aA s k 123) mH aX []with
    |error e=>
     cases eV s kind b.L.length (s.size+1) (aA s k 123) mH (grown b.L ⟨kind,aX,[],[],up⟩) []with
     |error e'=>exact fun q=>q
     |ok r=>exact fun q=>q.elim
    |ok r=>
     obtain⟨i2,fd,a2⟩:=r;cases hy:eV s kind b.L.length (s.size+1) (aA s k 123) mH (grown b.L ⟨kind,aX,[],[],up⟩) []with
     |error e'=>exact fun q=>q.elim
     |ok r'=>obtain⟨i3,er3,L3⟩:=r';rintro⟨rfl,rfl,hl,hs⟩;exact Iw hk hnode ⟨rfl,rfl,by show(grown a.L _).length=L3.length;rw[dP,hl],fun q=>by show grown a.L _=L3;exact(hs q).symm⟩
   ·rw[if_neg hq,if_neg hq,Aa hq];exact Iw hk hnode ⟨rfl,rfl,tA h.len,fun q=>by show grown a.L _=grown b.L _;rw[h0 q]⟩
def conv:Except (Option (Nat×Nat)) (List Nd)->Except (Nat×Nat) (List Nd)
 |.ok L=>.ok L
 |.error none=>.error (1,0)
 |.error (some f)=>.error f
theorem Bg  s  :conv (cL s)=gC s:=by
 unfold cL gC;by_cases hl:4000<s.size;·rw[if_pos hl,if_pos hl];rfl
 ·rw[if_neg hl,if_neg hl];have h:=Jf (s:=s) (s.size+1) (-1) 0 ⟨0,[],none⟩ ⟨0,[],none⟩ ⟨rfl,rfl,rfl,fun _=>rfl⟩;revert h;cases de s (s.size+1) (-1) 0 ⟨0,[],none⟩with
  |error b=>
   cases aS s (s.size+1) (-1) 0 ⟨0,[],none⟩with
   |error b'=>rintro rfl;rfl
   |ok st=>exact fun q=>q.elim
  |ok a=>
   cases aS s (s.size+1) (-1) 0 ⟨0,[],none⟩with
   |error b'=>exact fun q=>q.elim
   |ok b=>
    intro h;have h':Bu a b:=h;show conv (Eb s b)=if sk s a.i<s.size then _ else _;unfold Eb;rw[h'.i,h'.er];by_cases hq:sk s b.i<s.size;·rw[if_pos hq,if_pos hq];rfl
    ·rw[if_neg hq,if_neg hq];cases hb:b.er with
     |some f=>rfl
     |none=>show Except.ok b.L=Except.ok a.L;rw[h'.same (by rw[h'.er,hb])]
def CR(f:gW):Prop:=∀c p,f=some (c,p)->2<=c/\c<=7
theorem CR.none:CR none:=fun c p e=>by cases e
theorem CR.add{f}(h:CR f){c}(hc:2<=c/\c<=7)  p  :CR (jn f c p):=by
 cases f with
 |none=>intro c' p' e;cases e;exact hc
 |some x=>exact h
theorem CR.addI{f}(h:CR f)  b  {c} (hc:2<=c/\c<=7)  p  :CR (bS b f c p):=by
 cases b with
 |false=>exact h
 |true=>exact h.add hc p
theorem zbS{kind}{L}{er}{a}{seen}{st}(h:CR er):CR (fa kind L er a seen st).1:=by
 unfold fa;split;·exact h.add (by omega) _
 ·exact((h.addI _ (by omega) _).addI _ (by omega) _).addI _ (by omega) _
theorem N2{s}{kind}{L}{i}{er}{a}{seen}{e}{fd}{a2}{s2}(h:CR er)(hh:jx s kind L i er a seen=.ok (e,fd,a2,s2)):CR fd:=by rcases oO s kind L i er a seen (-1) (by omega)with⟨_,h2⟩|⟨_,h2⟩;all_goals grind[zbS,bF]
theorem yk{s}{kind}{L}:∀  f i   er   a   seen   i2   fd   a2,CR er->d_ s kind L f i er a seen=.ok (i2,fd,a2)->CR fd
 |0,i,er,a,seen,i2,fd,a2,h,e=>by cases e
 |f+1,i,er,a,seen,i2,fd,a2,h,e=>by
  cases h1:jx s kind L i er a seen with
  |error b=>simp_all[oP]
  |ok q=>
   obtain⟨j,er3,a3,s3⟩:=q;have h3:=N2 h h1;by_cases hm:aT s j 59=true;·rw[my h1 hm]at e;exact yk f _ _ _ _ _ _ _ h3 e
   ·rw[mw h1 hm]at e;grind[mG]
theorem Ka{s}{kind}{L}{i}{er}{i2}{fd}{a2}(h:CR er)(e:dC s kind L i er=.ok (i2,fd,a2)):CR fd:=by grind[dC,yk]
theorem DE{s}{bJ}(hn:∀st cU,CR st.er->bJ st=.ok cU->CR cU.er):∀  f   st cU,CR st.er->eI s bJ f st=.ok cU->CR cU.er
 |0,st,cU,h,e=>by cases e
 |f+1,st,cU,h,e=>by
  rw[eI]at e;cases h1:bJ st with
  |error b=>grind
  |ok fk=>
   rw[h1]at e;simp only at e;have h2:=hn st fk h h1;split at e;·exact DE hn f _ cU (by exact h2) e
   grind
theorem N5{s}{kind k}{bJ}(hn:∀st cU,CR st.er->bJ st=.ok cU->CR cU.er){st cU}(h:CR st.er)(e:jZ s kind k bJ st=.ok cU):CR cU.er:=by
 unfold jZ at e;split at e
 ·split at e;·cases e
  ·split at e;·grind
   ·exact DE hn _ _ _ (by exact h) e
 grind
theorem DS{s}:∀  f   up   af   st cU,CR st.er->de s f up af st=.ok cU->CR cU.er
 |0,up,af,st,cU,h,e=>by cases e
 |f+1,up,af,st,cU,h,e=>by
  rw[de]at e;split at e;·cases e
  ·split at e;·cases e
   ·rename_i h1;exact N5 (fun a b=>DS f _ _ a b) (Ka ((h.addI _ (by omega) _).addI _ (by omega) _) h1) e
theorem vQ{s}{c p}(h:cL s=.error (some (c,p))):2<=c/\c<=7:=by
 have h1:=Bg s;rw[h]at h1;have h2:gC s=.error (c,p):=h1.symm;unfold gC at h2;split at h2;·grind[cL]
 ·split at h2;·grind
  ·rename_i st h3;have hc:=DS _ _ _ _ _ (CR.none) h3;split at h2;·grind
   ·split at h2;·rename_i f hf;injection h2 with h2;exact hc c p (by grind)
    grind
