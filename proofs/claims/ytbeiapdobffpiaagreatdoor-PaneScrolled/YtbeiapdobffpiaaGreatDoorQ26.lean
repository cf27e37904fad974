import Derived.Test.YtbeiapdobffpiaaGreatDoorQ25
import Derived.RegionDies
set_option linter.all false
set_option maxRecDepth 100000
set_option maxHeartbeats 16000000
namespace Go.Proofs.YtbeiapdobffpiaaGreatDoor
open Go.RowKit Go.Proofs.Tryz
theorem KK{i}(h:i<0):lW i=.tuple #[Iq 0,.bool false]:=by grind[lW]
theorem GR{i}(h:¬i<0):lW i=.tuple #[Iq i,.bool true]:=by grind[lW]
theorem uR  s   i  :dI s i<7:=by
 unfold dI;rcases jB (mV s i) b_ 0 with h|h;·omega
 ·have:b_.length=7:=rfl;omega
theorem mem_add{w0 w w'}{rb ab B}{E}{s}{st}{L}{i}{er}(h:Mem w0 w rb ab B E s st)(ha:l' w w' rb B s i (Sq ab 12 12) (fF E er) L)(hg:fK s ⟨i,L,er⟩):Mem w0 w' rb ab B E s ⟨i,L,er⟩:=by obtain⟨e,k,_,f,_⟩:=h;obtain⟨nv,KV,p,n,fr,_⟩:=ha;exact⟨e.fr fr,k.fr fr e.rbB e.lo,hg,f.trans fr,nv,KV,p,n⟩
theorem t_(rb ab B:Nat)(E:Nat->Addr)(s:ByteArray)(f:Nat)(hnode:D5 rb ab B E s f)(hs:s.size<=100000):D5 rb ab B E s (f+1):=by
 intro up af st w0 w hM q_ hd hf;have Nr:=qH<|hnode;have HM:=qH<|hM;obtain⟨env,kn,good,fr,nv,KV,pr,pn⟩:=hM;have oY:=env.rbB;have mX:=env.lo;have Gk:=good.il;have QU:=good.ll;have HG:=qH<|good;obtain⟨_c,Zm,rfl⟩:∃p c,nv=.slice p st.L.length c:=d_ pn.nr.row.choose_spec;have CW:=nY rb s st.i (Sq ab 12 12) (.slice _c st.L.length Zm) (fF E st.er) w pr (by omega) Gk;obtain⟨at_,bY⟩:=aj (sk s st.i);have Ot:at_<=s.size:=by rw[<-bY];exact eh s st.i Gk
 have zby:st.i<=at_:=by rw[<-bY];exact dx s st.i
 obtain⟨k,hk⟩:=aj (run ap s at_);have dD:k<=s.size:=by rw[<-hk];exact iK _ _ _ Ot
 obtain⟨t,ht⟩:=aj (s.extract at_ k);have HK:Hid (dI s st.i=aJ b_ t 0):=by show _=_;unfold dI mV;rw[bY,hk,ht]
 have HW:=qH<|fun h=>by have:=pV h Gk;rw[bY,hk]at this;exact this
 rw[bY,hk,ht]at CW;have Uf:=qH<|CW;have HPN:=qH<|pn;have CK:Hid (∀W,Kn W->Cw 83 #[.string t] W fun e w'=>e=Rw (lW (aJ b_ t 0))/\w'=W):=fun W hW=>GQ t W _ _ _ _ _ _ _ (hW 0 (by omega)) (hW 1 (by omega)) (hW 2 (by omega)) (hW 3 (by omega)) (hW 4 (by omega)) (hW 5 (by omega)) (hW 6 (by omega));rw[<-HK.out]at CK;have M7:=uR s st.i;have HP:Hid (aL s (f+1) up af st=if dI s st.i<0 then .error at_ else nT (Pl s (dI s st.i).toNat st.L.length k (jE st.er (j7 st.L.length af) at_) (grown st.L ⟨(dI s st.i).toNat,aV,[],[],up⟩)) fun cQ=>nR s (dI s st.i).toNat st.L.length (aL s f (st.L.length:Int) (af+1)) cQ):=by show _=_;unfold aL;rw[bY,hk]
 obtain⟨ki,oU⟩:=aj (dI s st.i);rw[oU]at CK HP HW M7;have HT:Hid (∀W,W.cell? (az 7 0)=some (bp (E 2))->Cw 46 #[Iq (at_:Int)] W fun e w'=>e=Rw (.iface 124 (.agg #[Iq (at_:Int),.iface 365 (.pointer (some (E 2)))]))/\w'=W):=fun W he=>fI _ W (E 2) he;clear CW bY hk ht HK oU pr pn env kn good fr hnode;by_cases jl:ki<0
 ·have vP:Hid (aL s (f+1) up af st=.error at_):=by show _=_;rw[HP.out,if_pos jl]
  rw[KK jl]at CK;clear HP HW;go_enter func44,ntmps44;go_wp2_with fail;refine Uf.mono ?_;rintro e w1 ⟨rfl,h1,g1⟩;have HF1:=qH<|Fr.grown g1 HM.1.le;have HE1:=qH<|HM.1.fr HF1;have HK1:=qH<|HM.2.1.fr HF1 oY mX;clear h1 g1;go_wp2_with fail;refine(CK _ HK1).mono ?_;rintro e w2 ⟨rfl,hw⟩;obtain rfl:=hw.symm;go_wp2_with fail;refine(HT _ HE1.g2).mono ?_;rintro e w3 ⟨rfl,hw⟩;obtain rfl:=hw.symm;go_wp2;refine⟨rfl,?_⟩;rw[vP.out];exact⟨rfl,HM.2.2.2.1.trans HF1⟩
 ·obtain⟨kind,rfl⟩:∃q:Nat,ki=(q:Int):=⟨ki.toNat,by omega⟩;have oE:kind<7:=by omega
  have ziW:=HW jl;have tF:Hid (aL s (f+1) up af st=nT (Pl s kind st.L.length k (jE st.er (j7 st.L.length af) at_) (grown st.L ⟨kind,aV,[],[],up⟩)) fun cQ=>nR s kind st.L.length (aL s f (st.L.length:Int) (af+1)) cQ):=by show _=_;rw[HP.out,if_neg jl];simp only[oy]
  rw[GR jl]at CK;have hL:st.L.length<=100000:=by omega
  obtain⟨L1,oD⟩:=aj (grown st.L ⟨kind,aV,[],[],up⟩);have W7:L1.length=st.L.length+1:=by rw[<-oD];exact di _ _
  obtain⟨kD,Gi⟩:=aj (jE st.er (j7 st.L.length af) at_);have X5:up<st.L.length:=by omega
  have HG1:Hid (fK s ⟨k,L1,kD⟩):=⟨dD,by grind,fun j=>by show(ae L1 j).kids.length<=L1.length;rw[W7,<-oD];exact rS _ _ rfl X5 HG.kl j⟩;have ziy:L1.length<=k:=by omega
  have RL:Hid ((ae L1 st.L.length).kind=kind):=by
   show _=_;rw[<-oD];by_cases hu:up<0;·grind[grown,cN]
   ·rw[jC st.L _ up.toNat (by grind) (by omega),aR _ (by omega),cN]
  rw[oD,Gi]at tF;clear HP HW jl;go_enter func44,ntmps44;go_wp2_with fail;refine Uf.mono ?_;rintro e w1 ⟨rfl,h1,g1⟩;have HF1:=qH<|Fr.grown g1 HM.1.le;have HE1:=qH<|HM.1.fr HF1;have HK1:=qH<|HM.2.1.fr HF1 oY mX;have HR1:=qH<|h1;have HN1:=qH<|HPN.up (Up.grown g1 oY);clear h1 g1;go_wp2_with fail;refine(CK _ HK1).mono ?_;rintro e w2 ⟨rfl,hw⟩;obtain rfl:=hw.symm;have CR:Hid (Cw 85 #[Pq rb,Iq (af:Int)] w1 fun e w'=>e=Rw (UL E (j7 st.L.length af))/\w'=w1):=by have:=Af rb s k (Sq ab 12 12) (fF E st.er) _c st.L.length Zm af (E 3) (E 4) w1 HR1 HE1.g3 HE1.g4;rw[Pu]at this;exact this
  go_wp2_with fail;refine CR.mono ?_;rintro e w3 ⟨rfl,hw⟩;obtain rfl:=hw.symm;have CP:Hid (Cw 84 #[Pq rb,UL E (j7 st.L.length af),Iq (at_:Int)] w1 fun e w'=>e=Rw (.tuple #[])/\PR w' rb s k (Sq ab 12 12) (.slice _c st.L.length Zm) (fF E kD)/\w1.grownBy w' (some rb)):=by have:=keep_all rb s k (Sq ab 12 12) (.slice _c st.L.length Zm) E st.er (j7 st.L.length af) at_ w1 HR1;rw[Gi]at this;exact this
  clear Gi;go_wp2_with fail;refine CP.mono ?_;rintro e w4 ⟨rfl,h4,g4⟩;have HF4:=qH<|HF1.trans (Fr.grown g4 HE1.le);have HE4:=qH<|HM.1.fr HF4;have _U:Hid (Mem w0 w4 rb ab B E s ⟨k,st.L,kD⟩):=⟨HE4,HM.2.1.fr HF4 oY mX,⟨dD,by grind,HG.kl⟩,HM.2.2.2.1.trans HF4,_,KV,h4,HN1.up (Up.grown g4 oY)⟩;have CA:Hid (Cw 86 #[Pq rb,Iq (kind:Int),Iq up] w4 fun e w'=>e=Rw (Iq (st.L.length:Int))/\l' w4 w' rb B s k (Sq ab 12 12) (fF E kD) L1):=by have:=yl rb ab B s k _ (fF E kD) st.L KV kind up w4 h4 (HN1.up (Up.grown g4 oY)) HE4.tab oY HE4.abB HE4.ne HE4.le hL q_ (fun j ks hj hks=>by rw[<-hks];have:=HG.kl j;omega);rw[oD]at this;exact this
  clear h4 g4 CP CR HF1 HE1 HK1 HR1 HN1 oD;go_wp2_with fail;refine CA.mono ?_;rintro e w5 ⟨rfl,h5⟩;have YV:=qH<|mem_add _U h5 HG1;obtain⟨idx,SZ⟩:=aj st.L.length;rw[SZ]at tF W7 RL hL;rw[SZ];have oU:k=(⟨k,L1,kD⟩:PS).i:=rfl;have CT:Hid (Cw 87 #[Pq rb,.int .u8 123] w5 fun e w'=>e=Rw (.bool (aM s k 123))/\Mem w0 w' rb ab B E s ⟨ao s k 123,L1,kD⟩):=pd (st:=⟨k,L1,kD⟩) 123 YV (by omega) (by omega);have mw:=bS s k 123;have iU:=dP (s:=s) (i:=k) (c:=123) (by omega) dD;have BB:af+1<=k:=by omega
  have Ct:s.size<f+k:=by omega
  clear h5 _U CA HE4 HF4 SZ HG1 HM HG HPN Uf CK HT q_ X5 hd hf Gk QU Ot zby oU;by_cases hq:aM s k 123=true
  ·obtain⟨zaW,kn5,WK,fr5,nv5,KV5,pr5,pn5⟩:=YV.out;rw[hq]at CT;go_wp2_with fail;refine CT.mono ?_;rintro e w6 ⟨rfl,h6⟩;clear zaW kn5 WK fr5 pr5 pn5;have Ql:=qH<|h6;obtain⟨env,kn,good,fr,nv,ML,pr,pn⟩:=h6;obtain⟨bl,al,rfl,Sp,Ow,_,_⟩:=pn.nr.form (by grind);have CA:=qH<|readAttributes_any rb ab B E s (ao s k 123) kD L1 ML bl al idx kind w6 env pr pn (by omega) (by omega) RL oE (by omega) iU;have c3:=pr.c3;have yX:(idx:Int)<(L1.length:Int):=by omega
   clear env kn good fr pr pn CT YV;cases hp:dQ s kind idx (s.size+1) (ao s k 123) kD L1 []with
   |error b=>
    have eZ:Hid (aL s (f+1) up af st=.error b):=by show _=_;rw[tF.out];unfold Pl;rw[if_pos hq,hp];rfl
    rw[hp]at CA;clear hp tF hq;go_wp2_with fail;refine CA.mono ?_;rintro e w7 ⟨f7,rfl⟩;refine⟨rfl,?_⟩;rw[eZ.out];exact⟨rfl,Ql.2.2.2.1.trans (f7.fr Ql.1.le Sp)⟩
   |ok r=>
    obtain⟨i2,dY,L2⟩:=r;have h_:Hid (aL s (f+1) up af st=nR s kind idx (aL s f (idx:Int) (af+1)) ⟨i2,L2,dY⟩):=by show _=_;rw[tF.out];unfold Pl;rw[if_pos hq,hp];rfl
    obtain⟨b1,b2,b3,b4⟩:=rG _ _ _ _ _ _ _ _ iU hp;rw[hp]at CA;clear hp tF hq;go_wp2_with fail;refine CA.mono ?_;rintro e w7 ⟨f7,rfl,h7,n7,l7⟩;have MP:=f7.fr Ql.1.le Sp;obtain⟨cQ,kK⟩:∃z:PS,⟨i2,L2,dY⟩=z:=⟨_,rfl⟩;have kd1:af+1<=cQ.i:=by rw[<-kK];show af+1<=i2;omega
    have kf1:s.size<f+cQ.i:=by rw[<-kK];show s.size<f+i2;omega
    have O9:idx<cQ.L.length:=by rw[<-kK];show idx<L2.length;omega
    have vN:Hid (Mem w0 w7 rb ab B E s cQ):=by
     rw[<-kK];refine⟨Ql.1.fr MP,Ql.2.1.fr MP oY mX,⟨b2,?_,fun j=>?_⟩,Ql.2.2.2.1.trans MP,_,ML,h7,n7⟩;·grind
     ·show(ae L2 j).kids.length<=L2.length;rw[b4,b3];exact Ql.2.2.1.kl j
    rw[kK]at h_;clear h7 n7 f7 MP CA kK c3 mw iU BB Ct RL Ql;have qB:kind=0\/kind=1\/kind=2\/kind=3\/kind=4\/kind=5\/kind=6:=by omega
    have Xm:((af+1:Nat):Int)=(af:Int)+1:=by omega
    have ZG:(af:Int)+1<=1000000:=by have:=vN.2.2.1.il;omega
    have CL:Hid (Cw 91 #[Pq rb,Iq (idx:Int),Iq ((af:Int)+1)] w7 fun e w'=>dU w0 w' e rb ab B E s (gJ s (aL s f (idx:Int) (af+1)) cQ)):=by have:=qd rb ab B E s f Nr (by omega) idx (af+1) cQ w0 w7 vN O9 kd1 kf1;rw[Xm]at this;exact this
    rcases qB with rfl|rfl|rfl|rfl|rfl|rfl|rfl;iterate 3
     ·have tG:Hid (aL s (f+1) up af st=gJ s (aL s f (idx:Int) (af+1)) cQ):=by show _=_;rw[h_.out];rfl
      obtain⟨R,hR⟩:=aj (gJ s (aL s f (idx:Int) (af+1)) cQ);rw[hR]at CL tG;clear hR h_;go_wp2_with fail;refine CL.mono ?_;cases R with
      |error b=>rintro e x7 ⟨rfl,f7⟩;refine⟨rfl,?_⟩;rw[tG.out];exact⟨rfl,f7⟩
      |ok eR=>rintro e x7 ⟨rfl,h7⟩;have MH:=qH<|h7;clear h7 CL;go_wp2;go_end0;show dU _ _ _ _ _ _ _ _ _;rw[tG.out];exact⟨rfl,MH⟩
    iterate 2
     ·by_cases hb:aM s cQ.i 91=true
      ·have CX:Hid (Cw 90 #[Pq rb,.int .u8 91] w7 fun e w'=>dU w0 w' e rb ab B E s (dM s cQ 91)):=eM 91 vN (by omega) (by omega);have e1:dM s cQ 91=.ok {cQ with i:=ao s cQ.i 91}:=by unfold dM;rw[if_pos hb]
       rw[e1]at CX;obtain⟨eR,wT⟩:∃z:PS,{cQ with i:=ao s cQ.i 91}=z:=⟨_,rfl⟩;have z1:cQ.i<=eR.i:=by rw[<-wT];exact bS _ _ _
       have z2:eR.L.length=cQ.L.length:=by rw[<-wT]
       rw[wT]at CX;have tG:Hid (∀r,aL s f (idx:Int) (af+1) eR=r->aL s (f+1) up af st=nT r fun dE=>dM s dE 93):=fun r hr=>by rw[h_.out];show pj s (aL s f (idx:Int) (af+1)) cQ=_;grind[pj]
       clear e1 wT hb CL h_;go_wp2_with fail;refine CX.mono ?_;rintro e x7 ⟨rfl,h7⟩;have CN:Hid (Cw 44 #[Pq rb,Iq (idx:Int),Iq ((af:Int)+1)] x7 fun e w'=>dU w0 w' e rb ab B E s (aL s f (idx:Int) (af+1) eR)):=by have:=Nr (idx:Int) (af+1) eR w0 x7 h7 (.inr ⟨by omega,by omega⟩) (by omega) (by omega);rw[Xm]at this;exact this
       clear h7 CX;cases hp:aL s f (idx:Int) (af+1) eR with
       |error b=>have eZ:Hid (aL s (f+1) up af st=.error b):=tG _ hp;rw[hp]at CN;clear hp tG;go_wp2_with fail;refine CN.mono ?_;rintro e x8 ⟨rfl,f8⟩;refine⟨rfl,?_⟩;rw[eZ.out];exact⟨rfl,f8⟩
       |ok dE=>
        have eZ:Hid (aL s (f+1) up af st=dM s dE 93):=tG _ hp;rw[hp]at CN;clear hp tG;go_wp2_with fail;refine CN.mono ?_;rintro e x8 ⟨rfl,h8⟩;have CX:Hid (Cw 90 #[Pq rb,.int .u8 93] x8 fun e w'=>dU w0 w' e rb ab B E s (dM s dE 93)):=eM 93 h8 (by omega) (by omega);obtain⟨R,hR⟩:=aj (dM s dE 93);rw[hR]at CX eZ;clear h8 CN hR;go_wp2_with fail;refine CX.mono ?_;cases R with
        |error b=>rintro e x9 ⟨rfl,f9⟩;refine⟨rfl,?_⟩;rw[eZ.out];exact⟨rfl,f9⟩
        |ok _g=>rintro e x9 ⟨rfl,h9⟩;have _V:=qH<|h9;clear h9 CX;go_wp2;go_end0;show dU _ _ _ _ _ _ _ _ _;rw[eZ.out];exact⟨rfl,_V⟩
      ·have CX:Hid (Cw 90 #[Pq rb,.int .u8 91] w7 fun e w'=>dU w0 w' e rb ab B E s (dM s cQ 91)):=eM 91 vN (by omega) (by omega);have e1:dM s cQ 91=.error (sk s cQ.i):=by unfold dM;rw[if_neg hb]
       rw[e1]at CX;have eZ:Hid (aL s (f+1) up af st=.error (sk s cQ.i)):=by show _=_;rw[h_.out];show pj s (aL s f (idx:Int) (af+1)) cQ=_;unfold pj;rw[if_neg hb]
       clear e1 hb CL h_;go_wp2_with fail;refine CX.mono ?_;rintro e x7 ⟨rfl,f7⟩;refine⟨rfl,?_⟩;rw[eZ.out];exact⟨rfl,f7⟩
    ·obtain⟨env,kn,good,fr,nv,ML,pr,pn⟩:=vN.out;obtain⟨bl,al,rfl,Sp,Ow,_,_⟩:=pn.nr.form (by omega);have HEV:=qH<|env;have D4:=qH<|pr;have HPN:=qH<|pn;have CS:Hid (∀W,PR W rb s cQ.i (Sq ab 12 12) (Sq bl cQ.L.length al) (fF E cQ.er)->W.cell? (az 7 0)=some (bp (E 2))->Cw 89 #[Pq rb] W fun e w'=>NJ W w' e rb s (Sq ab 12 12) (Sq bl cQ.L.length al) (fF E cQ.er) (E 2) (ee s cQ.i)):=fun W h1 h2=>kY rb s cQ.i _ _ _ (E 2) W h1 (by omega) good.il (by omega) h2;have HG1:=qH<|good;clear env kn good fr pr pn CL;cases wR:ee s cQ.i with
     |error b=>
      have eZ:Hid (aL s (f+1) up af st=.error b):=by show _=_;rw[h_.out];show iH s idx cQ=_;unfold iH;rw[wR]
      rw[wR]at CS;clear wR h_;have c3:=D4.c3;have yX:(idx:Int)<(cQ.L.length:Int):=by omega
      go_wp2_with fail;go_region_dies;all_goals refine(CS _ (D4.drewN 1) HEV.g2).mono ?_;rintro e x7 ⟨g7,rfl⟩;refine⟨rfl,?_⟩;rw[eZ.out];exact⟨rfl,vN.2.2.2.1.trans ((Fr.drewN B rb w7 1).trans (Fr.grown g7 HEV.le))⟩
     |ok r=>
      obtain⟨i2,tt⟩:=r;have eZ:Hid (aL s (f+1) up af st=.ok {cQ with i:=i2,L:=aB cQ.L idx tt}):=by show _=_;rw[h_.out];show iH s idx cQ=_;unfold iH;rw[wR]
      have _B:=qH<|(tc (s:=s) (idx:=idx) HG1 (by unfold iH;rw[wR])).good;rw[wR]at CS;clear wR h_;have c3:=D4.c3;have yX:(idx:Int)<(cQ.L.length:Int):=by omega
      have ce:=HPN.nr.cells bl rfl idx O9 13 _ (EW (HPN.len idx O9));obtain⟨ov,OR⟩:∃z:ByteArray,⟨(ae cQ.L idx).text.toArray⟩=z:=⟨_,rfl⟩;rw[OR]at ce;have cf:w7.frozen? (az bl (idx*16+13))=false:=HPN.nr.frz rfl _;have hbr:bl≠rb:=by omega
      clear OR;go_wp2_with fail;go_region_with(first|(go_at_call 89;refine(CS _ (D4.drewN 1) HEV.g2).mono ?_;rintro e x7 ⟨g7,rfl,h7⟩;have Qn:=qH<|h7;have MF:=qH<|g7;have k3:=h7.c3;have Co:x7.heap[bl]?=w7.heap[bl]?:=g7.block bl Ow (by grind);have kc:=(bU Co).trans ce;have kf:=(oz Co).trans cf;clear h7 g7));all_goals
       have _Z:Hid (Mem w0 (x7.setCell (az bl (idx*16+13)) (.string ⟨tt.toArray⟩)) rb ab B E s {cQ with i:=i2,L:=aB cQ.L idx tt}):=by
        have MP:=(Fr.drewN B rb w7 1).trans (Fr.grown MF HEV.le);have Sm:Fr B rb w7 (x7.setCell (az bl (idx*16+13)) (.string ⟨tt.toArray⟩)):=MP.trans (Fr.own (bP x7 bl _ _) (aT HEV.le MP.size) (fun q e=>by grind));have pn7:=(HPN.up (Up.drewN B w7 1)).up (Up.grown MF oY);have pn8:=pn7.setText O9 tt;have Z4:(aB cQ.L idx tt).length=cQ.L.length:=by unfold aB;simp
        refine⟨HEV.fr Sm,vN.2.1.fr Sm oY mX,_B,vN.2.2.2.1.trans Sm,Sq bl cQ.L.length al,ML,PR.far Qn (bP x7 bl _ _) (fun q e=>by grind) oY,?_⟩;exact pn8
       clear k3 Co kc kf MF Qn ce cf c3;go_wp2;go_end0;show dU _ _ _ _ _ _ _ _ _;rw[eZ.out];exact⟨rfl,_Z⟩
    ·have tG:Hid (aL s (f+1) up af st=.ok cQ):=by show _=_;rw[h_.out];rfl
     clear CL h_;go_wp2;go_end0;show dU _ _ _ _ _ _ _ _ _;rw[tG.out];exact⟨rfl,vN⟩
  ·have h_:Hid (aL s (f+1) up af st=nR s kind idx (aL s f (idx:Int) (af+1)) ⟨ao s k 123,L1,kD⟩):=by show _=_;rw[tF.out];unfold Pl;rw[if_neg hq];rfl
   rw[show aM s k 123=false by grind]at CT;clear hq tF;go_wp2_with fail;refine CT.mono ?_;rintro e w6 ⟨rfl,h6⟩;obtain⟨cQ,kK⟩:∃z:PS,⟨ao s k 123,L1,kD⟩=z:=⟨_,rfl⟩;have kd1:af+1<=cQ.i:=by rw[<-kK];show af+1<=ao s k 123;omega
   have kf1:s.size<f+cQ.i:=by rw[<-kK];show s.size<f+ao s k 123;omega
   have O9:idx<cQ.L.length:=by rw[<-kK];show idx<L1.length;omega
   rw[kK]at h6 h_;have vN:=qH<|h6;clear h6 CT kK YV mw iU BB Ct RL;have qB:kind=0\/kind=1\/kind=2\/kind=3\/kind=4\/kind=5\/kind=6:=by omega
   have Xm:((af+1:Nat):Int)=(af:Int)+1:=by omega
   have ZG:(af:Int)+1<=1000000:=by have:=vN.2.2.1.il;omega
   have CL:Hid (Cw 91 #[Pq rb,Iq (idx:Int),Iq ((af:Int)+1)] w6 fun e w'=>dU w0 w' e rb ab B E s (gJ s (aL s f (idx:Int) (af+1)) cQ)):=by have:=qd rb ab B E s f Nr (by omega) idx (af+1) cQ w0 w6 vN O9 kd1 kf1;rw[Xm]at this;exact this
   rcases qB with rfl|rfl|rfl|rfl|rfl|rfl|rfl;iterate 3
    ·have tG:Hid (aL s (f+1) up af st=gJ s (aL s f (idx:Int) (af+1)) cQ):=by show _=_;rw[h_.out];rfl
     obtain⟨R,hR⟩:=aj (gJ s (aL s f (idx:Int) (af+1)) cQ);rw[hR]at CL tG;clear hR h_;go_wp2_with fail;refine CL.mono ?_;cases R with
     |error b=>rintro e x7 ⟨rfl,f7⟩;refine⟨rfl,?_⟩;rw[tG.out];exact⟨rfl,f7⟩
     |ok eR=>rintro e x7 ⟨rfl,h7⟩;have MH:=qH<|h7;clear h7 CL;go_wp2;go_end0;show dU _ _ _ _ _ _ _ _ _;rw[tG.out];exact⟨rfl,MH⟩
   iterate 2
    ·by_cases hb:aM s cQ.i 91=true
     ·have CX:Hid (Cw 90 #[Pq rb,.int .u8 91] w6 fun e w'=>dU w0 w' e rb ab B E s (dM s cQ 91)):=eM 91 vN (by omega) (by omega);have e1:dM s cQ 91=.ok {cQ with i:=ao s cQ.i 91}:=by unfold dM;rw[if_pos hb]
      rw[e1]at CX;obtain⟨eR,wT⟩:∃z:PS,{cQ with i:=ao s cQ.i 91}=z:=⟨_,rfl⟩;have z1:cQ.i<=eR.i:=by rw[<-wT];exact bS _ _ _
      have z2:eR.L.length=cQ.L.length:=by rw[<-wT]
      rw[wT]at CX;have tG:Hid (∀r,aL s f (idx:Int) (af+1) eR=r->aL s (f+1) up af st=nT r fun dE=>dM s dE 93):=fun r hr=>by rw[h_.out];show pj s (aL s f (idx:Int) (af+1)) cQ=_;grind[pj]
      clear e1 wT hb CL h_;go_wp2_with fail;refine CX.mono ?_;rintro e x7 ⟨rfl,h7⟩;have CN:Hid (Cw 44 #[Pq rb,Iq (idx:Int),Iq ((af:Int)+1)] x7 fun e w'=>dU w0 w' e rb ab B E s (aL s f (idx:Int) (af+1) eR)):=by have:=Nr (idx:Int) (af+1) eR w0 x7 h7 (.inr ⟨by omega,by omega⟩) (by omega) (by omega);rw[Xm]at this;exact this
      clear h7 CX;cases hp:aL s f (idx:Int) (af+1) eR with
      |error b=>have eZ:Hid (aL s (f+1) up af st=.error b):=tG _ hp;rw[hp]at CN;clear hp tG;go_wp2_with fail;refine CN.mono ?_;rintro e x8 ⟨rfl,f8⟩;refine⟨rfl,?_⟩;rw[eZ.out];exact⟨rfl,f8⟩
      |ok dE=>
       have eZ:Hid (aL s (f+1) up af st=dM s dE 93):=tG _ hp;rw[hp]at CN;clear hp tG;go_wp2_with fail;refine CN.mono ?_;rintro e x8 ⟨rfl,h8⟩;have CX:Hid (Cw 90 #[Pq rb,.int .u8 93] x8 fun e w'=>dU w0 w' e rb ab B E s (dM s dE 93)):=eM 93 h8 (by omega) (by omega);obtain⟨R,hR⟩:=aj (dM s dE 93);rw[hR]at CX eZ;clear h8 CN hR;go_wp2_with fail;refine CX.mono ?_;cases R with
       |error b=>rintro e x9 ⟨rfl,f9⟩;refine⟨rfl,?_⟩;rw[eZ.out];exact⟨rfl,f9⟩
       |ok _g=>rintro e x9 ⟨rfl,h9⟩;have _V:=qH<|h9;clear h9 CX;go_wp2;go_end0;show dU _ _ _ _ _ _ _ _ _;rw[eZ.out];exact⟨rfl,_V⟩
     ·have CX:Hid (Cw 90 #[Pq rb,.int .u8 91] w6 fun e w'=>dU w0 w' e rb ab B E s (dM s cQ 91)):=eM 91 vN (by omega) (by omega);have e1:dM s cQ 91=.error (sk s cQ.i):=by unfold dM;rw[if_neg hb]
      rw[e1]at CX;have eZ:Hid (aL s (f+1) up af st=.error (sk s cQ.i)):=by show _=_;rw[h_.out];show pj s (aL s f (idx:Int) (af+1)) cQ=_;unfold pj;rw[if_neg hb]
      clear e1 hb CL h_;go_wp2_with fail;refine CX.mono ?_;rintro e x7 ⟨rfl,f7⟩;refine⟨rfl,?_⟩;rw[eZ.out];exact⟨rfl,f7⟩
   ·obtain⟨env,kn,good,fr,nv,ML,pr,pn⟩:=vN.out;obtain⟨bl,al,rfl,Sp,Ow,_,_⟩:=pn.nr.form (by omega);have HEV:=qH<|env;have D4:=qH<|pr;have HPN:=qH<|pn;have CS:Hid (∀W,PR W rb s cQ.i (Sq ab 12 12) (Sq bl cQ.L.length al) (fF E cQ.er)->W.cell? (az 7 0)=some (bp (E 2))->Cw 89 #[Pq rb] W fun e w'=>NJ W w' e rb s (Sq ab 12 12) (Sq bl cQ.L.length al) (fF E cQ.er) (E 2) (ee s cQ.i)):=fun W h1 h2=>kY rb s cQ.i _ _ _ (E 2) W h1 (by omega) good.il (by omega) h2;have HG1:=qH<|good;clear env kn good fr pr pn CL;cases wR:ee s cQ.i with
    |error b=>
     have eZ:Hid (aL s (f+1) up af st=.error b):=by show _=_;rw[h_.out];show iH s idx cQ=_;unfold iH;rw[wR]
     rw[wR]at CS;clear wR h_;have c3:=D4.c3;have yX:(idx:Int)<(cQ.L.length:Int):=by omega
     go_wp2_with fail;go_region_dies;all_goals refine(CS _ (D4.drewN 1) HEV.g2).mono ?_;rintro e x7 ⟨g7,rfl⟩;refine⟨rfl,?_⟩;rw[eZ.out];exact⟨rfl,vN.2.2.2.1.trans ((Fr.drewN B rb w6 1).trans (Fr.grown g7 HEV.le))⟩
    |ok r=>
     obtain⟨i2,tt⟩:=r;have eZ:Hid (aL s (f+1) up af st=.ok {cQ with i:=i2,L:=aB cQ.L idx tt}):=by show _=_;rw[h_.out];show iH s idx cQ=_;unfold iH;rw[wR]
     have _B:=qH<|(tc (s:=s) (idx:=idx) HG1 (by unfold iH;rw[wR])).good;rw[wR]at CS;clear wR h_;have c3:=D4.c3;have yX:(idx:Int)<(cQ.L.length:Int):=by omega
     have ce:=HPN.nr.cells bl rfl idx O9 13 _ (EW (HPN.len idx O9));obtain⟨ov,OR⟩:∃z:ByteArray,⟨(ae cQ.L idx).text.toArray⟩=z:=⟨_,rfl⟩;rw[OR]at ce;have cf:w6.frozen? (az bl (idx*16+13))=false:=HPN.nr.frz rfl _;have hbr:bl≠rb:=by omega
     clear OR;go_wp2_with fail;go_region_with(first|(go_at_call 89;refine(CS _ (D4.drewN 1) HEV.g2).mono ?_;rintro e x7 ⟨g7,rfl,h7⟩;have Qn:=qH<|h7;have MF:=qH<|g7;have k3:=h7.c3;have Co:x7.heap[bl]?=w6.heap[bl]?:=g7.block bl Ow (by grind);have kc:=(bU Co).trans ce;have kf:=(oz Co).trans cf;clear h7 g7));all_goals
      have _Z:Hid (Mem w0 (x7.setCell (az bl (idx*16+13)) (.string ⟨tt.toArray⟩)) rb ab B E s {cQ with i:=i2,L:=aB cQ.L idx tt}):=by
       have MP:=(Fr.drewN B rb w6 1).trans (Fr.grown MF HEV.le);have Sm:Fr B rb w6 (x7.setCell (az bl (idx*16+13)) (.string ⟨tt.toArray⟩)):=MP.trans (Fr.own (bP x7 bl _ _) (aT HEV.le MP.size) (fun q e=>by grind));have pn7:=(HPN.up (Up.drewN B w6 1)).up (Up.grown MF oY);have pn8:=pn7.setText O9 tt;have Z4:(aB cQ.L idx tt).length=cQ.L.length:=by unfold aB;simp
       refine⟨HEV.fr Sm,vN.2.1.fr Sm oY mX,_B,vN.2.2.2.1.trans Sm,Sq bl cQ.L.length al,ML,PR.far Qn (bP x7 bl _ _) (fun q e=>by grind) oY,?_⟩;exact pn8
      clear k3 Co kc kf MF Qn ce cf c3;go_wp2;go_end0;show dU _ _ _ _ _ _ _ _ _;rw[eZ.out];exact⟨rfl,_Z⟩
   ·have tG:Hid (aL s (f+1) up af st=.ok cQ):=by show _=_;rw[h_.out];rfl
    clear CL h_;go_wp2;go_end0;show dU _ _ _ _ _ _ _ _ _;rw[tG.out];exact⟨rfl,vN⟩
theorem nX  rb ab B   E   s  (hs:s.size<=100000):∀f,D5 rb ab B E s f
 |0=>fun up af st w0 w h q_ hd hf=>absurd h.2.2.1.il (by omega)
 |f+1=>t_ rb ab B E s f (nX rb ab B E s hs f) hs
def zV(s:ByteArray)(st:PS):Except (Option (Nat×Nat)) (List Nd):=if sk s st.i<s.size then .error (some (2,sk s st.i))else match st.er with
 |some f=>.error (some f)
 |none=>.ok st.L
def Rm(s:ByteArray):Except Nat PS->Except (Option (Nat×Nat)) (List Nd)
 |.error b=>.error (some (2,b))
 |.ok st=>zV s st
def b9(s:ByteArray):Except (Option (Nat×Nat)) (List Nd):=if 4000<s.size then .error none else Rm s (aL s (s.size+1) (-1) 0 ⟨0,[],none⟩)
def pv(E:Nat->Addr):Option (Nat×Nat)->Value
 |none=>bp (E 1)
 |some (c,p)=>cR (p:Int) (bp (E c))
def Qz(w w':World)(e:Ending)(E:Nat->Addr)(r:Except (Option (Nat×Nat)) (List Nd)):Prop:=Bt w w'/\match r with
 |.error x=>e=.panicked [{v:=pv E x,recovered:=false}]
 |.ok L=>∃nv KV,e=Rw nv/\PN w' w.heap.size nv L KV
structure xX(W:World)(E:Nat->Addr):Prop where
 sz:9<=W.heap.size
 kn:Kn W
 g1:W.cell? (az 0 0)=some (bp (E 1))
 g2:W.cell? (az 7 0)=some (bp (E 2))
 g3:W.cell? (az 1 0)=some (bp (E 3))
 g4:W.cell? (az 2 0)=some (bp (E 4))
 g5:W.cell? (az 3 0)=some (bp (E 5))
 g6:W.cell? (az 4 0)=some (bp (E 6))
 g7:W.cell? (az 5 0)=some (bp (E 7))
theorem TZ(W:World)  s   av   E  :PR (W.alloc (.cells #[.string s,Iq 0,av,.slice none 0 0,.nilIface] 130)) W.heap.size s 0 av (.slice none 0 0) (fF E none):=
 ⟨by simp,by simp_all,by simp_all,by simp_all,by simp_all,by rw[World.cell?_alloc_at _ _ _ _ rfl];rfl,fun j=>frozen_of_row _ _ _ _ _ (heap_alloc_new _ _)⟩
theorem PN.base{W}{B B'}{nv}{L}{KV}(h:PN W B nv L KV)(hb:B'<=B):PN W B' nv L KV:=by
 obtain⟨xs,hx⟩:=h.nr.row;have own:∀{e:TypeId} {size n:Nat} {v:Value} {ys:List Value},W.ownsRow B e size v n ys->W.ownsRow B' e size v n ys:=fun{e size n v ys} h=>⟨h.1,by
  rcases h.2 with h2|⟨g,al,iT,a,b,c⟩;·exact .inl h2
  ·exact .inr ⟨g,al,iT,a,aT hb b,c⟩⟩;exact⟨⟨⟨xs,own hx⟩,h.nr.cells,h.nr.len,fun j hj=>own (h.nr.kids j hj),h.nr.sep⟩,h.len⟩
theorem readTree_any(s:ByteArray)(E:Nat->Addr)(w:World)(hG:xX w E):
 Calls prog 28 #[.string s] w fun e w'=>Qz w w' e E (b9 s):=by
 by_cases QV:4000<s.size
 ·have HP:Hid (b9 s=.error none):=by show _=_;unfold b9;rw[if_pos QV]
  have QT:(4000:Int)<(s.size:Int):=by omega
  have g1:w.cell? (az 0 0)=some (.iface 365 (.pointer (some (E 1)))):=hG.g1;clear hG;go_enter func28,ntmps28;go_wp2;refine⟨rfl,?_⟩;rw[HP.out];exact⟨ag _ _,rfl⟩
 ·have QT:¬(4000:Int)<(s.size:Int):=by omega
  have uK:(s.size:Int)<=4000:=by omega
  have St:=qH<|hG;have HP:Hid (b9 s=Rm s (aL s (s.size+1) (-1) 0 ⟨0,[],none⟩)):=by show _=_;unfold b9;rw[if_neg QV]
  obtain⟨A,hA⟩:=aj w.heap.size;have CA:Hid (Calls prog 43 #[] w fun e w'=>e=.returned (Sq A 12 12)/\w'=w.alloc (.cells jq 171)):=by have:=rD w;rw[hA]at this;exact this
  have HT:Hid (I8 (w.alloc (.cells jq 171)) A):=by have:=PP w;rw[hA]at this;exact this
  have HB1:Hid (Below A w (w.alloc (.cells jq 171))):=by show Below _ _ _;rw[<-hA];exact(ag _ _).alloc (ai _) _
  obtain⟨w1,eu⟩:=aj (w.alloc (.cells jq 171));have hs1:w1.heap.size=A+1:=by rw[<-eu,aO,hA]
  rw[eu]at CA HT HB1;have YE:=qH<|hA;have mX:=hG.sz;rw[hA]at mX;clear hG eu hA;go_enter func28,ntmps28;go_wp2_with fail;refine CA.mono ?_;rintro e w1' ⟨rfl,hw⟩;obtain rfl:=hw.symm;go_wp2_with fail;obtain⟨w2,xR⟩:=aj (w1.alloc (.cells #[.string s,Iq 0,Sq A 12 12,.slice none 0 0,.nilIface] 130));have mZ:w2.heap.size=A+2:=by rw[<-xR,aO,hs1]
  have HB2:Hid (Below A w w2):=by rw[<-xR];exact HB1.alloc (by omega) _
  have D4:Hid (PR w2 (A+1) s 0 (Sq A 12 12) (.slice none 0 0) (fF E none)):=by rw[<-xR,<-hs1];exact TZ _ _ _ _
  have HT2:Hid (I8 w2 A):=by have:=HT.fr (Fr.below (B:=A+1) (r:=A+1) ((ag w1.heap.size w1).alloc (ai _) (.cells #[.string s,Iq 0,Sq A 12 12,.slice none 0 0,.nilIface] 130)) (by omega)) (by omega) (by omega);rw[xR]at this;exact this
  have hc:∀(g:Nat) v,g<9->w.cell? (az g 0)=some v->w2.cell? (az g 0)=some v:=fun g v hg e=>(HB2.cell (p:=(az g 0)) (by grind)).trans e;have HEV:Hid (Qb w2 (A+1) A (A+2) E):=⟨HT2,by omega,by omega,by omega,by omega,by omega,hc _ _ (by decide) St.g2,hc _ _ (by decide) St.g3,hc _ _ (by decide) St.g4,hc _ _ (by decide) St.g5,hc _ _ (by decide) St.g6,hc _ _ (by decide) St.g7⟩;have ID:Hid (Kn w2):=fun j hj=>(HB2.cell (p:=(az 8 j)) (by grind)).trans (St.kn j hj);have HM:Hid (Mem w2 w2 (A+1) A (A+2) E s ⟨0,[],none⟩):=⟨HEV,ID,⟨bc _,ai _,fun j=>bc _⟩,Fr.refl _ _ _,_,fun _=>.nilFunc,D4,⟨NR.nothing _ _ _ _ _ _ _,fun j hj=>absurd hj (by grind)⟩⟩;have CN:Hid (Calls prog 44 #[Pq (A+1),Iq (-1),Iq 0] w2 fun e w'=>dU w2 w' e (A+1) A (A+2) E s (aL s (s.size+1) (-1) 0 ⟨0,[],none⟩)):=nX (A+1) A (A+2) E s (by omega) (s.size+1) (-1) 0 ⟨0,[],none⟩ w2 w2 HM (.inl rfl) (ai _) (by omega);have YG:Hid (∀w',Fr (A+2) (A+1) w2 w'->Below w.heap.size w w'):=fun w' f=>by rw[YE.out];exact HB2.trans ⟨f.os,f.tape,f.output,f.size,fun k hk=>f.block k (by omega) (by omega)⟩
  have zcl:Hid (∀W,W.cell? (az 7 0)=some (bp (E 2))->∀(q:Nat),Calls prog 46 #[Iq (q:Int)] W fun e w'=>e=.returned (.iface 124 (.agg #[Iq (q:Int),.iface 365 (.pointer (some (E 2)))]))/\w'=W):=fun W he q=>fI _ W (E 2) he;rw[xR];clear xR hc HT HB1 CA hs1;cases hp:aL s (s.size+1) (-1) 0 ⟨0,[],none⟩with
  |error b=>
   have eZ:Hid (b9 s=.error (some (2,b))):=by show _=_;rw[HP.out,hp];rfl
   rw[hp]at CN;clear hp HP;refine CN.mono ?_;rintro e w3 ⟨rfl,f3⟩;refine⟨rfl,?_⟩;rw[eZ.out];exact⟨YG _ f3,rfl⟩
  |ok st=>
   have eZ:Hid (b9 s=zV s st):=by show _=_;rw[HP.out,hp];rfl
   rw[hp]at CN;clear hp HP;refine CN.mono ?_;rintro e w3 ⟨rfl,env3,kn3,QK,fr3,nv,KV,pr3,pn3⟩;have CB:=qH<|skipBlanks_any (A+1) s st.i _ nv _ w3 pr3 (by omega) QK.il;have HE3:=qH<|env3;have HF3:=qH<|fr3;have HN3:=qH<|pn3;obtain⟨i2,nt⟩:=aj (sk s st.i);have Fz:Hid (b9 s=if i2<s.size then .error (some (2,i2))else match st.er with
    |some f=>.error (some f)
    |none=>.ok st.L):=by show _=_;rw[eZ.out];unfold zV;rw[nt]
   rw[nt]at CB;clear env3 kn3 QK fr3 pr3 pn3 CN nt eZ;go_wp2_with fail;refine CB.mono ?_;rintro e w4 ⟨rfl,h4,g4⟩;have HF4:=qH<|HF3.trans (Fr.grown g4 HE3.le);have HN4:=qH<|HN3.up (Up.grown g4 (by omega));have HE4:=qH<|HE3.fr (Fr.grown g4 HE3.le);have c1:=h4.c1;have c3:=h4.c3;have c4:=h4.c4;clear h4 g4 CB HF3 HN3 HE3;by_cases hlt:i2<s.size
   ·have aK:(i2:Int)<(s.size:Int):=by omega
    have HR3:Hid (b9 s=.error (some (2,i2))):=by show _=_;rw[Fz.out,if_pos hlt]
    clear Fz;go_wp2_with fail;refine(zcl _ HE4.g2 i2).mono ?_;rintro e w5 ⟨rfl,hw⟩;obtain rfl:=hw.symm;go_wp2;refine⟨rfl,?_⟩;rw[HR3.out];exact⟨YG _ HF4,rfl⟩
   ·cases wL:st.er with
    |none=>
     have HR3:Hid (b9 s=.ok st.L):=by show _=_;rw[Fz.out,if_neg hlt,wL]
     rw[wL]at c4;have c4':w4.cell? (az (A+1) 4)=some .nilIface:=c4;clear Fz c4 wL;go_wp2;go_ret;show Qz _ _ _ _ _;rw[HR3.out];exact⟨YG _ HF4,nv,KV,rfl,HN4.base (by rw[YE.out];omega)⟩
    |some fp=>
     obtain⟨c,q⟩:=fp;have HR3:Hid (b9 s=.error (some (c,q))):=by show _=_;rw[Fz.out,if_neg hlt,wL]
     rw[wL]at c4;have c4':w4.cell? (az (A+1) 4)=some (.iface 124 (.agg #[Iq (q:Int),.iface 365 (.pointer (some (E c)))])):=c4;clear Fz c4 wL;go_wp2;refine⟨rfl,?_⟩;rw[HR3.out];exact⟨YG _ HF4,rfl⟩
def AA(name:ByteArray)(kind:Nat):Option Nat:=if aJ bZ name 0<0\/gn kind (aJ bZ name 0).toNat=false then none else some (aJ bZ name 0).toNat
theorem sX  j kind  (hj:j<12) (hk:kind<7):ep (ie j) kind 12 0=AA (ie j) kind:=by
 have h1:j=0\/j=1\/j=2\/j=3\/j=4\/j=5\/j=6\/j=7\/j=8\/j=9\/j=10\/j=11:=by omega
 have h2:kind=0\/kind=1\/kind=2\/kind=3\/kind=4\/kind=5\/kind=6:=by omega
 rcases h1 with rfl|rfl|rfl|rfl|rfl|rfl|rfl|rfl|rfl|rfl|rfl|rfl<;>rcases h2 with rfl|rfl|rfl|rfl|rfl|rfl|rfl<;>decide
theorem oi{name}  kind  (h:∀j,j<12->ie j≠name):ep name kind 12 0=none/\aJ bZ name 0=-1:=by
 have hs:∀f j,j+f<=12->ep name kind f j=none:=fun f=>by
  induction f with
  |zero=>intro j _;rfl
  |succ f ih=>grind[ep]
 have hf:∀(ws:List ByteArray) k,(∀x∈ws,x≠name)->aJ ws name k=-1:=fun ws=>by
  induction ws with
  |nil=>intro k _;rfl
  |cons a r ih=>grind[aJ]
 refine⟨hs 12 0 (by omega),hf bZ 0 (fun x hx=>?_)⟩;obtain⟨j,hj,rfl⟩:=List.getElem_of_mem hx;have hj':j<12:=hj;grind[ie]
theorem PJ  name   kind  (hk:kind<7):ep name kind 12 0=AA name kind:=by grind[ie,sX,oi,AA]
theorem F5{name}(h:¬aJ bZ name 0<0):(aJ bZ name 0).toNat<12/\ie (aJ bZ name 0).toNat=name:=by
 by_cases hx:∃j,j<12/\ie j=name
 ·obtain⟨j,hj,rfl⟩:=hx;have h1:j=0\/j=1\/j=2\/j=3\/j=4\/j=5\/j=6\/j=7\/j=8\/j=9\/j=10\/j=11:=by omega
  rcases h1 with rfl|rfl|rfl|rfl|rfl|rfl|rfl|rfl|rfl|rfl|rfl|rfl<;>decide
 ·exact absurd (by rw[(oi (name:=name) 0 (fun j hj e=>hx ⟨j,hj,e⟩)).2];decide) h
theorem TO{i j}(hi:i<12)(hj:j<12)(h:ie i=ie j):i=j:=by
 have h1:i=0\/i=1\/i=2\/i=3\/i=4\/i=5\/i=6\/i=7\/i=8\/i=9\/i=10\/i=11:=by omega
 have key:∀i,i<12->(aJ bZ (ie i) 0).toNat=i:=by decide
 grind
theorem yB  ws   x y  :∀k,(0<=aJ (ws++[y]) x k↔(0<=aJ ws x k\/y=x)):=by
 induction ws with
 |nil=>grind[aJ]
 |cons a r ih=>grind[aJ]
theorem FE  f   c p c2 p2  :ib (ib f c p) c2 p2=ib f c p:=by cases f<;>rfl
theorem jN  b   f   c p c2 p2  :bD b (ib f c p) c2 p2=ib f c p:=by grind[bD,FE]
theorem yk{f:fP}(h:f≠none)  c p  :ib f c p=f:=by cases f with
 |none=>grind
 |some x=>rfl
theorem na  f   c p  :ib f c p≠none:=by cases f<;>simp[ib]
theorem DT  L   kind   a   up   ix   n  :(grown L ⟨kind,a,[],[],up⟩).modify L.length (fun d=>{d with attr:=d.attr.set ix n})=grown L ⟨kind,a.set ix n,[],[],up⟩:=by
 have key:∀(M:List Nd) (d:Nd) (f:Nd->Nd),M.length=L.length->(M++[d]).modify L.length f=M++[f d]:=fun M d f hM=>by apply Mg;grind
 grind[grown]
theorem yN  L   d  :(grown L d).map (fun x=>x.attr)=L.map (fun x=>x.attr)++[d.attr]:=by
 unfold grown;split;·simp
 ·rw[li];congr 1;apply Mg;grind
theorem uD  L   k   n  :fX L k n=(L.map fun x=>x.attr).any fun a=>a[k]?.getD 0==n:=by grind[fX]
theorem yS  L   d   n  :fX (grown L d) 0 n=(eJ L n||(d.attr[0]?.getD 0==n)):=by rw[uD,yN,Mi,<-uD,Cn];simp
structure It(kind:Nat)(up:Int)(L:List Nd)(er:fP)(a:List Int)(seen:List Nat)(L':List Nd)(ws:List ByteArray):Prop where
 len:L'.length=L.length+1
 same:er=none->L'=grown L ⟨kind,a,[],[],up⟩
 q:∀ix,ix<12->gn kind ix=true->(seen.contains ix=true↔0<=aJ ws (ie ix) 0)
 z:seen.contains 0=false->a[0]?.getD 0=0
def aEq(kind:Nat)(up:Int)(L:List Nd)(ws:List ByteArray)(r:Except Nat (Nat×fP×List Int×List Nat))(r':Except Nat (Nat×fP×List Nd×ByteArray)):Prop:=match r,r' with
 |.error b,.error b'=>b=b'
 |.ok (i,er,a,seen),.ok (i',er',L',t)=>i=i'/\er=er'/\It kind up L er a seen L' (ws++[t])
 |_,_=>False
theorem Rh  ix  :mG ix=iE[ix]?.getD 0:=rfl
theorem FG{s}{kind}{up}{L}{er}{a}{seen}{L'}{ws}(hk:kind<7)(h:It kind up L er a seen L' ws)  i  :
 aEq kind up L ws (iu s kind L i er a seen) (eP s kind ws L' L.length i er):=by
 unfold iu eP;simp only[];by_cases Ii:run ap s (sk s i)=sk s i;·rw[if_pos Ii,if_pos Ii];rfl
 ·rw[if_neg Ii,if_neg Ii];obtain⟨at_,bY⟩:=aj (sk s i);obtain⟨k,oE⟩:=aj (run ap s at_);obtain⟨t,ht⟩:=aj (s.extract at_ k);rw[bY,oE,ht];unfold cz;by_cases hq:aM s k 61=true
  ·rw[if_pos hq,if_pos hq];unfold qK;simp only[];obtain⟨j2,EC⟩:=aj (sk s (ao s k 61));obtain⟨e2,SX⟩:=aj (run aU s j2);rw[EC,SX];by_cases hb:jV s j2 e2=true;·rw[if_pos hb,if_pos hb];rfl
   ·rw[if_neg hb,if_neg hb];obtain⟨n,hn⟩:=aj (dv s j2 (e2-j2));rw[hn];have BH:=PJ t kind hk;unfold AA at BH;by_cases M8:aJ bZ t 0<0\/gn kind (aJ bZ t 0).toNat=false
    ·rw[if_pos M8];rw[if_pos M8]at BH;have hao:qu t kind ws=some 7:=by unfold qu;rw[BH]
     rw[hao];refine⟨rfl,rfl,h.len,fun e=>absurd e (na _ _ _),fun ix yX how=>?_,h.z⟩;rw[h.q ix yX how,yB];constructor;·omega
     ·rintro(q|rfl);·exact q
      ·exfalso;rcases M8 with h1|h1
       ·have h2:=(sX ix kind yX hk);rw[BH]at h2;unfold AA at h2;rw[if_neg (by
         have key:∀i,i<12->¬aJ bZ (ie i) 0<0:=by decide
         grind)]at h2;cases h2
       ·have key:∀i,i<12->(aJ bZ (ie i) 0).toNat=i:=by decide
        grind
    ·rw[if_neg M8];rw[if_neg M8]at BH;have dL:¬aJ bZ t 0<0:=fun q=>M8 (.inl q);have how:gn kind (aJ bZ t 0).toNat=true:=by
      cases ho:gn kind (aJ bZ t 0).toNat with
      |true=>rfl
      |false=>grind
     obtain⟨yX,hnm⟩:=F5 dL;obtain⟨ix,hixe⟩:=aj ((aJ bZ t 0).toNat);have zb5:aJ bZ t 0=(ix:Int):=by omega
     rw[hixe]at BH how yX hnm⊢;rw[zb5];have wR:=h.q ix yX how;rw[hnm]at wR;have har:vW t kind=ix:=by unfold vW;rw[BH];rfl
     rw[har];have za:∀Vn,Vn<12->gn kind Vn=true->((ix::seen).contains Vn=true↔0<=aJ (ws++[t]) (ie Vn) 0):=fun Vn zb4 zcz=>by rw[yB,<-h.q Vn zb4 zcz,List.contains_cons];grind[TO]
     have Yb:(ix::seen).contains 0=false->(a.set ix n)[0]?.getD 0=0:=fun e=>by
      rw[List.contains_cons]at e;simp only[Bool.or_eq_false_iff]at e;have bG:ix≠0:=fun q=>by grind
      rw[vt bG];exact h.z e.2
     have y_:0<=n:=by have:=(Ri s (ao s k 61) (-1)).1;unfold nV at this;rw[if_pos (by decide),EC,SX,hn]at this;exact this
     by_cases hc:seen.contains ix=true
     ·have hf:=wR.1 hc;have hao:qu t kind ws=some 5:=by unfold qu;rw[BH];simp only[if_pos hf]
      rw[hao,hc];have e1:bD true er 5 at_=ib er 5 at_:=rfl;rw[e1,jN,jN];exact⟨rfl,rfl,h.len,fun e=>absurd e (na _ _ _),za,Yb⟩
     ·have hf:¬0<=aJ ws t 0:=fun q=>hc (wR.2 q);have hao:qu t kind ws=none:=by unfold qu;rw[BH];simp only[if_neg hf]
      have hcf:seen.contains ix=false:=by simpa using hc
      rw[hao,hcf];have e1:bD false er 5 at_=er:=rfl;rw[e1];show _=_/\_=_/\It kind up L _ _ _ _ _;by_cases hm:mG ix<n
      ·have WA:bD (decide (iE[ix]?.getD 0<n)) er 6 j2=ib er 6 j2:=by rw[<-Rh,decide_eq_true hm];rfl
       have e3:xr L' ix n=some 6:=by unfold xr;rw[if_pos hm]
       have e4:setL L' L.length ix n=L':=by unfold setL;rw[if_pos (.inl hm)]
       rw[WA,jN,e3,e4];exact⟨rfl,rfl,h.len,fun e=>absurd e (na _ _ _),za,Yb⟩
      ·have WA:bD (decide (iE[ix]?.getD 0<n)) er 6 j2=er:=by rw[<-Rh,decide_eq_false hm];rfl
       have e3:xr L' ix n=if uc L' ix n=true then some 5 else none:=by unfold xr;rw[if_neg hm]
       have e4:setL L' L.length ix n=if uc L' ix n=true then L' else L'.modify L.length fun d=>{d with attr:=d.attr.set ix n}:=by
        unfold setL;by_cases OT:uc L' ix n=true;·grind
        ·grind
       rw[WA,e3];by_cases wL:er=none
       ·have WZ:=h.same wL;have OT:uc L' ix n=(decide ((ix:Int)=0/\0<n)&&eJ L n):=by
         unfold uc;by_cases Gj:ix=0;·subst Gj;have MS:=h.z hcf;rw[WZ,yS];show((0:Nat)==0&&(n !=mT 0)&&(eJ L n||(a[0]?.getD 0==n)))=_;rw[MS];have hw:mT 0=0:=rfl;grind
         ·grind[qM]
        rw[<-OT];by_cases hs1:uc L' ix n=true;·rw[if_pos hs1,e4,if_pos hs1,hs1];exact⟨rfl,rfl,h.len,fun e=>absurd e (na _ _ _),za,Yb⟩
        ·rw[if_neg hs1,e4,if_neg hs1];have mZ:uc L' ix n=false:=by simpa using hs1
         rw[mZ];refine⟨rfl,rfl,by simpa using h.len,fun _=>?_,za,Yb⟩;grind[DT]
       ·have k1:∀b,bD b er 5 j2=er:=fun b=>by grind[bD,yk]
        have k2:∀o,jE er o j2=er:=fun o=>by cases o with
         |none=>rfl
         |some c=>exact yk wL _ _
        rw[k1,k2];exact⟨rfl,rfl,by rw[qg];exact h.len,fun e=>absurd e wL,za,Yb⟩
  ·rw[if_neg hq,if_neg hq];rfl
theorem zr  s   i c  :aM s (sk s i) c=aM s i c:=by unfold aM;rw[kZ]
theorem yM  s   i c  :ao s (sk s i) c=ao s i c:=by unfold ao;rw[kZ]
theorem wH{s}{i c}(h:¬aM s i c=true):ao s i c=sk s i:=by grind[aM,ao]
def bEq(kind:Nat)(up:Int)(L:List Nd)(r:Except Nat (Nat×fP×List Int))(r':Except Nat (Nat×fP×List Nd)):Prop:=match r,r' with
 |.error b,.error b'=>b=b'
 |.ok (i,er,a),.ok (i',er',L')=>i=i'/\er=er'/\L'.length=L.length+1/\(er=none->L'=grown L ⟨kind,a,[],[],up⟩)
 |_,_=>False
theorem yn{s}{kind}{up}{L}(hk:kind<7):∀f i er a seen L' ws,It kind up L er a seen L' ws->bEq kind up L (dy s kind L f i er a seen) (dQ s kind L.length f i er L' ws)
 |0,i,er,a,seen,L',ws,h=>rfl
 |f+1,i,er,a,seen,L',ws,h=>by
  have hs:=FG (s:=s) hk h i;unfold dy dQ;revert hs;cases iu s kind L i er a seen with
  |error b=>
   cases eP s kind ws L' L.length i er with
   |error b'=>exact fun q=>q
   |ok r=>exact fun q=>q.elim
  |ok r=>
   obtain⟨i2,dY,a2,oh⟩:=r;cases eP s kind ws L' L.length i er with
   |error b'=>exact fun q=>q.elim
   |ok r'=>
    obtain⟨i3,Zo,L3,t⟩:=r';rintro⟨rfl,rfl,h2⟩;show bEq kind up L (if aM s i2 59=true then _ else _) (if aM s i2 59=true then _ else _);by_cases hq:aM s i2 59=true;·rw[if_pos hq,if_pos hq];exact yn hk f _ _ _ _ _ _ h2
    ·rw[if_neg hq,if_neg hq,wH hq];unfold mL cz;rw[zr,yM,kZ];by_cases hc:aM s i2 125=true;·rw[if_pos hc,if_pos hc];exact⟨rfl,rfl,h2.len,h2.same⟩
     ·rw[if_neg hc,if_neg hc];rfl
structure xK(a b:PS):Prop where
 i:a.i=b.i
 er:a.er=b.er
 len:a.L.length=b.L.length
 same:a.er=none->a.L=b.L
def Bq(r r':Except Nat PS):Prop:=match r,r' with
 |.error b,.error b'=>b=b'
 |.ok a,.ok b=>xK a b
 |_,_=>False
theorem xK.to{a b}(h:xK a b)  i  :xK {a with i:=i} {b with i:=i}:=⟨rfl,h.er,h.len,h.same⟩
theorem JL{s:ByteArray}{a b:PS}{c:Nat}(h:xK a b):Bq (match cz s a.i c with
 |.error e=>.error e
 |.ok i=>.ok {a with i:=i}) (dM s b c):=by
 unfold cz dM;rw[h.i];by_cases hq:aM s b.i c=true;·rw[if_pos hq,if_pos hq];exact h.to _
 ·rw[if_neg hq,if_neg hq];rfl
theorem Sj{s}{b}{c}:dM s {b with i:=sk s b.i} c=dM s b c:=by grind[dM,aM,sk,zr,ao,yM,kZ]
theorem EJ{s}{bB iF}(hn:∀a b,xK a b->Bq (bB a) (iF b)):∀f a b,xK a b->Bq (dH s bB f a) (gW s iF f b)
 |0,a,b,h=>h.i
 |f+1,a,b,h=>by
  have h1:=hn a b h;unfold dH gW;revert h1;cases bB a with
  |error e=>
   cases iF b with
   |error e'=>grind
   |ok b2=>exact fun q=>q.elim
  |ok a2=>
   cases iF b with
   |error e'=>exact fun q=>q.elim
   |ok b2=>
    intro h2;have qX:xK a2 b2:=h2;show Bq (if aM s a2.i 44=true then _ else _) (if aM s b2.i 44=true then _ else _);rw[qX.i];by_cases hq:aM s b2.i 44=true;·rw[if_pos hq,if_pos hq];exact EJ hn f _ _ (qX.to _)
    ·rw[if_neg hq,if_neg hq,wH hq,Sj];have:=JL (s:=s) (c:=93) qX;rw[qX.i]at this;omega
theorem qz{L M}{d e}(h:L.length=M.length):(grown L d).length=(grown M e).length:=by grind[di]
theorem PT{s:ByteArray}{idx:Nat}{a b:PS}(h:xK a b):Bq (match ee s a.i with
 |.error e=>.error e
 |.ok (i2,t)=>.ok {a with i:=i2,L:=aB a.L idx t}) (iH s idx b):=by
 unfold iH;rw[h.i];cases ee s b.i with
 |error e=>rfl
 |ok r=>obtain⟨i2,t⟩:=r;exact⟨rfl,h.er,by show(aB a.L idx t).length=(aB b.L idx t).length;unfold aB;simpa using h.len,fun q=>by show aB a.L idx t=aB b.L idx t;rw[h.same q]⟩
theorem Pg{s:ByteArray}{bB iF:PS->Except Nat PS}(hn:∀a b,xK a b->Bq (bB a) (iF b)){a b:PS}(h:xK a b):Bq (match cz s a.i 91 with
 |.error e=>.error e
 |.ok i2=>if aM s i2 93 then .ok {a with i:=ao s i2 93}else dH s bB (s.size+1) {a with i:=sk s i2}) (gJ s iF b):=by
 unfold cz gJ;rw[h.i];by_cases hq:aM s b.i 91=true
 ·rw[if_pos hq,if_pos hq];show Bq (if aM s (ao s b.i 91) 93=true then _ else _) _;by_cases hc:aM s (ao s b.i 91) 93=true;·rw[if_pos hc,if_pos hc];exact h.to _
  ·rw[if_neg hc,if_neg hc,wH hc];exact EJ hn _ _ _ (h.to _)
 ·rw[if_neg hq,if_neg hq];rfl
theorem TU{s:ByteArray}{bB iF:PS->Except Nat PS}(hn:∀a b,xK a b->Bq (bB a) (iF b)){a b:PS}(h:xK a b):Bq (match cz s a.i 91 with
 |.error e=>.error e
 |.ok i2=>match bB {a with i:=i2}with
  |.error e=>.error e
  |.ok dE=>match cz s dE.i 93 with
   |.error e=>.error e
   |.ok i4=>.ok {dE with i:=i4}) (pj s iF b):=by
 unfold cz pj;rw[h.i];by_cases hq:aM s b.i 91=true
 ·rw[if_pos hq,if_pos hq];have h1:=hn _ _ (h.to (ao s b.i 91));unfold nT;revert h1;show Bq (bB {a with i:=ao s b.i 91}) _->Bq (match bB {a with i:=ao s b.i 91}with
   |.error e=>.error e
   |.ok dE=>_) _;cases bB {a with i:=ao s b.i 91}with
  |error e=>
   cases iF {b with i:=ao s b.i 91}with
   |error e'=>grind
   |ok b2=>exact fun q=>q.elim
  |ok a2=>
   cases iF {b with i:=ao s b.i 91}with
   |error e'=>exact fun q=>q.elim
   |ok b2=>exact fun q=>JL (s:=s) (c:=93) q
 ·rw[if_neg hq,if_neg hq];rfl
theorem Eh{s}{kind idx}{bB iF}(hk:kind<7)(hn:∀a b,xK a b->Bq (bB a) (iF b)){a b}(h:xK a b):Bq (i_ s kind idx bB a) (nR s kind idx iF b):=by
 unfold i_ nR;by_cases h3:kind<3;·rw[if_pos h3,if_neg (by omega),if_neg (by omega),if_neg (by omega)];exact Pg hn h
 ·rw[if_neg h3];by_cases h5:kind<5;·rw[if_pos h5,if_neg (by omega),if_neg (by omega),if_pos (by omega)];exact TU hn h
  ·rw[if_neg h5];by_cases h6:kind=5;·rw[if_pos h6,if_pos h6];exact PT h
   ·rw[if_neg h6,if_neg h6,if_pos (by omega)];exact h
theorem Lu  er   n af p  :bD (decide (12<=af)) (bD (decide (100<=n)) er 3 p) 4 p=jE er (j7 n af) p:=by
 unfold j7;by_cases h1:100<=n;·rw[decide_eq_true h1,if_pos h1];show bD _ (ib er 3 p) 4 p=_;rw[jN];rfl
 ·rw[decide_eq_false h1,if_neg h1];show bD _ er 4 p=_;by_cases h2:12<=af;·rw[decide_eq_true h2,if_pos h2];rfl
  ·rw[decide_eq_false h2,if_neg h2];rfl
theorem w_{s}{i}(e:run ap s (sk s i)=sk s i):dI s i<0:=by
 have:mV s i=ByteArray.empty:=by unfold mV;rw[e];apply l8;simp
 unfold dI;rw[this];decide
theorem C9{er}{o}{p}(h:jE er o p=none):er=none:=by
 cases o with
 |none=>exact h
 |some c=>exact absurd h (na _ _ _)
theorem EO{s}:∀f  up  af a b,xK a b->Bq (cC s f up af a) (aL s f up af b)
 |0,up,af,a,b,h=>h.i
 |f+1,up,af,a,b,h=>by
  unfold cC aL;simp only[];rw[h.i,h.len];have Gn:aJ b_ (s.extract (sk s b.i) (run ap s (sk s b.i))) 0=dI s b.i:=rfl;rw[Gn];by_cases jl:dI s b.i<0;·rw[if_pos (.inr jl),if_pos jl];rfl
  ·have Ii:¬run ap s (sk s b.i)=sk s b.i:=fun e=>jl (w_ e);rw[if_neg (by rintro(q|q);exact Ii q;exact jl q),if_neg jl];have M7:=uR s b.i;obtain⟨kind,XH⟩:=aj ((dI s b.i).toNat);have hk:kind<7:=by omega
   obtain⟨k,oE⟩:=aj (run ap s (sk s b.i));rw[XH,oE,Lu,h.er];obtain⟨kD,Gi⟩:=aj (jE b.er (j7 b.L.length af) (sk s b.i));rw[Gi];have h0:=fun q=>h.same (by rw[h.er];exact C9 (Gi.trans q));have hnode:∀x y,xK x y->Bq (cC s f (b.L.length:Int) (af+1) x) (aL s f (b.L.length:Int) (af+1) y):=fun x y zm=>EO f _ _ x y zm;unfold cY Pl;by_cases hq:aM s k 123=true;·rw[if_pos hq,if_pos hq];have hA:It kind up a.L kD aV [] (grown b.L ⟨kind,aV,[],[],up⟩) []:=⟨by rw[di,h.len],fun q=>by rw[h0 q],fun ix yX how=>by simp[aJ],fun _=>rfl⟩;have hE:=yn (s:=s) hk (s.size+1) (ao s k 123) kD aV [] _ [] hA;rw[h.len]at hE;revert hE;cases hx:dy s kind a.L (s.size+1) (ao s k 123) kD aV []with
    |error e=>
     cases dQ s kind b.L.length (s.size+1) (ao s k 123) kD (grown b.L ⟨kind,aV,[],[],up⟩) []with
     |error e'=>exact fun q=>q
     |ok r=>exact fun q=>q.elim
    |ok r=>
     obtain⟨i2,dY,a2⟩:=r;cases hy:dQ s kind b.L.length (s.size+1) (ao s k 123) kD (grown b.L ⟨kind,aV,[],[],up⟩) []with
     |error e'=>exact fun q=>q.elim
     |ok r'=>obtain⟨i3,Zo,L3⟩:=r';rintro⟨rfl,rfl,hl,hs⟩;exact Eh hk hnode ⟨rfl,rfl,by show(grown a.L _).length=L3.length;rw[di,hl],fun q=>by show grown a.L _=L3;exact(hs q).symm⟩
   ·rw[if_neg hq,if_neg hq,wH hq];exact Eh hk hnode ⟨rfl,rfl,qz h.len,fun q=>by show grown a.L _=grown b.L _;rw[h0 q]⟩
def conv:Except (Option (Nat×Nat)) (List Nd)->Except (Nat×Nat) (List Nd)
 |.ok L=>.ok L
 |.error none=>.error (1,0)
 |.error (some f)=>.error f
theorem xB  s  :conv (b9 s)=fO s:=by
 unfold b9 fO;by_cases hl:4000<s.size;·rw[if_pos hl,if_pos hl];rfl
 ·rw[if_neg hl,if_neg hl];have h:=EO (s:=s) (s.size+1) (-1) 0 ⟨0,[],none⟩ ⟨0,[],none⟩ ⟨rfl,rfl,rfl,fun _=>rfl⟩;revert h;cases cC s (s.size+1) (-1) 0 ⟨0,[],none⟩with
  |error b=>
   cases aL s (s.size+1) (-1) 0 ⟨0,[],none⟩with
   |error b'=>rintro rfl;rfl
   |ok st=>exact fun q=>q.elim
  |ok a=>
   cases aL s (s.size+1) (-1) 0 ⟨0,[],none⟩with
   |error b'=>exact fun q=>q.elim
   |ok b=>
    intro h;have h':xK a b:=h;show conv (zV s b)=if sk s a.i<s.size then _ else _;unfold zV;rw[h'.i,h'.er];by_cases hq:sk s b.i<s.size;·rw[if_pos hq,if_pos hq];rfl
    ·rw[if_neg hq,if_neg hq];cases hb:b.er with
     |some f=>rfl
     |none=>show Except.ok b.L=Except.ok a.L;rw[h'.same (by rw[h'.er,hb])]
def CR(f:fP):Prop:=∀c p,f=some (c,p)->2<=c/\c<=7
theorem CR.none:CR none:=fun c p e=>by cases e
theorem CR.add{f}(h:CR f){c}(hc:2<=c/\c<=7)  p  :CR (ib f c p):=by
 cases f with
 |none=>intro c' p' e;cases e;exact hc
 |some x=>exact h
theorem CR.addI{f}(h:CR f)  b  {c} (hc:2<=c/\c<=7)  p  :CR (bD b f c p):=by
 cases b with
 |false=>exact h
 |true=>exact h.add hc p
theorem WG{kind}{L}{er}{a}{seen}{st}(h:CR er):CR (fa kind L er a seen st).1:=by
 unfold fa;split;·exact h.add (by omega) _
 ·exact((h.addI _ (by omega) _).addI _ (by omega) _).addI _ (by omega) _
theorem Jk{s}{kind}{L}{i}{er}{a}{seen}{e}{dY}{a2}{s2}(h:CR er)(hh:iu s kind L i er a seen=.ok (e,dY,a2,s2)):CR dY:=by rcases ma s kind L i er a seen (-1) (by omega)with⟨_,h2⟩|⟨_,h2⟩;all_goals grind[WG,bm]
theorem uv{s}{kind}{L}:∀  f i   er   a   seen   i2   dY   a2,CR er->dy s kind L f i er a seen=.ok (i2,dY,a2)->CR dY
 |0,i,er,a,seen,i2,dY,a2,h,e=>by cases e
 |f+1,i,er,a,seen,i2,dY,a2,h,e=>by
  cases h1:iu s kind L i er a seen with
  |error b=>simp_all[mc]
  |ok q=>
   obtain⟨j,Zo,a3,s3⟩:=q;have h3:=Jk h h1;by_cases hm:aM s j 59=true;·rw[kw h1 hm]at e;exact uv f _ _ _ _ _ _ _ h3 e
   ·rw[ku h1 hm]at e;grind[kB]
theorem FH{s}{kind}{L}{i}{er}{i2}{dY}{a2}(h:CR er)(e:cY s kind L i er=.ok (i2,dY,a2)):CR dY:=by grind[cY,uv]
theorem zx{s}{bB}(hn:∀st ct,CR st.er->bB st=.ok ct->CR ct.er):∀  f   st ct,CR st.er->dH s bB f st=.ok ct->CR ct.er
 |0,st,ct,h,e=>by cases e
 |f+1,st,ct,h,e=>by
  rw[dH]at e;cases h1:bB st with
  |error b=>grind
  |ok eR=>
   rw[h1]at e;simp only at e;have h2:=hn st eR h h1;split at e;·exact zx hn f _ ct (by exact h2) e
   grind
theorem Jm{s}{kind k}{bB}(hn:∀st ct,CR st.er->bB st=.ok ct->CR ct.er){st ct}(h:CR st.er)(e:i_ s kind k bB st=.ok ct):CR ct.er:=by
 unfold i_ at e;split at e
 ·split at e;·cases e
  ·split at e;·grind
   ·exact zx hn _ _ _ (by exact h) e
 grind
theorem zI{s}:∀  f   up   af   st ct,CR st.er->cC s f up af st=.ok ct->CR ct.er
 |0,up,af,st,ct,h,e=>by cases e
 |f+1,up,af,st,ct,h,e=>by
  rw[cC]at e;split at e;·cases e
  ·split at e;·cases e
   ·rename_i h1;exact Jm (fun a b=>zI f _ _ a b) (FH ((h.addI _ (by omega) _).addI _ (by omega) _) h1) e
theorem sJ{s}{c p}(h:b9 s=.error (some (c,p))):2<=c/\c<=7:=by
 have h1:=xB s;rw[h]at h1;have h2:fO s=.error (c,p):=h1.symm;unfold fO at h2;split at h2;·grind[b9]
 ·split at h2;·grind
  ·rename_i st h3;have hc:=zI _ _ _ _ _ (CR.none) h3;split at h2;·grind
   ·split at h2;·rename_i f hf;injection h2 with h2;exact hc c p (by grind)
    grind
