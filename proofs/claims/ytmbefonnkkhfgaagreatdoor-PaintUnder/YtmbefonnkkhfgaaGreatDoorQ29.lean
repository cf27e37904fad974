import Derived.Test.YtmbefonnkkhfgaaGreatDoorQ00
import Derived.Test.YtmbefonnkkhfgaaGreatDoorQ28
import Derived.RegionDies
import Derived.Test.YtmbefonnkkhfgaaGreatDoorQ08
set_option linter.unusedVariables false
set_option maxRecDepth 100000
set_option maxHeartbeats 16000000
namespace Go.Proofs.YtmbefonnkkhfgaaGreatDoor
section
open Go.RowKit Go.Proofs.Tryz
theorem kindV_no{i:Int}(h:i<0):kindV i=.tuple #[Iq 0,.bool false]:=by unfold kindV;rw[if_pos h]
theorem kindV_yes{i:Int}(h:¬i<0):kindV i=.tuple #[Iq i,.bool true]:=by unfold kindV;rw[if_neg h]
theorem kindAt_lt(s:ByteArray)(i:Nat):kindAt s i<7:=by
 unfold kindAt;rcases findF_bd (wordAt s i) kindsL 0 with h|h;·omega
 ·have:kindsL.length=7:=rfl;omega
theorem mem_add{w0 w w':World}{rb ab B:Nat}{E:Nat->Addr}{s:ByteArray}{st:PS}{L:List Nd}{i:Nat}{er:Flt}(h:Mem w0 w rb ab B E s st)(ha:AddOut w w' rb B s i (Sq ab 12 12) (fltV E er) L)(hg:TGood s ⟨i,L,er⟩):Mem w0 w' rb ab B E s ⟨i,L,er⟩:=by obtain⟨e,k,_,f,_⟩:=h;obtain⟨nv,KV,p,n,fr,_⟩:=ha;exact⟨e.fr fr,k.fr fr e.rbB e.lo,hg,f.trans fr,nv,KV,p,n⟩
theorem readNode_step(rb ab B:Nat)(E:Nat->Addr)(s:ByteArray)(f:Nat)(hnode:NodeC rb ab B E s f)(hs:s.size≤100000):NodeC rb ab B E s (f+1):=by
 intro up depth st w0 w hM hup hd hf;have HNC:=qH<|hnode;have HM:=qH<|hM;obtain⟨env,kn,good,fr,nv,KV,pr,pn⟩:=hM;have hrB:=env.rbB;have hlo:=env.lo;have hil:=good.il;have hll:=good.ll;have HG:=qH<|good;obtain⟨pn0,cn0,rfl⟩:∃p c,nv=.slice p st.L.length c:=own_slice pn.nr.row.choose_spec;have CW:=readWord_any rb s st.i (Sq ab 12 12) (.slice pn0 st.L.length cn0) (fltV E st.er) w pr (by omega) hil;obtain⟨at_,hat⟩:=nmd (sk s st.i);have hatl:at_≤s.size:=by rw[<-hat];exact sk_le s st.i hil
 have hatg:st.i≤at_:=by rw[<-hat];exact sk_ge s st.i
 obtain⟨k,hk⟩:=nmd (run letter s at_);have hkl:k≤s.size:=by rw[<-hk];exact run_le _ _ _ hatl
 obtain⟨t,ht⟩:=nmd (s.extract at_ k);have HK:Hid (kindAt s st.i=findF kindsL t 0):=by show _=_;unfold kindAt wordAt;rw[hat,hk,ht]
 have HW:=qH<|fun h=>by have:=kindAt_word h hil;rw[hat,hk]at this;exact this
 rw[hat,hk,ht]at CW;have HCW:=qH<|CW;have HPN:=qH<|pn;have CK:Hid (∀W,Kn W->Calls prog 109 #[.string t] W fun e w'=>e=.returned (kindV (findF kindsL t 0))∧w'=W):=fun W hW=>kindOf_at t W _ _ _ _ _ _ _ (hW 0 (by omega)) (hW 1 (by omega)) (hW 2 (by omega)) (hW 3 (by omega)) (hW 4 (by omega)) (hW 5 (by omega)) (hW 6 (by omega));rw[<-HK.out]at CK;have hk7:=kindAt_lt s st.i;have HP:Hid (pNodeF s (f+1) up depth st=if kindAt s st.i<0 then .error at_ else pThen (pBr s (kindAt s st.i).toNat st.L.length k (keepF st.er (roomO st.L.length depth) at_) (grown st.L ⟨(kindAt s st.i).toNat,withoutL,[],[],up⟩)) fun st1=>pBody s (kindAt s st.i).toNat st.L.length (pNodeF s f (st.L.length:Int) (depth+1)) st1):=by show _=_;unfold pNodeF;rw[hat,hk]
 obtain⟨ki,hki⟩:=nmd (kindAt s st.i);rw[hki]at CK HP HW hk7;have HT:Hid (∀W,W.cell? ⟨8,0,none⟩=some (errV (E 2))->Calls prog 60 #[Iq (at_:Int)] W fun e w'=>e=.returned (.iface 117 (.agg #[Iq (at_:Int),.iface 311 (.pointer (some (E 2)))]))∧w'=W):=fun W he=>noTree_any _ W (E 2) he;clear CW hat hk ht HK hki pr pn env kn good fr hnode;by_cases hneg:ki<0
 ·have HPE:Hid (pNodeF s (f+1) up depth st=.error at_):=by show _=_;rw[HP.out,if_pos hneg]
  rw[kindV_no hneg]at CK;clear HP HW;go_enter func58,ntmps58;go_wp2_with fail;refine HCW.mono ?_;rintro e w1 ⟨rfl,h1,g1⟩;have HF1:=qH<|Fr.grown g1 HM.1.le;have HE1:=qH<|HM.1.fr HF1;have HK1:=qH<|HM.2.1.fr HF1 hrB hlo;clear h1 g1;go_wp2_with fail;refine(CK _ HK1).mono ?_;rintro e w2 ⟨rfl,hw⟩;obtain rfl:=hw.symm;go_wp2_with fail;refine(HT _ HE1.g2).mono ?_;rintro e w3 ⟨rfl,hw⟩;obtain rfl:=hw.symm;go_wp2;refine⟨rfl,?_⟩;rw[HPE.out];exact⟨rfl,HM.2.2.2.1.trans HF1⟩
 ·obtain⟨kind,rfl⟩:∃q:Nat,ki=(q:Int):=⟨ki.toNat,by omega⟩;have hkk:kind<7:=by omega
  have hatk:=HW hneg;have HP2:Hid (pNodeF s (f+1) up depth st=pThen (pBr s kind st.L.length k (keepF st.er (roomO st.L.length depth) at_) (grown st.L ⟨kind,withoutL,[],[],up⟩)) fun st1=>pBody s kind st.L.length (pNodeF s f (st.L.length:Int) (depth+1)) st1):=by show _=_;rw[HP.out,if_neg hneg];simp only[Int.toNat_natCast]
  rw[kindV_yes hneg]at CK;have hL:st.L.length≤100000:=by omega
  obtain⟨L1,hL1⟩:=nmd (grown st.L ⟨kind,withoutL,[],[],up⟩);have hL1l:L1.length=st.L.length+1:=by rw[<-hL1];exact grown_len _ _
  obtain⟨er1,her1⟩:=nmd (keepF st.er (roomO st.L.length depth) at_);have hupl:up<st.L.length:=by omega
  have HG1:Hid (TGood s ⟨k,L1,er1⟩):=⟨hkl,by show L1.length≤k;omega,fun j=>by show(nth L1 j).kids.length≤L1.length;rw[hL1l,<-hL1];exact grown_kids _ _ rfl hupl HG.kl j⟩;have hL1k:L1.length≤k:=by omega
  have HKD:Hid ((nth L1 st.L.length).kind=kind):=by
   show _=_;rw[<-hL1];by_cases hu:up<0;·unfold grown;rw[if_pos hu,nth_app_new]
   ·rw[grown_eq st.L _ up.toNat (by show up=_;omega) (by omega),nth_mod_other _ (by omega),nth_app_new]
  rw[hL1,her1]at HP2;clear HP HW hneg;go_enter func58,ntmps58;go_wp2_with fail;refine HCW.mono ?_;rintro e w1 ⟨rfl,h1,g1⟩;have HF1:=qH<|Fr.grown g1 HM.1.le;have HE1:=qH<|HM.1.fr HF1;have HK1:=qH<|HM.2.1.fr HF1 hrB hlo;have HR1:=qH<|h1;have HN1:=qH<|HPN.up (Up.grown g1 hrB);clear h1 g1;go_wp2_with fail;refine(CK _ HK1).mono ?_;rintro e w2 ⟨rfl,hw⟩;obtain rfl:=hw.symm;have CR:Hid (Calls prog 111 #[Pq rb,Iq (depth:Int)] w1 fun e w'=>e=.returned (eoV E (roomO st.L.length depth))∧w'=w1):=by have:=roomFor_any rb s k (Sq ab 12 12) (fltV E st.er) pn0 st.L.length cn0 depth (E 3) (E 4) w1 HR1 HE1.g3 HE1.g4;rw[room_eo]at this;exact this
  go_wp2_with fail;refine CR.mono ?_;rintro e w3 ⟨rfl,hw⟩;obtain rfl:=hw.symm;have CP:Hid (Calls prog 110 #[Pq rb,eoV E (roomO st.L.length depth),Iq (at_:Int)] w1 fun e w'=>e=.returned (.tuple #[])∧PR w' rb s k (Sq ab 12 12) (.slice pn0 st.L.length cn0) (fltV E er1)∧w1.grownBy w' (some rb)):=by have:=keep_all rb s k (Sq ab 12 12) (.slice pn0 st.L.length cn0) E st.er (roomO st.L.length depth) at_ w1 HR1;rw[her1]at this;exact this
  clear her1;go_wp2_with fail;refine CP.mono ?_;rintro e w4 ⟨rfl,h4,g4⟩;have HF4:=qH<|HF1.trans (Fr.grown g4 HE1.le);have HE4:=qH<|HM.1.fr HF4;have HM4:Hid (Mem w0 w4 rb ab B E s ⟨k,st.L,er1⟩):=⟨HE4,HM.2.1.fr HF4 hrB hlo,⟨hkl,by show st.L.length≤k;omega,HG.kl⟩,HM.2.2.2.1.trans HF4,_,KV,h4,HN1.up (Up.grown g4 hrB)⟩;have CA:Hid (Calls prog 112 #[Pq rb,Iq (kind:Int),Iq up] w4 fun e w'=>e=.returned (Iq (st.L.length:Int))∧AddOut w4 w' rb B s k (Sq ab 12 12) (fltV E er1) L1):=by have:=addNode_any rb ab B s k _ (fltV E er1) st.L KV kind up w4 h4 (HN1.up (Up.grown g4 hrB)) HE4.tab hrB HE4.abB HE4.ne HE4.le hL hup (fun j ks hj hks=>by rw[<-hks];have:=HG.kl j;omega);rw[hL1]at this;exact this
  clear h4 g4 CP CR HF1 HE1 HK1 HR1 HN1 hL1;go_wp2_with fail;refine CA.mono ?_;rintro e w5 ⟨rfl,h5⟩;have HM5:=qH<|mem_add HM4 h5 HG1;obtain⟨idx,hidx⟩:=nmd st.L.length;rw[hidx]at HP2 hL1l HKD hL;rw[hidx];have hki:k=(⟨k,L1,er1⟩:PS).i:=rfl;have CT:Hid (Calls prog 113 #[Pq rb,.int .u8 123] w5 fun e w'=>e=.returned (.bool (isAt s k 123))∧Mem w0 w' rb ab B E s ⟨gotI s k 123,L1,er1⟩):=mem_takes (st:=⟨k,L1,er1⟩) 123 HM5 (by omega) (by omega);have hgg:=gotI_ge s k 123;have hgl:=gotI_le (s:=s) (i:=k) (c:=123) (by omega) hkl;have hd1:depth+1≤k:=by omega
  have hf1:s.size<f+k:=by omega
  clear h5 HM4 CA HE4 HF4 hidx HG1 HM HG HPN HCW CK HT hup hupl hd hf hil hll hatl hatg hki;by_cases hq:isAt s k 123=true
  ·obtain⟨env5,kn5,good5,fr5,nv5,KV5,pr5,pn5⟩:=HM5.out;rw[hq]at CT;go_wp2_with fail;refine CT.mono ?_;rintro e w6 ⟨rfl,h6⟩;clear env5 kn5 good5 fr5 pr5 pn5;have HMB:=qH<|h6;obtain⟨env,kn,good,fr,nv,KV2,pr,pn⟩:=h6;obtain⟨bl,cap,rfl,hBl,hbll,_,_⟩:=pn.nr.form (by show 0<L1.length;omega);have CA:=qH<|readAttributes_any rb ab B E s (gotI s k 123) er1 L1 KV2 bl cap idx kind w6 env pr pn (by omega) (by omega) HKD hkk (by omega) hgl;have c3:=pr.c3;have hix:(idx:Int)<(L1.length:Int):=by omega
   clear env kn good fr pr pn CT HM5;cases hp:pAttrsF s kind idx (s.size+1) (gotI s k 123) er1 L1 []with
   |error b=>
    have HRE:Hid (pNodeF s (f+1) up depth st=.error b):=by show _=_;rw[HP2.out];unfold pBr;rw[if_pos hq,hp];rfl
    rw[hp]at CA;clear hp HP2 hq;go_wp2_with fail;refine CA.mono ?_;rintro e w7 ⟨f7,rfl⟩;refine⟨rfl,?_⟩;rw[HRE.out];exact⟨rfl,HMB.2.2.2.1.trans (f7.fr HMB.1.le hBl)⟩
   |ok r=>
    obtain⟨i2,er2,L2⟩:=r;have HP3:Hid (pNodeF s (f+1) up depth st=pBody s kind idx (pNodeF s f (idx:Int) (depth+1)) ⟨i2,L2,er2⟩):=by show _=_;rw[HP2.out];unfold pBr;rw[if_pos hq,hp];rfl
    obtain⟨b1,b2,b3,b4⟩:=attrs_bd _ _ _ _ _ _ _ _ hgl hp;rw[hp]at CA;clear hp HP2 hq;go_wp2_with fail;refine CA.mono ?_;rintro e w7 ⟨f7,rfl,h7,n7,l7⟩;have fr7:=f7.fr HMB.1.le hBl;obtain⟨st1,hst1⟩:∃z:PS,⟨i2,L2,er2⟩=z:=⟨_,rfl⟩;have kd1:depth+1≤st1.i:=by rw[<-hst1];show depth+1≤i2;omega
    have kf1:s.size<f+st1.i:=by rw[<-hst1];show s.size<f+i2;omega
    have kx1:idx<st1.L.length:=by rw[<-hst1];show idx<L2.length;omega
    have HM6:Hid (Mem w0 w7 rb ab B E s st1):=by
     rw[<-hst1];refine⟨HMB.1.fr fr7,HMB.2.1.fr fr7 hrB hlo,⟨b2,?_,fun j=>?_⟩,HMB.2.2.2.1.trans fr7,_,KV2,h7,n7⟩;·show L2.length≤i2;have:L1.length≤gotI s k 123:=HMB.2.2.1.ll;omega
     ·show(nth L2 j).kids.length≤L2.length;rw[b4,b3];exact HMB.2.2.1.kl j
    rw[hst1]at HP3;clear h7 n7 f7 fr7 CA hst1 c3 hgg hgl hd1 hf1 HKD HMB;have hcs:kind=0∨kind=1∨kind=2∨kind=3∨kind=4∨kind=5∨kind=6:=by omega
    have hdi:((depth+1:Nat):Int)=(depth:Int)+1:=by omega
    have hdb:(depth:Int)+1≤1000000:=by have:=HM6.2.2.1.il;omega
    have CL:Hid (Calls prog 117 #[Pq rb,Iq (idx:Int),Iq ((depth:Int)+1)] w7 fun e w'=>NdOut w0 w' e rb ab B E s (pList s (pNodeF s f (idx:Int) (depth+1)) st1)):=by have:=readList_of rb ab B E s f HNC (by omega) idx (depth+1) st1 w0 w7 HM6 kx1 kd1 kf1;rw[hdi]at this;exact this
    rcases hcs with rfl|rfl|rfl|rfl|rfl|rfl|rfl;iterate 3
     ·have HPB:Hid (pNodeF s (f+1) up depth st=pList s (pNodeF s f (idx:Int) (depth+1)) st1):=by show _=_;rw[HP3.out];rfl
      obtain⟨R,hR⟩:=nmd (pList s (pNodeF s f (idx:Int) (depth+1)) st1);rw[hR]at CL HPB;clear hR HP3;go_wp2_with fail;refine CL.mono ?_;cases R with
      |error b=>rintro e x7 ⟨rfl,f7⟩;refine⟨rfl,?_⟩;rw[HPB.out];exact⟨rfl,f7⟩
      |ok st2=>rintro e x7 ⟨rfl,h7⟩;have HM7:=qH<|h7;clear h7 CL;go_wp2;go_end0;show NdOut _ _ _ _ _ _ _ _ _;rw[HPB.out];exact⟨rfl,HM7⟩
    iterate 2
     ·by_cases hb:isAt s st1.i 91=true
      ·have CX:Hid (Calls prog 116 #[Pq rb,.int .u8 91] w7 fun e w'=>NdOut w0 w' e rb ab B E s (pEnd s st1 91)):=mem_expect 91 HM6 (by omega) (by omega);have e1:pEnd s st1 91=.ok {st1 with i:=gotI s st1.i 91}:=by unfold pEnd;rw[if_pos hb]
       rw[e1]at CX;obtain⟨st2,hst2⟩:∃z:PS,{st1 with i:=gotI s st1.i 91}=z:=⟨_,rfl⟩;have z1:st1.i≤st2.i:=by rw[<-hst2];exact gotI_ge _ _ _
       have z2:st2.L.length=st1.L.length:=by rw[<-hst2]
       rw[hst2]at CX;have HPB:Hid (∀r,pNodeF s f (idx:Int) (depth+1) st2=r->pNodeF s (f+1) up depth st=pThen r fun st3=>pEnd s st3 93):=fun r hr=>by rw[HP3.out];show pOne s (pNodeF s f (idx:Int) (depth+1)) st1=_;unfold pOne;rw[if_pos hb,hst2,hr]
       clear e1 hst2 hb CL HP3;go_wp2_with fail;refine CX.mono ?_;rintro e x7 ⟨rfl,h7⟩;have CN:Hid (Calls prog 58 #[Pq rb,Iq (idx:Int),Iq ((depth:Int)+1)] x7 fun e w'=>NdOut w0 w' e rb ab B E s (pNodeF s f (idx:Int) (depth+1) st2)):=by have:=HNC (idx:Int) (depth+1) st2 w0 x7 h7 (.inr ⟨by omega,by omega⟩) (by omega) (by omega);rw[hdi]at this;exact this
       clear h7 CX;cases hp:pNodeF s f (idx:Int) (depth+1) st2 with
       |error b=>have HRE:Hid (pNodeF s (f+1) up depth st=.error b):=HPB _ hp;rw[hp]at CN;clear hp HPB;go_wp2_with fail;refine CN.mono ?_;rintro e x8 ⟨rfl,f8⟩;refine⟨rfl,?_⟩;rw[HRE.out];exact⟨rfl,f8⟩
       |ok st3=>
        have HRE:Hid (pNodeF s (f+1) up depth st=pEnd s st3 93):=HPB _ hp;rw[hp]at CN;clear hp HPB;go_wp2_with fail;refine CN.mono ?_;rintro e x8 ⟨rfl,h8⟩;have CX:Hid (Calls prog 116 #[Pq rb,.int .u8 93] x8 fun e w'=>NdOut w0 w' e rb ab B E s (pEnd s st3 93)):=mem_expect 93 h8 (by omega) (by omega);obtain⟨R,hR⟩:=nmd (pEnd s st3 93);rw[hR]at CX HRE;clear h8 CN hR;go_wp2_with fail;refine CX.mono ?_;cases R with
        |error b=>rintro e x9 ⟨rfl,f9⟩;refine⟨rfl,?_⟩;rw[HRE.out];exact⟨rfl,f9⟩
        |ok st4=>rintro e x9 ⟨rfl,h9⟩;have HM9:=qH<|h9;clear h9 CX;go_wp2;go_end0;show NdOut _ _ _ _ _ _ _ _ _;rw[HRE.out];exact⟨rfl,HM9⟩
      ·have CX:Hid (Calls prog 116 #[Pq rb,.int .u8 91] w7 fun e w'=>NdOut w0 w' e rb ab B E s (pEnd s st1 91)):=mem_expect 91 HM6 (by omega) (by omega);have e1:pEnd s st1 91=.error (sk s st1.i):=by unfold pEnd;rw[if_neg hb]
       rw[e1]at CX;have HRE:Hid (pNodeF s (f+1) up depth st=.error (sk s st1.i)):=by show _=_;rw[HP3.out];show pOne s (pNodeF s f (idx:Int) (depth+1)) st1=_;unfold pOne;rw[if_neg hb]
       clear e1 hb CL HP3;go_wp2_with fail;refine CX.mono ?_;rintro e x7 ⟨rfl,f7⟩;refine⟨rfl,?_⟩;rw[HRE.out];exact⟨rfl,f7⟩
    ·obtain⟨env,kn,good,fr,nv,KV2,pr,pn⟩:=HM6.out;obtain⟨bl,cap,rfl,hBl,hbll,_,_⟩:=pn.nr.form (by omega);have HEV:=qH<|env;have HPR:=qH<|pr;have HPN:=qH<|pn;have CS:Hid (∀W,PR W rb s st1.i (Sq ab 12 12) (Sq bl st1.L.length cap) (fltV E st1.er)->W.cell? ⟨8,0,none⟩=some (errV (E 2))->Calls prog 115 #[Pq rb] W fun e w'=>SOut W w' e rb s (Sq ab 12 12) (Sq bl st1.L.length cap) (fltV E st1.er) (E 2) (quoR s st1.i)):=fun W h1 h2=>readString_any rb s st1.i _ _ _ (E 2) W h1 (by omega) good.il (by omega) h2;have HG1:=qH<|good;clear env kn good fr pr pn CL;cases hqq:quoR s st1.i with
     |error b=>
      have HRE:Hid (pNodeF s (f+1) up depth st=.error b):=by show _=_;rw[HP3.out];show pText s idx st1=_;unfold pText;rw[hqq]
      rw[hqq]at CS;clear hqq HP3;have c3:=HPR.c3;have hix:(idx:Int)<(st1.L.length:Int):=by omega
      go_wp2_with fail;go_region_dies;all_goals refine(CS _ (HPR.drewN 1) HEV.g2).mono ?_;rintro e x7 ⟨g7,rfl⟩;refine⟨rfl,?_⟩;rw[HRE.out];exact⟨rfl,HM6.2.2.2.1.trans ((Fr.drewN B rb w7 1).trans (Fr.grown g7 HEV.le))⟩
     |ok r=>
      obtain⟨i2,tt⟩:=r;have HRE:Hid (pNodeF s (f+1) up depth st=.ok {st1 with i:=i2,L:=withText st1.L idx tt}):=by show _=_;rw[HP3.out];show pText s idx st1=_;unfold pText;rw[hqq]
      have HGT:=qH<|(text_fwd (s:=s) (idx:=idx) HG1 (by unfold pText;rw[hqq])).good;rw[hqq]at CS;clear hqq HP3;have c3:=HPR.c3;have hix:(idx:Int)<(st1.L.length:Int):=by omega
      have ce:=HPN.nr.cells bl rfl idx kx1 13 _ (pn_text (HPN.len idx kx1));obtain⟨ov,hov⟩:∃z:ByteArray,⟨(nth st1.L idx).text.toArray⟩=z:=⟨_,rfl⟩;rw[hov]at ce;have cf:w7.frozen? ⟨bl,idx*16+13,none⟩=false:=HPN.nr.frz rfl _;have hbr:bl≠rb:=by omega
      clear hov;go_wp2_with fail;go_region_with(first|(go_at_call 115;refine(CS _ (HPR.drewN 1) HEV.g2).mono ?_;rintro e x7 ⟨g7,rfl,h7⟩;have HR7:=qH<|h7;have HG7:=qH<|g7;have k3:=h7.c3;have hb7:x7.heap[bl]?=w7.heap[bl]?:=g7.block bl hbll (by simpa using hbr);have kc:=(World.cell?_of_block hb7).trans ce;have kf:=(World.frozen?_of_block hb7).trans cf;clear h7 g7));all_goals
       have HMT:Hid (Mem w0 (x7.setCell ⟨bl,idx*16+13,none⟩ (.string ⟨tt.toArray⟩)) rb ab B E s {st1 with i:=i2,L:=withText st1.L idx tt}):=by
        have fr7:=(Fr.drewN B rb w7 1).trans (Fr.grown HG7 HEV.le);have fr8:Fr B rb w7 (x7.setCell ⟨bl,idx*16+13,none⟩ (.string ⟨tt.toArray⟩)):=fr7.trans (Fr.own (gr_set x7 bl _ _) (Nat.le_trans HEV.le fr7.size) (fun q e=>by injection e with e;omega));have pn7:=(HPN.up (Up.drewN B w7 1)).up (Up.grown HG7 hrB);have pn8:=pn7.setText kx1 tt;have hwl:(withText st1.L idx tt).length=st1.L.length:=by unfold withText;simp
        refine⟨HEV.fr fr8,HM6.2.1.fr fr8 hrB hlo,HGT,HM6.2.2.2.1.trans fr8,Sq bl st1.L.length cap,KV2,PR.far HR7 (gr_set x7 bl _ _) (fun q e=>by injection e with e;omega) hrB,?_⟩;exact pn8
       clear k3 hb7 kc kf HG7 HR7 ce cf c3;go_wp2;go_end0;show NdOut _ _ _ _ _ _ _ _ _;rw[HRE.out];exact⟨rfl,HMT⟩
    ·have HPB:Hid (pNodeF s (f+1) up depth st=.ok st1):=by show _=_;rw[HP3.out];rfl
     clear CL HP3;go_wp2;go_end0;show NdOut _ _ _ _ _ _ _ _ _;rw[HPB.out];exact⟨rfl,HM6⟩
  ·have HP3:Hid (pNodeF s (f+1) up depth st=pBody s kind idx (pNodeF s f (idx:Int) (depth+1)) ⟨gotI s k 123,L1,er1⟩):=by show _=_;rw[HP2.out];unfold pBr;rw[if_neg hq];rfl
   rw[show isAt s k 123=false by simpa using hq]at CT;clear hq HP2;go_wp2_with fail;refine CT.mono ?_;rintro e w6 ⟨rfl,h6⟩;obtain⟨st1,hst1⟩:∃z:PS,⟨gotI s k 123,L1,er1⟩=z:=⟨_,rfl⟩;have kd1:depth+1≤st1.i:=by rw[<-hst1];show depth+1≤gotI s k 123;omega
   have kf1:s.size<f+st1.i:=by rw[<-hst1];show s.size<f+gotI s k 123;omega
   have kx1:idx<st1.L.length:=by rw[<-hst1];show idx<L1.length;omega
   rw[hst1]at h6 HP3;have HM6:=qH<|h6;clear h6 CT hst1 HM5 hgg hgl hd1 hf1 HKD;have hcs:kind=0∨kind=1∨kind=2∨kind=3∨kind=4∨kind=5∨kind=6:=by omega
   have hdi:((depth+1:Nat):Int)=(depth:Int)+1:=by omega
   have hdb:(depth:Int)+1≤1000000:=by have:=HM6.2.2.1.il;omega
   have CL:Hid (Calls prog 117 #[Pq rb,Iq (idx:Int),Iq ((depth:Int)+1)] w6 fun e w'=>NdOut w0 w' e rb ab B E s (pList s (pNodeF s f (idx:Int) (depth+1)) st1)):=by have:=readList_of rb ab B E s f HNC (by omega) idx (depth+1) st1 w0 w6 HM6 kx1 kd1 kf1;rw[hdi]at this;exact this
   rcases hcs with rfl|rfl|rfl|rfl|rfl|rfl|rfl;iterate 3
    ·have HPB:Hid (pNodeF s (f+1) up depth st=pList s (pNodeF s f (idx:Int) (depth+1)) st1):=by show _=_;rw[HP3.out];rfl
     obtain⟨R,hR⟩:=nmd (pList s (pNodeF s f (idx:Int) (depth+1)) st1);rw[hR]at CL HPB;clear hR HP3;go_wp2_with fail;refine CL.mono ?_;cases R with
     |error b=>rintro e x7 ⟨rfl,f7⟩;refine⟨rfl,?_⟩;rw[HPB.out];exact⟨rfl,f7⟩
     |ok st2=>rintro e x7 ⟨rfl,h7⟩;have HM7:=qH<|h7;clear h7 CL;go_wp2;go_end0;show NdOut _ _ _ _ _ _ _ _ _;rw[HPB.out];exact⟨rfl,HM7⟩
   iterate 2
    ·by_cases hb:isAt s st1.i 91=true
     ·have CX:Hid (Calls prog 116 #[Pq rb,.int .u8 91] w6 fun e w'=>NdOut w0 w' e rb ab B E s (pEnd s st1 91)):=mem_expect 91 HM6 (by omega) (by omega);have e1:pEnd s st1 91=.ok {st1 with i:=gotI s st1.i 91}:=by unfold pEnd;rw[if_pos hb]
      rw[e1]at CX;obtain⟨st2,hst2⟩:∃z:PS,{st1 with i:=gotI s st1.i 91}=z:=⟨_,rfl⟩;have z1:st1.i≤st2.i:=by rw[<-hst2];exact gotI_ge _ _ _
      have z2:st2.L.length=st1.L.length:=by rw[<-hst2]
      rw[hst2]at CX;have HPB:Hid (∀r,pNodeF s f (idx:Int) (depth+1) st2=r->pNodeF s (f+1) up depth st=pThen r fun st3=>pEnd s st3 93):=fun r hr=>by rw[HP3.out];show pOne s (pNodeF s f (idx:Int) (depth+1)) st1=_;unfold pOne;rw[if_pos hb,hst2,hr]
      clear e1 hst2 hb CL HP3;go_wp2_with fail;refine CX.mono ?_;rintro e x7 ⟨rfl,h7⟩;have CN:Hid (Calls prog 58 #[Pq rb,Iq (idx:Int),Iq ((depth:Int)+1)] x7 fun e w'=>NdOut w0 w' e rb ab B E s (pNodeF s f (idx:Int) (depth+1) st2)):=by have:=HNC (idx:Int) (depth+1) st2 w0 x7 h7 (.inr ⟨by omega,by omega⟩) (by omega) (by omega);rw[hdi]at this;exact this
      clear h7 CX;cases hp:pNodeF s f (idx:Int) (depth+1) st2 with
      |error b=>have HRE:Hid (pNodeF s (f+1) up depth st=.error b):=HPB _ hp;rw[hp]at CN;clear hp HPB;go_wp2_with fail;refine CN.mono ?_;rintro e x8 ⟨rfl,f8⟩;refine⟨rfl,?_⟩;rw[HRE.out];exact⟨rfl,f8⟩
      |ok st3=>
       have HRE:Hid (pNodeF s (f+1) up depth st=pEnd s st3 93):=HPB _ hp;rw[hp]at CN;clear hp HPB;go_wp2_with fail;refine CN.mono ?_;rintro e x8 ⟨rfl,h8⟩;have CX:Hid (Calls prog 116 #[Pq rb,.int .u8 93] x8 fun e w'=>NdOut w0 w' e rb ab B E s (pEnd s st3 93)):=mem_expect 93 h8 (by omega) (by omega);obtain⟨R,hR⟩:=nmd (pEnd s st3 93);rw[hR]at CX HRE;clear h8 CN hR;go_wp2_with fail;refine CX.mono ?_;cases R with
       |error b=>rintro e x9 ⟨rfl,f9⟩;refine⟨rfl,?_⟩;rw[HRE.out];exact⟨rfl,f9⟩
       |ok st4=>rintro e x9 ⟨rfl,h9⟩;have HM9:=qH<|h9;clear h9 CX;go_wp2;go_end0;show NdOut _ _ _ _ _ _ _ _ _;rw[HRE.out];exact⟨rfl,HM9⟩
     ·have CX:Hid (Calls prog 116 #[Pq rb,.int .u8 91] w6 fun e w'=>NdOut w0 w' e rb ab B E s (pEnd s st1 91)):=mem_expect 91 HM6 (by omega) (by omega);have e1:pEnd s st1 91=.error (sk s st1.i):=by unfold pEnd;rw[if_neg hb]
      rw[e1]at CX;have HRE:Hid (pNodeF s (f+1) up depth st=.error (sk s st1.i)):=by show _=_;rw[HP3.out];show pOne s (pNodeF s f (idx:Int) (depth+1)) st1=_;unfold pOne;rw[if_neg hb]
      clear e1 hb CL HP3;go_wp2_with fail;refine CX.mono ?_;rintro e x7 ⟨rfl,f7⟩;refine⟨rfl,?_⟩;rw[HRE.out];exact⟨rfl,f7⟩
   ·obtain⟨env,kn,good,fr,nv,KV2,pr,pn⟩:=HM6.out;obtain⟨bl,cap,rfl,hBl,hbll,_,_⟩:=pn.nr.form (by omega);have HEV:=qH<|env;have HPR:=qH<|pr;have HPN:=qH<|pn;have CS:Hid (∀W,PR W rb s st1.i (Sq ab 12 12) (Sq bl st1.L.length cap) (fltV E st1.er)->W.cell? ⟨8,0,none⟩=some (errV (E 2))->Calls prog 115 #[Pq rb] W fun e w'=>SOut W w' e rb s (Sq ab 12 12) (Sq bl st1.L.length cap) (fltV E st1.er) (E 2) (quoR s st1.i)):=fun W h1 h2=>readString_any rb s st1.i _ _ _ (E 2) W h1 (by omega) good.il (by omega) h2;have HG1:=qH<|good;clear env kn good fr pr pn CL;cases hqq:quoR s st1.i with
    |error b=>
     have HRE:Hid (pNodeF s (f+1) up depth st=.error b):=by show _=_;rw[HP3.out];show pText s idx st1=_;unfold pText;rw[hqq]
     rw[hqq]at CS;clear hqq HP3;have c3:=HPR.c3;have hix:(idx:Int)<(st1.L.length:Int):=by omega
     go_wp2_with fail;go_region_dies;all_goals refine(CS _ (HPR.drewN 1) HEV.g2).mono ?_;rintro e x7 ⟨g7,rfl⟩;refine⟨rfl,?_⟩;rw[HRE.out];exact⟨rfl,HM6.2.2.2.1.trans ((Fr.drewN B rb w6 1).trans (Fr.grown g7 HEV.le))⟩
    |ok r=>
     obtain⟨i2,tt⟩:=r;have HRE:Hid (pNodeF s (f+1) up depth st=.ok {st1 with i:=i2,L:=withText st1.L idx tt}):=by show _=_;rw[HP3.out];show pText s idx st1=_;unfold pText;rw[hqq]
     have HGT:=qH<|(text_fwd (s:=s) (idx:=idx) HG1 (by unfold pText;rw[hqq])).good;rw[hqq]at CS;clear hqq HP3;have c3:=HPR.c3;have hix:(idx:Int)<(st1.L.length:Int):=by omega
     have ce:=HPN.nr.cells bl rfl idx kx1 13 _ (pn_text (HPN.len idx kx1));obtain⟨ov,hov⟩:∃z:ByteArray,⟨(nth st1.L idx).text.toArray⟩=z:=⟨_,rfl⟩;rw[hov]at ce;have cf:w6.frozen? ⟨bl,idx*16+13,none⟩=false:=HPN.nr.frz rfl _;have hbr:bl≠rb:=by omega
     clear hov;go_wp2_with fail;go_region_with(first|(go_at_call 115;refine(CS _ (HPR.drewN 1) HEV.g2).mono ?_;rintro e x7 ⟨g7,rfl,h7⟩;have HR7:=qH<|h7;have HG7:=qH<|g7;have k3:=h7.c3;have hb7:x7.heap[bl]?=w6.heap[bl]?:=g7.block bl hbll (by simpa using hbr);have kc:=(World.cell?_of_block hb7).trans ce;have kf:=(World.frozen?_of_block hb7).trans cf;clear h7 g7));all_goals
      have HMT:Hid (Mem w0 (x7.setCell ⟨bl,idx*16+13,none⟩ (.string ⟨tt.toArray⟩)) rb ab B E s {st1 with i:=i2,L:=withText st1.L idx tt}):=by
       have fr7:=(Fr.drewN B rb w6 1).trans (Fr.grown HG7 HEV.le);have fr8:Fr B rb w6 (x7.setCell ⟨bl,idx*16+13,none⟩ (.string ⟨tt.toArray⟩)):=fr7.trans (Fr.own (gr_set x7 bl _ _) (Nat.le_trans HEV.le fr7.size) (fun q e=>by injection e with e;omega));have pn7:=(HPN.up (Up.drewN B w6 1)).up (Up.grown HG7 hrB);have pn8:=pn7.setText kx1 tt;have hwl:(withText st1.L idx tt).length=st1.L.length:=by unfold withText;simp
       refine⟨HEV.fr fr8,HM6.2.1.fr fr8 hrB hlo,HGT,HM6.2.2.2.1.trans fr8,Sq bl st1.L.length cap,KV2,PR.far HR7 (gr_set x7 bl _ _) (fun q e=>by injection e with e;omega) hrB,?_⟩;exact pn8
      clear k3 hb7 kc kf HG7 HR7 ce cf c3;go_wp2;go_end0;show NdOut _ _ _ _ _ _ _ _ _;rw[HRE.out];exact⟨rfl,HMT⟩
   ·have HPB:Hid (pNodeF s (f+1) up depth st=.ok st1):=by show _=_;rw[HP3.out];rfl
    clear CL HP3;go_wp2;go_end0;show NdOut _ _ _ _ _ _ _ _ _;rw[HPB.out];exact⟨rfl,HM6⟩
end
section
open Go.RowKit Go.Proofs.Tryz
theorem readNode_all(rb ab B:Nat)(E:Nat->Addr)(s:ByteArray)(hs:s.size≤100000):∀f,NodeC rb ab B E s f
 |0=>fun up depth st w0 w h hup hd hf=>absurd h.2.2.1.il (by omega)
 |f+1=>readNode_step rb ab B E s f (readNode_all rb ab B E s hs f) hs
def pLast(s:ByteArray)(st:PS):Except (Option (Nat×Nat)) (List Nd):=if sk s st.i<s.size then .error (some (2,sk s st.i))else match st.er with
 |some f=>.error (some f)
 |none=>.ok st.L
def pRoot(s:ByteArray):Except Nat PS->Except (Option (Nat×Nat)) (List Nd)
 |.error b=>.error (some (2,b))
 |.ok st=>pLast s st
def pTree(s:ByteArray):Except (Option (Nat×Nat)) (List Nd):=if 4000<s.size then .error none else pRoot s (pNodeF s (s.size+1) (-1) 0 ⟨0,[],none⟩)
def pv(E:Nat->Addr):Option (Nat×Nat)->Value
 |none=>errV (E 1)
 |some (c,p)=>faultV (p:Int) (errV (E c))
def TrOut(w w':World)(e:Ending)(E:Nat->Addr)(r:Except (Option (Nat×Nat)) (List Nd)):Prop:=Below w.heap.size w w'∧match r with
 |.error x=>e=.panicked [{v:=pv E x,recovered:=false}]
 |.ok L=>∃nv KV,e=.returned nv∧PN w' w.heap.size nv L KV
structure Glo(W:World)(E:Nat->Addr):Prop where
 sz:10≤W.heap.size
 kn:Kn W
 g1:W.cell? ⟨0,0,none⟩=some (errV (E 1))
 g2:W.cell? ⟨8,0,none⟩=some (errV (E 2))
 g3:W.cell? ⟨1,0,none⟩=some (errV (E 3))
 g4:W.cell? ⟨2,0,none⟩=some (errV (E 4))
 g5:W.cell? ⟨3,0,none⟩=some (errV (E 5))
 g6:W.cell? ⟨4,0,none⟩=some (errV (E 6))
 g7:W.cell? ⟨5,0,none⟩=some (errV (E 7))
theorem pr_new(W:World)(s:ByteArray)(av:Value)(E:Nat->Addr):PR (W.alloc (.cells #[.string s,Iq 0,av,.slice none 0 0,.nilIface] 123)) W.heap.size s 0 av (.slice none 0 0) (fltV E none):=
 ⟨by simp,by rw[World.cell?_alloc_at _ _ _ _ rfl];rfl,by rw[World.cell?_alloc_at _ _ _ _ rfl];rfl,by rw[World.cell?_alloc_at _ _ _ _ rfl];rfl,by rw[World.cell?_alloc_at _ _ _ _ rfl];rfl,by rw[World.cell?_alloc_at _ _ _ _ rfl];rfl,fun j=>frozen_of_row _ _ _ _ _ (heap_alloc_new _ _)⟩
theorem PN.base{W:World}{B B':Nat}{nv:Value}{L:List Nd}{KV:Nat->Value}(h:PN W B nv L KV)(hb:B'≤B):PN W B' nv L KV:=by
 obtain⟨xs,hx⟩:=h.nr.row;have own:∀{e:TypeId} {size n:Nat} {v:Value} {ys:List Value},W.ownsRow B e size v n ys->W.ownsRow B' e size v n ys:=fun{e size n v ys} h=>⟨h.1,by
  rcases h.2 with h2|⟨g,cap,cur,a,b,c⟩;·exact .inl h2
  ·exact .inr ⟨g,cap,cur,a,Nat.le_trans hb b,c⟩⟩;exact⟨⟨⟨xs,own hx⟩,h.nr.cells,h.nr.len,fun j hj=>own (h.nr.kids j hj),h.nr.sep⟩,h.len⟩
theorem readTree_any(s:ByteArray)(E:Nat->Addr)(w:World)(hG:Glo w E):
 Calls prog 29 #[.string s] w fun e w'=>TrOut w w' e E (pTree s):=by
 by_cases hlong:4000<s.size
 ·have HP:Hid (pTree s=.error none):=by show _=_;unfold pTree;rw[if_pos hlong]
  have hl':(4000:Int)<(s.size:Int):=by omega
  have g1:w.cell? ⟨0,0,none⟩=some (.iface 311 (.pointer (some (E 1)))):=hG.g1;clear hG;go_enter func29,ntmps29;go_wp2;refine⟨rfl,?_⟩;rw[HP.out];exact⟨Below.refl _ _,rfl⟩
 ·have hl':¬(4000:Int)<(s.size:Int):=by omega
  have hl2:(s.size:Int)≤4000:=by omega
  have hG0:=qH<|hG;have HP:Hid (pTree s=pRoot s (pNodeF s (s.size+1) (-1) 0 ⟨0,[],none⟩)):=by show _=_;unfold pTree;rw[if_neg hlong]
  obtain⟨A,hA⟩:=nmd w.heap.size;have CA:Hid (Calls prog 57 #[] w fun e w'=>e=.returned (Sq A 12 12)∧w'=w.alloc (.cells attCells 175)):=by have:=attributes_any w;rw[hA]at this;exact this
  have HT:Hid (Tab (w.alloc (.cells attCells 175)) A):=by have:=tab_new w;rw[hA]at this;exact this
  have HB1:Hid (Below A w (w.alloc (.cells attCells 175))):=by show Below _ _ _;rw[<-hA];exact(Below.refl _ _).alloc (Nat.le_refl _) _
  obtain⟨w1,hw1⟩:=nmd (w.alloc (.cells attCells 175));have hs1:w1.heap.size=A+1:=by rw[<-hw1,World.size_alloc,hA]
  rw[hw1]at CA HT HB1;have HAs:=qH<|hA;have hlo:=hG.sz;rw[hA]at hlo;clear hG hw1 hA;go_enter func29,ntmps29;go_wp2_with fail;refine CA.mono ?_;rintro e w1' ⟨rfl,hw⟩;obtain rfl:=hw.symm;go_wp2_with fail;obtain⟨w2,hw2⟩:=nmd (w1.alloc (.cells #[.string s,Iq 0,Sq A 12 12,.slice none 0 0,.nilIface] 123));have hs2:w2.heap.size=A+2:=by rw[<-hw2,World.size_alloc,hs1]
  have HB2:Hid (Below A w w2):=by rw[<-hw2];exact HB1.alloc (by omega) _
  have HPR:Hid (PR w2 (A+1) s 0 (Sq A 12 12) (.slice none 0 0) (fltV E none)):=by rw[<-hw2,<-hs1];exact pr_new _ _ _ _
  have HT2:Hid (Tab w2 A):=by have:=HT.fr (Fr.below (B:=A+1) (r:=A+1) ((Below.refl w1.heap.size w1).alloc (Nat.le_refl _) (.cells #[.string s,Iq 0,Sq A 12 12,.slice none 0 0,.nilIface] 123)) (by omega)) (by omega) (by omega);rw[hw2]at this;exact this
  have hc:∀(g:Nat) v,g<10->w.cell? ⟨g,0,none⟩=some v->w2.cell? ⟨g,0,none⟩=some v:=fun g v hg e=>(HB2.cell (p:=⟨g,0,none⟩) (by show g<A;omega)).trans e;have HEV:Hid (Env w2 (A+1) A (A+2) E):=⟨HT2,by omega,by omega,by omega,by omega,by omega,hc _ _ (by decide) hG0.g2,hc _ _ (by decide) hG0.g3,hc _ _ (by decide) hG0.g4,hc _ _ (by decide) hG0.g5,hc _ _ (by decide) hG0.g6,hc _ _ (by decide) hG0.g7⟩;have HKN:Hid (Kn w2):=fun j hj=>(HB2.cell (p:=⟨9,j,none⟩) (by show 9<A;omega)).trans (hG0.kn j hj);have HM:Hid (Mem w2 w2 (A+1) A (A+2) E s ⟨0,[],none⟩):=⟨HEV,HKN,⟨Nat.zero_le _,Nat.le_refl _,fun j=>Nat.zero_le _⟩,Fr.refl _ _ _,_,fun _=>.nilFunc,HPR,⟨NR.nothing _ _ _ _ _ _ _,fun j hj=>absurd hj (by show¬j<0;omega)⟩⟩;have CN:Hid (Calls prog 58 #[Pq (A+1),Iq (-1),Iq 0] w2 fun e w'=>NdOut w2 w' e (A+1) A (A+2) E s (pNodeF s (s.size+1) (-1) 0 ⟨0,[],none⟩)):=readNode_all (A+1) A (A+2) E s (by omega) (s.size+1) (-1) 0 ⟨0,[],none⟩ w2 w2 HM (.inl rfl) (Nat.le_refl _) (by show s.size<s.size+1+0;omega);have HBF:Hid (∀w',Fr (A+2) (A+1) w2 w'->Below w.heap.size w w'):=fun w' f=>by rw[HAs.out];exact HB2.trans ⟨f.os,f.tape,f.output,f.size,fun k hk=>f.block k (by omega) (by omega)⟩
  have hlt0:Hid (∀W,W.cell? ⟨8,0,none⟩=some (errV (E 2))->∀(q:Nat),Calls prog 60 #[Iq (q:Int)] W fun e w'=>e=.returned (.iface 117 (.agg #[Iq (q:Int),.iface 311 (.pointer (some (E 2)))]))∧w'=W):=fun W he q=>noTree_any _ W (E 2) he;rw[hw2];clear hw2 hc HT HB1 CA hs1;cases hp:pNodeF s (s.size+1) (-1) 0 ⟨0,[],none⟩with
  |error b=>
   have HRE:Hid (pTree s=.error (some (2,b))):=by show _=_;rw[HP.out,hp];rfl
   rw[hp]at CN;clear hp HP;refine CN.mono ?_;rintro e w3 ⟨rfl,f3⟩;refine⟨rfl,?_⟩;rw[HRE.out];exact⟨HBF _ f3,rfl⟩
  |ok st=>
   have HRE:Hid (pTree s=pLast s st):=by show _=_;rw[HP.out,hp];rfl
   rw[hp]at CN;clear hp HP;refine CN.mono ?_;rintro e w3 ⟨rfl,env3,kn3,good3,fr3,nv,KV,pr3,pn3⟩;have CB:=qH<|skipBlanks_any (A+1) s st.i _ nv _ w3 pr3 (by omega) good3.il;have HE3:=qH<|env3;have HF3:=qH<|fr3;have HN3:=qH<|pn3;obtain⟨i2,hi2⟩:=nmd (sk s st.i);have HRE2:Hid (pTree s=if i2<s.size then .error (some (2,i2))else match st.er with
    |some f=>.error (some f)
    |none=>.ok st.L):=by show _=_;rw[HRE.out];unfold pLast;rw[hi2]
   rw[hi2]at CB;clear env3 kn3 good3 fr3 pr3 pn3 CN hi2 HRE;go_wp2_with fail;refine CB.mono ?_;rintro e w4 ⟨rfl,h4,g4⟩;have HF4:=qH<|HF3.trans (Fr.grown g4 HE3.le);have HN4:=qH<|HN3.up (Up.grown g4 (by omega));have HE4:=qH<|HE3.fr (Fr.grown g4 HE3.le);have c1:=h4.c1;have c3:=h4.c3;have c4:=h4.c4;clear h4 g4 CB HF3 HN3 HE3;by_cases hlt:i2<s.size
   ·have hlt':(i2:Int)<(s.size:Int):=by omega
    have HR3:Hid (pTree s=.error (some (2,i2))):=by show _=_;rw[HRE2.out,if_pos hlt]
    clear HRE2;go_wp2_with fail;refine(hlt0 _ HE4.g2 i2).mono ?_;rintro e w5 ⟨rfl,hw⟩;obtain rfl:=hw.symm;go_wp2;refine⟨rfl,?_⟩;rw[HR3.out];exact⟨HBF _ HF4,rfl⟩
   ·cases her:st.er with
    |none=>
     have HR3:Hid (pTree s=.ok st.L):=by show _=_;rw[HRE2.out,if_neg hlt,her]
     rw[her]at c4;have c4':w4.cell? ⟨A+1,4,none⟩=some .nilIface:=c4;clear HRE2 c4 her;go_wp2;go_ret;show TrOut _ _ _ _ _;rw[HR3.out];exact⟨HBF _ HF4,nv,KV,rfl,HN4.base (by rw[HAs.out];omega)⟩
    |some fp=>
     obtain⟨c,q⟩:=fp;have HR3:Hid (pTree s=.error (some (c,q))):=by show _=_;rw[HRE2.out,if_neg hlt,her]
     rw[her]at c4;have c4':w4.cell? ⟨A+1,4,none⟩=some (.iface 117 (.agg #[Iq (q:Int),.iface 311 (.pointer (some (E c)))])):=c4;clear HRE2 c4 her;go_wp2;refine⟨rfl,?_⟩;rw[HR3.out];exact⟨HBF _ HF4,rfl⟩
end
section
def srchS(name:ByteArray)(kind:Nat):Option Nat:=if findF namesL name 0<0∨ownsB kind (findF namesL name 0).toNat=false then none else some (findF namesL name 0).toNat
theorem srch_known(j kind:Nat)(hj:j<12)(hk:kind<7):srchF (nmAt j) kind 12 0=srchS (nmAt j) kind:=by
 have h1:j=0∨j=1∨j=2∨j=3∨j=4∨j=5∨j=6∨j=7∨j=8∨j=9∨j=10∨j=11:=by omega
 have h2:kind=0∨kind=1∨kind=2∨kind=3∨kind=4∨kind=5∨kind=6:=by omega
 rcases h1 with rfl|rfl|rfl|rfl|rfl|rfl|rfl|rfl|rfl|rfl|rfl|rfl<;>rcases h2 with rfl|rfl|rfl|rfl|rfl|rfl|rfl<;>decide
theorem srch_unknown{name:ByteArray}(kind:Nat)(h:∀j,j<12->nmAt j≠name):srchF name kind 12 0=none∧findF namesL name 0=-1:=by
 have hs:∀f j,j+f≤12->srchF name kind f j=none:=fun f=>by
  induction f with
  |zero=>intro j _;rfl
  |succ f ih=>intro j hj;unfold srchF;rw[if_neg (fun q=>h j (by omega) q.1)];exact ih (j+1) (by omega)
 have hf:∀(ws:List ByteArray) k,(∀x∈ws,x≠name)->findF ws name k=-1:=fun ws=>by
  induction ws with
  |nil=>intro k _;rfl
  |cons a r ih=>intro k hx;unfold findF;rw[if_neg (hx a (by simp))];exact ih (k+1) (fun x hxx=>hx x (by simp[hxx]))
 refine⟨hs 12 0 (by omega),hf namesL 0 (fun x hx=>?_)⟩;obtain⟨j,hj,rfl⟩:=List.getElem_of_mem hx;have hj':j<12:=hj;have:=h j hj';unfold nmAt at this;rw[List.getElem?_eq_getElem hj]at this;exact this
theorem srch_eq(name:ByteArray)(kind:Nat)(hk:kind<7):srchF name kind 12 0=srchS name kind:=by
 by_cases h:∃j,j<12∧nmAt j=name;·obtain⟨j,hj,rfl⟩:=h;exact srch_known j kind hj hk
 ·have h':∀j,j<12->nmAt j≠name:=fun j hj e=>h ⟨j,hj,e⟩;obtain⟨h1,h2⟩:=srch_unknown kind h';rw[h1];unfold srchS;rw[h2,if_pos (by left;decide)]
theorem find_name{name:ByteArray}(h:¬findF namesL name 0<0):(findF namesL name 0).toNat<12∧nmAt (findF namesL name 0).toNat=name:=by
 by_cases hx:∃j,j<12∧nmAt j=name
 ·obtain⟨j,hj,rfl⟩:=hx;have h1:j=0∨j=1∨j=2∨j=3∨j=4∨j=5∨j=6∨j=7∨j=8∨j=9∨j=10∨j=11:=by omega
  rcases h1 with rfl|rfl|rfl|rfl|rfl|rfl|rfl|rfl|rfl|rfl|rfl|rfl<;>decide
 ·exact absurd (by rw[(srch_unknown (name:=name) 0 (fun j hj e=>hx ⟨j,hj,e⟩)).2];decide) h
theorem nm_inj{i j:Nat}(hi:i<12)(hj:j<12)(h:nmAt i=nmAt j):i=j:=by
 have h1:i=0∨i=1∨i=2∨i=3∨i=4∨i=5∨i=6∨i=7∨i=8∨i=9∨i=10∨i=11:=by omega
 have key:∀i,i<12->(findF namesL (nmAt i) 0).toNat=i:=by decide
 have:=key i hi;rw[h,key j hj]at this;exact this.symm
theorem find_app(ws:List ByteArray)(x y:ByteArray):∀k,(0≤findF (ws++[y]) x k↔(0≤findF ws x k∨y=x)):=by
 induction ws with
 |nil=>
  intro k;show 0≤findF [y] x k↔(0≤findF [] x k∨y=x);unfold findF;by_cases e:y=x;·rw[if_pos e];simp[e]
  ·rw[if_neg e];simp[findF,e]
 |cons a r ih=>
  intro k;show 0≤findF (a::(r++[y])) x k↔(0≤findF (a::r) x k∨y=x);unfold findF;by_cases e:a=x;·rw[if_pos e,if_pos e];simp
  ·rw[if_neg e,if_neg e];exact ih (k+1)
theorem addF_some(f:Flt)(c p c2 p2:Nat):addF (addF f c p) c2 p2=addF f c p:=by cases f<;>rfl
theorem addIf_some(b:Bool)(f:Flt)(c p c2 p2:Nat):addIf b (addF f c p) c2 p2=addF f c p:=by unfold addIf;split;exact addF_some _ _ _ _ _;rfl
theorem addF_old{f:Flt}(h:f≠none)(c p:Nat):addF f c p=f:=by cases f with
 |none=>exact absurd rfl h
 |some x=>rfl
theorem addF_ne(f:Flt)(c p:Nat):addF f c p≠none:=by cases f<;>simp[addF]
end
section
theorem tgrown_set(L:List Nd)(kind:Nat)(a:List Int)(up:Int)(ix:Nat)(n:Int):(grown L ⟨kind,a,[],[],up⟩).modify L.length (fun d=>{d with attr:=d.attr.set ix n})=grown L ⟨kind,a.set ix n,[],[],up⟩:=by
 have key:∀(M:List Nd) (d:Nd) (f:Nd->Nd),M.length=L.length->(M++[d]).modify L.length f=M++[f d]:=fun M d f hM=>by
  apply List.ext_getElem?;intro j;rw[List.getElem?_modify];by_cases h1:j<M.length
  ·rw[List.getElem?_append_left h1,List.getElem?_append_left h1];have:¬L.length=j:=by omega
   simp[this]
  ·rw[List.getElem?_append_right (by omega),List.getElem?_append_right (by omega)];by_cases h2:j=L.length;·subst h2;simp[hM]
   ·rw[List.getElem?_eq_none (by simp;omega),List.getElem?_eq_none (by simp;omega)];rfl
 unfold grown;split;·exact key L _ _ rfl
 ·exact key _ _ _ (by simp)
theorem grown_attrs(L:List Nd)(d:Nd):(grown L d).map (fun x=>x.attr)=L.map (fun x=>x.attr)++[d.attr]:=by
 unfold grown;split;·simp
 ·rw[List.map_append];congr 1;apply List.ext_getElem?;intro j;rw[List.getElem?_map,List.getElem?_modify,List.getElem?_map];cases L[j]? with
  |none=>rfl
  |some x=>simp;split<;>rfl
theorem hasAt_map(L:List Nd)(k:Nat)(n:Int):hasAt L k n=(L.map fun x=>x.attr).any fun a=>a[k]?.getD 0==n:=by unfold hasAt;rw[List.any_map];rfl
theorem hasAt_grown(L:List Nd)(d:Nd)(n:Int):hasAt (grown L d) 0 n=(hasId L n||(d.attr[0]?.getD 0==n)):=by rw[hasAt_map,grown_attrs,List.any_append,<-hasAt_map,hasAt_zero];simp
structure ARel(kind:Nat)(up:Int)(L:List Nd)(er:Flt)(a:List Int)(seen:List Nat)(L':List Nd)(ws:List ByteArray):Prop where
 len:L'.length=L.length+1
 same:er=none->L'=grown L ⟨kind,a,[],[],up⟩
 q:∀ix,ix<12->ownsB kind ix=true->(seen.contains ix=true↔0≤findF ws (nmAt ix) 0)
 z:seen.contains 0=false->a[0]?.getD 0=0
def aEq(kind:Nat)(up:Int)(L:List Nd)(ws:List ByteArray)(r:Except Nat (Nat×Flt×List Int×List Nat))(r':Except Nat (Nat×Flt×List Nd×ByteArray)):Prop:=match r,r' with
 |.error b,.error b'=>b=b'
 |.ok (i,er,a,seen),.ok (i',er',L',t)=>i=i'∧er=er'∧ARel kind up L er a seen L' (ws++[t])
 |_,_=>False
theorem mo_eq(ix:Nat):moAt ix=mostL[ix]?.getD 0:=rfl
theorem attr_step{s:ByteArray}{kind:Nat}{up:Int}{L:List Nd}{er:Flt}{a:List Int}{seen:List Nat}{L':List Nd}{ws:List ByteArray}(hk:kind<7)(h:ARel kind up L er a seen L' ws)(i:Nat):
 aEq kind up L ws (attr1 s kind L i er a seen) (pAttr s kind ws L' L.length i er):=by
 unfold attr1 pAttr;simp only[];by_cases hka:run letter s (sk s i)=sk s i;·rw[if_pos hka,if_pos hka];rfl
 ·rw[if_neg hka,if_neg hka];obtain⟨at_,hat⟩:=nmd (sk s i);obtain⟨k,hkk⟩:=nmd (run letter s at_);obtain⟨t,ht⟩:=nmd (s.extract at_ k);rw[hat,hkk,ht];unfold mustR;by_cases hq:isAt s k 61=true
  ·rw[if_pos hq,if_pos hq];unfold pNum;simp only[];obtain⟨j2,hj2⟩:=nmd (sk s (gotI s k 61));obtain⟨e2,he2⟩:=nmd (run digit s j2);rw[hj2,he2];by_cases hb:numBad s j2 e2=true;·rw[if_pos hb,if_pos hb];rfl
   ·rw[if_neg hb,if_neg hb];obtain⟨n,hn⟩:=nmd (dv s j2 (e2-j2));rw[hn];have hsr:=srch_eq t kind hk;unfold srchS at hsr;by_cases hno:findF namesL t 0<0∨ownsB kind (findF namesL t 0).toNat=false
    ·rw[if_pos hno];rw[if_pos hno]at hsr;have hao:aofO t kind ws=some 7:=by unfold aofO;rw[hsr]
     rw[hao];refine⟨rfl,rfl,h.len,fun e=>absurd e (addF_ne _ _ _),fun ix hix how=>?_,h.z⟩;rw[h.q ix hix how,find_app];constructor;·exact Or.inl
     ·rintro(q|rfl);·exact q
      ·exfalso;rcases hno with h1|h1;·have h2:=(srch_known ix kind hix hk);rw[hsr]at h2;unfold srchS at h2;rw[if_neg (by
         have key:∀i,i<12->¬findF namesL (nmAt i) 0<0:=by decide
         exact absurd h1 (key ix hix))]at h2;cases h2
       ·have key:∀i,i<12->(findF namesL (nmAt i) 0).toNat=i:=by decide
        rw[key ix hix,how]at h1;cases h1
    ·rw[if_neg hno];rw[if_neg hno]at hsr;have hpos:¬findF namesL t 0<0:=fun q=>hno (.inl q);have how:ownsB kind (findF namesL t 0).toNat=true:=by
      cases ho:ownsB kind (findF namesL t 0).toNat with
      |true=>rfl
      |false=>exact absurd (.inr ho) hno
     obtain⟨hix,hnm⟩:=find_name hpos;obtain⟨ix,hixe⟩:=nmd ((findF namesL t 0).toNat);have hix0:findF namesL t 0=(ix:Int):=by omega
     rw[hixe]at hsr how hix hnm⊢;rw[hix0];have hqq:=h.q ix hix how;rw[hnm]at hqq;have har:aofR t kind=ix:=by unfold aofR;rw[hsr];rfl
     rw[har];have hnext:∀ix',ix'<12->ownsB kind ix'=true->((ix::seen).contains ix'=true↔0≤findF (ws++[t]) (nmAt ix') 0):=fun ix' hix' how'=>by
      rw[find_app,<-h.q ix' hix' how',List.contains_cons];simp only[Bool.or_eq_true,beq_iff_eq];constructor
      ·rintro(rfl|q);·exact .inr hnm.symm
       ·exact .inl q
      ·rintro(q|q);·exact .inr q
       ·exact .inl (nm_inj hix' hix (by rw[hnm,<-q]))
     have hz':(ix::seen).contains 0=false->(a.set ix n)[0]?.getD 0=0:=fun e=>by
      rw[List.contains_cons]at e;simp only[Bool.or_eq_false_iff]at e;have hne:ix≠0:=fun q=>by rw[q]at e;simp at e
      rw[List.getElem?_set_ne hne];exact h.z e.2
     have hn0:0≤n:=by have:=(nV_bd s (gotI s k 61) (-1)).1;unfold nV at this;rw[if_pos (by decide),hj2,he2,hn]at this;exact this
     by_cases hc:seen.contains ix=true
     ·have hf:=hqq.1 hc;have hao:aofO t kind ws=some 5:=by unfold aofO;rw[hsr];simp only[if_pos hf]
      rw[hao,hc];have e1:addIf true er 5 at_=addF er 5 at_:=rfl;rw[e1,addIf_some,addIf_some];exact⟨rfl,rfl,h.len,fun e=>absurd e (addF_ne _ _ _),hnext,hz'⟩
     ·have hf:¬0≤findF ws t 0:=fun q=>hc (hqq.2 q);have hao:aofO t kind ws=none:=by unfold aofO;rw[hsr];simp only[if_neg hf]
      have hcf:seen.contains ix=false:=by simpa using hc
      rw[hao,hcf];have e1:addIf false er 5 at_=er:=rfl;rw[e1];show _=_∧_=_∧ARel kind up L _ _ _ _ _;by_cases hm:moAt ix<n
      ·have e2':addIf (decide (mostL[ix]?.getD 0<n)) er 6 j2=addF er 6 j2:=by rw[<-mo_eq,decide_eq_true hm];rfl
       have e3:setO L' ix n=some 6:=by unfold setO;rw[if_pos hm]
       have e4:setL L' L.length ix n=L':=by unfold setL;rw[if_pos (.inl hm)]
       rw[e2',addIf_some,e3,e4];exact⟨rfl,rfl,h.len,fun e=>absurd e (addF_ne _ _ _),hnext,hz'⟩
      ·have e2':addIf (decide (mostL[ix]?.getD 0<n)) er 6 j2=er:=by rw[<-mo_eq,decide_eq_false hm];rfl
       have e3:setO L' ix n=if setB L' ix n=true then some 5 else none:=by unfold setO;rw[if_neg hm]
       have e4:setL L' L.length ix n=if setB L' ix n=true then L' else L'.modify L.length fun d=>{d with attr:=d.attr.set ix n}:=by
        unfold setL;by_cases hsb:setB L' ix n=true;·rw[if_pos (.inr hsb),if_pos hsb]
        ·rw[if_neg (by rintro(q|q);exact hm q;exact hsb q),if_neg hsb]
       rw[e2',e3];by_cases her:er=none
       ·have hL':=h.same her;have hsb:setB L' ix n=(decide ((ix:Int)=0∧0<n)&&hasId L n):=by
         unfold setB;by_cases hi0:ix=0
         ·subst hi0;have ha0:=h.z hcf;rw[hL',hasAt_grown];show((0:Nat)==0&&(n !=woAt 0)&&(hasId L n||(a[0]?.getD 0==n)))=_;rw[ha0];have hw:woAt 0=0:=rfl;rw[hw];by_cases hnz:n=0;·subst hnz;simp
          ·have h1:(n !=0)=true:=by simpa using hnz
           have h2:((0:Int)==n)=false:=by simpa using fun e:0=n=>hnz e.symm
           have h3:(0:Int)<n:=by omega
           rw[h1,h2];simp[h3]
         ·have h1:sgAt ix=false:=by unfold sgAt;simpa using hi0
          have h2:decide ((ix:Int)=0∧0<n)=false:=decide_eq_false (fun q=>hi0 (by have:=q.1;omega));rw[h1,h2];rfl
        rw[<-hsb];by_cases hs1:setB L' ix n=true;·rw[if_pos hs1,e4,if_pos hs1,hs1];exact⟨rfl,rfl,h.len,fun e=>absurd e (addF_ne _ _ _),hnext,hz'⟩
        ·rw[if_neg hs1,e4,if_neg hs1];have hs2:setB L' ix n=false:=by simpa using hs1
         rw[hs2];refine⟨rfl,rfl,by simpa using h.len,fun _=>?_,hnext,hz'⟩;rw[hL'];exact tgrown_set L kind a up ix n
       ·have k1:∀b,addIf b er 5 j2=er:=fun b=>by unfold addIf;split;exact addF_old her _ _;rfl
        have k2:∀o,keepF er o j2=er:=fun o=>by cases o with
         |none=>rfl
         |some c=>exact addF_old her _ _
        rw[k1,k2];exact⟨rfl,rfl,by rw[setL_length];exact h.len,fun e=>absurd e her,hnext,hz'⟩
  ·rw[if_neg hq,if_neg hq];rfl
end
section
theorem isAt_skE(s:ByteArray)(i c:Nat):isAt s (sk s i) c=isAt s i c:=by unfold isAt;rw[sk_sk]
theorem gotI_skE(s:ByteArray)(i c:Nat):gotI s (sk s i) c=gotI s i c:=by unfold gotI;rw[sk_sk]
theorem got_no{s:ByteArray}{i c:Nat}(h:¬isAt s i c=true):gotI s i c=sk s i:=by unfold isAt at h;unfold gotI;rw[if_neg (by simpa using h)]
def bEq(kind:Nat)(up:Int)(L:List Nd)(r:Except Nat (Nat×Flt×List Int))(r':Except Nat (Nat×Flt×List Nd)):Prop:=match r,r' with
 |.error b,.error b'=>b=b'
 |.ok (i,er,a),.ok (i',er',L')=>i=i'∧er=er'∧L'.length=L.length+1∧(er=none->L'=grown L ⟨kind,a,[],[],up⟩)
 |_,_=>False
theorem attrs_eq{s:ByteArray}{kind:Nat}{up:Int}{L:List Nd}(hk:kind<7):∀f i er a seen L' ws,ARel kind up L er a seen L' ws->bEq kind up L (attrsF s kind L f i er a seen) (pAttrsF s kind L.length f i er L' ws)
 |0,i,er,a,seen,L',ws,h=>rfl
 |f+1,i,er,a,seen,L',ws,h=>by
  have hs:=attr_step (s:=s) hk h i;unfold attrsF pAttrsF;revert hs;cases attr1 s kind L i er a seen with
  |error b=>
   cases pAttr s kind ws L' L.length i er with
   |error b'=>exact fun q=>q
   |ok r=>exact fun q=>q.elim
  |ok r=>
   obtain⟨i2,er2,a2,seen2⟩:=r;cases pAttr s kind ws L' L.length i er with
   |error b'=>exact fun q=>q.elim
   |ok r'=>
    obtain⟨i3,er3,L3,t⟩:=r';rintro⟨rfl,rfl,h2⟩;show bEq kind up L (if isAt s i2 59=true then _ else _) (if isAt s i2 59=true then _ else _);by_cases hq:isAt s i2 59=true;·rw[if_pos hq,if_pos hq];exact attrs_eq hk f _ _ _ _ _ _ h2
    ·rw[if_neg hq,if_neg hq,got_no hq];unfold pClose mustR;rw[isAt_skE,gotI_skE,sk_sk];by_cases hc:isAt s i2 125=true;·rw[if_pos hc,if_pos hc];exact⟨rfl,rfl,h2.len,h2.same⟩
     ·rw[if_neg hc,if_neg hc];rfl
structure Rel(a b:PS):Prop where
 i:a.i=b.i
 er:a.er=b.er
 len:a.L.length=b.L.length
 same:a.er=none->a.L=b.L
def REq(r r':Except Nat PS):Prop:=match r,r' with
 |.error b,.error b'=>b=b'
 |.ok a,.ok b=>Rel a b
 |_,_=>False
theorem Rel.to{a b:PS}(h:Rel a b)(i:Nat):Rel {a with i:=i} {b with i:=i}:=⟨rfl,h.er,h.len,h.same⟩
theorem end_eq{s:ByteArray}{a b:PS}{c:Nat}(h:Rel a b):REq (match mustR s a.i c with
 |.error e=>.error e
 |.ok i=>.ok {a with i:=i}) (pEnd s b c):=by
 unfold mustR pEnd;rw[h.i];by_cases hq:isAt s b.i c=true;·rw[if_pos hq,if_pos hq];exact h.to _
 ·rw[if_neg hq,if_neg hq];rfl
theorem end_sk{s:ByteArray}{b:PS}{c:Nat}:pEnd s {b with i:=sk s b.i} c=pEnd s b c:=by
 unfold pEnd;show(if isAt s (sk s b.i) c=true then _ else _)=_;rw[isAt_skE];by_cases hq:isAt s b.i c=true;·rw[if_pos hq,if_pos hq];show Except.ok {b with i:=gotI s (sk s b.i) c}=_;rw[gotI_skE]
 ·rw[if_neg hq,if_neg hq];show Except.error (sk s (sk s b.i))=_;rw[sk_sk]
theorem kids_eq{s:ByteArray}{node node':PS->Except Nat PS}(hn:∀a b,Rel a b->REq (node a) (node' b)):∀f a b,Rel a b->REq (kidsF s node f a) (pKidsF s node' f b)
 |0,a,b,h=>h.i
 |f+1,a,b,h=>by
  have h1:=hn a b h;unfold kidsF pKidsF;revert h1;cases node a with
  |error e=>
   cases node' b with
   |error e'=>exact fun q=>q
   |ok b2=>exact fun q=>q.elim
  |ok a2=>
   cases node' b with
   |error e'=>exact fun q=>q.elim
   |ok b2=>
    intro h2;have h2':Rel a2 b2:=h2;show REq (if isAt s a2.i 44=true then _ else _) (if isAt s b2.i 44=true then _ else _);rw[h2'.i];by_cases hq:isAt s b2.i 44=true;·rw[if_pos hq,if_pos hq];exact kids_eq hn f _ _ (h2'.to _)
    ·rw[if_neg hq,if_neg hq,got_no hq,end_sk];have:=end_eq (s:=s) (c:=93) h2';rw[h2'.i]at this;exact this
theorem grown_length_eq{L M:List Nd}{d e:Nd}(h:L.length=M.length):(grown L d).length=(grown M e).length:=by rw[grown_len,grown_len,h]
theorem text_eq{s:ByteArray}{idx:Nat}{a b:PS}(h:Rel a b):REq (match quoR s a.i with
 |.error e=>.error e
 |.ok (i2,t)=>.ok {a with i:=i2,L:=withText a.L idx t}) (pText s idx b):=by
 unfold pText;rw[h.i];cases quoR s b.i with
 |error e=>rfl
 |ok r=>obtain⟨i2,t⟩:=r;exact⟨rfl,h.er,by show(withText a.L idx t).length=(withText b.L idx t).length;unfold withText;simpa using h.len,fun q=>by show withText a.L idx t=withText b.L idx t;rw[h.same q]⟩
end
section
theorem list_eq{s:ByteArray}{node node':PS->Except Nat PS}(hn:∀a b,Rel a b->REq (node a) (node' b)){a b:PS}(h:Rel a b):REq (match mustR s a.i 91 with
 |.error e=>.error e
 |.ok i2=>if isAt s i2 93 then .ok {a with i:=gotI s i2 93}else kidsF s node (s.size+1) {a with i:=sk s i2}) (pList s node' b):=by
 unfold mustR pList;rw[h.i];by_cases hq:isAt s b.i 91=true
 ·rw[if_pos hq,if_pos hq];show REq (if isAt s (gotI s b.i 91) 93=true then _ else _) _;by_cases hc:isAt s (gotI s b.i 91) 93=true;·rw[if_pos hc,if_pos hc];exact h.to _
  ·rw[if_neg hc,if_neg hc,got_no hc];exact kids_eq hn _ _ _ (h.to _)
 ·rw[if_neg hq,if_neg hq];rfl
theorem one_eq{s:ByteArray}{node node':PS->Except Nat PS}(hn:∀a b,Rel a b->REq (node a) (node' b)){a b:PS}(h:Rel a b):REq (match mustR s a.i 91 with
 |.error e=>.error e
 |.ok i2=>match node {a with i:=i2}with
  |.error e=>.error e
  |.ok st3=>match mustR s st3.i 93 with
   |.error e=>.error e
   |.ok i4=>.ok {st3 with i:=i4}) (pOne s node' b):=by
 unfold mustR pOne;rw[h.i];by_cases hq:isAt s b.i 91=true
 ·rw[if_pos hq,if_pos hq];have h1:=hn _ _ (h.to (gotI s b.i 91));unfold pThen;revert h1;show REq (node {a with i:=gotI s b.i 91}) _->REq (match node {a with i:=gotI s b.i 91}with
   |.error e=>.error e
   |.ok st3=>_) _;cases node {a with i:=gotI s b.i 91}with
  |error e=>
   cases node' {b with i:=gotI s b.i 91}with
   |error e'=>exact fun q=>q
   |ok b2=>exact fun q=>q.elim
  |ok a2=>
   cases node' {b with i:=gotI s b.i 91}with
   |error e'=>exact fun q=>q.elim
   |ok b2=>exact fun q=>end_eq (s:=s) (c:=93) q
 ·rw[if_neg hq,if_neg hq];rfl
theorem body_eq{s:ByteArray}{kind idx:Nat}{node node':PS->Except Nat PS}(hk:kind<7)(hn:∀a b,Rel a b->REq (node a) (node' b)){a b:PS}(h:Rel a b):REq (bodyR s kind idx node a) (pBody s kind idx node' b):=by
 unfold bodyR pBody;by_cases h3:kind<3;·rw[if_pos h3,if_neg (by omega),if_neg (by omega),if_neg (by omega)];exact list_eq hn h
 ·rw[if_neg h3];by_cases h5:kind<5;·rw[if_pos h5,if_neg (by omega),if_neg (by omega),if_pos (by omega)];exact one_eq hn h
  ·rw[if_neg h5];by_cases h6:kind=5;·rw[if_pos h6,if_pos h6];exact text_eq h
   ·rw[if_neg h6,if_neg h6,if_pos (by omega)];exact h
theorem room_flt(er:Flt)(n depth p:Nat):addIf (decide (12≤depth)) (addIf (decide (100≤n)) er 3 p) 4 p=keepF er (roomO n depth) p:=by
 unfold roomO;by_cases h1:100≤n;·rw[decide_eq_true h1,if_pos h1];show addIf _ (addF er 3 p) 4 p=_;rw[addIf_some];rfl
 ·rw[decide_eq_false h1,if_neg h1];show addIf _ er 4 p=_;by_cases h2:12≤depth;·rw[decide_eq_true h2,if_pos h2];rfl
  ·rw[decide_eq_false h2,if_neg h2];rfl
theorem kindAt_empty{s:ByteArray}{i:Nat}(e:run letter s (sk s i)=sk s i):kindAt s i<0:=by
 have:wordAt s i=ByteArray.empty:=by unfold wordAt;rw[e];apply ByteArray.ext;simp
 unfold kindAt;rw[this];decide
theorem keepF_none{er:Flt}{o:Option Nat}{p:Nat}(h:keepF er o p=none):er=none:=by
 cases o with
 |none=>exact h
 |some c=>exact absurd h (addF_ne _ _ _)
theorem node_eq{s:ByteArray}:∀f (up:Int) depth a b,Rel a b->REq (nodeF s f up depth a) (pNodeF s f up depth b)
 |0,up,depth,a,b,h=>h.i
 |f+1,up,depth,a,b,h=>by
  unfold nodeF pNodeF;simp only[];rw[h.i,h.len];have hkw:findF kindsL (s.extract (sk s b.i) (run letter s (sk s b.i))) 0=kindAt s b.i:=rfl;rw[hkw];by_cases hneg:kindAt s b.i<0;·rw[if_pos (.inr hneg),if_pos hneg];rfl
  ·have hka:¬run letter s (sk s b.i)=sk s b.i:=fun e=>hneg (kindAt_empty e);rw[if_neg (by rintro(q|q);exact hka q;exact hneg q),if_neg hneg];have hk7:=kindAt_lt s b.i;obtain⟨kind,hkind⟩:=nmd ((kindAt s b.i).toNat);have hk:kind<7:=by omega
   obtain⟨k,hkk⟩:=nmd (run letter s (sk s b.i));rw[hkind,hkk,room_flt,h.er];obtain⟨er1,her1⟩:=nmd (keepF b.er (roomO b.L.length depth) (sk s b.i));rw[her1];have h0:=fun q=>h.same (by rw[h.er];exact keepF_none (her1.trans q));have hnode:∀x y,Rel x y->REq (nodeF s f (b.L.length:Int) (depth+1) x) (pNodeF s f (b.L.length:Int) (depth+1) y):=fun x y hxy=>node_eq f _ _ x y hxy;unfold attrsR pBr;by_cases hq:isAt s k 123=true;·rw[if_pos hq,if_pos hq];have hA:ARel kind up a.L er1 withoutL [] (grown b.L ⟨kind,withoutL,[],[],up⟩) []:=⟨by rw[grown_len,h.len],fun q=>by rw[h0 q],fun ix hix how=>by simp[findF],fun _=>rfl⟩;have hE:=attrs_eq (s:=s) hk (s.size+1) (gotI s k 123) er1 withoutL [] _ [] hA;rw[h.len]at hE;revert hE;cases hx:attrsF s kind a.L (s.size+1) (gotI s k 123) er1 withoutL []with
    |error e=>
     cases pAttrsF s kind b.L.length (s.size+1) (gotI s k 123) er1 (grown b.L ⟨kind,withoutL,[],[],up⟩) []with
     |error e'=>exact fun q=>q
     |ok r=>exact fun q=>q.elim
    |ok r=>
     obtain⟨i2,er2,a2⟩:=r;cases hy:pAttrsF s kind b.L.length (s.size+1) (gotI s k 123) er1 (grown b.L ⟨kind,withoutL,[],[],up⟩) []with
     |error e'=>exact fun q=>q.elim
     |ok r'=>obtain⟨i3,er3,L3⟩:=r';rintro⟨rfl,rfl,hl,hs⟩;exact body_eq hk hnode ⟨rfl,rfl,by show(grown a.L _).length=L3.length;rw[grown_len,hl],fun q=>by show grown a.L _=L3;exact(hs q).symm⟩
   ·rw[if_neg hq,if_neg hq,got_no hq];exact body_eq hk hnode ⟨rfl,rfl,grown_length_eq h.len,fun q=>by show grown a.L _=grown b.L _;rw[h0 q]⟩
def conv:Except (Option (Nat×Nat)) (List Nd)->Except (Nat×Nat) (List Nd)
 |.ok L=>.ok L
 |.error none=>.error (1,0)
 |.error (some f)=>.error f
theorem tree_eq(s:ByteArray):conv (pTree s)=parse s:=by
 unfold pTree parse;by_cases hl:4000<s.size;·rw[if_pos hl,if_pos hl];rfl
 ·rw[if_neg hl,if_neg hl];have h:=node_eq (s:=s) (s.size+1) (-1) 0 ⟨0,[],none⟩ ⟨0,[],none⟩ ⟨rfl,rfl,rfl,fun _=>rfl⟩;revert h;cases nodeF s (s.size+1) (-1) 0 ⟨0,[],none⟩with
  |error b=>
   cases pNodeF s (s.size+1) (-1) 0 ⟨0,[],none⟩with
   |error b'=>rintro rfl;rfl
   |ok st=>exact fun q=>q.elim
  |ok a=>
   cases pNodeF s (s.size+1) (-1) 0 ⟨0,[],none⟩with
   |error b'=>exact fun q=>q.elim
   |ok b=>
    intro h;have h':Rel a b:=h;show conv (pLast s b)=if sk s a.i<s.size then _ else _;unfold pLast;rw[h'.i,h'.er];by_cases hq:sk s b.i<s.size;·rw[if_pos hq,if_pos hq];rfl
    ·rw[if_neg hq,if_neg hq];cases hb:b.er with
     |some f=>rfl
     |none=>show Except.ok b.L=Except.ok a.L;rw[h'.same (by rw[h'.er,hb])]
end
section
def CR(f:Flt):Prop:=∀c p,f=some (c,p)->2≤c∧c≤7
theorem CR.none:CR none:=fun c p e=>by cases e
theorem CR.add{f:Flt}(h:CR f){c:Nat}(hc:2≤c∧c≤7)(p:Nat):CR (addF f c p):=by
 cases f with
 |none=>intro c' p' e;cases e;exact hc
 |some x=>exact h
theorem CR.addI{f:Flt}(h:CR f)(b:Bool){c:Nat}(hc:2≤c∧c≤7)(p:Nat):CR (addIf b f c p):=by
 cases b with
 |false=>exact h
 |true=>exact h.add hc p
theorem fa_cr{kind:Nat}{L:List Nd}{er:Flt}{a:List Int}{seen:List Nat}{st:Step}(h:CR er):CR (fa kind L er a seen st).1:=by
 unfold fa;split;·exact h.add (by omega) _
 ·exact((h.addI _ (by omega) _).addI _ (by omega) _).addI _ (by omega) _
theorem attr1_cr{s:ByteArray}{kind:Nat}{L:List Nd}{i:Nat}{er:Flt}{a:List Int}{seen:List Nat}{e:Nat}{er2:Flt}{a2:List Int}{s2:List Nat}(h:CR er)(hh:attr1 s kind L i er a seen=.ok (e,er2,a2,s2)):CR er2:=by
 rcases attr1_step s kind L i er a seen (-1) (by omega)with⟨_,h2⟩|⟨_,h2⟩;·have h3:=fa_cr (kind:=kind) (L:=L) (a:=a) (seen:=seen) (st:=step1 s i (-1)) h;rw[hh]at h2;injection h2 with h2;injection h2 with _ h2;rw[<-h2]at h3;exact h3
 ·rw[hh]at h2;cases h2
theorem attrsF_cr{s:ByteArray}{kind:Nat}{L:List Nd}:∀(f i:Nat) (er:Flt) (a:List Int) (seen:List Nat) (i2:Nat) (er2:Flt) (a2:List Int),CR er->attrsF s kind L f i er a seen=.ok (i2,er2,a2)->CR er2
 |0,i,er,a,seen,i2,er2,a2,h,e=>by cases e
 |f+1,i,er,a,seen,i2,er2,a2,h,e=>by
  cases h1:attr1 s kind L i er a seen with
  |error b=>rw[attrsF_err h1]at e;cases e
  |ok q=>
   obtain⟨j,er3,a3,s3⟩:=q;have h3:=attr1_cr h h1;by_cases hm:isAt s j 59=true;·rw[attrsF_more h1 hm]at e;exact attrsF_cr f _ _ _ _ _ _ _ h3 e
   ·rw[attrsF_last h1 hm]at e;unfold closeR at e;split at e;·cases e
    ·injection e with e;injection e with _ e;injection e with e _;rw[<-e];exact h3
theorem attrsR_cr{s:ByteArray}{kind:Nat}{L:List Nd}{i:Nat}{er:Flt}{i2:Nat}{er2:Flt}{a2:List Int}(h:CR er)(e:attrsR s kind L i er=.ok (i2,er2,a2)):CR er2:=by
 unfold attrsR at e;split at e;·exact attrsF_cr _ _ _ _ _ _ _ _ h e
 ·injection e with e;injection e with _ e;injection e with e _;rw[<-e];exact h
theorem kidsF_cr{s:ByteArray}{node:PS->Except Nat PS}(hn:∀st st',CR st.er->node st=.ok st'->CR st'.er):∀(f:Nat) (st st':PS),CR st.er->kidsF s node f st=.ok st'->CR st'.er
 |0,st,st',h,e=>by cases e
 |f+1,st,st',h,e=>by
  rw[kidsF]at e;cases h1:node st with
  |error b=>rw[h1]at e;cases e
  |ok st2=>
   rw[h1]at e;simp only at e;have h2:=hn st st2 h h1;split at e;·exact kidsF_cr hn f _ st' (by exact h2) e
   ·split at e;·cases e
    ·injection e with e;rw[<-e];exact h2
theorem bodyR_cr{s:ByteArray}{kind k:Nat}{node:PS->Except Nat PS}(hn:∀st st',CR st.er->node st=.ok st'->CR st'.er){st st':PS}(h:CR st.er)(e:bodyR s kind k node st=.ok st'):CR st'.er:=by
 unfold bodyR at e;split at e
 ·split at e;·cases e
  ·split at e;·injection e with e;rw[<-e];exact h
   ·exact kidsF_cr hn _ _ _ (by exact h) e
 ·split at e
  ·split at e;·cases e
   ·split at e;·cases e
    ·rename_i h1;split at e;·cases e
     ·injection e with e;have h5:=hn _ _ (by exact h) h1;rw[<-e];exact h5
  ·split at e
   ·split at e;·cases e
    ·injection e with e;rw[<-e];exact h
   ·injection e with e;rw[<-e];exact h
theorem nodeF_cr{s:ByteArray}:∀(f:Nat) (up:Int) (depth:Nat) (st st':PS),CR st.er->nodeF s f up depth st=.ok st'->CR st'.er
 |0,up,depth,st,st',h,e=>by cases e
 |f+1,up,depth,st,st',h,e=>by
  rw[nodeF]at e;split at e;·cases e
  ·split at e;·cases e
   ·rename_i h1;exact bodyR_cr (fun a b=>nodeF_cr f _ _ a b) (attrsR_cr ((h.addI _ (by omega) _).addI _ (by omega) _) h1) e
theorem pTree_code{s:ByteArray}{c p:Nat}(h:pTree s=.error (some (c,p))):2≤c∧c≤7:=by
 have h1:=tree_eq s;rw[h]at h1;have h2:parse s=.error (c,p):=h1.symm;unfold parse at h2;split at h2;·rename_i hl;unfold pTree at h;rw[if_pos hl]at h;cases h
 ·split at h2;·injection h2 with h2;injection h2 with h2 _;omega
  ·rename_i st h3;have hc:=nodeF_cr _ _ _ _ _ (CR.none) h3;split at h2;·injection h2 with h2;injection h2 with h2 _;omega
   ·split at h2;·rename_i f hf;injection h2 with h2;exact hc c p (by rw[hf,h2])
    ·cases h2
end
end Go.Proofs.YtmbefonnkkhfgaaGreatDoor
