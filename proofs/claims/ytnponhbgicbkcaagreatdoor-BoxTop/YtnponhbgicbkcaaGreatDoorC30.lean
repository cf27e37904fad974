import Derived.Test.YtnponhbgicbkcaaGreatDoorC28
import Derived.RegionDies
import Derived.Test.YtnponhbgicbkcaaGreatDoorC09
set_option linter.unusedVariables false
set_option maxRecDepth 100000
set_option maxHeartbeats 16000000
namespace Go.Proofs.YtnponhbgicbkcaaGreatDoor
section
open Go.RowKit
theorem zpc{i:Int}(h:i<0):z3k i=.tuple #[.int .i64 0,.bool false]:=by unfold z3k;rw[if_pos h]
theorem zlx{i:Int}(h:¬i<0):z3k i=.tuple #[.int .i64 i,.bool true]:=by unfold z3k;rw[if_neg h]
theorem zdo(s:ByteArray)(i:Nat):z1v s i<7:=by
 unfold z1v
 rcases z5e (za7 s i) z0z 0 with h|h
 ·omega
 ·have:z0z.length=7:=rfl
  omega
theorem zsm{w0 w w':World}{rb ab B:Nat}{E:Nat->Addr}{s:ByteArray}{st:PS}{L:List Nd}{i:Nat}{er:Flt}(h:Mem w0 w rb ab B E s st)(ha:z8o w w' rb B s i (.slice (some ⟨ab,0,none⟩) 12 12) (fltV E er) L)(hg:z30 s ⟨i,L,er⟩):Mem w0 w' rb ab B E s ⟨i,L,er⟩:=by
 obtain⟨e,k,_,f,_⟩:=h
 obtain⟨nv,KV,p,n,fr,_⟩:=ha
 exact⟨e.fr fr,k.fr fr e.rbB e.lo,hg,f.trans fr,nv,KV,p,n⟩
theorem zc7(rb ab B:Nat)(E:Nat->Addr)(s:ByteArray)(f:Nat)(hnode:zhq rb ab B E s f)(hs:s.size≤100000):zhq rb ab B E s (f+1):=by
 intro up depth st w0 w hM hup hd hf
 have HNC:Hid (zhq rb ab B E s f):=hnode
 have HM:Hid (Mem w0 w rb ab B E s st):=hM
 obtain⟨env,kn,good,fr,nv,KV,pr,pn⟩:=hM
 have hrB:=env.rbB
 have hlo:=env.lo
 have hil:=good.il
 have hll:=good.ll
 have HG:Hid (z30 s st):=good
 obtain⟨pn0,cn0,rfl⟩:∃p c,nv=.slice p st.L.length c:=z1x pn.nr.row.choose_spec
 have CW:=z88 rb s st.i (.slice (some ⟨ab,0,none⟩) 12 12) (.slice pn0 st.L.length cn0) (fltV E st.er) w pr (by omega) hil
 obtain⟨at_,hat⟩:∃z,sk s st.i=z:=⟨_,rfl⟩
 have hatl:at_≤s.size:=by rw[<-hat];exact z2w s st.i hil
 have hatg:st.i≤at_:=by rw[<-hat];exact z1y s st.i
 obtain⟨k,hk⟩:∃z,run z04 s at_=z:=⟨_,rfl⟩
 have hkl:k≤s.size:=by rw[<-hk];exact z56 _ _ _ hatl
 obtain⟨t,ht⟩:∃z,s.extract at_ k=z:=⟨_,rfl⟩
 have HK:Hid (z1v s st.i=z08 z0z t 0):=by show _=_;unfold z1v za7;rw[hat,hk,ht]
 have HW:Hid (¬z1v s st.i<0->at_<k):=fun h=>by have:=z9b h hil;rw[hat,hk] at this;exact this
 rw[hat,hk,ht] at CW
 have HCW:Hid (Calls Tryz.prog 126 #[.pointer (some ⟨rb,0,none⟩)] w fun e w'=>e=.returned (.tuple #[.string t,.int .i64 (at_:Int)])∧PR w' rb s k (.slice (some ⟨ab,0,none⟩) 12 12) (.slice pn0 st.L.length cn0) (fltV E st.er)∧w.grownBy w' (some rb)):=CW
 have HPN:Hid (PN w B (.slice pn0 st.L.length cn0) st.L KV):=pn
 have CK:Hid (∀W,Kn W->Calls Tryz.prog 127 #[.string t] W fun e w'=>e=.returned (z3k (z08 z0z t 0))∧w'=W):=fun W hW=>zlw t W _ _ _ _ _ _ _ (hW 0 (by omega)) (hW 1 (by omega)) (hW 2 (by omega)) (hW 3 (by omega)) (hW 4 (by omega)) (hW 5 (by omega)) (hW 6 (by omega))
 rw[<-HK.out] at CK
 have hk7:=zdo s st.i
 have HP:Hid (z06 s (f+1) up depth st=if z1v s st.i<0 then .error at_ else z9l (pBr s (z1v s st.i).toNat st.L.length k (z4c st.er (z8d st.L.length depth) at_) (grown st.L ⟨(z1v s st.i).toNat,z0c,[],[],up⟩)) fun st1=>zc6 s (z1v s st.i).toNat st.L.length (z06 s f (st.L.length:Int) (depth+1)) st1):=by
  show _=_
  unfold z06
  rw[hat,hk]
 obtain⟨ki,hki⟩:∃z,z1v s st.i=z:=⟨_,rfl⟩
 rw[hki] at CK HP HW hk7
 have HT:Hid (∀W,W.cell? ⟨7,0,none⟩=some (errV (E 2))->Calls Tryz.prog 75 #[.int .i64 (at_:Int)] W fun e w'=>e=.returned (.iface 137 (.agg #[.int .i64 (at_:Int),.iface 331 (.pointer (some (E 2)))]))∧w'=W):=fun W he=>z2l _ W (E 2) he
 clear CW hat hk ht HK hki pr pn env kn good fr hnode
 by_cases hneg:ki<0
 ·have HPE:Hid (z06 s (f+1) up depth st=.error at_):=by show _=_;rw[HP.out,if_pos hneg]
  rw[zpc hneg] at CK
  clear HP HW
  go_enter Tryz.func73,Tryz.ntmps73
  go_wp2_with fail
  refine HCW.out.mono ?_
  rintro e w1 ⟨rfl,h1,g1⟩
  have HF1:Hid (Fr B rb w w1):=Fr.grown g1 HM.out.1.le
  have HE1:Hid (Env w1 rb ab B E):=HM.out.1.fr HF1.out
  have HK1:Hid (Kn w1):=HM.out.2.1.fr HF1.out hrB hlo
  clear h1 g1
  go_wp2_with fail
  refine (CK.out _ HK1.out).mono ?_
  rintro e w2 ⟨rfl,hw⟩
  obtain rfl:=hw.symm
  go_wp2_with fail
  refine (HT.out _ HE1.out.g2).mono ?_
  rintro e w3 ⟨rfl,hw⟩
  obtain rfl:=hw.symm
  go_wp2
  refine⟨rfl,?_⟩
  rw[HPE.out]
  exact⟨rfl,HM.out.2.2.2.1.trans HF1.out⟩
 ·obtain⟨kind,rfl⟩:∃q:Nat,ki=(q:Int):=⟨ki.toNat,by omega⟩
  have hkk:kind<7:=by omega
  have hatk:=HW.out hneg
  have HP2:Hid (z06 s (f+1) up depth st=z9l (pBr s kind st.L.length k (z4c st.er (z8d st.L.length depth) at_) (grown st.L ⟨kind,z0c,[],[],up⟩)) fun st1=>zc6 s kind st.L.length (z06 s f (st.L.length:Int) (depth+1)) st1):=by
   show _=_
   rw[HP.out,if_neg hneg]
   simp only[Int.toNat_natCast]
  rw[zlx hneg] at CK
  have hL:st.L.length≤100000:=by omega
  obtain⟨L1,hL1⟩:∃z,grown st.L ⟨kind,z0c,[],[],up⟩=z:=⟨_,rfl⟩
  have hL1l:L1.length=st.L.length+1:=by rw[<-hL1];exact z0f _ _
  obtain⟨er1,her1⟩:∃z,z4c st.er (z8d st.L.length depth) at_=z:=⟨_,rfl⟩
  have hupl:up<st.L.length:=by omega
  have HG1:Hid (z30 s ⟨k,L1,er1⟩):=⟨hkl,by show L1.length≤k;omega,fun j=>by show (nth L1 j).kids.length≤L1.length;rw[hL1l,<-hL1];exact zau _ _ rfl hupl HG.out.kl j⟩
  have hL1k:L1.length≤k:=by omega
  have HKD:Hid ((nth L1 st.L.length).kind=kind):=by
   show _=_
   rw[<-hL1]
   by_cases hu:up<0
   ·unfold grown;rw[if_pos hu,z0r]
   ·rw[z5f st.L _ up.toNat (by show up=_;omega) (by omega),z0a _ (by omega),z0r]
  rw[hL1,her1] at HP2
  clear HP HW hneg
  go_enter Tryz.func73,Tryz.ntmps73
  go_wp2_with fail
  refine HCW.out.mono ?_
  rintro e w1 ⟨rfl,h1,g1⟩
  have HF1:Hid (Fr B rb w w1):=Fr.grown g1 HM.out.1.le
  have HE1:Hid (Env w1 rb ab B E):=HM.out.1.fr HF1.out
  have HK1:Hid (Kn w1):=HM.out.2.1.fr HF1.out hrB hlo
  have HR1:Hid (PR w1 rb s k (.slice (some ⟨ab,0,none⟩) 12 12) (.slice pn0 st.L.length cn0) (fltV E st.er)):=h1
  have HN1:Hid (PN w1 B (.slice pn0 st.L.length cn0) st.L KV):=HPN.out.up (Up.grown g1 hrB)
  clear h1 g1
  go_wp2_with fail
  refine (CK.out _ HK1.out).mono ?_
  rintro e w2 ⟨rfl,hw⟩
  obtain rfl:=hw.symm
  have CR:Hid (Calls Tryz.prog 129 #[.pointer (some ⟨rb,0,none⟩),.int .i64 (depth:Int)] w1 fun e w'=>e=.returned (eoV E (z8d st.L.length depth))∧w'=w1):=by
   have:=zfm rb s k (.slice (some ⟨ab,0,none⟩) 12 12) (fltV E st.er) pn0 st.L.length cn0 depth (E 3) (E 4) w1 HR1.out HE1.out.g3 HE1.out.g4
   rw[zsy] at this
   exact this
  go_wp2_with fail
  refine CR.out.mono ?_
  rintro e w3 ⟨rfl,hw⟩
  obtain rfl:=hw.symm
  have CP:Hid (Calls Tryz.prog 128 #[.pointer (some ⟨rb,0,none⟩),eoV E (z8d st.L.length depth),.int .i64 (at_:Int)] w1 fun e w'=>e=.returned (.tuple #[])∧PR w' rb s k (.slice (some ⟨ab,0,none⟩) 12 12) (.slice pn0 st.L.length cn0) (fltV E er1)∧w1.grownBy w' (some rb)):=by
   have:=z8h rb s k (.slice (some ⟨ab,0,none⟩) 12 12) (.slice pn0 st.L.length cn0) E st.er (z8d st.L.length depth) at_ w1 HR1.out
   rw[her1] at this
   exact this
  clear her1
  go_wp2_with fail
  refine CP.out.mono ?_
  rintro e w4 ⟨rfl,h4,g4⟩
  have HF4:Hid (Fr B rb w w4):=HF1.out.trans (Fr.grown g4 HE1.out.le)
  have HE4:Hid (Env w4 rb ab B E):=HM.out.1.fr HF4.out
  have HM4:Hid (Mem w0 w4 rb ab B E s ⟨k,st.L,er1⟩):=⟨HE4.out,HM.out.2.1.fr HF4.out hrB hlo,⟨hkl,by show st.L.length≤k;omega,HG.out.kl⟩,HM.out.2.2.2.1.trans HF4.out,_,KV,h4,HN1.out.up (Up.grown g4 hrB)⟩
  have CA:Hid (Calls Tryz.prog 130 #[.pointer (some ⟨rb,0,none⟩),.int .i64 (kind:Int),.int .i64 up] w4 fun e w'=>e=.returned (.int .i64 (st.L.length:Int))∧z8o w4 w' rb B s k (.slice (some ⟨ab,0,none⟩) 12 12) (fltV E er1) L1):=by
   have:=zei rb ab B s k _ (fltV E er1) st.L KV kind up w4 h4 (HN1.out.up (Up.grown g4 hrB)) HE4.out.tab hrB HE4.out.abB HE4.out.ne HE4.out.le hL hup (fun j ks hj hks=>by rw[<-hks];have:=HG.out.kl j;omega)
   rw[hL1] at this
   exact this
  clear h4 g4 CP CR HF1 HE1 HK1 HR1 HN1 hL1
  go_wp2_with fail
  refine CA.out.mono ?_
  rintro e w5 ⟨rfl,h5⟩
  have HM5:Hid (Mem w0 w5 rb ab B E s ⟨k,L1,er1⟩):=zsm HM4.out h5 HG1.out
  obtain⟨idx,hidx⟩:∃z,st.L.length=z:=⟨_,rfl⟩
  rw[hidx] at HP2 hL1l HKD hL
  rw[hidx]
  have hki:k=(⟨k,L1,er1⟩:PS).i:=rfl
  have CT:Hid (Calls Tryz.prog 131 #[.pointer (some ⟨rb,0,none⟩),.int .u8 123] w5 fun e w'=>e=.returned (.bool (isAt s k 123))∧Mem w0 w' rb ab B E s ⟨gotI s k 123,L1,er1⟩):=z9f (st:=⟨k,L1,er1⟩) 123 HM5.out (by omega) (by omega)
  have hgg:=z0n s k 123
  have hgl:=z22 (s:=s) (i:=k) (c:=123) (by omega) hkl
  have hd1:depth+1≤k:=by omega
  have hf1:s.size<f+k:=by omega
  clear h5 HM4 CA HE4 HF4 hidx HG1 HM HG HPN HCW CK HT hup hupl hd hf hil hll hatl hatg hki
  by_cases hq:isAt s k 123=true
  ·obtain⟨env5,kn5,good5,fr5,nv5,KV5,pr5,pn5⟩:=HM5.out
   rw[hq] at CT
   go_wp2_with fail
   refine CT.out.mono ?_
   rintro e w6 ⟨rfl,h6⟩
   clear env5 kn5 good5 fr5 pr5 pn5
   have HMB:Hid (Mem w0 w6 rb ab B E s ⟨gotI s k 123,L1,er1⟩):=h6
   obtain⟨env,kn,good,fr,nv,KV2,pr,pn⟩:=h6
   obtain⟨bl,cap,rfl,hBl,hbll,_,_⟩:=pn.nr.form (by show 0<L1.length;omega)
   have CA:Hid (Calls Tryz.prog 132 #[.pointer (some ⟨rb,0,none⟩),.pointer (some ⟨bl,idx*16,none⟩)] w6 fun e w'=>znt w6 w' e rb B bl E s (.slice (some ⟨ab,0,none⟩) 12 12) (.slice (some ⟨bl,0,none⟩) L1.length cap) KV2 L1.length (z1f s kind idx (s.size+1) (gotI s k 123) er1 L1 [])):=z6x rb ab B E s (gotI s k 123) er1 L1 KV2 bl cap idx kind w6 env pr pn (by omega) (by omega) HKD.out hkk (by omega) hgl
   have c3:=pr.c3
   have hix:(idx:Int)<(L1.length:Int):=by omega
   clear env kn good fr pr pn CT HM5
   cases hp:z1f s kind idx (s.size+1) (gotI s k 123) er1 L1 [] with
   | error b =>
    have HRE:Hid (z06 s (f+1) up depth st=.error b):=by
     show _=_
     rw[HP2.out]
     unfold pBr
     rw[if_pos hq,hp]
     rfl
    rw[hp] at CA
    clear hp HP2 hq
    go_wp2_with fail
    refine CA.out.mono ?_
    rintro e w7 ⟨f7,rfl⟩
    refine⟨rfl,?_⟩
    rw[HRE.out]
    exact⟨rfl,HMB.out.2.2.2.1.trans (f7.fr HMB.out.1.le hBl)⟩
   | ok r =>
    obtain⟨i2,er2,L2⟩:=r
    have HP3:Hid (z06 s (f+1) up depth st=zc6 s kind idx (z06 s f (idx:Int) (depth+1)) ⟨i2,L2,er2⟩):=by
     show _=_
     rw[HP2.out]
     unfold pBr
     rw[if_pos hq,hp]
     rfl
    obtain⟨b1,b2,b3,b4⟩:=zbd _ _ _ _ _ _ _ _ hgl hp
    rw[hp] at CA
    clear hp HP2 hq
    go_wp2_with fail
    refine CA.out.mono ?_
    rintro e w7 ⟨f7,rfl,h7,n7,l7⟩
    have fr7:Fr B rb w6 w7:=f7.fr HMB.out.1.le hBl
    obtain⟨st1,hst1⟩:∃z:PS,⟨i2,L2,er2⟩=z:=⟨_,rfl⟩
    have kd1:depth+1≤st1.i:=by rw[<-hst1];show depth+1≤i2;omega
    have kf1:s.size<f+st1.i:=by rw[<-hst1];show s.size<f+i2;omega
    have kx1:idx<st1.L.length:=by rw[<-hst1];show idx<L2.length;omega
    have HM6:Hid (Mem w0 w7 rb ab B E s st1):=by
     rw[<-hst1]
     refine⟨HMB.out.1.fr fr7,HMB.out.2.1.fr fr7 hrB hlo,⟨b2,?_,fun j=>?_⟩,HMB.out.2.2.2.1.trans fr7,_,KV2,h7,n7⟩
     ·show L2.length≤i2
      have:L1.length≤gotI s k 123:=HMB.out.2.2.1.ll
      omega
     ·show (nth L2 j).kids.length≤L2.length
      rw[b4,b3];exact HMB.out.2.2.1.kl j
    rw[hst1] at HP3
    clear h7 n7 f7 fr7 CA hst1 c3 hgg hgl hd1 hf1 HKD HMB
    have hcs:kind=0∨kind=1∨kind=2∨kind=3∨kind=4∨kind=5∨kind=6:=by omega
    have hdi:((depth+1:Nat):Int)=(depth:Int)+1:=by omega
    have hdb:(depth:Int)+1≤1000000:=by have:=HM6.out.2.2.1.il;omega
    have CL:Hid (Calls Tryz.prog 135 #[.pointer (some ⟨rb,0,none⟩),.int .i64 (idx:Int),.int .i64 ((depth:Int)+1)] w7 fun e w'=>z1d w0 w' e rb ab B E s (z32 s (z06 s f (idx:Int) (depth+1)) st1)):=by
     have:=z9t rb ab B E s f HNC.out (by omega) idx (depth+1) st1 w0 w7 HM6.out kx1 kd1 kf1
     rw[hdi] at this
     exact this
    rcases hcs with rfl|rfl|rfl|rfl|rfl|rfl|rfl
    ·have HPB:Hid (z06 s (f+1) up depth st=z32 s (z06 s f (idx:Int) (depth+1)) st1):=by show _=_;rw[HP3.out];rfl
     obtain⟨R,hR⟩:∃z,z32 s (z06 s f (idx:Int) (depth+1)) st1=z:=⟨_,rfl⟩
     rw[hR] at CL HPB
     clear hR HP3
     go_wp2_with fail
     refine CL.out.mono ?_
     cases R with
     | error b =>
      rintro e x7 ⟨rfl,f7⟩
      refine⟨rfl,?_⟩
      rw[HPB.out]
      exact⟨rfl,f7⟩
     | ok st2 =>
      rintro e x7 ⟨rfl,h7⟩
      have HM7:Hid (Mem w0 x7 rb ab B E s st2):=h7
      clear h7 CL
      go_wp2
      go_end0
      show z1d _ _ _ _ _ _ _ _ _
      rw[HPB.out]
      exact⟨rfl,HM7.out⟩
    ·have HPB:Hid (z06 s (f+1) up depth st=z32 s (z06 s f (idx:Int) (depth+1)) st1):=by show _=_;rw[HP3.out];rfl
     obtain⟨R,hR⟩:∃z,z32 s (z06 s f (idx:Int) (depth+1)) st1=z:=⟨_,rfl⟩
     rw[hR] at CL HPB
     clear hR HP3
     go_wp2_with fail
     refine CL.out.mono ?_
     cases R with
     | error b =>
      rintro e x7 ⟨rfl,f7⟩
      refine⟨rfl,?_⟩
      rw[HPB.out]
      exact⟨rfl,f7⟩
     | ok st2 =>
      rintro e x7 ⟨rfl,h7⟩
      have HM7:Hid (Mem w0 x7 rb ab B E s st2):=h7
      clear h7 CL
      go_wp2
      go_end0
      show z1d _ _ _ _ _ _ _ _ _
      rw[HPB.out]
      exact⟨rfl,HM7.out⟩
    ·have HPB:Hid (z06 s (f+1) up depth st=z32 s (z06 s f (idx:Int) (depth+1)) st1):=by show _=_;rw[HP3.out];rfl
     obtain⟨R,hR⟩:∃z,z32 s (z06 s f (idx:Int) (depth+1)) st1=z:=⟨_,rfl⟩
     rw[hR] at CL HPB
     clear hR HP3
     go_wp2_with fail
     refine CL.out.mono ?_
     cases R with
     | error b =>
      rintro e x7 ⟨rfl,f7⟩
      refine⟨rfl,?_⟩
      rw[HPB.out]
      exact⟨rfl,f7⟩
     | ok st2 =>
      rintro e x7 ⟨rfl,h7⟩
      have HM7:Hid (Mem w0 x7 rb ab B E s st2):=h7
      clear h7 CL
      go_wp2
      go_end0
      show z1d _ _ _ _ _ _ _ _ _
      rw[HPB.out]
      exact⟨rfl,HM7.out⟩
    ·by_cases hb:isAt s st1.i 91=true
     ·have CX:Hid (Calls Tryz.prog 134 #[.pointer (some ⟨rb,0,none⟩),.int .u8 91] w7 fun e w'=>z1d w0 w' e rb ab B E s (pEnd s st1 91)):=z0v 91 HM6.out (by omega) (by omega)
      have e1:pEnd s st1 91=.ok { st1 with i:=gotI s st1.i 91 }:=by unfold pEnd;rw[if_pos hb]
      rw[e1] at CX
      obtain⟨st2,hst2⟩:∃z:PS,{ st1 with i:=gotI s st1.i 91 }=z:=⟨_,rfl⟩
      have z1:st1.i≤st2.i:=by rw[<-hst2];exact z0n _ _ _
      have z2:st2.L.length=st1.L.length:=by rw[<-hst2]
      rw[hst2] at CX
      have HPB:Hid (∀r,z06 s f (idx:Int) (depth+1) st2=r->z06 s (f+1) up depth st=z9l r fun st3=>pEnd s st3 93):=fun r hr=>by
       rw[HP3.out]
       show pOne s (z06 s f (idx:Int) (depth+1)) st1=_
       unfold pOne
       rw[if_pos hb,hst2,hr]
      clear e1 hst2 hb CL HP3
      go_wp2_with fail
      refine CX.out.mono ?_
      rintro e x7 ⟨rfl,h7⟩
      have CN:Hid (Calls Tryz.prog 73 #[.pointer (some ⟨rb,0,none⟩),.int .i64 (idx:Int),.int .i64 ((depth:Int)+1)] x7 fun e w'=>z1d w0 w' e rb ab B E s (z06 s f (idx:Int) (depth+1) st2)):=by
       have:=HNC.out (idx:Int) (depth+1) st2 w0 x7 h7 (.inr ⟨by omega,by omega⟩) (by omega) (by omega)
       rw[hdi] at this
       exact this
      clear h7 CX
      cases hp:z06 s f (idx:Int) (depth+1) st2 with
      | error b =>
       have HRE:Hid (z06 s (f+1) up depth st=.error b):=HPB.out _ hp
       rw[hp] at CN
       clear hp HPB
       go_wp2_with fail
       refine CN.out.mono ?_
       rintro e x8 ⟨rfl,f8⟩
       refine⟨rfl,?_⟩
       rw[HRE.out]
       exact⟨rfl,f8⟩
      | ok st3 =>
       have HRE:Hid (z06 s (f+1) up depth st=pEnd s st3 93):=HPB.out _ hp
       rw[hp] at CN
       clear hp HPB
       go_wp2_with fail
       refine CN.out.mono ?_
       rintro e x8 ⟨rfl,h8⟩
       have CX:Hid (Calls Tryz.prog 134 #[.pointer (some ⟨rb,0,none⟩),.int .u8 93] x8 fun e w'=>z1d w0 w' e rb ab B E s (pEnd s st3 93)):=z0v 93 h8 (by omega) (by omega)
       obtain⟨R,hR⟩:∃z,pEnd s st3 93=z:=⟨_,rfl⟩
       rw[hR] at CX HRE
       clear h8 CN hR
       go_wp2_with fail
       refine CX.out.mono ?_
       cases R with
       | error b =>
        rintro e x9 ⟨rfl,f9⟩
        refine⟨rfl,?_⟩
        rw[HRE.out]
        exact⟨rfl,f9⟩
       | ok st4 =>
        rintro e x9 ⟨rfl,h9⟩
        have HM9:Hid (Mem w0 x9 rb ab B E s st4):=h9
        clear h9 CX
        go_wp2
        go_end0
        show z1d _ _ _ _ _ _ _ _ _
        rw[HRE.out]
        exact⟨rfl,HM9.out⟩
     ·have CX:Hid (Calls Tryz.prog 134 #[.pointer (some ⟨rb,0,none⟩),.int .u8 91] w7 fun e w'=>z1d w0 w' e rb ab B E s (pEnd s st1 91)):=z0v 91 HM6.out (by omega) (by omega)
      have e1:pEnd s st1 91=.error (sk s st1.i):=by unfold pEnd;rw[if_neg hb]
      rw[e1] at CX
      have HRE:Hid (z06 s (f+1) up depth st=.error (sk s st1.i)):=by
       show _=_
       rw[HP3.out]
       show pOne s (z06 s f (idx:Int) (depth+1)) st1=_
       unfold pOne
       rw[if_neg hb]
      clear e1 hb CL HP3
      go_wp2_with fail
      refine CX.out.mono ?_
      rintro e x7 ⟨rfl,f7⟩
      refine⟨rfl,?_⟩
      rw[HRE.out]
      exact⟨rfl,f7⟩
    ·by_cases hb:isAt s st1.i 91=true
     ·have CX:Hid (Calls Tryz.prog 134 #[.pointer (some ⟨rb,0,none⟩),.int .u8 91] w7 fun e w'=>z1d w0 w' e rb ab B E s (pEnd s st1 91)):=z0v 91 HM6.out (by omega) (by omega)
      have e1:pEnd s st1 91=.ok { st1 with i:=gotI s st1.i 91 }:=by unfold pEnd;rw[if_pos hb]
      rw[e1] at CX
      obtain⟨st2,hst2⟩:∃z:PS,{ st1 with i:=gotI s st1.i 91 }=z:=⟨_,rfl⟩
      have z1:st1.i≤st2.i:=by rw[<-hst2];exact z0n _ _ _
      have z2:st2.L.length=st1.L.length:=by rw[<-hst2]
      rw[hst2] at CX
      have HPB:Hid (∀r,z06 s f (idx:Int) (depth+1) st2=r->z06 s (f+1) up depth st=z9l r fun st3=>pEnd s st3 93):=fun r hr=>by
       rw[HP3.out]
       show pOne s (z06 s f (idx:Int) (depth+1)) st1=_
       unfold pOne
       rw[if_pos hb,hst2,hr]
      clear e1 hst2 hb CL HP3
      go_wp2_with fail
      refine CX.out.mono ?_
      rintro e x7 ⟨rfl,h7⟩
      have CN:Hid (Calls Tryz.prog 73 #[.pointer (some ⟨rb,0,none⟩),.int .i64 (idx:Int),.int .i64 ((depth:Int)+1)] x7 fun e w'=>z1d w0 w' e rb ab B E s (z06 s f (idx:Int) (depth+1) st2)):=by
       have:=HNC.out (idx:Int) (depth+1) st2 w0 x7 h7 (.inr ⟨by omega,by omega⟩) (by omega) (by omega)
       rw[hdi] at this
       exact this
      clear h7 CX
      cases hp:z06 s f (idx:Int) (depth+1) st2 with
      | error b =>
       have HRE:Hid (z06 s (f+1) up depth st=.error b):=HPB.out _ hp
       rw[hp] at CN
       clear hp HPB
       go_wp2_with fail
       refine CN.out.mono ?_
       rintro e x8 ⟨rfl,f8⟩
       refine⟨rfl,?_⟩
       rw[HRE.out]
       exact⟨rfl,f8⟩
      | ok st3 =>
       have HRE:Hid (z06 s (f+1) up depth st=pEnd s st3 93):=HPB.out _ hp
       rw[hp] at CN
       clear hp HPB
       go_wp2_with fail
       refine CN.out.mono ?_
       rintro e x8 ⟨rfl,h8⟩
       have CX:Hid (Calls Tryz.prog 134 #[.pointer (some ⟨rb,0,none⟩),.int .u8 93] x8 fun e w'=>z1d w0 w' e rb ab B E s (pEnd s st3 93)):=z0v 93 h8 (by omega) (by omega)
       obtain⟨R,hR⟩:∃z,pEnd s st3 93=z:=⟨_,rfl⟩
       rw[hR] at CX HRE
       clear h8 CN hR
       go_wp2_with fail
       refine CX.out.mono ?_
       cases R with
       | error b =>
        rintro e x9 ⟨rfl,f9⟩
        refine⟨rfl,?_⟩
        rw[HRE.out]
        exact⟨rfl,f9⟩
       | ok st4 =>
        rintro e x9 ⟨rfl,h9⟩
        have HM9:Hid (Mem w0 x9 rb ab B E s st4):=h9
        clear h9 CX
        go_wp2
        go_end0
        show z1d _ _ _ _ _ _ _ _ _
        rw[HRE.out]
        exact⟨rfl,HM9.out⟩
     ·have CX:Hid (Calls Tryz.prog 134 #[.pointer (some ⟨rb,0,none⟩),.int .u8 91] w7 fun e w'=>z1d w0 w' e rb ab B E s (pEnd s st1 91)):=z0v 91 HM6.out (by omega) (by omega)
      have e1:pEnd s st1 91=.error (sk s st1.i):=by unfold pEnd;rw[if_neg hb]
      rw[e1] at CX
      have HRE:Hid (z06 s (f+1) up depth st=.error (sk s st1.i)):=by
       show _=_
       rw[HP3.out]
       show pOne s (z06 s f (idx:Int) (depth+1)) st1=_
       unfold pOne
       rw[if_neg hb]
      clear e1 hb CL HP3
      go_wp2_with fail
      refine CX.out.mono ?_
      rintro e x7 ⟨rfl,f7⟩
      refine⟨rfl,?_⟩
      rw[HRE.out]
      exact⟨rfl,f7⟩
    ·obtain⟨env,kn,good,fr,nv,KV2,pr,pn⟩:=HM6.out
     obtain⟨bl,cap,rfl,hBl,hbll,_,_⟩:=pn.nr.form (by omega)
     have HEV:Hid (Env w7 rb ab B E):=env
     have HPR:Hid (PR w7 rb s st1.i (.slice (some ⟨ab,0,none⟩) 12 12) (.slice (some ⟨bl,0,none⟩) st1.L.length cap) (fltV E st1.er)):=pr
     have HPN:Hid (PN w7 B (.slice (some ⟨bl,0,none⟩) st1.L.length cap) st1.L KV2):=pn
     have CS:Hid (∀W,PR W rb s st1.i (.slice (some ⟨ab,0,none⟩) 12 12) (.slice (some ⟨bl,0,none⟩) st1.L.length cap) (fltV E st1.er)->W.cell? ⟨7,0,none⟩=some (errV (E 2))->Calls Tryz.prog 133 #[.pointer (some ⟨rb,0,none⟩)] W fun e w'=>SOut W w' e rb s (.slice (some ⟨ab,0,none⟩) 12 12) (.slice (some ⟨bl,0,none⟩) st1.L.length cap) (fltV E st1.er) (E 2) (quoR s st1.i)):=fun W h1 h2=>z5t rb s st1.i _ _ _ (E 2) W h1 (by omega) good.il (by omega) h2
     have HG1:Hid (z30 s st1):=good
     clear env kn good fr pr pn CL
     cases hqq:quoR s st1.i with
     | error b =>
      have HRE:Hid (z06 s (f+1) up depth st=.error b):=by
       show _=_
       rw[HP3.out]
       show z65 s idx st1=_
       unfold z65
       rw[hqq]
      rw[hqq] at CS
      clear hqq HP3
      have c3:=HPR.out.c3
      have hix:(idx:Int)<(st1.L.length:Int):=by omega
      go_wp2_with fail
      go_region_dies
      all_goals
       refine (CS.out _ (HPR.out.drewN 1) HEV.out.g2).mono ?_
       rintro e x7 ⟨g7,rfl⟩
       refine⟨rfl,?_⟩
       rw[HRE.out]
       exact⟨rfl,HM6.out.2.2.2.1.trans ((Fr.drewN B rb w7 1).trans (Fr.grown g7 HEV.out.le))⟩
     | ok r =>
      obtain⟨i2,tt⟩:=r
      have HRE:Hid (z06 s (f+1) up depth st=.ok { st1 with i:=i2,L:=z03 st1.L idx tt }):=by
       show _=_
       rw[HP3.out]
       show z65 s idx st1=_
       unfold z65
       rw[hqq]
      have HGT:Hid (z30 s { st1 with i:=i2,L:=z03 st1.L idx tt }):=(zci (s:=s) (idx:=idx) HG1.out (by unfold z65;rw[hqq])).good
      rw[hqq] at CS
      clear hqq HP3
      have c3:=HPR.out.c3
      have hix:(idx:Int)<(st1.L.length:Int):=by omega
      have ce:=HPN.out.nr.cells bl rfl idx kx1 13 _ (zmm (HPN.out.len idx kx1))
      obtain⟨ov,hov⟩:∃z:ByteArray,⟨(nth st1.L idx).text.toArray⟩=z:=⟨_,rfl⟩
      rw[hov] at ce
      have cf:w7.frozen? ⟨bl,idx*16+13,none⟩=false:=HPN.out.nr.frz rfl _
      have hbr:bl≠rb:=by omega
      clear hov
      go_wp2_with fail
      go_region_with (first|(go_at_call 133;refine (CS.out _ (HPR.out.drewN 1) HEV.out.g2).mono ?_;rintro e x7 ⟨g7,rfl,h7⟩;have HR7:Hid (PR x7 rb s i2 (.slice (some ⟨ab,0,none⟩) 12 12) (.slice (some ⟨bl,0,none⟩) st1.L.length cap) (fltV E st1.er)):=h7;have HG7:Hid ((w7.drewN 1).grownBy x7 (some rb)):=g7;have k3:=h7.c3;have hb7:x7.heap[bl]?=w7.heap[bl]?:=g7.block bl hbll (by simpa using hbr);have kc:x7.cell? ⟨bl,idx*16+13,none⟩=some (.string ov):=(World.cell?_of_block hb7).trans ce;have kf:x7.frozen? ⟨bl,idx*16+13,none⟩=false:=(World.frozen?_of_block hb7).trans cf;clear h7 g7))
      all_goals
       have HMT:Hid (Mem w0 (x7.setCell ⟨bl,idx*16+13,none⟩ (.string ⟨tt.toArray⟩)) rb ab B E s { st1 with i:=i2,L:=z03 st1.L idx tt }):=by
        have fr7:Fr B rb w7 x7:=(Fr.drewN B rb w7 1).trans (Fr.grown HG7.out HEV.out.le)
        have fr8:Fr B rb w7 (x7.setCell ⟨bl,idx*16+13,none⟩ (.string ⟨tt.toArray⟩)):=fr7.trans (Fr.own (z0q x7 bl _ _) (Nat.le_trans HEV.out.le fr7.size) (fun q e=>by injection e with e;omega))
        have pn7:=(HPN.out.up (Up.drewN B w7 1)).up (Up.grown HG7.out hrB)
        have pn8:=pn7.setText kx1 tt
        have hwl:(z03 st1.L idx tt).length=st1.L.length:=by unfold z03;simp
        refine⟨HEV.out.fr fr8,HM6.out.2.1.fr fr8 hrB hlo,HGT.out,HM6.out.2.2.2.1.trans fr8,.slice (some ⟨bl,0,none⟩) st1.L.length cap,KV2,PR.far HR7.out (z0q x7 bl _ _) (fun q e=>by injection e with e;omega) hrB,?_⟩
        exact pn8
       clear k3 hb7 kc kf HG7 HR7 ce cf c3
       go_wp2
       go_end0
       show z1d _ _ _ _ _ _ _ _ _
       rw[HRE.out]
       exact⟨rfl,HMT.out⟩
    ·have HPB:Hid (z06 s (f+1) up depth st=.ok st1):=by show _=_;rw[HP3.out];rfl
     clear CL HP3
     go_wp2
     go_end0
     show z1d _ _ _ _ _ _ _ _ _
     rw[HPB.out]
     exact⟨rfl,HM6.out⟩
  ·have HP3:Hid (z06 s (f+1) up depth st=zc6 s kind idx (z06 s f (idx:Int) (depth+1)) ⟨gotI s k 123,L1,er1⟩):=by
    show _=_
    rw[HP2.out]
    unfold pBr
    rw[if_neg hq]
    rfl
   rw[show isAt s k 123=false by simpa using hq] at CT
   clear hq HP2
   go_wp2_with fail
   refine CT.out.mono ?_
   rintro e w6 ⟨rfl,h6⟩
   obtain⟨st1,hst1⟩:∃z:PS,⟨gotI s k 123,L1,er1⟩=z:=⟨_,rfl⟩
   have kd1:depth+1≤st1.i:=by rw[<-hst1];show depth+1≤gotI s k 123;omega
   have kf1:s.size<f+st1.i:=by rw[<-hst1];show s.size<f+gotI s k 123;omega
   have kx1:idx<st1.L.length:=by rw[<-hst1];show idx<L1.length;omega
   rw[hst1] at h6 HP3
   have HM6:Hid (Mem w0 w6 rb ab B E s st1):=h6
   clear h6 CT hst1 HM5 hgg hgl hd1 hf1 HKD
   have hcs:kind=0∨kind=1∨kind=2∨kind=3∨kind=4∨kind=5∨kind=6:=by omega
   have hdi:((depth+1:Nat):Int)=(depth:Int)+1:=by omega
   have hdb:(depth:Int)+1≤1000000:=by have:=HM6.out.2.2.1.il;omega
   have CL:Hid (Calls Tryz.prog 135 #[.pointer (some ⟨rb,0,none⟩),.int .i64 (idx:Int),.int .i64 ((depth:Int)+1)] w6 fun e w'=>z1d w0 w' e rb ab B E s (z32 s (z06 s f (idx:Int) (depth+1)) st1)):=by
    have:=z9t rb ab B E s f HNC.out (by omega) idx (depth+1) st1 w0 w6 HM6.out kx1 kd1 kf1
    rw[hdi] at this
    exact this
   rcases hcs with rfl|rfl|rfl|rfl|rfl|rfl|rfl
   ·have HPB:Hid (z06 s (f+1) up depth st=z32 s (z06 s f (idx:Int) (depth+1)) st1):=by show _=_;rw[HP3.out];rfl
    obtain⟨R,hR⟩:∃z,z32 s (z06 s f (idx:Int) (depth+1)) st1=z:=⟨_,rfl⟩
    rw[hR] at CL HPB
    clear hR HP3
    go_wp2_with fail
    refine CL.out.mono ?_
    cases R with
    | error b =>
     rintro e x7 ⟨rfl,f7⟩
     refine⟨rfl,?_⟩
     rw[HPB.out]
     exact⟨rfl,f7⟩
    | ok st2 =>
     rintro e x7 ⟨rfl,h7⟩
     have HM7:Hid (Mem w0 x7 rb ab B E s st2):=h7
     clear h7 CL
     go_wp2
     go_end0
     show z1d _ _ _ _ _ _ _ _ _
     rw[HPB.out]
     exact⟨rfl,HM7.out⟩
   ·have HPB:Hid (z06 s (f+1) up depth st=z32 s (z06 s f (idx:Int) (depth+1)) st1):=by show _=_;rw[HP3.out];rfl
    obtain⟨R,hR⟩:∃z,z32 s (z06 s f (idx:Int) (depth+1)) st1=z:=⟨_,rfl⟩
    rw[hR] at CL HPB
    clear hR HP3
    go_wp2_with fail
    refine CL.out.mono ?_
    cases R with
    | error b =>
     rintro e x7 ⟨rfl,f7⟩
     refine⟨rfl,?_⟩
     rw[HPB.out]
     exact⟨rfl,f7⟩
    | ok st2 =>
     rintro e x7 ⟨rfl,h7⟩
     have HM7:Hid (Mem w0 x7 rb ab B E s st2):=h7
     clear h7 CL
     go_wp2
     go_end0
     show z1d _ _ _ _ _ _ _ _ _
     rw[HPB.out]
     exact⟨rfl,HM7.out⟩
   ·have HPB:Hid (z06 s (f+1) up depth st=z32 s (z06 s f (idx:Int) (depth+1)) st1):=by show _=_;rw[HP3.out];rfl
    obtain⟨R,hR⟩:∃z,z32 s (z06 s f (idx:Int) (depth+1)) st1=z:=⟨_,rfl⟩
    rw[hR] at CL HPB
    clear hR HP3
    go_wp2_with fail
    refine CL.out.mono ?_
    cases R with
    | error b =>
     rintro e x7 ⟨rfl,f7⟩
     refine⟨rfl,?_⟩
     rw[HPB.out]
     exact⟨rfl,f7⟩
    | ok st2 =>
     rintro e x7 ⟨rfl,h7⟩
     have HM7:Hid (Mem w0 x7 rb ab B E s st2):=h7
     clear h7 CL
     go_wp2
     go_end0
     show z1d _ _ _ _ _ _ _ _ _
     rw[HPB.out]
     exact⟨rfl,HM7.out⟩
   ·by_cases hb:isAt s st1.i 91=true
    ·have CX:Hid (Calls Tryz.prog 134 #[.pointer (some ⟨rb,0,none⟩),.int .u8 91] w6 fun e w'=>z1d w0 w' e rb ab B E s (pEnd s st1 91)):=z0v 91 HM6.out (by omega) (by omega)
     have e1:pEnd s st1 91=.ok { st1 with i:=gotI s st1.i 91 }:=by unfold pEnd;rw[if_pos hb]
     rw[e1] at CX
     obtain⟨st2,hst2⟩:∃z:PS,{ st1 with i:=gotI s st1.i 91 }=z:=⟨_,rfl⟩
     have z1:st1.i≤st2.i:=by rw[<-hst2];exact z0n _ _ _
     have z2:st2.L.length=st1.L.length:=by rw[<-hst2]
     rw[hst2] at CX
     have HPB:Hid (∀r,z06 s f (idx:Int) (depth+1) st2=r->z06 s (f+1) up depth st=z9l r fun st3=>pEnd s st3 93):=fun r hr=>by
      rw[HP3.out]
      show pOne s (z06 s f (idx:Int) (depth+1)) st1=_
      unfold pOne
      rw[if_pos hb,hst2,hr]
     clear e1 hst2 hb CL HP3
     go_wp2_with fail
     refine CX.out.mono ?_
     rintro e x7 ⟨rfl,h7⟩
     have CN:Hid (Calls Tryz.prog 73 #[.pointer (some ⟨rb,0,none⟩),.int .i64 (idx:Int),.int .i64 ((depth:Int)+1)] x7 fun e w'=>z1d w0 w' e rb ab B E s (z06 s f (idx:Int) (depth+1) st2)):=by
      have:=HNC.out (idx:Int) (depth+1) st2 w0 x7 h7 (.inr ⟨by omega,by omega⟩) (by omega) (by omega)
      rw[hdi] at this
      exact this
     clear h7 CX
     cases hp:z06 s f (idx:Int) (depth+1) st2 with
     | error b =>
      have HRE:Hid (z06 s (f+1) up depth st=.error b):=HPB.out _ hp
      rw[hp] at CN
      clear hp HPB
      go_wp2_with fail
      refine CN.out.mono ?_
      rintro e x8 ⟨rfl,f8⟩
      refine⟨rfl,?_⟩
      rw[HRE.out]
      exact⟨rfl,f8⟩
     | ok st3 =>
      have HRE:Hid (z06 s (f+1) up depth st=pEnd s st3 93):=HPB.out _ hp
      rw[hp] at CN
      clear hp HPB
      go_wp2_with fail
      refine CN.out.mono ?_
      rintro e x8 ⟨rfl,h8⟩
      have CX:Hid (Calls Tryz.prog 134 #[.pointer (some ⟨rb,0,none⟩),.int .u8 93] x8 fun e w'=>z1d w0 w' e rb ab B E s (pEnd s st3 93)):=z0v 93 h8 (by omega) (by omega)
      obtain⟨R,hR⟩:∃z,pEnd s st3 93=z:=⟨_,rfl⟩
      rw[hR] at CX HRE
      clear h8 CN hR
      go_wp2_with fail
      refine CX.out.mono ?_
      cases R with
      | error b =>
       rintro e x9 ⟨rfl,f9⟩
       refine⟨rfl,?_⟩
       rw[HRE.out]
       exact⟨rfl,f9⟩
      | ok st4 =>
       rintro e x9 ⟨rfl,h9⟩
       have HM9:Hid (Mem w0 x9 rb ab B E s st4):=h9
       clear h9 CX
       go_wp2
       go_end0
       show z1d _ _ _ _ _ _ _ _ _
       rw[HRE.out]
       exact⟨rfl,HM9.out⟩
    ·have CX:Hid (Calls Tryz.prog 134 #[.pointer (some ⟨rb,0,none⟩),.int .u8 91] w6 fun e w'=>z1d w0 w' e rb ab B E s (pEnd s st1 91)):=z0v 91 HM6.out (by omega) (by omega)
     have e1:pEnd s st1 91=.error (sk s st1.i):=by unfold pEnd;rw[if_neg hb]
     rw[e1] at CX
     have HRE:Hid (z06 s (f+1) up depth st=.error (sk s st1.i)):=by
      show _=_
      rw[HP3.out]
      show pOne s (z06 s f (idx:Int) (depth+1)) st1=_
      unfold pOne
      rw[if_neg hb]
     clear e1 hb CL HP3
     go_wp2_with fail
     refine CX.out.mono ?_
     rintro e x7 ⟨rfl,f7⟩
     refine⟨rfl,?_⟩
     rw[HRE.out]
     exact⟨rfl,f7⟩
   ·by_cases hb:isAt s st1.i 91=true
    ·have CX:Hid (Calls Tryz.prog 134 #[.pointer (some ⟨rb,0,none⟩),.int .u8 91] w6 fun e w'=>z1d w0 w' e rb ab B E s (pEnd s st1 91)):=z0v 91 HM6.out (by omega) (by omega)
     have e1:pEnd s st1 91=.ok { st1 with i:=gotI s st1.i 91 }:=by unfold pEnd;rw[if_pos hb]
     rw[e1] at CX
     obtain⟨st2,hst2⟩:∃z:PS,{ st1 with i:=gotI s st1.i 91 }=z:=⟨_,rfl⟩
     have z1:st1.i≤st2.i:=by rw[<-hst2];exact z0n _ _ _
     have z2:st2.L.length=st1.L.length:=by rw[<-hst2]
     rw[hst2] at CX
     have HPB:Hid (∀r,z06 s f (idx:Int) (depth+1) st2=r->z06 s (f+1) up depth st=z9l r fun st3=>pEnd s st3 93):=fun r hr=>by
      rw[HP3.out]
      show pOne s (z06 s f (idx:Int) (depth+1)) st1=_
      unfold pOne
      rw[if_pos hb,hst2,hr]
     clear e1 hst2 hb CL HP3
     go_wp2_with fail
     refine CX.out.mono ?_
     rintro e x7 ⟨rfl,h7⟩
     have CN:Hid (Calls Tryz.prog 73 #[.pointer (some ⟨rb,0,none⟩),.int .i64 (idx:Int),.int .i64 ((depth:Int)+1)] x7 fun e w'=>z1d w0 w' e rb ab B E s (z06 s f (idx:Int) (depth+1) st2)):=by
      have:=HNC.out (idx:Int) (depth+1) st2 w0 x7 h7 (.inr ⟨by omega,by omega⟩) (by omega) (by omega)
      rw[hdi] at this
      exact this
     clear h7 CX
     cases hp:z06 s f (idx:Int) (depth+1) st2 with
     | error b =>
      have HRE:Hid (z06 s (f+1) up depth st=.error b):=HPB.out _ hp
      rw[hp] at CN
      clear hp HPB
      go_wp2_with fail
      refine CN.out.mono ?_
      rintro e x8 ⟨rfl,f8⟩
      refine⟨rfl,?_⟩
      rw[HRE.out]
      exact⟨rfl,f8⟩
     | ok st3 =>
      have HRE:Hid (z06 s (f+1) up depth st=pEnd s st3 93):=HPB.out _ hp
      rw[hp] at CN
      clear hp HPB
      go_wp2_with fail
      refine CN.out.mono ?_
      rintro e x8 ⟨rfl,h8⟩
      have CX:Hid (Calls Tryz.prog 134 #[.pointer (some ⟨rb,0,none⟩),.int .u8 93] x8 fun e w'=>z1d w0 w' e rb ab B E s (pEnd s st3 93)):=z0v 93 h8 (by omega) (by omega)
      obtain⟨R,hR⟩:∃z,pEnd s st3 93=z:=⟨_,rfl⟩
      rw[hR] at CX HRE
      clear h8 CN hR
      go_wp2_with fail
      refine CX.out.mono ?_
      cases R with
      | error b =>
       rintro e x9 ⟨rfl,f9⟩
       refine⟨rfl,?_⟩
       rw[HRE.out]
       exact⟨rfl,f9⟩
      | ok st4 =>
       rintro e x9 ⟨rfl,h9⟩
       have HM9:Hid (Mem w0 x9 rb ab B E s st4):=h9
       clear h9 CX
       go_wp2
       go_end0
       show z1d _ _ _ _ _ _ _ _ _
       rw[HRE.out]
       exact⟨rfl,HM9.out⟩
    ·have CX:Hid (Calls Tryz.prog 134 #[.pointer (some ⟨rb,0,none⟩),.int .u8 91] w6 fun e w'=>z1d w0 w' e rb ab B E s (pEnd s st1 91)):=z0v 91 HM6.out (by omega) (by omega)
     have e1:pEnd s st1 91=.error (sk s st1.i):=by unfold pEnd;rw[if_neg hb]
     rw[e1] at CX
     have HRE:Hid (z06 s (f+1) up depth st=.error (sk s st1.i)):=by
      show _=_
      rw[HP3.out]
      show pOne s (z06 s f (idx:Int) (depth+1)) st1=_
      unfold pOne
      rw[if_neg hb]
     clear e1 hb CL HP3
     go_wp2_with fail
     refine CX.out.mono ?_
     rintro e x7 ⟨rfl,f7⟩
     refine⟨rfl,?_⟩
     rw[HRE.out]
     exact⟨rfl,f7⟩
   ·obtain⟨env,kn,good,fr,nv,KV2,pr,pn⟩:=HM6.out
    obtain⟨bl,cap,rfl,hBl,hbll,_,_⟩:=pn.nr.form (by omega)
    have HEV:Hid (Env w6 rb ab B E):=env
    have HPR:Hid (PR w6 rb s st1.i (.slice (some ⟨ab,0,none⟩) 12 12) (.slice (some ⟨bl,0,none⟩) st1.L.length cap) (fltV E st1.er)):=pr
    have HPN:Hid (PN w6 B (.slice (some ⟨bl,0,none⟩) st1.L.length cap) st1.L KV2):=pn
    have CS:Hid (∀W,PR W rb s st1.i (.slice (some ⟨ab,0,none⟩) 12 12) (.slice (some ⟨bl,0,none⟩) st1.L.length cap) (fltV E st1.er)->W.cell? ⟨7,0,none⟩=some (errV (E 2))->Calls Tryz.prog 133 #[.pointer (some ⟨rb,0,none⟩)] W fun e w'=>SOut W w' e rb s (.slice (some ⟨ab,0,none⟩) 12 12) (.slice (some ⟨bl,0,none⟩) st1.L.length cap) (fltV E st1.er) (E 2) (quoR s st1.i)):=fun W h1 h2=>z5t rb s st1.i _ _ _ (E 2) W h1 (by omega) good.il (by omega) h2
    have HG1:Hid (z30 s st1):=good
    clear env kn good fr pr pn CL
    cases hqq:quoR s st1.i with
    | error b =>
     have HRE:Hid (z06 s (f+1) up depth st=.error b):=by
      show _=_
      rw[HP3.out]
      show z65 s idx st1=_
      unfold z65
      rw[hqq]
     rw[hqq] at CS
     clear hqq HP3
     have c3:=HPR.out.c3
     have hix:(idx:Int)<(st1.L.length:Int):=by omega
     go_wp2_with fail
     go_region_dies
     all_goals
      refine (CS.out _ (HPR.out.drewN 1) HEV.out.g2).mono ?_
      rintro e x7 ⟨g7,rfl⟩
      refine⟨rfl,?_⟩
      rw[HRE.out]
      exact⟨rfl,HM6.out.2.2.2.1.trans ((Fr.drewN B rb w6 1).trans (Fr.grown g7 HEV.out.le))⟩
    | ok r =>
     obtain⟨i2,tt⟩:=r
     have HRE:Hid (z06 s (f+1) up depth st=.ok { st1 with i:=i2,L:=z03 st1.L idx tt }):=by
      show _=_
      rw[HP3.out]
      show z65 s idx st1=_
      unfold z65
      rw[hqq]
     have HGT:Hid (z30 s { st1 with i:=i2,L:=z03 st1.L idx tt }):=(zci (s:=s) (idx:=idx) HG1.out (by unfold z65;rw[hqq])).good
     rw[hqq] at CS
     clear hqq HP3
     have c3:=HPR.out.c3
     have hix:(idx:Int)<(st1.L.length:Int):=by omega
     have ce:=HPN.out.nr.cells bl rfl idx kx1 13 _ (zmm (HPN.out.len idx kx1))
     obtain⟨ov,hov⟩:∃z:ByteArray,⟨(nth st1.L idx).text.toArray⟩=z:=⟨_,rfl⟩
     rw[hov] at ce
     have cf:w6.frozen? ⟨bl,idx*16+13,none⟩=false:=HPN.out.nr.frz rfl _
     have hbr:bl≠rb:=by omega
     clear hov
     go_wp2_with fail
     go_region_with (first|(go_at_call 133;refine (CS.out _ (HPR.out.drewN 1) HEV.out.g2).mono ?_;rintro e x7 ⟨g7,rfl,h7⟩;have HR7:Hid (PR x7 rb s i2 (.slice (some ⟨ab,0,none⟩) 12 12) (.slice (some ⟨bl,0,none⟩) st1.L.length cap) (fltV E st1.er)):=h7;have HG7:Hid ((w6.drewN 1).grownBy x7 (some rb)):=g7;have k3:=h7.c3;have hb7:x7.heap[bl]?=w6.heap[bl]?:=g7.block bl hbll (by simpa using hbr);have kc:x7.cell? ⟨bl,idx*16+13,none⟩=some (.string ov):=(World.cell?_of_block hb7).trans ce;have kf:x7.frozen? ⟨bl,idx*16+13,none⟩=false:=(World.frozen?_of_block hb7).trans cf;clear h7 g7))
     all_goals
      have HMT:Hid (Mem w0 (x7.setCell ⟨bl,idx*16+13,none⟩ (.string ⟨tt.toArray⟩)) rb ab B E s { st1 with i:=i2,L:=z03 st1.L idx tt }):=by
       have fr7:Fr B rb w6 x7:=(Fr.drewN B rb w6 1).trans (Fr.grown HG7.out HEV.out.le)
       have fr8:Fr B rb w6 (x7.setCell ⟨bl,idx*16+13,none⟩ (.string ⟨tt.toArray⟩)):=fr7.trans (Fr.own (z0q x7 bl _ _) (Nat.le_trans HEV.out.le fr7.size) (fun q e=>by injection e with e;omega))
       have pn7:=(HPN.out.up (Up.drewN B w6 1)).up (Up.grown HG7.out hrB)
       have pn8:=pn7.setText kx1 tt
       have hwl:(z03 st1.L idx tt).length=st1.L.length:=by unfold z03;simp
       refine⟨HEV.out.fr fr8,HM6.out.2.1.fr fr8 hrB hlo,HGT.out,HM6.out.2.2.2.1.trans fr8,.slice (some ⟨bl,0,none⟩) st1.L.length cap,KV2,PR.far HR7.out (z0q x7 bl _ _) (fun q e=>by injection e with e;omega) hrB,?_⟩
       exact pn8
      clear k3 hb7 kc kf HG7 HR7 ce cf c3
      go_wp2
      go_end0
      show z1d _ _ _ _ _ _ _ _ _
      rw[HRE.out]
      exact⟨rfl,HMT.out⟩
   ·have HPB:Hid (z06 s (f+1) up depth st=.ok st1):=by show _=_;rw[HP3.out];rfl
    clear CL HP3
    go_wp2
    go_end0
    show z1d _ _ _ _ _ _ _ _ _
    rw[HPB.out]
    exact⟨rfl,HM6.out⟩
end
section
open Go.RowKit
theorem z87(rb ab B:Nat)(E:Nat->Addr)(s:ByteArray)(hs:s.size≤100000):∀f,zhq rb ab B E s f
 | 0=>fun up depth st w0 w h hup hd hf=>absurd h.2.2.1.il (by omega)
 | f+1=>zc7 rb ab B E s f (z87 rb ab B E s hs f) hs
def zix(s:ByteArray)(st:PS):Except (Option (Nat×Nat)) (List Nd):=if sk s st.i<s.size then .error (some (2,sk s st.i)) else match st.er with
 | some f=>.error (some f)
 | none=>.ok st.L
def zst(s:ByteArray):Except Nat PS->Except (Option (Nat×Nat)) (List Nd)
 | .error b=>.error (some (2,b))
 | .ok st=>zix s st
def z0s(s:ByteArray):Except (Option (Nat×Nat)) (List Nd):=if 4000<s.size then .error none else zst s (z06 s (s.size+1) (-1) 0 ⟨0,[],none⟩)
def pv(E:Nat->Addr):Option (Nat×Nat)->Value
 | none=>errV (E 1)
 | some (c,p)=>z0b (p:Int) (errV (E c))
def zrc(w w':World)(e:Ending)(E:Nat->Addr)(r:Except (Option (Nat×Nat)) (List Nd)):Prop:=Below w.heap.size w w'∧match r with
 | .error x=>e=.panicked [{ v:=pv E x,recovered:=false }]
 | .ok L=>∃nv KV,e=.returned nv∧PN w' w.heap.size nv L KV
structure Glo(W:World)(E:Nat->Addr):Prop where
 sz:9≤W.heap.size
 kn:Kn W
 g1:W.cell? ⟨0,0,none⟩=some (errV (E 1))
 g2:W.cell? ⟨7,0,none⟩=some (errV (E 2))
 g3:W.cell? ⟨1,0,none⟩=some (errV (E 3))
 g4:W.cell? ⟨2,0,none⟩=some (errV (E 4))
 g5:W.cell? ⟨3,0,none⟩=some (errV (E 5))
 g6:W.cell? ⟨4,0,none⟩=some (errV (E 6))
 g7:W.cell? ⟨5,0,none⟩=some (errV (E 7))
theorem zut(W:World)(s:ByteArray)(av:Value)(E:Nat->Addr):PR (W.alloc (.cells #[.string s,.int .i64 0,av,.slice none 0 0,.nilIface] 143)) W.heap.size s 0 av (.slice none 0 0) (fltV E none) :=
 ⟨by simp,by rw[World.cell?_alloc_at _ _ _ _ rfl];rfl,by rw[World.cell?_alloc_at _ _ _ _ rfl];rfl,by rw[World.cell?_alloc_at _ _ _ _ rfl];rfl,by rw[World.cell?_alloc_at _ _ _ _ rfl];rfl,by rw[World.cell?_alloc_at _ _ _ _ rfl];rfl,fun j=>frozen_of_row _ _ _ _ _ (heap_alloc_new _ _)⟩
theorem PN.base{W:World}{B B':Nat}{nv:Value}{L:List Nd}{KV:Nat->Value}(h:PN W B nv L KV)(hb:B'≤B):PN W B' nv L KV:=by
 obtain⟨xs,hx⟩:=h.nr.row
 have own:∀ {e:TypeId} {size n:Nat} {v:Value} {ys:List Value},W.ownsRow B e size v n ys->W.ownsRow B' e size v n ys:=fun {e size n v ys} h=>⟨h.1,by
  rcases h.2 with h2|⟨g,cap,cur,a,b,c⟩
  ·exact .inl h2
  ·exact .inr ⟨g,cap,cur,a,Nat.le_trans hb b,c⟩⟩
 exact⟨⟨⟨xs,own hx⟩,h.nr.cells,h.nr.len,fun j hj=>own (h.nr.kids j hj),h.nr.sep⟩,h.len⟩
theorem ze3(s:ByteArray)(E:Nat->Addr)(w:World)(hG:Glo w E) :
 Calls Tryz.prog 43 #[.string s] w fun e w'=>zrc w w' e E (z0s s):=by
 by_cases hlong:4000<s.size
 ·have HP:Hid (z0s s=.error none):=by show _=_;unfold z0s;rw[if_pos hlong]
  have hl':(4000:Int)<(s.size:Int):=by omega
  have g1:w.cell? ⟨0,0,none⟩=some (.iface 331 (.pointer (some (E 1)))):=hG.g1
  clear hG
  go_enter Tryz.func43,Tryz.ntmps43
  go_wp2
  refine⟨rfl,?_⟩
  rw[HP.out]
  exact⟨Below.refl _ _,rfl⟩
 ·have hl':¬(4000:Int)<(s.size:Int):=by omega
  have hl2:(s.size:Int)≤4000:=by omega
  have hG0:Hid (Glo w E):=hG
  have HP:Hid (z0s s=zst s (z06 s (s.size+1) (-1) 0 ⟨0,[],none⟩)):=by show _=_;unfold z0s;rw[if_neg hlong]
  obtain⟨A,hA⟩:∃z,w.heap.size=z:=⟨_,rfl⟩
  have CA:Hid (Calls Tryz.prog 72 #[] w fun e w'=>e=.returned (.slice (some ⟨A,0,none⟩) 12 12)∧w'=w.alloc (.cells z5c 191)):=by have:=zab w;rw[hA] at this;exact this
  have HT:Hid (Tab (w.alloc (.cells z5c 191)) A):=by have:=zt7 w;rw[hA] at this;exact this
  have HB1:Hid (Below A w (w.alloc (.cells z5c 191))):=by show Below _ _ _;rw[<-hA];exact (Below.refl _ _).alloc (Nat.le_refl _) _
  obtain⟨w1,hw1⟩:∃z,w.alloc (.cells z5c 191)=z:=⟨_,rfl⟩
  have hs1:w1.heap.size=A+1:=by rw[<-hw1,World.size_alloc,hA]
  rw[hw1] at CA HT HB1
  have HAs:Hid (w.heap.size=A):=hA
  have hlo:=hG.sz
  rw[hA] at hlo
  clear hG hw1 hA
  go_enter Tryz.func43,Tryz.ntmps43
  go_wp2_with fail
  refine CA.out.mono ?_
  rintro e w1' ⟨rfl,hw⟩
  obtain rfl:=hw.symm
  go_wp2_with fail
  obtain⟨w2,hw2⟩:∃z,w1.alloc (.cells #[.string s,.int .i64 0,.slice (some ⟨A,0,none⟩) 12 12,.slice none 0 0,.nilIface] 143)=z:=⟨_,rfl⟩
  have hs2:w2.heap.size=A+2:=by rw[<-hw2,World.size_alloc,hs1]
  have HB2:Hid (Below A w w2):=by rw[<-hw2];exact HB1.out.alloc (by omega) _
  have HPR:Hid (PR w2 (A+1) s 0 (.slice (some ⟨A,0,none⟩) 12 12) (.slice none 0 0) (fltV E none)):=by rw[<-hw2,<-hs1];exact zut _ _ _ _
  have HT2:Hid (Tab w2 A):=by
   have:=HT.out.fr (Fr.below (B:=A+1) (r:=A+1) ((Below.refl w1.heap.size w1).alloc (Nat.le_refl _) (.cells #[.string s,.int .i64 0,.slice (some ⟨A,0,none⟩) 12 12,.slice none 0 0,.nilIface] 143)) (by omega)) (by omega) (by omega)
   rw[hw2] at this;exact this
  have hc:∀ (g:Nat) v,g<9->w.cell? ⟨g,0,none⟩=some v->w2.cell? ⟨g,0,none⟩=some v:=fun g v hg e=>(HB2.out.cell (p:=⟨g,0,none⟩) (by show g<A;omega)).trans e
  have HEV:Hid (Env w2 (A+1) A (A+2) E):=⟨HT2.out,by omega,by omega,by omega,by omega,by omega,hc _ _ (by decide) hG0.out.g2,hc _ _ (by decide) hG0.out.g3,hc _ _ (by decide) hG0.out.g4,hc _ _ (by decide) hG0.out.g5,hc _ _ (by decide) hG0.out.g6,hc _ _ (by decide) hG0.out.g7⟩
  have HKN:Hid (Kn w2):=fun j hj=>(HB2.out.cell (p:=⟨8,j,none⟩) (by show 8<A;omega)).trans (hG0.out.kn j hj)
  have HM:Hid (Mem w2 w2 (A+1) A (A+2) E s ⟨0,[],none⟩):=⟨HEV.out,HKN.out,⟨Nat.zero_le _,Nat.le_refl _,fun j=>Nat.zero_le _⟩,Fr.refl _ _ _,_,fun _=>.nilFunc,HPR.out,⟨NR.nothing _ _ _ _ _ _ _,fun j hj=>absurd hj (by show ¬j<0;omega)⟩⟩
  have CN:Hid (Calls Tryz.prog 73 #[.pointer (some ⟨A+1,0,none⟩),.int .i64 (-1),.int .i64 0] w2 fun e w'=>z1d w2 w' e (A+1) A (A+2) E s (z06 s (s.size+1) (-1) 0 ⟨0,[],none⟩)):=z87 (A+1) A (A+2) E s (by omega) (s.size+1) (-1) 0 ⟨0,[],none⟩ w2 w2 HM.out (.inl rfl) (Nat.le_refl _) (by show s.size<s.size+1+0;omega)
  have HBF:Hid (∀w',Fr (A+2) (A+1) w2 w'->Below w.heap.size w w'):=fun w' f=>by
   rw[HAs.out]
   exact HB2.out.trans ⟨f.os,f.tape,f.output,f.size,fun k hk=>f.block k (by omega) (by omega)⟩
  have hlt0:Hid (∀W,W.cell? ⟨7,0,none⟩=some (errV (E 2))->∀ (q:Nat),Calls Tryz.prog 75 #[.int .i64 (q:Int)] W fun e w'=>e=.returned (.iface 137 (.agg #[.int .i64 (q:Int),.iface 331 (.pointer (some (E 2)))]))∧w'=W):=fun W he q=>z2l _ W (E 2) he
  rw[hw2]
  clear hw2 hc HT HB1 CA hs1
  cases hp:z06 s (s.size+1) (-1) 0 ⟨0,[],none⟩ with
  | error b =>
   have HRE:Hid (z0s s=.error (some (2,b))):=by show _=_;rw[HP.out,hp];rfl
   rw[hp] at CN
   clear hp HP
   refine CN.out.mono ?_
   rintro e w3 ⟨rfl,f3⟩
   refine⟨rfl,?_⟩
   rw[HRE.out]
   exact⟨HBF.out _ f3,rfl⟩
  | ok st =>
   have HRE:Hid (z0s s=zix s st):=by show _=_;rw[HP.out,hp];rfl
   rw[hp] at CN
   clear hp HP
   refine CN.out.mono ?_
   rintro e w3 ⟨rfl,env3,kn3,good3,fr3,nv,KV,pr3,pn3⟩
   have CB:Hid (Calls Tryz.prog 74 #[.pointer (some ⟨A+1,0,none⟩)] w3 fun e w'=>e=.returned (.tuple #[])∧PR w' (A+1) s (sk s st.i) (.slice (some ⟨A,0,none⟩) 12 12) nv (fltV E st.er)∧w3.grownBy w' (some (A+1))):=z3r (A+1) s st.i _ nv _ w3 pr3 (by omega) good3.il
   have HE3:Hid (Env w3 (A+1) A (A+2) E):=env3
   have HF3:Hid (Fr (A+2) (A+1) w2 w3):=fr3
   have HN3:Hid (PN w3 (A+2) nv st.L KV):=pn3
   obtain⟨i2,hi2⟩:∃z,sk s st.i=z:=⟨_,rfl⟩
   have HRE2:Hid (z0s s=if i2<s.size then .error (some (2,i2)) else match st.er with
    | some f=>.error (some f)
    | none=>.ok st.L):=by show _=_;rw[HRE.out];unfold zix;rw[hi2]
   rw[hi2] at CB
   clear env3 kn3 good3 fr3 pr3 pn3 CN hi2 HRE
   go_wp2_with fail
   refine CB.out.mono ?_
   rintro e w4 ⟨rfl,h4,g4⟩
   have HF4:Hid (Fr (A+2) (A+1) w2 w4):=HF3.out.trans (Fr.grown g4 HE3.out.le)
   have HN4:Hid (PN w4 (A+2) nv st.L KV):=HN3.out.up (Up.grown g4 (by omega))
   have HE4:Hid (Env w4 (A+1) A (A+2) E):=HE3.out.fr (Fr.grown g4 HE3.out.le)
   have c1:=h4.c1
   have c3:=h4.c3
   have c4:=h4.c4
   clear h4 g4 CB HF3 HN3 HE3
   by_cases hlt:i2<s.size
   ·have hlt':(i2:Int)<(s.size:Int):=by omega
    have HR3:Hid (z0s s=.error (some (2,i2))):=by show _=_;rw[HRE2.out,if_pos hlt]
    clear HRE2
    go_wp2_with fail
    refine (hlt0.out _ HE4.out.g2 i2).mono ?_
    rintro e w5 ⟨rfl,hw⟩
    obtain rfl:=hw.symm
    go_wp2
    refine⟨rfl,?_⟩
    rw[HR3.out]
    exact⟨HBF.out _ HF4.out,rfl⟩
   ·cases her:st.er with
    | none =>
     have HR3:Hid (z0s s=.ok st.L):=by show _=_;rw[HRE2.out,if_neg hlt,her]
     rw[her] at c4
     have c4':w4.cell? ⟨A+1,4,none⟩=some .nilIface:=c4
     clear HRE2 c4 her
     go_wp2
     go_ret
     show zrc _ _ _ _ _
     rw[HR3.out]
     exact⟨HBF.out _ HF4.out,nv,KV,rfl,HN4.out.base (by rw[HAs.out];omega)⟩
    | some fp =>
     obtain⟨c,q⟩:=fp
     have HR3:Hid (z0s s=.error (some (c,q))):=by show _=_;rw[HRE2.out,if_neg hlt,her]
     rw[her] at c4
     have c4':w4.cell? ⟨A+1,4,none⟩=some (.iface 137 (.agg #[.int .i64 (q:Int),.iface 331 (.pointer (some (E c)))])):=c4
     clear HRE2 c4 her
     go_wp2
     refine⟨rfl,?_⟩
     rw[HR3.out]
     exact⟨HBF.out _ HF4.out,rfl⟩
end
section
def znb(name:ByteArray)(kind:Nat):Option Nat:=if z08 z16 name 0<0∨z4g kind (z08 z16 name 0).toNat=false then none else some (z08 z16 name 0).toNat
theorem zb7(j kind:Nat)(hj:j<12)(hk:kind<7):z39 (nmAt j) kind 12 0=znb (nmAt j) kind:=by
 have h1:j=0∨j=1∨j=2∨j=3∨j=4∨j=5∨j=6∨j=7∨j=8∨j=9∨j=10∨j=11:=by omega
 have h2:kind=0∨kind=1∨kind=2∨kind=3∨kind=4∨kind=5∨kind=6:=by omega
 rcases h1 with rfl|rfl|rfl|rfl|rfl|rfl|rfl|rfl|rfl|rfl|rfl|rfl <;> rcases h2 with rfl|rfl|rfl|rfl|rfl|rfl|rfl <;> decide
theorem z8a{name:ByteArray}(kind:Nat)(h:∀j,j<12->nmAt j≠name):z39 name kind 12 0=none∧z08 z16 name 0 = -1:=by
 have hs:∀f j,j+f≤12->z39 name kind f j=none:=fun f=>by
  induction f with
  | zero=>intro j _;rfl
  | succ f ih =>
   intro j hj
   unfold z39
   rw[if_neg (fun q=>h j (by omega) q.1)]
   exact ih (j+1) (by omega)
 have hf:∀ (ws:List ByteArray) k,(∀x∈ws,x≠name)->z08 ws name k = -1:=fun ws=>by
  induction ws with
  | nil=>intro k _;rfl
  | cons a r ih =>
   intro k hx
   unfold z08
   rw[if_neg (hx a (by simp))]
   exact ih (k+1) (fun x hxx=>hx x (by simp[hxx]))
 refine⟨hs 12 0 (by omega),hf z16 0 (fun x hx=>?_)⟩
 obtain⟨j,hj,rfl⟩:=List.getElem_of_mem hx
 have hj':j<12:=hj
 have:=h j hj'
 unfold nmAt at this
 rw[List.getElem?_eq_getElem hj] at this
 exact this
theorem zt5(name:ByteArray)(kind:Nat)(hk:kind<7):z39 name kind 12 0=znb name kind:=by
 by_cases h:∃j,j<12∧nmAt j=name
 ·obtain⟨j,hj,rfl⟩:=h
  exact zb7 j kind hj hk
 ·have h':∀j,j<12->nmAt j≠name:=fun j hj e=>h ⟨j,hj,e⟩
  obtain⟨h1,h2⟩:=z8a kind h'
  rw[h1];unfold znb;rw[h2,if_pos (by left;decide)]
theorem zks{name:ByteArray}(h:¬z08 z16 name 0<0):(z08 z16 name 0).toNat<12∧nmAt (z08 z16 name 0).toNat=name:=by
 by_cases hx:∃j,j<12∧nmAt j=name
 ·obtain⟨j,hj,rfl⟩:=hx
  have h1:j=0∨j=1∨j=2∨j=3∨j=4∨j=5∨j=6∨j=7∨j=8∨j=9∨j=10∨j=11:=by omega
  rcases h1 with rfl|rfl|rfl|rfl|rfl|rfl|rfl|rfl|rfl|rfl|rfl|rfl <;> decide
 ·exact absurd (by rw[(z8a (name:=name) 0 (fun j hj e=>hx ⟨j,hj,e⟩)).2];decide) h
theorem zum{i j:Nat}(hi:i<12)(hj:j<12)(h:nmAt i=nmAt j):i=j:=by
 have h1:i=0∨i=1∨i=2∨i=3∨i=4∨i=5∨i=6∨i=7∨i=8∨i=9∨i=10∨i=11:=by omega
 have key:∀i,i<12->(z08 z16 (nmAt i) 0).toNat=i:=by decide
 have:=key i hi
 rw[h,key j hj] at this
 exact this.symm
theorem zgc(ws:List ByteArray)(x y:ByteArray):∀k,(0≤z08 (ws++[y]) x k↔(0≤z08 ws x k∨y=x)):=by
 induction ws with
 | nil =>
  intro k
  show 0≤z08 [y] x k↔(0≤z08 [] x k∨y=x)
  unfold z08
  by_cases e:y=x
  ·rw[if_pos e];simp[e]
  ·rw[if_neg e];simp[z08,e]
 | cons a r ih =>
  intro k
  show 0≤z08 (a::(r++[y])) x k↔(0≤z08 (a::r) x k∨y=x)
  unfold z08
  by_cases e:a=x
  ·rw[if_pos e,if_pos e];simp
  ·rw[if_neg e,if_neg e];exact ih (k+1)
theorem zjp(f:Flt)(c p c2 p2:Nat):addF (addF f c p) c2 p2=addF f c p:=by cases f <;> rfl
theorem z5b(b:Bool)(f:Flt)(c p c2 p2:Nat):z0l b (addF f c p) c2 p2=addF f c p:=by unfold z0l;split;exact zjp _ _ _ _ _;rfl
theorem zg1{f:Flt}(h:f≠none)(c p:Nat):addF f c p=f:=by cases f with
 | none=>exact absurd rfl h
 | some x=>rfl
theorem z8s(f:Flt)(c p:Nat):addF f c p≠none:=by cases f <;> simp[addF]
end
section
theorem zjm(L:List Nd)(kind:Nat)(a:List Int)(up:Int)(ix:Nat)(n:Int):(grown L ⟨kind,a,[],[],up⟩).modify L.length (fun d=>{ d with attr:=d.attr.set ix n })=grown L ⟨kind,a.set ix n,[],[],up⟩:=by
 have key:∀ (M:List Nd) (d:Nd) (f:Nd->Nd),M.length=L.length->(M++[d]).modify L.length f=M++[f d]:=fun M d f hM=>by
  apply List.ext_getElem?
  intro j
  rw[List.getElem?_modify]
  by_cases h1:j<M.length
  ·rw[List.getElem?_append_left h1,List.getElem?_append_left h1]
   have:¬L.length=j:=by omega
   simp[this]
  ·rw[List.getElem?_append_right (by omega),List.getElem?_append_right (by omega)]
   by_cases h2:j=L.length
   ·subst h2;simp[hM]
   ·rw[List.getElem?_eq_none (by simp;omega),List.getElem?_eq_none (by simp;omega)];rfl
 unfold grown
 split
 ·exact key L _ _ rfl
 ·exact key _ _ _ (by simp)
theorem zey(L:List Nd)(d:Nd):(grown L d).map (fun x=>x.attr)=L.map (fun x=>x.attr)++[d.attr]:=by
 unfold grown
 split
 ·simp
 ·rw[List.map_append]
  congr 1
  apply List.ext_getElem?
  intro j
  rw[List.getElem?_map,List.getElem?_modify,List.getElem?_map]
  cases L[j]? with
  | none=>rfl
  | some x=>simp;split <;> rfl
theorem zdb(L:List Nd)(k:Nat)(n:Int):z3o L k n=(L.map fun x=>x.attr).any fun a=>a[k]?.getD 0==n:=by unfold z3o;rw[List.any_map];rfl
theorem zf0(L:List Nd)(d:Nd)(n:Int):z3o (grown L d) 0 n=(z29 L n || (d.attr[0]?.getD 0==n)):=by
 rw[zdb,zey,List.any_append,<-zdb,zia];simp
structure ARel(kind:Nat)(up:Int)(L:List Nd)(er:Flt)(a:List Int)(seen:List Nat)(L':List Nd)(ws:List ByteArray):Prop where
 len:L'.length=L.length+1
 same:er=none->L'=grown L ⟨kind,a,[],[],up⟩
 q:∀ix,ix<12->z4g kind ix=true->(seen.contains ix=true↔0≤z08 ws (nmAt ix) 0)
 z:seen.contains 0=false->a[0]?.getD 0=0
def aEq(kind:Nat)(up:Int)(L:List Nd)(ws:List ByteArray)(r:Except Nat (Nat×Flt×List Int×List Nat))(r':Except Nat (Nat×Flt×List Nd×ByteArray)):Prop:=match r,r' with
 | .error b,.error b'=>b=b'
 | .ok (i,er,a,seen),.ok (i',er',L',t)=>i=i'∧er=er'∧ARel kind up L er a seen L' (ws++[t])
 | _,_=>False
theorem zui(ix:Nat):moAt ix=z63[ix]?.getD 0:=rfl
theorem zjx{s:ByteArray}{kind:Nat}{up:Int}{L:List Nd}{er:Flt}{a:List Int}{seen:List Nat}{L':List Nd}{ws:List ByteArray}(hk:kind<7)(h:ARel kind up L er a seen L' ws)(i:Nat) :
 aEq kind up L ws (z5x s kind L i er a seen) (z31 s kind ws L' L.length i er):=by
 unfold z5x z31
 simp only[]
 by_cases hka:run z04 s (sk s i)=sk s i
 ·rw[if_pos hka,if_pos hka];rfl
 ·rw[if_neg hka,if_neg hka]
  obtain⟨at_,hat⟩:∃z,sk s i=z:=⟨_,rfl⟩
  obtain⟨k,hkk⟩:∃z,run z04 s at_=z:=⟨_,rfl⟩
  obtain⟨t,ht⟩:∃z,s.extract at_ k=z:=⟨_,rfl⟩
  rw[hat,hkk,ht]
  unfold z19
  by_cases hq:isAt s k 61=true
  ·rw[if_pos hq,if_pos hq]
   unfold pNum
   simp only[]
   obtain⟨j2,hj2⟩:∃z,sk s (gotI s k 61)=z:=⟨_,rfl⟩
   obtain⟨e2,he2⟩:∃z,run z0e s j2=z:=⟨_,rfl⟩
   rw[hj2,he2]
   by_cases hb:z6w s j2 e2=true
   ·rw[if_pos hb,if_pos hb];rfl
   ·rw[if_neg hb,if_neg hb]
    obtain⟨n,hn⟩:∃z,dv s j2 (e2 - j2)=z:=⟨_,rfl⟩
    rw[hn]
    have hsr:=zt5 t kind hk
    unfold znb at hsr
    by_cases hno:z08 z16 t 0<0∨z4g kind (z08 z16 t 0).toNat=false
    ·rw[if_pos hno]
     rw[if_pos hno] at hsr
     have hao:aofO t kind ws=some 7:=by unfold aofO;rw[hsr]
     rw[hao]
     refine⟨rfl,rfl,h.len,fun e=>absurd e (z8s _ _ _),fun ix hix how=>?_,h.z⟩
     rw[h.q ix hix how,zgc]
     constructor
     ·exact Or.inl
     ·rintro (q|rfl)
      ·exact q
      ·exfalso
       rcases hno with h1|h1
       ·have h2:=(zb7 ix kind hix hk)
        rw[hsr] at h2
        unfold znb at h2
        rw[if_neg (by
         have key:∀i,i<12->¬z08 z16 (nmAt i) 0<0:=by decide
         exact absurd h1 (key ix hix))] at h2
        cases h2
       ·have key:∀i,i<12->(z08 z16 (nmAt i) 0).toNat=i:=by decide
        rw[key ix hix,how] at h1;cases h1
    ·rw[if_neg hno]
     rw[if_neg hno] at hsr
     have hpos:¬z08 z16 t 0<0:=fun q=>hno (.inl q)
     have how:z4g kind (z08 z16 t 0).toNat=true:=by
      cases ho:z4g kind (z08 z16 t 0).toNat with
      | true=>rfl
      | false=>exact absurd (.inr ho) hno
     obtain⟨hix,hnm⟩:=zks hpos
     obtain⟨ix,hixe⟩:∃z,(z08 z16 t 0).toNat=z:=⟨_,rfl⟩
     have hix0:z08 z16 t 0=(ix:Int):=by omega
     rw[hixe] at hsr how hix hnm ⊢
     rw[hix0]
     have hqq:=h.q ix hix how
     rw[hnm] at hqq
     have har:aofR t kind=ix:=by unfold aofR;rw[hsr];rfl
     rw[har]
     have hnext:∀ix',ix'<12->z4g kind ix'=true->((ix::seen).contains ix'=true↔0≤z08 (ws++[t]) (nmAt ix') 0):=fun ix' hix' how'=>by
      rw[zgc,<-h.q ix' hix' how',List.contains_cons]
      simp only[Bool.or_eq_true,beq_iff_eq]
      constructor
      ·rintro (rfl|q)
       ·exact .inr hnm.symm
       ·exact .inl q
      ·rintro (q|q)
       ·exact .inr q
       ·exact .inl (zum hix' hix (by rw[hnm,<-q]))
     have hz':(ix::seen).contains 0=false->(a.set ix n)[0]?.getD 0=0:=fun e=>by
      rw[List.contains_cons] at e
      simp only[Bool.or_eq_false_iff] at e
      have hne:ix≠0:=fun q=>by rw[q] at e;simp at e
      rw[List.getElem?_set_ne hne]
      exact h.z e.2
     have hn0:0≤n:=by
      have:=(zuk s (gotI s k 61) (-1)).1
      unfold nV at this
      rw[if_pos (by decide),hj2,he2,hn] at this
      exact this
     by_cases hc:seen.contains ix=true
     ·have hf:=hqq.1 hc
      have hao:aofO t kind ws=some 5:=by unfold aofO;rw[hsr];simp only[if_pos hf]
      rw[hao,hc]
      have e1:z0l true er 5 at_=addF er 5 at_:=rfl
      rw[e1,z5b,z5b]
      exact⟨rfl,rfl,h.len,fun e=>absurd e (z8s _ _ _),hnext,hz'⟩
     ·have hf:¬0≤z08 ws t 0:=fun q=>hc (hqq.2 q)
      have hao:aofO t kind ws=none:=by unfold aofO;rw[hsr];simp only[if_neg hf]
      have hcf:seen.contains ix=false:=by simpa using hc
      rw[hao,hcf]
      have e1:z0l false er 5 at_=er:=rfl
      rw[e1]
      show _=_∧_=_∧ARel kind up L _ _ _ _ _
      by_cases hm:moAt ix<n
      ·have e2':z0l (decide (z63[ix]?.getD 0<n)) er 6 j2=addF er 6 j2:=by rw[<-zui,decide_eq_true hm];rfl
       have e3:setO L' ix n=some 6:=by unfold setO;rw[if_pos hm]
       have e4:setL L' L.length ix n=L':=by unfold setL;rw[if_pos (.inl hm)]
       rw[e2',z5b,e3,e4]
       exact⟨rfl,rfl,h.len,fun e=>absurd e (z8s _ _ _),hnext,hz'⟩
      ·have e2':z0l (decide (z63[ix]?.getD 0<n)) er 6 j2=er:=by rw[<-zui,decide_eq_false hm];rfl
       have e3:setO L' ix n=if setB L' ix n=true then some 5 else none:=by unfold setO;rw[if_neg hm]
       have e4:setL L' L.length ix n=if setB L' ix n=true then L' else L'.modify L.length fun d=>{ d with attr:=d.attr.set ix n }:=by
        unfold setL
        by_cases hsb:setB L' ix n=true
        ·rw[if_pos (.inr hsb),if_pos hsb]
        ·rw[if_neg (by rintro (q|q);exact hm q;exact hsb q),if_neg hsb]
       rw[e2',e3]
       by_cases her:er=none
       ·have hL':=h.same her
        have hsb:setB L' ix n=(decide ((ix:Int)=0∧0<n)&&z29 L n):=by
         unfold setB
         by_cases hi0:ix=0
         ·subst hi0
          have ha0:=h.z hcf
          rw[hL',zf0]
          show ((0:Nat)==0&&(n != woAt 0)&&(z29 L n || (a[0]?.getD 0==n)))=_
          rw[ha0]
          have hw:woAt 0=0:=rfl
          rw[hw]
          by_cases hnz:n=0
          ·subst hnz;simp
          ·have h1:(n != 0)=true:=by simpa using hnz
           have h2:((0:Int)==n)=false:=by simpa using fun e:0=n=>hnz e.symm
           have h3:(0:Int)<n:=by omega
           rw[h1,h2];simp[h3]
         ·have h1:sgAt ix=false:=by unfold sgAt;simpa using hi0
          have h2:decide ((ix:Int)=0∧0<n)=false:=decide_eq_false (fun q=>hi0 (by have:=q.1;omega))
          rw[h1,h2];rfl
        rw[<-hsb]
        by_cases hs1:setB L' ix n=true
        ·rw[if_pos hs1,e4,if_pos hs1,hs1]
         exact⟨rfl,rfl,h.len,fun e=>absurd e (z8s _ _ _),hnext,hz'⟩
        ·rw[if_neg hs1,e4,if_neg hs1]
         have hs2:setB L' ix n=false:=by simpa using hs1
         rw[hs2]
         refine⟨rfl,rfl,by simpa using h.len,fun _=>?_,hnext,hz'⟩
         rw[hL'];exact zjm L kind a up ix n
       ·have k1:∀b,z0l b er 5 j2=er:=fun b=>by unfold z0l;split;exact zg1 her _ _;rfl
        have k2:∀o,z4c er o j2=er:=fun o=>by cases o with
         | none=>rfl
         | some c=>exact zg1 her _ _
        rw[k1,k2]
        exact⟨rfl,rfl,by rw[za0];exact h.len,fun e=>absurd e her,hnext,hz'⟩
  ·rw[if_neg hq,if_neg hq];rfl
end
section
theorem zgl(s:ByteArray)(i c:Nat):isAt s (sk s i) c=isAt s i c:=by unfold isAt;rw[za1]
theorem zgh(s:ByteArray)(i c:Nat):gotI s (sk s i) c=gotI s i c:=by unfold gotI;rw[za1]
theorem zgi{s:ByteArray}{i c:Nat}(h:¬isAt s i c=true):gotI s i c=sk s i:=by
 unfold isAt at h;unfold gotI;rw[if_neg (by simpa using h)]
def bEq(kind:Nat)(up:Int)(L:List Nd)(r:Except Nat (Nat×Flt×List Int))(r':Except Nat (Nat×Flt×List Nd)):Prop:=match r,r' with
 | .error b,.error b'=>b=b'
 | .ok (i,er,a),.ok (i',er',L')=>i=i'∧er=er'∧L'.length=L.length+1∧(er=none->L'=grown L ⟨kind,a,[],[],up⟩)
 | _,_=>False
theorem zg3{s:ByteArray}{kind:Nat}{up:Int}{L:List Nd}(hk:kind<7):∀f i er a seen L' ws,ARel kind up L er a seen L' ws->bEq kind up L (z1u s kind L f i er a seen) (z1f s kind L.length f i er L' ws)
 | 0,i,er,a,seen,L',ws,h=>rfl
 | f+1,i,er,a,seen,L',ws,h=>by
  have hs:=zjx (s:=s) hk h i
  unfold z1u z1f
  revert hs
  cases z5x s kind L i er a seen with
  | error b =>
   cases z31 s kind ws L' L.length i er with
   | error b'=>exact fun q=>q
   | ok r=>exact fun q=>q.elim
  | ok r =>
   obtain⟨i2,er2,a2,seen2⟩:=r
   cases z31 s kind ws L' L.length i er with
   | error b'=>exact fun q=>q.elim
   | ok r' =>
    obtain⟨i3,er3,L3,t⟩:=r'
    rintro ⟨rfl,rfl,h2⟩
    show bEq kind up L (if isAt s i2 59=true then _ else _) (if isAt s i2 59=true then _ else _)
    by_cases hq:isAt s i2 59=true
    ·rw[if_pos hq,if_pos hq]
     exact zg3 hk f _ _ _ _ _ _ h2
    ·rw[if_neg hq,if_neg hq,zgi hq]
     unfold z86 z19
     rw[zgl,zgh,za1]
     by_cases hc:isAt s i2 125=true
     ·rw[if_pos hc,if_pos hc];exact⟨rfl,rfl,h2.len,h2.same⟩
     ·rw[if_neg hc,if_neg hc];rfl
structure Rel(a b:PS):Prop where
 i:a.i=b.i
 er:a.er=b.er
 len:a.L.length=b.L.length
 same:a.er=none->a.L=b.L
def REq(r r':Except Nat PS):Prop:=match r,r' with
 | .error b,.error b'=>b=b'
 | .ok a,.ok b=>Rel a b
 | _,_=>False
theorem Rel.to{a b:PS}(h:Rel a b)(i:Nat):Rel { a with i:=i } { b with i:=i }:=⟨rfl,h.er,h.len,h.same⟩
theorem zqr{s:ByteArray}{a b:PS}{c:Nat}(h:Rel a b):REq (match z19 s a.i c with
 | .error e=>.error e
 | .ok i=>.ok { a with i:=i }) (pEnd s b c):=by
 unfold z19 pEnd
 rw[h.i]
 by_cases hq:isAt s b.i c=true
 ·rw[if_pos hq,if_pos hq];exact h.to _
 ·rw[if_neg hq,if_neg hq];rfl
theorem zu2{s:ByteArray}{b:PS}{c:Nat}:pEnd s { b with i:=sk s b.i } c=pEnd s b c:=by
 unfold pEnd
 show (if isAt s (sk s b.i) c=true then _ else _)=_
 rw[zgl]
 by_cases hq:isAt s b.i c=true
 ·rw[if_pos hq,if_pos hq];show Except.ok { b with i:=gotI s (sk s b.i) c }=_;rw[zgh]
 ·rw[if_neg hq,if_neg hq];show Except.error (sk s (sk s b.i))=_;rw[za1]
theorem zlu{s:ByteArray}{node node':PS->Except Nat PS}(hn:∀a b,Rel a b->REq (node a) (node' b)):∀f a b,Rel a b->REq (z2f s node f a) (z4p s node' f b)
 | 0,a,b,h=>h.i
 | f+1,a,b,h=>by
  have h1:=hn a b h
  unfold z2f z4p
  revert h1
  cases node a with
  | error e =>
   cases node' b with
   | error e'=>exact fun q=>q
   | ok b2=>exact fun q=>q.elim
  | ok a2 =>
   cases node' b with
   | error e'=>exact fun q=>q.elim
   | ok b2 =>
    intro h2
    have h2':Rel a2 b2:=h2
    show REq (if isAt s a2.i 44=true then _ else _) (if isAt s b2.i 44=true then _ else _)
    rw[h2'.i]
    by_cases hq:isAt s b2.i 44=true
    ·rw[if_pos hq,if_pos hq];exact zlu hn f _ _ (h2'.to _)
    ·rw[if_neg hq,if_neg hq,zgi hq,zu2]
     have:=zqr (s:=s) (c:=93) h2'
     rw[h2'.i] at this
     exact this
theorem z94{L M:List Nd}{d e:Nd}(h:L.length=M.length):(grown L d).length=(grown M e).length:=by rw[z0f,z0f,h]
theorem zta{s:ByteArray}{idx:Nat}{a b:PS}(h:Rel a b):REq (match quoR s a.i with
 | .error e=>.error e
 | .ok (i2,t)=>.ok { a with i:=i2,L:=z03 a.L idx t }) (z65 s idx b):=by
 unfold z65
 rw[h.i]
 cases quoR s b.i with
 | error e=>rfl
 | ok r =>
  obtain⟨i2,t⟩:=r
  exact⟨rfl,h.er,by show (z03 a.L idx t).length=(z03 b.L idx t).length;unfold z03;simpa using h.len,fun q=>by show z03 a.L idx t=z03 b.L idx t;rw[h.same q]⟩
end
section
theorem zsk{s:ByteArray}{node node':PS->Except Nat PS}(hn:∀a b,Rel a b->REq (node a) (node' b)){a b:PS}(h:Rel a b):REq (match z19 s a.i 91 with
 | .error e=>.error e
 | .ok i2=>if isAt s i2 93 then .ok { a with i:=gotI s i2 93 } else z2f s node (s.size+1) { a with i:=sk s i2 }) (z32 s node' b):=by
 unfold z19 z32
 rw[h.i]
 by_cases hq:isAt s b.i 91=true
 ·rw[if_pos hq,if_pos hq]
  show REq (if isAt s (gotI s b.i 91) 93=true then _ else _) _
  by_cases hc:isAt s (gotI s b.i 91) 93=true
  ·rw[if_pos hc,if_pos hc];exact h.to _
  ·rw[if_neg hc,if_neg hc,zgi hc];exact zlu hn _ _ _ (h.to _)
 ·rw[if_neg hq,if_neg hq];rfl
theorem zun{s:ByteArray}{node node':PS->Except Nat PS}(hn:∀a b,Rel a b->REq (node a) (node' b)){a b:PS}(h:Rel a b):REq (match z19 s a.i 91 with
 | .error e=>.error e
 | .ok i2=>match node { a with i:=i2 } with
  | .error e=>.error e
  | .ok st3=>match z19 s st3.i 93 with
   | .error e=>.error e
   | .ok i4=>.ok { st3 with i:=i4 }) (pOne s node' b):=by
 unfold z19 pOne
 rw[h.i]
 by_cases hq:isAt s b.i 91=true
 ·rw[if_pos hq,if_pos hq]
  have h1:=hn _ _ (h.to (gotI s b.i 91))
  unfold z9l
  revert h1
  show REq (node { a with i:=gotI s b.i 91 }) _->REq (match node { a with i:=gotI s b.i 91 } with
   | .error e=>.error e
   | .ok st3=>_) _
  cases node { a with i:=gotI s b.i 91 } with
  | error e =>
   cases node' { b with i:=gotI s b.i 91 } with
   | error e'=>exact fun q=>q
   | ok b2=>exact fun q=>q.elim
  | ok a2 =>
   cases node' { b with i:=gotI s b.i 91 } with
   | error e'=>exact fun q=>q.elim
   | ok b2=>exact fun q=>zqr (s:=s) (c:=93) q
 ·rw[if_neg hq,if_neg hq];rfl
theorem zk3{s:ByteArray}{kind idx:Nat}{node node':PS->Except Nat PS}(hk:kind<7)(hn:∀a b,Rel a b->REq (node a) (node' b)){a b:PS}(h:Rel a b):REq (z6a s kind idx node a) (zc6 s kind idx node' b):=by
 unfold z6a zc6
 by_cases h3:kind<3
 ·rw[if_pos h3,if_neg (by omega),if_neg (by omega),if_neg (by omega)];exact zsk hn h
 ·rw[if_neg h3]
  by_cases h5:kind<5
  ·rw[if_pos h5,if_neg (by omega),if_neg (by omega),if_pos (by omega)];exact zun hn h
  ·rw[if_neg h5]
   by_cases h6:kind=5
   ·rw[if_pos h6,if_pos h6];exact zta h
   ·rw[if_neg h6,if_neg h6,if_pos (by omega)];exact h
theorem zpz(er:Flt)(n depth p:Nat):z0l (decide (12≤depth)) (z0l (decide (100≤n)) er 3 p) 4 p=z4c er (z8d n depth) p:=by
 unfold z8d
 by_cases h1:100≤n
 ·rw[decide_eq_true h1,if_pos h1]
  show z0l _ (addF er 3 p) 4 p=_
  rw[z5b];rfl
 ·rw[decide_eq_false h1,if_neg h1]
  show z0l _ er 4 p=_
  by_cases h2:12≤depth
  ·rw[decide_eq_true h2,if_pos h2];rfl
  ·rw[decide_eq_false h2,if_neg h2];rfl
theorem zdn{s:ByteArray}{i:Nat}(e:run z04 s (sk s i)=sk s i):z1v s i<0:=by
 have:za7 s i=ByteArray.empty:=by
  unfold za7
  rw[e]
  apply ByteArray.ext
  simp
 unfold z1v
 rw[this]
 decide
theorem z7n{er:Flt}{o:Option Nat}{p:Nat}(h:z4c er o p=none):er=none:=by
 cases o with
 | none=>exact h
 | some c=>exact absurd h (z8s _ _ _)
theorem zm8{s:ByteArray}:∀f (up:Int) depth a b,Rel a b->REq (z0w s f up depth a) (z06 s f up depth b)
 | 0,up,depth,a,b,h=>h.i
 | f+1,up,depth,a,b,h=>by
  unfold z0w z06
  simp only[]
  rw[h.i,h.len]
  have hkw:z08 z0z (s.extract (sk s b.i) (run z04 s (sk s b.i))) 0=z1v s b.i:=rfl
  rw[hkw]
  by_cases hneg:z1v s b.i<0
  ·rw[if_pos (.inr hneg),if_pos hneg];rfl
  ·have hka:¬run z04 s (sk s b.i)=sk s b.i:=fun e=>hneg (zdn e)
   rw[if_neg (by rintro (q|q);exact hka q;exact hneg q),if_neg hneg]
   have hk7:=zdo s b.i
   obtain⟨kind,hkind⟩:∃z,(z1v s b.i).toNat=z:=⟨_,rfl⟩
   have hk:kind<7:=by omega
   obtain⟨k,hkk⟩:∃z,run z04 s (sk s b.i)=z:=⟨_,rfl⟩
   rw[hkind,hkk,zpz,h.er]
   obtain⟨er1,her1⟩:∃z,z4c b.er (z8d b.L.length depth) (sk s b.i)=z:=⟨_,rfl⟩
   rw[her1]
   have h0:er1=none->a.L=b.L:=fun q=>h.same (by rw[h.er];exact z7n (her1.trans q))
   have hnode:∀x y,Rel x y->REq (z0w s f (b.L.length:Int) (depth+1) x) (z06 s f (b.L.length:Int) (depth+1) y):=fun x y hxy=>zm8 f _ _ x y hxy
   unfold z1c pBr
   by_cases hq:isAt s k 123=true
   ·rw[if_pos hq,if_pos hq]
    have hA:ARel kind up a.L er1 z0c [] (grown b.L ⟨kind,z0c,[],[],up⟩) []:=⟨by rw[z0f,h.len],fun q=>by rw[h0 q],fun ix hix how=>by simp[z08],fun _=>rfl⟩
    have hE:=zg3 (s:=s) hk (s.size+1) (gotI s k 123) er1 z0c [] _ [] hA
    rw[h.len] at hE
    revert hE
    cases hx:z1u s kind a.L (s.size+1) (gotI s k 123) er1 z0c [] with
    | error e =>
     cases z1f s kind b.L.length (s.size+1) (gotI s k 123) er1 (grown b.L ⟨kind,z0c,[],[],up⟩) [] with
     | error e'=>exact fun q=>q
     | ok r=>exact fun q=>q.elim
    | ok r =>
     obtain⟨i2,er2,a2⟩:=r
     cases hy:z1f s kind b.L.length (s.size+1) (gotI s k 123) er1 (grown b.L ⟨kind,z0c,[],[],up⟩) [] with
     | error e'=>exact fun q=>q.elim
     | ok r' =>
      obtain⟨i3,er3,L3⟩:=r'
      rintro ⟨rfl,rfl,hl,hs⟩
      exact zk3 hk hnode ⟨rfl,rfl,by show (grown a.L _).length=L3.length;rw[z0f,hl],fun q=>by show grown a.L _=L3;exact (hs q).symm⟩
   ·rw[if_neg hq,if_neg hq,zgi hq]
    exact zk3 hk hnode ⟨rfl,rfl,z94 h.len,fun q=>by show grown a.L _=grown b.L _;rw[h0 q]⟩
def conv:Except (Option (Nat×Nat)) (List Nd)->Except (Nat×Nat) (List Nd)
 | .ok L=>.ok L
 | .error none=>.error (1,0)
 | .error (some f)=>.error f
theorem zft(s:ByteArray):conv (z0s s)=z3p s:=by
 unfold z0s z3p
 by_cases hl:4000<s.size
 ·rw[if_pos hl,if_pos hl];rfl
 ·rw[if_neg hl,if_neg hl]
  have h:=zm8 (s:=s) (s.size+1) (-1) 0 ⟨0,[],none⟩ ⟨0,[],none⟩ ⟨rfl,rfl,rfl,fun _=>rfl⟩
  revert h
  cases z0w s (s.size+1) (-1) 0 ⟨0,[],none⟩ with
  | error b =>
   cases z06 s (s.size+1) (-1) 0 ⟨0,[],none⟩ with
   | error b'=>rintro rfl;rfl
   | ok st=>exact fun q=>q.elim
  | ok a =>
   cases z06 s (s.size+1) (-1) 0 ⟨0,[],none⟩ with
   | error b'=>exact fun q=>q.elim
   | ok b =>
    intro h
    have h':Rel a b:=h
    show conv (zix s b)=if sk s a.i<s.size then _ else _
    unfold zix
    rw[h'.i,h'.er]
    by_cases hq:sk s b.i<s.size
    ·rw[if_pos hq,if_pos hq];rfl
    ·rw[if_neg hq,if_neg hq]
     cases hb:b.er with
     | some f=>rfl
     | none =>
      show Except.ok b.L=Except.ok a.L
      rw[h'.same (by rw[h'.er,hb])]
end
section
def CR(f:Flt):Prop:=∀c p,f=some (c,p)->2≤c∧c≤7
theorem CR.none:CR none:=fun c p e=>by cases e
theorem CR.add{f:Flt}(h:CR f){c:Nat}(hc:2≤c∧c≤7)(p:Nat):CR (addF f c p):=by
 cases f with
 | none=>intro c' p' e;cases e;exact hc
 | some x=>exact h
theorem CR.addI{f:Flt}(h:CR f)(b:Bool){c:Nat}(hc:2≤c∧c≤7)(p:Nat):CR (z0l b f c p):=by
 cases b with
 | false=>exact h
 | true=>exact h.add hc p
theorem zvk{kind:Nat}{L:List Nd}{er:Flt}{a:List Int}{seen:List Nat}{st:Step}(h:CR er):CR (fa kind L er a seen st).1:=by
 unfold fa
 split
 ·exact h.add (by omega) _
 ·exact ((h.addI _ (by omega) _).addI _ (by omega) _).addI _ (by omega) _
theorem zo4{s:ByteArray}{kind:Nat}{L:List Nd}{i:Nat}{er:Flt}{a:List Int}{seen:List Nat}{e:Nat}{er2:Flt}{a2:List Int}{s2:List Nat}(h:CR er)(hh:z5x s kind L i er a seen=.ok (e,er2,a2,s2)):CR er2:=by
 rcases z7e s kind L i er a seen (-1) (by omega) with ⟨_,h2⟩|⟨_,h2⟩
 ·have h3:=zvk (kind:=kind) (L:=L) (a:=a) (seen:=seen) (st:=z0h s i (-1)) h
  rw[hh] at h2
  injection h2 with h2
  injection h2 with _ h2
  rw[<-h2] at h3
  exact h3
 ·rw[hh] at h2;cases h2
theorem zct{s:ByteArray}{kind:Nat}{L:List Nd}:∀ (f i:Nat) (er:Flt) (a:List Int) (seen:List Nat) (i2:Nat) (er2:Flt) (a2:List Int),CR er->z1u s kind L f i er a seen=.ok (i2,er2,a2)->CR er2
 | 0,i,er,a,seen,i2,er2,a2,h,e=>by cases e
 | f+1,i,er,a,seen,i2,er2,a2,h,e=>by
  cases h1:z5x s kind L i er a seen with
  | error b=>rw[z7f h1] at e;cases e
  | ok q =>
   obtain⟨j,er3,a3,s3⟩:=q
   have h3:=zo4 h h1
   by_cases hm:isAt s j 59=true
   ·rw[z5z h1 hm] at e
    exact zct f _ _ _ _ _ _ _ h3 e
   ·rw[z5y h1 hm] at e
    unfold z6f at e
    split at e
    ·cases e
    ·injection e with e
     injection e with _ e
     injection e with e _
     rw[<-e];exact h3
theorem zjy{s:ByteArray}{kind:Nat}{L:List Nd}{i:Nat}{er:Flt}{i2:Nat}{er2:Flt}{a2:List Int}(h:CR er)(e:z1c s kind L i er=.ok (i2,er2,a2)):CR er2:=by
 unfold z1c at e
 split at e
 ·exact zct _ _ _ _ _ _ _ _ h e
 ·injection e with e
  injection e with _ e
  injection e with e _
  rw[<-e];exact h
theorem zgp{s:ByteArray}{node:PS->Except Nat PS}(hn:∀st st',CR st.er->node st=.ok st'->CR st'.er):∀ (f:Nat) (st st':PS),CR st.er->z2f s node f st=.ok st'->CR st'.er
 | 0,st,st',h,e=>by cases e
 | f+1,st,st',h,e=>by
  rw[z2f] at e
  cases h1:node st with
  | error b=>rw[h1] at e;cases e
  | ok st2 =>
   rw[h1] at e
   simp only at e
   have h2:=hn st st2 h h1
   split at e
   ·exact zgp hn f _ st' (by exact h2) e
   ·split at e
    ·cases e
    ·injection e with e
     rw[<-e];exact h2
theorem zo5{s:ByteArray}{kind k:Nat}{node:PS->Except Nat PS}(hn:∀st st',CR st.er->node st=.ok st'->CR st'.er){st st':PS}(h:CR st.er)(e:z6a s kind k node st=.ok st'):CR st'.er:=by
 unfold z6a at e
 split at e
 ·split at e
  ·cases e
  ·split at e
   ·injection e with e;rw[<-e];exact h
   ·exact zgp hn _ _ _ (by exact h) e
 ·split at e
  ·split at e
   ·cases e
   ·split at e
    ·cases e
    ·rename_i h1
     split at e
     ·cases e
     ·injection e with e
      have h5:=hn _ _ (by exact h) h1
      rw[<-e]
      exact h5
  ·split at e
   ·split at e
    ·cases e
    ·injection e with e;rw[<-e];exact h
   ·injection e with e;rw[<-e];exact h
theorem zh1{s:ByteArray}:∀ (f:Nat) (up:Int) (depth:Nat) (st st':PS),CR st.er->z0w s f up depth st=.ok st'->CR st'.er
 | 0,up,depth,st,st',h,e=>by cases e
 | f+1,up,depth,st,st',h,e=>by
  rw[z0w] at e
  split at e
  ·cases e
  ·split at e
   ·cases e
   ·rename_i h1
    exact zo5 (fun a b=>zh1 f _ _ a b) (zjy ((h.addI _ (by omega) _).addI _ (by omega) _) h1) e
theorem zb1{s:ByteArray}{c p:Nat}(h:z0s s=.error (some (c,p))):2≤c∧c≤7:=by
 have h1:=zft s
 rw[h] at h1
 have h2:z3p s=.error (c,p):=h1.symm
 unfold z3p at h2
 split at h2
 ·rename_i hl
  unfold z0s at h
  rw[if_pos hl] at h
  cases h
 ·split at h2
  ·injection h2 with h2;injection h2 with h2 _;omega
  ·rename_i st h3
   have hc:=zh1 _ _ _ _ _ (CR.none) h3
   split at h2
   ·injection h2 with h2;injection h2 with h2 _;omega
   ·split at h2
    ·rename_i f hf
     injection h2 with h2
     exact hc c p (by rw[hf,h2])
    ·cases h2
end
end Go.Proofs.YtnponhbgicbkcaaGreatDoor
