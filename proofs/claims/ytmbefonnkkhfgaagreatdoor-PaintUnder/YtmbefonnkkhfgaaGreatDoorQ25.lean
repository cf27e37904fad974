import Derived.Test.YtmbefonnkkhfgaaGreatDoorQ00
import Derived.Test.YtmbefonnkkhfgaaGreatDoorQ10
import Derived.Test.YtmbefonnkkhfgaaGreatDoorQ04
set_option linter.unusedVariables false
set_option maxRecDepth 100000
set_option maxHeartbeats 16000000
namespace Go.Proofs.YtmbefonnkkhfgaaGreatDoor
section
open Go.RowKit Go.Proofs.Tryz
theorem built_grown{T e:TypeId}{B b rb:Nat}{p:Value}{bs:List Value}{w w':World}(h:Lib.BuilderAtF T e B b p bs w)(hg:w.grownBy w' (some rb))(hr:rb<B):Lib.BuilderAtF T e B b p bs w':=by
 obtain⟨hB,v,hb,hown,hne⟩:=h;have lt:∀{k o},w.heap[k]?=some o->k<w.heap.size:=fun{k o} hk=>(Array.getElem?_eq_some_iff.1 hk).1;refine⟨hB,v,(hg.block b (lt hb) (by simp;omega)).trans hb,⟨hown.1,?_⟩,hne⟩;rcases hown.2 with hn|⟨g,cap,cur,fz,hv,hbg,hgg,rest⟩;·exact .inl hn
 ·exact .inr ⟨g,cap,cur,fz,hv,hbg,(hg.block g (lt hgg) (by simp;omega)).trans hgg,rest⟩
theorem isBuilt_grown{T e:TypeId}{B b rb:Nat}{bs:List Value}{w w':World}(h:Lib.IsBuilderF T e B b bs w)(hg:w.grownBy w' (some rb))(hr:rb<B):Lib.IsBuilderF T e B b bs w':=
 h.elim (fun x=>.inl (built_grown x hg hr)) (fun x=>.inr (built_grown x hg hr))
theorem PR.belowB{W W':World}{rb B:Nat}{s:ByteArray}{i:Nat}{av nv fv:Value}(h:PR W rb s i av nv fv)(hb:Below B W W')(hr:rb<B):PR W' rb s i av nv fv:=
 have k:∀j v,W.cell? ⟨rb,j,none⟩=some v->W'.cell? ⟨rb,j,none⟩=some v:=fun j v e=>(hb.cell (p:=⟨rb,j,none⟩) hr).trans e
 ⟨Nat.lt_of_lt_of_le h.lt hb.size,k _ _ h.c0,k _ _ h.c1,k _ _ h.c2,k _ _ h.c3,k _ _ h.c4,fun j=>(hb.frozen (p:=⟨rb,j,none⟩) hr).trans (h.fz j)⟩
theorem readEscaped_end(rb:Nat)(s:ByteArray)(i:Nat)(av nv fv:Value)(eb:Addr)(w:World)(h:PR w rb s i av nv fv)(hi:i=s.size)(he:w.cell? ⟨8,0,none⟩=some (errV eb)):
 Calls prog 149 #[Pq rb] w fun e w'=>e=.panicked [{v:=faultV (i:Int) (errV eb),recovered:=false}]∧w.grownBy w' (some rb):=by have CB:=qH<|readByte_no rb s i av nv fv eb w h hi he;clear h he hi;go_enter func149,ntmps149;go_wp2_with fail;refine CB.mono ?_;rintro e w1 ⟨rfl,g1⟩;exact⟨rfl,rfl,g1⟩
end
section
open Go.RowKit Go.Proofs.Tryz
theorem ext_get(s:ByteArray)(j k c:Nat)(h:j+c<k)(hk:k≤s.size):(s.extract j k).data.toList[c]?=some (s[j+c]'(by omega)):=by have hk':k≤s.data.size:=hk;rw[ByteArray.data_extract,Array.getElem?_toList,Array.getElem?_extract];rw[if_pos (by omega),Array.getElem?_eq_getElem (by omega)];rfl
theorem ext_size(s:ByteArray)(j k:Nat)(hk:k≤s.size):(s.extract j k).size=k-j:=by rw[ByteArray.size_extract,Nat.min_eq_left hk]
theorem dec_dv(s:ByteArray)(j k:Nat)(hk:k≤s.size)(h6:k-j≤6)(hd:∀t,j+t<k->48≤bat s (j+t)∧bat s (j+t)≤57):
 ∀c,c≤k-j->Lib.decFrom 0 ((s.extract j k).data.toList.take c)=some (dv s j c).toNat
 |0,_=>by simp[Lib.decFrom,dv]
 |c+1,hc=>by
  have ih:=dec_dv s j k hk h6 hd c (by omega);have hb:=hd c (by omega);have hbd:=(dv_bd s j c (fun t ht=>hd t (by omega))).1;have hin:j+c<s.size:=by omega
  have e1:=bat_in hin;have e:=Lib.decFrom_take (s.extract j k).data.toList c 0 _ _ (bat s (j+c)-48) ih (ext_get s j k c (by omega) hk) (by unfold Lib.digitVal;rw[<-e1,if_pos hb]);rw[e];congr 1;conv=>rhs;unfold dv
  rw[if_pos (by omega)];omega
theorem atoi_dv(s:ByteArray)(j k:Nat)(hjk:j<k)(hk:k≤s.size)(h6:k-j≤6)(hd:∀t,j+t<k->48≤bat s (j+t)∧bat s (j+t)≤57):
 Lib.atoi (s.extract j k).data.toList=some (dv s j (k-j)):=by
 have hall:=dec_dv s j k hk h6 hd (k-j) (Nat.le_refl _);have hlen:(s.extract j k).data.toList.length=k-j:=by rw[Array.length_toList];exact ext_size s j k hk
 rw[List.take_of_length_le (by omega)]at hall;have h0:=ext_get s j k 0 (by omega) hk;have hb:=hd 0 (by omega);have e1:=bat_in (s:=s) (i:=j+0) (by omega);have hbd:=(dv_bd s j (k-j) (fun t ht=>hd t (by omega))).1;generalize(s.extract j k).data.toList=l at hall h0 hlen;match l,h0 with
 |b::r,h0=>
  simp only[List.getElem?_cons_zero,Option.some.injEq]at h0;have hbn:b.toNat=bat s (j+0):=by rw[e1,h0]
  have n1:(b==45)=false:=by apply beq_eq_false_iff_ne.mpr;intro hh;rw[hh]at hbn;simp at hbn hb;omega
  have n2:(b==43)=false:=by apply beq_eq_false_iff_ne.mpr;intro hh;rw[hh]at hbn;simp at hbn hb;omega
  unfold Lib.atoi;dsimp only;rw[n1,n2];unfold Lib.decNat;simp only[List.isEmpty_cons,Bool.false_eq_true,if_false,hall,Option.map_some];congr 1;omega
theorem digits_run(s:ByteArray)(j:Nat):∀t,j+t<run digit s j->48≤bat s (j+t)∧bat s (j+t)≤57:=fun t ht=>by have:=run_all (p:=digit) s (s.size-j) j t ht;unfold digit at this;simpa using this
theorem readNumber_no(rb:Nat)(s:ByteArray)(i:Nat)(av nv fv:Value)(eb:Addr)(w:World)(h:PR w rb s i av nv fv)(hs:s.size≤1099511627776)(hi:i≤s.size)(hg:8≠rb)(he:w.cell? ⟨8,0,none⟩=some (errV eb))
 (hbad:run digit s (sk s i)=sk s i∨sk s i+6<run digit s (sk s i)∨(sk s i+1<run digit s (sk s i)∧bat s (sk s i)=48)):
 Calls prog 167 #[Pq rb] w fun e w'=>e=.panicked [{v:=faultV (sk s i:Int) (errV eb),recovered:=false}]∧w.grownBy w' (some rb):=by
 have CA:=qH<|digits_any rb s i av nv fv w h hs hi;have hjs:=sk_le s i hi;obtain⟨j,hj⟩:=nmd (sk s i);rw[hj]at CA hbad hjs⊢;have HN:Hid (∀w,w.cell? ⟨8,0,none⟩=some (errV eb)->Calls prog 60 #[Iq (j:Int)] w fun e w'=>e=.returned (.iface 117 (.agg #[Iq (j:Int),.iface 311 (.pointer (some eb))]))∧w'=w):=fun w he=>noTree_any _ w eb he;have HE:=qH<|he;have hkl:=run_le digit s j hjs;have hkg:=run_ge digit s j;obtain⟨k,hk⟩:=nmd (run digit s j);rw[hk]at CA hbad hkl hkg;have hz:=ext_size s j k hkl;have h0:j<k->∀hh,(s.extract j k)[0]'hh=s[j]'(by omega):=fun hjk hh=>by have:=ext_get s j k 0 (by omega) hkl;rw[List.getElem?_eq_getElem (by rw[Array.length_toList];exact hh),Option.some.injEq]at this;exact this
 have hbj:∀hh:j<s.size,bat s j=(s[j]'hh).toNat:=fun hh=>bat_in hh;obtain⟨t,ht⟩:=nmd (s.extract j k);rw[ht]at CA hz;have hv:t.size=0∨6<t.size∨(1<t.size∧∃hh:0<t.size,(t[0]'hh).toNat=48):=by
  rcases hbad with h|h|⟨h,h2⟩;·left;omega
  ·right;left;omega
  ·right;right;refine⟨by omega,by omega,?_⟩;subst ht;rw[h0 (by omega),<-hbj];exact h2
 clear h hj he hbad h0 hbj hk ht hz hkl hkg hjs;by_cases hz0:t.size=0
 ·have et:t=⟨#[]⟩:=by apply ByteArray.ext;exact Array.eq_empty_of_size_eq_zero hz0
  subst et;clear hv hz0;go_enter func167,ntmps167;go_wp2_with fail;refine CA.mono ?_;rintro e w1 ⟨rfl,h1,g1⟩;have HG:=qH<|g1;have HE1:=qH<|g1.cell HE (by simpa using hg);clear h1 g1 CA;go_wp2_with fail;refine(HN _ HE1).mono ?_;rintro e w2 ⟨rfl,hw⟩;obtain rfl:=hw.symm;go_wp2;exact⟨rfl,rfl,HG⟩
 ·have hne:t≠⟨#[]⟩:=fun hh=>hz0 (by rw[hh];rfl);have eq0:=decide_eq_false hne;have h1:1<t.size:=by omega
  have h1':(1:Int)<(t.size:Int):=by omega
  have h0':(0:Int)<(t.size:Int):=by omega
  have h0n:0<t.size:=by omega
  obtain⟨x,hx⟩:=nmd ((t[0]'h0n).toNat);have hv2:6<t.size∨x=48:=by
   rcases hv with h|h|⟨h,hh,h2⟩;·exact absurd h hz0
   ·exact .inl h
   ·exact .inr (by rw[<-hx];exact h2)
  clear hv hz0;have ed:=decide_eq_true h1';by_cases hx48:x=48
  ·subst hx48;clear hv2;by_cases h6:6<t.size
   ·have h6':(6:Int)<(t.size:Int):=by omega
    have e6:=decide_eq_true h6';go_enter func167,ntmps167;go_wp2_with fail;refine CA.mono ?_;rintro e w1 ⟨rfl,h1,g1⟩;have HG:=qH<|g1;have he1:w1.cell? ⟨8,0,none⟩=some (.iface 311 (.pointer (some eb))):=g1.cell HE (by simpa using hg);clear h1 g1 CA;go_wp2;all_goals exact⟨rfl,rfl,HG⟩
   ·have h6':¬(6:Int)<(t.size:Int):=by omega
    have e6:=decide_eq_false h6';go_enter func167,ntmps167;go_wp2_with fail;refine CA.mono ?_;rintro e w1 ⟨rfl,h1,g1⟩;have HG:=qH<|g1;have he1:w1.cell? ⟨8,0,none⟩=some (.iface 311 (.pointer (some eb))):=g1.cell HE (by simpa using hg);clear h1 g1 CA;go_wp2;all_goals exact⟨rfl,rfl,HG⟩
  ·have ex:((x:Int)==48)=false:=by simp;omega
   have h6:6<t.size:=by omega
   have h6':(6:Int)<(t.size:Int):=by omega
   have e6:=decide_eq_true h6';clear hv2 hx48;go_enter func167,ntmps167;go_wp2_with fail;refine CA.mono ?_;rintro e w1 ⟨rfl,h1,g1⟩;have HG:=qH<|g1;have he1:w1.cell? ⟨8,0,none⟩=some (.iface 311 (.pointer (some eb))):=g1.cell HE (by simpa using hg);clear h1 g1 CA;go_wp2;all_goals exact⟨rfl,rfl,HG⟩
end
section
open Go.RowKit
def SOut(w w':World)(e:Ending)(rb:Nat)(s:ByteArray)(av nv fv:Value)(eb:Addr)(r:Except Nat (Nat×List UInt8)):Prop:=
 w.grownBy w' (some rb)∧match r with
  |.ok (p,t)=>e=.returned (.string ⟨t.toArray⟩)∧PR w' rb s p av nv fv
  |.error b=>e=.panicked [{v:=faultV (b:Int) (errV eb),recovered:=false}]
theorem gr_belowB{A B C:World}{b:Nat}(h:A.grownBy B (some b))(k:Below A.heap.size B C):A.grownBy C (some b):=
 ⟨k.os.trans h.os,k.tape.trans h.tape,k.output.trans h.output,Nat.le_trans h.size k.size,fun i hi hn=>(k.block i hi).trans (h.block i hi hn)⟩
theorem qF_end{s:ByteArray}{f p:Nat}{acc:List UInt8}(h:bat s p=256):qF s (f+1) p acc=.error p:=by unfold qF;rw[if_pos h]
theorem qF_close{s:ByteArray}{f p:Nat}{acc:List UInt8}(h:bat s p=34):qF s (f+1) p acc=.ok (p+1,acc):=by unfold qF;rw[if_neg (by omega),if_pos h]
theorem qF_esc{s:ByteArray}{f p c:Nat}{acc:List UInt8}(h:bat s p=92)(hc:escB (bat s (p+1))=some c):qF s (f+1) p acc=qF s f (p+2) (acc++[c.toUInt8]):=by
 conv=>lhs;unfold qF
 rw[if_neg (by omega),if_neg (by omega),if_pos h];unfold escB at hc;by_cases h1:bat s (p+1)=34;·rw[if_pos h1]at hc;cases hc;rw[if_pos (.inl h1),h1]
 ·rw[if_neg h1]at hc;by_cases h2:bat s (p+1)=92;·rw[if_pos h2]at hc;cases hc;rw[if_pos (.inr h2),h2]
  ·rw[if_neg h2]at hc;by_cases h3:bat s (p+1)=110;·rw[if_pos h3]at hc;cases hc;rw[if_neg (by omega),if_pos h3];rfl
   ·rw[if_neg h3]at hc;cases hc
theorem qF_bad{s:ByteArray}{f p:Nat}{acc:List UInt8}(h:bat s p=92)(hc:escB (bat s (p+1))=none):qF s (f+1) p acc=.error (p+1):=by
 unfold qF;rw[if_neg (by omega),if_neg (by omega),if_pos h];unfold escB at hc;by_cases h1:bat s (p+1)=34;·rw[if_pos h1]at hc;cases hc
 ·rw[if_neg h1]at hc;by_cases h2:bat s (p+1)=92;·rw[if_pos h2]at hc;cases hc
  ·rw[if_neg h2]at hc;by_cases h3:bat s (p+1)=110;·rw[if_pos h3]at hc;cases hc
   ·rw[if_neg (by omega),if_neg h3]
theorem qF_byte{s:ByteArray}{f p:Nat}{acc:List UInt8}(h0:bat s p≠256)(h1:bat s p≠34)(h2:bat s p≠92):qF s (f+1) p acc=qF s f (p+1) (acc++[(bat s p).toUInt8]):=by
 conv=>lhs;unfold qF
 rw[if_neg h0,if_neg h1,if_neg h2]
theorem cells_more(acc:List UInt8)(c:Nat)(hc:c<256):Lib.byteCells (acc++[c.toUInt8])=Lib.byteCells acc++[.int .u8 (c:Int)]:=by simp[Lib.byteCells];omega
end
section
open Go.RowKit Go.Proofs.Tryz
theorem readString_any(rb:Nat)(s:ByteArray)(i:Nat)(av nv fv:Value)(eb:Addr)(w:World)(h:PR w rb s i av nv fv)(hs:s.size≤1073741824)(hi:i≤s.size)(hg:8≠rb)(he:w.cell? ⟨8,0,none⟩=some (errV eb)):
 Calls prog 115 #[Pq rb] w fun e w'=>SOut w w' e rb s av nv fv eb (quoR s i):=by
 have HE:=qH<|he;by_cases hat:isAt s i 34=true
 ·have CX:Hid (Calls prog 116 #[Pq rb,.int .u8 34] w fun e w'=>e=.returned (.tuple #[])∧PR w' rb s (gotI s i 34) av nv fv∧w.grownBy w' (some rb)):=expect_yes rb s i av nv fv 34 w h (by omega) hi (by omega) hat;have hq:quoR s i=qF s (s.size+2) (gotI s i 34) []:=by unfold quoR;rw[if_pos hat]
  have hgl:gotI s i 34≤s.size:=by
   unfold isAt at hat;have h1:bat s (sk s i)=34:=by simpa using hat
   have h2:sk s i<s.size:=by
    by_cases hh:sk s i<s.size;·exact hh
    ·rw[bat_out hh]at h1;omega
   unfold gotI;rw[if_pos h1];omega
  rw[hq];obtain⟨j,hj⟩:=nmd (gotI s i 34);rw[hj]at CX hgl⊢;obtain⟨R,hR⟩:=nmd (qF s (s.size+2) j []);rw[hR];have HR0:=qH<|hR;clear h he hat hq hj hR;go_enter func115,ntmps115;go_wp2_with fail;refine CX.mono ?_;rintro e w1 ⟨rfl,h1,g1⟩;have hrl:=h1.lt;have HR:=qH<|h1;have HG1:=qH<|g1;clear h1 g1 CX;go_wp2;go_loopw[4] (fun _ wr=>∃(p f:Nat) (acc:List UInt8),p≤s.size∧acc.length≤p∧s.size<f+p∧Hid (qF s f p acc=R)∧Hid (PR wr rb s p av nv fv)∧Hid (Lib.IsBuilderF 193 5 w1.heap.size w1.heap.size (Lib.byteCells acc) wr)∧Hid (w1.grownBy wr (some rb))) (fun _ wr=>s.size-prI wr rb);case atStart=>exact⟨j,s.size+2,[],hgl,Nat.zero_le _,by omega,HR0,HR.below ((Below.refl _ _).alloc (Nat.le_refl _) _),Lib.IsBuilderF.of (Lib.fresh_isBuilder 193 5 w1),gr_below ((Below.refl _ _).alloc (Nat.le_refl _) _)⟩
  case round=>
   obtain⟨p,f0,acc,hp,hl,hf,HQ,HS,HB,HG⟩:=hrel;obtain⟨f,rfl⟩:∃f,f0=f+1:=⟨f0-1,by omega⟩;have HEr:=qH<|HG.cell (HG1.cell HE (by simpa using hg)) (by simpa using hg);have HRD:=qH<|HS.prI;by_cases hend:p=s.size
   ·have CB:=qH<|readByte_no rb s p av nv fv eb wr HS hend HEr;have HRR:Hid (R=.error p):=by show _=_;rw[<-HQ.out];exact qF_end (bat_out (by omega))
    go_wp2_with fail;refine CB.mono ?_;rintro e w2 ⟨rfl,g2⟩;refine⟨rfl,?_⟩;rw[HRR.out];exact⟨gr_trans HG1 (gr_trans HG g2),rfl⟩
   ·have hlt:p<s.size:=by omega
    have hbl:=bat_lt hlt;have CB:=qH<|readByte_yes rb s p av nv fv wr HS (by omega) hlt;obtain⟨x,hx⟩:=nmd (bat s p);have HX:=qH<|hx;rw[hx]at CB hbl;clear hx;by_cases h34:x=34
    ·have HRR:Hid (R=.ok (p+1,acc)):=by show _=_;rw[<-HQ.out];exact qF_close (by rw[HX.out,h34])
     subst h34;go_wp2_with fail;refine CB.mono ?_;rintro e w2 ⟨rfl,h2,g2⟩;have HR2:=qH<|h2;have HG2:=qH<|gr_trans HG g2;have HB2:=qH<|isBuilt_grown HB g2 hrl;clear h2 g2 CB;go_wp2_with(go_at_call 126;refine(tstring_lib w1.heap.size w1.heap.size acc w2 HB2 HG2.size).mono ?_;rintro e w3 ⟨rfl,hi3,hb3,hk3⟩);go_ret;show SOut _ _ _ _ _ _ _ _ _ _;rw[HRR.out];exact⟨gr_trans HG1 (gr_belowB HG2 hb3),rfl,HR2.belowB hb3 hrl⟩
    ·have e34:((x:Int)==34)=false:=by simp;omega
     by_cases h92:x=92
     ·have HX92:Hid (bat s p=92):=by show _=_;rw[HX.out,h92]
      subst h92;clear h34;have hac:(Lib.byteCells acc).length+1≤140737488355328:=by simp[Lib.byteCells];omega
      go_wp2_with fail;refine CB.mono ?_;rintro e w2 ⟨rfl,h2,g2⟩;have HR2:=qH<|h2;have HG2:=qH<|gr_trans HG g2;have HB2:=qH<|isBuilt_grown HB g2 hrl;have HE2:=qH<|g2.cell HEr (by simpa using hg);clear h2 g2 CB;by_cases hend2:p+1=s.size
      ·have HRR:Hid (R=.error (p+1)):=by show _=_;rw[<-HQ.out];exact qF_bad HX92 (by rw[bat_out (by omega)];rfl)
       go_wp2_with(go_at_call 149;refine(readEscaped_end rb s (p+1) av nv fv eb w2 HR2 hend2 HE2).mono ?_;rintro e w3 ⟨rfl,g3⟩);refine⟨rfl,?_⟩;rw[HRR.out];exact⟨gr_trans HG1 (gr_trans HG2 g3),by show Ending.panicked _=Ending.panicked _;rw[hend2]⟩
      ·cases hec:escB (bat s (p+1))with
       |none=>
        have HRR:Hid (R=.error (p+1)):=by show _=_;rw[<-HQ.out];exact qF_bad HX92 hec
        go_wp2_with(go_at_call 149;refine(readEscaped_no rb s (p+1) av nv fv eb w2 HR2 (by omega) (by omega) hec hg HE2).mono ?_;rintro e w3 ⟨rfl,g3⟩);refine⟨rfl,?_⟩;rw[HRR.out];exact⟨gr_trans HG1 (gr_trans HG2 g3),rfl⟩
       |some c=>
        have hc256:c<256:=by
         unfold escB at hec;split at hec;·cases hec;omega
         ·split at hec;·cases hec;omega
          ·split at hec;·cases hec;omega
           ·cases hec
        have HQ2:Hid (qF s f (p+2) (acc++[c.toUInt8])=R):=by show _=_;rw[<-qF_esc HX92.out hec];exact HQ
        have CE:=qH<|readEscaped_yes rb s (p+1) av nv fv w2 HR2 (by omega) (by omega) c hec;clear hec;go_wp2_with fail;refine CE.mono ?_;rintro e w3 ⟨rfl,h3,g3⟩;have HR3:Hid (PR w3 rb s (p+2) av nv fv):=h3;have HG3:=qH<|gr_trans HG2 g3;have HB3:=qH<|isBuilt_grown HB2 g3 hrl;clear h3 g3 CE;go_wp2_with(go_at_call 148;refine(writeByte_lib w1.heap.size w1.heap.size (Lib.byteCells acc) (c:Int) w3 HB3 hac HG3.size).mono ?_;rintro e w4 ⟨rfl,hi4,hb4,hk4⟩);have HR4:=qH<|HR3.belowB hb4 hrl;go_roundw;case rel=>exact⟨p+2,f,acc++[c.toUInt8],by omega,by simp;omega,by omega,HQ2,HR4,by show Lib.IsBuilderF _ _ _ _ _ _;rw[cells_more acc c hc256];exact .inr hi4,gr_belowB HG3 hb4⟩
        case measure=>rw[HR4.prI,HRD.out];omega
     ·have e92:((x:Int)==92)=false:=by simp;omega
      have HQ2:Hid (qF s f (p+1) (acc++[x.toUInt8])=R):=by show _=_;have:=qF_byte (s:=s) (f:=f) (p:=p) (acc:=acc) (by rw[HX.out];omega) (by rw[HX.out];exact h34) (by rw[HX.out];exact h92);rw[HX.out]at this;rw[<-this];exact HQ
      have hac:(Lib.byteCells acc).length+1≤140737488355328:=by simp[Lib.byteCells];omega
      clear h34 h92;go_wp2_with fail;refine CB.mono ?_;rintro e w2 ⟨rfl,h2,g2⟩;have HR2:=qH<|h2;have HG2:=qH<|gr_trans HG g2;have HB2:=qH<|isBuilt_grown HB g2 hrl;clear h2 g2 CB;go_wp2_with(go_at_call 148;refine(writeByte_lib w1.heap.size w1.heap.size (Lib.byteCells acc) (x:Int) w2 HB2 hac HG2.size).mono ?_;rintro e w3 ⟨rfl,hi3,hb3,hk3⟩);have HR3:=qH<|HR2.belowB hb3 hrl;go_roundw;case rel=>exact⟨p+1,f,acc++[x.toUInt8],by omega,by simp;omega,by omega,HQ2,HR3,by show Lib.IsBuilderF _ _ _ _ _ _;rw[cells_more acc x hbl];exact .inr hi3,gr_belowB HG2 hb3⟩
      case measure=>rw[HR3.prI,HRD.out];omega
 ·have hat':isAt s i 34=false:=by simpa using hat
  have CX:Hid (Calls prog 116 #[Pq rb,.int .u8 34] w fun e w'=>e=.panicked [{v:=faultV (sk s i:Int) (errV eb),recovered:=false}]∧w.grownBy w' (some rb)):=expect_no rb s i av nv fv eb 34 w h (by omega) hi (by omega) hat' hg he;have HQ:Hid (quoR s i=.error (sk s i)):=by show _=_;unfold quoR;rw[if_neg hat]
  clear h he hat hat';go_enter func115,ntmps115;go_wp2_with fail;refine CX.mono ?_;rintro e w1 ⟨rfl,g1⟩;refine⟨rfl,?_⟩;rw[HQ.out];exact⟨g1,rfl⟩
end
end Go.Proofs.YtmbefonnkkhfgaaGreatDoor
