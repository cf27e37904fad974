import Derived.Test.YtbeiapdobffpiaaGreatDoorQ09
import Derived.Test.YtbeiapdobffpiaaGreatDoorQ04
set_option linter.all false
set_option maxRecDepth 100000
set_option maxHeartbeats 16000000
namespace Go.Proofs.YtbeiapdobffpiaaGreatDoor
open Go.RowKit Go.Proofs.Tryz
theorem pL{T e}{B b rb}{p}{bs}{w w'}(h:Lib.BuilderAtF T e B b p bs w)(hg:w.grownBy w' (some rb))(hr:rb<B):Lib.BuilderAtF T e B b p bs w':=by
 obtain⟨hB,v,hb,bi,bG⟩:=h;have lt:∀{k o},w.heap[k]?=some o->k<w.heap.size:=fun{k o} hk=>(aS.1 hk).1;refine⟨hB,v,(hg.block b (lt hb) (by grind)).trans hb,⟨bi.1,?_⟩,bG⟩;rcases bi.2 with hn|⟨g,al,iT,fz,hv,hbg,mw,rest⟩;·grind
 ·exact .inr ⟨g,al,iT,fz,hv,hbg,(hg.block g (lt mw) (by grind)).trans mw,rest⟩
theorem isBuilt_grown{T e}{B b rb}{bs}{w w'}(h:Lib.IsBuilderF T e B b bs w)(hg:w.grownBy w' (some rb))(hr:rb<B):Lib.IsBuilderF T e B b bs w':=
 h.elim (fun x=>.inl (pL x hg hr)) (fun x=>.inr (pL x hg hr))
theorem PR.belowB{W W'}{rb B}{s}{i}{av nv fv}(h:PR W rb s i av nv fv)(hb:Below B W W')(hr:rb<B):PR W' rb s i av nv fv:=
 have k:∀j v,W.cell? (az rb j)=some v->W'.cell? (az rb j)=some v:=fun j v e=>(hb.cell (p:=(az rb j)) hr).trans e
 ⟨bn h.lt hb.size,k _ _ h.c0,k _ _ h.c1,k _ _ h.c2,k _ _ h.c3,k _ _ h.c4,fun j=>(hb.frozen (p:=(az rb j)) hr).trans (h.fz j)⟩
theorem qL(rb:Nat)(s:ByteArray)(i:Nat)(av nv fv:Value)(eb:Addr)(w:World)(h:PR w rb s i av nv fv)(hi:i=s.size)(he:w.cell? (az 7 0)=some (bp eb)):
 Cw 132 #[Pq rb] w fun e w'=>e=.panicked [{v:=cR (i:Int) (bp eb),recovered:=false}]/\w.grownBy w' (some rb):=by have CB:=qH<|readByte_no rb s i av nv fv eb w h hi he;clear h he hi;go_enter func132,ntmps132;go_wp2_with fail;refine CB.mono ?_;rintro e w1 ⟨rfl,g1⟩;exact⟨rfl,rfl,g1⟩
theorem ext_get(s:ByteArray)(j k c:Nat)(h:j+c<k)(hk:k<=s.size):(s.extract j k).data.toList[c]?=some (s[j+c]'(by omega)):=by have hk':k<=s.data.size:=hk;rw[ByteArray.data_extract,Mb,Array.getElem?_extract];rw[if_pos (by omega),Mv (by omega)];rfl
theorem rQ(s:ByteArray)  j k  (hk:k<=s.size):(s.extract j k).size=k-j:=by simp_all
theorem JF  s   j k  (hk:k<=s.size) (h6:k-j<=6) (hd:∀t,j+t<k->48<=dh s (j+t)/\dh s (j+t)<=57):
 ∀c,c<=k-j->Lib.decFrom 0 ((s.extract j k).data.toList.take c)=some (dv s j c).toNat
 |0,_=>by simp[Lib.decFrom,dv]
 |c+1,hc=>by
  have ih:=JF s j k hk h6 hd c (by omega);have hb:=hd c (by omega);have hbd:=(rO s j c (fun t ht=>hd t (by omega))).1;have iV:j+c<s.size:=by omega
  have e1:=ea iV;have e:=Lib.decFrom_take (s.extract j k).data.toList c 0 _ _ (dh s (j+c)-48) ih (ext_get s j k c (by omega) hk) (by unfold Lib.digitVal;grind);grind[dv]
theorem atoi_dv  s   j k  (tA:j<k) (hk:k<=s.size) (h6:k-j<=6) (hd:∀t,j+t<k->48<=dh s (j+t)/\dh s (j+t)<=57):
 Lib.atoi (s.extract j k).data.toList=some (dv s j (k-j)):=by
 have eI:=JF s j k hk h6 hd (k-j) (ai _);have bH:(s.extract j k).data.toList.length=k-j:=by rw[j9];exact rQ s j k hk
 rw[gt (by omega)]at eI;have h0:=ext_get s j k 0 (by omega) hk;have hb:=hd 0 (by omega);have e1:=ea (s:=s) (i:=j+0) (by omega);have hbd:=(rO s j (k-j) (fun t ht=>hd t (by omega))).1;generalize(s.extract j k).data.toList=l at eI h0 bH;match l,h0 with
 |b::r,h0=>
  simp only[Mu,Fh]at h0;have Bz:b.toNat=dh s (j+0):=by rw[e1,h0]
  have n1:(b==45)=false:=by apply beq_eq_false_iff_ne.mpr;intro hh;rw[hh]at Bz;simp at Bz hb;omega
  have n2:(b==43)=false:=by apply beq_eq_false_iff_ne.mpr;intro hh;rw[hh]at Bz;simp at Bz hb;omega
  unfold Lib.atoi;dsimp only;rw[n1,n2];unfold Lib.decNat;grind
theorem Ca  s   j  :∀t,j+t<run aU s j->48<=dh s (j+t)/\dh s (j+t)<=57:=fun t ht=>by have:=oe (p:=aU) s (s.size-j) j t ht;grind[aU]
theorem readNumber_no(rb:Nat)(s:ByteArray)(i:Nat)(av nv fv:Value)(eb:Addr)(w:World)(h:PR w rb s i av nv fv)(hs:s.size<=1099511627776)(hi:i<=s.size)(hg:7≠rb)(he:w.cell? (az 7 0)=some (bp eb))
 (hbad:run aU s (sk s i)=sk s i\/sk s i+6<run aU s (sk s i)\/(sk s i+1<run aU s (sk s i)/\dh s (sk s i)=48)):
 Cw 167 #[Pq rb] w fun e w'=>e=.panicked [{v:=cR (sk s i:Int) (bp eb),recovered:=false}]/\w.grownBy w' (some rb):=by
 have CA:=qH<|digits_any rb s i av nv fv w h hs hi;have nu:=eh s i hi;obtain⟨j,hj⟩:=aj (sk s i);rw[hj]at CA hbad nu⊢;have HN:Hid (∀w,w.cell? (az 7 0)=some (bp eb)->Cw 46 #[Iq (j:Int)] w fun e w'=>e=Rw (.iface 124 (.agg #[Iq (j:Int),.iface 365 (.pointer (some eb))]))/\w'=w):=fun w he=>fI _ w eb he;have HE:=qH<|he;have dD:=iK aU s j nu;have OL:=iJ aU s j;obtain⟨k,hk⟩:=aj (run aU s j);rw[hk]at CA hbad dD OL;have hz:=rQ s j k dD;have h0:j<k->∀hh,(s.extract j k)[0]'hh=s[j]'(by omega):=fun tA hh=>by have:=ext_get s j k 0 (by omega) dD;rw[dN (by grind),Fh]at this;exact this
 have SI:∀hh:j<s.size,dh s j=(s[j]'hh).toNat:=fun hh=>ea hh;obtain⟨t,ht⟩:=aj (s.extract j k);rw[ht]at CA hz;have hv:t.size=0\/6<t.size\/(1<t.size/\∃hh:0<t.size,(t[0]'hh).toNat=48):=by
  rcases hbad with h|h|⟨h,h2⟩;·omega
  ·omega
  ·grind
 clear h hj he hbad h0 SI hk ht hz dD OL nu;by_cases eK:t.size=0
 ·have et:t=⟨#[]⟩:=by apply l8;exact Rx eK
  subst et;clear hv eK;go_enter func167,ntmps167;go_wp2_with fail;refine CA.mono ?_;rintro e w1 ⟨rfl,h1,g1⟩;have HG:=qH<|g1;have HE1:=qH<|g1.cell HE (by simpa using hg);clear h1 g1 CA;go_wp2_with fail;refine(HN _ HE1).mono ?_;rintro e w2 ⟨rfl,hw⟩;obtain rfl:=hw.symm;go_wp2;exact⟨rfl,rfl,HG⟩
 ·have bG:t≠⟨#[]⟩:=fun hh=>eK (by rw[hh];rfl);have eq0:=decide_eq_false bG;have h1:1<t.size:=by omega
  have tK:(1:Int)<(t.size:Int):=by omega
  have Zp:(0:Int)<(t.size:Int):=by omega
  have h0n:0<t.size:=by omega
  obtain⟨x,hx⟩:=aj ((t[0]'h0n).toNat);have CZ:6<t.size\/x=48:=by
   rcases hv with h|h|⟨h,hh,h2⟩;·omega
   ·omega
   ·omega
  clear hv eK;have ed:=decide_eq_true tK;by_cases Tt:x=48
  ·subst Tt;clear CZ;by_cases h6:6<t.size;focus
    have Of:(6:Int)<(t.size:Int):=by omega
    have e6:=decide_eq_true Of
   rotate_left;focus
    have Of:¬(6:Int)<(t.size:Int):=by omega
    have e6:=decide_eq_false Of
   rotate_left;all_goals go_enter func167,ntmps167;go_wp2_with fail;refine CA.mono ?_;rintro e w1 ⟨rfl,h1,g1⟩;have HG:=qH<|g1;have US:w1.cell? (az 7 0)=some (.iface 365 (.pointer (some eb))):=g1.cell HE (by grind);clear h1 g1 CA;go_wp2;all_goals exact⟨rfl,rfl,HG⟩
  ·have ex:((x:Int)==48)=false:=by simp;omega
   have h6:6<t.size:=by omega
   have Of:(6:Int)<(t.size:Int):=by omega
   have e6:=decide_eq_true Of;clear CZ Tt;go_enter func167,ntmps167;go_wp2_with fail;refine CA.mono ?_;rintro e w1 ⟨rfl,h1,g1⟩;have HG:=qH<|g1;have US:w1.cell? (az 7 0)=some (.iface 365 (.pointer (some eb))):=g1.cell HE (by grind);clear h1 g1 CA;go_wp2;all_goals exact⟨rfl,rfl,HG⟩
def NJ(w w':World)(e:Ending)(rb:Nat)(s:ByteArray)(av nv fv:Value)(eb:Addr)(r:Except Nat (Nat×List UInt8)):Prop:=
 w.grownBy w' (some rb)/\match r with
  |.ok (p,t)=>e=Rw (.string ⟨t.toArray⟩)/\PR w' rb s p av nv fv
  |.error b=>e=.panicked [{v:=cR (b:Int) (bp eb),recovered:=false}]
theorem oO{A B C:World}{b}(h:A.grownBy B (some b))(k:Below A.heap.size B C):A.grownBy C (some b):=
 ⟨k.os.trans h.os,k.tape.trans h.tape,k.output.trans h.output,aT h.size k.size,fun i hi hn=>(k.block i hi).trans (h.block i hi hn)⟩
theorem T0{s}{f p}{acc}(h:dh s p=256):qF s (f+1) p acc=.error p:=by grind[qF]
theorem Lm{s}{f p}{acc}(h:dh s p=34):qF s (f+1) p acc=.ok (p+1,acc):=by grind[qF]
theorem T3{s}{f p c}{acc}(h:dh s p=92)(hc:mp (dh s (p+1))=some c):qF s (f+1) p acc=qF s f (p+2) (acc++[c.toUInt8]):=by
 conv=>lhs;unfold qF
 rw[if_neg (by omega),if_neg (by omega),if_pos h];unfold mp at hc;by_cases h1:dh s (p+1)=34;·grind
 ·rw[if_neg h1]at hc;by_cases h2:dh s (p+1)=92;·grind
  ·rw[if_neg h2]at hc;by_cases h3:dh s (p+1)=110;·rw[if_pos h3]at hc;cases hc;grind
   grind
theorem Ll{s}{f p}{acc}(h:dh s p=92)(hc:mp (dh s (p+1))=none):qF s (f+1) p acc=.error (p+1):=by grind[qF,mp,dh]
theorem Po{s}{f p}{acc}(h0:dh s p≠256)(h1:dh s p≠34)(h2:dh s p≠92):qF s (f+1) p acc=qF s f (p+1) (acc++[(dh s p).toUInt8]):=by grind[qF]
theorem rK  acc  (c:Nat) (hc:c<256):Lib.byteCells (acc++[c.toUInt8])=Lib.byteCells acc++[.int .u8 (c:Int)]:=by simp[Lib.byteCells];omega
theorem kY(rb:Nat)(s:ByteArray)(i:Nat)(av nv fv:Value)(eb:Addr)(w:World)(h:PR w rb s i av nv fv)(hs:s.size<=1073741824)(hi:i<=s.size)(hg:7≠rb)(he:w.cell? (az 7 0)=some (bp eb)):
 Cw 89 #[Pq rb] w fun e w'=>NJ w w' e rb s av nv fv eb (ee s i):=by
 have HE:=qH<|he;by_cases bY:aM s i 34=true
 ·have CX:Hid (Cw 90 #[Pq rb,.int .u8 34] w fun e w'=>e=Rw (.tuple #[])/\PR w' rb s (ao s i 34) av nv fv/\w.grownBy w' (some rb)):=iw rb s i av nv fv 34 w h (by omega) hi (by omega) bY;have hq:ee s i=qF s (s.size+2) (ao s i 34) []:=by unfold ee;rw[if_pos bY]
  have iU:ao s i 34<=s.size:=by
   unfold aM at bY;have h1:dh s (sk s i)=34:=by simpa using bY
   have h2:sk s i<s.size:=by
    by_cases hh:sk s i<s.size;·exact hh
    ·grind[dO]
   unfold ao;rw[if_pos h1];omega
  rw[hq];obtain⟨j,hj⟩:=aj (ao s i 34);rw[hj]at CX iU⊢;obtain⟨R,hR⟩:=aj (qF s (s.size+2) j []);rw[hR];have HR0:=qH<|hR;clear h he bY hq hj hR;go_enter func89,ntmps89;go_wp2_with fail;refine CX.mono ?_;rintro e w1 ⟨rfl,h1,g1⟩;have nx:=h1.lt;have HR:=qH<|h1;have HG1:=qH<|g1;clear h1 g1 CX;go_wp2;go_loopw[4] (fun _ wr=>∃(p f:Nat) (acc:List UInt8),p<=s.size/\acc.length<=p/\s.size<f+p/\Hid (qF s f p acc=R)/\Hid (PR wr rb s p av nv fv)/\Hid (Lib.IsBuilderF 226 5 w1.heap.size w1.heap.size (Lib.byteCells acc) wr)/\Hid (w1.grownBy wr (some rb))) (fun _ wr=>s.size-prI wr rb);case atStart=>exact⟨j,s.size+2,[],iU,bc _,by omega,HR0,HR.below ((ag _ _).alloc (ai _) _),Lib.IsBuilderF.of (Lib.fresh_isBuilder 226 5 w1),eF ((ag _ _).alloc (ai _) _)⟩
  case round=>
   obtain⟨p,f0,acc,hp,hl,hf,HQ,HS,HB,HG⟩:=hrel;obtain⟨f,rfl⟩:∃f,f0=f+1:=⟨f0-1,by omega⟩;have HEr:=qH<|HG.cell (HG1.cell HE (by simpa using hg)) (by simpa using hg);have qq:=qH<|HS.prI;by_cases zbR:p=s.size
   ·have CB:=qH<|readByte_no rb s p av nv fv eb wr HS zbR HEr;have lL:Hid (R=.error p):=by show _=_;rw[<-HQ.out];exact T0 (dO (by omega))
    go_wp2_with fail;refine CB.mono ?_;rintro e w2 ⟨rfl,g2⟩;refine⟨rfl,?_⟩;rw[lL.out];exact⟨gr_trans HG1 (gr_trans HG g2),rfl⟩
   ·have hlt:p<s.size:=by omega
    have tN:=vZ hlt;have CB:=qH<|readByte_yes rb s p av nv fv wr HS (by omega) hlt;obtain⟨x,hx⟩:=aj (dh s p);have HX:=qH<|hx;rw[hx]at CB tN;clear hx;by_cases WP:x=34
    ·have lL:Hid (R=.ok (p+1,acc)):=by show _=_;rw[<-HQ.out];exact Lm (by rw[HX.out,WP])
     subst WP;go_wp2_with fail;refine CB.mono ?_;rintro e w2 ⟨rfl,h2,g2⟩;have HR2:=qH<|h2;have fU:=qH<|gr_trans HG g2;have HB2:=qH<|isBuilt_grown HB g2 nx;clear h2 g2 CB;go_wp2_with(go_at_call 130;refine(AP w1.heap.size w1.heap.size acc w2 HB2 fU.size).mono ?_;rintro e w3 ⟨rfl,xO,uG,tP⟩);go_ret;show NJ _ _ _ _ _ _ _ _ _ _;rw[lL.out];exact⟨gr_trans HG1 (oO fU uG),rfl,HR2.belowB uG nx⟩
    ·have e34:((x:Int)==34)=false:=by simp;omega
     by_cases Zr:x=92
     ·have R6:Hid (dh s p=92):=by show _=_;rw[HX.out,Zr]
      subst Zr;clear WP;have hac:(Lib.byteCells acc).length+1<=140737488355328:=by simp[Lib.byteCells];omega
      go_wp2_with fail;refine CB.mono ?_;rintro e w2 ⟨rfl,h2,g2⟩;have HR2:=qH<|h2;have fU:=qH<|gr_trans HG g2;have HB2:=qH<|isBuilt_grown HB g2 nx;have HE2:=qH<|g2.cell HEr (by simpa using hg);clear h2 g2 CB;by_cases Xo:p+1=s.size
      ·have lL:Hid (R=.error (p+1)):=by show _=_;rw[<-HQ.out];exact Ll R6 (by rw[dO (by omega)];rfl)
       go_wp2_with(go_at_call 132;refine(qL rb s (p+1) av nv fv eb w2 HR2 Xo HE2).mono ?_;rintro e w3 ⟨rfl,g3⟩);refine⟨rfl,?_⟩;rw[lL.out];exact⟨gr_trans HG1 (gr_trans fU g3),by grind⟩
      ·cases OE:mp (dh s (p+1))with
       |none=>
        have lL:Hid (R=.error (p+1)):=by show _=_;rw[<-HQ.out];exact Ll R6 OE
        go_wp2_with(go_at_call 132;refine(sO rb s (p+1) av nv fv eb w2 HR2 (by omega) (by omega) OE hg HE2).mono ?_;rintro e w3 ⟨rfl,g3⟩);refine⟨rfl,?_⟩;rw[lL.out];exact⟨gr_trans HG1 (gr_trans fU g3),rfl⟩
       |some c=>
        have rX:c<256:=by
         unfold mp at OE;split at OE;·grind
         ·grind
        have VR:Hid (qF s f (p+2) (acc++[c.toUInt8])=R):=by show _=_;rw[<-T3 R6.out OE];exact HQ
        have CE:=qH<|readEscaped_yes rb s (p+1) av nv fv w2 HR2 (by omega) (by omega) c OE;clear OE;go_wp2_with fail;refine CE.mono ?_;rintro e w3 ⟨rfl,h3,g3⟩;have HR3:Hid (PR w3 rb s (p+2) av nv fv):=h3;have BK:=qH<|gr_trans fU g3;have pF:=qH<|isBuilt_grown HB2 g3 nx;clear h3 g3 CE;go_wp2_with(go_at_call 131;refine(l5 w1.heap.size w1.heap.size (Lib.byteCells acc) (c:Int) w3 pF hac BK.size).mono ?_;rintro e w4 ⟨rfl,hi4,Ih,hk4⟩);have HR4:=qH<|HR3.belowB Ih nx;go_roundw;case rel=>exact⟨p+2,f,acc++[c.toUInt8],by omega,by simp;omega,by omega,VR,HR4,by show Lib.IsBuilderF _ _ _ _ _ _;rw[rK acc c rX];exact .inr hi4,oO BK Ih⟩
        case measure=>rw[HR4.prI,qq.out];omega
     ·have e92:((x:Int)==92)=false:=by simp;omega
      have VR:Hid (qF s f (p+1) (acc++[x.toUInt8])=R):=by show _=_;have:=Po (s:=s) (f:=f) (p:=p) (acc:=acc) (by rw[HX.out];omega) (by rw[HX.out];exact WP) (by rw[HX.out];exact Zr);rw[HX.out]at this;rw[<-this];exact HQ
      have hac:(Lib.byteCells acc).length+1<=140737488355328:=by simp[Lib.byteCells];omega
      clear WP Zr;go_wp2_with fail;refine CB.mono ?_;rintro e w2 ⟨rfl,h2,g2⟩;have HR2:=qH<|h2;have fU:=qH<|gr_trans HG g2;have HB2:=qH<|isBuilt_grown HB g2 nx;clear h2 g2 CB;go_wp2_with(go_at_call 131;refine(l5 w1.heap.size w1.heap.size (Lib.byteCells acc) (x:Int) w2 HB2 hac fU.size).mono ?_;rintro e w3 ⟨rfl,xO,uG,tP⟩);have HR3:=qH<|HR2.belowB uG nx;go_roundw;case rel=>exact⟨p+1,f,acc++[x.toUInt8],by omega,by simp;omega,by omega,VR,HR3,by show Lib.IsBuilderF _ _ _ _ _ _;rw[rK acc x tN];exact .inr xO,oO fU uG⟩
      case measure=>rw[HR3.prI,qq.out];omega
 ·have Xd:aM s i 34=false:=by simpa using bY
  have CX:Hid (Cw 90 #[Pq rb,.int .u8 34] w fun e w'=>e=.panicked [{v:=cR (sk s i:Int) (bp eb),recovered:=false}]/\w.grownBy w' (some rb)):=jA rb s i av nv fv eb 34 w h (by omega) hi (by omega) Xd hg he;have HQ:Hid (ee s i=.error (sk s i)):=by show _=_;unfold ee;rw[if_neg bY]
  clear h he bY Xd;go_enter func89,ntmps89;go_wp2_with fail;refine CX.mono ?_;rintro e w1 ⟨rfl,g1⟩;refine⟨rfl,?_⟩;rw[HQ.out];exact⟨g1,rfl⟩
