import Derived.Test.YtiaimhjebnobnaaGreatDoorQ04
import Derived.Test.YtiaimhjebnobnaaGreatDoorQ18
set_option linter.all false
set_option maxRecDepth 100000
set_option maxHeartbeats 16000000
namespace Go.Proofs.YtiaimhjebnobnaaGreatDoor
open Go.RowKit Go.Proofs.Tryz
theorem sa{T e}{B b rb}{p}{bs}{w w'}(h:Lib.BuilderAtF T e B b p bs w)(hg:w.grownBy w' (some rb))(hr:rb<B):Lib.BuilderAtF T e B b p bs w':=by
 obtain⟨hB,v,hb,bu,bZ⟩:=h;have lt:∀{k o},w.heap[k]?=some o->k<w.heap.size:=fun{k o} hk=>(aM.1 hk).1;refine⟨hB,v,(hg.block b (lt hb) (by grind)).trans hb,⟨bu.1,?_⟩,bZ⟩;rcases bu.2 with hn|⟨g,cap,ik,fz,hv,hbg,oW,rest⟩;·grind
 ·exact .inr ⟨g,cap,ik,fz,hv,hbg,(hg.block g (lt oW) (by grind)).trans oW,rest⟩
theorem isBuilt_grown{T e}{B b rb}{bs}{w w'}(h:Lib.IsBuilderF T e B b bs w)(hg:w.grownBy w' (some rb))(hr:rb<B):Lib.IsBuilderF T e B b bs w':=
 h.elim (fun x=>.inl (sa x hg hr)) (fun x=>.inr (sa x hg hr))
theorem PR.belowB{W W'}{rb B}{s}{i}{av nv fv}(h:PR W rb s i av nv fv)(hb:Below B W W')(hr:rb<B):PR W' rb s i av nv fv:=
 have k:∀j v,W.cell? (az rb j)=some v->W'.cell? (az rb j)=some v:=fun j v e=>(hb.cell (p:=(az rb j)) hr).trans e
 ⟨zz008 h.lt hb.size,k _ _ h.c0,k _ _ h.c1,k _ _ h.c2,k _ _ h.c3,k _ _ h.c4,fun j=>(hb.frozen (p:=(az rb j)) hr).trans (h.fz j)⟩
theorem tM(rb:Nat)(s:ByteArray)(i:Nat)(av nv fv:Value)(eb:Addr)(w:World)(h:PR w rb s i av nv fv)(hi:i=s.size)(he:w.cell? (az 7 0)=some (bH eb)):
 Cw 182 #[Pq rb] w fun e w'=>e=.panicked [{v:=dw (i:Int) (bH eb),recovered:=false}]/\w.grownBy w' (some rb):=by have CB:=qH<|readByte_no rb s i av nv fv eb w h hi he;clear h he hi;go_enter func182,ntmps182;go_wp2_with fail;refine CB.mono ?_;rintro e w1 ⟨rfl,g1⟩;exact⟨rfl,rfl,g1⟩
theorem ext_get(s:ByteArray)(j k c:Nat)(h:j+c<k)(hk:k<=s.size):(s.extract j k).data.toList[c]?=some (s[j+c]'(by omega)):=by have hk':k<=s.data.size:=hk;rw[ByteArray.data_extract,RG,Array.getElem?_extract];rw[if_pos (by omega),XK (by omega)];rfl
theorem uX(s:ByteArray)  j k  (hk:k<=s.size):(s.extract j k).size=k-j:=by simp_all
theorem Oo  s   j k  (hk:k<=s.size) (h6:k-j<=6) (hd:∀t,j+t<k->48<=dL s (j+t)/\dL s (j+t)<=57):
 ∀c,c<=k-j->Lib.decFrom 0 ((s.extract j k).data.toList.take c)=some (dv s j c).toNat
 |0,_=>by simp[Lib.decFrom,dv]
 |c+1,hc=>by
  have ih:=Oo s j k hk h6 hd c (by omega);have hb:=hd c (by omega);have hbd:=(uU s j c (fun t ht=>hd t (by omega))).1;have gA:j+c<s.size:=by omega
  have e1:=fh gA;have e:=Lib.decFrom_take (s.extract j k).data.toList c 0 _ _ (dL s (j+c)-48) ih (ext_get s j k c (by omega) hk) (by unfold Lib.digitVal;grind);grind[dv]
theorem atoi_dv  s   j k  (vn:j<k) (hk:k<=s.size) (h6:k-j<=6) (hd:∀t,j+t<k->48<=dL s (j+t)/\dL s (j+t)<=57):
 Lib.atoi (s.extract j k).data.toList=some (dv s j (k-j)):=by
 have ef:=Oo s j k hk h6 hd (k-j) (ai _);have bY:(s.extract j k).data.toList.length=k-j:=by rw[fV];exact uX s j k hk
 rw[gV (by omega)]at ef;have h0:=ext_get s j k 0 (by omega) hk;have hb:=hd 0 (by omega);have e1:=fh (s:=s) (i:=j+0) (by omega);have hbd:=(uU s j (k-j) (fun t ht=>hd t (by omega))).1;generalize(s.extract j k).data.toList=l at ef h0 bY;match l,h0 with
 |b::r,h0=>
  simp only[RK,JL]at h0;have Ft:b.toNat=dL s (j+0):=by rw[e1,h0]
  have n1:(b==45)=false:=by apply beq_eq_false_iff_ne.mpr;intro hh;rw[hh]at Ft;simp at Ft hb;omega
  have n2:(b==43)=false:=by apply beq_eq_false_iff_ne.mpr;intro hh;rw[hh]at Ft;simp at Ft hb;omega
  unfold Lib.atoi;dsimp only;rw[n1,n2];unfold Lib.decNat;grind
theorem F4  s   j  :∀t,j+t<run aW s j->48<=dL s (j+t)/\dL s (j+t)<=57:=fun t ht=>by have:=qA (p:=aW) s (s.size-j) j t ht;grind[aW]
theorem readNumber_no(rb:Nat)(s:ByteArray)(i:Nat)(av nv fv:Value)(eb:Addr)(w:World)(h:PR w rb s i av nv fv)(hs:s.size<=1099511627776)(hi:i<=s.size)(hg:7≠rb)(he:w.cell? (az 7 0)=some (bH eb))
 (hbad:run aW s (sk s i)=sk s i\/sk s i+6<run aW s (sk s i)\/(sk s i+1<run aW s (sk s i)/\dL s (sk s i)=48)):
 Cw 209 #[Pq rb] w fun e w'=>e=.panicked [{v:=dw (sk s i:Int) (bH eb),recovered:=false}]/\w.grownBy w' (some rb):=by
 have CA:=qH<|digits_any rb s i av nv fv w h hs hi;have oe:=fw s i hi;obtain⟨j,hj⟩:=ag (sk s i);rw[hj]at CA hbad oe⊢;have HN:Hid (∀w,w.cell? (az 7 0)=some (bH eb)->Cw 67 #[Iq (j:Int)] w fun e w'=>e=Rw (.iface 132 (.agg #[Iq (j:Int),.iface 362 (.pointer (some eb))]))/\w'=w):=fun w he=>gM _ w eb he;have HE:=qH<|he;have dj:=jN aW s j oe;have Fw:=jM aW s j;obtain⟨k,hk⟩:=ag (run aW s j);rw[hk]at CA hbad dj Fw;have hz:=uX s j k dj;have h0:j<k->∀hh,(s.extract j k)[0]'hh=s[j]'(by omega):=fun vn hh=>by have:=ext_get s j k 0 (by omega) dj;rw[eR (by grind),JL]at this;exact this
 have YT:∀hh:j<s.size,dL s j=(s[j]'hh).toNat:=fun hh=>fh hh;obtain⟨t,ht⟩:=ag (s.extract j k);rw[ht]at CA hz;have hv:t.size=0\/6<t.size\/(1<t.size/\∃hh:0<t.size,(t[0]'hh).toNat=48):=by
  rcases hbad with h|h|⟨h,h2⟩;·omega
  ·omega
  ·grind
 clear h hj he hbad h0 YT hk ht hz dj Fw oe;by_cases eG:t.size=0
 ·have et:t=⟨#[]⟩:=by apply nh;exact XL eG
  subst et;clear hv eG;go_enter func209,ntmps209;go_wp2_with fail;refine CA.mono ?_;rintro e w1 ⟨rfl,h1,g1⟩;have HG:=qH<|g1;have HE1:=qH<|g1.cell HE (by simpa using hg);clear h1 g1 CA;go_wp2_with fail;refine(HN _ HE1).mono ?_;rintro e w2 ⟨rfl,hw⟩;obtain rfl:=hw.symm;go_wp2;exact⟨rfl,rfl,HG⟩
 ·have bZ:t≠⟨#[]⟩:=fun hh=>eG (by rw[hh];rfl);have eq0:=decide_eq_false bZ;have h1:1<t.size:=by omega
  have xE:(1:Int)<(t.size:Int):=by omega
  have YF:(0:Int)<(t.size:Int):=by omega
  have h0n:0<t.size:=by omega
  obtain⟨x,hx⟩:=ag ((t[0]'h0n).toNat);have sB:6<t.size\/x=48:=by
   rcases hv with h|h|⟨h,hh,h2⟩;·omega
   ·omega
   ·omega
  clear hv eG;have ed:=decide_eq_true xE;by_cases Zs:x=48
  ·subst Zs;clear sB;by_cases h6:6<t.size;focus
    have T4:(6:Int)<(t.size:Int):=by omega
    have e6:=decide_eq_true T4
   rotate_left;focus
    have T4:¬(6:Int)<(t.size:Int):=by omega
    have e6:=decide_eq_false T4
   rotate_left;all_goals go_enter func209,ntmps209;go_wp2_with fail;refine CA.mono ?_;rintro e w1 ⟨rfl,h1,g1⟩;have HG:=qH<|g1;have _3:w1.cell? (az 7 0)=some (.iface 362 (.pointer (some eb))):=g1.cell HE (by grind);clear h1 g1 CA;go_wp2;all_goals exact⟨rfl,rfl,HG⟩
  ·have ex:((x:Int)==48)=false:=by simp;omega
   have h6:6<t.size:=by omega
   have T4:(6:Int)<(t.size:Int):=by omega
   have e6:=decide_eq_true T4;clear sB Zs;go_enter func209,ntmps209;go_wp2_with fail;refine CA.mono ?_;rintro e w1 ⟨rfl,h1,g1⟩;have HG:=qH<|g1;have _3:w1.cell? (az 7 0)=some (.iface 362 (.pointer (some eb))):=g1.cell HE (by grind);clear h1 g1 CA;go_wp2;all_goals exact⟨rfl,rfl,HG⟩
def Tv(w w':World)(e:Ending)(rb:Nat)(s:ByteArray)(av nv fv:Value)(eb:Addr)(r:Except Nat (Nat×List UInt8)):Prop:=
 w.grownBy w' (some rb)/\match r with
  |.ok (p,t)=>e=Rw (.string ⟨t.toArray⟩)/\PR w' rb s p av nv fv
  |.error b=>e=.panicked [{v:=dw (b:Int) (bH eb),recovered:=false}]
theorem rf{A B C:World}{b}(h:A.grownBy B (some b))(k:Below A.heap.size B C):A.grownBy C (some b):=
 ⟨k.os.trans h.os,k.tape.trans h.tape,k.output.trans h.output,aO h.size k.size,fun i hi hn=>(k.block i hi).trans (h.block i hi hn)⟩
theorem Z6{s}{f p}{acc}(h:dL s p=256):qF s (f+1) p acc=.error p:=by grind[qF]
theorem QD{s}{f p}{acc}(h:dL s p=34):qF s (f+1) p acc=.ok (p+1,acc):=by grind[qF]
theorem Z7{s}{f p c}{acc}(h:dL s p=92)(hc:oU (dL s (p+1))=some c):qF s (f+1) p acc=qF s f (p+2) (acc++[c.toUInt8]):=by
 conv=>lhs;unfold qF
 rw[if_neg (by omega),if_neg (by omega),if_pos h];unfold oU at hc;by_cases h1:dL s (p+1)=34;·grind
 ·rw[if_neg h1]at hc;by_cases h2:dL s (p+1)=92;·grind
  ·rw[if_neg h2]at hc;by_cases h3:dL s (p+1)=110;·rw[if_pos h3]at hc;cases hc;grind
   grind
theorem QB{s}{f p}{acc}(h:dL s p=92)(hc:oU (dL s (p+1))=none):qF s (f+1) p acc=.error (p+1):=by grind[qF,oU,dL]
theorem Vq{s}{f p}{acc}(h0:dL s p≠256)(h1:dL s p≠34)(h2:dL s p≠92):qF s (f+1) p acc=qF s f (p+1) (acc++[(dL s p).toUInt8]):=by grind[qF]
theorem uO  acc  (c:Nat) (hc:c<256):Lib.byteCells (acc++[c.toUInt8])=Lib.byteCells acc++[.int .u8 (c:Int)]:=by simp[Lib.byteCells];omega
theorem m7(rb:Nat)(s:ByteArray)(i:Nat)(av nv fv:Value)(eb:Addr)(w:World)(h:PR w rb s i av nv fv)(hs:s.size<=1073741824)(hi:i<=s.size)(hg:7≠rb)(he:w.cell? (az 7 0)=some (bH eb)):
 Cw 139 #[Pq rb] w fun e w'=>Tv w w' e rb s av nv fv eb (fi s i):=by
 have HE:=qH<|he;by_cases b9:aT s i 34=true
 ·have CX:Hid (Cw 140 #[Pq rb,.int .u8 34] w fun e w'=>e=Rw (.tuple #[])/\PR w' rb s (aA s i 34) av nv fv/\w.grownBy w' (some rb)):=jB rb s i av nv fv 34 w h (by omega) hi (by omega) b9;have hq:fi s i=qF s (s.size+2) (aA s i 34) []:=by unfold fi;rw[if_pos b9]
  have kV:aA s i 34<=s.size:=by
   unfold aT at b9;have h1:dL s (sk s i)=34:=by simpa using b9
   have h2:sk s i<s.size:=by
    by_cases hh:sk s i<s.size;·exact hh
    ·grind[eT]
   unfold aA;rw[if_pos h1];omega
  rw[hq];obtain⟨j,hj⟩:=ag (aA s i 34);rw[hj]at CX kV⊢;obtain⟨R,hR⟩:=ag (qF s (s.size+2) j []);rw[hR];have HR0:=qH<|hR;clear h he b9 hq hj hR;go_enter func139,ntmps139;go_wp2_with fail;refine CX.mono ?_;rintro e w1 ⟨rfl,h1,g1⟩;have tG:=h1.lt;have HR:=qH<|h1;have HG1:=qH<|g1;clear h1 g1 CX;go_wp2;go_loopw[4] (fun _ wr=>∃(p f:Nat) (acc:List UInt8),p<=s.size/\acc.length<=p/\s.size<f+p/\Hid (qF s f p acc=R)/\Hid (PR wr rb s p av nv fv)/\Hid (Lib.IsBuilderF 221 5 w1.heap.size w1.heap.size (Lib.byteCells acc) wr)/\Hid (w1.grownBy wr (some rb))) (fun _ wr=>s.size-prI wr rb);case atStart=>exact⟨j,s.size+2,[],kV,aZ _,by omega,HR0,HR.below ((aj _ _).alloc (ai _) _),Lib.IsBuilderF.of (Lib.fresh_isBuilder 221 5 w1),fG ((aj _ _).alloc (ai _) _)⟩
  case round=>
   obtain⟨p,f0,acc,hp,hl,hf,HQ,HS,HB,HG⟩:=hrel;obtain⟨f,rfl⟩:∃f,f0=f+1:=⟨f0-1,by omega⟩;have HEr:=qH<|HG.cell (HG1.cell HE (by simpa using hg)) (by simpa using hg);have xe:=qH<|HS.prI;by_cases zhV:p=s.size
   ·have CB:=qH<|readByte_no rb s p av nv fv eb wr HS zhV HEr;have lO:Hid (R=.error p):=by show _=_;rw[<-HQ.out];exact Z6 (eT (by omega))
    go_wp2_with fail;refine CB.mono ?_;rintro e w2 ⟨rfl,g2⟩;refine⟨rfl,?_⟩;rw[lO.out];exact⟨gr_trans HG1 (gr_trans HG g2),rfl⟩
   ·have hlt:p<s.size:=by omega
    have hbl:=zM hlt;have CB:=qH<|readByte_yes rb s p av nv fv wr HS (by omega) hlt;obtain⟨x,hx⟩:=ag (dL s p);have HX:=qH<|hx;rw[hx]at CB hbl;clear hx;by_cases T3:x=34
    ·have lO:Hid (R=.ok (p+1,acc)):=by show _=_;rw[<-HQ.out];exact QD (by rw[HX.out,T3])
     subst T3;go_wp2_with fail;refine CB.mono ?_;rintro e w2 ⟨rfl,h2,g2⟩;have HR2:=qH<|h2;have gX:=qH<|gr_trans HG g2;have HB2:=qH<|isBuilt_grown HB g2 tG;clear h2 g2 CB;go_wp2_with(go_at_call 150;refine(EQ w1.heap.size w1.heap.size acc w2 HB2 gX.size).mono ?_;rintro e w3 ⟨rfl,BF,qR,xF⟩);go_ret;show Tv _ _ _ _ _ _ _ _ _ _;rw[lO.out];exact⟨gr_trans HG1 (rf gX qR),rfl,HR2.belowB qR tG⟩
    ·have e34:((x:Int)==34)=false:=by simp;omega
     by_cases h92:x=92
     ·have Yg:Hid (dL s p=92):=by show _=_;rw[HX.out,h92]
      subst h92;clear T3;have hac:(Lib.byteCells acc).length+1<=140737488355328:=by simp[Lib.byteCells];omega
      go_wp2_with fail;refine CB.mono ?_;rintro e w2 ⟨rfl,h2,g2⟩;have HR2:=qH<|h2;have gX:=qH<|gr_trans HG g2;have HB2:=qH<|isBuilt_grown HB g2 tG;have HE2:=qH<|g2.cell HEr (by simpa using hg);clear h2 g2 CB;by_cases zcv:p+1=s.size
      ·have lO:Hid (R=.error (p+1)):=by show _=_;rw[<-HQ.out];exact QB Yg (by rw[eT (by omega)];rfl)
       go_wp2_with(go_at_call 182;refine(tM rb s (p+1) av nv fv eb w2 HR2 zcv HE2).mono ?_;rintro e w3 ⟨rfl,g3⟩);refine⟨rfl,?_⟩;rw[lO.out];exact⟨gr_trans HG1 (gr_trans gX g3),by grind⟩
      ·cases Uo:oU (dL s (p+1))with
       |none=>
        have lO:Hid (R=.error (p+1)):=by show _=_;rw[<-HQ.out];exact QB Yg Uo
        go_wp2_with(go_at_call 182;refine(vU rb s (p+1) av nv fv eb w2 HR2 (by omega) (by omega) Uo hg HE2).mono ?_;rintro e w3 ⟨rfl,g3⟩);refine⟨rfl,?_⟩;rw[lO.out];exact⟨gr_trans HG1 (gr_trans gX g3),rfl⟩
       |some c=>
        have vh:c<256:=by
         unfold oU at Uo;split at Uo;·grind
         ·grind
        have HQ2:Hid (qF s f (p+2) (acc++[c.toUInt8])=R):=by show _=_;rw[<-Z7 Yg.out Uo];exact HQ
        have CE:=qH<|readEscaped_yes rb s (p+1) av nv fv w2 HR2 (by omega) (by omega) c Uo;clear Uo;go_wp2_with fail;refine CE.mono ?_;rintro e w3 ⟨rfl,h3,g3⟩;have HR3:Hid (PR w3 rb s (p+2) av nv fv):=h3;have Fj:=qH<|gr_trans gX g3;have HB3:=qH<|isBuilt_grown HB2 g3 tG;clear h3 g3 CE;go_wp2_with(go_at_call 181;refine(oI w1.heap.size w1.heap.size (Lib.byteCells acc) (c:Int) w3 HB3 hac Fj.size).mono ?_;rintro e w4 ⟨rfl,hi4,MI,hk4⟩);have HR4:=qH<|HR3.belowB MI tG;go_roundw;case rel=>exact⟨p+2,f,acc++[c.toUInt8],by omega,by simp;omega,by omega,HQ2,HR4,by show Lib.IsBuilderF _ _ _ _ _ _;rw[uO acc c vh];exact .inr hi4,rf Fj MI⟩
        case measure=>rw[HR4.prI,xe.out];omega
     ·have e92:((x:Int)==92)=false:=by simp;omega
      have HQ2:Hid (qF s f (p+1) (acc++[x.toUInt8])=R):=by show _=_;have:=Vq (s:=s) (f:=f) (p:=p) (acc:=acc) (by rw[HX.out];omega) (by rw[HX.out];exact T3) (by rw[HX.out];exact h92);rw[HX.out]at this;rw[<-this];exact HQ
      have hac:(Lib.byteCells acc).length+1<=140737488355328:=by simp[Lib.byteCells];omega
      clear T3 h92;go_wp2_with fail;refine CB.mono ?_;rintro e w2 ⟨rfl,h2,g2⟩;have HR2:=qH<|h2;have gX:=qH<|gr_trans HG g2;have HB2:=qH<|isBuilt_grown HB g2 tG;clear h2 g2 CB;go_wp2_with(go_at_call 181;refine(oI w1.heap.size w1.heap.size (Lib.byteCells acc) (x:Int) w2 HB2 hac gX.size).mono ?_;rintro e w3 ⟨rfl,BF,qR,xF⟩);have HR3:=qH<|HR2.belowB qR tG;go_roundw;case rel=>exact⟨p+1,f,acc++[x.toUInt8],by omega,by simp;omega,by omega,HQ2,HR3,by show Lib.IsBuilderF _ _ _ _ _ _;rw[uO acc x hbl];exact .inr BF,rf gX qR⟩
      case measure=>rw[HR3.prI,xe.out];omega
 ·have zcf:aT s i 34=false:=by simpa using b9
  have CX:Hid (Cw 140 #[Pq rb,.int .u8 34] w fun e w'=>e=.panicked [{v:=dw (sk s i:Int) (bH eb),recovered:=false}]/\w.grownBy w' (some rb)):=kO rb s i av nv fv eb 34 w h (by omega) hi (by omega) zcf hg he;have HQ:Hid (fi s i=.error (sk s i)):=by show _=_;unfold fi;rw[if_neg b9]
  clear h he b9 zcf;go_enter func139,ntmps139;go_wp2_with fail;refine CX.mono ?_;rintro e w1 ⟨rfl,g1⟩;refine⟨rfl,?_⟩;rw[HQ.out];exact⟨g1,rfl⟩
