import Derived.Test.YtadhgppeafpdgaaGreatDoorQ03
import Derived.Test.YtadhgppeafpdgaaGreatDoorQ17
import Derived.Lib.AtoiErrMem
set_option linter.all false
set_option maxRecDepth 100000
set_option maxHeartbeats 16000000
namespace Go.Proofs.YtadhgppeafpdgaaGreatDoor
open Go.RowKit Go.Proofs.Tryz
theorem qY{T e}{B b rb}{p}{bs}{w w'}(h:Lib.BuilderAtF T e B b p bs w)(hg:w.grownBy w' (some rb))(hr:rb<B):Lib.BuilderAtF T e B b p bs w':=by
 obtain⟨hB,v,hb,bC,bj⟩:=h;have lt:∀{k o},w.heap[k]?=some o->k<w.heap.size:=fun{k o} hk=>(az.1 hk).1;refine⟨hB,v,(hg.block b (lt hb) (by grind)).trans hb,⟨bC.1,?_⟩,bj⟩;rcases bC.2 with hn|⟨g,cap,cM,fz,hv,hbg,rh,rest⟩;·grind
 ·exact .inr ⟨g,cap,cM,fz,hv,hbg,(hg.block g (lt rh) (by grind)).trans rh,rest⟩
theorem isBuilt_grown{T e}{B b rb}{bs}{w w'}(h:Lib.IsBuilderF T e B b bs w)(hg:w.grownBy w' (some rb))(hr:rb<B):Lib.IsBuilderF T e B b bs w':=
 h.elim (fun x=>.inl (qY x hg hr)) (fun x=>.inr (qY x hg hr))
theorem PR.belowB{W W'}{rb B}{s}{i}{av nv fv}(h:PR W rb s i av nv fv)(hb:Below B W W')(hr:rb<B):PR W' rb s i av nv fv:=
 have k:∀j v,W.cell? (aq rb j)=some v->W'.cell? (aq rb j)=some v:=fun j v e=>(hb.cell (p:=(aq rb j)) hr).trans e
 ⟨zz007 h.lt hb.size,k _ _ h.c0,k _ _ h.c1,k _ _ h.c2,k _ _ h.c3,k _ _ h.c4,fun j=>(hb.frozen (p:=(aq rb j)) hr).trans (h.fz j)⟩
theorem sC(rb:Nat)(s:ByteArray)(i:Nat)(av nv fv:Value)(eb:Addr)(w:World)(h:PR w rb s i av nv fv)(hi:i=s.size)(he:w.cell? (aq 9 0)=some (aT eb)):
 Cw 154 #[Pq rb] w fun e w'=>e=.panicked [{v:=cD (i:Int) (aT eb),recovered:=false}]/\w.grownBy w' (some rb):=by have CB:=qH<|readByte_no rb s i av nv fv eb w h hi he;clear h he hi;go_enter func154,ntmps154;go_wp2_with fail;refine CB.mono ?_;rintro e w1 ⟨rfl,g1⟩;exact⟨rfl,rfl,g1⟩
theorem ext_get(s:ByteArray)(j k c:Nat)(h:j+c<k)(hk:k<=s.size):(s.extract j k).data.toList[c]?=some (s[j+c]'(by omega)):=by have KB:k<=s.data.size:=hk;rw[ByteArray.data_extract,D8,Array.getElem?_extract];rw[if_pos (by omega),D7 (by omega)];rfl
theorem ue(s:ByteArray)  j k  (hk:k<=s.size):(s.extract j k).size=k-j:=by simp_all
theorem NX  s   j k  (hk:k<=s.size) (h6:k-j<=6) (hd:∀t,j+t<k->48<=dS s (j+t)/\dS s (j+t)<=57):
 ∀c,c<=k-j->Lib.decFrom 0 ((s.extract j k).data.toList.take c)=some (dv s j c).toNat
 |0,_=>by simp[Lib.decFrom,dv]
 |c+1,hc=>by
  have ih:=NX s j k hk h6 hd c (by omega);have hb:=hd c (by omega);have hbd:=(Bn s j c (fun t ht=>hd t (by omega))).1;have eU:j+c<s.size:=by omega
  have e1:=km eU;have e:=Lib.decFrom_take (s.extract j k).data.toList c 0 _ _ (dS s (j+c)-48) ih (ext_get s j k c (by omega) hk) (by unfold Lib.digitVal;grind);grind[dv]
theorem atoi_dv  s   j k  (xG:j<k) (hk:k<=s.size) (h6:k-j<=6) (hd:∀t,j+t<k->48<=dS s (j+t)/\dS s (j+t)<=57):
 Lib.atoi (s.extract j k).data.toList=some (dv s j (k-j)):=by
 have fU:=NX s j k hk h6 hd (k-j) (ae _);have aO:(s.extract j k).data.toList.length=k-j:=by rw[gc];exact ue s j k hk
 rw[im (by omega)]at fU;have h0:=ext_get s j k 0 (by omega) hk;have hb:=hd 0 (by omega);have e1:=km (s:=s) (i:=j+0) (by omega);have hbd:=(Bn s j (k-j) (fun t ht=>hd t (by omega))).1;generalize(s.extract j k).data.toList=l at fU h0 aO;match l,h0 with
 |b::r,h0=>
  simp only[Re,I5]at h0;have Ho:b.toNat=dS s (j+0):=by rw[e1,h0]
  have n1:(b==45)=false:=by apply beq_eq_false_iff_ne.mpr;intro hh;rw[hh]at Ho;simp at Ho hb;omega
  have n2:(b==43)=false:=by apply beq_eq_false_iff_ne.mpr;intro hh;rw[hh]at Ho;simp at Ho hb;omega
  unfold Lib.atoi;dsimp only;rw[n1,n2];unfold Lib.decNat;grind
theorem EP  s   j  :∀t,j+t<run aP s j->48<=dS s (j+t)/\dS s (j+t)<=57:=fun t ht=>by have:=tf (p:=aP) s (s.size-j) j t ht;grind[aP]
theorem readNumber_no(rb:Nat)(s:ByteArray)(i:Nat)(av nv fv:Value)(eb:Addr)(w:World)(h:PR w rb s i av nv fv)(hs:s.size<=1099511627776)(hi:i<=s.size)(hg:9≠rb)(he:w.cell? (aq 9 0)=some (aT eb))
 (Tq:run aP s (sk s i)=sk s i\/sk s i+6<run aP s (sk s i)\/(sk s i+1<run aP s (sk s i)/\dS s (sk s i)=48)):
 Cw 195 #[Pq rb] w fun e w'=>e=.panicked [{v:=cD (sk s i:Int) (aT eb),recovered:=false}]/\w.grownBy w' (some rb):=by
 have CA:=qH<|digits_any rb s i av nv fv w h hs hi;have ut:=ng s i hi;obtain⟨j,hj⟩:=af (sk s i);rw[hj]at CA Tq ut⊢;have HN:Hid (∀w,w.cell? (aq 9 0)=some (aT eb)->Cw 61 #[Iq (j:Int)] w fun e w'=>e=Rw (.iface 138 (.agg #[Iq (j:Int),.iface 371 (.pointer (some eb))]))/\w'=w):=fun w he=>fE _ w eb he;have HE:=qH<|he;have cZ:=lM aP s j ut;have KC:=oa aP s j;obtain⟨k,hk⟩:=af (run aP s j);rw[hk]at CA Tq cZ KC;have hz:=ue s j k cZ;have h0:j<k->∀hh,(s.extract j k)[0]'hh=s[j]'(by omega):=fun xG hh=>by have:=ext_get s j k 0 (by omega) cZ;rw[di (by grind),I5]at this;exact this
 have hbj:∀hh:j<s.size,dS s j=(s[j]'hh).toNat:=fun hh=>km hh;obtain⟨t,ht⟩:=af (s.extract j k);rw[ht]at CA hz;have hv:t.size=0\/6<t.size\/(1<t.size/\∃hh:0<t.size,(t[0]'hh).toNat=48):=by
  rcases Tq with h|h|⟨h,h2⟩;·omega
  ·omega
  ·grind
 clear h hj he Tq h0 hbj hk ht hz cZ KC ut;by_cases dJ:t.size=0
 ·have et:t=⟨#[]⟩:=by apply ju;exact Xc dJ
  subst et;clear hv dJ;go_enter func195,ntmps195;go_wp2_with fail;refine CA.mono ?_;rintro e w1 ⟨rfl,h1,g1⟩;have HG:=qH<|g1;have HE1:=qH<|g1.cell HE (by simpa using hg);clear h1 g1 CA;go_wp2_with fail;refine(HN _ HE1).mono ?_;rintro e w2 ⟨rfl,hw⟩;obtain rfl:=hw.symm;go_wp2;exact⟨rfl,rfl,HG⟩
 ·have bj:t≠⟨#[]⟩:=fun hh=>dJ (by rw[hh];rfl);have eq0:=decide_eq_false bj;have h1:1<t.size:=by omega
  have xC:(1:Int)<(t.size:Int):=by omega
  have ZV:(0:Int)<(t.size:Int):=by omega
  have h0n:0<t.size:=by omega
  obtain⟨x,hx⟩:=af ((t[0]'h0n).toNat);have my:6<t.size\/x=48:=by
   rcases hv with h|h|⟨h,hh,h2⟩;·omega
   ·omega
   ·omega
  clear hv dJ;have ed:=decide_eq_true xC;by_cases YP:x=48
  ·subst YP;clear my;by_cases h6:6<t.size;focus
    have XY:(6:Int)<(t.size:Int):=by omega
    have e6:=decide_eq_true XY
   rotate_left;focus
    have XY:¬(6:Int)<(t.size:Int):=by omega
    have e6:=decide_eq_false XY
   rotate_left;all_goals go_enter func195,ntmps195;go_wp2_with fail;refine CA.mono ?_;rintro e w1 ⟨rfl,h1,g1⟩;have HG:=qH<|g1;have Z_:w1.cell? (aq 9 0)=some (.iface 371 (.pointer (some eb))):=g1.cell HE (by grind);clear h1 g1 CA;go_wp2;all_goals exact⟨rfl,rfl,HG⟩
  ·have ex:((x:Int)==48)=false:=by simp;omega
   have h6:6<t.size:=by omega
   have XY:(6:Int)<(t.size:Int):=by omega
   have e6:=decide_eq_true XY;clear my YP;go_enter func195,ntmps195;go_wp2_with fail;refine CA.mono ?_;rintro e w1 ⟨rfl,h1,g1⟩;have HG:=qH<|g1;have Z_:w1.cell? (aq 9 0)=some (.iface 371 (.pointer (some eb))):=g1.cell HE (by grind);clear h1 g1 CA;go_wp2;all_goals exact⟨rfl,rfl,HG⟩
theorem readNumber_yes(rb:Nat)(s:ByteArray)(i:Nat)(av nv fv:Value)(w:World)(h:PR w rb s i av nv fv)(hs:s.size<=1099511627776)(hi:i<=s.size)
 (Aq:¬(run aP s (sk s i)=sk s i\/sk s i+6<run aP s (sk s i)\/(sk s i+1<run aP s (sk s i)/\dS s (sk s i)=48))):
 Cw 195 #[Pq rb] w fun e w'=>e=Rw (.tuple #[Iq (dv s (sk s i) (run aP s (sk s i)-sk s i)),Iq (sk s i:Int)])/\PR w' rb s (run aP s (sk s i)) av nv fv/\w.grownBy w' (some rb):=by
 have CA:=qH<|digits_any rb s i av nv fv w h hs hi;have ut:=ng s i hi;obtain⟨j,hj⟩:=af (sk s i);rw[hj]at CA Aq ut⊢;have cZ:=lM aP s j ut;have KC:=oa aP s j;have hdr:=EP s j;obtain⟨k,hk⟩:=af (run aP s j);rw[hk]at CA Aq cZ KC hdr⊢;have hz:=ue s j k cZ;have HA:=qH<|atoi_dv s j k (by omega) cZ (by omega) hdr;have h0:j<k->∀hh,(s.extract j k)[0]'hh=s[j]'(by omega):=fun xG hh=>by have:=ext_get s j k 0 (by omega) cZ;rw[di (by grind),I5]at this;exact this
 have hbj:∀hh:j<s.size,dS s j=(s[j]'hh).toNat:=fun hh=>km hh;obtain⟨t,ht⟩:=af (s.extract j k);rw[ht]at CA hz HA;obtain⟨n,hn⟩:=af (dv s j (k-j));rw[hn]at HA⊢;have As:0<t.size/\t.size<=6:=by omega
 have hv:1<t.size->∀hh:0<t.size,(t[0]'hh).toNat≠48:=fun h1 hh he=>by grind
 have dj:=qH<|fun w=>Nj t n (by omega) HA w;have bj:t.toList.isEmpty=false:=by
  cases hh:t.toList.isEmpty with
  |false=>rfl
  |true=>
   exfalso;rw[List.isEmpty_iff,ByteArray.toList_eq]at hh;have h2:t.data.toList.length=0:=by rw[hh];rfl
   rw[gc]at h2;have h3:t.size=t.data.size:=rfl;omega
 clear h hj Aq h0 hbj hk ht hz cZ KC ut hdr hn HA;obtain⟨h0n,h6⟩:=As;have ZV:(0:Int)<(t.size:Int):=by omega
 have XY:¬(6:Int)<(t.size:Int):=by omega
 have e6:=decide_eq_false XY;by_cases h1:1<t.size;focus
  have xC:(1:Int)<(t.size:Int):=by omega
  obtain⟨x,hx⟩:=af ((t[0]'h0n).toNat);have YP:x≠48:=by rw[<-hx];exact hv h1 h0n
  have ex:((x:Int)==48)=false:=by simp;omega
 rotate_left;focus have xC:¬(1:Int)<(t.size:Int):=by omega
 rotate_left;all_goals clear hv;go_enter func195,ntmps195;go_wp2_with fail;refine CA.mono ?_;rintro e w1 ⟨rfl,h1,g1⟩;have HR:=qH<|h1;have HG:=qH<|g1;clear h1 g1 CA;go_wp2_with(go_at_call 225;refine(dj _).mono ?_;rintro e w2 ⟨rfl,u,rfl⟩);go_ret2;exact⟨rfl,HR.below (Lib.bytesWorld_below _ _ _),gr_trans HG (lr (Lib.bytesWorld_below _ _ _))⟩
def SA(w w':World)(e:Ending)(rb:Nat)(s:ByteArray)(av nv fv:Value)(eb:Addr)(r:Except Nat (Nat×List UInt8)):Prop:=
 w.grownBy w' (some rb)/\match r with
  |.ok (p,t)=>e=Rw (.string ⟨t.toArray⟩)/\PR w' rb s p av nv fv
  |.error b=>e=.panicked [{v:=cD (b:Int) (aT eb),recovered:=false}]
theorem qc{A B C:World}{b}(h:A.grownBy B (some b))(k:Below A.heap.size B C):A.grownBy C (some b):=
 ⟨k.os.trans h.os,k.tape.trans h.tape,k.output.trans h.output,aH h.size k.size,fun i hi hn=>(k.block i hi).trans (h.block i hi hn)⟩
theorem Zh{s}{f p}{acc}(h:dS s p=256):qF s (f+1) p acc=.error p:=by grind[qF]
theorem Qg{s}{f p}{acc}(h:dS s p=34):qF s (f+1) p acc=.ok (p+1,acc):=by grind[qF]
theorem Zi{s}{f p c}{acc}(h:dS s p=92)(hc:nM (dS s (p+1))=some c):qF s (f+1) p acc=qF s f (p+2) (acc++[c.toUInt8]):=by
 conv=>lhs;unfold qF
 rw[if_neg (by omega),if_neg (by omega),if_pos h];unfold nM at hc;by_cases h1:dS s (p+1)=34;·grind
 ·rw[if_neg h1]at hc;by_cases h2:dS s (p+1)=92;·grind
  ·rw[if_neg h2]at hc;by_cases h3:dS s (p+1)=110;·rw[if_pos h3]at hc;cases hc;grind
   grind
theorem Qf{s}{f p}{acc}(h:dS s p=92)(hc:nM (dS s (p+1))=none):qF s (f+1) p acc=.error (p+1):=by grind[qF,nM,dS]
theorem UN{s}{f p}{acc}(h0:dS s p≠256)(h1:dS s p≠34)(h2:dS s p≠92):qF s (f+1) p acc=qF s f (p+1) (acc++[(dS s p).toUInt8]):=by grind[qF]
theorem tR  acc  (c:Nat) (hc:c<256):Lib.byteCells (acc++[c.toUInt8])=Lib.byteCells acc++[.int .u8 (c:Int)]:=by simp[Lib.byteCells];omega
theorem lI(rb:Nat)(s:ByteArray)(i:Nat)(av nv fv:Value)(eb:Addr)(w:World)(h:PR w rb s i av nv fv)(hs:s.size<=1073741824)(hi:i<=s.size)(hg:9≠rb)(he:w.cell? (aq 9 0)=some (aT eb)):
 Cw 115 #[Pq rb] w fun e w'=>SA w w' e rb s av nv fv eb (mS s i):=by
 have HE:=qH<|he;by_cases dm:a_ s i 34=true
 ·have CX:Hid (Cw 116 #[Pq rb,.int .u8 34] w fun e w'=>e=Rw (.tuple #[])/\PR w' rb s (aD s i 34) av nv fv/\w.grownBy w' (some rb)):=iL rb s i av nv fv 34 w h (by omega) hi (by omega) dm;have hq:mS s i=qF s (s.size+2) (aD s i 34) []:=by unfold mS;rw[if_pos dm]
  have kM:aD s i 34<=s.size:=by
   unfold a_ at dm;have h1:dS s (sk s i)=34:=by simpa using dm
   have h2:sk s i<s.size:=by
    by_cases hh:sk s i<s.size;·exact hh
    ·grind[ir]
   unfold aD;rw[if_pos h1];omega
  rw[hq];obtain⟨j,hj⟩:=af (aD s i 34);rw[hj]at CX kM⊢;obtain⟨R,hR⟩:=af (qF s (s.size+2) j []);rw[hR];have ZG:=qH<|hR;clear h he dm hq hj hR;go_enter func115,ntmps115;go_wp2_with fail;refine CX.mono ?_;rintro e w1 ⟨rfl,h1,g1⟩;have oj:=h1.lt;have HR:=qH<|h1;have HG1:=qH<|g1;clear h1 g1 CX;go_wp2;go_loopw[4] (fun _ wr=>∃(p f:Nat) (acc:List UInt8),p<=s.size/\acc.length<=p/\s.size<f+p/\Hid (qF s f p acc=R)/\Hid (PR wr rb s p av nv fv)/\Hid (Lib.IsBuilderF 108 5 w1.heap.size w1.heap.size (Lib.byteCells acc) wr)/\Hid (w1.grownBy wr (some rb))) (fun _ wr=>s.size-prI wr rb);case atStart=>exact⟨j,s.size+2,[],kM,bm _,by omega,ZG,HR.below ((ag _ _).alloc (ae _) _),Lib.IsBuilderF.of (Lib.fresh_isBuilder 108 5 w1),lr ((ag _ _).alloc (ae _) _)⟩
  case round=>
   obtain⟨p,f0,acc,hp,hl,hf,HQ,HS,HB,HG⟩:=hrel;obtain⟨f,rfl⟩:∃f,f0=f+1:=⟨f0-1,by omega⟩;have HEr:=qH<|HG.cell (HG1.cell HE (by simpa using hg)) (by simpa using hg);have Jq:=qH<|HS.prI;by_cases zgB:p=s.size
   ·have CB:=qH<|readByte_no rb s p av nv fv eb wr HS zgB HEr;have qU:Hid (R=.error p):=by show _=_;rw[<-HQ.out];exact Zh (ir (by omega))
    go_wp2_with fail;refine CB.mono ?_;rintro e w2 ⟨rfl,g2⟩;refine⟨rfl,?_⟩;rw[qU.out];exact⟨gr_trans HG1 (gr_trans HG g2),rfl⟩
   ·have hlt:p<s.size:=by omega
    have hbl:=Nn hlt;have CB:=qH<|readByte_yes rb s p av nv fv wr HS (by omega) hlt;obtain⟨x,hx⟩:=af (dS s p);have HX:=qH<|hx;rw[hx]at CB hbl;clear hx;by_cases Te:x=34
    ·have qU:Hid (R=.ok (p+1,acc)):=by show _=_;rw[<-HQ.out];exact Qg (by rw[HX.out,Te])
     subst Te;go_wp2_with fail;refine CB.mono ?_;rintro e w2 ⟨rfl,h2,g2⟩;have HR2:=qH<|h2;have qT:=qH<|gr_trans HG g2;have HB2:=qH<|isBuilt_grown HB g2 oj;clear h2 g2 CB;go_wp2_with(go_at_call 44;refine(DR w1.heap.size w1.heap.size acc w2 HB2 qT.size).mono ?_;rintro e w3 ⟨rfl,nR,xF,wD⟩);go_ret;show SA _ _ _ _ _ _ _ _ _ _;rw[qU.out];exact⟨gr_trans HG1 (qc qT xF),rfl,HR2.belowB xF oj⟩
    ·have e34:((x:Int)==34)=false:=by simp;omega
     by_cases h92:x=92
     ·have Xw:Hid (dS s p=92):=by show _=_;rw[HX.out,h92]
      subst h92;clear Te;have hac:(Lib.byteCells acc).length+1<=140737488355328:=by simp[Lib.byteCells];omega
      go_wp2_with fail;refine CB.mono ?_;rintro e w2 ⟨rfl,h2,g2⟩;have HR2:=qH<|h2;have qT:=qH<|gr_trans HG g2;have HB2:=qH<|isBuilt_grown HB g2 oj;have Gx:=qH<|g2.cell HEr (by simpa using hg);clear h2 g2 CB;by_cases zbx:p+1=s.size
      ·have qU:Hid (R=.error (p+1)):=by show _=_;rw[<-HQ.out];exact Qf Xw (by rw[ir (by omega)];rfl)
       go_wp2_with(go_at_call 154;refine(sC rb s (p+1) av nv fv eb w2 HR2 zbx Gx).mono ?_;rintro e w3 ⟨rfl,g3⟩);refine⟨rfl,?_⟩;rw[qU.out];exact⟨gr_trans HG1 (gr_trans qT g3),by grind⟩
      ·cases Tw:nM (dS s (p+1))with
       |none=>
        have qU:Hid (R=.error (p+1)):=by show _=_;rw[<-HQ.out];exact Qf Xw Tw
        go_wp2_with(go_at_call 154;refine(ve rb s (p+1) av nv fv eb w2 HR2 (by omega) (by omega) Tw hg Gx).mono ?_;rintro e w3 ⟨rfl,g3⟩);refine⟨rfl,?_⟩;rw[qU.out];exact⟨gr_trans HG1 (gr_trans qT g3),rfl⟩
       |some c=>
        have zbr:c<256:=by
         unfold nM at Tw;split at Tw;·grind
         ·grind
        have HQ2:Hid (qF s f (p+2) (acc++[c.toUInt8])=R):=by show _=_;rw[<-Zi Xw.out Tw];exact HQ
        have CE:=qH<|readEscaped_yes rb s (p+1) av nv fv w2 HR2 (by omega) (by omega) c Tw;clear Tw;go_wp2_with fail;refine CE.mono ?_;rintro e w3 ⟨rfl,h3,g3⟩;have HR3:Hid (PR w3 rb s (p+2) av nv fv):=h3;have Gy:=qH<|gr_trans qT g3;have fm:=qH<|isBuilt_grown HB2 g3 oj;clear h3 g3 CE;go_wp2_with(go_at_call 153;refine(ni w1.heap.size w1.heap.size (Lib.byteCells acc) (c:Int) w3 fm hac Gy.size).mono ?_;rintro e w4 ⟨rfl,hi4,Tp,hk4⟩);have vN:=qH<|HR3.belowB Tp oj;go_roundw;case rel=>exact⟨p+2,f,acc++[c.toUInt8],by omega,by simp;omega,by omega,HQ2,vN,by show Lib.IsBuilderF _ _ _ _ _ _;rw[tR acc c zbr];exact .inr hi4,qc Gy Tp⟩
        case measure=>rw[vN.prI,Jq.out];omega
     ·have e92:((x:Int)==92)=false:=by simp;omega
      have HQ2:Hid (qF s f (p+1) (acc++[x.toUInt8])=R):=by show _=_;have:=UN (s:=s) (f:=f) (p:=p) (acc:=acc) (by rw[HX.out];omega) (by rw[HX.out];exact Te) (by rw[HX.out];exact h92);rw[HX.out]at this;rw[<-this];exact HQ
      have hac:(Lib.byteCells acc).length+1<=140737488355328:=by simp[Lib.byteCells];omega
      clear Te h92;go_wp2_with fail;refine CB.mono ?_;rintro e w2 ⟨rfl,h2,g2⟩;have HR2:=qH<|h2;have qT:=qH<|gr_trans HG g2;have HB2:=qH<|isBuilt_grown HB g2 oj;clear h2 g2 CB;go_wp2_with(go_at_call 153;refine(ni w1.heap.size w1.heap.size (Lib.byteCells acc) (x:Int) w2 HB2 hac qT.size).mono ?_;rintro e w3 ⟨rfl,nR,xF,wD⟩);have HR3:=qH<|HR2.belowB xF oj;go_roundw;case rel=>exact⟨p+1,f,acc++[x.toUInt8],by omega,by simp;omega,by omega,HQ2,HR3,by show Lib.IsBuilderF _ _ _ _ _ _;rw[tR acc x hbl];exact .inr nR,qc qT xF⟩
      case measure=>rw[HR3.prI,Jq.out];omega
 ·have zbn:a_ s i 34=false:=by simpa using dm
  have CX:Hid (Cw 116 #[Pq rb,.int .u8 34] w fun e w'=>e=.panicked [{v:=cD (sk s i:Int) (aT eb),recovered:=false}]/\w.grownBy w' (some rb)):=jS rb s i av nv fv eb 34 w h (by omega) hi (by omega) zbn hg he;have HQ:Hid (mS s i=.error (sk s i)):=by show _=_;unfold mS;rw[if_neg dm]
  clear h he dm zbn;go_enter func115,ntmps115;go_wp2_with fail;refine CX.mono ?_;rintro e w1 ⟨rfl,g1⟩;refine⟨rfl,?_⟩;rw[HQ.out];exact⟨g1,rfl⟩
