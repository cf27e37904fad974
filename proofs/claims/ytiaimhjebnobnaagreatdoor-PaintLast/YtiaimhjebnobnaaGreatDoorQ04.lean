import Derived.Test.YtiaimhjebnobnaaGreatDoorQ02
import Derived.Shelf.Abstract
set_option linter.all false
set_option maxRecDepth 100000
set_option maxHeartbeats 16000000
namespace Go.Proofs.YtiaimhjebnobnaaGreatDoor
open Go.RowKit Go.Proofs.Tryz
theorem sM(g:Nat)(eg:∀args w,(callFunc g args).run prog w=.ok (.enter g args) w)(p:Nat->Bool)(hp:p 256=false)(hg:∀(b:Nat) w,b<256->Cw g #[.int .u8 (b:Int)] w fun e w'=>e=Rw (.bool (p b))/\w'=w)
 (rb:Nat) (s:ByteArray) (i:Nat) (av nv fv:Value) (w:World) (h:PR w rb s i av nv fv) (hs:s.size<=1099511627776) (hi:i<=s.size):
 Cw 177 #[Pq rb,.func (.func g) #[] #[]] w fun e w'=>e=Rw (.tuple #[.string (s.extract (sk s i) (run p s (sk s i))),Iq (sk s i:Int)])/\PR w' rb s (run p s (sk s i)) av nv fv/\w.grownBy w' (some rb):=by
 have CS:=qH<|skipBlanks_any rb s i av nv fv w h hs hi;have HP:=qH<|hg;obtain⟨j,hj⟩:=ag (sk s i);have oe:=fw s i hi;rw[hj]at CS oe⊢;clear h hj hg;go_enter func177,ntmps177;go_wp2_with fail;refine CS.mono ?_;rintro e w1 ⟨rfl,h1,g1⟩;have HR:=qH<|h1;have HG1:=qH<|g1;have d1:=h1.c1;clear h1 g1 CS;go_wp2;clear d1;go_loopw[13] (fun _ wr=>∃k:Nat,j<=k/\k<=s.size/\Hid (run p s k=run p s j)/\Hid (PR wr rb s k av nv fv)/\Hid (w.grownBy wr (some rb))) (fun _ wr=>s.size-prI wr rb);case atStart=>exact⟨j,ai _,oe,rfl,HR,HG1⟩
 case round=>
  obtain⟨k,vn,hk,HK,HS,HG⟩:=hrel;have hs1:=HS.out;have c0:=hs1.c0;have c1:=hs1.c1;have f1:=hs1.fz 1;have xe:=qH<|hs1.prI;by_cases hlt:k<s.size
  ·have aN:(k:Int)<(s.size:Int):=by omega
   have el:=decide_eq_true aN;obtain⟨x,hx⟩:=ag (s[k].toNat);have jd:dL s k=x:=by rw[fh hlt,hx]
   have nD:x<256:=by rw[<-jd];exact zM hlt
   by_cases Fy:p x=true
   ·have HQ:=qH<|fun w=>by have:=HP x w nD;rw[Fy]at this;exact this
    have mh:Hid (run p s (k+1)=run p s j):=by rw[<-HK.out];exact(jO hlt (by grind)).symm
    have HN:=qH<|fun q=>by have:=(HS.drewN q).setI (k+1);rw[show((k+1:Nat):Int)=(k:Int)+1 by omega]at this;exact this
    clear hs1 HK HS jd Fy;go_wp2_with fail;go_quiet(first|(go_at_fn g;exact Calls.quiet_of_same (HQ _)));go_wp2;go_roundw;case rel=>exact⟨k+1,by omega,by omega,mh,HN _,gr_trans (gr_trans HG (aK _ _ _)) (ct _ _ _ _)⟩
    case measure=>rw[(HN _).prI,xe.out];omega
   ·have HQ:=qH<|fun w=>by have:=HP x w nD;rw[show p x=false by grind]at this;exact this
    have ky:Hid (run p s j=k):=by show _=_;rw[<-HK.out];exact k_ (by grind)
    have Y9:(j:Int)<=(k:Int):=by omega
    have hks:(k:Int)<=(s.size:Int):=by omega
    clear hs1 HK jd Fy;go_wp2_with fail;go_quiet(first|(go_at_fn g;exact Calls.quiet_of_same (HQ _)));go_wp2_with fail;go_quiet(fail);go_wp2;go_ret2;exact⟨by rw[ky.out];rfl,by rw[ky.out];exact(HS.drewN _).drewN _,gr_trans (gr_trans HG (aK _ _ _)) (aK _ _ _)⟩
  ·have aN:¬(k:Int)<(s.size:Int):=by omega
   have el:=decide_eq_false aN;have ky:Hid (run p s j=k):=by show _=_;rw[<-HK.out];exact AW hlt
   have Y9:(j:Int)<=(k:Int):=by omega
   have hks:(k:Int)<=(s.size:Int):=by omega
   clear hs1 HK;go_wp2_with fail;go_quiet(fail);go_wp2_with fail;go_quiet(fail);go_wp2;go_ret2;exact⟨by rw[ky.out];rfl,by rw[ky.out];exact(HS.drewN _).drewN _,gr_trans (gr_trans HG (aK _ _ _)) (aK _ _ _)⟩
def kdL:List Nat:=[127,127,127,127,3,8,8,32,32,127,127,127]
def fnL:List Nat:=[120,121,122,123,124,125,126,127,128,129,130,131]
def jq(k:Nat):ByteArray:=cI[k]?.getD ByteArray.empty
def pZ(k:Nat):Nat:=kdL[k]?.getD 0
def o6(k:Nat):Int:=jH[k]?.getD 0
def pw(k:Nat):Int:=aX[k]?.getD 0
def tN(k:Nat):Bool:=k==0
def zZ(k:Nat):Nat:=fnL[k]?.getD 0
def zjk(k:Nat):List Value:=[.string (jq k),.int .u64 (pZ k:Int),Iq (o6 k),Iq (pw k),.bool (tN k),.func (.func (zZ k)) #[] #[]]
structure NJ(W:World)(ab:Nat):Prop where
 lt:ab<W.heap.size
 row:∀k,k<12->∀t,t<6->W.cell? (az ab (k*6+t))=(zjk k)[t]?
theorem NJ.fr{W W'}{ab B r}(h:NJ W ab)(f:Fr B r W W')(h1:ab<B)(h2:ab≠r):NJ W' ab:=
 ⟨zz008 h.lt f.size,fun k hk t ht=>by rw[bU (f.block ab h1 h2)];exact h.row k hk t ht⟩
theorem NJ.at{W}{ab k}(h:NJ W ab)(hk:k<12):W.cell? (az ab (k*6))=some (.string (jq k))/\W.cell? (az ab (k*6+1))=some (.int .u64 (pZ k:Int))/\W.cell? (az ab (k*6+2))=some (Iq (o6 k))/\W.cell? (az ab (k*6+3))=some (Iq (pw k))/\W.cell? (az ab (k*6+4))=some (.bool (tN k))/\W.cell? (az ab (k*6+5))=some (.func (.func (zZ k)) #[] #[]):=
 ⟨h.row k hk 0 (by omega),h.row k hk 1 (by omega),h.row k hk 2 (by omega),h.row k hk 3 (by omega),h.row k hk 4 (by omega),h.row k hk 5 (by omega)⟩
theorem VL(w:World):NJ (w.alloc (.cells kK 203)) w.heap.size:=by
 refine⟨by simp,fun k hk t ht=>?_⟩;rw[World.cell?_alloc_at _ _ _ _ rfl];have:k=0\/k=1\/k=2\/k=3\/k=4\/k=5\/k=6\/k=7\/k=8\/k=9\/k=10\/k=11:=by omega
 have UF:t=0\/t=1\/t=2\/t=3\/t=4\/t=5:=by omega
 rcases this with rfl|rfl|rfl|rfl|rfl|rfl|rfl|rfl|rfl|rfl|rfl|rfl<;>rcases UF with rfl|rfl|rfl|rfl|rfl|rfl<;>rfl
def zgG(g k:Nat):Prop:=(∀args w,(callFunc g args).run prog w=.ok (.enter g args) w)/\∀(nb o:Nat) (w:World),Cw g #[.pointer (some (az nb o))] w fun e w'=>e=Rw (.pointer (some (az nb (o+(k+1)))))/\w'=w
theorem in_at  k  (hk:k<12):zgG (zZ k) k:=by
 have:k=0\/k=1\/k=2\/k=3\/k=4\/k=5\/k=6\/k=7\/k=8\/k=9\/k=10\/k=11:=by omega
 rcases this with rfl|rfl|rfl|rfl|rfl|rfl|rfl|rfl|rfl|rfl|rfl|rfl;·exact⟨enters_of func120 (by kernel_rfl) rfl,in1⟩
 ·exact⟨enters_of func121 (by kernel_rfl) rfl,in2⟩
 ·exact⟨enters_of func122 (by kernel_rfl) rfl,in3⟩
 ·exact⟨enters_of func123 (by kernel_rfl) rfl,in4⟩
 ·exact⟨enters_of func124 (by kernel_rfl) rfl,in5⟩
 ·exact⟨enters_of func125 (by kernel_rfl) rfl,in6⟩
 ·exact⟨enters_of func126 (by kernel_rfl) rfl,in7⟩
 ·exact⟨enters_of func127 (by kernel_rfl) rfl,in8⟩
 ·exact⟨enters_of func128 (by kernel_rfl) rfl,in9⟩
 ·exact⟨enters_of func129 (by kernel_rfl) rfl,zi6⟩
 ·exact⟨enters_of func130 (by kernel_rfl) rfl,zi7⟩
 ·exact⟨enters_of func131 (by kernel_rfl) rfl,zi8⟩
theorem Ak(b:Nat)(w:World)(hb:b<256):
 Cw 178 #[.int .u8 (b:Int)] w fun e w'=>e=Rw (.bool (aB b))/\w'=w:=by
 by_cases h1:97<=b
 ·have xE:(97:Int)<=(b:Int):=by omega
  by_cases h2:b<=122
  ·have ue:(b:Int)<=122:=by omega
   have HL:Hid (aB b=true):=by show _=_;simp[aB,h1,h2]
   have e1:=decide_eq_true xE;have e2:=decide_eq_true ue;go_enter func178,ntmps178;go_wp2;go_ret;exact⟨by rw[HL.out];rfl,rfl⟩
  ·have ue:¬(b:Int)<=122:=by omega
   have HL:Hid (aB b=false):=by show _=_;simp[aB,h2]
   have e1:=decide_eq_true xE;have e2:=decide_eq_false ue;go_enter func178,ntmps178;go_wp2;go_ret;exact⟨by rw[HL.out];rfl,rfl⟩
 ·have xE:¬(97:Int)<=(b:Int):=by omega
  have HL:Hid (aB b=false):=by show _=_;simp[aB,h1]
  have e1:=decide_eq_false xE;go_enter func178,ntmps178;go_wp2;go_ret;exact⟨by rw[HL.out];rfl,rfl⟩
theorem qu(rb:Nat)(s:ByteArray)(i:Nat)(av nv fv:Value)(w:World)(h:PR w rb s i av nv fv)(hs:s.size<=1099511627776)(hi:i<=s.size):
 Cw 132 #[Pq rb] w fun e w'=>e=Rw (.tuple #[.string (s.extract (sk s i) (run aB s (sk s i))),Iq (sk s i:Int)])/\PR w' rb s (run aB s (sk s i)) av nv fv/\w.grownBy w' (some rb):=by
 have CA:Hid (Cw 177 #[Pq rb,.func (.func 178) #[] #[]] w fun e w'=>e=Rw (.tuple #[.string (s.extract (sk s i) (run aB s (sk s i))),Iq (sk s i:Int)])/\PR w' rb s (run aB s (sk s i)) av nv fv/\w.grownBy w' (some rb)):=
  sM 178 (enters_of func178 (by kernel_rfl) rfl) aB (by rfl) (fun b w hb=>Ak b w hb) rb s i av nv fv w h hs hi;obtain⟨j,hj⟩:=ag (sk s i);rw[hj]at CA⊢;obtain⟨t,ht⟩:=ag (s.extract j (run aB s j));rw[ht]at CA⊢;clear h hj ht;go_enter func132,ntmps132;go_wp2_with fail;refine CA.mono ?_;rintro e w1 ⟨rfl,h1,g1⟩;have HR:=qH<|h1;have HG:=qH<|g1;clear h1 g1 CA;go_wp2;go_ret2;exact⟨rfl,HR,HG⟩
theorem readByte_yes(rb:Nat)(s:ByteArray)(i:Nat)(av nv fv:Value)(w:World)(h:PR w rb s i av nv fv)(hs:s.size<=1099511627776)(hi:i<s.size):
 Cw 180 #[Pq rb] w fun e w'=>e=Rw (.int .u8 (dL s i:Int))/\PR w' rb s (i+1) av nv fv/\w.grownBy w' (some rb):=by
 have HR:=qH<|h;have c0:=h.c0;have c1:=h.c1;have f1:=h.fz 1;have el:((i:Int)==(s.size:Int))=false:=by simp;omega
 have aN:(i:Int)<(s.size:Int):=by omega
 obtain⟨x,hx⟩:=ag (s[i].toNat);have jd:dL s i=x:=by rw[fh hi,hx]
 rw[jd];have HN:=qH<|fun q=>by have:=(HR.drewN q).setI (i+1);rw[show((i+1:Nat):Int)=(i:Int)+1 by omega]at this;exact this
 clear h jd;go_enter func180,ntmps180;go_wp2_with fail;go_quiet(fail);go_wp2_with fail;go_quiet(fail);go_wp2;go_ret;exact⟨rfl,(HN _).drewN _,gr_trans (gr_trans (aK _ _ _) (ct _ _ _ _)) (aK _ _ _)⟩
theorem readByte_no(rb:Nat)(s:ByteArray)(i:Nat)(av nv fv:Value)(eb:Addr)(w:World)(h:PR w rb s i av nv fv)(hi:i=s.size)(he:w.cell? (az 7 0)=some (bH eb)):
 Cw 180 #[Pq rb] w fun e w'=>e=.panicked [{v:=dw (i:Int) (bH eb),recovered:=false}]/\w.grownBy w' (some rb):=by
 have HN:Hid (∀w,w.cell? (az 7 0)=some (bH eb)->Cw 67 #[Iq (i:Int)] w fun e w'=>e=Rw (.iface 132 (.agg #[Iq (i:Int),.iface 362 (.pointer (some eb))]))/\w'=w):=fun w he=>gM _ w eb he;have HE:=qH<|he;have c0:=h.c0;have c1:=h.c1;have el:((i:Int)==(s.size:Int))=true:=by simp;omega
 clear h he hi;go_enter func180,ntmps180;go_wp2_with fail;go_quiet(fail);go_wp2_with fail;refine(HN (w.drewN _) HE).mono ?_;rintro e w2 ⟨rfl,hw⟩;obtain rfl:=hw.symm;go_wp2;exact⟨rfl,rfl,aK _ _ _⟩
def oU(x:Nat):Option Nat:=if x=34 then some 34 else if x=92 then some 92 else if x=110 then some 10 else none
theorem readEscaped_yes(rb:Nat)(s:ByteArray)(i:Nat)(av nv fv:Value)(w:World)(h:PR w rb s i av nv fv)(hs:s.size<=1099511627776)(hi:i<s.size)(c:Nat)(hc:oU (dL s i)=some c):
 Cw 182 #[Pq rb] w fun e w'=>e=Rw (.int .u8 (c:Int))/\PR w' rb s (i+1) av nv fv/\w.grownBy w' (some rb):=by
 have CB:=qH<|readByte_yes rb s i av nv fv w h hs hi;obtain⟨x,hx⟩:=ag (dL s i);rw[hx]at CB hc;clear h hx;by_cases h1:x=34
 ·have e0:c=34:=by subst h1;simp[oU]at hc;exact hc.symm
  subst h1;subst e0;clear hc;go_enter func182,ntmps182;go_wp2_with fail;refine CB.mono ?_;rintro e w1 ⟨rfl,h1,g1⟩;have HR:=qH<|h1;have HG:=qH<|g1;clear h1 g1 CB;go_wp2;go_ret;exact⟨rfl,HR,HG⟩
 ·by_cases h2:x=92;focus
   have e0:c=92:=by subst h2;simp[oU]at hc;exact hc.symm
   subst h2;subst e0;clear hc
  rotate_left;focus
   have h3:x=110:=by
    by_cases h3:x=110;·exact h3
    ·grind[oU]
   have e0:c=10:=by subst h3;simp[oU]at hc;exact hc.symm
   subst h3;subst e0;clear hc h1 h2
  rotate_left;all_goals go_enter func182,ntmps182;go_wp2_with fail;refine CB.mono ?_;rintro e w1 ⟨rfl,h1,g1⟩;have HR:=qH<|h1;have HG:=qH<|g1;clear h1 g1 CB;go_wp2;go_ret;exact⟨rfl,HR,HG⟩
theorem vU(rb:Nat)(s:ByteArray)(i:Nat)(av nv fv:Value)(eb:Addr)(w:World)(h:PR w rb s i av nv fv)(hs:s.size<=1099511627776)(hi:i<s.size)(hc:oU (dL s i)=none)(hg:7≠rb)(he:w.cell? (az 7 0)=some (bH eb)):
 Cw 182 #[Pq rb] w fun e w'=>e=.panicked [{v:=dw (i:Int) (bH eb),recovered:=false}]/\w.grownBy w' (some rb):=by
 have CB:=qH<|readByte_yes rb s i av nv fv w h hs hi;have HN:Hid (∀w,w.cell? (az 7 0)=some (bH eb)->Cw 67 #[Iq (i:Int)] w fun e w'=>e=Rw (.iface 132 (.agg #[Iq (i:Int),.iface 362 (.pointer (some eb))]))/\w'=w):=fun w he=>gM _ w eb he;have HE:=qH<|he;obtain⟨x,hx⟩:=ag (dL s i);rw[hx]at CB hc;have n1:x≠34:=by intro hh;subst hh;simp[oU]at hc
 have n2:x≠92:=by intro hh;subst hh;simp[oU]at hc
 have n3:x≠110:=by intro hh;subst hh;simp[oU]at hc
 have e1:((x:Int)==34)=false:=by simp;omega
 have e2:((x:Int)==92)=false:=by simp;omega
 have e3:((x:Int)==110)=false:=by simp;omega
 clear h hx hc he n1 n2 n3;go_enter func182,ntmps182;go_wp2_with fail;refine CB.mono ?_;rintro e w1 ⟨rfl,h1,g1⟩;have HG:=qH<|g1;have c1:w1.cell? (az rb 1)=some (Iq ((i:Int)+1)):=by have:=h1.c1;rw[show((i+1:Nat):Int)=(i:Int)+1 by omega]at this;exact this
 have HE1:=qH<|g1.cell HE (by grind);clear h1 g1 CB;go_wp2_with fail;refine(HN w1 HE1).mono ?_;rintro e w2 ⟨rfl,hw⟩;obtain rfl:=hw.symm;go_wp2;exact⟨rfl,rfl,HG⟩
theorem Dz(b:Nat)(w:World)(hb:b<256):
 Cw 231 #[.int .u8 (b:Int)] w fun e w'=>e=Rw (.bool (aW b))/\w'=w:=by
 by_cases h1:48<=b
 ·have xE:(48:Int)<=(b:Int):=by omega
  by_cases h2:b<=57
  ·have ue:(b:Int)<=57:=by omega
   have HL:Hid (aW b=true):=by show _=_;simp[aW,h1,h2]
   have e1:=decide_eq_true xE;have e2:=decide_eq_true ue;go_enter func231,ntmps231;go_wp2;go_ret;exact⟨by rw[HL.out];rfl,rfl⟩
  ·have ue:¬(b:Int)<=57:=by omega
   have HL:Hid (aW b=false):=by show _=_;simp[aW,h2]
   have e1:=decide_eq_true xE;have e2:=decide_eq_false ue;go_enter func231,ntmps231;go_wp2;go_ret;exact⟨by rw[HL.out];rfl,rfl⟩
 ·have xE:¬(48:Int)<=(b:Int):=by omega
  have HL:Hid (aW b=false):=by show _=_;simp[aW,h1]
  have e1:=decide_eq_false xE;go_enter func231,ntmps231;go_wp2;go_ret;exact⟨by rw[HL.out];rfl,rfl⟩
theorem digits_any  rb   s   i   av nv fv   w  (h:PR w rb s i av nv fv) (hs:s.size<=1099511627776) (hi:i<=s.size):
 Cw 177 #[Pq rb,.func (.func 231) #[] #[]] w fun e w'=>e=Rw (.tuple #[.string (s.extract (sk s i) (run aW s (sk s i))),Iq (sk s i:Int)])/\PR w' rb s (run aW s (sk s i)) av nv fv/\w.grownBy w' (some rb):=
 sM 231 (enters_of func231 (by kernel_rfl) rfl) aW (by rfl) (fun b w hb=>Dz b w hb) rb s i av nv fv w h hs hi
