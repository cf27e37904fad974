import Derived.Test.YtbeiapdobffpiaaGreatDoorQ07
import Derived.Shelf.Abstract
set_option linter.all false
set_option maxRecDepth 100000
set_option maxHeartbeats 16000000
namespace Go.Proofs.YtbeiapdobffpiaaGreatDoor
open Go.RowKit Go.Proofs.Tryz
theorem qc(g:Nat)(eg:∀args w,(callFunc g args).run prog w=.ok (.enter g args) w)(p:Nat->Bool)(hp:p 256=false)(hg:∀(b:Nat) w,b<256->Cw g #[.int .u8 (b:Int)] w fun e w'=>e=Rw (.bool (p b))/\w'=w)
 (rb:Nat) (s:ByteArray) (i:Nat) (av nv fv:Value) (w:World) (h:PR w rb s i av nv fv) (hs:s.size<=1099511627776) (hi:i<=s.size):
 Cw 126 #[Pq rb,.func (.func g) #[] #[]] w fun e w'=>e=Rw (.tuple #[.string (s.extract (sk s i) (run p s (sk s i))),Iq (sk s i:Int)])/\PR w' rb s (run p s (sk s i)) av nv fv/\w.grownBy w' (some rb):=by
 have CS:=qH<|skipBlanks_any rb s i av nv fv w h hs hi;have HP:=qH<|hg;obtain⟨j,hj⟩:=aj (sk s i);have nu:=eh s i hi;rw[hj]at CS nu⊢;clear h hj hg;go_enter func126,ntmps126;go_wp2_with fail;refine CS.mono ?_;rintro e w1 ⟨rfl,h1,g1⟩;have HR:=qH<|h1;have HG1:=qH<|g1;have d1:=h1.c1;clear h1 g1 CS;go_wp2;clear d1;go_loopw[13] (fun _ wr=>∃k:Nat,j<=k/\k<=s.size/\Hid (run p s k=run p s j)/\Hid (PR wr rb s k av nv fv)/\Hid (w.grownBy wr (some rb))) (fun _ wr=>s.size-prI wr rb);case atStart=>exact⟨j,ai _,nu,rfl,HR,HG1⟩
 case round=>
  obtain⟨k,tA,hk,HK,HS,HG⟩:=hrel;have hs1:=HS.out;have c0:=hs1.c0;have c1:=hs1.c1;have f1:=hs1.fz 1;have qq:=qH<|hs1.prI;by_cases hlt:k<s.size
  ·have aK:(k:Int)<(s.size:Int):=by omega
   have el:=decide_eq_true aK;obtain⟨x,hx⟩:=aj (s[k].toNat);have gU:dh s k=x:=by rw[ea hlt,hx]
   have m6:x<256:=by rw[<-gU];exact vZ hlt
   by_cases BG:p x=true
   ·have HQ:=qH<|fun w=>by have:=HP x w m6;rw[BG]at this;exact this
    have km:Hid (run p s (k+1)=run p s j):=by rw[<-HK.out];exact(iL hlt (by grind)).symm
    have HN:=qH<|fun q=>by have:=(HS.drewN q).setI (k+1);rw[show((k+1:Nat):Int)=(k:Int)+1 by omega]at this;exact this
    clear hs1 HK HS gU BG;go_wp2_with fail;go_quiet(first|(go_at_fn g;exact Calls.quiet_of_same (HQ _)));go_wp2;go_roundw;case rel=>exact⟨k+1,by omega,by omega,km,HN _,gr_trans (gr_trans HG (aG _ _ _)) (bP _ _ _ _)⟩
    case measure=>rw[(HN _).prI,qq.out];omega
   ·have HQ:=qH<|fun w=>by have:=HP x w m6;rw[show p x=false by grind]at this;exact this
    have jg:Hid (run p s j=k):=by show _=_;rw[<-HK.out];exact jH (by grind)
    have S7:(j:Int)<=(k:Int):=by omega
    have hks:(k:Int)<=(s.size:Int):=by omega
    clear hs1 HK gU BG;go_wp2_with fail;go_quiet(first|(go_at_fn g;exact Calls.quiet_of_same (HQ _)));go_wp2_with fail;go_quiet(fail);go_wp2;go_ret2;exact⟨by rw[jg.out];rfl,by rw[jg.out];exact(HS.drewN _).drewN _,gr_trans (gr_trans HG (aG _ _ _)) (aG _ _ _)⟩
  ·have aK:¬(k:Int)<(s.size:Int):=by omega
   have el:=decide_eq_false aK;have jg:Hid (run p s j=k):=by show _=_;rw[<-HK.out];exact xn hlt
   have S7:(j:Int)<=(k:Int):=by omega
   have hks:(k:Int)<=(s.size:Int):=by omega
   clear hs1 HK;go_wp2_with fail;go_quiet(fail);go_wp2_with fail;go_quiet(fail);go_wp2;go_ret2;exact⟨by rw[jg.out];rfl,by rw[jg.out];exact(HS.drewN _).drewN _,gr_trans (gr_trans HG (aG _ _ _)) (aG _ _ _)⟩
def kdL:List Nat:=[127,127,127,127,3,8,8,32,32,127,127,127]
def fnL:List Nat:=[70,71,72,73,74,75,76,77,78,79,80,81]
def ie(k:Nat):ByteArray:=bZ[k]?.getD ByteArray.empty
def nC(k:Nat):Nat:=kdL[k]?.getD 0
def mG(k:Nat):Int:=iE[k]?.getD 0
def mT(k:Nat):Int:=aV[k]?.getD 0
def qM(k:Nat):Bool:=k==0
def wD(k:Nat):Nat:=fnL[k]?.getD 0
def zdo(k:Nat):List Value:=[.string (ie k),.int .u64 (nC k:Int),Iq (mG k),Iq (mT k),.bool (qM k),.func (.func (wD k)) #[] #[]]
structure I8(W:World)(ab:Nat):Prop where
 lt:ab<W.heap.size
 row:∀k,k<12->∀t,t<6->W.cell? (az ab (k*6+t))=(zdo k)[t]?
theorem I8.fr{W W'}{ab B r}(h:I8 W ab)(f:Fr B r W W')(h1:ab<B)(h2:ab≠r):I8 W' ab:=
 ⟨bn h.lt f.size,fun k hk t ht=>by rw[bU (f.block ab h1 h2)];exact h.row k hk t ht⟩
theorem I8.at{W}{ab k}(h:I8 W ab)(hk:k<12):W.cell? (az ab (k*6))=some (.string (ie k))/\W.cell? (az ab (k*6+1))=some (.int .u64 (nC k:Int))/\W.cell? (az ab (k*6+2))=some (Iq (mG k))/\W.cell? (az ab (k*6+3))=some (Iq (mT k))/\W.cell? (az ab (k*6+4))=some (.bool (qM k))/\W.cell? (az ab (k*6+5))=some (.func (.func (wD k)) #[] #[]):=
 ⟨h.row k hk 0 (by omega),h.row k hk 1 (by omega),h.row k hk 2 (by omega),h.row k hk 3 (by omega),h.row k hk 4 (by omega),h.row k hk 5 (by omega)⟩
theorem PP(w:World):I8 (w.alloc (.cells jq 171)) w.heap.size:=by
 refine⟨by simp,fun k hk t ht=>?_⟩;rw[World.cell?_alloc_at _ _ _ _ rfl];have:k=0\/k=1\/k=2\/k=3\/k=4\/k=5\/k=6\/k=7\/k=8\/k=9\/k=10\/k=11:=by omega
 have OX:t=0\/t=1\/t=2\/t=3\/t=4\/t=5:=by omega
 rcases this with rfl|rfl|rfl|rfl|rfl|rfl|rfl|rfl|rfl|rfl|rfl|rfl<;>rcases OX with rfl|rfl|rfl|rfl|rfl|rfl<;>rfl
def zay(g k:Nat):Prop:=(∀args w,(callFunc g args).run prog w=.ok (.enter g args) w)/\∀(nb o:Nat) (w:World),Cw g #[.pointer (some (az nb o))] w fun e w'=>e=Rw (.pointer (some (az nb (o+(k+1)))))/\w'=w
theorem in_at  k  (hk:k<12):zay (wD k) k:=by
 have:k=0\/k=1\/k=2\/k=3\/k=4\/k=5\/k=6\/k=7\/k=8\/k=9\/k=10\/k=11:=by omega
 rcases this with rfl|rfl|rfl|rfl|rfl|rfl|rfl|rfl|rfl|rfl|rfl|rfl;·exact⟨enters_of func70 (by kernel_rfl) rfl,in1⟩
 ·exact⟨enters_of func71 (by kernel_rfl) rfl,in2⟩
 ·exact⟨enters_of func72 (by kernel_rfl) rfl,in3⟩
 ·exact⟨enters_of func73 (by kernel_rfl) rfl,in4⟩
 ·exact⟨enters_of func74 (by kernel_rfl) rfl,in5⟩
 ·exact⟨enters_of func75 (by kernel_rfl) rfl,in6⟩
 ·exact⟨enters_of func76 (by kernel_rfl) rfl,in7⟩
 ·exact⟨enters_of func77 (by kernel_rfl) rfl,in8⟩
 ·exact⟨enters_of func78 (by kernel_rfl) rfl,in9⟩
 ·exact⟨enters_of func79 (by kernel_rfl) rfl,zc6⟩
 ·exact⟨enters_of func80 (by kernel_rfl) rfl,zc7⟩
 ·exact⟨enters_of func81 (by kernel_rfl) rfl,zc8⟩
theorem wW(b:Nat)(w:World)(hb:b<256):
 Cw 127 #[.int .u8 (b:Int)] w fun e w'=>e=Rw (.bool (ap b))/\w'=w:=by
 by_cases h1:97<=b
 ·have tK:(97:Int)<=(b:Int):=by omega
  by_cases h2:b<=122
  ·have qX:(b:Int)<=122:=by omega
   have HL:Hid (ap b=true):=by show _=_;simp[ap,h1,h2]
   have e1:=decide_eq_true tK;have e2:=decide_eq_true qX;go_enter func127,ntmps127;go_wp2;go_ret;exact⟨by rw[HL.out];rfl,rfl⟩
  ·have qX:¬(b:Int)<=122:=by omega
   have HL:Hid (ap b=false):=by show _=_;simp[ap,h2]
   have e1:=decide_eq_true tK;have e2:=decide_eq_false qX;go_enter func127,ntmps127;go_wp2;go_ret;exact⟨by rw[HL.out];rfl,rfl⟩
 ·have tK:¬(97:Int)<=(b:Int):=by omega
  have HL:Hid (ap b=false):=by show _=_;simp[ap,h1]
  have e1:=decide_eq_false tK;go_enter func127,ntmps127;go_wp2;go_ret;exact⟨by rw[HL.out];rfl,rfl⟩
theorem nY(rb:Nat)(s:ByteArray)(i:Nat)(av nv fv:Value)(w:World)(h:PR w rb s i av nv fv)(hs:s.size<=1099511627776)(hi:i<=s.size):
 Cw 82 #[Pq rb] w fun e w'=>e=Rw (.tuple #[.string (s.extract (sk s i) (run ap s (sk s i))),Iq (sk s i:Int)])/\PR w' rb s (run ap s (sk s i)) av nv fv/\w.grownBy w' (some rb):=by
 have CA:Hid (Cw 126 #[Pq rb,.func (.func 127) #[] #[]] w fun e w'=>e=Rw (.tuple #[.string (s.extract (sk s i) (run ap s (sk s i))),Iq (sk s i:Int)])/\PR w' rb s (run ap s (sk s i)) av nv fv/\w.grownBy w' (some rb)):=
  qc 127 (enters_of func127 (by kernel_rfl) rfl) ap (by rfl) (fun b w hb=>wW b w hb) rb s i av nv fv w h hs hi;obtain⟨j,hj⟩:=aj (sk s i);rw[hj]at CA⊢;obtain⟨t,ht⟩:=aj (s.extract j (run ap s j));rw[ht]at CA⊢;clear h hj ht;go_enter func82,ntmps82;go_wp2_with fail;refine CA.mono ?_;rintro e w1 ⟨rfl,h1,g1⟩;have HR:=qH<|h1;have HG:=qH<|g1;clear h1 g1 CA;go_wp2;go_ret2;exact⟨rfl,HR,HG⟩
theorem readByte_yes(rb:Nat)(s:ByteArray)(i:Nat)(av nv fv:Value)(w:World)(h:PR w rb s i av nv fv)(hs:s.size<=1099511627776)(hi:i<s.size):
 Cw 129 #[Pq rb] w fun e w'=>e=Rw (.int .u8 (dh s i:Int))/\PR w' rb s (i+1) av nv fv/\w.grownBy w' (some rb):=by
 have HR:=qH<|h;have c0:=h.c0;have c1:=h.c1;have f1:=h.fz 1;have el:((i:Int)==(s.size:Int))=false:=by simp;omega
 have aK:(i:Int)<(s.size:Int):=by omega
 obtain⟨x,hx⟩:=aj (s[i].toNat);have gU:dh s i=x:=by rw[ea hi,hx]
 rw[gU];have HN:=qH<|fun q=>by have:=(HR.drewN q).setI (i+1);rw[show((i+1:Nat):Int)=(i:Int)+1 by omega]at this;exact this
 clear h gU;go_enter func129,ntmps129;go_wp2_with fail;go_quiet(fail);go_wp2_with fail;go_quiet(fail);go_wp2;go_ret;exact⟨rfl,(HN _).drewN _,gr_trans (gr_trans (aG _ _ _) (bP _ _ _ _)) (aG _ _ _)⟩
theorem readByte_no(rb:Nat)(s:ByteArray)(i:Nat)(av nv fv:Value)(eb:Addr)(w:World)(h:PR w rb s i av nv fv)(hi:i=s.size)(he:w.cell? (az 7 0)=some (bp eb)):
 Cw 129 #[Pq rb] w fun e w'=>e=.panicked [{v:=cR (i:Int) (bp eb),recovered:=false}]/\w.grownBy w' (some rb):=by
 have HN:Hid (∀w,w.cell? (az 7 0)=some (bp eb)->Cw 46 #[Iq (i:Int)] w fun e w'=>e=Rw (.iface 124 (.agg #[Iq (i:Int),.iface 365 (.pointer (some eb))]))/\w'=w):=fun w he=>fI _ w eb he;have HE:=qH<|he;have c0:=h.c0;have c1:=h.c1;have el:((i:Int)==(s.size:Int))=true:=by simp;omega
 clear h he hi;go_enter func129,ntmps129;go_wp2_with fail;go_quiet(fail);go_wp2_with fail;refine(HN (w.drewN _) HE).mono ?_;rintro e w2 ⟨rfl,hw⟩;obtain rfl:=hw.symm;go_wp2;exact⟨rfl,rfl,aG _ _ _⟩
def mp(x:Nat):Option Nat:=if x=34 then some 34 else if x=92 then some 92 else if x=110 then some 10 else none
theorem readEscaped_yes(rb:Nat)(s:ByteArray)(i:Nat)(av nv fv:Value)(w:World)(h:PR w rb s i av nv fv)(hs:s.size<=1099511627776)(hi:i<s.size)(c:Nat)(hc:mp (dh s i)=some c):
 Cw 132 #[Pq rb] w fun e w'=>e=Rw (.int .u8 (c:Int))/\PR w' rb s (i+1) av nv fv/\w.grownBy w' (some rb):=by
 have CB:=qH<|readByte_yes rb s i av nv fv w h hs hi;obtain⟨x,hx⟩:=aj (dh s i);rw[hx]at CB hc;clear h hx;by_cases h1:x=34
 ·have e0:c=34:=by subst h1;simp[mp]at hc;exact hc.symm
  subst h1;subst e0;clear hc;go_enter func132,ntmps132;go_wp2_with fail;refine CB.mono ?_;rintro e w1 ⟨rfl,h1,g1⟩;have HR:=qH<|h1;have HG:=qH<|g1;clear h1 g1 CB;go_wp2;go_ret;exact⟨rfl,HR,HG⟩
 ·by_cases h2:x=92;focus
   have e0:c=92:=by subst h2;simp[mp]at hc;exact hc.symm
   subst h2;subst e0;clear hc
  rotate_left;focus
   have h3:x=110:=by
    by_cases h3:x=110;·exact h3
    ·grind[mp]
   have e0:c=10:=by subst h3;simp[mp]at hc;exact hc.symm
   subst h3;subst e0;clear hc h1 h2
  rotate_left;all_goals go_enter func132,ntmps132;go_wp2_with fail;refine CB.mono ?_;rintro e w1 ⟨rfl,h1,g1⟩;have HR:=qH<|h1;have HG:=qH<|g1;clear h1 g1 CB;go_wp2;go_ret;exact⟨rfl,HR,HG⟩
theorem sO(rb:Nat)(s:ByteArray)(i:Nat)(av nv fv:Value)(eb:Addr)(w:World)(h:PR w rb s i av nv fv)(hs:s.size<=1099511627776)(hi:i<s.size)(hc:mp (dh s i)=none)(hg:7≠rb)(he:w.cell? (az 7 0)=some (bp eb)):
 Cw 132 #[Pq rb] w fun e w'=>e=.panicked [{v:=cR (i:Int) (bp eb),recovered:=false}]/\w.grownBy w' (some rb):=by
 have CB:=qH<|readByte_yes rb s i av nv fv w h hs hi;have HN:Hid (∀w,w.cell? (az 7 0)=some (bp eb)->Cw 46 #[Iq (i:Int)] w fun e w'=>e=Rw (.iface 124 (.agg #[Iq (i:Int),.iface 365 (.pointer (some eb))]))/\w'=w):=fun w he=>fI _ w eb he;have HE:=qH<|he;obtain⟨x,hx⟩:=aj (dh s i);rw[hx]at CB hc;have n1:x≠34:=by intro hh;subst hh;simp[mp]at hc
 have n2:x≠92:=by intro hh;subst hh;simp[mp]at hc
 have n3:x≠110:=by intro hh;subst hh;simp[mp]at hc
 have e1:((x:Int)==34)=false:=by simp;omega
 have e2:((x:Int)==92)=false:=by simp;omega
 have e3:((x:Int)==110)=false:=by simp;omega
 clear h hx hc he n1 n2 n3;go_enter func132,ntmps132;go_wp2_with fail;refine CB.mono ?_;rintro e w1 ⟨rfl,h1,g1⟩;have HG:=qH<|g1;have c1:w1.cell? (az rb 1)=some (Iq ((i:Int)+1)):=by have:=h1.c1;rw[show((i+1:Nat):Int)=(i:Int)+1 by omega]at this;exact this
 have HE1:=qH<|g1.cell HE (by grind);clear h1 g1 CB;go_wp2_with fail;refine(HN w1 HE1).mono ?_;rintro e w2 ⟨rfl,hw⟩;obtain rfl:=hw.symm;go_wp2;exact⟨rfl,rfl,HG⟩
theorem zt(b:Nat)(w:World)(hb:b<256):
 Cw 195 #[.int .u8 (b:Int)] w fun e w'=>e=Rw (.bool (aU b))/\w'=w:=by
 by_cases h1:48<=b
 ·have tK:(48:Int)<=(b:Int):=by omega
  by_cases h2:b<=57
  ·have qX:(b:Int)<=57:=by omega
   have HL:Hid (aU b=true):=by show _=_;simp[aU,h1,h2]
   have e1:=decide_eq_true tK;have e2:=decide_eq_true qX;go_enter func195,ntmps195;go_wp2;go_ret;exact⟨by rw[HL.out];rfl,rfl⟩
  ·have qX:¬(b:Int)<=57:=by omega
   have HL:Hid (aU b=false):=by show _=_;simp[aU,h2]
   have e1:=decide_eq_true tK;have e2:=decide_eq_false qX;go_enter func195,ntmps195;go_wp2;go_ret;exact⟨by rw[HL.out];rfl,rfl⟩
 ·have tK:¬(48:Int)<=(b:Int):=by omega
  have HL:Hid (aU b=false):=by show _=_;simp[aU,h1]
  have e1:=decide_eq_false tK;go_enter func195,ntmps195;go_wp2;go_ret;exact⟨by rw[HL.out];rfl,rfl⟩
theorem digits_any  rb   s   i   av nv fv   w  (h:PR w rb s i av nv fv) (hs:s.size<=1099511627776) (hi:i<=s.size):
 Cw 126 #[Pq rb,.func (.func 195) #[] #[]] w fun e w'=>e=Rw (.tuple #[.string (s.extract (sk s i) (run aU s (sk s i))),Iq (sk s i:Int)])/\PR w' rb s (run aU s (sk s i)) av nv fv/\w.grownBy w' (some rb):=
 qc 195 (enters_of func195 (by kernel_rfl) rfl) aU (by rfl) (fun b w hb=>zt b w hb) rb s i av nv fv w h hs hi
