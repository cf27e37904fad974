import Derived.Test.YtmbefonnkkhfgaaGreatDoorQ00
import Derived.Test.YtmbefonnkkhfgaaGreatDoorQ08
import Derived.Shelf.Abstract
set_option linter.unusedVariables false
set_option maxRecDepth 100000
set_option maxHeartbeats 16000000
namespace Go.Proofs.YtmbefonnkkhfgaaGreatDoor
section
open Go.RowKit Go.Proofs.Tryz
theorem readAll_any(g:Nat)(eg:∀args w,(callFunc g args).run prog w=.ok (.enter g args) w)(p:Nat->Bool)(hp:p 256=false)(hg:∀(b:Nat) w,b<256->Calls prog g #[.int .u8 (b:Int)] w fun e w'=>e=.returned (.bool (p b))∧w'=w)
 (rb:Nat) (s:ByteArray) (i:Nat) (av nv fv:Value) (w:World) (h:PR w rb s i av nv fv) (hs:s.size≤1099511627776) (hi:i≤s.size):
 Calls prog 144 #[Pq rb,.func (.func g) #[] #[]] w fun e w'=>e=.returned (.tuple #[.string (s.extract (sk s i) (run p s (sk s i))),Iq (sk s i:Int)])∧PR w' rb s (run p s (sk s i)) av nv fv∧w.grownBy w' (some rb):=by
 have CS:=qH<|skipBlanks_any rb s i av nv fv w h hs hi;have HP:=qH<|hg;obtain⟨j,hj⟩:=nmd (sk s i);have hjs:=sk_le s i hi;rw[hj]at CS hjs⊢;clear h hj hg;go_enter func144,ntmps144;go_wp2_with fail;refine CS.mono ?_;rintro e w1 ⟨rfl,h1,g1⟩;have HR:=qH<|h1;have HG1:=qH<|g1;have d1:=h1.c1;clear h1 g1 CS;go_wp2;clear d1;go_loopw[13] (fun _ wr=>∃k:Nat,j≤k∧k≤s.size∧Hid (run p s k=run p s j)∧Hid (PR wr rb s k av nv fv)∧Hid (w.grownBy wr (some rb))) (fun _ wr=>s.size-prI wr rb);case atStart=>exact⟨j,Nat.le_refl _,hjs,rfl,HR,HG1⟩
 case round=>
  obtain⟨k,hjk,hk,HK,HS,HG⟩:=hrel;have hs1:=HS.out;have c0:=hs1.c0;have c1:=hs1.c1;have f1:=hs1.fz 1;have HRD:=qH<|hs1.prI;by_cases hlt:k<s.size
  ·have hlt':(k:Int)<(s.size:Int):=by omega
   have el:=decide_eq_true hlt';obtain⟨x,hx⟩:=nmd (s[k].toNat);have hbx:bat s k=x:=by rw[bat_in hlt,hx]
   have hx2:x<256:=by rw[<-hbx];exact bat_lt hlt
   by_cases hpx:p x=true
   ·have HQ:=qH<|fun w=>by have:=HP x w hx2;rw[hpx]at this;exact this
    have HK2:Hid (run p s (k+1)=run p s j):=by rw[<-HK.out];exact(run_step hlt (by rw[hbx];exact hpx)).symm
    have HN:=qH<|fun q=>by have:=(HS.drewN q).setI (k+1);rw[show((k+1:Nat):Int)=(k:Int)+1 by omega]at this;exact this
    clear hs1 HK HS hbx hpx;go_wp2_with fail;go_quiet(first|(go_at_fn g;exact Calls.quiet_of_same (HQ _)));go_wp2;go_roundw;case rel=>exact⟨k+1,by omega,by omega,HK2,HN _,gr_trans (gr_trans HG (gr_drewN _ _ _)) (gr_set _ _ _ _)⟩
    case measure=>rw[(HN _).prI,HRD.out];omega
   ·have HQ:=qH<|fun w=>by have:=HP x w hx2;rw[show p x=false by simpa using hpx]at this;exact this
    have HRK:Hid (run p s j=k):=by show _=_;rw[<-HK.out];exact run_stop (by rw[hbx];simpa using hpx)
    have hjk':(j:Int)≤(k:Int):=by omega
    have hks:(k:Int)≤(s.size:Int):=by omega
    clear hs1 HK hbx hpx;go_wp2_with fail;go_quiet(first|(go_at_fn g;exact Calls.quiet_of_same (HQ _)));go_wp2_with fail;go_quiet(fail);go_wp2;go_ret2;exact⟨by rw[HRK.out];rfl,by rw[HRK.out];exact(HS.drewN _).drewN _,gr_trans (gr_trans HG (gr_drewN _ _ _)) (gr_drewN _ _ _)⟩
  ·have hlt':¬(k:Int)<(s.size:Int):=by omega
   have el:=decide_eq_false hlt';have HRK:Hid (run p s j=k):=by show _=_;rw[<-HK.out];exact run_out hlt
   have hjk':(j:Int)≤(k:Int):=by omega
   have hks:(k:Int)≤(s.size:Int):=by omega
   clear hs1 HK;go_wp2_with fail;go_quiet(fail);go_wp2_with fail;go_quiet(fail);go_wp2;go_ret2;exact⟨by rw[HRK.out];rfl,by rw[HRK.out];exact(HS.drewN _).drewN _,gr_trans (gr_trans HG (gr_drewN _ _ _)) (gr_drewN _ _ _)⟩
end
section
open Go.RowKit Go.Proofs.Tryz
def kdL:List Nat:=[127,127,127,127,3,8,8,32,32,127,127,127]
def fnL:List Nat:=[96,97,98,99,100,101,102,103,104,105,106,107]
def nmAt(k:Nat):ByteArray:=namesL[k]?.getD ByteArray.empty
def kdAt(k:Nat):Nat:=kdL[k]?.getD 0
def moAt(k:Nat):Int:=mostL[k]?.getD 0
def woAt(k:Nat):Int:=withoutL[k]?.getD 0
def sgAt(k:Nat):Bool:=k==0
def fnAt(k:Nat):Nat:=fnL[k]?.getD 0
def rowV(k:Nat):List Value:=[.string (nmAt k),.int .u64 (kdAt k:Int),Iq (moAt k),Iq (woAt k),.bool (sgAt k),.func (.func (fnAt k)) #[] #[]]
structure Tab(W:World)(ab:Nat):Prop where
 lt:ab<W.heap.size
 row:∀k,k<12->∀t,t<6->W.cell? ⟨ab,k*6+t,none⟩=(rowV k)[t]?
theorem Tab.fr{W W':World}{ab B r:Nat}(h:Tab W ab)(f:Fr B r W W')(h1:ab<B)(h2:ab≠r):Tab W' ab:=
 ⟨Nat.lt_of_lt_of_le h.lt f.size,fun k hk t ht=>by rw[World.cell?_of_block (f.block ab h1 h2)];exact h.row k hk t ht⟩
theorem Tab.at{W:World}{ab k:Nat}(h:Tab W ab)(hk:k<12):W.cell? ⟨ab,k*6,none⟩=some (.string (nmAt k))∧W.cell? ⟨ab,k*6+1,none⟩=some (.int .u64 (kdAt k:Int))∧W.cell? ⟨ab,k*6+2,none⟩=some (Iq (moAt k))∧W.cell? ⟨ab,k*6+3,none⟩=some (Iq (woAt k))∧W.cell? ⟨ab,k*6+4,none⟩=some (.bool (sgAt k))∧W.cell? ⟨ab,k*6+5,none⟩=some (.func (.func (fnAt k)) #[] #[]):=
 ⟨h.row k hk 0 (by omega),h.row k hk 1 (by omega),h.row k hk 2 (by omega),h.row k hk 3 (by omega),h.row k hk 4 (by omega),h.row k hk 5 (by omega)⟩
theorem tab_new(w:World):Tab (w.alloc (.cells attCells 175)) w.heap.size:=by
 refine⟨by simp,fun k hk t ht=>?_⟩;rw[World.cell?_alloc_at _ _ _ _ rfl];have:k=0∨k=1∨k=2∨k=3∨k=4∨k=5∨k=6∨k=7∨k=8∨k=9∨k=10∨k=11:=by omega
 have ht2:t=0∨t=1∨t=2∨t=3∨t=4∨t=5:=by omega
 rcases this with rfl|rfl|rfl|rfl|rfl|rfl|rfl|rfl|rfl|rfl|rfl|rfl<;>rcases ht2 with rfl|rfl|rfl|rfl|rfl|rfl<;>rfl
def InAt(g k:Nat):Prop:=(∀args w,(callFunc g args).run prog w=.ok (.enter g args) w)∧∀(nb o:Nat) (w:World),Calls prog g #[.pointer (some ⟨nb,o,none⟩)] w fun e w'=>e=.returned (.pointer (some ⟨nb,o+(k+1),none⟩))∧w'=w
theorem in_at(k:Nat)(hk:k<12):InAt (fnAt k) k:=by
 have:k=0∨k=1∨k=2∨k=3∨k=4∨k=5∨k=6∨k=7∨k=8∨k=9∨k=10∨k=11:=by omega
 rcases this with rfl|rfl|rfl|rfl|rfl|rfl|rfl|rfl|rfl|rfl|rfl|rfl;·exact⟨enters_of func96 (by kernel_rfl) rfl,in1⟩
 ·exact⟨enters_of func97 (by kernel_rfl) rfl,in2⟩
 ·exact⟨enters_of func98 (by kernel_rfl) rfl,in3⟩
 ·exact⟨enters_of func99 (by kernel_rfl) rfl,in4⟩
 ·exact⟨enters_of func100 (by kernel_rfl) rfl,in5⟩
 ·exact⟨enters_of func101 (by kernel_rfl) rfl,in6⟩
 ·exact⟨enters_of func102 (by kernel_rfl) rfl,in7⟩
 ·exact⟨enters_of func103 (by kernel_rfl) rfl,in8⟩
 ·exact⟨enters_of func104 (by kernel_rfl) rfl,in9⟩
 ·exact⟨enters_of func105 (by kernel_rfl) rfl,in10⟩
 ·exact⟨enters_of func106 (by kernel_rfl) rfl,in11⟩
 ·exact⟨enters_of func107 (by kernel_rfl) rfl,in12⟩
end
section
open Go.RowKit Go.Proofs.Tryz
theorem isLetter_any(b:Nat)(w:World)(hb:b<256):
 Calls prog 145 #[.int .u8 (b:Int)] w fun e w'=>e=.returned (.bool (letter b))∧w'=w:=by
 by_cases h1:97≤b
 ·have h1':(97:Int)≤(b:Int):=by omega
  by_cases h2:b≤122
  ·have h2':(b:Int)≤122:=by omega
   have HL:Hid (letter b=true):=by show _=_;simp[letter,h1,h2]
   have e1:=decide_eq_true h1';have e2:=decide_eq_true h2';go_enter func145,ntmps145;go_wp2;go_ret;exact⟨by rw[HL.out];rfl,rfl⟩
  ·have h2':¬(b:Int)≤122:=by omega
   have HL:Hid (letter b=false):=by show _=_;simp[letter,h2]
   have e1:=decide_eq_true h1';have e2:=decide_eq_false h2';go_enter func145,ntmps145;go_wp2;go_ret;exact⟨by rw[HL.out];rfl,rfl⟩
 ·have h1':¬(97:Int)≤(b:Int):=by omega
  have HL:Hid (letter b=false):=by show _=_;simp[letter,h1]
  have e1:=decide_eq_false h1';go_enter func145,ntmps145;go_wp2;go_ret;exact⟨by rw[HL.out];rfl,rfl⟩
theorem readWord_any(rb:Nat)(s:ByteArray)(i:Nat)(av nv fv:Value)(w:World)(h:PR w rb s i av nv fv)(hs:s.size≤1099511627776)(hi:i≤s.size):
 Calls prog 108 #[Pq rb] w fun e w'=>e=.returned (.tuple #[.string (s.extract (sk s i) (run letter s (sk s i))),Iq (sk s i:Int)])∧PR w' rb s (run letter s (sk s i)) av nv fv∧w.grownBy w' (some rb):=by
 have CA:Hid (Calls prog 144 #[Pq rb,.func (.func 145) #[] #[]] w fun e w'=>e=.returned (.tuple #[.string (s.extract (sk s i) (run letter s (sk s i))),Iq (sk s i:Int)])∧PR w' rb s (run letter s (sk s i)) av nv fv∧w.grownBy w' (some rb)):=
  readAll_any 145 (enters_of func145 (by kernel_rfl) rfl) letter (by rfl) (fun b w hb=>isLetter_any b w hb) rb s i av nv fv w h hs hi;obtain⟨j,hj⟩:=nmd (sk s i);rw[hj]at CA⊢;obtain⟨t,ht⟩:=nmd (s.extract j (run letter s j));rw[ht]at CA⊢;clear h hj ht;go_enter func108,ntmps108;go_wp2_with fail;refine CA.mono ?_;rintro e w1 ⟨rfl,h1,g1⟩;have HR:=qH<|h1;have HG:=qH<|g1;clear h1 g1 CA;go_wp2;go_ret2;exact⟨rfl,HR,HG⟩
end
section
open Go.RowKit Go.Proofs.Tryz
theorem readByte_yes(rb:Nat)(s:ByteArray)(i:Nat)(av nv fv:Value)(w:World)(h:PR w rb s i av nv fv)(hs:s.size≤1099511627776)(hi:i<s.size):
 Calls prog 147 #[Pq rb] w fun e w'=>e=.returned (.int .u8 (bat s i:Int))∧PR w' rb s (i+1) av nv fv∧w.grownBy w' (some rb):=by
 have HR:=qH<|h;have c0:=h.c0;have c1:=h.c1;have f1:=h.fz 1;have el:((i:Int)==(s.size:Int))=false:=by simp;omega
 have hlt':(i:Int)<(s.size:Int):=by omega
 obtain⟨x,hx⟩:=nmd (s[i].toNat);have hbx:bat s i=x:=by rw[bat_in hi,hx]
 rw[hbx];have HN:=qH<|fun q=>by have:=(HR.drewN q).setI (i+1);rw[show((i+1:Nat):Int)=(i:Int)+1 by omega]at this;exact this
 clear h hbx;go_enter func147,ntmps147;go_wp2_with fail;go_quiet(fail);go_wp2_with fail;go_quiet(fail);go_wp2;go_ret;exact⟨rfl,(HN _).drewN _,gr_trans (gr_trans (gr_drewN _ _ _) (gr_set _ _ _ _)) (gr_drewN _ _ _)⟩
theorem readByte_no(rb:Nat)(s:ByteArray)(i:Nat)(av nv fv:Value)(eb:Addr)(w:World)(h:PR w rb s i av nv fv)(hi:i=s.size)(he:w.cell? ⟨8,0,none⟩=some (errV eb)):
 Calls prog 147 #[Pq rb] w fun e w'=>e=.panicked [{v:=faultV (i:Int) (errV eb),recovered:=false}]∧w.grownBy w' (some rb):=by
 have HN:Hid (∀w,w.cell? ⟨8,0,none⟩=some (errV eb)->Calls prog 60 #[Iq (i:Int)] w fun e w'=>e=.returned (.iface 117 (.agg #[Iq (i:Int),.iface 311 (.pointer (some eb))]))∧w'=w):=fun w he=>noTree_any _ w eb he;have HE:=qH<|he;have c0:=h.c0;have c1:=h.c1;have el:((i:Int)==(s.size:Int))=true:=by simp;omega
 clear h he hi;go_enter func147,ntmps147;go_wp2_with fail;go_quiet(fail);go_wp2_with fail;refine(HN (w.drewN _) HE).mono ?_;rintro e w2 ⟨rfl,hw⟩;obtain rfl:=hw.symm;go_wp2;exact⟨rfl,rfl,gr_drewN _ _ _⟩
def escB(x:Nat):Option Nat:=if x=34 then some 34 else if x=92 then some 92 else if x=110 then some 10 else none
theorem readEscaped_yes(rb:Nat)(s:ByteArray)(i:Nat)(av nv fv:Value)(w:World)(h:PR w rb s i av nv fv)(hs:s.size≤1099511627776)(hi:i<s.size)(c:Nat)(hc:escB (bat s i)=some c):
 Calls prog 149 #[Pq rb] w fun e w'=>e=.returned (.int .u8 (c:Int))∧PR w' rb s (i+1) av nv fv∧w.grownBy w' (some rb):=by
 have CB:=qH<|readByte_yes rb s i av nv fv w h hs hi;obtain⟨x,hx⟩:=nmd (bat s i);rw[hx]at CB hc;clear h hx;by_cases h1:x=34
 ·have e0:c=34:=by subst h1;simp[escB]at hc;exact hc.symm
  subst h1;subst e0;clear hc;go_enter func149,ntmps149;go_wp2_with fail;refine CB.mono ?_;rintro e w1 ⟨rfl,h1,g1⟩;have HR:=qH<|h1;have HG:=qH<|g1;clear h1 g1 CB;go_wp2;go_ret;exact⟨rfl,HR,HG⟩
 ·by_cases h2:x=92
  ·have e0:c=92:=by subst h2;simp[escB]at hc;exact hc.symm
   subst h2;subst e0;clear hc;go_enter func149,ntmps149;go_wp2_with fail;refine CB.mono ?_;rintro e w1 ⟨rfl,h1,g1⟩;have HR:=qH<|h1;have HG:=qH<|g1;clear h1 g1 CB;go_wp2;go_ret;exact⟨rfl,HR,HG⟩
  ·have h3:x=110:=by
    by_cases h3:x=110;·exact h3
    ·simp[escB,h1,h2,h3]at hc
   have e0:c=10:=by subst h3;simp[escB]at hc;exact hc.symm
   subst h3;subst e0;clear hc h1 h2;go_enter func149,ntmps149;go_wp2_with fail;refine CB.mono ?_;rintro e w1 ⟨rfl,h1,g1⟩;have HR:=qH<|h1;have HG:=qH<|g1;clear h1 g1 CB;go_wp2;go_ret;exact⟨rfl,HR,HG⟩
theorem readEscaped_no(rb:Nat)(s:ByteArray)(i:Nat)(av nv fv:Value)(eb:Addr)(w:World)(h:PR w rb s i av nv fv)(hs:s.size≤1099511627776)(hi:i<s.size)(hc:escB (bat s i)=none)(hg:8≠rb)(he:w.cell? ⟨8,0,none⟩=some (errV eb)):
 Calls prog 149 #[Pq rb] w fun e w'=>e=.panicked [{v:=faultV (i:Int) (errV eb),recovered:=false}]∧w.grownBy w' (some rb):=by
 have CB:=qH<|readByte_yes rb s i av nv fv w h hs hi;have HN:Hid (∀w,w.cell? ⟨8,0,none⟩=some (errV eb)->Calls prog 60 #[Iq (i:Int)] w fun e w'=>e=.returned (.iface 117 (.agg #[Iq (i:Int),.iface 311 (.pointer (some eb))]))∧w'=w):=fun w he=>noTree_any _ w eb he;have HE:=qH<|he;obtain⟨x,hx⟩:=nmd (bat s i);rw[hx]at CB hc;have n1:x≠34:=by intro hh;subst hh;simp[escB]at hc
 have n2:x≠92:=by intro hh;subst hh;simp[escB]at hc
 have n3:x≠110:=by intro hh;subst hh;simp[escB]at hc
 have e1:((x:Int)==34)=false:=by simp;omega
 have e2:((x:Int)==92)=false:=by simp;omega
 have e3:((x:Int)==110)=false:=by simp;omega
 clear h hx hc he n1 n2 n3;go_enter func149,ntmps149;go_wp2_with fail;refine CB.mono ?_;rintro e w1 ⟨rfl,h1,g1⟩;have HG:=qH<|g1;have c1:w1.cell? ⟨rb,1,none⟩=some (Iq ((i:Int)+1)):=by have:=h1.c1;rw[show((i+1:Nat):Int)=(i:Int)+1 by omega]at this;exact this
 have HE1:=qH<|g1.cell HE (by simpa using hg);clear h1 g1 CB;go_wp2_with fail;refine(HN w1 HE1).mono ?_;rintro e w2 ⟨rfl,hw⟩;obtain rfl:=hw.symm;go_wp2;exact⟨rfl,rfl,HG⟩
end
section
open Go.RowKit Go.Proofs.Tryz
theorem isDigit_any(b:Nat)(w:World)(hb:b<256):
 Calls prog 184 #[.int .u8 (b:Int)] w fun e w'=>e=.returned (.bool (digit b))∧w'=w:=by
 by_cases h1:48≤b
 ·have h1':(48:Int)≤(b:Int):=by omega
  by_cases h2:b≤57
  ·have h2':(b:Int)≤57:=by omega
   have HL:Hid (digit b=true):=by show _=_;simp[digit,h1,h2]
   have e1:=decide_eq_true h1';have e2:=decide_eq_true h2';go_enter func184,ntmps184;go_wp2;go_ret;exact⟨by rw[HL.out];rfl,rfl⟩
  ·have h2':¬(b:Int)≤57:=by omega
   have HL:Hid (digit b=false):=by show _=_;simp[digit,h2]
   have e1:=decide_eq_true h1';have e2:=decide_eq_false h2';go_enter func184,ntmps184;go_wp2;go_ret;exact⟨by rw[HL.out];rfl,rfl⟩
 ·have h1':¬(48:Int)≤(b:Int):=by omega
  have HL:Hid (digit b=false):=by show _=_;simp[digit,h1]
  have e1:=decide_eq_false h1';go_enter func184,ntmps184;go_wp2;go_ret;exact⟨by rw[HL.out];rfl,rfl⟩
theorem digits_any(rb:Nat)(s:ByteArray)(i:Nat)(av nv fv:Value)(w:World)(h:PR w rb s i av nv fv)(hs:s.size≤1099511627776)(hi:i≤s.size):
 Calls prog 144 #[Pq rb,.func (.func 184) #[] #[]] w fun e w'=>e=.returned (.tuple #[.string (s.extract (sk s i) (run digit s (sk s i))),Iq (sk s i:Int)])∧PR w' rb s (run digit s (sk s i)) av nv fv∧w.grownBy w' (some rb):=
 readAll_any 184 (enters_of func184 (by kernel_rfl) rfl) digit (by rfl) (fun b w hb=>isDigit_any b w hb) rb s i av nv fv w h hs hi
end
end Go.Proofs.YtmbefonnkkhfgaaGreatDoor
