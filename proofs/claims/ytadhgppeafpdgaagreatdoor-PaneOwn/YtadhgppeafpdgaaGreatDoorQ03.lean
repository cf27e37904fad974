import Derived.Test.YtadhgppeafpdgaaGreatDoorQ02
import Derived.Shelf.Abstract
set_option linter.all false
set_option maxRecDepth 100000
set_option maxHeartbeats 16000000
namespace Go.Proofs.YtadhgppeafpdgaaGreatDoor
open Go.RowKit Go.Proofs.Tryz
structure PR(W:World)(rb:Nat)(s:ByteArray)(i:Nat)(av nv fv:Value):Prop where
 lt:rb<W.heap.size
 c0:W.cell? (aq rb 0)=some (.string s)
 c1:W.cell? (aq rb 1)=some (Iq (i:Int))
 c2:W.cell? (aq rb 2)=some av
 c3:W.cell? (aq rb 3)=some nv
 c4:W.cell? (aq rb 4)=some fv
 fz:∀j,W.frozen? (aq rb j)=false
theorem PR.below{W W'}{rb}{s}{i}{av nv fv}(h:PR W rb s i av nv fv)(hb:Bt W W'):PR W' rb s i av nv fv:=
 have k:∀j v,W.cell? (aq rb j)=some v->W'.cell? (aq rb j)=some v:=fun j v e=>(hb.cell (p:=(aq rb j)) h.lt).trans e
 ⟨zz007 h.lt hb.size,k _ _ h.c0,k _ _ h.c1,k _ _ h.c2,k _ _ h.c3,k _ _ h.c4,fun j=>(hb.frozen (p:=(aq rb j)) h.lt).trans (h.fz j)⟩
theorem PR.drewN{W}{rb}{s}{i}{av nv fv}(h:PR W rb s i av nv fv)  n  :PR (W.drewN n) rb s i av nv fv:=
 ⟨h.lt,h.c0,h.c1,h.c2,h.c3,h.c4,h.fz⟩
theorem PR.setI{W}{rb}{s}{i}{av nv fv}(h:PR W rb s i av nv fv)(i':Nat):PR (W.setCell (aq rb 1) (Iq (i':Int))) rb s i' av nv fv:=
 ⟨by simpa using h.lt,bN (by omega) h.c0,pu h.c1,bN (by omega) h.c2,bN (by omega) h.c3,bN (by omega) h.c4,fun j=>by rw[kO];exact h.fz j⟩
def prI(W:World)(rb:Nat):Nat:=match W.cell? (aq rb 1)with
 |some (.int _ x)=>x.toNat
 |_=>0
theorem PR.prI{W:World}{rb:Nat}{s:ByteArray}{i:Nat}{av nv fv:Value}(h:PR W rb s i av nv fv):prI W rb=i:=by unfold Go.Proofs.YtadhgppeafpdgaaGreatDoor.prI;rw[h.c1];simp
theorem skipBlanks_any(rb:Nat)(s:ByteArray)(i:Nat)(av nv fv:Value)(w:World)(h:PR w rb s i av nv fv)(hs:s.size<=1099511627776)(hi:i<=s.size):
 Cw 60 #[Pq rb] w fun e w'=>e=Rw (.tuple #[])/\PR w' rb s (sk s i) av nv fv/\w.grownBy w' (some rb):=by
 have HR:=qH<|h;clear h;go_enter func60,ntmps60;go_wp2;go_loopw[2] (fun _ wr=>∃k:Nat,k<=s.size/\Hid (sk s k=sk s i)/\Hid (PR wr rb s k av nv fv)/\Hid (w.grownBy wr (some rb))) (fun _ wr=>s.size-prI wr rb);case atStart=>exact⟨i,hi,rfl,HR,zl _ _⟩
 case round=>
  obtain⟨k,hk,HK,HS,HG⟩:=hrel;have hs1:=HS.out;have c0:=hs1.c0;have c1:=hs1.c1;have f1:=hs1.fz 1;by_cases hlt:k<s.size
  ·have aR:(k:Int)<(s.size:Int):=by omega
   obtain⟨x,hx⟩:=af (s[k].toNat);have sU:dS s k=x:=by rw[km hlt,hx]
   by_cases hb:x=32
   ·skip;have HN:=qH<|fun q=>by have:=(HS.drewN q).setI (k+1);rw[show((k+1:Nat):Int)=(k:Int)+1 by omega]at this;exact this
    have Gz:Hid (sk s (k+1)=sk s i):=by rw[<-HK.out];exact(vk hlt (by grind[blank])).symm
    have hrd:=HS.prI;have Jq:=qH<|hrd;subst hb;clear hs1 HK HS sU hrd;go_wp2_with fail;go_quiet(fail);go_wp2;go_roundw;case rel=>exact⟨k+1,by omega,Gz,HN _,gr_trans (gr_trans HG (cN _ _ _)) (fw _ _ _ _)⟩
    case measure=>rw[(HN _).prI,Jq.out];omega
   ·by_cases dE:x=10
    ·skip;have HN:=qH<|fun q=>by have:=(HS.drewN q).setI (k+1);rw[show((k+1:Nat):Int)=(k:Int)+1 by omega]at this;exact this
     have Gz:Hid (sk s (k+1)=sk s i):=by rw[<-HK.out];exact(vk hlt (by grind[blank])).symm
     have hrd:=HS.prI;have Jq:=qH<|hrd;subst dE;clear hs1 HK HS sU hrd;go_wp2_with fail;go_quiet(fail);go_wp2;go_roundw;case rel=>exact⟨k+1,by omega,Gz,HN _,gr_trans (gr_trans HG (cN _ _ _)) (fw _ _ _ _)⟩
     case measure=>rw[(HN _).prI,Jq.out];omega
    ·have HE:Hid (PR wr rb s (sk s i) av nv fv):=by have:sk s k=k:=vm (by grind[blank]);rw[<-HK.out,this];exact HS
     have e1:((x:Int)==32)=false:=by simp;omega
     have e2:((x:Int)==10)=false:=by simp;omega
     clear hs1 HK HS sU;go_wp2_with fail;go_quiet(fail);go_wp2;go_end0;exact⟨rfl,HE.drewN _,gr_trans HG (cN _ _ _)⟩
  ·have aR:¬(k:Int)<(s.size:Int):=by omega
   have hd:=decide_eq_false aR;have HE:Hid (PR wr rb s (sk s i) av nv fv):=by have:sk s k=k:=IB hlt;rw[<-HK.out,this];exact HS
   clear hs1 HK HS;go_wp2_with fail;go_quiet(fail);go_wp2;go_end0;exact⟨rfl,HE.drewN _,gr_trans HG (cN _ _ _)⟩
theorem mM(rb:Nat)(s:ByteArray)(i:Nat)(av nv fv:Value)(c:Nat)(w:World)(h:PR w rb s i av nv fv)(hs:s.size<=1099511627776)(hi:i<=s.size)(hc:c<256):
 Cw 113 #[Pq rb,.int .u8 (c:Int)] w fun e w'=>e=Rw (.bool (a_ s i c))/\PR w' rb s (aD s i c) av nv fv/\w.grownBy w' (some rb):=by
 have CS:=qH<|skipBlanks_any rb s i av nv fv w h hs hi;obtain⟨j,hj⟩:=af (sk s i);have ut:=ng s i hi;have HGI:Hid (aD s i c=if dS s j=c then j+1 else j):=by show _=_;unfold aD;rw[hj]
 have HIA:Hid (a_ s i c=(dS s j==c)):=by show _=_;unfold a_;rw[hj]
 rw[hj]at CS ut;clear h hj;go_enter func113,ntmps113;go_wp2_with fail;refine CS.mono ?_;rintro e w1 ⟨rfl,h1,g1⟩;have HR:=qH<|h1;have HG:=qH<|g1;have c0:=h1.c0;have c1:=h1.c1;have f1:=h1.fz 1;clear h1 g1 CS;by_cases hlt:j<s.size
 ·have aR:(j:Int)<(s.size:Int):=by omega
  have el:((j:Int)==(s.size:Int))=false:=by simp;omega
  obtain⟨x,hx⟩:=af (s[j].toNat);have sU:dS s j=x:=by rw[km hlt,hx]
  by_cases hxc:x=c
  ·have HN:Hid (∀q,PR ((w1.drewN q).setCell (aq rb 1) (Iq ((j:Int)+1))) rb s (aD s i c) av nv fv):=fun q=>by rw[HGI.out,sU,if_pos hxc];have:=(HR.drewN q).setI (j+1);grind
   have HE:Hid (a_ s i c=true):=by show _=_;rw[HIA.out,sU];simpa using hxc
   subst hxc;clear sU HR;go_wp2_with fail;go_quiet(fail);go_wp2;go_ret;exact⟨by rw[HE.out];rfl,HN _,gr_trans (gr_trans HG (cN _ _ _)) (fw _ _ _ _)⟩
  ·have HN:Hid (PR w1 rb s (aD s i c) av nv fv):=by rw[HGI.out,sU,if_neg hxc];exact HR
   have HE:Hid (a_ s i c=false):=by show _=_;rw[HIA.out,sU];simpa using hxc
   have ex:((x:Int)!=(c:Int))=true:=by simp;omega
   clear sU HR;go_wp2_with fail;go_quiet(fail);go_wp2;go_ret;exact⟨by rw[HE.out];rfl,HN.drewN _,gr_trans HG (cN _ _ _)⟩
 ·have aR:¬(j:Int)<(s.size:Int):=by omega
  have el:((j:Int)==(s.size:Int))=true:=by simp;omega
  have hbo:=ir hlt;have HN:Hid (PR w1 rb s (aD s i c) av nv fv):=by rw[HGI.out,hbo,if_neg (by omega)];exact HR
  have HE:Hid (a_ s i c=false):=by show _=_;rw[HIA.out,hbo];simp;omega
  clear hbo HR;go_wp2_with fail;go_quiet(fail);go_wp2;go_ret;exact⟨by rw[HE.out];rfl,HN.drewN _,gr_trans HG (cN _ _ _)⟩
theorem in1(nb o:Nat)(w:World):Cw 96 #[.pointer (some (aq nb o))] w fun e w'=>e=Rw (.pointer (some (aq nb (o+1))))/\w'=w:=by go_enter func96,ntmps96;go_wp2;go_ret;simp_all
theorem in2(nb o:Nat)(w:World):Cw 97 #[.pointer (some (aq nb o))] w fun e w'=>e=Rw (.pointer (some (aq nb (o+2))))/\w'=w:=by go_enter func97,ntmps97;go_wp2;go_ret;simp_all
theorem in3(nb o:Nat)(w:World):Cw 98 #[.pointer (some (aq nb o))] w fun e w'=>e=Rw (.pointer (some (aq nb (o+3))))/\w'=w:=by go_enter func98,ntmps98;go_wp2;go_ret;simp_all
theorem in4(nb o:Nat)(w:World):Cw 99 #[.pointer (some (aq nb o))] w fun e w'=>e=Rw (.pointer (some (aq nb (o+4))))/\w'=w:=by go_enter func99,ntmps99;go_wp2;go_ret;simp_all
theorem in5(nb o:Nat)(w:World):Cw 100 #[.pointer (some (aq nb o))] w fun e w'=>e=Rw (.pointer (some (aq nb (o+5))))/\w'=w:=by go_enter func100,ntmps100;go_wp2;go_ret;simp_all
theorem in6(nb o:Nat)(w:World):Cw 101 #[.pointer (some (aq nb o))] w fun e w'=>e=Rw (.pointer (some (aq nb (o+6))))/\w'=w:=by go_enter func101,ntmps101;go_wp2;go_ret;exact⟨rfl,rfl⟩
theorem in7(nb o:Nat)(w:World):Cw 102 #[.pointer (some (aq nb o))] w fun e w'=>e=Rw (.pointer (some (aq nb (o+7))))/\w'=w:=by go_enter func102,ntmps102;go_wp2;go_ret;exact⟨rfl,rfl⟩
theorem in8(nb o:Nat)(w:World):Cw 103 #[.pointer (some (aq nb o))] w fun e w'=>e=Rw (.pointer (some (aq nb (o+8))))/\w'=w:=by go_enter func103,ntmps103;go_wp2;go_ret;simp_all
theorem in9(nb o:Nat)(w:World):Cw 104 #[.pointer (some (aq nb o))] w fun e w'=>e=Rw (.pointer (some (aq nb (o+9))))/\w'=w:=by go_enter func104,ntmps104;go_wp2;go_ret;simp_all
theorem zhS(nb o:Nat)(w:World):Cw 105 #[.pointer (some (aq nb o))] w fun e w'=>e=Rw (.pointer (some (aq nb (o+10))))/\w'=w:=by go_enter func105,ntmps105;go_wp2;go_ret;simp_all
theorem zhT(nb o:Nat)(w:World):Cw 106 #[.pointer (some (aq nb o))] w fun e w'=>e=Rw (.pointer (some (aq nb (o+11))))/\w'=w:=by go_enter func106,ntmps106;go_wp2;go_ret;simp_all
theorem zhU(nb o:Nat)(w:World):Cw 107 #[.pointer (some (aq nb o))] w fun e w'=>e=Rw (.pointer (some (aq nb (o+12))))/\w'=w:=by go_enter func107,ntmps107;go_wp2;go_ret;simp_all
def jO:Array Value:=#[
 .string ⟨#[105,100]⟩,.int .u64 127,Iq 999999,Iq 0,.bool true,.func (.func 96) #[] #[],
 .string ⟨#[109,105,110]⟩,.int .u64 127,Iq 100000,Iq 0,.bool false,.func (.func 97) #[] #[],
 .string ⟨#[109,97,120]⟩,.int .u64 127,Iq 100000,Iq (-1),.bool false,.func (.func 98) #[] #[],
 .string ⟨#[119,101,105,103,104,116]⟩,.int .u64 127,Iq 100000,Iq 1,.bool false,.func (.func 99) #[] #[],
 .string ⟨#[103,97,112]⟩,.int .u64 3,Iq 100,Iq 0,.bool false,.func (.func 100) #[] #[],
 .string ⟨#[112,97,100]⟩,.int .u64 8,Iq 20,Iq 0,.bool false,.func (.func 101) #[] #[],
 .string ⟨#[98,111,114,100,101,114]⟩,.int .u64 8,Iq 1,Iq 1,.bool false,.func (.func 102) #[] #[],
 .string ⟨#[97,108,105,103,110]⟩,.int .u64 32,Iq 2,Iq 0,.bool false,.func (.func 103) #[] #[],
 .string ⟨#[119,114,97,112]⟩,.int .u64 32,Iq 1,Iq 1,.bool false,.func (.func 104) #[] #[],
 .string ⟨#[102,103]⟩,.int .u64 127,Iq 8,Iq 0,.bool false,.func (.func 105) #[] #[],
 .string ⟨#[98,103]⟩,.int .u64 127,Iq 8,Iq 0,.bool false,.func (.func 106) #[] #[],
 .string ⟨#[98,111,108,100]⟩,.int .u64 127,Iq 1,Iq 0,.bool false,.func (.func 107) #[] #[]]
theorem tJ(w:World):Cw 58 #[] w fun e w'=>e=Rw (Sq w.heap.size 12 12)/\w'=w.alloc (.cells jO 195):=by go_enter func58,ntmps58;go_wp2;go_ret;exact⟨rfl,rfl⟩
def aT(eb:Addr):Value:=.iface 371 (.pointer (some eb))
def cD(iX:Int)(ev:Value):Value:=.iface 138 (.agg #[Iq iX,ev])
theorem fE(iX:Int)(w:World)(eb:Addr)(he:w.cell? (aq 9 0)=some (aT eb)):
 Cw 61 #[Iq iX] w fun e w'=>e=Rw (cD iX (aT eb))/\w'=w:=by have he':w.cell? (aq 9 0)=some (.iface 371 (.pointer (some eb))):=he;clear he;go_enter func61,ntmps61;go_wp2;go_ret;exact⟨rfl,rfl⟩
theorem iL(rb:Nat)(s:ByteArray)(i:Nat)(av nv fv:Value)(c:Nat)(w:World)(h:PR w rb s i av nv fv)(hs:s.size<=1099511627776)(hi:i<=s.size)(hc:c<256)(dm:a_ s i c=true):
 Cw 116 #[Pq rb,.int .u8 (c:Int)] w fun e w'=>e=Rw (.tuple #[])/\PR w' rb s (aD s i c) av nv fv/\w.grownBy w' (some rb):=by
 have CT:Hid (Cw 113 #[Pq rb,.int .u8 (c:Int)] w fun e w'=>e=Rw (.bool true)/\PR w' rb s (aD s i c) av nv fv/\w.grownBy w' (some rb)):=by have:=mM rb s i av nv fv c w h hs hi hc;rw[dm]at this;exact this
 clear h dm;go_enter func116,ntmps116;go_wp2_with fail;refine CT.mono ?_;rintro e w1 ⟨rfl,h1,g1⟩;have HR:=qH<|h1;have HG:=qH<|g1;clear h1 g1 CT;go_wp2;go_end0;exact⟨rfl,HR,HG⟩
theorem jS(rb:Nat)(s:ByteArray)(i:Nat)(av nv fv:Value)(eb:Addr)(c:Nat)(w:World)(h:PR w rb s i av nv fv)(hs:s.size<=1099511627776)(hi:i<=s.size)(hc:c<256)(dm:a_ s i c=false)(hg:9≠rb)(he:w.cell? (aq 9 0)=some (aT eb)):
 Cw 116 #[Pq rb,.int .u8 (c:Int)] w fun e w'=>e=.panicked [{v:=cD (sk s i:Int) (aT eb),recovered:=false}]/\w.grownBy w' (some rb):=by
 have CT:Hid (Cw 113 #[Pq rb,.int .u8 (c:Int)] w fun e w'=>e=Rw (.bool false)/\PR w' rb s (sk s i) av nv fv/\w.grownBy w' (some rb)):=by
  have:=mM rb s i av nv fv c w h hs hi hc;have e2:aD s i c=sk s i:=by unfold aD;unfold a_ at dm;rw[if_neg (by grind)]
  rw[dm,e2]at this;exact this
 have HN:Hid (∀w,w.cell? (aq 9 0)=some (aT eb)->Cw 61 #[Iq (sk s i:Int)] w fun e w'=>e=Rw (.iface 138 (.agg #[Iq (sk s i:Int),.iface 371 (.pointer (some eb))]))/\w'=w):=fun w he=>fE _ w eb he;have HE:=qH<|he;obtain⟨j,hj⟩:=af (sk s i);rw[hj]at CT HN⊢;clear h dm he hj;go_enter func116,ntmps116;go_wp2_with fail;refine CT.mono ?_;rintro e w1 ⟨rfl,h1,g1⟩;have HG:=qH<|g1;have c1:=h1.c1;have HE1:=qH<|g1.cell HE (by grind);clear h1 g1 CT;go_wp2_with fail;refine(HN _ HE1).mono ?_;rintro e w2 ⟨rfl,hw⟩;obtain rfl:=hw.symm;go_wp2;exact⟨rfl,rfl,HG⟩
theorem rH(g:Nat)(eg:∀args w,(callFunc g args).run prog w=.ok (.enter g args) w)(p:Nat->Bool)(hp:p 256=false)(hg:∀(b:Nat) w,b<256->Cw g #[.int .u8 (b:Int)] w fun e w'=>e=Rw (.bool (p b))/\w'=w)
 (rb:Nat) (s:ByteArray) (i:Nat) (av nv fv:Value) (w:World) (h:PR w rb s i av nv fv) (hs:s.size<=1099511627776) (hi:i<=s.size):
 Cw 149 #[Pq rb,.func (.func g) #[] #[]] w fun e w'=>e=Rw (.tuple #[.string (s.extract (sk s i) (run p s (sk s i))),Iq (sk s i:Int)])/\PR w' rb s (run p s (sk s i)) av nv fv/\w.grownBy w' (some rb):=by
 have CS:=qH<|skipBlanks_any rb s i av nv fv w h hs hi;have HP:=qH<|hg;obtain⟨j,hj⟩:=af (sk s i);have ut:=ng s i hi;rw[hj]at CS ut⊢;clear h hj hg;go_enter func149,ntmps149;go_wp2_with fail;refine CS.mono ?_;rintro e w1 ⟨rfl,h1,g1⟩;have HR:=qH<|h1;have HG1:=qH<|g1;have d1:=h1.c1;clear h1 g1 CS;go_wp2;clear d1;go_loopw[13] (fun _ wr=>∃k:Nat,j<=k/\k<=s.size/\Hid (run p s k=run p s j)/\Hid (PR wr rb s k av nv fv)/\Hid (w.grownBy wr (some rb))) (fun _ wr=>s.size-prI wr rb);case atStart=>exact⟨j,ae _,ut,rfl,HR,HG1⟩
 case round=>
  obtain⟨k,xG,hk,HK,HS,HG⟩:=hrel;have hs1:=HS.out;have c0:=hs1.c0;have c1:=hs1.c1;have f1:=hs1.fz 1;have Jq:=qH<|hs1.prI;by_cases hlt:k<s.size
  ·have aR:(k:Int)<(s.size:Int):=by omega
   have el:=decide_eq_true aR;obtain⟨x,hx⟩:=af (s[k].toNat);have sU:dS s k=x:=by rw[km hlt,hx]
   have ky:x<256:=by rw[<-sU];exact Nn hlt
   by_cases Hw:p x=true
   ·have HQ:=qH<|fun w=>by have:=HP x w ky;rw[Hw]at this;exact this
    have Gz:Hid (run p s (k+1)=run p s j):=by rw[<-HK.out];exact(vk hlt (by grind)).symm
    have HN:=qH<|fun q=>by have:=(HS.drewN q).setI (k+1);rw[show((k+1:Nat):Int)=(k:Int)+1 by omega]at this;exact this
    clear hs1 HK HS sU Hw;go_wp2_with fail;go_quiet(first|(go_at_fn g;exact Calls.quiet_of_same (HQ _)));go_wp2;go_roundw;case rel=>exact⟨k+1,by omega,by omega,Gz,HN _,gr_trans (gr_trans HG (cN _ _ _)) (fw _ _ _ _)⟩
    case measure=>rw[(HN _).prI,Jq.out];omega
   ·have HQ:=qH<|fun w=>by have:=HP x w ky;rw[show p x=false by grind]at this;exact this
    have HRK:Hid (run p s j=k):=by show _=_;rw[<-HK.out];exact vm (by grind)
    have zgM:(j:Int)<=(k:Int):=by omega
    have hks:(k:Int)<=(s.size:Int):=by omega
    clear hs1 HK sU Hw;go_wp2_with fail;go_quiet(first|(go_at_fn g;exact Calls.quiet_of_same (HQ _)));go_wp2_with fail;go_quiet(fail);go_wp2;go_ret2;exact⟨by rw[HRK.out];rfl,by rw[HRK.out];exact(HS.drewN _).drewN _,gr_trans (gr_trans HG (cN _ _ _)) (cN _ _ _)⟩
  ·have aR:¬(k:Int)<(s.size:Int):=by omega
   have el:=decide_eq_false aR;have HRK:Hid (run p s j=k):=by show _=_;rw[<-HK.out];exact IB hlt
   have zgM:(j:Int)<=(k:Int):=by omega
   have hks:(k:Int)<=(s.size:Int):=by omega
   clear hs1 HK;go_wp2_with fail;go_quiet(fail);go_wp2_with fail;go_quiet(fail);go_wp2;go_ret2;exact⟨by rw[HRK.out];rfl,by rw[HRK.out];exact(HS.drewN _).drewN _,gr_trans (gr_trans HG (cN _ _ _)) (cN _ _ _)⟩
def kdL:List Nat:=[127,127,127,127,3,8,8,32,32,127,127,127]
def fnL:List Nat:=[96,97,98,99,100,101,102,103,104,105,106,107]
def iz(k:Nat):ByteArray:=cE[k]?.getD ByteArray.empty
def oS(k:Nat):Nat:=kdL[k]?.getD 0
def nW(k:Nat):Int:=lF[k]?.getD 0
def oe(k:Nat):Int:=aV[k]?.getD 0
def sF(k:Nat):Bool:=k==0
def zh(k:Nat):Nat:=fnL[k]?.getD 0
def zh7(k:Nat):List Value:=[.string (iz k),.int .u64 (oS k:Int),Iq (nW k),Iq (oe k),.bool (sF k),.func (.func (zh k)) #[] #[]]
structure MO(W:World)(ab:Nat):Prop where
 lt:ab<W.heap.size
 row:∀k,k<12->∀t,t<6->W.cell? (aq ab (k*6+t))=(zh7 k)[t]?
theorem MO.fr{W W'}{ab B r}(h:MO W ab)(f:Fr B r W W')(h1:ab<B)(h2:ab≠r):MO W' ab:=
 ⟨zz007 h.lt f.size,fun k hk t ht=>by rw[ba (f.block ab h1 h2)];exact h.row k hk t ht⟩
theorem MO.at{W}{ab k}(h:MO W ab)(hk:k<12):W.cell? (aq ab (k*6))=some (.string (iz k))/\W.cell? (aq ab (k*6+1))=some (.int .u64 (oS k:Int))/\W.cell? (aq ab (k*6+2))=some (Iq (nW k))/\W.cell? (aq ab (k*6+3))=some (Iq (oe k))/\W.cell? (aq ab (k*6+4))=some (.bool (sF k))/\W.cell? (aq ab (k*6+5))=some (.func (.func (zh k)) #[] #[]):=
 ⟨h.row k hk 0 (by omega),h.row k hk 1 (by omega),h.row k hk 2 (by omega),h.row k hk 3 (by omega),h.row k hk 4 (by omega),h.row k hk 5 (by omega)⟩
theorem Vh(w:World):MO (w.alloc (.cells jO 195)) w.heap.size:=by
 refine⟨by simp,fun k hk t ht=>?_⟩;rw[World.cell?_alloc_at _ _ _ _ rfl];have:k=0\/k=1\/k=2\/k=3\/k=4\/k=5\/k=6\/k=7\/k=8\/k=9\/k=10\/k=11:=by omega
 have TO:t=0\/t=1\/t=2\/t=3\/t=4\/t=5:=by omega
 rcases this with rfl|rfl|rfl|rfl|rfl|rfl|rfl|rfl|rfl|rfl|rfl|rfl<;>rcases TO with rfl|rfl|rfl|rfl|rfl|rfl<;>rfl
def zfn(g k:Nat):Prop:=(∀args w,(callFunc g args).run prog w=.ok (.enter g args) w)/\∀(nb o:Nat) (w:World),Cw g #[.pointer (some (aq nb o))] w fun e w'=>e=Rw (.pointer (some (aq nb (o+(k+1)))))/\w'=w
theorem in_at  k  (hk:k<12):zfn (zh k) k:=by
 have:k=0\/k=1\/k=2\/k=3\/k=4\/k=5\/k=6\/k=7\/k=8\/k=9\/k=10\/k=11:=by omega
 rcases this with rfl|rfl|rfl|rfl|rfl|rfl|rfl|rfl|rfl|rfl|rfl|rfl;·exact⟨enters_of func96 (by kernel_rfl) rfl,in1⟩
 ·exact⟨enters_of func97 (by kernel_rfl) rfl,in2⟩
 ·exact⟨enters_of func98 (by kernel_rfl) rfl,in3⟩
 ·exact⟨enters_of func99 (by kernel_rfl) rfl,in4⟩
 ·exact⟨enters_of func100 (by kernel_rfl) rfl,in5⟩
 ·exact⟨enters_of func101 (by kernel_rfl) rfl,in6⟩
 ·exact⟨enters_of func102 (by kernel_rfl) rfl,in7⟩
 ·exact⟨enters_of func103 (by kernel_rfl) rfl,in8⟩
 ·exact⟨enters_of func104 (by kernel_rfl) rfl,in9⟩
 ·exact⟨enters_of func105 (by kernel_rfl) rfl,zhS⟩
 ·exact⟨enters_of func106 (by kernel_rfl) rfl,zhT⟩
 ·exact⟨enters_of func107 (by kernel_rfl) rfl,zhU⟩
theorem zz(b:Nat)(w:World)(hb:b<256):
 Cw 150 #[.int .u8 (b:Int)] w fun e w'=>e=Rw (.bool (aB b))/\w'=w:=by
 by_cases h1:97<=b
 ·have xC:(97:Int)<=(b:Int):=by omega
  by_cases h2:b<=122
  ·have zn:(b:Int)<=122:=by omega
   have HL:Hid (aB b=true):=by show _=_;simp[aB,h1,h2]
   have e1:=decide_eq_true xC;have e2:=decide_eq_true zn;go_enter func150,ntmps150;go_wp2;go_ret;exact⟨by rw[HL.out];rfl,rfl⟩
  ·have zn:¬(b:Int)<=122:=by omega
   have HL:Hid (aB b=false):=by show _=_;simp[aB,h2]
   have e1:=decide_eq_true xC;have e2:=decide_eq_false zn;go_enter func150,ntmps150;go_wp2;go_ret;exact⟨by rw[HL.out];rfl,rfl⟩
 ·have xC:¬(97:Int)<=(b:Int):=by omega
  have HL:Hid (aB b=false):=by show _=_;simp[aB,h1]
  have e1:=decide_eq_false xC;go_enter func150,ntmps150;go_wp2;go_ret;exact⟨by rw[HL.out];rfl,rfl⟩
theorem pi(rb:Nat)(s:ByteArray)(i:Nat)(av nv fv:Value)(w:World)(h:PR w rb s i av nv fv)(hs:s.size<=1099511627776)(hi:i<=s.size):
 Cw 108 #[Pq rb] w fun e w'=>e=Rw (.tuple #[.string (s.extract (sk s i) (run aB s (sk s i))),Iq (sk s i:Int)])/\PR w' rb s (run aB s (sk s i)) av nv fv/\w.grownBy w' (some rb):=by
 have CA:Hid (Cw 149 #[Pq rb,.func (.func 150) #[] #[]] w fun e w'=>e=Rw (.tuple #[.string (s.extract (sk s i) (run aB s (sk s i))),Iq (sk s i:Int)])/\PR w' rb s (run aB s (sk s i)) av nv fv/\w.grownBy w' (some rb)):=
  rH 150 (enters_of func150 (by kernel_rfl) rfl) aB (by rfl) (fun b w hb=>zz b w hb) rb s i av nv fv w h hs hi;obtain⟨j,hj⟩:=af (sk s i);rw[hj]at CA⊢;obtain⟨t,ht⟩:=af (s.extract j (run aB s j));rw[ht]at CA⊢;clear h hj ht;go_enter func108,ntmps108;go_wp2_with fail;refine CA.mono ?_;rintro e w1 ⟨rfl,h1,g1⟩;have HR:=qH<|h1;have HG:=qH<|g1;clear h1 g1 CA;go_wp2;go_ret2;exact⟨rfl,HR,HG⟩
theorem readByte_yes(rb:Nat)(s:ByteArray)(i:Nat)(av nv fv:Value)(w:World)(h:PR w rb s i av nv fv)(hs:s.size<=1099511627776)(hi:i<s.size):
 Cw 152 #[Pq rb] w fun e w'=>e=Rw (.int .u8 (dS s i:Int))/\PR w' rb s (i+1) av nv fv/\w.grownBy w' (some rb):=by
 have HR:=qH<|h;have c0:=h.c0;have c1:=h.c1;have f1:=h.fz 1;have el:((i:Int)==(s.size:Int))=false:=by simp;omega
 have aR:(i:Int)<(s.size:Int):=by omega
 obtain⟨x,hx⟩:=af (s[i].toNat);have sU:dS s i=x:=by rw[km hi,hx]
 rw[sU];have HN:=qH<|fun q=>by have:=(HR.drewN q).setI (i+1);rw[show((i+1:Nat):Int)=(i:Int)+1 by omega]at this;exact this
 clear h sU;go_enter func152,ntmps152;go_wp2_with fail;go_quiet(fail);go_wp2_with fail;go_quiet(fail);go_wp2;go_ret;exact⟨rfl,(HN _).drewN _,gr_trans (gr_trans (cN _ _ _) (fw _ _ _ _)) (cN _ _ _)⟩
theorem readByte_no(rb:Nat)(s:ByteArray)(i:Nat)(av nv fv:Value)(eb:Addr)(w:World)(h:PR w rb s i av nv fv)(hi:i=s.size)(he:w.cell? (aq 9 0)=some (aT eb)):
 Cw 152 #[Pq rb] w fun e w'=>e=.panicked [{v:=cD (i:Int) (aT eb),recovered:=false}]/\w.grownBy w' (some rb):=by
 have HN:Hid (∀w,w.cell? (aq 9 0)=some (aT eb)->Cw 61 #[Iq (i:Int)] w fun e w'=>e=Rw (.iface 138 (.agg #[Iq (i:Int),.iface 371 (.pointer (some eb))]))/\w'=w):=fun w he=>fE _ w eb he;have HE:=qH<|he;have c0:=h.c0;have c1:=h.c1;have el:((i:Int)==(s.size:Int))=true:=by simp;omega
 clear h he hi;go_enter func152,ntmps152;go_wp2_with fail;go_quiet(fail);go_wp2_with fail;refine(HN (w.drewN _) HE).mono ?_;rintro e w2 ⟨rfl,hw⟩;obtain rfl:=hw.symm;go_wp2;exact⟨rfl,rfl,cN _ _ _⟩
def nM(x:Nat):Option Nat:=if x=34 then some 34 else if x=92 then some 92 else if x=110 then some 10 else none
theorem readEscaped_yes(rb:Nat)(s:ByteArray)(i:Nat)(av nv fv:Value)(w:World)(h:PR w rb s i av nv fv)(hs:s.size<=1099511627776)(hi:i<s.size)(c:Nat)(hc:nM (dS s i)=some c):
 Cw 154 #[Pq rb] w fun e w'=>e=Rw (.int .u8 (c:Int))/\PR w' rb s (i+1) av nv fv/\w.grownBy w' (some rb):=by
 have CB:=qH<|readByte_yes rb s i av nv fv w h hs hi;obtain⟨x,hx⟩:=af (dS s i);rw[hx]at CB hc;clear h hx;by_cases h1:x=34
 ·have e0:c=34:=by subst h1;simp[nM]at hc;exact hc.symm
  subst h1;subst e0;clear hc;go_enter func154,ntmps154;go_wp2_with fail;refine CB.mono ?_;rintro e w1 ⟨rfl,h1,g1⟩;have HR:=qH<|h1;have HG:=qH<|g1;clear h1 g1 CB;go_wp2;go_ret;exact⟨rfl,HR,HG⟩
 ·by_cases h2:x=92;focus
   have e0:c=92:=by subst h2;simp[nM]at hc;exact hc.symm
   subst h2;subst e0;clear hc
  rotate_left;focus
   have h3:x=110:=by
    by_cases h3:x=110;·exact h3
    ·grind[nM]
   have e0:c=10:=by subst h3;simp[nM]at hc;exact hc.symm
   subst h3;subst e0;clear hc h1 h2
  rotate_left;all_goals go_enter func154,ntmps154;go_wp2_with fail;refine CB.mono ?_;rintro e w1 ⟨rfl,h1,g1⟩;have HR:=qH<|h1;have HG:=qH<|g1;clear h1 g1 CB;go_wp2;go_ret;exact⟨rfl,HR,HG⟩
theorem ve(rb:Nat)(s:ByteArray)(i:Nat)(av nv fv:Value)(eb:Addr)(w:World)(h:PR w rb s i av nv fv)(hs:s.size<=1099511627776)(hi:i<s.size)(hc:nM (dS s i)=none)(hg:9≠rb)(he:w.cell? (aq 9 0)=some (aT eb)):
 Cw 154 #[Pq rb] w fun e w'=>e=.panicked [{v:=cD (i:Int) (aT eb),recovered:=false}]/\w.grownBy w' (some rb):=by
 have CB:=qH<|readByte_yes rb s i av nv fv w h hs hi;have HN:Hid (∀w,w.cell? (aq 9 0)=some (aT eb)->Cw 61 #[Iq (i:Int)] w fun e w'=>e=Rw (.iface 138 (.agg #[Iq (i:Int),.iface 371 (.pointer (some eb))]))/\w'=w):=fun w he=>fE _ w eb he;have HE:=qH<|he;obtain⟨x,hx⟩:=af (dS s i);rw[hx]at CB hc;have n1:x≠34:=by intro hh;subst hh;simp[nM]at hc
 have n2:x≠92:=by intro hh;subst hh;simp[nM]at hc
 have n3:x≠110:=by intro hh;subst hh;simp[nM]at hc
 have e1:((x:Int)==34)=false:=by simp;omega
 have e2:((x:Int)==92)=false:=by simp;omega
 have e3:((x:Int)==110)=false:=by simp;omega
 clear h hx hc he n1 n2 n3;go_enter func154,ntmps154;go_wp2_with fail;refine CB.mono ?_;rintro e w1 ⟨rfl,h1,g1⟩;have HG:=qH<|g1;have c1:w1.cell? (aq rb 1)=some (Iq ((i:Int)+1)):=by have:=h1.c1;rw[show((i+1:Nat):Int)=(i:Int)+1 by omega]at this;exact this
 have HE1:=qH<|g1.cell HE (by grind);clear h1 g1 CB;go_wp2_with fail;refine(HN w1 HE1).mono ?_;rintro e w2 ⟨rfl,hw⟩;obtain rfl:=hw.symm;go_wp2;exact⟨rfl,rfl,HG⟩
theorem Fe(ws:List ByteArray)(x:ByteArray)(blk off cap n:Nat)(w:World)(hb:blk<w.heap.size)(hc:∀j,j<ws.length->w.cell? (aq blk (off+j))=some (.string (ws[j]?.getD ByteArray.empty)))(hn:ws.length=n)(hn2:n<=1099511627776):
 Cw 248 #[.slice (some (aq blk off)) n cap,.string x] w fun e w'=>e=Rw (Iq (aJ ws x 0))/\w'=w:=by
 have HC:=qH<|hc;have HN:=qH<|hn;clear hc hn;go_enter func248,ntmps248;go_wp2;go_loop[8] (fun i=>∃k:Nat,k<=n/\i=Iq k/\Hid (aJ ws x 0=aJ (ws.drop k) x k)) (fun i=>n-(intOf i).toNat);case atStart=>exact⟨0,bm _,rfl,by show _=_;grind⟩
 case round=>
  obtain⟨k,hk,rfl,HF⟩:=hrel;by_cases hlt:k<n
  ·have aR:(k:Int)<(n:Int):=by omega
   have Wv:k<ws.length:=by rw[HN.out];exact hlt
   have gT:=HC k Wv;obtain⟨y,hy⟩:=af (ws[k]?.getD ByteArray.empty);rw[hy]at gT;have Wn:ws.drop k=y::ws.drop (k+1):=by rw[<-hy,di Wv];exact List.drop_eq_getElem_cons Wv
   have HF2:Hid (aJ ws x 0=if y=x then(k:Int)else aJ (ws.drop (k+1)) x (k+1)):=by show _=_;rw[HF.out,Wn];rfl
   clear Wn hy HF Wv;by_cases e:y=x
   ·have HE:Hid (aJ ws x 0=(k:Int)):=by show _=_;rw[HF2.out,if_pos e]
    subst e;clear HF2;go_wp2;go_ret;exact⟨by rw[HE.out];rfl,rfl⟩
   ·have HE:Hid (aJ ws x 0=aJ (ws.drop (k+1)) x (k+1)):=by show _=_;rw[HF2.out,if_neg e]
    have e1:=Gh (fun h=>e h.symm);clear HF2;go_wp2;go_round;case rel=>grind
    case measure=>simp[intOf];omega
  ·have aR:¬(k:Int)<(n:Int):=by omega
   have HE:Hid (aJ ws x 0=-1):=by show _=_;rw[HF.out,IW (by rw[HN.out];omega)];rfl
   clear HF;go_wp2;go_ret;exact⟨by rw[HE.out];rfl,rfl⟩
theorem Fc(x:ByteArray)(p:Option Addr)(cap:Nat)(w:World):
 Cw 248 #[.slice p 0 cap,.string x] w fun e w'=>e=Rw (Iq (-1))/\w'=w:=by
 go_enter func248,ntmps248;go_wp2;go_loop[8] (fun i=>i=Iq 0) (fun i=>0);case atStart=>rfl
 case round=>subst hrel;go_wp2;go_ret;simp_all
def tC(W:World)(v:Value)(ws:List ByteArray):Prop:=∃p c,v=.slice p ws.length c/\(ws=[]\/∃blk,p=some (aq blk 0)/\blk<W.heap.size/\∀j,j<ws.length->W.cell? (aq blk (0+j))=some (.string (ws[j]?.getD ByteArray.empty)))
theorem index_any  ws   x   v   w  (h:tC w v ws) (hn:ws.length<=1099511627776):
 Cw 248 #[v,.string x] w fun e w'=>e=Rw (Iq (aJ ws x 0))/\w'=w:=by
 obtain⟨p,c,rfl,rfl|⟨blk,rfl,hb,hc⟩⟩:=h;·exact Fc x p c w
 ·exact Fe ws x blk 0 c _ w hb hc rfl hn
theorem contains_any(ws:List ByteArray)(x:ByteArray)(v:Value)(w:World)(h:tC w v ws)(hn:ws.length<=1099511627776):
 Cw 223 #[v,.string x] w fun e w'=>e=Rw (.bool (decide (0<=aJ ws x 0)))/\w'=w:=by have CI:=qH<|index_any ws x v w h hn;obtain⟨p,c,rfl,_⟩:=h;obtain⟨r,hr⟩:=af (aJ ws x 0);rw[hr]at CI⊢;clear hr;go_enter func223,ntmps223;go_wp2_with fail;refine CI.mono ?_;rintro e w1 ⟨rfl,hw⟩;obtain rfl:=hw.symm;go_wp2;go_ret;simp_all
def ofK(m k:Nat):Bool:=(m/2^k) %2==1
theorem O_(n:ByteArray)(m k:Nat)(mo wi:Int)(sg:Bool)(fv:Value)(w:World)(hm:m=127\/m=3\/m=8\/m=32)(hk:k<7):
 Cw 222 #[.agg #[.string n,.int .u64 (m:Int),Iq mo,Iq wi,.bool sg,fv],Iq (k:Int)] w fun e w'=>e=Rw (.bool (ofK m k))/\Bt w w':=by
 have hc:k=0\/k=1\/k=2\/k=3\/k=4\/k=5\/k=6:=by omega
 have hb:=fun o=>(ag _ w).alloc (ae _) o;have HB:=qH<|hb;clear hk hb;rcases hm with rfl|rfl|rfl|rfl<;>rcases hc with rfl|rfl|rfl|rfl|rfl|rfl|rfl;all_goals go_enter func222,ntmps222;go_wp2;go_ret;exact⟨by rfl,HB _⟩
theorem Ca(b:Nat)(w:World)(hb:b<256):
 Cw 224 #[.int .u8 (b:Int)] w fun e w'=>e=Rw (.bool (aP b))/\w'=w:=by
 by_cases h1:48<=b
 ·have xC:(48:Int)<=(b:Int):=by omega
  by_cases h2:b<=57
  ·have zn:(b:Int)<=57:=by omega
   have HL:Hid (aP b=true):=by show _=_;simp[aP,h1,h2]
   have e1:=decide_eq_true xC;have e2:=decide_eq_true zn;go_enter func224,ntmps224;go_wp2;go_ret;exact⟨by rw[HL.out];rfl,rfl⟩
  ·have zn:¬(b:Int)<=57:=by omega
   have HL:Hid (aP b=false):=by show _=_;simp[aP,h2]
   have e1:=decide_eq_true xC;have e2:=decide_eq_false zn;go_enter func224,ntmps224;go_wp2;go_ret;exact⟨by rw[HL.out];rfl,rfl⟩
 ·have xC:¬(48:Int)<=(b:Int):=by omega
  have HL:Hid (aP b=false):=by show _=_;simp[aP,h1]
  have e1:=decide_eq_false xC;go_enter func224,ntmps224;go_wp2;go_ret;exact⟨by rw[HL.out];rfl,rfl⟩
theorem digits_any  rb   s   i   av nv fv   w  (h:PR w rb s i av nv fv) (hs:s.size<=1099511627776) (hi:i<=s.size):
 Cw 149 #[Pq rb,.func (.func 224) #[] #[]] w fun e w'=>e=Rw (.tuple #[.string (s.extract (sk s i) (run aP s (sk s i))),Iq (sk s i:Int)])/\PR w' rb s (run aP s (sk s i)) av nv fv/\w.grownBy w' (some rb):=
 rH 224 (enters_of func224 (by kernel_rfl) rfl) aP (by rfl) (fun b w hb=>Ca b w hb) rb s i av nv fv w h hs hi
theorem PR.setF{W}{rb}{s}{i}{av nv fv}(h:PR W rb s i av nv fv)  fv'  :PR (W.setCell (aq rb 4) fv') rb s i av nv fv':=
 ⟨by simpa using h.lt,bN (by omega) h.c0,bN (by omega) h.c1,bN (by omega) h.c2,bN (by omega) h.c3,pu h.c4,fun j=>by rw[kO];exact h.fz j⟩
theorem Pf(rb:Nat)(s:ByteArray)(i:Nat)(av nv fv:Value)(iX:Int)(w:World)(h:PR w rb s i av nv fv):
 Cw 110 #[Pq rb,.nilIface,Iq iX] w fun e w'=>e=Rw (.tuple #[])/\PR w' rb s i av nv fv/\w.grownBy w' (some rb):=by have HR:=qH<|h;go_enter func110,ntmps110;go_wp2;go_end0;grind[zl]
theorem Fv(rb:Nat)(s:ByteArray)(i:Nat)(av nv:Value)(eb:Addr)(iX:Int)(w:World)(h:PR w rb s i av nv .nilIface):
 Cw 110 #[Pq rb,aT eb,Iq iX] w fun e w'=>e=Rw (.tuple #[])/\PR w' rb s i av nv (cD iX (aT eb))/\w.grownBy w' (some rb):=by have c4:=h.c4;have f4:=h.fz 4;have HN:Hid (PR (w.setCell (aq rb 4) (cD iX (aT eb))) rb s i av nv (cD iX (aT eb))):=h.setF _;show Cw 110 #[Pq rb,.iface 371 (.pointer (some eb)),Iq iX] w _;go_enter func110,ntmps110;go_wp2;go_end0;exact⟨rfl,HN,fw _ _ _ _⟩
theorem Fw(rb:Nat)(s:ByteArray)(i:Nat)(av nv:Value)(eb eb2:Addr)(iX FV:Int)(w:World)(h:PR w rb s i av nv (cD FV (aT eb2))):
 Cw 110 #[Pq rb,aT eb,Iq iX] w fun e w'=>e=Rw (.tuple #[])/\PR w' rb s i av nv (cD FV (aT eb2))/\w.grownBy w' (some rb):=by have HR:=qH<|h;have c4:w.cell? (aq rb 4)=some (.iface 138 (.agg #[Iq FV,.iface 371 (.pointer (some eb2))])):=h.c4;show Cw 110 #[Pq rb,.iface 371 (.pointer (some eb)),Iq iX] w _;go_enter func110,ntmps110;go_wp2;go_end0;grind[zl]
def pj(n depth:Nat)(m d:Addr):Value:=if 100<=n then aT m else if 12<=depth then aT d else .nilIface
theorem Dt(rb:Nat)(s:ByteArray)(i:Nat)(av fv:Value)(p:Option Addr)(n cp depth:Nat)(m d:Addr)(w:World)(h:PR w rb s i av (.slice p n cp) fv)
 (hm:w.cell? (aq 1 0)=some (aT m)) (hd:w.cell? (aq 2 0)=some (aT d)):
 Cw 111 #[Pq rb,Iq (depth:Int)] w fun e w'=>e=Rw (pj n depth m d)/\w'=w:=by
 have c3:=h.c3;have em:w.cell? (aq 1 0)=some (.iface 371 (.pointer (some m))):=hm;by_cases h1:100<=n
 ·have xC:(100:Int)<=(n:Int):=by omega
  have HV:Hid (pj n depth m d=.iface 371 (.pointer (some m))):=by show _=_;unfold pj;rw[if_pos h1];rfl
  go_enter func111,ntmps111;go_wp2;go_ret;exact⟨by rw[HV.out];rfl,rfl⟩
 ·have xC:¬(100:Int)<=(n:Int):=by omega
  by_cases h2:12<=depth
  ·have zn:(12:Int)<=(depth:Int):=by omega
   have HV:Hid (pj n depth m d=.iface 371 (.pointer (some d))):=by show _=_;unfold pj;rw[if_neg h1,if_pos h2];rfl
   go_enter func111,ntmps111;go_wp2;go_ret;exact⟨by rw[HV.out];rfl,rfl⟩
  ·have zn:¬(12:Int)<=(depth:Int):=by omega
   have HV:Hid (pj n depth m d=.nilIface):=by show _=_;unfold pj;rw[if_neg h1,if_neg h2]
   go_enter func111,ntmps111;go_wp2;go_ret;exact⟨by rw[HV.out];rfl,rfl⟩
def m_(i:Int):Value:=if i<0 then .tuple #[Iq 0,.bool false]else .tuple #[Iq i,.bool true]
theorem KS(t:ByteArray)(w:World)(n0 n1 n2 n3 n4 n5 n6:ByteArray)
 (h0:w.cell? (aq 11 0)=some (.string n0))
 (h1:w.cell? (aq 11 1)=some (.string n1))
 (h2:w.cell? (aq 11 2)=some (.string n2))
 (h3:w.cell? (aq 11 3)=some (.string n3))
 (h4:w.cell? (aq 11 4)=some (.string n4))
 (h5:w.cell? (aq 11 5)=some (.string n5))
 (h6:w.cell? (aq 11 6)=some (.string n6)):
 Cw 109 #[.string t] w fun e w'=>e=Rw (m_ (aJ [n0,n1,n2,n3,n4,n5,n6] t 0))/\w'=w:=by
 have IX:∀k:Nat,k<7->∃n,aJ ([n0,n1,n2,n3,n4,n5,n6].drop k) t k=(if n=t then(k:Int)else aJ ([n0,n1,n2,n3,n4,n5,n6].drop (k+1)) t (k+1))/\∀w,(Instr.index 255 (.agg #[.string n0,.string n1,.string n2,.string n3,.string n4,.string n5,.string n6]) (Iq k)).run prog w=.ok (.string n) w:=fun k hk=>by
  have hc:k=0\/k=1\/k=2\/k=3\/k=4\/k=5\/k=6:=by omega
  rcases hc with rfl|rfl|rfl|rfl|rfl|rfl|rfl<;>exact⟨_,rfl,fun _=>by kernel_rfl⟩
 have IX:=qH IX;go_enter func109,ntmps109;go_wp2;clear h0 h1 h2 h3 h4 h5 h6;go_loop[7] (fun i=>∃k:Nat,k<=7/\i=Iq k/\Hid (aJ [n0,n1,n2,n3,n4,n5,n6] t 0=aJ ([n0,n1,n2,n3,n4,n5,n6].drop k) t k)) (fun i=>7-(intOf i).toNat);case atStart=>grind
 case round=>
  obtain⟨k,hk,rfl,HF⟩:=hrel;by_cases hlt:k<7
  ·have aR:(k:Int)<7:=by omega
   obtain⟨n,hn,BT⟩:=IX k hlt;have HN:=qH hn;clear hn;by_cases e:n=t
   ·have HE:Hid (m_ (aJ [n0,n1,n2,n3,n4,n5,n6] t 0)=.tuple #[Iq k,.bool true]):=by show _=_;rw[HF.out,HN.out,if_pos e];unfold m_;rw[if_neg (by omega)]
    subst e;clear HF;go_wp2;go_ret2;exact⟨by rw[HE.out];rfl,rfl⟩
   ·have HE:Hid (aJ [n0,n1,n2,n3,n4,n5,n6] t 0=aJ ([n0,n1,n2,n3,n4,n5,n6].drop (k+1)) t (k+1)):=by show _=_;rw[HF.out,HN.out,if_neg e]
    have e1:=Gh e;clear HF;go_wp2;go_round;case rel=>grind
    case measure=>simp[intOf];omega
  ·have aR:¬(k:Int)<7:=by omega
   obtain rfl:k=7:=by omega
   have HE:Hid (m_ (aJ [n0,n1,n2,n3,n4,n5,n6] t 0)=.tuple #[Iq 0,.bool false]):=by show _=_;rw[HF.out];simp[aJ,m_]
   clear HF;go_wp2;go_ret2;exact⟨by rw[HE.out];rfl,rfl⟩
