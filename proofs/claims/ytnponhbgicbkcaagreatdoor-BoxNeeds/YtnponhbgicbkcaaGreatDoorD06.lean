import Derived.Test.YtnponhbgicbkcaaGreatDoorD00
import Derived.Test.YtnponhbgicbkcaaGreatDoorProg
import Derived.WalkKit
import Derived.WalkSpells
import Derived.WalkLawsBesides
import Derived.RegionTactic
import Derived.BigRegion
import Derived.BigQuiet
import Derived.Deep.QuietTactic
import Derived.Laws.IdiomStrings
set_option linter.unusedVariables false
set_option maxRecDepth 100000
set_option maxHeartbeats 16000000
namespace Go.Proofs.YtnponhbgicbkcaaGreatDoor
section
open Go.RowKit
def bat(s:ByteArray)(i:Nat):Nat:=if h:i<s.size then s[i].toNat else 256
theorem bat_in{s:ByteArray}{i:Nat}(h:i<s.size):bat s i=s[i].toNat:=by unfold bat;rw[dif_pos h]
theorem bat_out{s:ByteArray}{i:Nat}(h:¬i<s.size):bat s i=256:=by unfold bat;rw[dif_neg h]
theorem bat_lt{s:ByteArray}{i:Nat}(h:i<s.size):bat s i<256:=by rw[bat_in h];exact UInt8.toNat_lt _
def runF(p:Nat->Bool)(s:ByteArray):Nat->Nat->Nat
 |0,i=>i
 |f+1,i=>if p (bat s i)then runF p s f (i+1)else i
def run(p:Nat->Bool)(s:ByteArray)(i:Nat):Nat:=runF p s (s.size-i) i
theorem run_step{p:Nat->Bool}{s:ByteArray}{i:Nat}(hi:i<s.size)(h:p (bat s i)=true):run p s i=run p s (i+1):=by unfold run;obtain⟨f,hf⟩:∃f,s.size-i=f+1:=⟨s.size-i-1,by omega⟩;rw[hf,runF,if_pos h,show s.size-(i+1)=f by omega]
theorem run_stop{p:Nat->Bool}{s:ByteArray}{i:Nat}(h:p (bat s i)=false):run p s i=i:=by
 unfold run;match s.size-i with
 |0=>rfl
 |f+1=>rw[runF,h];rfl
theorem run_out{p:Nat->Bool}{s:ByteArray}{i:Nat}(h:¬i<s.size):run p s i=i:=by unfold run;rw[show s.size-i=0 by omega];rfl
theorem runF_bd(p:Nat->Bool)(s:ByteArray):∀f i,i≤runF p s f i∧runF p s f i≤i+f
 |0,i=>⟨Nat.le_refl _,Nat.le_refl _⟩
 |f+1,i=>by have:=runF_bd p s f (i+1);rw[runF];split<;>omega
theorem run_ge(p:Nat->Bool)(s:ByteArray)(i:Nat):i≤run p s i:=(runF_bd p s _ i).1
theorem run_le(p:Nat->Bool)(s:ByteArray)(i:Nat)(hi:i≤s.size):run p s i≤s.size:=by have:=(runF_bd p s (s.size-i) i).2;unfold run;omega
theorem runF_end(p:Nat->Bool)(hp:p 256=false)(s:ByteArray):∀f i,s.size-i≤f->p (bat s (runF p s f i))=false
 |0,i,h=>by rw[runF,bat_out (by omega)];exact hp
 |f+1,i,h=>by
  rw[runF];by_cases c:p (bat s i)=true;·rw[if_pos c];exact runF_end p hp s f (i+1) (by omega)
  ·rw[if_neg c];simpa using c
theorem run_end{p:Nat->Bool}(hp:p 256=false)(s:ByteArray)(i:Nat):p (bat s (run p s i))=false:=runF_end p hp s _ i (Nat.le_refl _)
def blank(x:Nat):Bool:=x==32||x==10
def letter(x:Nat):Bool:=decide (97≤x)&&decide (x≤122)
def digit(x:Nat):Bool:=decide (48≤x)&&decide (x≤57)
def sk(s:ByteArray)(i:Nat):Nat:=run blank s i
theorem sk_ge(s:ByteArray)(i:Nat):i≤sk s i:=run_ge _ _ _
theorem sk_le(s:ByteArray)(i:Nat)(h:i≤s.size):sk s i≤s.size:=run_le _ _ _ h
theorem sk_sk(s:ByteArray)(i:Nat):sk s (sk s i)=sk s i:=run_stop (run_end (by rfl) s i)
structure RS(W:World)(rb:Nat)(s:ByteArray)(i:Nat)(lv:Value)(bad er at_ dep:Int):Prop where
 lt:rb<W.heap.size
 c0:W.cell? ⟨rb,0,none⟩=some (.string s)
 c1:W.cell? ⟨rb,1,none⟩=some (.int .i64 (i:Int))
 c2:W.cell? ⟨rb,2,none⟩=some lv
 c3:W.cell? ⟨rb,3,none⟩=some (.int .i64 bad)
 c4:W.cell? ⟨rb,4,none⟩=some (.int .i64 er)
 c5:W.cell? ⟨rb,5,none⟩=some (.int .i64 at_)
 c6:W.cell? ⟨rb,6,none⟩=some (.int .i64 dep)
 fz:∀j,W.frozen? ⟨rb,j,none⟩=false
theorem RS.below{W W':World}{rb:Nat}{s:ByteArray}{i:Nat}{lv:Value}{bad er at_ dep:Int}(h:RS W rb s i lv bad er at_ dep)(hb:Below W.heap.size W W'):RS W' rb s i lv bad er at_ dep:=
 have k:∀j v,W.cell? ⟨rb,j,none⟩=some v->W'.cell? ⟨rb,j,none⟩=some v:=fun j v e=>(hb.cell (p:=⟨rb,j,none⟩) h.lt).trans e
 ⟨Nat.lt_of_lt_of_le h.lt hb.size,k _ _ h.c0,k _ _ h.c1,k _ _ h.c2,k _ _ h.c3,k _ _ h.c4,k _ _ h.c5,k _ _ h.c6,fun j=>(hb.frozen (p:=⟨rb,j,none⟩) h.lt).trans (h.fz j)⟩
theorem RS.drewN{W:World}{rb:Nat}{s:ByteArray}{i:Nat}{lv:Value}{bad er at_ dep:Int}(h:RS W rb s i lv bad er at_ dep)(n:Nat):RS (W.drewN n) rb s i lv bad er at_ dep:=
 ⟨h.lt,h.c0,h.c1,h.c2,h.c3,h.c4,h.c5,h.c6,h.fz⟩
theorem rs_other{W:World}{rb j k:Nat}{v u:Value}(hn:j≠k)(h:W.cell? ⟨rb,j,none⟩=some u):(W.setCell ⟨rb,k,none⟩ v).cell? ⟨rb,j,none⟩=some u:=by rw[World.cell?_setCell_other _ _ _ _ (fun e=>hn (by injection e with e1 e2;exact e2.symm))];exact h
theorem rs_same{W:World}{rb k:Nat}{v u:Value}(h:W.cell? ⟨rb,k,none⟩=some u):(W.setCell ⟨rb,k,none⟩ v).cell? ⟨rb,k,none⟩=some v:=
 World.cell?_setCell_same' _ _ _ (by rw[h];rfl)
theorem RS.setI{W:World}{rb:Nat}{s:ByteArray}{i:Nat}{lv:Value}{bad er at_ dep:Int}(h:RS W rb s i lv bad er at_ dep)(i':Nat):RS (W.setCell ⟨rb,1,none⟩ (.int .i64 (i':Int))) rb s i' lv bad er at_ dep:=
 ⟨by simpa using h.lt,rs_other (by omega) h.c0,rs_same h.c1,rs_other (by omega) h.c2,rs_other (by omega) h.c3,rs_other (by omega) h.c4,rs_other (by omega) h.c5,rs_other (by omega) h.c6,fun j=>by rw[World.frozen?_setCell];exact h.fz j⟩
theorem RS.setBad{W:World}{rb:Nat}{s:ByteArray}{i:Nat}{lv:Value}{bad er at_ dep:Int}(h:RS W rb s i lv bad er at_ dep)(b:Int):RS (W.setCell ⟨rb,3,none⟩ (.int .i64 b)) rb s i lv b er at_ dep:=
 ⟨by simpa using h.lt,rs_other (by omega) h.c0,rs_other (by omega) h.c1,rs_other (by omega) h.c2,rs_same h.c3,rs_other (by omega) h.c4,rs_other (by omega) h.c5,rs_other (by omega) h.c6,fun j=>by rw[World.frozen?_setCell];exact h.fz j⟩
theorem RS.setErr{W:World}{rb:Nat}{s:ByteArray}{i:Nat}{lv:Value}{bad er at_ dep:Int}(h:RS W rb s i lv bad er at_ dep)(b c:Int):RS ((W.setCell ⟨rb,4,none⟩ (.int .i64 b)).setCell ⟨rb,5,none⟩ (.int .i64 c)) rb s i lv bad b c dep:=
 ⟨by simpa using h.lt,rs_other (by omega) (rs_other (by omega) h.c0),rs_other (by omega) (rs_other (by omega) h.c1),rs_other (by omega) (rs_other (by omega) h.c2),rs_other (by omega) (rs_other (by omega) h.c3),rs_other (by omega) (rs_same h.c4),rs_same (rs_other (by omega) h.c5),rs_other (by omega) (rs_other (by omega) h.c6),fun j=>by rw[World.frozen?_setCell,World.frozen?_setCell];exact h.fz j⟩
theorem gr_refl(W:World)(b:Nat):W.grownBy W (some b):=⟨rfl,rfl,rfl,Nat.le_refl _,fun _ _ _=>rfl⟩
theorem gr_trans{A B C:World}{b:Nat}(h:A.grownBy B (some b))(k:B.grownBy C (some b)):A.grownBy C (some b):=
 ⟨k.os.trans h.os,k.tape.trans h.tape,k.output.trans h.output,Nat.le_trans h.size k.size,fun i hi hn=>(k.block i (Nat.lt_of_lt_of_le hi h.size) hn).trans (h.block i hi hn)⟩
theorem gr_set(W:World)(b i:Nat)(v:Value):W.grownBy (W.setCell ⟨b,i,none⟩ v) (some b):=
 ⟨rfl,rfl,rfl,by simp,fun k _ hk=>heap_setCell_other _ _ _ _ (fun e=>hk (by rw[e]))⟩
theorem gr_drewN(W:World)(n b:Nat):W.grownBy (W.drewN n) (some b):=⟨rfl,rfl,rfl,Nat.le_refl _,fun _ _ _=>rfl⟩
theorem gr_below{A B:World}{b:Nat}(h:Below A.heap.size A B):A.grownBy B (some b):=⟨h.os,h.tape,h.output,h.size,fun i hi _=>h.block i hi⟩
def rdI(W:World)(rb:Nat):Nat:=match W.cell? ⟨rb,1,none⟩with
 |some (.int _ x)=>x.toNat
 |_=>0
theorem RS.rdI{W:World}{rb:Nat}{s:ByteArray}{i:Nat}{lv:Value}{bad er at_ dep:Int}(h:RS W rb s i lv bad er at_ dep):rdI W rb=i:=by unfold Go.Proofs.YtnponhbgicbkcaaGreatDoor.rdI;rw[h.c1];simp
theorem skip_any(rb:Nat)(s:ByteArray)(i:Nat)(lv:Value)(bad er at_ dep:Int)(w:World)(h:RS w rb s i lv bad er at_ dep)(hs:s.size≤1099511627776)(hi:i≤s.size):
 Calls Tryz.prog 25 #[.pointer (some ⟨rb,0,none⟩)] w fun e w'=>e=.returned (.tuple #[])∧RS w' rb s (sk s i) lv bad er at_ dep∧w.grownBy w' (some rb):=by
 have HR:=qH<|h;clear h;go_enter Tryz.func25,Tryz.ntmps25;go_wp2;go_loopw[2] (fun _ wr=>∃k:Nat,k≤s.size∧Hid (sk s k=sk s i)∧Hid (RS wr rb s k lv bad er at_ dep)∧Hid (w.grownBy wr (some rb))) (fun _ wr=>s.size-rdI wr rb);case atStart=>exact⟨i,hi,rfl,HR.out,gr_refl _ _⟩
 case round=>
  obtain⟨k,hk,HK,HS,HG⟩:=hrel;have hs1:=HS.out;have c0:=hs1.c0;have c1:=hs1.c1;have f1:=hs1.fz 1;by_cases hlt:k<s.size
  ·have hlt':(k:Int)<(s.size:Int):=by omega
   obtain⟨x,hx⟩:∃x,s[k].toNat=x:=⟨_,rfl⟩;have hbx:bat s k=x:=by rw[bat_in hlt,hx]
   by_cases hb:x=32
   ·skip;have HN:=qH<|fun q=>by have:=(HS.out.drewN q).setI (k+1);rw[show((k+1:Nat):Int)=(k:Int)+1 by omega]at this;exact this
    have HK2:Hid (sk s (k+1)=sk s i):=by rw[<-HK.out];exact(run_step hlt (by rw[hbx];simp[blank,hb])).symm
    have hrd:=HS.out.rdI;have HRD:=qH<|hrd;subst hb;clear hs1 HK HS hbx hrd;go_wp2_with fail;go_quiet(fail);go_wp2;go_roundw;case rel=>exact⟨k+1,by omega,HK2.out,HN.out _,gr_trans (gr_trans HG.out (gr_drewN _ _ _)) (gr_set _ _ _ _)⟩
    case measure=>rw[(HN.out _).rdI,HRD.out];omega
   ·by_cases hb2:x=10
    ·skip;have HN:=qH<|fun q=>by have:=(HS.out.drewN q).setI (k+1);rw[show((k+1:Nat):Int)=(k:Int)+1 by omega]at this;exact this
     have HK2:Hid (sk s (k+1)=sk s i):=by rw[<-HK.out];exact(run_step hlt (by rw[hbx];simp[blank,hb2])).symm
     have hrd:=HS.out.rdI;have HRD:=qH<|hrd;subst hb2;clear hs1 HK HS hbx hrd;go_wp2_with fail;go_quiet(fail);go_wp2;go_roundw;case rel=>exact⟨k+1,by omega,HK2.out,HN.out _,gr_trans (gr_trans HG.out (gr_drewN _ _ _)) (gr_set _ _ _ _)⟩
     case measure=>rw[(HN.out _).rdI,HRD.out];omega
    ·have HE:Hid (RS wr rb s (sk s i) lv bad er at_ dep):=by have:sk s k=k:=run_stop (by rw[hbx];simp[blank,hb,hb2]);rw[<-HK.out,this];exact HS.out
     have e1:((x:Int)==32)=false:=by simp;omega
     have e2:((x:Int)==10)=false:=by simp;omega
     clear hs1 HK HS hbx;go_wp2_with fail;go_quiet(fail);go_wp2;go_end0;exact⟨rfl,HE.out.drewN _,gr_trans HG.out (gr_drewN _ _ _)⟩
  ·have hlt':¬(k:Int)<(s.size:Int):=by omega
   have hd:=decide_eq_false hlt';have HE:Hid (RS wr rb s (sk s i) lv bad er at_ dep):=by have:sk s k=k:=run_out hlt;rw[<-HK.out,this];exact HS.out
   clear hs1 HK HS;go_wp2_with fail;go_quiet(fail);go_wp2;go_end0;exact⟨rfl,HE.out.drewN _,gr_trans HG.out (gr_drewN _ _ _)⟩
def badI(bad a:Int):Int:=if bad<0 then a else bad
theorem fail_any(rb:Nat)(s:ByteArray)(i:Nat)(lv:Value)(bad er at_ dep:Int)(a:Int)(w:World)(h:RS w rb s i lv bad er at_ dep):
 Calls Tryz.prog 26 #[.pointer (some ⟨rb,0,none⟩),.int .i64 a] w fun e w'=>e=.returned (.tuple #[])∧RS w' rb s i lv (badI bad a) er at_ dep∧w.grownBy w' (some rb):=by
 have c3:=h.c3;have f3:=h.fz 3;have HR:=qH<|h;clear h;by_cases hb:bad<0
 ·have HN:Hid (RS (w.setCell ⟨rb,3,none⟩ (.int .i64 a)) rb s i lv (badI bad a) er at_ dep):=by unfold badI;rw[if_pos hb];exact HR.out.setBad a
  go_enter Tryz.func26,Tryz.ntmps26;go_wp2;go_end0;exact⟨rfl,HN.out,gr_set _ _ _ _⟩
 ·have HN:Hid (RS w rb s i lv (badI bad a) er at_ dep):=by unfold badI;rw[if_neg hb];exact HR.out
  go_enter Tryz.func26,Tryz.ntmps26;go_wp2;go_end0;exact⟨rfl,HN.out,gr_refl _ _⟩
def isAt(s:ByteArray)(i:Nat)(c:Nat):Bool:=bat s (sk s i)==c
def gotI(s:ByteArray)(i:Nat)(c:Nat):Nat:=if bat s (sk s i)=c then sk s i+1 else sk s i
theorem got_any(rb:Nat)(s:ByteArray)(i:Nat)(lv:Value)(bad er at_ dep:Int)(c:Nat)(w:World)(h:RS w rb s i lv bad er at_ dep)(hs:s.size≤1099511627776)(hi:i≤s.size)(hc:c<256)(hb:bad<0):
 Calls Tryz.prog 82 #[.pointer (some ⟨rb,0,none⟩),.int .u8 (c:Int)] w fun e w'=>e=.returned (.bool (isAt s i c))∧RS w' rb s (gotI s i c) lv bad er at_ dep∧w.grownBy w' (some rb):=by
 have CS:=qH<|skip_any rb s i lv bad er at_ dep w h hs hi;obtain⟨j,hj⟩:∃j,sk s i=j:=⟨_,rfl⟩;have hjs:=sk_le s i hi;have HGI:Hid (gotI s i c=if bat s j=c then j+1 else j):=by show _=_;unfold gotI;rw[hj]
 have HIA:Hid (isAt s i c=(bat s j==c)):=by show _=_;unfold isAt;rw[hj]
 rw[hj]at CS hjs;clear h hj;go_enter Tryz.func82,Tryz.ntmps82;go_wp2_with fail;refine CS.out.mono ?_;rintro e w1 ⟨rfl,h1,g1⟩;have HR:=qH<|h1;have HG:=qH<|g1;have c0:=h1.c0;have c1:=h1.c1;have c3:=h1.c3;have f1:=h1.fz 1;have eb:=decide_eq_true hb;clear h1 g1 CS;by_cases hlt:j<s.size
 ·have hlt':(j:Int)<(s.size:Int):=by omega
  have el:=decide_eq_true hlt';obtain⟨x,hx⟩:∃x,s[j].toNat=x:=⟨_,rfl⟩;have hbx:bat s j=x:=by rw[bat_in hlt,hx]
  by_cases hxc:x=c
  ·have HN:Hid (∀q,RS ((w1.drewN q).setCell ⟨rb,1,none⟩ (.int .i64 ((j:Int)+1))) rb s (gotI s i c) lv bad er at_ dep):=fun q=>by rw[HGI.out,hbx,if_pos hxc];have:=(HR.out.drewN q).setI (j+1);rw[show((j+1:Nat):Int)=(j:Int)+1 by omega]at this;exact this
   have HE:Hid (isAt s i c=true):=by show _=_;rw[HIA.out,hbx];simpa using hxc
   subst hxc;clear hbx HR;go_wp2_with fail;go_quiet(fail);go_wp2;go_ret;exact⟨by rw[HE.out];rfl,HN.out _,gr_trans (gr_trans HG.out (gr_drewN _ _ _)) (gr_set _ _ _ _)⟩
  ·have HN:Hid (RS w1 rb s (gotI s i c) lv bad er at_ dep):=by rw[HGI.out,hbx,if_neg hxc];exact HR.out
   have HE:Hid (isAt s i c=false):=by show _=_;rw[HIA.out,hbx];simpa using hxc
   have ex:((x:Int)==(c:Int))=false:=by simp;omega
   clear hbx HR;go_wp2_with fail;go_quiet(fail);go_wp2;go_ret;exact⟨by rw[HE.out];rfl,HN.out.drewN _,gr_trans HG.out (gr_drewN _ _ _)⟩
 ·have hlt':¬(j:Int)<(s.size:Int):=by omega
  have el:=decide_eq_false hlt';have hbo:=bat_out hlt;have HN:Hid (RS w1 rb s (gotI s i c) lv bad er at_ dep):=by rw[HGI.out,hbo,if_neg (by omega)];exact HR.out
  have HE:Hid (isAt s i c=false):=by show _=_;rw[HIA.out,hbo];simp;omega
  clear hbo HR;go_wp2_with fail;go_quiet(fail);go_wp2;go_ret;exact⟨by rw[HE.out];rfl,HN.out.drewN _,gr_trans HG.out (gr_drewN _ _ _)⟩
end
section
open Go.RowKit
theorem got_bad(rb:Nat)(s:ByteArray)(i:Nat)(lv:Value)(bad er at_ dep:Int)(c:Nat)(w:World)(h:RS w rb s i lv bad er at_ dep)(hs:s.size≤1099511627776)(hi:i≤s.size)(hb:0≤bad):
 Calls Tryz.prog 82 #[.pointer (some ⟨rb,0,none⟩),.int .u8 (c:Int)] w fun e w'=>e=.returned (.bool false)∧RS w' rb s (sk s i) lv bad er at_ dep∧w.grownBy w' (some rb):=by
 have CS:=qH<|skip_any rb s i lv bad er at_ dep w h hs hi;clear h;go_enter Tryz.func82,Tryz.ntmps82;go_wp2_with fail;refine CS.out.mono ?_;rintro e w1 ⟨rfl,h1,g1⟩;have HR:=qH<|h1;have HG:=qH<|g1;have c3:=h1.c3;have hb':¬bad<0:=by omega
 have eb:=decide_eq_false hb';clear h1 g1 CS;go_wp2_with fail;go_quiet(fail);go_wp2;go_ret;exact⟨rfl,HR.out.drewN _,gr_trans HG.out (gr_drewN _ _ _)⟩
def mustB(s:ByteArray)(i c:Nat)(bad:Int):Int:=if isAt s i c then bad else(sk s i:Int)
theorem must_any(rb:Nat)(s:ByteArray)(i:Nat)(lv:Value)(bad er at_ dep:Int)(c:Nat)(w:World)(h:RS w rb s i lv bad er at_ dep)(hs:s.size≤1099511627776)(hi:i≤s.size)(hc:c<256)(hb:bad<0):
 Calls Tryz.prog 53 #[.pointer (some ⟨rb,0,none⟩),.int .u8 (c:Int)] w fun e w'=>e=.returned (.tuple #[])∧RS w' rb s (gotI s i c) lv (mustB s i c bad) er at_ dep∧w.grownBy w' (some rb):=by
 have CG:=qH<|got_any rb s i lv bad er at_ dep c w h hs hi hc hb;obtain⟨ia,hia⟩:∃x,isAt s i c=x:=⟨_,rfl⟩;obtain⟨gi,hgi⟩:∃x,gotI s i c=x:=⟨_,rfl⟩;have HM:Hid (mustB s i c bad=if ia then bad else(sk s i:Int)):=by show _=_;unfold mustB;rw[hia]
 have HGI:Hid (ia=false->gi=sk s i):=by intro e;rw[<-hgi];unfold gotI;rw[<-hia]at e;unfold isAt at e;rw[if_neg (by simpa using e)]
 rw[hia,hgi]at CG;rw[hgi];clear h hia hgi;go_enter Tryz.func53,Tryz.ntmps53;go_wp2_with fail;refine CG.out.mono ?_;rintro e w1 ⟨rfl,h1,g1⟩;have HG:=qH<|g1;have c1:=h1.c1;have HR:=qH<|h1;have CF:=qH<|fail_any rb s gi lv bad er at_ dep gi w1 h1;clear h1 g1 CG;cases ia with
 |true=>
  have HE:Hid (RS w1 rb s gi lv (mustB s i c bad) er at_ dep):=by rw[HM.out];exact HR.out
  clear CF HR;go_wp2;go_end0;exact⟨rfl,HE.out,HG.out⟩
 |false=>
  have HE:Hid (badI bad (gi:Int)=mustB s i c bad):=by show _=_;rw[HM.out,HGI.out rfl];unfold badI;rw[if_pos hb];rfl
  clear HR;go_wp2_with fail;refine CF.out.mono ?_;rintro e w2 ⟨rfl,h2,g2⟩;have H2:Hid (RS w2 rb s gi lv (mustB s i c bad) er at_ dep):=by rw[<-HE.out];exact h2
  have HG2:=qH<|gr_trans HG.out g2;clear h2 g2;go_wp2;go_end0;exact⟨rfl,H2.out,HG2.out⟩
theorem must_bad(rb:Nat)(s:ByteArray)(i:Nat)(lv:Value)(bad er at_ dep:Int)(c:Nat)(w:World)(h:RS w rb s i lv bad er at_ dep)(hs:s.size≤1099511627776)(hi:i≤s.size)(hb:0≤bad):
 Calls Tryz.prog 53 #[.pointer (some ⟨rb,0,none⟩),.int .u8 (c:Int)] w fun e w'=>e=.returned (.tuple #[])∧RS w' rb s (sk s i) lv bad er at_ dep∧w.grownBy w' (some rb):=by
 have CG:=qH<|got_bad rb s i lv bad er at_ dep c w h hs hi hb;obtain⟨gi,hgi⟩:∃x,sk s i=x:=⟨_,rfl⟩;rw[hgi]at CG⊢;clear h hgi;go_enter Tryz.func53,Tryz.ntmps53;go_wp2_with fail;refine CG.out.mono ?_;rintro e w1 ⟨rfl,h1,g1⟩;have HG:=qH<|g1;have c1:=h1.c1;have CF:=qH<|fail_any rb s gi lv bad er at_ dep gi w1 h1;have HE:Hid (badI bad (gi:Int)=bad):=by show _=_;unfold badI;rw[if_neg (by omega)]
 clear h1 g1 CG;go_wp2_with fail;refine CF.out.mono ?_;rintro e w2 ⟨rfl,h2,g2⟩;have H2:Hid (RS w2 rb s gi lv bad er at_ dep):=by have:=h2;rw[HE.out]at this;exact this
 have HG2:=qH<|gr_trans HG.out g2;clear h2 g2;go_wp2;go_end0;exact⟨rfl,H2.out,HG2.out⟩
def wrE(er at_ e a:Int):Int:=if at_<0∨a<at_ then e else er
def wrA(at_ a:Int):Int:=if at_<0∨a<at_ then a else at_
theorem wrong_any(rb:Nat)(s:ByteArray)(i:Nat)(lv:Value)(bad er at_ dep:Int)(e a:Int)(w:World)(h:RS w rb s i lv bad er at_ dep):
 Calls Tryz.prog 50 #[.pointer (some ⟨rb,0,none⟩),.int .i64 e,.int .i64 a] w fun r w'=>r=.returned (.tuple #[])∧RS w' rb s i lv bad (wrE er at_ e a) (wrA at_ a) dep∧w.grownBy w' (some rb):=by
 have c5:=h.c5;have c4:=h.c4;have f4:=h.fz 4;have f5:=h.fz 5;have HR:=qH<|h;clear h;by_cases hc:at_<0∨a<at_
 ·have HN:Hid (RS ((w.setCell ⟨rb,4,none⟩ (.int .i64 e)).setCell ⟨rb,5,none⟩ (.int .i64 a)) rb s i lv bad (wrE er at_ e a) (wrA at_ a) dep):=by unfold wrE wrA;rw[if_pos hc,if_pos hc];exact HR.out.setErr e a
  have HG:Hid (w.grownBy ((w.setCell ⟨rb,4,none⟩ (.int .i64 e)).setCell ⟨rb,5,none⟩ (.int .i64 a)) (some rb)):=gr_trans (gr_set _ _ _ _) (gr_set _ _ _ _);by_cases h1:at_<0;·clear hc;go_enter Tryz.func50,Tryz.ntmps50;go_wp2;go_end0;exact⟨rfl,HN.out,HG.out⟩
  ·have h2:a<at_:=by omega
   clear hc;go_enter Tryz.func50,Tryz.ntmps50;go_wp2;go_end0;exact⟨rfl,HN.out,HG.out⟩
 ·have HN:Hid (RS w rb s i lv bad (wrE er at_ e a) (wrA at_ a) dep):=by unfold wrE wrA;rw[if_neg hc,if_neg hc];exact HR.out
  have h1:¬at_<0:=by omega
  have h2:¬a<at_:=by omega
  clear hc;go_enter Tryz.func50,Tryz.ntmps50;go_wp2;go_end0;exact⟨rfl,HN.out,gr_refl _ _⟩
end
section
open Go.RowKit
theorem ext_self(s:ByteArray)(k:Nat):s.extract k k=ByteArray.empty:=by apply ByteArray.ext;simp
def wordB(s:ByteArray)(i:Nat)(bad:Int):Int:=if run letter s (sk s i)=sk s i then(sk s i:Int)else bad
theorem word_any(rb:Nat)(s:ByteArray)(i:Nat)(lv:Value)(bad er at_ dep:Int)(w:World)(h:RS w rb s i lv bad er at_ dep)(hs:s.size≤1099511627776)(hi:i≤s.size)(hb:bad<0):
 Calls Tryz.prog 47 #[.pointer (some ⟨rb,0,none⟩)] w fun e w'=>e=.returned (.string (s.extract (sk s i) (run letter s (sk s i))))∧RS w' rb s (run letter s (sk s i)) lv (wordB s i bad) er at_ dep∧w.grownBy w' (some rb):=by
 have CS:=qH<|skip_any rb s i lv bad er at_ dep w h hs hi;obtain⟨j,hj⟩:∃j,sk s i=j:=⟨_,rfl⟩;have hjs:=sk_le s i hi;have HWB:Hid (wordB s i bad=if run letter s j=j then(j:Int)else bad):=by show _=_;unfold wordB;rw[hj]
 rw[hj]at CS hjs⊢;clear h hj;go_enter Tryz.func47,Tryz.ntmps47;go_wp2_with fail;refine CS.out.mono ?_;rintro e w1 ⟨rfl,h1,g1⟩;have HR:=qH<|h1;have HG1:=qH<|g1;have d1:=h1.c1;have eb:=decide_eq_true hb;clear h1 g1 CS;go_wp2;clear d1;go_loopw[10] (fun _ wr=>∃k:Nat,j≤k∧k≤s.size∧Hid (run letter s k=run letter s j)∧Hid (RS wr rb s k lv bad er at_ dep)∧Hid (w.grownBy wr (some rb))) (fun _ wr=>s.size-rdI wr rb);case atStart=>exact⟨j,Nat.le_refl _,hjs,rfl,HR.out,HG1.out⟩
 case round=>
  obtain⟨k,hjk,hk,HK,HS,HG⟩:=hrel;have hs1:=HS.out;have c0:=hs1.c0;have c1:=hs1.c1;have c3:=hs1.c3;have f1:=hs1.fz 1;have HRD:=qH<|hs1.rdI;by_cases hgo:letter (bat s k)=true
  ·have hlt:k<s.size:=by
    by_cases e:k<s.size;·exact e
    ·rw[bat_out e]at hgo;cases hgo
   have hlt':(k:Int)<(s.size:Int):=by omega
   have el:=decide_eq_true hlt';obtain⟨x,hx⟩:∃x,s[k].toNat=x:=⟨_,rfl⟩;have hbx:bat s k=x:=by rw[bat_in hlt,hx]
   have HK2:Hid (run letter s (k+1)=run letter s j):=by rw[<-HK.out];exact(run_step hlt hgo).symm
   rw[hbx]at hgo;unfold letter at hgo;simp only[Bool.and_eq_true,decide_eq_true_eq]at hgo;obtain⟨l1,l2⟩:=hgo;have e1:decide ((97:Int)≤(x:Int))=true:=decide_eq_true (by omega);have e2:decide ((x:Int)≤122)=true:=decide_eq_true (by omega);have HN:=qH<|fun q=>by have:=(HS.out.drewN q).setI (k+1);rw[show((k+1:Nat):Int)=(k:Int)+1 by omega]at this;exact this
   clear hs1 HK HS hbx;go_wp2_with fail;go_quiet(fail);go_wp2;go_roundw;case rel=>exact⟨k+1,by omega,by omega,HK2.out,HN.out _,gr_trans (gr_trans HG.out (gr_drewN _ _ _)) (gr_set _ _ _ _)⟩
   case measure=>rw[(HN.out _).rdI,HRD.out];omega
  ·have hrk:run letter s j=k:=by rw[<-HK.out];exact run_stop (by simpa using hgo)
   have HRK:=qH<|hrk;have CF:=qH<|fun g W h=>fail_any rb s g lv bad er at_ dep g W h;clear hrk hs1 HK;by_cases hlt:k<s.size
   ·have hlt':(k:Int)<(s.size:Int):=by omega
    have el:=decide_eq_true hlt';obtain⟨x,hx⟩:∃x,s[k].toNat=x:=⟨_,rfl⟩;have hbx:bat s k=x:=by rw[bat_in hlt,hx]
    rw[hbx]at hgo;unfold letter at hgo;simp only[Bool.and_eq_true,decide_eq_true_eq]at hgo;clear hbx;by_cases l1:97≤x
    ·have l2:¬x≤122:=fun e=>hgo ⟨l1,e⟩;have e1:decide ((97:Int)≤(x:Int))=true:=decide_eq_true (by omega);have e2:decide ((x:Int)≤122)=false:=decide_eq_false (by omega);clear hgo;go_wp2_with fail;go_quiet(fail);by_cases hkj:k=j
     ·subst hkj;have HE:Hid (badI bad (k:Int)=wordB s i bad):=by show _=_;rw[HWB.out,if_pos HRK.out];unfold badI;rw[if_pos hb]
      go_wp2_with fail;refine(CF.out k _ (HS.out.drewN _)).mono ?_;rintro e w2 ⟨rfl,h2,g2⟩;have H2:Hid (RS w2 rb s k lv (wordB s i bad) er at_ dep):=by have:=h2;rw[HE.out]at this;exact this
      have HG2:=qH<|gr_trans (gr_trans HG.out (gr_drewN _ _ _)) g2;have d0:=h2.c0;have d1:=h2.c1;clear h2 g2 c0 c1 c3 f1;go_wp2_with fail;go_quiet(fail);go_wp2;go_ret;exact⟨by rw[HRK.out,ext_self];rfl,by rw[HRK.out];exact H2.out.drewN _,gr_trans HG2.out (gr_drewN _ _ _)⟩
     ·have ewb:wordB s i bad=bad:=by rw[HWB.out,if_neg (by rw[HRK.out];exact hkj)]
      have HE:Hid (RS wr rb s k lv (wordB s i bad) er at_ dep):=by rw[ewb];exact HS.out
      clear ewb;have hkj':((k:Int)==(j:Int))=false:=by simp;omega
      have hjk':(j:Int)≤(k:Int):=by omega
      have hks:(k:Int)≤(s.size:Int):=by omega
      go_wp2_with fail;go_quiet(fail);go_wp2;go_ret;exact⟨by rw[HRK.out];rfl,by rw[HRK.out];exact(HE.out.drewN _).drewN _,gr_trans (gr_trans HG.out (gr_drewN _ _ _)) (gr_drewN _ _ _)⟩
    ·have e1:decide ((97:Int)≤(x:Int))=false:=decide_eq_false (by omega);clear hgo;go_wp2_with fail;go_quiet(fail);by_cases hkj:k=j
     ·subst hkj;have HE:Hid (badI bad (k:Int)=wordB s i bad):=by show _=_;rw[HWB.out,if_pos HRK.out];unfold badI;rw[if_pos hb]
      go_wp2_with fail;refine(CF.out k _ (HS.out.drewN _)).mono ?_;rintro e w2 ⟨rfl,h2,g2⟩;have H2:Hid (RS w2 rb s k lv (wordB s i bad) er at_ dep):=by have:=h2;rw[HE.out]at this;exact this
      have HG2:=qH<|gr_trans (gr_trans HG.out (gr_drewN _ _ _)) g2;have d0:=h2.c0;have d1:=h2.c1;clear h2 g2 c0 c1 c3 f1;go_wp2_with fail;go_quiet(fail);go_wp2;go_ret;exact⟨by rw[HRK.out,ext_self];rfl,by rw[HRK.out];exact H2.out.drewN _,gr_trans HG2.out (gr_drewN _ _ _)⟩
     ·have ewb:wordB s i bad=bad:=by rw[HWB.out,if_neg (by rw[HRK.out];exact hkj)]
      have HE:Hid (RS wr rb s k lv (wordB s i bad) er at_ dep):=by rw[ewb];exact HS.out
      clear ewb;have hkj':((k:Int)==(j:Int))=false:=by simp;omega
      have hjk':(j:Int)≤(k:Int):=by omega
      have hks:(k:Int)≤(s.size:Int):=by omega
      go_wp2_with fail;go_quiet(fail);go_wp2;go_ret;exact⟨by rw[HRK.out];rfl,by rw[HRK.out];exact(HE.out.drewN _).drewN _,gr_trans (gr_trans HG.out (gr_drewN _ _ _)) (gr_drewN _ _ _)⟩
   ·have hlt':¬(k:Int)<(s.size:Int):=by omega
    have el:=decide_eq_false hlt';clear hgo;go_wp2_with fail;go_quiet(fail);by_cases hkj:k=j
    ·subst hkj;have HE:Hid (badI bad (k:Int)=wordB s i bad):=by show _=_;rw[HWB.out,if_pos HRK.out];unfold badI;rw[if_pos hb]
     go_wp2_with fail;refine(CF.out k _ (HS.out.drewN _)).mono ?_;rintro e w2 ⟨rfl,h2,g2⟩;have H2:Hid (RS w2 rb s k lv (wordB s i bad) er at_ dep):=by have:=h2;rw[HE.out]at this;exact this
     have HG2:=qH<|gr_trans (gr_trans HG.out (gr_drewN _ _ _)) g2;have d0:=h2.c0;have d1:=h2.c1;clear h2 g2 c0 c1 c3 f1;go_wp2_with fail;go_quiet(fail);go_wp2;go_ret;exact⟨by rw[HRK.out,ext_self];rfl,by rw[HRK.out];exact H2.out.drewN _,gr_trans HG2.out (gr_drewN _ _ _)⟩
    ·have ewb:wordB s i bad=bad:=by rw[HWB.out,if_neg (by rw[HRK.out];exact hkj)]
     have HE:Hid (RS wr rb s k lv (wordB s i bad) er at_ dep):=by rw[ewb];exact HS.out
     clear ewb;have hkj':((k:Int)==(j:Int))=false:=by simp;omega
     have hjk':(j:Int)≤(k:Int):=by omega
     have hks:(k:Int)≤(s.size:Int):=by omega
     go_wp2_with fail;go_quiet(fail);go_wp2;go_ret;exact⟨by rw[HRK.out];rfl,by rw[HRK.out];exact(HE.out.drewN _).drewN _,gr_trans (gr_trans HG.out (gr_drewN _ _ _)) (gr_drewN _ _ _)⟩
end
section
open Go.RowKit
theorem word_bad(rb:Nat)(s:ByteArray)(i:Nat)(lv:Value)(bad er at_ dep:Int)(w:World)(h:RS w rb s i lv bad er at_ dep)(hs:s.size≤1099511627776)(hi:i≤s.size)(hb:0≤bad):
 Calls Tryz.prog 47 #[.pointer (some ⟨rb,0,none⟩)] w fun e w'=>e=.returned (.string ByteArray.empty)∧RS w' rb s (sk s i) lv bad er at_ dep∧w.grownBy w' (some rb):=by
 have CS:=qH<|skip_any rb s i lv bad er at_ dep w h hs hi;obtain⟨j,hj⟩:∃j,sk s i=j:=⟨_,rfl⟩;have hjs:=sk_le s i hi;rw[hj]at CS hjs⊢;clear h hj;go_enter Tryz.func47,Tryz.ntmps47;go_wp2_with fail;refine CS.out.mono ?_;rintro e w1 ⟨rfl,h1,g1⟩;have HR:=qH<|h1;have HG1:=qH<|g1;have d1:=h1.c1;have hb':¬bad<0:=by omega
 have eb:=decide_eq_false hb';clear h1 g1 CS;go_wp2;clear d1;go_loopw[10] (fun _ wr=>Hid (RS wr rb s j lv bad er at_ dep)∧Hid (w.grownBy wr (some rb))) (fun _ wr=>0);case atStart=>exact⟨HR.out,HG1.out⟩
 case round=>
  obtain⟨HS,HG⟩:=hrel;have hs1:=HS.out;have c0:=hs1.c0;have c1:=hs1.c1;have c3:=hs1.c3;have CF:=qH<|fun W h=>fail_any rb s j lv bad er at_ dep j W h;have HE:Hid (badI bad (j:Int)=bad):=by show _=_;unfold badI;rw[if_neg (by omega)]
  clear hs1;go_wp2_with fail;go_quiet(fail);go_wp2_with fail;refine(CF.out _ (HS.out.drewN _)).mono ?_;rintro e w2 ⟨rfl,h2,g2⟩;have H2:Hid (RS w2 rb s j lv bad er at_ dep):=by have:=h2;rw[HE.out]at this;exact this
  have HG2:=qH<|gr_trans (gr_trans HG.out (gr_drewN _ _ _)) g2;have d0:=h2.c0;have d1:=h2.c1;clear h2 g2 c0 c1 c3;go_wp2_with fail;go_quiet(fail);go_wp2;go_ret;exact⟨rfl,H2.out.drewN _,gr_trans HG2.out (gr_drewN _ _ _)⟩
theorem str_ne{a b:ByteArray}(h:¬a=b):(a.toList==b.toList)=false:=by rw[beq_eq_false_iff_ne];intro e;rw[ByteArray.toList_eq,ByteArray.toList_eq]at e;exact h (ByteArray.ext (Array.toList_inj.1 e))
def findF:List ByteArray->ByteArray->Nat->Int
 |[],_,_=>-1
 |a::r,x,k=>if a=x then(k:Int)else findF r x (k+1)
theorem findF_bd(x:ByteArray):∀(ws:List ByteArray) (k:Nat),findF ws x k=-1∨((k:Int)≤findF ws x k∧findF ws x k<(k:Int)+ws.length)
 |[],k=>.inl rfl
 |a::r,k=>by
  unfold findF;by_cases e:a=x;·right;simp only[e,if_true];simp;omega
  ·simp only[e,if_false];rcases findF_bd x r (k+1)with h|h;·exact .inl h
   ·right;simp;omega
theorem find_any(ws:List ByteArray)(x:ByteArray)(blk off cap n:Nat)(w:World)(hb:blk<w.heap.size)(hc:∀j,j<ws.length->w.cell? ⟨blk,off+j,none⟩=some (.string (ws[j]?.getD ByteArray.empty)))(hn:ws.length=n)(hn2:n≤1099511627776):
 Calls Tryz.prog 48 #[.slice (some ⟨blk,off,none⟩) n cap,.string x] w fun e w'=>e=.returned (.int .i64 (findF ws x 0))∧w'=w:=by
 have HC:=qH<|hc;have HN:=qH<|hn;clear hc hn;go_enter Tryz.func48,Tryz.ntmps48;go_wp2;go_loop[5] (fun i=>∃k:Nat,k≤n∧i=.int .i64 k∧Hid (findF ws x 0=findF (ws.drop k) x k)) (fun i=>n-(intOf i).toNat);case atStart=>exact⟨0,Nat.zero_le _,rfl,by show _=_;rw[List.drop_zero]⟩
 case round=>
  obtain⟨k,hk,rfl,HF⟩:=hrel;by_cases hlt:k<n
  ·have hlt':(k:Int)<(n:Int):=by omega
   have hkw:k<ws.length:=by rw[HN.out];exact hlt
   have hcell:=HC.out k hkw;obtain⟨y,hy⟩:∃y,ws[k]?.getD ByteArray.empty=y:=⟨_,rfl⟩;rw[hy]at hcell;have hdrop:ws.drop k=y::ws.drop (k+1):=by rw[<-hy,List.getElem?_eq_getElem hkw];exact List.drop_eq_getElem_cons hkw
   have HF2:Hid (findF ws x 0=if y=x then(k:Int)else findF (ws.drop (k+1)) x (k+1)):=by show _=_;rw[HF.out,hdrop];rfl
   clear hdrop hy HF hkw;by_cases e:y=x
   ·have HE:Hid (findF ws x 0=(k:Int)):=by show _=_;rw[HF2.out,if_pos e]
    subst e;clear HF2;go_wp2;go_ret;exact⟨by rw[HE.out];rfl,rfl⟩
   ·have HE:Hid (findF ws x 0=findF (ws.drop (k+1)) x (k+1)):=by show _=_;rw[HF2.out,if_neg e]
    have e1:=str_ne e;clear HF2;go_wp2;go_round;case rel=>exact⟨k+1,by omega,by go_num,HE.out⟩
    case measure=>simp[intOf];omega
  ·have hlt':¬(k:Int)<(n:Int):=by omega
   have HE:Hid (findF ws x 0=-1):=by show _=_;rw[HF.out,List.drop_eq_nil_of_le (by rw[HN.out];omega)];rfl
   clear HF;go_wp2;go_ret;exact⟨by rw[HE.out];rfl,rfl⟩
end
section
open Go.RowKit
def dv(s:ByteArray)(j:Nat):Nat->Int
 |0=>0
 |c+1=>if c<6 then 10*dv s j c+((bat s (j+c):Int)-48)else dv s j c
theorem dv_bd(s:ByteArray)(j:Nat):∀c,(∀t,t<c->48≤bat s (j+t)∧bat s (j+t)≤57)->0≤dv s j c∧dv s j c≤999999∧(c≤5->dv s j c≤99999)∧(c≤4->dv s j c≤9999)∧(c≤3->dv s j c≤999)∧(c≤2->dv s j c≤99)∧(c≤1->dv s j c≤9)∧(c=0->dv s j c=0)
 |0,_=>by simp[dv]
 |c+1,h=>by have ih:=dv_bd s j c (fun t ht=>h t (by omega));have hd:=h c (by omega);unfold dv;split<;>omega
theorem run_all{p:Nat->Bool}(s:ByteArray):∀f i t,runF p s f i>i+t->p (bat s (i+t))=true
 |0,i,t,h=>by simp[runF]at h;omega
 |f+1,i,t,h=>by
  rw[runF]at h;by_cases c:p (bat s i)=true;·rw[if_pos c]at h;match t with
   |0=>exact c
   |t+1=>have:=run_all (p:=p) s f (i+1) t (by omega);rw[show i+(t+1)=i+1+t by omega];exact this
  ·rw[if_neg c]at h;omega
def numB(s:ByteArray)(j k:Nat)(bad:Int):Int:=if k=j∨j+6<k∨(j+1<k∧bat s j=48)then(j:Int)else bad
theorem number_any(rb:Nat)(s:ByteArray)(i:Nat)(lv:Value)(bad er at_ dep:Int)(w:World)(h:RS w rb s i lv bad er at_ dep)(hs:s.size≤1099511627776)(hi:i≤s.size)(hb:bad<0):
 Calls Tryz.prog 83 #[.pointer (some ⟨rb,0,none⟩)] w fun e w'=>e=.returned (.tuple #[.int .i64 (dv s (sk s i) (run digit s (sk s i)-sk s i)),.int .i64 (sk s i:Int)])∧RS w' rb s (run digit s (sk s i)) lv (numB s (sk s i) (run digit s (sk s i)) bad) er at_ dep∧w.grownBy w' (some rb):=by
 have CS:=qH<|skip_any rb s i lv bad er at_ dep w h hs hi;obtain⟨j,hj⟩:∃j,sk s i=j:=⟨_,rfl⟩;have hjs:=sk_le s i hi;rw[hj]at CS hjs⊢;have HDG:Hid (∀t,j+t<run digit s j->48≤bat s (j+t)∧bat s (j+t)≤57):=fun t ht=>by have:=run_all (p:=digit) s (s.size-j) j t ht;unfold digit at this;simpa using this
 clear h hj;go_enter Tryz.func83,Tryz.ntmps83;go_wp2_with fail;refine CS.out.mono ?_;rintro e w1 ⟨rfl,h1,g1⟩;have HR:=qH<|h1;have HG1:=qH<|g1;have d1:=h1.c1;have eb:=decide_eq_true hb;clear h1 g1 CS;go_wp2;clear d1;go_loopw[5,13] (fun v _ wr=>∃(k:Nat) (n:Int),v=.int .i64 n∧j≤k∧k≤s.size∧0≤n∧n≤999999∧Hid (n=dv s j (k-j))∧Hid (run digit s k=run digit s j)∧Hid (RS wr rb s k lv bad er at_ dep)∧Hid (w.grownBy wr (some rb))) (fun _ _ wr=>s.size-rdI wr rb);case atStart=>exact⟨j,0,rfl,Nat.le_refl _,hjs,by omega,by omega,by show _=_;rw[Nat.sub_self];rfl,rfl,HR.out,HG1.out⟩
 case round=>
  obtain⟨k,n,rfl,hjk,hk,n0,n1,HN0,HK,HS,HG⟩:=hrel;have hs1:=HS.out;have c0:=hs1.c0;have c1:=hs1.c1;have c3:=hs1.c3;have f1:=hs1.fz 1;have HRD:=qH<|hs1.rdI;by_cases hgo:digit (bat s k)=true
  ·have hlt:k<s.size:=by
    by_cases e:k<s.size;·exact e
    ·rw[bat_out e]at hgo;cases hgo
   have hlt':(k:Int)<(s.size:Int):=by omega
   have el:=decide_eq_true hlt';obtain⟨x,hx⟩:∃x,s[k].toNat=x:=⟨_,rfl⟩;have hbx:bat s k=x:=by rw[bat_in hlt,hx]
   have hrk:=run_step hlt hgo;have HK2:Hid (run digit s (k+1)=run digit s j):=by rw[<-HK.out];exact hrk.symm
   have hreach:k<run digit s j:=by rw[<-HK.out,hrk];exact run_ge _ _ _
   have hnew:dv s j (k+1-j)=if k-j<6 then 10*n+((x:Int)-48)else n:=by rw[show k+1-j=(k-j)+1 by omega,dv,<-HN0.out,show j+(k-j)=k by omega,hbx]
   have hbnd:=dv_bd s j (k-j) (fun t ht=>HDG.out t (by omega));have hbnd2:=dv_bd s j (k+1-j) (fun t ht=>HDG.out t (by omega));rw[<-HN0.out]at hbnd;rw[hbx]at hgo;unfold digit at hgo;simp only[Bool.and_eq_true,decide_eq_true_eq]at hgo;obtain⟨l1,l2⟩:=hgo;have e1:decide ((48:Int)≤(x:Int))=true:=decide_eq_true (by omega);have e2:decide ((x:Int)≤57)=true:=decide_eq_true (by omega);have HN:=qH<|fun q=>by have:=(HS.out.drewN q).setI (k+1);rw[show((k+1:Nat):Int)=(k:Int)+1 by omega]at this;exact this
   by_cases h6:k-j<6
   ·rw[if_pos h6]at hnew;have h6':(k:Int)-(j:Int)<6:=by omega
    have HND:Hid (10*n+(x:Int)-48=dv s j (k+1-j)):=by show _=_;rw[hnew];omega
    have nb0:0≤10*n+(x:Int)-48:=by omega
    have nb1:10*n+(x:Int)-48≤999999:=by rw[HND.out];exact hbnd2.2.1
    clear hs1 HK HS hbx hnew hbnd hbnd2 hrk hreach HN0;go_wp2_with fail;go_quiet(fail);go_wp2_with fail;go_quiet(fail);go_wp2;go_roundw;case rel=>exact⟨k+1,_,rfl,by omega,by omega,nb0,nb1,HND.out,HK2.out,HN.out _,gr_trans (gr_trans HG.out (gr_drewN _ _ _)) (gr_set _ _ _ _)⟩
    case measure=>rw[(HN.out _).rdI,HRD.out];omega
   ·rw[if_neg h6]at hnew;have h6':¬(k:Int)-(j:Int)<6:=by omega
    have HND:Hid (n=dv s j (k+1-j)):=by show _=_;rw[hnew]
    clear hs1 HK HS hbx hnew hbnd hbnd2 hrk hreach HN0;go_wp2_with fail;go_quiet(fail);go_wp2;go_roundw;case rel=>exact⟨k+1,n,rfl,by omega,by omega,n0,n1,HND.out,HK2.out,HN.out _,gr_trans (gr_trans HG.out (gr_drewN _ _ _)) (gr_set _ _ _ _)⟩
    case measure=>rw[(HN.out _).rdI,HRD.out];omega
  ·have hrk:run digit s j=k:=by rw[<-HK.out];exact run_stop (by simpa using hgo)
   have HRK:=qH<|hrk;have CF:=qH<|fun W h=>fail_any rb s k lv bad er at_ dep j W h;clear hrk hs1 HK;by_cases hlt:k<s.size
   ·have hlt':(k:Int)<(s.size:Int):=by omega
    have el:=decide_eq_true hlt';obtain⟨x,hx⟩:∃x,s[k].toNat=x:=⟨_,rfl⟩;have hbx:bat s k=x:=by rw[bat_in hlt,hx]
    rw[hbx]at hgo;unfold digit at hgo;simp only[Bool.and_eq_true,decide_eq_true_eq]at hgo;clear hbx;by_cases l1:48≤x
    ·have l2:¬x≤57:=fun e=>hgo ⟨l1,e⟩;have e1:decide ((48:Int)≤(x:Int))=true:=decide_eq_true (by omega);have e2:decide ((x:Int)≤57)=false:=decide_eq_false (by omega);clear hgo;go_wp2_with fail;go_quiet(fail);by_cases t0:k=j
     ·have HE:Hid (badI bad (j:Int)=numB s j k bad):=by show _=_;unfold numB badI;rw[if_pos hb,if_pos (.inl t0)]
      have u0:(k:Int)-(j:Int)=0:=by omega
      go_wp2_with fail;refine(CF.out _ (HS.out.drewN _)).mono ?_;rintro e w2 ⟨rfl,h2,g2⟩;have H2:Hid (RS w2 rb s k lv (numB s j k bad) er at_ dep):=by have:=h2;rw[HE.out]at this;exact this
      have HG2:=qH<|gr_trans (gr_trans HG.out (gr_drewN _ _ _)) g2;clear h2 g2;go_wp2;go_ret2;exact⟨by rw[HRK.out,<-HN0.out];rfl,by rw[HRK.out];exact H2.out,HG2.out⟩
     ·by_cases t6:j+6<k
      ·have HE:Hid (badI bad (j:Int)=numB s j k bad):=by show _=_;unfold numB badI;rw[if_pos hb,if_pos (.inr (.inl t6))]
       have u0:¬(k:Int)-(j:Int)=0:=by omega
       have u1:((k:Int)-(j:Int)==0)=false:=by simp;omega
       have u6:(6:Int)<(k:Int)-(j:Int):=by omega
       go_wp2_with fail;refine(CF.out _ (HS.out.drewN _)).mono ?_;rintro e w2 ⟨rfl,h2,g2⟩;have H2:Hid (RS w2 rb s k lv (numB s j k bad) er at_ dep):=by have:=h2;rw[HE.out]at this;exact this
       have HG2:=qH<|gr_trans (gr_trans HG.out (gr_drewN _ _ _)) g2;clear h2 g2;go_wp2;go_ret2;exact⟨by rw[HRK.out,<-HN0.out];rfl,by rw[HRK.out];exact H2.out,HG2.out⟩
      ·have u0:¬(k:Int)-(j:Int)=0:=by omega
       have u1:((k:Int)-(j:Int)==0)=false:=by simp;omega
       have u6:¬(6:Int)<(k:Int)-(j:Int):=by omega
       by_cases t1:j+1<k
       ·have v1:(1:Int)<(k:Int)-(j:Int):=by omega
        have hjl:j<s.size:=by omega
        have hjl':(j:Int)<(s.size:Int):=by omega
        obtain⟨z,hz⟩:∃z,s[j].toNat=z:=⟨_,rfl⟩;have hbz:bat s j=z:=by rw[bat_in hjl,hz]
        by_cases tz:z=48
        ·have HE:Hid (badI bad (j:Int)=numB s j k bad):=by show _=_;unfold numB badI;rw[if_pos hb,if_pos (.inr (.inr ⟨t1,by rw[hbz];exact tz⟩))]
         subst tz;clear hbz;go_wp2_with fail;refine(CF.out _ (HS.out.drewN _)).mono ?_;rintro e w2 ⟨rfl,h2,g2⟩;have H2:Hid (RS w2 rb s k lv (numB s j k bad) er at_ dep):=by have:=h2;rw[HE.out]at this;exact this
         have HG2:=qH<|gr_trans (gr_trans HG.out (gr_drewN _ _ _)) g2;clear h2 g2;go_wp2;go_ret2;exact⟨by rw[HRK.out,<-HN0.out];rfl,by rw[HRK.out];exact H2.out,HG2.out⟩
        ·have HE:Hid (numB s j k bad=bad):=by show _=_;unfold numB;rw[if_neg (by rw[hbz];omega)]
         have ez:((z:Int)==48)=false:=by simp;omega
         clear hbz;go_wp2;go_ret2;exact⟨by rw[HRK.out,<-HN0.out];rfl,by rw[HRK.out,HE.out];exact HS.out.drewN _,gr_trans HG.out (gr_drewN _ _ _)⟩
       ·have v1:¬(1:Int)<(k:Int)-(j:Int):=by omega
        have HE:Hid (numB s j k bad=bad):=by show _=_;unfold numB;rw[if_neg (by omega)]
        go_wp2;go_ret2;exact⟨by rw[HRK.out,<-HN0.out];rfl,by rw[HRK.out,HE.out];exact HS.out.drewN _,gr_trans HG.out (gr_drewN _ _ _)⟩
    ·have e1:decide ((48:Int)≤(x:Int))=false:=decide_eq_false (by omega);clear hgo;go_wp2_with fail;go_quiet(fail);by_cases t0:k=j
     ·have HE:Hid (badI bad (j:Int)=numB s j k bad):=by show _=_;unfold numB badI;rw[if_pos hb,if_pos (.inl t0)]
      have u0:(k:Int)-(j:Int)=0:=by omega
      go_wp2_with fail;refine(CF.out _ (HS.out.drewN _)).mono ?_;rintro e w2 ⟨rfl,h2,g2⟩;have H2:Hid (RS w2 rb s k lv (numB s j k bad) er at_ dep):=by have:=h2;rw[HE.out]at this;exact this
      have HG2:=qH<|gr_trans (gr_trans HG.out (gr_drewN _ _ _)) g2;clear h2 g2;go_wp2;go_ret2;exact⟨by rw[HRK.out,<-HN0.out];rfl,by rw[HRK.out];exact H2.out,HG2.out⟩
     ·by_cases t6:j+6<k
      ·have HE:Hid (badI bad (j:Int)=numB s j k bad):=by show _=_;unfold numB badI;rw[if_pos hb,if_pos (.inr (.inl t6))]
       have u0:¬(k:Int)-(j:Int)=0:=by omega
       have u1:((k:Int)-(j:Int)==0)=false:=by simp;omega
       have u6:(6:Int)<(k:Int)-(j:Int):=by omega
       go_wp2_with fail;refine(CF.out _ (HS.out.drewN _)).mono ?_;rintro e w2 ⟨rfl,h2,g2⟩;have H2:Hid (RS w2 rb s k lv (numB s j k bad) er at_ dep):=by have:=h2;rw[HE.out]at this;exact this
       have HG2:=qH<|gr_trans (gr_trans HG.out (gr_drewN _ _ _)) g2;clear h2 g2;go_wp2;go_ret2;exact⟨by rw[HRK.out,<-HN0.out];rfl,by rw[HRK.out];exact H2.out,HG2.out⟩
      ·have u0:¬(k:Int)-(j:Int)=0:=by omega
       have u1:((k:Int)-(j:Int)==0)=false:=by simp;omega
       have u6:¬(6:Int)<(k:Int)-(j:Int):=by omega
       by_cases t1:j+1<k
       ·have v1:(1:Int)<(k:Int)-(j:Int):=by omega
        have hjl:j<s.size:=by omega
        have hjl':(j:Int)<(s.size:Int):=by omega
        obtain⟨z,hz⟩:∃z,s[j].toNat=z:=⟨_,rfl⟩;have hbz:bat s j=z:=by rw[bat_in hjl,hz]
        by_cases tz:z=48
        ·have HE:Hid (badI bad (j:Int)=numB s j k bad):=by show _=_;unfold numB badI;rw[if_pos hb,if_pos (.inr (.inr ⟨t1,by rw[hbz];exact tz⟩))]
         subst tz;clear hbz;go_wp2_with fail;refine(CF.out _ (HS.out.drewN _)).mono ?_;rintro e w2 ⟨rfl,h2,g2⟩;have H2:Hid (RS w2 rb s k lv (numB s j k bad) er at_ dep):=by have:=h2;rw[HE.out]at this;exact this
         have HG2:=qH<|gr_trans (gr_trans HG.out (gr_drewN _ _ _)) g2;clear h2 g2;go_wp2;go_ret2;exact⟨by rw[HRK.out,<-HN0.out];rfl,by rw[HRK.out];exact H2.out,HG2.out⟩
        ·have HE:Hid (numB s j k bad=bad):=by show _=_;unfold numB;rw[if_neg (by rw[hbz];omega)]
         have ez:((z:Int)==48)=false:=by simp;omega
         clear hbz;go_wp2;go_ret2;exact⟨by rw[HRK.out,<-HN0.out];rfl,by rw[HRK.out,HE.out];exact HS.out.drewN _,gr_trans HG.out (gr_drewN _ _ _)⟩
       ·have v1:¬(1:Int)<(k:Int)-(j:Int):=by omega
        have HE:Hid (numB s j k bad=bad):=by show _=_;unfold numB;rw[if_neg (by omega)]
        go_wp2;go_ret2;exact⟨by rw[HRK.out,<-HN0.out];rfl,by rw[HRK.out,HE.out];exact HS.out.drewN _,gr_trans HG.out (gr_drewN _ _ _)⟩
   ·have hlt':¬(k:Int)<(s.size:Int):=by omega
    have el:=decide_eq_false hlt';clear hgo;go_wp2_with fail;go_quiet(fail);by_cases t0:k=j
    ·have HE:Hid (badI bad (j:Int)=numB s j k bad):=by show _=_;unfold numB badI;rw[if_pos hb,if_pos (.inl t0)]
     have u0:(k:Int)-(j:Int)=0:=by omega
     go_wp2_with fail;refine(CF.out _ (HS.out.drewN _)).mono ?_;rintro e w2 ⟨rfl,h2,g2⟩;have H2:Hid (RS w2 rb s k lv (numB s j k bad) er at_ dep):=by have:=h2;rw[HE.out]at this;exact this
     have HG2:=qH<|gr_trans (gr_trans HG.out (gr_drewN _ _ _)) g2;clear h2 g2;go_wp2;go_ret2;exact⟨by rw[HRK.out,<-HN0.out];rfl,by rw[HRK.out];exact H2.out,HG2.out⟩
    ·by_cases t6:j+6<k
     ·have HE:Hid (badI bad (j:Int)=numB s j k bad):=by show _=_;unfold numB badI;rw[if_pos hb,if_pos (.inr (.inl t6))]
      have u0:¬(k:Int)-(j:Int)=0:=by omega
      have u1:((k:Int)-(j:Int)==0)=false:=by simp;omega
      have u6:(6:Int)<(k:Int)-(j:Int):=by omega
      go_wp2_with fail;refine(CF.out _ (HS.out.drewN _)).mono ?_;rintro e w2 ⟨rfl,h2,g2⟩;have H2:Hid (RS w2 rb s k lv (numB s j k bad) er at_ dep):=by have:=h2;rw[HE.out]at this;exact this
      have HG2:=qH<|gr_trans (gr_trans HG.out (gr_drewN _ _ _)) g2;clear h2 g2;go_wp2;go_ret2;exact⟨by rw[HRK.out,<-HN0.out];rfl,by rw[HRK.out];exact H2.out,HG2.out⟩
     ·have u0:¬(k:Int)-(j:Int)=0:=by omega
      have u1:((k:Int)-(j:Int)==0)=false:=by simp;omega
      have u6:¬(6:Int)<(k:Int)-(j:Int):=by omega
      by_cases t1:j+1<k
      ·have v1:(1:Int)<(k:Int)-(j:Int):=by omega
       have hjl:j<s.size:=by omega
       have hjl':(j:Int)<(s.size:Int):=by omega
       obtain⟨z,hz⟩:∃z,s[j].toNat=z:=⟨_,rfl⟩;have hbz:bat s j=z:=by rw[bat_in hjl,hz]
       by_cases tz:z=48
       ·have HE:Hid (badI bad (j:Int)=numB s j k bad):=by show _=_;unfold numB badI;rw[if_pos hb,if_pos (.inr (.inr ⟨t1,by rw[hbz];exact tz⟩))]
        subst tz;clear hbz;go_wp2_with fail;refine(CF.out _ (HS.out.drewN _)).mono ?_;rintro e w2 ⟨rfl,h2,g2⟩;have H2:Hid (RS w2 rb s k lv (numB s j k bad) er at_ dep):=by have:=h2;rw[HE.out]at this;exact this
        have HG2:=qH<|gr_trans (gr_trans HG.out (gr_drewN _ _ _)) g2;clear h2 g2;go_wp2;go_ret2;exact⟨by rw[HRK.out,<-HN0.out];rfl,by rw[HRK.out];exact H2.out,HG2.out⟩
       ·have HE:Hid (numB s j k bad=bad):=by show _=_;unfold numB;rw[if_neg (by rw[hbz];omega)]
        have ez:((z:Int)==48)=false:=by simp;omega
        clear hbz;go_wp2;go_ret2;exact⟨by rw[HRK.out,<-HN0.out];rfl,by rw[HRK.out,HE.out];exact HS.out.drewN _,gr_trans HG.out (gr_drewN _ _ _)⟩
      ·have v1:¬(1:Int)<(k:Int)-(j:Int):=by omega
       have HE:Hid (numB s j k bad=bad):=by show _=_;unfold numB;rw[if_neg (by omega)]
       go_wp2;go_ret2;exact⟨by rw[HRK.out,<-HN0.out];rfl,by rw[HRK.out,HE.out];exact HS.out.drewN _,gr_trans HG.out (gr_drewN _ _ _)⟩
end
section
open Go.RowKit
theorem conv_new(xs:List Int)(hx:∀x∈xs,0≤x∧x<256)(w:World):
 (convert 151 9 (.slice (some ⟨w.heap.size,0,none⟩) xs.length xs.length)).run Tryz.prog (w.alloc (.cells (xs.map (Value.int .u8)).toArray 5))=
  .ok (.string ⟨(xs.map fun x=>x.toNat.toUInt8).toArray⟩) (w.alloc (.cells (xs.map (Value.int .u8)).toArray 5)):=by
 have h:=run_convert_bytes_back (P:=Tryz.prog) (w.alloc (.cells (xs.map (Value.int .u8)).toArray 5)) 151 9 5 ⟨w.heap.size,0,none⟩ xs.length (xs.map fun x=>x.toNat.toUInt8) Tryz.underlying151 Tryz.underlying5 Tryz.underlying9 (by
  intro j hj;simp only[List.length_map]at hj;have e:(⟨w.heap.size,0,none⟩:Addr).add j=⟨w.heap.size,j,none⟩:=by unfold Addr.add;split<;>simp_all
  rw[e,World.cell?_alloc_mark];have hb:=hx xs[j] (List.getElem_mem hj);simp[hj];omega);simpa using h
theorem conv1(a:Int)(ha:0≤a∧a<256)(w:World):
 (convert 151 9 (.slice (some ⟨w.heap.size,0,none⟩) 1 1)).run Tryz.prog (w.alloc (.cells #[.int .u8 a] 5))=.ok (.string ⟨#[a.toNat.toUInt8]⟩) (w.alloc (.cells #[.int .u8 a] 5)):=
 conv_new [a] (by simpa using ha) w
theorem conv_at(a:Int)(ha:0≤a∧a<256)(w:World)(rb:Nat)(z:Int):∀q,(convert 151 9 (.slice (some ⟨w.heap.size,0,none⟩) 1 1)).run Tryz.prog (((w.drewN q).setCell ⟨rb,1,none⟩ (.int .i64 z)).alloc (.cells #[.int .u8 a] 5))=.ok (.string ⟨#[a.toNat.toUInt8]⟩) (((w.drewN q).setCell ⟨rb,1,none⟩ (.int .i64 z)).alloc (.cells #[.int .u8 a] 5)):=fun q=>by
 have:=conv1 a ha ((w.drewN q).setCell ⟨rb,1,none⟩ (.int .i64 z));have e:((w.drewN q).setCell ⟨rb,1,none⟩ (.int .i64 z)).heap.size=w.heap.size:=by simp
 rw[e]at this;exact this
theorem conv_at2(a:Int)(ha:0≤a∧a<256)(w:World)(rb:Nat)(z y:Int):∀q q',(convert 151 9 (.slice (some ⟨w.heap.size,0,none⟩) 1 1)).run Tryz.prog (((((w.drewN q).setCell ⟨rb,1,none⟩ (.int .i64 z)).drewN q').setCell ⟨rb,1,none⟩ (.int .i64 y)).alloc (.cells #[.int .u8 a] 5))=.ok (.string ⟨#[a.toNat.toUInt8]⟩) (((((w.drewN q).setCell ⟨rb,1,none⟩ (.int .i64 z)).drewN q').setCell ⟨rb,1,none⟩ (.int .i64 y)).alloc (.cells #[.int .u8 a] 5)):=fun q q'=>by
 have:=conv1 a ha ((((w.drewN q).setCell ⟨rb,1,none⟩ (.int .i64 z)).drewN q').setCell ⟨rb,1,none⟩ (.int .i64 y));have e:((((w.drewN q).setCell ⟨rb,1,none⟩ (.int .i64 z)).drewN q').setCell ⟨rb,1,none⟩ (.int .i64 y)).heap.size=w.heap.size:=by simp
 rw[e]at this;exact this
def qF(s:ByteArray):Nat->Nat->List UInt8->Except Nat (Nat×List UInt8)
 |0,p,_=>.error p
 |f+1,p,acc=>
  if bat s p=256 then .error p
  else if bat s p=34 then .ok (p+1,acc)
  else if bat s p=92 then
   if bat s (p+1)=34∨bat s (p+1)=92 then qF s f (p+2) (acc++[(bat s (p+1)).toUInt8])
   else if bat s (p+1)=110 then qF s f (p+2) (acc++[10])
   else .error (p+1)
  else qF s f (p+1) (acc++[(bat s p).toUInt8])
def quoR(s:ByteArray)(i:Nat):Except Nat (Nat×List UInt8):=if isAt s i 34 then qF s (s.size+2) (gotI s i 34) []else .error (sk s i)
def QOut(w w':World)(e:Ending)(rb:Nat)(s:ByteArray)(lv:Value)(bad er at_ dep:Int)(r:Except Nat (Nat×List UInt8)):Prop:=
 w.grownBy w' (some rb)∧match r with
  |.ok (p,t)=>e=.returned (.string ⟨t.toArray⟩)∧RS w' rb s p lv bad er at_ dep
  |.error b=>e=.returned (.string ByteArray.empty)∧∃p,p≤s.size∧RS w' rb s p lv (b:Int) er at_ dep
theorem quoted_any(rb:Nat)(s:ByteArray)(i:Nat)(lv:Value)(bad er at_ dep:Int)(w:World)(h:RS w rb s i lv bad er at_ dep)(hs:s.size≤1073741824)(hi:i≤s.size)(hb:bad<0):
 Calls Tryz.prog 54 #[.pointer (some ⟨rb,0,none⟩)] w fun e w'=>QOut w w' e rb s lv bad er at_ dep (quoR s i):=by
 have CM:Hid (Calls Tryz.prog 53 #[.pointer (some ⟨rb,0,none⟩),.int .u8 34] w fun e w'=>e=.returned (.tuple #[])∧RS w' rb s (gotI s i 34) lv (mustB s i 34 bad) er at_ dep∧w.grownBy w' (some rb)):=must_any rb s i lv bad er at_ dep 34 w h (by omega) hi (by omega) hb;clear h;by_cases hia:isAt s i 34=true
 ·have hmb:mustB s i 34 bad=bad:=by unfold mustB;rw[if_pos hia]
  have HQ:Hid (quoR s i=qF s (s.size+2) (gotI s i 34) []):=by show _=_;unfold quoR;rw[if_pos hia]
  have hgs:gotI s i 34≤s.size:=by
   unfold isAt at hia;have e:bat s (sk s i)=34:=by simpa using hia
   unfold gotI;rw[if_pos e];by_cases c:sk s i<s.size;·omega
   ·rw[bat_out c]at e;omega
  obtain⟨j,hj⟩:∃j,gotI s i 34=j:=⟨_,rfl⟩;rw[hmb,hj]at CM;rw[hj]at HQ hgs;clear hmb hj hia;go_enter Tryz.func54,Tryz.ntmps54;go_wp2_with fail;refine CM.out.mono ?_;rintro e w1 ⟨rfl,h1,g1⟩;have HR:=qH<|h1;have HG1:=qH<|g1;clear h1 g1 CM;go_wp2;go_loopw[3,7] (fun v _ wr=>∃(k f:Nat) (Y:Array UInt8),v=.string ⟨Y⟩∧k≤s.size∧Y.size≤k∧s.size<k+f∧Hid (qF s f k Y.toList=quoR s i)∧Hid (RS wr rb s k lv bad er at_ dep)∧Hid (w.grownBy wr (some rb))) (fun _ _ wr=>s.size-rdI wr rb);case atStart=>exact⟨j,s.size+2,#[],rfl,hgs,by simp,by omega,by rw[HQ.out];rfl,HR.out,HG1.out⟩
  case round=>
   obtain⟨k,f,Y,rfl,hk,hY,hf,HF,HS,HG⟩:=hrel;have hs1:=HS.out;have c0:=hs1.c0;have c1:=hs1.c1;have c3:=hs1.c3;have f1:=hs1.fz 1;have HRD:=qH<|hs1.rdI;have CF:=qH<|fun g W h=>fail_any rb s g lv bad er at_ dep g W h;have HBI:Hid (∀a,badI bad a=a):=fun a=>by unfold badI;rw[if_pos hb]
   obtain⟨f,rfl⟩:∃f',f=f'+1:=⟨f-1,by omega⟩;clear hs1;by_cases hlt:k<s.size
   ·have hlt':(k:Int)<(s.size:Int):=by omega
    have hlt2:¬(s.size:Int)≤(k:Int):=by omega
    obtain⟨x,hx⟩:∃x,s[k].toNat=x:=⟨_,rfl⟩;have hbx:bat s k=x:=by rw[bat_in hlt,hx]
    have hx256:x<256:=by rw[<-hbx];exact bat_lt hlt
    have HF1:Hid (quoR s i=if x=34 then .ok (k+1,Y.toList)else if x=92 then(if bat s (k+1)=34∨bat s (k+1)=92 then qF s f (k+2) (Y.toList++[(bat s (k+1)).toUInt8])else if bat s (k+1)=110 then qF s f (k+2) (Y.toList++[10])else .error (k+1))else qF s f (k+1) (Y.toList++[x.toUInt8])):=by show _=_;rw[<-HF.out,qF,hbx,if_neg (by omega)]
    clear HF hbx;by_cases q34:x=34
    ·have HE:Hid (quoR s i=.ok (k+1,Y.toList)):=by show _=_;rw[HF1.out,if_pos q34]
     have HN:=qH<|fun q=>by have:=(HS.out.drewN q).setI (k+1);rw[show((k+1:Nat):Int)=(k:Int)+1 by omega]at this;exact this
     subst q34;clear HF1 HS;go_wp2_with fail;go_quiet(fail);go_wp2_with fail;go_quiet(fail);go_wp2;go_ret;exact⟨gr_trans (gr_trans HG.out (gr_drewN _ _ _)) (gr_set _ _ _ _),by rw[HE.out];exact⟨rfl,HN.out _⟩⟩
    ·by_cases q92:x=92
     ·rw[if_neg q34,if_pos q92]at HF1;have HN1:=qH<|fun q=>by have:=(HS.out.drewN q).setI (k+1);rw[show((k+1:Nat):Int)=(k:Int)+1 by omega]at this;exact this
      subst q92;have CF1:=qH<|fun W h=>by have:=CF.out (k+1) W h;rw[show((k+1:Nat):Int)=(k:Int)+1 by omega]at this;exact this
      by_cases hlt2:k+1<s.size
      ·have hlt3:(k:Int)+1<(s.size:Int):=by omega
       have hgd:decide ((s.size:Int)≤(k:Int)+1)=false:=decide_eq_false (by omega);obtain⟨y,hy⟩:∃y,s[k+1].toNat=y:=⟨_,rfl⟩;have hby:bat s (k+1)=y:=by rw[bat_in hlt2,hy]
       have hy256:y<256:=by rw[<-hby];exact bat_lt hlt2
       rw[hby]at HF1;clear hby;by_cases ok:y=34∨y=92∨y=110
       ·have HN2:=qH<|fun q q'=>by have:=((HN1.out q).drewN q').setI (k+2);rw[show((k+2:Nat):Int)=(k:Int)+1+1 by omega]at this;exact this
        rcases ok with ok|ok|ok
        ·have HF2:Hid (qF s f (k+2) (Y.toList++[34])=quoR s i):=by show _=_;rw[HF1.out,if_pos (.inl ok),ok];rfl
         subst ok;have hcv:=conv_at2 34 (by omega) wr rb ((k:Int)+1) ((k:Int)+1+1);clear HF1 HS;go_wp2_with fail;go_quiet(fail);go_wp2_with fail;go_quiet(fail);go_wp2_with fail;go_quiet(fail);go_wp2_with fail;go_quiet(fail);go_wp2;go_roundw;case rel=>exact⟨k+2,f,_,rfl,by omega,by simp;omega,by omega,by show _=_;rw[<-HF2.out],(HN2.out _ _).below ((Below.refl _ _).alloc (Nat.le_refl _) _),gr_trans (gr_trans (gr_trans (gr_trans (gr_trans HG.out (gr_drewN _ _ _)) (gr_set _ _ _ _)) (gr_drewN _ _ _)) (gr_set _ _ _ _)) (gr_below ((Below.refl _ _).alloc (Nat.le_refl _) _))⟩
         case measure=>rw[((HN2.out _ _).below ((Below.refl _ _).alloc (Nat.le_refl _) _)).rdI,HRD.out];omega
        ·have HF2:Hid (qF s f (k+2) (Y.toList++[92])=quoR s i):=by show _=_;rw[HF1.out,if_pos (.inr ok),ok];rfl
         subst ok;have hcv:=conv_at2 92 (by omega) wr rb ((k:Int)+1) ((k:Int)+1+1);clear HF1 HS;go_wp2_with fail;go_quiet(fail);go_wp2_with fail;go_quiet(fail);go_wp2_with fail;go_quiet(fail);go_wp2_with fail;go_quiet(fail);go_wp2;go_roundw;case rel=>exact⟨k+2,f,_,rfl,by omega,by simp;omega,by omega,by show _=_;rw[<-HF2.out],(HN2.out _ _).below ((Below.refl _ _).alloc (Nat.le_refl _) _),gr_trans (gr_trans (gr_trans (gr_trans (gr_trans HG.out (gr_drewN _ _ _)) (gr_set _ _ _ _)) (gr_drewN _ _ _)) (gr_set _ _ _ _)) (gr_below ((Below.refl _ _).alloc (Nat.le_refl _) _))⟩
         case measure=>rw[((HN2.out _ _).below ((Below.refl _ _).alloc (Nat.le_refl _) _)).rdI,HRD.out];omega
        ·have HF2:Hid (qF s f (k+2) (Y.toList++[10])=quoR s i):=by show _=_;rw[HF1.out,if_neg (by omega),if_pos ok]
         subst ok;have hcv:=conv_at2 10 (by omega) wr rb ((k:Int)+1) ((k:Int)+1+1);clear HF1 HS;go_wp2_with fail;go_quiet(fail);go_wp2_with fail;go_quiet(fail);go_wp2_with fail;go_quiet(fail);go_wp2_with fail;go_quiet(fail);go_wp2;go_roundw;case rel=>exact⟨k+2,f,_,rfl,by omega,by simp;omega,by omega,by show _=_;rw[<-HF2.out],(HN2.out _ _).below ((Below.refl _ _).alloc (Nat.le_refl _) _),gr_trans (gr_trans (gr_trans (gr_trans (gr_trans HG.out (gr_drewN _ _ _)) (gr_set _ _ _ _)) (gr_drewN _ _ _)) (gr_set _ _ _ _)) (gr_below ((Below.refl _ _).alloc (Nat.le_refl _) _))⟩
         case measure=>rw[((HN2.out _ _).below ((Below.refl _ _).alloc (Nat.le_refl _) _)).rdI,HRD.out];omega
       ·have e1:((y:Int)!=34)=true:=by simp;omega
        have e2:((y:Int)!=92)=true:=by simp;omega
        have e3:((y:Int)!=110)=true:=by simp;omega
        have HE:Hid (quoR s i=.error (k+1)):=by show _=_;rw[HF1.out,if_neg (by omega),if_neg (by omega)]
        clear HF1 HS ok;go_wp2_with fail;go_quiet(fail);go_wp2_with fail;go_quiet(fail);go_wp2_with fail;go_quiet(fail);go_wp2_with fail;refine(CF1.out _ (by first|exact HN1.out _|exact(HN1.out _).drewN _)).mono ?_;rintro e w2 ⟨rfl,h2,g2⟩;have H2:Hid (RS w2 rb s (k+1) lv ((k+1:Nat):Int) er at_ dep):=by have:=h2;rw[HBI.out]at this;rw[show((k+1:Nat):Int)=(k:Int)+1 by omega];exact this
        have HG2:Hid (w.grownBy w2 (some rb)):=by first|exact gr_trans (gr_trans (gr_trans HG.out (gr_drewN _ _ _)) (gr_set _ _ _ _)) g2|exact gr_trans (gr_trans (gr_trans (gr_trans HG.out (gr_drewN _ _ _)) (gr_set _ _ _ _)) (gr_drewN _ _ _)) g2
        clear h2 g2;go_wp2;go_ret;exact⟨HG2.out,by rw[HE.out];exact⟨rfl,k+1,by omega,H2.out⟩⟩
      ·have hge:(s.size:Int)≤(k:Int)+1:=by omega
       have hgd:=decide_eq_true hge;have HE:Hid (quoR s i=.error (k+1)):=by show _=_;rw[HF1.out,bat_out hlt2,if_neg (by omega),if_neg (by omega)]
       clear HF1 HS;go_wp2_with fail;go_quiet(fail);go_wp2_with fail;go_quiet(fail);go_wp2_with fail;go_quiet(fail);go_wp2_with fail;refine(CF1.out _ (by first|exact HN1.out _|exact(HN1.out _).drewN _)).mono ?_;rintro e w2 ⟨rfl,h2,g2⟩;have H2:Hid (RS w2 rb s (k+1) lv ((k+1:Nat):Int) er at_ dep):=by have:=h2;rw[HBI.out]at this;rw[show((k+1:Nat):Int)=(k:Int)+1 by omega];exact this
       have HG2:Hid (w.grownBy w2 (some rb)):=by first|exact gr_trans (gr_trans (gr_trans HG.out (gr_drewN _ _ _)) (gr_set _ _ _ _)) g2|exact gr_trans (gr_trans (gr_trans (gr_trans HG.out (gr_drewN _ _ _)) (gr_set _ _ _ _)) (gr_drewN _ _ _)) g2
       clear h2 g2;go_wp2;go_ret;exact⟨HG2.out,by rw[HE.out];exact⟨rfl,k+1,by omega,H2.out⟩⟩
     ·have HF2:Hid (qF s f (k+1) (Y.toList++[x.toUInt8])=quoR s i):=by show _=_;rw[HF1.out,if_neg q34,if_neg q92]
      have HN:=qH<|fun q=>by have:=(HS.out.drewN q).setI (k+1);rw[show((k+1:Nat):Int)=(k:Int)+1 by omega]at this;exact this
      have e1:((x:Int)==34)=false:=by simp;omega
      have e2:((x:Int)==92)=false:=by simp;omega
      have hcv:=conv_at (x:Int) ⟨by omega,by omega⟩ wr rb ((k:Int)+1);have hxx:((x:Int).toNat).toUInt8=x.toUInt8:=by simp
      rw[hxx]at hcv;clear hxx;clear HF1 HS;go_wp2_with fail;go_quiet(fail);go_wp2_with fail;go_quiet(fail);go_wp2;go_roundw;case rel=>exact⟨k+1,f,_,rfl,by omega,by simp;omega,by omega,by show _=_;rw[<-HF2.out],(HN.out _).below ((Below.refl _ _).alloc (Nat.le_refl _) _),gr_trans (gr_trans (gr_trans HG.out (gr_drewN _ _ _)) (gr_set _ _ _ _)) (gr_below ((Below.refl _ _).alloc (Nat.le_refl _) _))⟩
      case measure=>rw[((HN.out _).below ((Below.refl _ _).alloc (Nat.le_refl _) _)).rdI,HRD.out];omega
   ·have hge:(s.size:Int)≤(k:Int):=by omega
    have HE:Hid (quoR s i=.error k):=by show _=_;rw[<-HF.out,qF,if_pos (bat_out hlt)]
    clear HF;go_wp2_with fail;go_quiet(fail);go_wp2_with fail;refine(CF.out k _ (HS.out.drewN _)).mono ?_;rintro e w2 ⟨rfl,h2,g2⟩;have H2:Hid (RS w2 rb s k lv (k:Int) er at_ dep):=by have:=h2;rw[HBI.out]at this;exact this
    have HG2:=qH<|gr_trans (gr_trans HG.out (gr_drewN _ _ _)) g2;clear h2 g2;go_wp2;go_ret;exact⟨HG2.out,by rw[HE.out];exact⟨rfl,k,hk,H2.out⟩⟩
 ·have hmb:mustB s i 34 bad=(sk s i:Int):=by unfold mustB;rw[if_neg hia]
  have HQ:Hid (quoR s i=.error (sk s i)):=by show _=_;unfold quoR;rw[if_neg hia]
  have hgs:gotI s i 34≤s.size:=by unfold isAt at hia;unfold gotI;rw[if_neg (by simpa using hia)];exact sk_le s i hi
  rw[hmb]at CM;obtain⟨j,hj⟩:∃j,gotI s i 34=j:=⟨_,rfl⟩;obtain⟨b,hbe⟩:∃b:Int,(sk s i:Int)=b:=⟨_,rfl⟩;have HBE:=qH<|hbe;have hb0:¬b<0:=by omega
  rw[hj,hbe]at CM;rw[hj]at hgs;clear hmb hj hia hbe;go_enter Tryz.func54,Tryz.ntmps54;go_wp2_with fail;refine CM.out.mono ?_;rintro e w1 ⟨rfl,h1,g1⟩;have HR:=qH<|h1;have HG1:=qH<|g1;have c3:=h1.c3;clear h1 g1 CM;go_wp2;go_loopw[3,7] (fun v _ wr=>v=.string ByteArray.empty∧wr=w1) (fun _ _ _=>0);case atStart=>exact⟨rfl,rfl⟩
  case round=>obtain⟨rfl,hw⟩:=hrel;obtain rfl:=hw.symm;go_wp2;go_ret;exact⟨HG1.out,by rw[HQ.out];exact⟨rfl,j,hgs,by rw[HBE.out];exact HR.out⟩⟩
end
section
open Go.RowKit
def kindsL:List ByteArray:=[⟨#[114,111,119]⟩,⟨#[99,111,108]⟩,⟨#[115,116,97,99,107]⟩,⟨#[98,111,120]⟩,⟨#[115,99,114,111,108,108]⟩,⟨#[116,101,120,116]⟩,⟨#[103,97,112]⟩]
theorem kinds_any(w:World):Calls Tryz.prog 49 #[] w fun e w'=>e=.returned (.slice (some ⟨w.heap.size,0,none⟩) 7 7)∧(∀j,j<7->w'.cell? ⟨w.heap.size,0+j,none⟩=some (.string (kindsL[j]?.getD ByteArray.empty)))∧w.heap.size<w'.heap.size∧Below w.heap.size w w':=by
 have HC:Hid (∀j,j<7->(w.alloc (.cells #[.string ⟨#[114,111,119]⟩,.string ⟨#[99,111,108]⟩,.string ⟨#[115,116,97,99,107]⟩,.string ⟨#[98,111,120]⟩,.string ⟨#[115,99,114,111,108,108]⟩,.string ⟨#[116,101,120,116]⟩,.string ⟨#[103,97,112]⟩] 9)).cell? ⟨w.heap.size,0+j,none⟩=some (.string (kindsL[j]?.getD ByteArray.empty))):=fun j hj=>by
  rw[Nat.zero_add,World.cell?_alloc_at _ _ _ _ rfl];match j,hj with
  |0,_=>rfl
  |1,_=>rfl
  |2,_=>rfl
  |3,_=>rfl
  |4,_=>rfl
  |5,_=>rfl
  |6,_=>rfl
 go_enter Tryz.func49,Tryz.ntmps49;go_wp2;go_ret;exact⟨rfl,HC.out,by simp,(Below.refl _ _).alloc (Nat.le_refl _) _⟩
def namesL:List ByteArray:=[⟨#[105,100]⟩,⟨#[109,105,110]⟩,⟨#[109,97,120]⟩,⟨#[119,101,105,103,104,116]⟩,⟨#[103,97,112]⟩,⟨#[112,97,100]⟩,⟨#[98,111,114,100,101,114]⟩,⟨#[97,108,105,103,110]⟩,⟨#[119,114,97,112]⟩,⟨#[102,103]⟩,⟨#[98,103]⟩,⟨#[98,111,108,100]⟩]
theorem names_any(w:World):Calls Tryz.prog 84 #[] w fun e w'=>e=.returned (.slice (some ⟨w.heap.size,0,none⟩) 12 12)∧(∀j,j<12->w'.cell? ⟨w.heap.size,0+j,none⟩=some (.string (namesL[j]?.getD ByteArray.empty)))∧w.heap.size<w'.heap.size∧Below w.heap.size w w':=by
 have HC:Hid (∀j,j<12->(w.alloc (.cells #[.string ⟨#[105,100]⟩,.string ⟨#[109,105,110]⟩,.string ⟨#[109,97,120]⟩,.string ⟨#[119,101,105,103,104,116]⟩,.string ⟨#[103,97,112]⟩,.string ⟨#[112,97,100]⟩,.string ⟨#[98,111,114,100,101,114]⟩,.string ⟨#[97,108,105,103,110]⟩,.string ⟨#[119,114,97,112]⟩,.string ⟨#[102,103]⟩,.string ⟨#[98,103]⟩,.string ⟨#[98,111,108,100]⟩] 9)).cell? ⟨w.heap.size,0+j,none⟩=some (.string (namesL[j]?.getD ByteArray.empty))):=fun j hj=>by
  rw[Nat.zero_add,World.cell?_alloc_at _ _ _ _ rfl];match j,hj with
  |0,_=>rfl
  |1,_=>rfl
  |2,_=>rfl
  |3,_=>rfl
  |4,_=>rfl
  |5,_=>rfl
  |6,_=>rfl
  |7,_=>rfl
  |8,_=>rfl
  |9,_=>rfl
  |10,_=>rfl
  |11,_=>rfl
 go_enter Tryz.func84,Tryz.ntmps84;go_wp2;go_ret;exact⟨rfl,HC.out,by simp,(Below.refl _ _).alloc (Nat.le_refl _) _⟩
def mostL:List Int:=[999999,100000,100000,100000,100,20,1,2,1,8,8,1]
theorem most_any(w:World):Calls Tryz.prog 86 #[] w fun e w'=>e=.returned (.slice (some ⟨w.heap.size,0,none⟩) 12 12)∧(∀j,j<12->w'.cell? ⟨w.heap.size,0+j,none⟩=some (.int .i64 (mostL[j]?.getD 0))∧w'.frozen? ⟨w.heap.size,0+j,none⟩=false)∧w.heap.size<w'.heap.size∧Below w.heap.size w w':=by
 have HC:Hid (∀j,j<12->(w.alloc (.cells #[.int .i64 (999999),.int .i64 (100000),.int .i64 (100000),.int .i64 (100000),.int .i64 (100),.int .i64 (20),.int .i64 (1),.int .i64 (2),.int .i64 (1),.int .i64 (8),.int .i64 (8),.int .i64 (1)] 3)).cell? ⟨w.heap.size,0+j,none⟩=some (.int .i64 (mostL[j]?.getD 0))∧(w.alloc (.cells #[.int .i64 (999999),.int .i64 (100000),.int .i64 (100000),.int .i64 (100000),.int .i64 (100),.int .i64 (20),.int .i64 (1),.int .i64 (2),.int .i64 (1),.int .i64 (8),.int .i64 (8),.int .i64 (1)] 3)).frozen? ⟨w.heap.size,0+j,none⟩=false):=fun j hj=>by
  rw[Nat.zero_add,World.cell?_alloc_at _ _ _ _ rfl,World.frozen?_alloc_at _ _ _ _ rfl];match j,hj with
  |0,_=>exact⟨rfl,rfl⟩
  |1,_=>exact⟨rfl,rfl⟩
  |2,_=>exact⟨rfl,rfl⟩
  |3,_=>exact⟨rfl,rfl⟩
  |4,_=>exact⟨rfl,rfl⟩
  |5,_=>exact⟨rfl,rfl⟩
  |6,_=>exact⟨rfl,rfl⟩
  |7,_=>exact⟨rfl,rfl⟩
  |8,_=>exact⟨rfl,rfl⟩
  |9,_=>exact⟨rfl,rfl⟩
  |10,_=>exact⟨rfl,rfl⟩
  |11,_=>exact⟨rfl,rfl⟩
 go_enter Tryz.func86,Tryz.ntmps86;go_wp2;go_ret;exact⟨rfl,HC.out,by simp,(Below.refl _ _).alloc (Nat.le_refl _) _⟩
def withoutL:List Int:=[0,0,-1,1,0,0,1,0,1,0,0,0]
theorem without_any(w:World):Calls Tryz.prog 81 #[] w fun e w'=>e=.returned (.slice (some ⟨w.heap.size,0,none⟩) 12 12)∧(∀j,j<12->w'.cell? ⟨w.heap.size,0+j,none⟩=some (.int .i64 (withoutL[j]?.getD 0))∧w'.frozen? ⟨w.heap.size,0+j,none⟩=false)∧w.heap.size<w'.heap.size∧Below w.heap.size w w':=by
 have HC:Hid (∀j,j<12->(w.alloc (.cells #[.int .i64 (0),.int .i64 (0),.int .i64 (-1),.int .i64 (1),.int .i64 (0),.int .i64 (0),.int .i64 (1),.int .i64 (0),.int .i64 (1),.int .i64 (0),.int .i64 (0),.int .i64 (0)] 3)).cell? ⟨w.heap.size,0+j,none⟩=some (.int .i64 (withoutL[j]?.getD 0))∧(w.alloc (.cells #[.int .i64 (0),.int .i64 (0),.int .i64 (-1),.int .i64 (1),.int .i64 (0),.int .i64 (0),.int .i64 (1),.int .i64 (0),.int .i64 (1),.int .i64 (0),.int .i64 (0),.int .i64 (0)] 3)).frozen? ⟨w.heap.size,0+j,none⟩=false):=fun j hj=>by
  rw[Nat.zero_add,World.cell?_alloc_at _ _ _ _ rfl,World.frozen?_alloc_at _ _ _ _ rfl];match j,hj with
  |0,_=>exact⟨rfl,rfl⟩
  |1,_=>exact⟨rfl,rfl⟩
  |2,_=>exact⟨rfl,rfl⟩
  |3,_=>exact⟨rfl,rfl⟩
  |4,_=>exact⟨rfl,rfl⟩
  |5,_=>exact⟨rfl,rfl⟩
  |6,_=>exact⟨rfl,rfl⟩
  |7,_=>exact⟨rfl,rfl⟩
  |8,_=>exact⟨rfl,rfl⟩
  |9,_=>exact⟨rfl,rfl⟩
  |10,_=>exact⟨rfl,rfl⟩
  |11,_=>exact⟨rfl,rfl⟩
 go_enter Tryz.func81,Tryz.ntmps81;go_wp2;go_ret;exact⟨rfl,HC.out,by simp,(Below.refl _ _).alloc (Nat.le_refl _) _⟩
def ownsB(kind attr:Nat):Bool:=if attr=4 then(kind==0||kind==1)else if attr=5∨attr=6 then kind==3 else if attr=7∨attr=8 then kind==5 else true
theorem owns_any(kind attr:Nat)(hk:kind<7)(ha:attr<12)(w:World):Calls Tryz.prog 85 #[.int .i64 (kind:Int),.int .i64 (attr:Int)] w fun e w'=>e=.returned (.bool (ownsB kind attr))∧w'=w:=by
 obtain⟨r,hr⟩:∃r,ownsB kind attr=r:=⟨_,rfl⟩;rw[hr];have HK:kind=0∨kind=1∨kind=2∨kind=3∨kind=4∨kind=5∨kind=6:=by omega
 have HA:attr=0∨attr=1∨attr=2∨attr=3∨attr=4∨attr=5∨attr=6∨attr=7∨attr=8∨attr=9∨attr=10∨attr=11:=by omega
 rcases HA with rfl|rfl|rfl|rfl|rfl|rfl|rfl|rfl|rfl|rfl|rfl|rfl<;>rcases HK with rfl|rfl|rfl|rfl|rfl|rfl|rfl<;>
  (simp[ownsB]at hr;subst hr;go_enter Tryz.func85,Tryz.ntmps85;go_wp2;go_ret;exact⟨rfl,rfl⟩)
end
section
structure Nd where
 kind:Nat
 attr:List Int
 text:List UInt8
 kids:List Nat
 up:Int
abbrev Flt:=Option (Nat×Nat)
def addF(f:Flt)(c p:Nat):Flt:=match f with
 |none=>some (c,p)
 |some x=>some x
def addIf(b:Bool)(f:Flt)(c p:Nat):Flt:=if b then addF f c p else f
structure PS where
 i:Nat
 L:List Nd
 er:Flt
def mustR(s:ByteArray)(i c:Nat):Except Nat Nat:=if isAt s i c then .ok (gotI s i c)else .error (sk s i)
def numBad(s:ByteArray)(j k:Nat):Bool:=decide (k=j∨j+6<k∨(j+1<k∧bat s j=48))
def hasId(L:List Nd)(n:Int):Bool:=L.any fun d=>d.attr[0]?.getD 0==n
def attr1(s:ByteArray)(kind:Nat)(L:List Nd)(i:Nat)(er:Flt)(a:List Int)(seen:List Nat):Except Nat (Nat×Flt×List Int×List Nat):=
 let at_:=sk s i
 let k:=run letter s at_
 if k=at_ then .error at_ else
 match mustR s k 61 with
 |.error b=>.error b
 |.ok i2=>
  let j:=sk s i2
  let e:=run digit s j
  if numBad s j e then .error j else
  let n:=dv s j (e-j)
  let ix:=findF namesL (s.extract at_ k) 0
  if ix<0∨ownsB kind ix.toNat=false then .ok (e,addF er 7 at_,a,seen)
  else .ok (e,addIf (decide (ix=0∧0<n)&&hasId L n) (addIf (decide (mostL[ix.toNat]?.getD 0<n)) (addIf (seen.contains ix.toNat) er 5 at_) 6 j) 5 j,a.set ix.toNat n,ix.toNat::seen)
def attrsF(s:ByteArray)(kind:Nat)(L:List Nd):Nat->Nat->Flt->List Int->List Nat->Except Nat (Nat×Flt×List Int)
 |0,i,_,_,_=>.error i
 |f+1,i,er,a,seen=>match attr1 s kind L i er a seen with
  |.error b=>.error b
  |.ok (i2,er2,a2,seen2)=>
   if isAt s i2 59 then attrsF s kind L f (gotI s i2 59) er2 a2 seen2
   else match mustR s i2 125 with
    |.error b=>.error b
    |.ok i3=>.ok (i3,er2,a2)
def attrsR(s:ByteArray)(kind:Nat)(L:List Nd)(i:Nat)(er:Flt):Except Nat (Nat×Flt×List Int):=
 if isAt s i 123 then attrsF s kind L (s.size+1) (gotI s i 123) er withoutL []else .ok (sk s i,er,withoutL)
def grown(L:List Nd)(d:Nd):List Nd:=
 if d.up<0 then L++[d]else(L.modify d.up.toNat fun u=>{u with kids:=u.kids++[L.length]})++[d]
def withText(L:List Nd)(k:Nat)(t:List UInt8):List Nd:=L.modify k fun u=>{u with text:=t}
def kidsF(s:ByteArray)(node:PS->Except Nat PS):Nat->PS->Except Nat PS
 |0,st=>.error st.i
 |f+1,st=>match node st with
  |.error b=>.error b
  |.ok st2=>if isAt s st2.i 44 then kidsF s node f {st2 with i:=gotI s st2.i 44}else match mustR s st2.i 93 with
   |.error b=>.error b
   |.ok i3=>.ok {st2 with i:=i3}
def bodyR(s:ByteArray)(kind k:Nat)(node:PS->Except Nat PS)(st:PS):Except Nat PS:=
 if kind<3 then match mustR s st.i 91 with
  |.error b=>.error b
  |.ok i2=>if isAt s i2 93 then .ok {st with i:=gotI s i2 93}else kidsF s node (s.size+1) {st with i:=sk s i2}
 else if kind<5 then match mustR s st.i 91 with
  |.error b=>.error b
  |.ok i2=>match node {st with i:=i2}with
   |.error b=>.error b
   |.ok st3=>match mustR s st3.i 93 with
    |.error b=>.error b
    |.ok i4=>.ok {st3 with i:=i4}
 else if kind=5 then match quoR s st.i with
  |.error b=>.error b
  |.ok (i2,t)=>.ok {st with i:=i2,L:=withText st.L k t}
 else .ok st
def nodeF(s:ByteArray):Nat->Int->Nat->PS->Except Nat PS
 |0,_,_,st=>.error st.i
 |f+1,up,depth,st=>
  let at_:=sk s st.i
  let k:=run letter s at_
  let kind:=findF kindsL (s.extract at_ k) 0
  if k=at_∨kind<0 then .error at_ else
  match attrsR s kind.toNat st.L k (addIf (decide (12≤depth)) (addIf (decide (100≤st.L.length)) st.er 3 at_) 4 at_)with
  |.error b=>.error b
  |.ok (i2,er2,a)=>bodyR s kind.toNat st.L.length (nodeF s f st.L.length (depth+1)) {i:=i2,L:=grown st.L ⟨kind.toNat,a,[],[],up⟩,er:=er2}
def parse(s:ByteArray):Except (Nat×Nat) (List Nd):=
 if 4000<s.size then .error (1,0)else
 match nodeF s (s.size+1) (-1) 0 ⟨0,[],none⟩with
 |.error b=>.error (2,b)
 |.ok st=>if sk s st.i<s.size then .error (2,sk s st.i)else match st.er with
  |some f=>.error f
  |none=>.ok st.L
end
section
open Go.RowKit
def ndCells(d:Nd)(av kv:Value):List Value:=[.int .i64 (d.kind:Int),av,.string ⟨d.text.toArray⟩,kv,.int .i64 d.up]
def ndAll:List Nd->List Value->List Value->List Value
 |d::L,a::A,k::K=>ndCells d a k++ndAll L A K
 |_,_,_=>[]
theorem ndAll_len:∀(L:List Nd) (A K:List Value),A.length=L.length->K.length=L.length->(ndAll L A K).length=L.length*5
 |[],A,K,_,_=>by simp[ndAll]
 |d::L,[],K,h,_=>by simp at h
 |d::L,a::A,[],_,h=>by simp at h
 |d::L,a::A,k::K,h1,h2=>by have:=ndAll_len L A K (by simpa using h1) (by simpa using h2);simp[ndAll,ndCells,this];omega
theorem ndAll_at:∀(L:List Nd) (A K:List Value) (j:Nat) (d:Nd) (a k:Value),A.length=L.length->K.length=L.length->L[j]?=some d->A[j]?=some a->K[j]?=some k->∀t,t<5->(ndAll L A K)[j*5+t]?=(ndCells d a k)[t]?
 |[],A,K,j,d,a,k,_,_,h,_,_=>by simp at h
 |x::L,[],K,j,d,a,k,h,_,_,_,_=>by simp at h
 |x::L,y::A,[],j,d,a,k,_,h,_,_,_=>by simp at h
 |x::L,y::A,z::K,0,d,a,k,h1,h2,e1,e2,e3=>by intro t ht;simp at e1 e2 e3;subst e1 e2 e3;rw[ndAll,Nat.zero_mul,Nat.zero_add,List.getElem?_append_left (by simp[ndCells];omega)]
 |x::L,y::A,z::K,j+1,d,a,k,h1,h2,e1,e2,e3=>by intro t ht;have:=ndAll_at L A K j d a k (by simpa using h1) (by simpa using h2) (by simpa using e1) (by simpa using e2) (by simpa using e3) t ht;rw[ndAll,List.getElem?_append_right (by simp[ndCells];omega)];rw[show(j+1)*5+t-(ndCells x y z).length=j*5+t by simp[ndCells];omega];exact this
def Attr(W:World)(B:Nat)(v:Value)(a:List Int):Prop:=∃ab,v=.slice (some ⟨ab,0,none⟩) 12 12∧B≤ab∧ab<W.heap.size∧a.length=12∧∀j,j<12->W.cell? ⟨ab,j,none⟩=some (.int .i64 (a[j]?.getD 0))∧W.frozen? ⟨ab,j,none⟩=false
def blockOf:Value->Option Nat
 |.slice (some a) _ _=>some a.block
 |_=>none
structure NA(W:World)(B:Nat)(lv:Value)(L:List Nd)(AV KV:List Value):Prop where
 row:W.ownsRow B 77 5 lv L.length (ndAll L AV KV)
 lenA:AV.length=L.length
 lenK:KV.length=L.length
 attr:∀(j:Nat) d v,L[j]?=some d->AV[j]?=some v->Attr W B v d.attr
 kids:∀(j:Nat) d v,L[j]?=some d->KV[j]?=some v->W.ownsRow B 3 1 v d.kids.length (d.kids.map fun(k:Nat)=>.int .i64 (k:Int))
 sepKK:∀(i j:Nat) (u v:Value),i≠j->KV[i]?=some u->KV[j]?=some v->∀b,u.ownBlock=some b->v.ownBlock≠some b
 sepKL:∀(j:Nat) (v:Value),KV[j]?=some v->∀b,v.ownBlock=some b->lv.ownBlock≠some b
 sepAL:∀(j:Nat) (v:Value),AV[j]?=some v->∀b,blockOf v=some b->lv.ownBlock≠some b
 sepAK:∀(i j:Nat) (u v:Value),AV[i]?=some u->KV[j]?=some v->∀b,blockOf u=some b->v.ownBlock≠some b
theorem own_grown{W W':World}{B r n size:Nat}{e:TypeId}{v:Value}{xs:List Value}(h:W.ownsRow B e size v n xs)(hg:W.grownBy W' (some r))(hn:∀b,v.ownBlock=some b->b≠r):W'.ownsRow B e size v n xs:=by
 refine⟨h.1,?_⟩;rcases h.2 with h2|⟨g,cap,cur,a,b,c,d⟩;·exact .inl h2
 ·have hgr:=hn g (by rw[a];rfl);refine .inr ⟨g,cap,cur,a,b,?_,d⟩;rw[hg.block g (Array.getElem?_eq_some_iff.1 c).1 (fun e=>hgr (by injection e))];exact c
theorem own_ge{W:World}{B n size:Nat}{e:TypeId}{v:Value}{xs:List Value}(h:W.ownsRow B e size v n xs){b:Nat}(hb:v.ownBlock=some b):B≤b∧b<W.heap.size:=h.lt b hb
theorem gfrozen{A B:World}{r b o:Nat}(hb:A.grownBy B (some r))(hl:b<A.heap.size)(hn:b≠r):B.frozen? ⟨b,o,none⟩=A.frozen? ⟨b,o,none⟩:=by unfold World.frozen?;rw[hb.block b hl (fun e=>hn (by injection e))]
theorem Attr.grown{W W':World}{B r:Nat}{v:Value}{a:List Int}(h:Attr W B v a)(hg:W.grownBy W' (some r))(hn:∀b,blockOf v=some b->b≠r):Attr W' B v a:=by obtain⟨ab,rfl,h1,h2,h3,h4⟩:=h;have hne:=hn ab rfl;exact⟨ab,rfl,h1,Nat.lt_of_lt_of_le h2 hg.size,h3,fun j hj=>⟨hg.cell (h4 j hj).1 (by simpa using hne),(gfrozen hg h2 hne).trans (h4 j hj).2⟩⟩
theorem NA.grown{W W':World}{B r:Nat}{lv:Value}{L:List Nd}{AV KV:List Value}(h:NA W B lv L AV KV)(hg:W.grownBy W' (some r))(hr:r<B):NA W' B lv L AV KV:=by
 refine⟨own_grown h.row hg fun b hb=>by have:=own_ge h.row hb;omega,h.lenA,h.lenK,fun j d v h1 h2=>?_,fun j d v h1 h2=>?_,h.sepKK,h.sepKL,h.sepAL,h.sepAK⟩;·refine(h.attr j d v h1 h2).grown hg fun b hb=>?_;obtain⟨ab,rfl,h3,_⟩:=h.attr j d v h1 h2;injection hb with hb;have:ab=b:=hb;omega
 ·exact own_grown (h.kids j d v h1 h2) hg fun b hb=>by have:=own_ge (h.kids j d v h1 h2) hb;omega
theorem number_bad(rb:Nat)(s:ByteArray)(i:Nat)(lv:Value)(bad er at_ dep:Int)(w:World)(h:RS w rb s i lv bad er at_ dep)(hs:s.size≤1099511627776)(hi:i≤s.size)(hb:0≤bad):
 Calls Tryz.prog 83 #[.pointer (some ⟨rb,0,none⟩)] w fun e w'=>e=.returned (.tuple #[.int .i64 0,.int .i64 (sk s i:Int)])∧RS w' rb s (sk s i) lv bad er at_ dep∧w.grownBy w' (some rb):=by
 have CS:=qH<|skip_any rb s i lv bad er at_ dep w h hs hi;obtain⟨j,hj⟩:∃j,sk s i=j:=⟨_,rfl⟩;have hjs:=sk_le s i hi;rw[hj]at CS hjs⊢;clear h hj;go_enter Tryz.func83,Tryz.ntmps83;go_wp2_with fail;refine CS.out.mono ?_;rintro e w1 ⟨rfl,h1,g1⟩;have HR:=qH<|h1;have HG1:=qH<|g1;have d1:=h1.c1;have hb':¬bad<0:=by omega
 have eb:=decide_eq_false hb';clear h1 g1 CS;go_wp2;clear d1;go_loopw[5,13] (fun v _ wr=>v=.int .i64 0∧Hid (RS wr rb s j lv bad er at_ dep)∧Hid (w.grownBy wr (some rb))) (fun _ _ wr=>0);case atStart=>exact⟨rfl,HR.out,HG1.out⟩
 case round=>
  obtain⟨rfl,HS,HG⟩:=hrel;have hs1:=HS.out;have c0:=hs1.c0;have c1:=hs1.c1;have c3:=hs1.c3;have CF:=qH<|fun W h=>fail_any rb s j lv bad er at_ dep j W h;have HE:Hid (badI bad (j:Int)=bad):=by show _=_;unfold badI;rw[if_neg (by omega)]
  have u0:(j:Int)-(j:Int)=0:=by omega
  clear hs1;go_wp2_with fail;go_quiet(fail);go_wp2_with fail;refine(CF.out _ (HS.out.drewN _)).mono ?_;rintro e w2 ⟨rfl,h2,g2⟩;have H2:Hid (RS w2 rb s j lv bad er at_ dep):=by have:=h2;rw[HE.out]at this;exact this
  have HG2:=qH<|gr_trans (gr_trans HG.out (gr_drewN _ _ _)) g2;clear h2 g2 c0 c1 c3;go_wp2;go_ret2;exact⟨rfl,H2.out,HG2.out⟩
end
section
open Go.RowKit
def wS(s:ByteArray)(i:Nat)(bad:Int):ByteArray:=if bad<0 then s.extract (sk s i) (run letter s (sk s i))else ByteArray.empty
def wI(s:ByteArray)(i:Nat)(bad:Int):Nat:=if bad<0 then run letter s (sk s i)else sk s i
def wB(s:ByteArray)(i:Nat)(bad:Int):Int:=if bad<0 then wordB s i bad else bad
def mI(s:ByteArray)(i c:Nat)(bad:Int):Nat:=if bad<0 then gotI s i c else sk s i
def mB(s:ByteArray)(i c:Nat)(bad:Int):Int:=if bad<0 then mustB s i c bad else bad
def gB(s:ByteArray)(i c:Nat)(bad:Int):Bool:=if bad<0 then isAt s i c else false
def nV(s:ByteArray)(i:Nat)(bad:Int):Int:=if bad<0 then dv s (sk s i) (run digit s (sk s i)-sk s i)else 0
def nI(s:ByteArray)(i:Nat)(bad:Int):Nat:=if bad<0 then run digit s (sk s i)else sk s i
def nB(s:ByteArray)(i:Nat)(bad:Int):Int:=if bad<0 then numB s (sk s i) (run digit s (sk s i)) bad else bad
theorem wI_le{s:ByteArray}{i:Nat}(bad:Int)(hi:i≤s.size):wI s i bad≤s.size:=by
 unfold wI;split;·exact run_le _ _ _ (sk_le s i hi)
 ·exact sk_le s i hi
theorem gotI_le{s:ByteArray}{i c:Nat}(hc:c<256)(hi:i≤s.size):gotI s i c≤s.size:=by
 unfold gotI;split
 ·rename_i h;by_cases e:sk s i<s.size;·omega
  ·rw[bat_out e]at h;omega
 ·exact sk_le s i hi
theorem mI_le{s:ByteArray}{i c:Nat}(bad:Int)(hc:c<256)(hi:i≤s.size):mI s i c bad≤s.size:=by
 unfold mI;split;·exact gotI_le hc hi
 ·exact sk_le s i hi
theorem nI_le{s:ByteArray}{i:Nat}(bad:Int)(hi:i≤s.size):nI s i bad≤s.size:=by
 unfold nI;split;·exact run_le _ _ _ (sk_le s i hi)
 ·exact sk_le s i hi
theorem nV_bd(s:ByteArray)(i:Nat)(bad:Int):0≤nV s i bad∧nV s i bad≤999999:=by
 unfold nV;split;·have h:=dv_bd s (sk s i) (run digit s (sk s i)-sk s i) (fun t ht=>by have:=run_all (p:=digit) s (s.size-sk s i) (sk s i) t (by have h2:runF digit s (s.size-sk s i) (sk s i)=run digit s (sk s i):=rfl;omega);unfold digit at this;simpa using this);exact⟨h.1,h.2.1⟩
 ·omega
theorem word_all(rb:Nat)(s:ByteArray)(i:Nat)(lv:Value)(bad er at_ dep:Int)(w:World)(h:RS w rb s i lv bad er at_ dep)(hs:s.size≤1099511627776)(hi:i≤s.size):
 Calls Tryz.prog 47 #[.pointer (some ⟨rb,0,none⟩)] w fun e w'=>e=.returned (.string (wS s i bad))∧RS w' rb s (wI s i bad) lv (wB s i bad) er at_ dep∧w.grownBy w' (some rb):=by
 unfold wS wI wB;by_cases hb:bad<0;·rw[if_pos hb,if_pos hb,if_pos hb];exact word_any rb s i lv bad er at_ dep w h hs hi hb
 ·rw[if_neg hb,if_neg hb,if_neg hb];exact word_bad rb s i lv bad er at_ dep w h hs hi (by omega)
theorem must_all(rb:Nat)(s:ByteArray)(i:Nat)(lv:Value)(bad er at_ dep:Int)(c:Nat)(w:World)(h:RS w rb s i lv bad er at_ dep)(hs:s.size≤1099511627776)(hi:i≤s.size)(hc:c<256):
 Calls Tryz.prog 53 #[.pointer (some ⟨rb,0,none⟩),.int .u8 (c:Int)] w fun e w'=>e=.returned (.tuple #[])∧RS w' rb s (mI s i c bad) lv (mB s i c bad) er at_ dep∧w.grownBy w' (some rb):=by
 unfold mI mB;by_cases hb:bad<0;·rw[if_pos hb,if_pos hb];exact must_any rb s i lv bad er at_ dep c w h hs hi hc hb
 ·rw[if_neg hb,if_neg hb];exact must_bad rb s i lv bad er at_ dep c w h hs hi (by omega)
theorem got_all(rb:Nat)(s:ByteArray)(i:Nat)(lv:Value)(bad er at_ dep:Int)(c:Nat)(w:World)(h:RS w rb s i lv bad er at_ dep)(hs:s.size≤1099511627776)(hi:i≤s.size)(hc:c<256):
 Calls Tryz.prog 82 #[.pointer (some ⟨rb,0,none⟩),.int .u8 (c:Int)] w fun e w'=>e=.returned (.bool (gB s i c bad))∧RS w' rb s (mI s i c bad) lv bad er at_ dep∧w.grownBy w' (some rb):=by
 unfold mI gB;by_cases hb:bad<0;·rw[if_pos hb,if_pos hb];exact got_any rb s i lv bad er at_ dep c w h hs hi hc hb
 ·rw[if_neg hb,if_neg hb];exact got_bad rb s i lv bad er at_ dep c w h hs hi (by omega)
theorem number_all(rb:Nat)(s:ByteArray)(i:Nat)(lv:Value)(bad er at_ dep:Int)(w:World)(h:RS w rb s i lv bad er at_ dep)(hs:s.size≤1099511627776)(hi:i≤s.size):
 Calls Tryz.prog 83 #[.pointer (some ⟨rb,0,none⟩)] w fun e w'=>e=.returned (.tuple #[.int .i64 (nV s i bad),.int .i64 (sk s i:Int)])∧RS w' rb s (nI s i bad) lv (nB s i bad) er at_ dep∧w.grownBy w' (some rb):=by
 unfold nV nI nB;by_cases hb:bad<0;·rw[if_pos hb,if_pos hb,if_pos hb];exact number_any rb s i lv bad er at_ dep w h hs hi hb
 ·rw[if_neg hb,if_neg hb,if_neg hb];exact number_bad rb s i lv bad er at_ dep w h hs hi (by omega)
structure Step where
 i:Nat
 bad:Int
 n:Int
 p:Nat
 at_:Nat
 ix:Int
def step1(s:ByteArray)(i:Nat)(bad:Int):Step:=
 let j:=sk s i
 let i1:=wI s j bad
 let b1:=wB s j bad
 let i2:=mI s i1 61 b1
 let b2:=mB s i1 61 b1
 {i:=nI s i2 b2,bad:=nB s i2 b2,n:=nV s i2 b2,p:=sk s i2,at_:=j,ix:=findF namesL (wS s j bad) 0}
end
section
open Go.RowKit
def FL(er at_:Int)(f:Flt)(i:Nat):Prop:=match f with
 |none=>at_<0
 |some (c,p)=>er=c∧at_=p∧p≤i
theorem FL.on{er at_:Int}{f:Flt}{i j:Nat}(h:FL er at_ f i)(hij:i≤j):FL er at_ f j:=by
 cases f with
 |none=>exact h
 |some x=>obtain⟨c,p⟩:=x;exact⟨h.1,h.2.1,Nat.le_trans h.2.2 hij⟩
theorem FL.add{er at_:Int}{f:Flt}{i:Nat}(h:FL er at_ f i)(c p:Nat)(hp:i≤p):FL (wrE er at_ c p) (wrA at_ p) (addF f c p) p:=by
 cases f with
 |none=>have h':at_<0:=h;unfold wrE wrA;rw[if_pos (.inl h'),if_pos (.inl h')];exact⟨rfl,rfl,Nat.le_refl _⟩
 |some x=>
  obtain⟨c',p'⟩:=x;obtain⟨h1,h2,h3⟩:=h;have hn:¬(at_<0∨(p:Int)<at_):=by omega
  unfold wrE wrA;rw[if_neg hn,if_neg hn];exact⟨h1,h2,Nat.le_trans h3 hp⟩
def fa(kind:Nat)(L:List Nd)(er:Flt)(a:List Int)(seen:List Nat)(st:Step):Flt×List Int×List Nat:=
 if st.ix<0∨ownsB kind st.ix.toNat=false then(addF er 7 st.at_,a,seen)
 else(addIf (decide (st.ix=0∧0<st.n)&&hasId L st.n) (addIf (decide (mostL[st.ix.toNat]?.getD 0<st.n)) (addIf (seen.contains st.ix.toNat) er 5 st.at_) 6 st.p) 5 st.p,a.set st.ix.toNat st.n,st.ix.toNat::seen)
theorem step1_places(s:ByteArray)(i:Nat)(bad:Int):i≤(step1 s i bad).at_∧(step1 s i bad).at_≤(step1 s i bad).p∧(step1 s i bad).p≤(step1 s i bad).i:=by
 have h1:=sk_ge s i;have w1:sk s i≤wI s (sk s i) bad:=by unfold wI;split;exact Nat.le_trans (sk_ge s (sk s i)) (run_ge _ _ _);exact sk_ge _ _
 have m1:wI s (sk s i) bad≤mI s (wI s (sk s i) bad) 61 (wB s (sk s i) bad):=by
  unfold mI;split;·unfold gotI;have:=sk_ge s (wI s (sk s i) bad);split<;>omega
  ·exact sk_ge _ _
 have n1:sk s (mI s (wI s (sk s i) bad) 61 (wB s (sk s i) bad))≤nI s (mI s (wI s (sk s i) bad) 61 (wB s (sk s i) bad)) (mB s (wI s (sk s i) bad) 61 (wB s (sk s i) bad)):=by unfold nI;split;exact run_ge _ _ _;exact Nat.le_refl _
 have s2:=sk_ge s (mI s (wI s (sk s i) bad) 61 (wB s (sk s i) bad));unfold step1;simp only;omega
theorem step1_size(s:ByteArray)(i:Nat)(bad:Int)(hi:i≤s.size):(step1 s i bad).i≤s.size:=by unfold step1;exact nI_le _ (mI_le _ (by omega) (wI_le _ (sk_le s i hi)))
theorem step1_ix(s:ByteArray)(i:Nat)(bad:Int):(step1 s i bad).ix=-1∨(0≤(step1 s i bad).ix∧(step1 s i bad).ix<12):=by have:=findF_bd (wS s (sk s i) bad) namesL 0;have hl:namesL.length=12:=rfl;unfold step1;simp only;omega
theorem step1_n(s:ByteArray)(i:Nat)(bad:Int):0≤(step1 s i bad).n∧(step1 s i bad).n≤999999:=nV_bd s _ _
theorem attr1_step(s:ByteArray)(kind:Nat)(L:List Nd)(i:Nat)(er:Flt)(a:List Int)(seen:List Nat)(bad:Int)(hb:bad<0):
 ((step1 s i bad).bad=bad∧attr1 s kind L i er a seen=.ok ((step1 s i bad).i,fa kind L er a seen (step1 s i bad)))
 ∨(0≤(step1 s i bad).bad∧attr1 s kind L i er a seen=.error (step1 s i bad).bad.toNat):=by
 unfold attr1;simp only;have e0:=sk_sk s i;have hw:wI s (sk s i) bad=run letter s (sk s i):=by unfold wI;rw[if_pos hb,e0]
 by_cases h1:run letter s (sk s i)=sk s i
 ·right;have hB:wB s (sk s i) bad=(sk s i:Int):=by unfold wB;rw[if_pos hb];unfold wordB;rw[e0,if_pos h1]
  have hx:(step1 s i bad).bad=(sk s i:Int):=by
   unfold step1;simp only;rw[hB];have hm:mB s (wI s (sk s i) bad) 61 (sk s i:Int)=(sk s i:Int):=by unfold mB;rw[if_neg (by omega)]
   rw[hm];unfold nB;rw[if_neg (by omega)]
  rw[hx,if_pos h1];exact⟨by omega,rfl⟩
 ·have hB:wB s (sk s i) bad=bad:=by unfold wB;rw[if_pos hb];unfold wordB;rw[e0,if_neg h1]
  rw[if_neg h1];by_cases h2:isAt s (run letter s (sk s i)) 61=true
  ·have hm:mB s (run letter s (sk s i)) 61 bad=bad:=by unfold mB;rw[if_pos hb];unfold mustB;rw[if_pos h2]
   have hmi:mI s (run letter s (sk s i)) 61 bad=gotI s (run letter s (sk s i)) 61:=by unfold mI;rw[if_pos hb]
   have hmr:mustR s (run letter s (sk s i)) 61=.ok (gotI s (run letter s (sk s i)) 61):=by unfold mustR;rw[if_pos h2]
   rw[hmr];simp only;have hs:step1 s i bad={i:=run digit s (sk s (gotI s (run letter s (sk s i)) 61)),bad:=numB s (sk s (gotI s (run letter s (sk s i)) 61)) (run digit s (sk s (gotI s (run letter s (sk s i)) 61))) bad,n:=dv s (sk s (gotI s (run letter s (sk s i)) 61)) (run digit s (sk s (gotI s (run letter s (sk s i)) 61))-sk s (gotI s (run letter s (sk s i)) 61)),p:=sk s (gotI s (run letter s (sk s i)) 61),at_:=sk s i,ix:=findF namesL (s.extract (sk s i) (run letter s (sk s i))) 0}:=by
    unfold step1;simp only;rw[hw,hB,hm,hmi];have a1:nI s (gotI s (run letter s (sk s i)) 61) bad=run digit s (sk s (gotI s (run letter s (sk s i)) 61)):=by unfold nI;rw[if_pos hb]
    have a2:nB s (gotI s (run letter s (sk s i)) 61) bad=numB s (sk s (gotI s (run letter s (sk s i)) 61)) (run digit s (sk s (gotI s (run letter s (sk s i)) 61))) bad:=by unfold nB;rw[if_pos hb]
    have a3:nV s (gotI s (run letter s (sk s i)) 61) bad=dv s (sk s (gotI s (run letter s (sk s i)) 61)) (run digit s (sk s (gotI s (run letter s (sk s i)) 61))-sk s (gotI s (run letter s (sk s i)) 61)):=by unfold nV;rw[if_pos hb]
    have a4:wS s (sk s i) bad=s.extract (sk s i) (run letter s (sk s i)):=by unfold wS;rw[if_pos hb,e0]
    rw[a1,a2,a3,a4]
   generalize sk s (gotI s (run letter s (sk s i)) 61)=j at hs⊢;generalize run digit s j=e at hs⊢;by_cases h3:numBad s j e=true
   ·right;have hx:(step1 s i bad).bad=(j:Int):=by rw[hs];show numB s j e bad=_;unfold numB;rw[if_pos (of_decide_eq_true h3)]
    rw[hx,if_pos h3];exact⟨by omega,rfl⟩
   ·left;have h3':numBad s j e=false:=by simpa using h3
    have hx:(step1 s i bad).bad=bad:=by rw[hs];show numB s j e bad=_;unfold numB;rw[if_neg (of_decide_eq_false h3')]
    refine⟨hx,?_⟩;rw[if_neg h3,hs];unfold fa;simp only;split<;>rfl
  ·right;have h2':isAt s (run letter s (sk s i)) 61=false:=by simpa using h2
   have hm:mB s (run letter s (sk s i)) 61 bad=(sk s (run letter s (sk s i)):Int):=by unfold mB;rw[if_pos hb];unfold mustB;rw[if_neg h2]
   have hmr:mustR s (run letter s (sk s i)) 61=.error (sk s (run letter s (sk s i))):=by unfold mustR;rw[if_neg h2]
   have hx:(step1 s i bad).bad=(sk s (run letter s (sk s i)):Int):=by unfold step1;simp only;rw[hw,hB,hm];unfold nB;rw[if_neg (by omega)]
   rw[hx,hmr];exact⟨by omega,rfl⟩
theorem attrsF_err{s:ByteArray}{kind:Nat}{L:List Nd}{f i:Nat}{er:Flt}{a:List Int}{seen:List Nat}{b:Nat}(h:attr1 s kind L i er a seen=.error b):attrsF s kind L (f+1) i er a seen=.error b:=by rw[attrsF,h]
theorem attrsF_more{s:ByteArray}{kind:Nat}{L:List Nd}{f i i2:Nat}{er er2:Flt}{a a2:List Int}{seen seen2:List Nat}(h:attr1 s kind L i er a seen=.ok (i2,er2,a2,seen2))(hm:isAt s i2 59=true):attrsF s kind L (f+1) i er a seen=attrsF s kind L f (gotI s i2 59) er2 a2 seen2:=by rw[attrsF,h];simp only;rw[if_pos hm]
def closeR(s:ByteArray)(i:Nat)(er:Flt)(a:List Int):Except Nat (Nat×Flt×List Int):=match mustR s i 125 with
 |.error b=>.error b
 |.ok i3=>.ok (i3,er,a)
theorem attrsF_last{s:ByteArray}{kind:Nat}{L:List Nd}{f i i2:Nat}{er er2:Flt}{a a2:List Int}{seen seen2:List Nat}(h:attr1 s kind L i er a seen=.ok (i2,er2,a2,seen2))(hm:¬isAt s i2 59=true):attrsF s kind L (f+1) i er a seen=closeR s i2 er2 a2:=by rw[attrsF,h];simp only;rw[if_neg hm];rfl
theorem isAt_sk(s:ByteArray)(i c:Nat):isAt s (sk s i) c=isAt s i c:=by unfold isAt;rw[sk_sk]
theorem gotI_sk(s:ByteArray)(i c:Nat):gotI s (sk s i) c=gotI s i c:=by unfold gotI;rw[sk_sk]
theorem closeR_sk(s:ByteArray)(i:Nat)(er:Flt)(a:List Int):closeR s (sk s i) er a=closeR s i er a:=by unfold closeR mustR;rw[isAt_sk,gotI_sk,sk_sk]
end
section
open Go.RowKit
theorem index_some(ws:List ByteArray)(x:ByteArray)(blk off cap n:Nat)(w:World)(hb:blk<w.heap.size)(hc:∀j,j<ws.length->w.cell? ⟨blk,off+j,none⟩=some (.string (ws[j]?.getD ByteArray.empty)))(hn:ws.length=n)(hn2:n≤1099511627776):
 Calls Tryz.prog 214 #[.slice (some ⟨blk,off,none⟩) n cap,.string x] w fun e w'=>e=.returned (.int .i64 (findF ws x 0))∧w'=w:=by
 have HC:=qH<|hc;have HN:=qH<|hn;clear hc hn;go_enter Tryz.func214,Tryz.ntmps214;go_wp2;go_loop[8] (fun i=>∃k:Nat,k≤n∧i=.int .i64 k∧Hid (findF ws x 0=findF (ws.drop k) x k)) (fun i=>n-(intOf i).toNat);case atStart=>exact⟨0,Nat.zero_le _,rfl,by show _=_;rw[List.drop_zero]⟩
 case round=>
  obtain⟨k,hk,rfl,HF⟩:=hrel;by_cases hlt:k<n
  ·have hlt':(k:Int)<(n:Int):=by omega
   have hkw:k<ws.length:=by rw[HN.out];exact hlt
   have hcell:=HC.out k hkw;obtain⟨y,hy⟩:∃y,ws[k]?.getD ByteArray.empty=y:=⟨_,rfl⟩;rw[hy]at hcell;have hdrop:ws.drop k=y::ws.drop (k+1):=by rw[<-hy,List.getElem?_eq_getElem hkw];exact List.drop_eq_getElem_cons hkw
   have HF2:Hid (findF ws x 0=if y=x then(k:Int)else findF (ws.drop (k+1)) x (k+1)):=by show _=_;rw[HF.out,hdrop];rfl
   clear hdrop hy HF hkw;by_cases e:y=x
   ·have HE:Hid (findF ws x 0=(k:Int)):=by show _=_;rw[HF2.out,if_pos e]
    subst e;clear HF2;go_wp2;go_ret;exact⟨by rw[HE.out];rfl,rfl⟩
   ·have HE:Hid (findF ws x 0=findF (ws.drop (k+1)) x (k+1)):=by show _=_;rw[HF2.out,if_neg e]
    have e1:=str_ne (fun h=>e h.symm);clear HF2;go_wp2;go_round;case rel=>exact⟨k+1,by omega,by go_num,HE.out⟩
    case measure=>simp[intOf];omega
  ·have hlt':¬(k:Int)<(n:Int):=by omega
   have HE:Hid (findF ws x 0=-1):=by show _=_;rw[HF.out,List.drop_eq_nil_of_le (by rw[HN.out];omega)];rfl
   clear HF;go_wp2;go_ret;exact⟨by rw[HE.out];rfl,rfl⟩
theorem index_none(x:ByteArray)(p:Option Addr)(cap:Nat)(w:World):
 Calls Tryz.prog 214 #[.slice p 0 cap,.string x] w fun e w'=>e=.returned (.int .i64 (-1))∧w'=w:=by
 go_enter Tryz.func214,Tryz.ntmps214;go_wp2;go_loop[8] (fun i=>i=.int .i64 0) (fun i=>0);case atStart=>rfl
 case round=>subst hrel;go_wp2;go_ret;exact⟨rfl,rfl⟩
def Txts(W:World)(v:Value)(ws:List ByteArray):Prop:=∃p c,v=.slice p ws.length c∧(ws=[]∨∃blk,p=some ⟨blk,0,none⟩∧blk<W.heap.size∧∀j,j<ws.length->W.cell? ⟨blk,0+j,none⟩=some (.string (ws[j]?.getD ByteArray.empty)))
theorem index_any(ws:List ByteArray)(x:ByteArray)(v:Value)(w:World)(h:Txts w v ws)(hn:ws.length≤1099511627776):
 Calls Tryz.prog 214 #[v,.string x] w fun e w'=>e=.returned (.int .i64 (findF ws x 0))∧w'=w:=by
 obtain⟨p,c,rfl,rfl|⟨blk,rfl,hb,hc⟩⟩:=h;·exact index_none x p c w
 ·exact index_some ws x blk 0 c _ w hb hc rfl hn
theorem contains_any(ws:List ByteArray)(x:ByteArray)(v:Value)(w:World)(h:Txts w v ws)(hn:ws.length≤1099511627776):
 Calls Tryz.prog 191 #[v,.string x] w fun e w'=>e=.returned (.bool (decide (0≤findF ws x 0)))∧w'=w:=by have CI:=qH<|index_any ws x v w h hn;obtain⟨p,c,rfl,_⟩:=h;obtain⟨r,hr⟩:∃r,findF ws x 0=r:=⟨_,rfl⟩;rw[hr]at CI⊢;clear hr;go_enter Tryz.func191,Tryz.ntmps191;go_wp2_with fail;refine CI.out.mono ?_;rintro e w1 ⟨rfl,hw⟩;obtain rfl:=hw.symm;go_wp2;go_ret;exact⟨rfl,rfl⟩
end
end Go.Proofs.YtnponhbgicbkcaaGreatDoor
