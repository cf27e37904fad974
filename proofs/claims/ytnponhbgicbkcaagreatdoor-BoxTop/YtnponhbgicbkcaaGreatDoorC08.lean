import Derived.Test.YtnponhbgicbkcaaGreatDoorProg
import Derived.WalkKit
import Derived.WalkSpells
import Derived.WalkLawsBesides
import Derived.RegionTactic
import Derived.BigRegion
import Derived.BigQuiet
import Derived.Deep.QuietTactic
import Derived.Laws.IdiomStrings
import Derived.Below
import Derived.Laws.OwnMore
import Derived.Maps.AppendAt
set_option linter.unusedVariables false
set_option maxRecDepth 100000
set_option maxHeartbeats 16000000
namespace Go.Proofs.YtnponhbgicbkcaaGreatDoor
section
open Go.RowKit
def bat(s:ByteArray)(i:Nat):Nat:=if h:i<s.size then s[i].toNat else 256
theorem z24{s:ByteArray}{i:Nat}(h:i<s.size):bat s i=s[i].toNat:=by unfold bat;rw[dif_pos h]
theorem z1z{s:ByteArray}{i:Nat}(h:¬i<s.size):bat s i=256:=by unfold bat;rw[dif_neg h]
theorem zg4{s:ByteArray}{i:Nat}(h:i<s.size):bat s i<256:=by rw[z24 h];exact UInt8.toNat_lt _
def runF(p:Nat->Bool)(s:ByteArray):Nat->Nat->Nat
 | 0,i=>i
 | f+1,i=>if p (bat s i) then runF p s f (i+1) else i
def run(p:Nat->Bool)(s:ByteArray)(i:Nat):Nat:=runF p s (s.size - i) i
theorem z4i{p:Nat->Bool}{s:ByteArray}{i:Nat}(hi:i<s.size)(h:p (bat s i)=true):run p s i=run p s (i+1):=by
 unfold run
 obtain⟨f,hf⟩:∃f,s.size - i=f+1:=⟨s.size - i - 1,by omega⟩
 rw[hf,runF,if_pos h,show s.size - (i+1)=f by omega]
theorem z5m{p:Nat->Bool}{s:ByteArray}{i:Nat}(h:p (bat s i)=false):run p s i=i:=by
 unfold run
 match s.size - i with
 | 0=>rfl
 | f+1=>rw[runF,h];rfl
theorem zfp{p:Nat->Bool}{s:ByteArray}{i:Nat}(h:¬i<s.size):run p s i=i:=by
 unfold run;rw[show s.size - i=0 by omega];rfl
theorem zfo(p:Nat->Bool)(s:ByteArray):∀f i,i≤runF p s f i∧runF p s f i≤i+f
 | 0,i=>⟨Nat.le_refl _,Nat.le_refl _⟩
 | f+1,i=>by
  have:=zfo p s f (i+1)
  rw[runF];split <;> omega
theorem z55(p:Nat->Bool)(s:ByteArray)(i:Nat):i≤run p s i:=(zfo p s _ i).1
theorem z56(p:Nat->Bool)(s:ByteArray)(i:Nat)(hi:i≤s.size):run p s i≤s.size:=by
 have:=(zfo p s (s.size - i) i).2
 unfold run;omega
theorem zhe(p:Nat->Bool)(hp:p 256=false)(s:ByteArray):∀f i,s.size - i≤f->p (bat s (runF p s f i))=false
 | 0,i,h=>by rw[runF,z1z (by omega)];exact hp
 | f+1,i,h=>by
  rw[runF]
  by_cases c:p (bat s i)=true
  ·rw[if_pos c];exact zhe p hp s f (i+1) (by omega)
  ·rw[if_neg c];simpa using c
theorem zsz{p:Nat->Bool}(hp:p 256=false)(s:ByteArray)(i:Nat):p (bat s (run p s i))=false:=zhe p hp s _ i (Nat.le_refl _)
def blank(x:Nat):Bool:=x==32 || x==10
def z04(x:Nat):Bool:=decide (97≤x)&&decide (x≤122)
def z0e(x:Nat):Bool:=decide (48≤x)&&decide (x≤57)
def sk(s:ByteArray)(i:Nat):Nat:=run blank s i
theorem z1y(s:ByteArray)(i:Nat):i≤sk s i:=z55 _ _ _
theorem z2w(s:ByteArray)(i:Nat)(h:i≤s.size):sk s i≤s.size:=z56 _ _ _ h
theorem za1(s:ByteArray)(i:Nat):sk s (sk s i)=sk s i:=z5m (zsz (by rfl) s i)
structure RS(W:World)(rb:Nat)(s:ByteArray)(i:Nat)(lv:Value)(bad er at_ dep:Int):Prop where
 lt:rb<W.heap.size
 c0:W.cell? ⟨rb,0,none⟩=some (.string s)
 c1:W.cell? ⟨rb,1,none⟩=some (.int .i64 (i:Int))
 c2:W.cell? ⟨rb,2,none⟩=some lv
 c3:W.cell? ⟨rb,3,none⟩=some (.int .i64 bad)
 c4:W.cell? ⟨rb,4,none⟩=some (.int .i64 er)
 c5:W.cell? ⟨rb,5,none⟩=some (.int .i64 at_)
 c6:W.cell? ⟨rb,6,none⟩=some (.int .i64 dep)
 fz:∀j,W.frozen? ⟨rb,j,none⟩=false
theorem RS.below{W W':World}{rb:Nat}{s:ByteArray}{i:Nat}{lv:Value}{bad er at_ dep:Int}(h:RS W rb s i lv bad er at_ dep)(hb:Below W.heap.size W W'):RS W' rb s i lv bad er at_ dep :=
 have k:∀j v,W.cell? ⟨rb,j,none⟩=some v->W'.cell? ⟨rb,j,none⟩=some v:=fun j v e=>(hb.cell (p:=⟨rb,j,none⟩) h.lt).trans e
 ⟨Nat.lt_of_lt_of_le h.lt hb.size,k _ _ h.c0,k _ _ h.c1,k _ _ h.c2,k _ _ h.c3,k _ _ h.c4,k _ _ h.c5,k _ _ h.c6,fun j=>(hb.frozen (p:=⟨rb,j,none⟩) h.lt).trans (h.fz j)⟩
theorem RS.drewN{W:World}{rb:Nat}{s:ByteArray}{i:Nat}{lv:Value}{bad er at_ dep:Int}(h:RS W rb s i lv bad er at_ dep)(n:Nat):RS (W.drewN n) rb s i lv bad er at_ dep :=
 ⟨h.lt,h.c0,h.c1,h.c2,h.c3,h.c4,h.c5,h.c6,h.fz⟩
theorem z09{W:World}{rb j k:Nat}{v u:Value}(hn:j≠k)(h:W.cell? ⟨rb,j,none⟩=some u):(W.setCell ⟨rb,k,none⟩ v).cell? ⟨rb,j,none⟩=some u:=by
 rw[World.cell?_setCell_other _ _ _ _ (fun e=>hn (by injection e with e1 e2;exact e2.symm))];exact h
theorem z3q{W:World}{rb k:Nat}{v u:Value}(h:W.cell? ⟨rb,k,none⟩=some u):(W.setCell ⟨rb,k,none⟩ v).cell? ⟨rb,k,none⟩=some v :=
 World.cell?_setCell_same' _ _ _ (by rw[h];rfl)
theorem RS.setI{W:World}{rb:Nat}{s:ByteArray}{i:Nat}{lv:Value}{bad er at_ dep:Int}(h:RS W rb s i lv bad er at_ dep)(i':Nat):RS (W.setCell ⟨rb,1,none⟩ (.int .i64 (i':Int))) rb s i' lv bad er at_ dep :=
 ⟨by simpa using h.lt,z09 (by omega) h.c0,z3q h.c1,z09 (by omega) h.c2,z09 (by omega) h.c3,z09 (by omega) h.c4,z09 (by omega) h.c5,z09 (by omega) h.c6,fun j=>by rw[World.frozen?_setCell];exact h.fz j⟩
theorem RS.setBad{W:World}{rb:Nat}{s:ByteArray}{i:Nat}{lv:Value}{bad er at_ dep:Int}(h:RS W rb s i lv bad er at_ dep)(b:Int):RS (W.setCell ⟨rb,3,none⟩ (.int .i64 b)) rb s i lv b er at_ dep :=
 ⟨by simpa using h.lt,z09 (by omega) h.c0,z09 (by omega) h.c1,z09 (by omega) h.c2,z3q h.c3,z09 (by omega) h.c4,z09 (by omega) h.c5,z09 (by omega) h.c6,fun j=>by rw[World.frozen?_setCell];exact h.fz j⟩
theorem RS.setErr{W:World}{rb:Nat}{s:ByteArray}{i:Nat}{lv:Value}{bad er at_ dep:Int}(h:RS W rb s i lv bad er at_ dep)(b c:Int):RS ((W.setCell ⟨rb,4,none⟩ (.int .i64 b)).setCell ⟨rb,5,none⟩ (.int .i64 c)) rb s i lv bad b c dep :=
 ⟨by simpa using h.lt,z09 (by omega) (z09 (by omega) h.c0),z09 (by omega) (z09 (by omega) h.c1),z09 (by omega) (z09 (by omega) h.c2),z09 (by omega) (z09 (by omega) h.c3),z09 (by omega) (z3q h.c4),z3q (z09 (by omega) h.c5),z09 (by omega) (z09 (by omega) h.c6),fun j=>by rw[World.frozen?_setCell,World.frozen?_setCell];exact h.fz j⟩
theorem z7j(W:World)(b:Nat):W.grownBy W (some b):=⟨rfl,rfl,rfl,Nat.le_refl _,fun _ _ _=>rfl⟩
theorem z01{A B C:World}{b:Nat}(h:A.grownBy B (some b))(k:B.grownBy C (some b)):A.grownBy C (some b) :=
 ⟨k.os.trans h.os,k.tape.trans h.tape,k.output.trans h.output,Nat.le_trans h.size k.size,fun i hi hn=>(k.block i (Nat.lt_of_lt_of_le hi h.size) hn).trans (h.block i hi hn)⟩
theorem z0q(W:World)(b i:Nat)(v:Value):W.grownBy (W.setCell ⟨b,i,none⟩ v) (some b) :=
 ⟨rfl,rfl,rfl,by simp,fun k _ hk=>heap_setCell_other _ _ _ _ (fun e=>hk (by rw[e]))⟩
theorem z02(W:World)(n b:Nat):W.grownBy (W.drewN n) (some b):=⟨rfl,rfl,rfl,Nat.le_refl _,fun _ _ _=>rfl⟩
theorem z1o{A B:World}{b:Nat}(h:Below A.heap.size A B):A.grownBy B (some b):=⟨h.os,h.tape,h.output,h.size,fun i hi _=>h.block i hi⟩
def rdI(W:World)(rb:Nat):Nat:=match W.cell? ⟨rb,1,none⟩ with
 | some (.int _ x)=>x.toNat
 | _=>0
theorem RS.rdI{W:World}{rb:Nat}{s:ByteArray}{i:Nat}{lv:Value}{bad er at_ dep:Int}(h:RS W rb s i lv bad er at_ dep):rdI W rb=i:=by
 unfold Go.Proofs.YtnponhbgicbkcaaGreatDoor.rdI;rw[h.c1];simp
theorem z3l(rb:Nat)(s:ByteArray)(i:Nat)(lv:Value)(bad er at_ dep:Int)(w:World)(h:RS w rb s i lv bad er at_ dep)(hs:s.size≤1099511627776)(hi:i≤s.size) :
 Calls Tryz.prog 25 #[.pointer (some ⟨rb,0,none⟩)] w fun e w'=>e=.returned (.tuple #[])∧RS w' rb s (sk s i) lv bad er at_ dep∧w.grownBy w' (some rb):=by
 have HR:Hid (RS w rb s i lv bad er at_ dep):=h
 clear h
 go_enter Tryz.func25,Tryz.ntmps25
 go_wp2
 go_loopw [2] (fun _ wr=>∃k:Nat,k≤s.size∧Hid (sk s k=sk s i)∧Hid (RS wr rb s k lv bad er at_ dep)∧Hid (w.grownBy wr (some rb))) (fun _ wr=>s.size - rdI wr rb)
 case atStart=>exact⟨i,hi,rfl,HR.out,z7j _ _⟩
 case round =>
  obtain⟨k,hk,HK,HS,HG⟩:=hrel
  have hs1:=HS.out
  have c0:=hs1.c0
  have c1:=hs1.c1
  have f1:=hs1.fz 1
  by_cases hlt:k<s.size
  ·have hlt':(k:Int)<(s.size:Int):=by omega
   obtain⟨x,hx⟩:∃x,s[k].toNat=x:=⟨_,rfl⟩
   have hbx:bat s k=x:=by rw[z24 hlt,hx]
   by_cases hb:x=32
   ·skip
    have HN:Hid (∀q,RS ((wr.drewN q).setCell ⟨rb,1,none⟩ (.int .i64 ((k:Int)+1))) rb s (k+1) lv bad er at_ dep):=fun q=>by
     have:=(HS.out.drewN q).setI (k+1)
     rw[show ((k+1:Nat):Int)=(k:Int)+1 by omega] at this;exact this
    have HK2:Hid (sk s (k+1)=sk s i):=by rw[<-HK.out];exact (z4i hlt (by rw[hbx];simp[blank,hb])).symm
    have hrd:rdI wr rb=k:=HS.out.rdI
    have HRD:Hid (rdI wr rb=k):=hrd
    subst hb
    clear hs1 HK HS hbx hrd
    go_wp2_with fail
    go_quiet (fail)
    go_wp2
    go_roundw
    case rel=>exact⟨k+1,by omega,HK2.out,HN.out _,z01 (z01 HG.out (z02 _ _ _)) (z0q _ _ _ _)⟩
    case measure=>rw[(HN.out _).rdI,HRD.out];omega
   ·by_cases hb2:x=10
    ·skip
     have HN:Hid (∀q,RS ((wr.drewN q).setCell ⟨rb,1,none⟩ (.int .i64 ((k:Int)+1))) rb s (k+1) lv bad er at_ dep):=fun q=>by
      have:=(HS.out.drewN q).setI (k+1)
      rw[show ((k+1:Nat):Int)=(k:Int)+1 by omega] at this;exact this
     have HK2:Hid (sk s (k+1)=sk s i):=by rw[<-HK.out];exact (z4i hlt (by rw[hbx];simp[blank,hb2])).symm
     have hrd:rdI wr rb=k:=HS.out.rdI
     have HRD:Hid (rdI wr rb=k):=hrd
     subst hb2
     clear hs1 HK HS hbx hrd
     go_wp2_with fail
     go_quiet (fail)
     go_wp2
     go_roundw
     case rel=>exact⟨k+1,by omega,HK2.out,HN.out _,z01 (z01 HG.out (z02 _ _ _)) (z0q _ _ _ _)⟩
     case measure=>rw[(HN.out _).rdI,HRD.out];omega
    ·have HE:Hid (RS wr rb s (sk s i) lv bad er at_ dep):=by
      have:sk s k=k:=z5m (by rw[hbx];simp[blank,hb,hb2])
      rw[<-HK.out,this];exact HS.out
     have e1:((x:Int)==32)=false:=by simp;omega
     have e2:((x:Int)==10)=false:=by simp;omega
     clear hs1 HK HS hbx
     go_wp2_with fail
     go_quiet (fail)
     go_wp2
     go_end0
     exact⟨rfl,HE.out.drewN _,z01 HG.out (z02 _ _ _)⟩
  ·have hlt':¬(k:Int)<(s.size:Int):=by omega
   have hd:decide ((k:Int)<(s.size:Int))=false:=decide_eq_false hlt'
   have HE:Hid (RS wr rb s (sk s i) lv bad er at_ dep):=by
    have:sk s k=k:=zfp hlt
    rw[<-HK.out,this];exact HS.out
   clear hs1 HK HS
   go_wp2_with fail
   go_quiet (fail)
   go_wp2
   go_end0
   exact⟨rfl,HE.out.drewN _,z01 HG.out (z02 _ _ _)⟩
def badI(bad a:Int):Int:=if bad<0 then a else bad
theorem z2p(rb:Nat)(s:ByteArray)(i:Nat)(lv:Value)(bad er at_ dep:Int)(a:Int)(w:World)(h:RS w rb s i lv bad er at_ dep) :
 Calls Tryz.prog 26 #[.pointer (some ⟨rb,0,none⟩),.int .i64 a] w fun e w'=>e=.returned (.tuple #[])∧RS w' rb s i lv (badI bad a) er at_ dep∧w.grownBy w' (some rb):=by
 have c3:=h.c3
 have f3:=h.fz 3
 have HR:Hid (RS w rb s i lv bad er at_ dep):=h
 clear h
 by_cases hb:bad<0
 ·have HN:Hid (RS (w.setCell ⟨rb,3,none⟩ (.int .i64 a)) rb s i lv (badI bad a) er at_ dep):=by unfold badI;rw[if_pos hb];exact HR.out.setBad a
  go_enter Tryz.func26,Tryz.ntmps26
  go_wp2
  go_end0
  exact⟨rfl,HN.out,z0q _ _ _ _⟩
 ·have HN:Hid (RS w rb s i lv (badI bad a) er at_ dep):=by unfold badI;rw[if_neg hb];exact HR.out
  go_enter Tryz.func26,Tryz.ntmps26
  go_wp2
  go_end0
  exact⟨rfl,HN.out,z7j _ _⟩
def isAt(s:ByteArray)(i:Nat)(c:Nat):Bool:=bat s (sk s i)==c
def gotI(s:ByteArray)(i:Nat)(c:Nat):Nat:=if bat s (sk s i)=c then sk s i+1 else sk s i
theorem zl5(rb:Nat)(s:ByteArray)(i:Nat)(lv:Value)(bad er at_ dep:Int)(c:Nat)(w:World)(h:RS w rb s i lv bad er at_ dep)(hs:s.size≤1099511627776)(hi:i≤s.size)(hc:c<256)(hb:bad<0) :
 Calls Tryz.prog 82 #[.pointer (some ⟨rb,0,none⟩),.int .u8 (c:Int)] w fun e w'=>e=.returned (.bool (isAt s i c))∧RS w' rb s (gotI s i c) lv bad er at_ dep∧w.grownBy w' (some rb):=by
 have CS:Hid (Calls Tryz.prog 25 #[.pointer (some ⟨rb,0,none⟩)] w fun e w'=>e=.returned (.tuple #[])∧RS w' rb s (sk s i) lv bad er at_ dep∧w.grownBy w' (some rb)):=z3l rb s i lv bad er at_ dep w h hs hi
 obtain⟨j,hj⟩:∃j,sk s i=j:=⟨_,rfl⟩
 have hjs:=z2w s i hi
 have HGI:Hid (gotI s i c=if bat s j=c then j+1 else j):=by show _=_;unfold gotI;rw[hj]
 have HIA:Hid (isAt s i c=(bat s j==c)):=by show _=_;unfold isAt;rw[hj]
 rw[hj] at CS hjs
 clear h hj
 go_enter Tryz.func82,Tryz.ntmps82
 go_wp2_with fail
 refine CS.out.mono ?_
 rintro e w1 ⟨rfl,h1,g1⟩
 have HR:Hid (RS w1 rb s j lv bad er at_ dep):=h1
 have HG:Hid (w.grownBy w1 (some rb)):=g1
 have c0:=h1.c0
 have c1:=h1.c1
 have c3:=h1.c3
 have f1:=h1.fz 1
 have eb:decide (bad<0)=true:=decide_eq_true hb
 clear h1 g1 CS
 by_cases hlt:j<s.size
 ·have hlt':(j:Int)<(s.size:Int):=by omega
  have el:decide ((j:Int)<(s.size:Int))=true:=decide_eq_true hlt'
  obtain⟨x,hx⟩:∃x,s[j].toNat=x:=⟨_,rfl⟩
  have hbx:bat s j=x:=by rw[z24 hlt,hx]
  by_cases hxc:x=c
  ·have HN:Hid (∀q,RS ((w1.drewN q).setCell ⟨rb,1,none⟩ (.int .i64 ((j:Int)+1))) rb s (gotI s i c) lv bad er at_ dep):=fun q=>by
    rw[HGI.out,hbx,if_pos hxc]
    have:=(HR.out.drewN q).setI (j+1)
    rw[show ((j+1:Nat):Int)=(j:Int)+1 by omega] at this;exact this
   have HE:Hid (isAt s i c=true):=by show _=_;rw[HIA.out,hbx];simpa using hxc
   subst hxc
   clear hbx HR
   go_wp2_with fail
   go_quiet (fail)
   go_wp2
   go_ret
   exact⟨by rw[HE.out];rfl,HN.out _,z01 (z01 HG.out (z02 _ _ _)) (z0q _ _ _ _)⟩
  ·have HN:Hid (RS w1 rb s (gotI s i c) lv bad er at_ dep):=by rw[HGI.out,hbx,if_neg hxc];exact HR.out
   have HE:Hid (isAt s i c=false):=by show _=_;rw[HIA.out,hbx];simpa using hxc
   have ex:((x:Int)==(c:Int))=false:=by simp;omega
   clear hbx HR
   go_wp2_with fail
   go_quiet (fail)
   go_wp2
   go_ret
   exact⟨by rw[HE.out];rfl,HN.out.drewN _,z01 HG.out (z02 _ _ _)⟩
 ·have hlt':¬(j:Int)<(s.size:Int):=by omega
  have el:decide ((j:Int)<(s.size:Int))=false:=decide_eq_false hlt'
  have hbo:bat s j=256:=z1z hlt
  have HN:Hid (RS w1 rb s (gotI s i c) lv bad er at_ dep):=by rw[HGI.out,hbo,if_neg (by omega)];exact HR.out
  have HE:Hid (isAt s i c=false):=by show _=_;rw[HIA.out,hbo];simp;omega
  clear hbo HR
  go_wp2_with fail
  go_quiet (fail)
  go_wp2
  go_ret
  exact⟨by rw[HE.out];rfl,HN.out.drewN _,z01 HG.out (z02 _ _ _)⟩
end
section
def vis(kids:Nat->List Nat):Nat->Nat->List Nat
 | 0,_=>[]
 | f+1,k=>k::(kids k).flatMap (vis kids f)
def upN(up:Nat->Int):Nat->Int->Int
 | 0,x=>x
 | t+1,x=>up (upN up t x).toNat
structure Nest(n:Nat)(kids:Nat->List Nat)(up:Nat->Int):Prop where
 kid:∀i c,i<n->c∈kids i->i<c∧c<n∧up c=(i:Int)
 nd:∀i,i<n->(kids i).Nodup
 upl:∀i,i<n->up i<(i:Int)
 lo:∀i,i<n -> -1≤up i
section
variable {n : Nat} {kids : Nat -> List Nat} {up : Nat -> Int}
theorem zfv(s:Nat)(x:Int):∀t,upN up (s+t) x=upN up t (upN up s x)
 | 0=>rfl
 | t+1=>by
  show up (upN up (s+t) x).toNat=up (upN up t (upN up s x)).toNat
  rw[zfv s x t]
theorem zr6(h:Nest n kids up)(hn:0<n):∀ (t:Nat) (x:Int),-1≤x->x<n -> -1≤upN up t x∧upN up t x≤x
 | 0,x,h1,h2=>⟨h1,Int.le_refl _⟩
 | t+1,x,h1,h2=>by
  obtain⟨k1,k2⟩:=zr6 h hn t x h1 h2
  show -1≤up (upN up t x).toNat∧up (upN up t x).toNat≤x
  have hl:(upN up t x).toNat<n:=by omega
  have a1:=h.lo _ hl
  have a2:=h.upl _ hl
  refine⟨a1,?_⟩
  omega
theorem zea(h:Nest n kids up):∀ (f k:Nat),k<n->∀j,j∈vis kids f k->k≤j∧j<n∧∃t,upN up t (j:Int)=(k:Int)
 | 0,k,hk,j,hj=>by cases hj
 | f+1,k,hk,j,hj=>by
  rcases List.mem_cons.1 hj with e|hj
  ·subst e;exact⟨Nat.le_refl _,hk,0,rfl⟩
  ·obtain⟨c,hc,hj⟩:=List.mem_flatMap.1 hj
   obtain⟨c1,c2,c3⟩:=h.kid k c hk hc
   obtain⟨d1,d2,t,ht⟩:=zea h f c c2 j hj
   refine⟨by omega,d2,t+1,?_⟩
   show up (upN up t (j:Int)).toNat=(k:Int)
   rw[ht]
   exact c3
theorem zni(h:Nest n kids up){f k c d:Nat}(hk:k<n)(hc:c∈kids k)(hd:d∈kids k)(hcd:c≠d){j:Nat}(h1:j∈vis kids f c)(h2:j∈vis kids f d):False:=by
 obtain⟨c1,c2,c3⟩:=h.kid k c hk hc
 obtain⟨d1,d2,d3⟩:=h.kid k d hk hd
 obtain⟨_,_,s,hs⟩:=zea h f c c2 j h1
 obtain⟨_,_,t,ht⟩:=zea h f d d2 j h2
 have hn:0<n:=by omega
 have key:∀ (c d:Nat) (s t:Nat),c≠d->up c=(k:Int)->k<d->c<n->upN up s (j:Int)=(c:Int)->upN up t (j:Int)=(d:Int)->s≤t->False:=fun c d s t hcd hup hkd hcn hs ht hst=>by
  obtain⟨r,rfl⟩:∃r,t=s+r:=⟨t - s,by omega⟩
  rw[zfv,hs] at ht
  cases r with
  | zero=>exact hcd (Int.ofNat.inj ht)
  | succ r =>
   rw[Nat.add_comm r 1,zfv] at ht
   have e:upN up 1 (c:Int)=(k:Int):=by show up ((c:Int)).toNat=_;exact hup
   rw[e] at ht
   have:=(zr6 h hn r (k:Int) (by omega) (by omega)).2
   omega
 rcases Nat.le_total s t with g|g
 ·exact key c d s t hcd c3 d1 c2 hs ht g
 ·exact key d c t s (fun e=>hcd e.symm) d3 c1 d2 ht hs g
theorem zeb(h:Nest n kids up):∀ (f k:Nat),k<n->(vis kids f k).Nodup
 | 0,k,hk=>List.nodup_nil
 | f+1,k,hk=>by
  show (k::(kids k).flatMap (vis kids f)).Nodup
  refine List.nodup_cons.2 ⟨fun q=>?_,?_⟩
  ·obtain⟨c,hc,hj⟩:=List.mem_flatMap.1 q
   obtain⟨c1,c2,c3⟩:=h.kid k c hk hc
   have:=(zea h f c c2 k hj).1
   omega
  ·have key:∀ks:List Nat,(∀c∈ks,c∈kids k)->ks.Nodup->(ks.flatMap (vis kids f)).Nodup:=by
    intro ks
    induction ks with
    | nil=>intro _ _;exact List.nodup_nil
    | cons c ks ih =>
     intro h1 h2
     rw[List.flatMap_cons]
     obtain⟨m1,m2⟩:=List.nodup_cons.1 h2
     have hc:=h1 c (List.mem_cons_self ..)
     obtain⟨c1,c2,c3⟩:=h.kid k c hk hc
     refine List.nodup_append.2 ⟨zeb h f c c2,ih (fun x hx=>h1 x (List.mem_cons_of_mem _ hx)) m2,fun a ha b hb e=>?_⟩
     subst e
     obtain⟨d,hd,hj⟩:=List.mem_flatMap.1 hb
     exact zni h hk hc (h1 d (List.mem_cons_of_mem _ hd)) (fun e=>m1 (e ▸ hd)) ha hj
   exact key (kids k) (fun _ hc=>hc) (h.nd k hk)
theorem z6t:∀ (n:Nat) (l:List Nat),l.Nodup->(∀x∈l,x<n)->l.length≤n
 | 0,l,_,h=>by
  cases l with
  | nil=>exact Nat.le_refl _
  | cons a l=>exact absurd (h a (List.mem_cons_self ..)) (by omega)
 | n+1,l,hd,h=>by
  by_cases hm:n∈l
  ·have h1:(l.erase n).length=l.length - 1:=List.length_erase_of_mem hm
   have h2:=z6t n (l.erase n) (hd.erase n) (fun x hx=>by
    have hx1:=List.mem_of_mem_erase hx
    have hx2:x≠n:=fun e=>by rw[e] at hx;exact (List.Nodup.not_mem_erase hd) hx
    have:=h x hx1
    omega)
   have:0<l.length:=List.length_pos_of_mem hm
   omega
  ·have:=z6t n l hd (fun x hx=>by
    have h1:=h x hx
    have h2:x≠n:=fun e=>hm (e ▸ hx)
    omega)
   omega
theorem ztc(h:Nest n kids up)(f k:Nat)(hk:k<n):(vis kids f k).length≤n:=z6t n _ (zeb h f k hk) fun x hx=>(zea h f k hk x hx).2.1
end
theorem zmu:∀ks:List Nat,(∀k c d,ks[k]?=some c->ks[k+1]?=some d->c<d)->ks.Pairwise (·<·)
 | [],_=>.nil
 | [x],_=>by simp
 | x::y::r,h=>by
  have ih:=zmu (y::r) (fun k c d h1 h2=>h (k+1) c d h1 h2)
  have hxy:x<y:=h 0 x y rfl rfl
  refine List.Pairwise.cons (fun z hz=>?_) ih
  rcases List.mem_cons.1 hz with e|hz
  ·subst e;exact hxy
  ·have:=List.rel_of_pairwise_cons ih hz
   omega
theorem zj6{ks:List Nat}(h:∀k c d,ks[k]?=some c->ks[k+1]?=some d->c<d):ks.Nodup :=
 (zmu ks h).imp (fun h e=>by omega)
end
section
open Go.RowKit
theorem zl6(rb:Nat)(s:ByteArray)(i:Nat)(lv:Value)(bad er at_ dep:Int)(c:Nat)(w:World)(h:RS w rb s i lv bad er at_ dep)(hs:s.size≤1099511627776)(hi:i≤s.size)(hb:0≤bad) :
 Calls Tryz.prog 82 #[.pointer (some ⟨rb,0,none⟩),.int .u8 (c:Int)] w fun e w'=>e=.returned (.bool false)∧RS w' rb s (sk s i) lv bad er at_ dep∧w.grownBy w' (some rb):=by
 have CS:Hid (Calls Tryz.prog 25 #[.pointer (some ⟨rb,0,none⟩)] w fun e w'=>e=.returned (.tuple #[])∧RS w' rb s (sk s i) lv bad er at_ dep∧w.grownBy w' (some rb)):=z3l rb s i lv bad er at_ dep w h hs hi
 clear h
 go_enter Tryz.func82,Tryz.ntmps82
 go_wp2_with fail
 refine CS.out.mono ?_
 rintro e w1 ⟨rfl,h1,g1⟩
 have HR:Hid (RS w1 rb s (sk s i) lv bad er at_ dep):=h1
 have HG:Hid (w.grownBy w1 (some rb)):=g1
 have c3:=h1.c3
 have hb':¬bad<0:=by omega
 have eb:decide (bad<0)=false:=decide_eq_false hb'
 clear h1 g1 CS
 go_wp2_with fail
 go_quiet (fail)
 go_wp2
 go_ret
 exact⟨rfl,HR.out.drewN _,z01 HG.out (z02 _ _ _)⟩
def z5p(s:ByteArray)(i c:Nat)(bad:Int):Int:=if isAt s i c then bad else (sk s i:Int)
theorem zgz(rb:Nat)(s:ByteArray)(i:Nat)(lv:Value)(bad er at_ dep:Int)(c:Nat)(w:World)(h:RS w rb s i lv bad er at_ dep)(hs:s.size≤1099511627776)(hi:i≤s.size)(hc:c<256)(hb:bad<0) :
 Calls Tryz.prog 53 #[.pointer (some ⟨rb,0,none⟩),.int .u8 (c:Int)] w fun e w'=>e=.returned (.tuple #[])∧RS w' rb s (gotI s i c) lv (z5p s i c bad) er at_ dep∧w.grownBy w' (some rb):=by
 have CG:Hid (Calls Tryz.prog 82 #[.pointer (some ⟨rb,0,none⟩),.int .u8 (c:Int)] w fun e w'=>e=.returned (.bool (isAt s i c))∧RS w' rb s (gotI s i c) lv bad er at_ dep∧w.grownBy w' (some rb)):=zl5 rb s i lv bad er at_ dep c w h hs hi hc hb
 obtain⟨ia,hia⟩:∃x,isAt s i c=x:=⟨_,rfl⟩
 obtain⟨gi,hgi⟩:∃x,gotI s i c=x:=⟨_,rfl⟩
 have HM:Hid (z5p s i c bad=if ia then bad else (sk s i:Int)):=by show _=_;unfold z5p;rw[hia]
 have HGI:Hid (ia=false->gi=sk s i):=by
  intro e
  rw[<-hgi];unfold gotI
  rw[<-hia] at e
  unfold isAt at e
  rw[if_neg (by simpa using e)]
 rw[hia,hgi] at CG
 rw[hgi]
 clear h hia hgi
 go_enter Tryz.func53,Tryz.ntmps53
 go_wp2_with fail
 refine CG.out.mono ?_
 rintro e w1 ⟨rfl,h1,g1⟩
 have HG:Hid (w.grownBy w1 (some rb)):=g1
 have c1:=h1.c1
 have HR:Hid (RS w1 rb s gi lv bad er at_ dep):=h1
 have CF:Hid (Calls Tryz.prog 26 #[.pointer (some ⟨rb,0,none⟩),.int .i64 (gi:Int)] w1 fun e w'=>e=.returned (.tuple #[])∧RS w' rb s gi lv (badI bad gi) er at_ dep∧w1.grownBy w' (some rb)):=z2p rb s gi lv bad er at_ dep gi w1 h1
 clear h1 g1 CG
 cases ia with
 | true =>
  have HE:Hid (RS w1 rb s gi lv (z5p s i c bad) er at_ dep):=by rw[HM.out];exact HR.out
  clear CF HR
  go_wp2
  go_end0
  exact⟨rfl,HE.out,HG.out⟩
 | false =>
  have HE:Hid (badI bad (gi:Int)=z5p s i c bad):=by
   show _=_
   rw[HM.out,HGI.out rfl];unfold badI;rw[if_pos hb];rfl
  clear HR
  go_wp2_with fail
  refine CF.out.mono ?_
  rintro e w2 ⟨rfl,h2,g2⟩
  have H2:Hid (RS w2 rb s gi lv (z5p s i c bad) er at_ dep):=by rw[<-HE.out];exact h2
  have HG2:Hid (w.grownBy w2 (some rb)):=z01 HG.out g2
  clear h2 g2
  go_wp2
  go_end0
  exact⟨rfl,H2.out,HG2.out⟩
theorem zph(rb:Nat)(s:ByteArray)(i:Nat)(lv:Value)(bad er at_ dep:Int)(c:Nat)(w:World)(h:RS w rb s i lv bad er at_ dep)(hs:s.size≤1099511627776)(hi:i≤s.size)(hb:0≤bad) :
 Calls Tryz.prog 53 #[.pointer (some ⟨rb,0,none⟩),.int .u8 (c:Int)] w fun e w'=>e=.returned (.tuple #[])∧RS w' rb s (sk s i) lv bad er at_ dep∧w.grownBy w' (some rb):=by
 have CG:Hid (Calls Tryz.prog 82 #[.pointer (some ⟨rb,0,none⟩),.int .u8 (c:Int)] w fun e w'=>e=.returned (.bool false)∧RS w' rb s (sk s i) lv bad er at_ dep∧w.grownBy w' (some rb)):=zl6 rb s i lv bad er at_ dep c w h hs hi hb
 obtain⟨gi,hgi⟩:∃x,sk s i=x:=⟨_,rfl⟩
 rw[hgi] at CG ⊢
 clear h hgi
 go_enter Tryz.func53,Tryz.ntmps53
 go_wp2_with fail
 refine CG.out.mono ?_
 rintro e w1 ⟨rfl,h1,g1⟩
 have HG:Hid (w.grownBy w1 (some rb)):=g1
 have c1:=h1.c1
 have CF:Hid (Calls Tryz.prog 26 #[.pointer (some ⟨rb,0,none⟩),.int .i64 (gi:Int)] w1 fun e w'=>e=.returned (.tuple #[])∧RS w' rb s gi lv (badI bad gi) er at_ dep∧w1.grownBy w' (some rb)):=z2p rb s gi lv bad er at_ dep gi w1 h1
 have HE:Hid (badI bad (gi:Int)=bad):=by show _=_;unfold badI;rw[if_neg (by omega)]
 clear h1 g1 CG
 go_wp2_with fail
 refine CF.out.mono ?_
 rintro e w2 ⟨rfl,h2,g2⟩
 have H2:Hid (RS w2 rb s gi lv bad er at_ dep):=by have:=h2;rw[HE.out] at this;exact this
 have HG2:Hid (w.grownBy w2 (some rb)):=z01 HG.out g2
 clear h2 g2
 go_wp2
 go_end0
 exact⟨rfl,H2.out,HG2.out⟩
def wrE(er at_ e a:Int):Int:=if at_<0∨a<at_ then e else er
def wrA(at_ a:Int):Int:=if at_<0∨a<at_ then a else at_
theorem z5a(rb:Nat)(s:ByteArray)(i:Nat)(lv:Value)(bad er at_ dep:Int)(e a:Int)(w:World)(h:RS w rb s i lv bad er at_ dep) :
 Calls Tryz.prog 50 #[.pointer (some ⟨rb,0,none⟩),.int .i64 e,.int .i64 a] w fun r w'=>r=.returned (.tuple #[])∧RS w' rb s i lv bad (wrE er at_ e a) (wrA at_ a) dep∧w.grownBy w' (some rb):=by
 have c5:=h.c5
 have c4:=h.c4
 have f4:=h.fz 4
 have f5:=h.fz 5
 have HR:Hid (RS w rb s i lv bad er at_ dep):=h
 clear h
 by_cases hc:at_<0∨a<at_
 ·have HN:Hid (RS ((w.setCell ⟨rb,4,none⟩ (.int .i64 e)).setCell ⟨rb,5,none⟩ (.int .i64 a)) rb s i lv bad (wrE er at_ e a) (wrA at_ a) dep):=by unfold wrE wrA;rw[if_pos hc,if_pos hc];exact HR.out.setErr e a
  have HG:Hid (w.grownBy ((w.setCell ⟨rb,4,none⟩ (.int .i64 e)).setCell ⟨rb,5,none⟩ (.int .i64 a)) (some rb)):=z01 (z0q _ _ _ _) (z0q _ _ _ _)
  by_cases h1:at_<0
  ·clear hc
   go_enter Tryz.func50,Tryz.ntmps50
   go_wp2
   go_end0
   exact⟨rfl,HN.out,HG.out⟩
  ·have h2:a<at_:=by omega
   clear hc
   go_enter Tryz.func50,Tryz.ntmps50
   go_wp2
   go_end0
   exact⟨rfl,HN.out,HG.out⟩
 ·have HN:Hid (RS w rb s i lv bad (wrE er at_ e a) (wrA at_ a) dep):=by unfold wrE wrA;rw[if_neg hc,if_neg hc];exact HR.out
  have h1:¬at_<0:=by omega
  have h2:¬a<at_:=by omega
  clear hc
  go_enter Tryz.func50,Tryz.ntmps50
  go_wp2
  go_end0
  exact⟨rfl,HN.out,z7j _ _⟩
end
section
open Go.RowKit
theorem z8g(s:ByteArray)(k:Nat):s.extract k k=ByteArray.empty:=by
 apply ByteArray.ext
 simp
def z4l(s:ByteArray)(i:Nat)(bad:Int):Int:=if run z04 s (sk s i)=sk s i then (sk s i:Int) else bad
theorem zqh(rb:Nat)(s:ByteArray)(i:Nat)(lv:Value)(bad er at_ dep:Int)(w:World)(h:RS w rb s i lv bad er at_ dep)(hs:s.size≤1099511627776)(hi:i≤s.size)(hb:bad<0) :
 Calls Tryz.prog 47 #[.pointer (some ⟨rb,0,none⟩)] w fun e w'=>e=.returned (.string (s.extract (sk s i) (run z04 s (sk s i))))∧RS w' rb s (run z04 s (sk s i)) lv (z4l s i bad) er at_ dep∧w.grownBy w' (some rb):=by
 have CS:Hid (Calls Tryz.prog 25 #[.pointer (some ⟨rb,0,none⟩)] w fun e w'=>e=.returned (.tuple #[])∧RS w' rb s (sk s i) lv bad er at_ dep∧w.grownBy w' (some rb)):=z3l rb s i lv bad er at_ dep w h hs hi
 obtain⟨j,hj⟩:∃j,sk s i=j:=⟨_,rfl⟩
 have hjs:=z2w s i hi
 have HWB:Hid (z4l s i bad=if run z04 s j=j then (j:Int) else bad):=by show _=_;unfold z4l;rw[hj]
 rw[hj] at CS hjs ⊢
 clear h hj
 go_enter Tryz.func47,Tryz.ntmps47
 go_wp2_with fail
 refine CS.out.mono ?_
 rintro e w1 ⟨rfl,h1,g1⟩
 have HR:Hid (RS w1 rb s j lv bad er at_ dep):=h1
 have HG1:Hid (w.grownBy w1 (some rb)):=g1
 have d1:=h1.c1
 have eb:decide (bad<0)=true:=decide_eq_true hb
 clear h1 g1 CS
 go_wp2
 clear d1
 go_loopw [10] (fun _ wr=>∃k:Nat,j≤k∧k≤s.size∧Hid (run z04 s k=run z04 s j)∧Hid (RS wr rb s k lv bad er at_ dep)∧Hid (w.grownBy wr (some rb))) (fun _ wr=>s.size - rdI wr rb)
 case atStart=>exact⟨j,Nat.le_refl _,hjs,rfl,HR.out,HG1.out⟩
 case round =>
  obtain⟨k,hjk,hk,HK,HS,HG⟩:=hrel
  have hs1:=HS.out
  have c0:=hs1.c0
  have c1:=hs1.c1
  have c3:=hs1.c3
  have f1:=hs1.fz 1
  have HRD:Hid (rdI wr rb=k):=hs1.rdI
  by_cases hgo:z04 (bat s k)=true
  ·have hlt:k<s.size:=by
    by_cases e:k<s.size
    ·exact e
    ·rw[z1z e] at hgo;cases hgo
   have hlt':(k:Int)<(s.size:Int):=by omega
   have el:decide ((k:Int)<(s.size:Int))=true:=decide_eq_true hlt'
   obtain⟨x,hx⟩:∃x,s[k].toNat=x:=⟨_,rfl⟩
   have hbx:bat s k=x:=by rw[z24 hlt,hx]
   have HK2:Hid (run z04 s (k+1)=run z04 s j):=by rw[<-HK.out];exact (z4i hlt hgo).symm
   rw[hbx] at hgo
   unfold z04 at hgo
   simp only[Bool.and_eq_true,decide_eq_true_eq] at hgo
   obtain⟨l1,l2⟩:=hgo
   have e1:decide ((97:Int)≤(x:Int))=true:=decide_eq_true (by omega)
   have e2:decide ((x:Int)≤122)=true:=decide_eq_true (by omega)
   have HN:Hid (∀q,RS ((wr.drewN q).setCell ⟨rb,1,none⟩ (.int .i64 ((k:Int)+1))) rb s (k+1) lv bad er at_ dep):=fun q=>by
    have:=(HS.out.drewN q).setI (k+1)
    rw[show ((k+1:Nat):Int)=(k:Int)+1 by omega] at this;exact this
   clear hs1 HK HS hbx
   go_wp2_with fail
   go_quiet (fail)
   go_wp2
   go_roundw
   case rel=>exact⟨k+1,by omega,by omega,HK2.out,HN.out _,z01 (z01 HG.out (z02 _ _ _)) (z0q _ _ _ _)⟩
   case measure=>rw[(HN.out _).rdI,HRD.out];omega
  ·have hrk:run z04 s j=k:=by rw[<-HK.out];exact z5m (by simpa using hgo)
   have HRK:Hid (run z04 s j=k):=hrk
   have CF:Hid (∀ (g:Nat) W,RS W rb s g lv bad er at_ dep->Calls Tryz.prog 26 #[.pointer (some ⟨rb,0,none⟩),.int .i64 (g:Int)] W fun e w'=>e=.returned (.tuple #[])∧RS w' rb s g lv (badI bad g) er at_ dep∧W.grownBy w' (some rb)):=fun g W h=>z2p rb s g lv bad er at_ dep g W h
   clear hrk hs1 HK
   by_cases hlt:k<s.size
   ·have hlt':(k:Int)<(s.size:Int):=by omega
    have el:decide ((k:Int)<(s.size:Int))=true:=decide_eq_true hlt'
    obtain⟨x,hx⟩:∃x,s[k].toNat=x:=⟨_,rfl⟩
    have hbx:bat s k=x:=by rw[z24 hlt,hx]
    rw[hbx] at hgo
    unfold z04 at hgo
    simp only[Bool.and_eq_true,decide_eq_true_eq] at hgo
    clear hbx
    by_cases l1:97≤x
    ·have l2:¬x≤122:=fun e=>hgo ⟨l1,e⟩
     have e1:decide ((97:Int)≤(x:Int))=true:=decide_eq_true (by omega)
     have e2:decide ((x:Int)≤122)=false:=decide_eq_false (by omega)
     clear hgo
     go_wp2_with fail
     go_quiet (fail)
     by_cases hkj:k=j
     ·subst hkj
      have HE:Hid (badI bad (k:Int)=z4l s i bad):=by show _=_;rw[HWB.out,if_pos HRK.out];unfold badI;rw[if_pos hb]
      go_wp2_with fail
      refine (CF.out k _ (HS.out.drewN _)).mono ?_
      rintro e w2 ⟨rfl,h2,g2⟩
      have H2:Hid (RS w2 rb s k lv (z4l s i bad) er at_ dep):=by have:=h2;rw[HE.out] at this;exact this
      have HG2:Hid (w.grownBy w2 (some rb)):=z01 (z01 HG.out (z02 _ _ _)) g2
      have d0:=h2.c0
      have d1:=h2.c1
      clear h2 g2 c0 c1 c3 f1
      go_wp2_with fail
      go_quiet (fail)
      go_wp2
      go_ret
      exact⟨by rw[HRK.out,z8g];rfl,by rw[HRK.out];exact H2.out.drewN _,z01 HG2.out (z02 _ _ _)⟩
     ·have ewb:z4l s i bad=bad:=by rw[HWB.out,if_neg (by rw[HRK.out];exact hkj)]
      have HE:Hid (RS wr rb s k lv (z4l s i bad) er at_ dep):=by rw[ewb];exact HS.out
      clear ewb
      have hkj':((k:Int)==(j:Int))=false:=by simp;omega
      have hjk':(j:Int)≤(k:Int):=by omega
      have hks:(k:Int)≤(s.size:Int):=by omega
      go_wp2_with fail
      go_quiet (fail)
      go_wp2
      go_ret
      exact⟨by rw[HRK.out];rfl,by rw[HRK.out];exact (HE.out.drewN _).drewN _,z01 (z01 HG.out (z02 _ _ _)) (z02 _ _ _)⟩
    ·have e1:decide ((97:Int)≤(x:Int))=false:=decide_eq_false (by omega)
     clear hgo
     go_wp2_with fail
     go_quiet (fail)
     by_cases hkj:k=j
     ·subst hkj
      have HE:Hid (badI bad (k:Int)=z4l s i bad):=by show _=_;rw[HWB.out,if_pos HRK.out];unfold badI;rw[if_pos hb]
      go_wp2_with fail
      refine (CF.out k _ (HS.out.drewN _)).mono ?_
      rintro e w2 ⟨rfl,h2,g2⟩
      have H2:Hid (RS w2 rb s k lv (z4l s i bad) er at_ dep):=by have:=h2;rw[HE.out] at this;exact this
      have HG2:Hid (w.grownBy w2 (some rb)):=z01 (z01 HG.out (z02 _ _ _)) g2
      have d0:=h2.c0
      have d1:=h2.c1
      clear h2 g2 c0 c1 c3 f1
      go_wp2_with fail
      go_quiet (fail)
      go_wp2
      go_ret
      exact⟨by rw[HRK.out,z8g];rfl,by rw[HRK.out];exact H2.out.drewN _,z01 HG2.out (z02 _ _ _)⟩
     ·have ewb:z4l s i bad=bad:=by rw[HWB.out,if_neg (by rw[HRK.out];exact hkj)]
      have HE:Hid (RS wr rb s k lv (z4l s i bad) er at_ dep):=by rw[ewb];exact HS.out
      clear ewb
      have hkj':((k:Int)==(j:Int))=false:=by simp;omega
      have hjk':(j:Int)≤(k:Int):=by omega
      have hks:(k:Int)≤(s.size:Int):=by omega
      go_wp2_with fail
      go_quiet (fail)
      go_wp2
      go_ret
      exact⟨by rw[HRK.out];rfl,by rw[HRK.out];exact (HE.out.drewN _).drewN _,z01 (z01 HG.out (z02 _ _ _)) (z02 _ _ _)⟩
   ·have hlt':¬(k:Int)<(s.size:Int):=by omega
    have el:decide ((k:Int)<(s.size:Int))=false:=decide_eq_false hlt'
    clear hgo
    go_wp2_with fail
    go_quiet (fail)
    by_cases hkj:k=j
    ·subst hkj
     have HE:Hid (badI bad (k:Int)=z4l s i bad):=by show _=_;rw[HWB.out,if_pos HRK.out];unfold badI;rw[if_pos hb]
     go_wp2_with fail
     refine (CF.out k _ (HS.out.drewN _)).mono ?_
     rintro e w2 ⟨rfl,h2,g2⟩
     have H2:Hid (RS w2 rb s k lv (z4l s i bad) er at_ dep):=by have:=h2;rw[HE.out] at this;exact this
     have HG2:Hid (w.grownBy w2 (some rb)):=z01 (z01 HG.out (z02 _ _ _)) g2
     have d0:=h2.c0
     have d1:=h2.c1
     clear h2 g2 c0 c1 c3 f1
     go_wp2_with fail
     go_quiet (fail)
     go_wp2
     go_ret
     exact⟨by rw[HRK.out,z8g];rfl,by rw[HRK.out];exact H2.out.drewN _,z01 HG2.out (z02 _ _ _)⟩
    ·have ewb:z4l s i bad=bad:=by rw[HWB.out,if_neg (by rw[HRK.out];exact hkj)]
     have HE:Hid (RS wr rb s k lv (z4l s i bad) er at_ dep):=by rw[ewb];exact HS.out
     clear ewb
     have hkj':((k:Int)==(j:Int))=false:=by simp;omega
     have hjk':(j:Int)≤(k:Int):=by omega
     have hks:(k:Int)≤(s.size:Int):=by omega
     go_wp2_with fail
     go_quiet (fail)
     go_wp2
     go_ret
     exact⟨by rw[HRK.out];rfl,by rw[HRK.out];exact (HE.out.drewN _).drewN _,z01 (z01 HG.out (z02 _ _ _)) (z02 _ _ _)⟩
end
section
open Go.RowKit
theorem zhp(rb:Nat)(s:ByteArray)(i:Nat)(lv:Value)(bad er at_ dep:Int)(w:World)(h:RS w rb s i lv bad er at_ dep)(hs:s.size≤1099511627776)(hi:i≤s.size)(hb:0≤bad) :
 Calls Tryz.prog 47 #[.pointer (some ⟨rb,0,none⟩)] w fun e w'=>e=.returned (.string ByteArray.empty)∧RS w' rb s (sk s i) lv bad er at_ dep∧w.grownBy w' (some rb):=by
 have CS:Hid (Calls Tryz.prog 25 #[.pointer (some ⟨rb,0,none⟩)] w fun e w'=>e=.returned (.tuple #[])∧RS w' rb s (sk s i) lv bad er at_ dep∧w.grownBy w' (some rb)):=z3l rb s i lv bad er at_ dep w h hs hi
 obtain⟨j,hj⟩:∃j,sk s i=j:=⟨_,rfl⟩
 have hjs:=z2w s i hi
 rw[hj] at CS hjs ⊢
 clear h hj
 go_enter Tryz.func47,Tryz.ntmps47
 go_wp2_with fail
 refine CS.out.mono ?_
 rintro e w1 ⟨rfl,h1,g1⟩
 have HR:Hid (RS w1 rb s j lv bad er at_ dep):=h1
 have HG1:Hid (w.grownBy w1 (some rb)):=g1
 have d1:=h1.c1
 have hb':¬bad<0:=by omega
 have eb:decide (bad<0)=false:=decide_eq_false hb'
 clear h1 g1 CS
 go_wp2
 clear d1
 go_loopw [10] (fun _ wr=>Hid (RS wr rb s j lv bad er at_ dep)∧Hid (w.grownBy wr (some rb))) (fun _ wr=>0)
 case atStart=>exact⟨HR.out,HG1.out⟩
 case round =>
  obtain⟨HS,HG⟩:=hrel
  have hs1:=HS.out
  have c0:=hs1.c0
  have c1:=hs1.c1
  have c3:=hs1.c3
  have CF:Hid (∀W,RS W rb s j lv bad er at_ dep->Calls Tryz.prog 26 #[.pointer (some ⟨rb,0,none⟩),.int .i64 (j:Int)] W fun e w'=>e=.returned (.tuple #[])∧RS w' rb s j lv (badI bad j) er at_ dep∧W.grownBy w' (some rb)):=fun W h=>z2p rb s j lv bad er at_ dep j W h
  have HE:Hid (badI bad (j:Int)=bad):=by show _=_;unfold badI;rw[if_neg (by omega)]
  clear hs1
  go_wp2_with fail
  go_quiet (fail)
  go_wp2_with fail
  refine (CF.out _ (HS.out.drewN _)).mono ?_
  rintro e w2 ⟨rfl,h2,g2⟩
  have H2:Hid (RS w2 rb s j lv bad er at_ dep):=by have:=h2;rw[HE.out] at this;exact this
  have HG2:Hid (w.grownBy w2 (some rb)):=z01 (z01 HG.out (z02 _ _ _)) g2
  have d0:=h2.c0
  have d1:=h2.c1
  clear h2 g2 c0 c1 c3
  go_wp2_with fail
  go_quiet (fail)
  go_wp2
  go_ret
  exact⟨rfl,H2.out.drewN _,z01 HG2.out (z02 _ _ _)⟩
theorem z5v{a b:ByteArray}(h:¬a=b):(a.toList==b.toList)=false:=by
 rw[beq_eq_false_iff_ne]
 intro e
 rw[ByteArray.toList_eq,ByteArray.toList_eq] at e
 exact h (ByteArray.ext (Array.toList_inj.1 e))
def z08:List ByteArray->ByteArray->Nat->Int
 | [],_,_ => -1
 | a::r,x,k=>if a=x then (k:Int) else z08 r x (k+1)
theorem z5e(x:ByteArray):∀ (ws:List ByteArray) (k:Nat),z08 ws x k = -1∨((k:Int)≤z08 ws x k∧z08 ws x k<(k:Int)+ws.length)
 | [],k=>.inl rfl
 | a::r,k=>by
  unfold z08
  by_cases e:a=x
  ·right;simp only[e,if_true];simp;omega
  ·simp only[e,if_false]
   rcases z5e x r (k+1) with h|h
   ·exact .inl h
   ·right;simp;omega
theorem zbl(ws:List ByteArray)(x:ByteArray)(blk off cap n:Nat)(w:World)(hb:blk<w.heap.size)(hc:∀j,j<ws.length->w.cell? ⟨blk,off+j,none⟩=some (.string (ws[j]?.getD ByteArray.empty)))(hn:ws.length=n)(hn2:n≤1099511627776) :
 Calls Tryz.prog 48 #[.slice (some ⟨blk,off,none⟩) n cap,.string x] w fun e w'=>e=.returned (.int .i64 (z08 ws x 0))∧w'=w:=by
 have HC:Hid (∀j,j<ws.length->w.cell? ⟨blk,off+j,none⟩=some (.string (ws[j]?.getD ByteArray.empty))):=hc
 have HN:Hid (ws.length=n):=hn
 clear hc hn
 go_enter Tryz.func48,Tryz.ntmps48
 go_wp2
 go_loop [5] (fun i=>∃k:Nat,k≤n∧i=.int .i64 k∧Hid (z08 ws x 0=z08 (ws.drop k) x k)) (fun i=>n - (intOf i).toNat)
 case atStart=>exact⟨0,Nat.zero_le _,rfl,by show _=_;rw[List.drop_zero]⟩
 case round =>
  obtain⟨k,hk,rfl,HF⟩:=hrel
  by_cases hlt:k<n
  ·have hlt':(k:Int)<(n:Int):=by omega
   have hkw:k<ws.length:=by rw[HN.out];exact hlt
   have hcell:=HC.out k hkw
   obtain⟨y,hy⟩:∃y,ws[k]?.getD ByteArray.empty=y:=⟨_,rfl⟩
   rw[hy] at hcell
   have hdrop:ws.drop k=y::ws.drop (k+1):=by rw[<-hy,List.getElem?_eq_getElem hkw];exact List.drop_eq_getElem_cons hkw
   have HF2:Hid (z08 ws x 0=if y=x then (k:Int) else z08 (ws.drop (k+1)) x (k+1)):=by show _=_;rw[HF.out,hdrop];rfl
   clear hdrop hy HF hkw
   by_cases e:y=x
   ·have HE:Hid (z08 ws x 0=(k:Int)):=by show _=_;rw[HF2.out,if_pos e]
    subst e
    clear HF2
    go_wp2
    go_ret
    exact⟨by rw[HE.out];rfl,rfl⟩
   ·have HE:Hid (z08 ws x 0=z08 (ws.drop (k+1)) x (k+1)):=by show _=_;rw[HF2.out,if_neg e]
    have e1:(y.toList==x.toList)=false:=z5v e
    clear HF2
    go_wp2
    go_round
    case rel=>exact⟨k+1,by omega,by go_num,HE.out⟩
    case measure=>simp[intOf];omega
  ·have hlt':¬(k:Int)<(n:Int):=by omega
   have HE:Hid (z08 ws x 0 = -1):=by show _=_;rw[HF.out,List.drop_eq_nil_of_le (by rw[HN.out];omega)];rfl
   clear HF
   go_wp2
   go_ret
   exact⟨by rw[HE.out];rfl,rfl⟩
end
section
open Go.RowKit
def dv(s:ByteArray)(j:Nat):Nat->Int
 | 0=>0
 | c+1=>if c<6 then 10*dv s j c+((bat s (j+c):Int) - 48) else dv s j c
theorem zes(s:ByteArray)(j:Nat):∀c,(∀t,t<c->48≤bat s (j+t)∧bat s (j+t)≤57)->0≤dv s j c∧dv s j c≤999999∧(c≤5->dv s j c≤99999)∧(c≤4->dv s j c≤9999)∧(c≤3->dv s j c≤999)∧(c≤2->dv s j c≤99)∧(c≤1->dv s j c≤9)∧(c=0->dv s j c=0)
 | 0,_=>by simp[dv]
 | c+1,h=>by
  have ih:=zes s j c (fun t ht=>h t (by omega))
  have hd:=h c (by omega)
  unfold dv
  split <;> omega
theorem z9v{p:Nat->Bool}(s:ByteArray):∀f i t,runF p s f i > i+t->p (bat s (i+t))=true
 | 0,i,t,h=>by simp[runF] at h;omega
 | f+1,i,t,h=>by
  rw[runF] at h
  by_cases c:p (bat s i)=true
  ·rw[if_pos c] at h
   match t with
   | 0=>exact c
   | t+1 =>
    have:=z9v (p:=p) s f (i+1) t (by omega)
    rw[show i+(t+1)=i+1+t by omega];exact this
  ·rw[if_neg c] at h;omega
def numB(s:ByteArray)(j k:Nat)(bad:Int):Int:=if k=j∨j+6<k∨(j+1<k∧bat s j=48) then (j:Int) else bad
theorem ziq(rb:Nat)(s:ByteArray)(i:Nat)(lv:Value)(bad er at_ dep:Int)(w:World)(h:RS w rb s i lv bad er at_ dep)(hs:s.size≤1099511627776)(hi:i≤s.size)(hb:bad<0) :
 Calls Tryz.prog 83 #[.pointer (some ⟨rb,0,none⟩)] w fun e w'=>e=.returned (.tuple #[.int .i64 (dv s (sk s i) (run z0e s (sk s i) - sk s i)),.int .i64 (sk s i:Int)])∧RS w' rb s (run z0e s (sk s i)) lv (numB s (sk s i) (run z0e s (sk s i)) bad) er at_ dep∧w.grownBy w' (some rb):=by
 have CS:Hid (Calls Tryz.prog 25 #[.pointer (some ⟨rb,0,none⟩)] w fun e w'=>e=.returned (.tuple #[])∧RS w' rb s (sk s i) lv bad er at_ dep∧w.grownBy w' (some rb)):=z3l rb s i lv bad er at_ dep w h hs hi
 obtain⟨j,hj⟩:∃j,sk s i=j:=⟨_,rfl⟩
 have hjs:=z2w s i hi
 rw[hj] at CS hjs ⊢
 have HDG:Hid (∀t,j+t<run z0e s j->48≤bat s (j+t)∧bat s (j+t)≤57):=fun t ht=>by
  have:=z9v (p:=z0e) s (s.size - j) j t ht
  unfold z0e at this
  simpa using this
 clear h hj
 go_enter Tryz.func83,Tryz.ntmps83
 go_wp2_with fail
 refine CS.out.mono ?_
 rintro e w1 ⟨rfl,h1,g1⟩
 have HR:Hid (RS w1 rb s j lv bad er at_ dep):=h1
 have HG1:Hid (w.grownBy w1 (some rb)):=g1
 have d1:=h1.c1
 have eb:decide (bad<0)=true:=decide_eq_true hb
 clear h1 g1 CS
 go_wp2
 clear d1
 go_loopw [5,13] (fun v _ wr=>∃ (k:Nat) (n:Int),v=.int .i64 n∧j≤k∧k≤s.size∧0≤n∧n≤999999∧Hid (n=dv s j (k - j))∧Hid (run z0e s k=run z0e s j)∧Hid (RS wr rb s k lv bad er at_ dep)∧Hid (w.grownBy wr (some rb))) (fun _ _ wr=>s.size - rdI wr rb)
 case atStart=>exact⟨j,0,rfl,Nat.le_refl _,hjs,by omega,by omega,by show _=_;rw[Nat.sub_self];rfl,rfl,HR.out,HG1.out⟩
 case round =>
  obtain⟨k,n,rfl,hjk,hk,n0,n1,HN0,HK,HS,HG⟩:=hrel
  have hs1:=HS.out
  have c0:=hs1.c0
  have c1:=hs1.c1
  have c3:=hs1.c3
  have f1:=hs1.fz 1
  have HRD:Hid (rdI wr rb=k):=hs1.rdI
  by_cases hgo:z0e (bat s k)=true
  ·have hlt:k<s.size:=by
    by_cases e:k<s.size
    ·exact e
    ·rw[z1z e] at hgo;cases hgo
   have hlt':(k:Int)<(s.size:Int):=by omega
   have el:decide ((k:Int)<(s.size:Int))=true:=decide_eq_true hlt'
   obtain⟨x,hx⟩:∃x,s[k].toNat=x:=⟨_,rfl⟩
   have hbx:bat s k=x:=by rw[z24 hlt,hx]
   have hrk:run z0e s k=run z0e s (k+1):=z4i hlt hgo
   have HK2:Hid (run z0e s (k+1)=run z0e s j):=by rw[<-HK.out];exact hrk.symm
   have hreach:k<run z0e s j:=by rw[<-HK.out,hrk];exact z55 _ _ _
   have hnew:dv s j (k+1 - j)=if k - j<6 then 10*n+((x:Int) - 48) else n:=by
    rw[show k+1 - j=(k - j)+1 by omega,dv,<-HN0.out,show j+(k - j)=k by omega,hbx]
   have hbnd:=zes s j (k - j) (fun t ht=>HDG.out t (by omega))
   have hbnd2:=zes s j (k+1 - j) (fun t ht=>HDG.out t (by omega))
   rw[<-HN0.out] at hbnd
   rw[hbx] at hgo
   unfold z0e at hgo
   simp only[Bool.and_eq_true,decide_eq_true_eq] at hgo
   obtain⟨l1,l2⟩:=hgo
   have e1:decide ((48:Int)≤(x:Int))=true:=decide_eq_true (by omega)
   have e2:decide ((x:Int)≤57)=true:=decide_eq_true (by omega)
   have HN:Hid (∀q,RS ((wr.drewN q).setCell ⟨rb,1,none⟩ (.int .i64 ((k:Int)+1))) rb s (k+1) lv bad er at_ dep):=fun q=>by
    have:=(HS.out.drewN q).setI (k+1)
    rw[show ((k+1:Nat):Int)=(k:Int)+1 by omega] at this;exact this
   by_cases h6:k - j<6
   ·rw[if_pos h6] at hnew
    have h6':(k:Int) - (j:Int)<6:=by omega
    have HND:Hid (10*n+(x:Int) - 48=dv s j (k+1 - j)):=by show _=_;rw[hnew];omega
    have nb0:0≤10*n+(x:Int) - 48:=by omega
    have nb1:10*n+(x:Int) - 48≤999999:=by rw[HND.out];exact hbnd2.2.1
    clear hs1 HK HS hbx hnew hbnd hbnd2 hrk hreach HN0
    go_wp2_with fail
    go_quiet (fail)
    go_wp2_with fail
    go_quiet (fail)
    go_wp2
    go_roundw
    case rel=>exact⟨k+1,_,rfl,by omega,by omega,nb0,nb1,HND.out,HK2.out,HN.out _,z01 (z01 HG.out (z02 _ _ _)) (z0q _ _ _ _)⟩
    case measure=>rw[(HN.out _).rdI,HRD.out];omega
   ·rw[if_neg h6] at hnew
    have h6':¬(k:Int) - (j:Int)<6:=by omega
    have HND:Hid (n=dv s j (k+1 - j)):=by show _=_;rw[hnew]
    clear hs1 HK HS hbx hnew hbnd hbnd2 hrk hreach HN0
    go_wp2_with fail
    go_quiet (fail)
    go_wp2
    go_roundw
    case rel=>exact⟨k+1,n,rfl,by omega,by omega,n0,n1,HND.out,HK2.out,HN.out _,z01 (z01 HG.out (z02 _ _ _)) (z0q _ _ _ _)⟩
    case measure=>rw[(HN.out _).rdI,HRD.out];omega
  ·have hrk:run z0e s j=k:=by rw[<-HK.out];exact z5m (by simpa using hgo)
   have HRK:Hid (run z0e s j=k):=hrk
   have CF:Hid (∀W,RS W rb s k lv bad er at_ dep->Calls Tryz.prog 26 #[.pointer (some ⟨rb,0,none⟩),.int .i64 (j:Int)] W fun e w'=>e=.returned (.tuple #[])∧RS w' rb s k lv (badI bad j) er at_ dep∧W.grownBy w' (some rb)):=fun W h=>z2p rb s k lv bad er at_ dep j W h
   clear hrk hs1 HK
   by_cases hlt:k<s.size
   ·have hlt':(k:Int)<(s.size:Int):=by omega
    have el:decide ((k:Int)<(s.size:Int))=true:=decide_eq_true hlt'
    obtain⟨x,hx⟩:∃x,s[k].toNat=x:=⟨_,rfl⟩
    have hbx:bat s k=x:=by rw[z24 hlt,hx]
    rw[hbx] at hgo
    unfold z0e at hgo
    simp only[Bool.and_eq_true,decide_eq_true_eq] at hgo
    clear hbx
    by_cases l1:48≤x
    ·have l2:¬x≤57:=fun e=>hgo ⟨l1,e⟩
     have e1:decide ((48:Int)≤(x:Int))=true:=decide_eq_true (by omega)
     have e2:decide ((x:Int)≤57)=false:=decide_eq_false (by omega)
     clear hgo
     go_wp2_with fail
     go_quiet (fail)
     by_cases t0:k=j
     ·have HE:Hid (badI bad (j:Int)=numB s j k bad):=by show _=_;unfold numB badI;rw[if_pos hb,if_pos (.inl t0)]
      have u0:(k:Int) - (j:Int)=0:=by omega
      go_wp2_with fail
      refine (CF.out _ (HS.out.drewN _)).mono ?_
      rintro e w2 ⟨rfl,h2,g2⟩
      have H2:Hid (RS w2 rb s k lv (numB s j k bad) er at_ dep):=by have:=h2;rw[HE.out] at this;exact this
      have HG2:Hid (w.grownBy w2 (some rb)):=z01 (z01 HG.out (z02 _ _ _)) g2
      clear h2 g2
      go_wp2
      go_ret2
      exact⟨by rw[HRK.out,<-HN0.out];rfl,by rw[HRK.out];exact H2.out,HG2.out⟩
     ·by_cases t6:j+6<k
      ·have HE:Hid (badI bad (j:Int)=numB s j k bad):=by show _=_;unfold numB badI;rw[if_pos hb,if_pos (.inr (.inl t6))]
       have u0:¬(k:Int) - (j:Int)=0:=by omega
       have u1:((k:Int) - (j:Int)==0)=false:=by simp;omega
       have u6:(6:Int)<(k:Int) - (j:Int):=by omega
       go_wp2_with fail
       refine (CF.out _ (HS.out.drewN _)).mono ?_
       rintro e w2 ⟨rfl,h2,g2⟩
       have H2:Hid (RS w2 rb s k lv (numB s j k bad) er at_ dep):=by have:=h2;rw[HE.out] at this;exact this
       have HG2:Hid (w.grownBy w2 (some rb)):=z01 (z01 HG.out (z02 _ _ _)) g2
       clear h2 g2
       go_wp2
       go_ret2
       exact⟨by rw[HRK.out,<-HN0.out];rfl,by rw[HRK.out];exact H2.out,HG2.out⟩
      ·have u0:¬(k:Int) - (j:Int)=0:=by omega
       have u1:((k:Int) - (j:Int)==0)=false:=by simp;omega
       have u6:¬(6:Int)<(k:Int) - (j:Int):=by omega
       by_cases t1:j+1<k
       ·have v1:(1:Int)<(k:Int) - (j:Int):=by omega
        have hjl:j<s.size:=by omega
        have hjl':(j:Int)<(s.size:Int):=by omega
        obtain⟨z,hz⟩:∃z,s[j].toNat=z:=⟨_,rfl⟩
        have hbz:bat s j=z:=by rw[z24 hjl,hz]
        by_cases tz:z=48
        ·have HE:Hid (badI bad (j:Int)=numB s j k bad):=by show _=_;unfold numB badI;rw[if_pos hb,if_pos (.inr (.inr ⟨t1,by rw[hbz];exact tz⟩))]
         subst tz
         clear hbz
         go_wp2_with fail
         refine (CF.out _ (HS.out.drewN _)).mono ?_
         rintro e w2 ⟨rfl,h2,g2⟩
         have H2:Hid (RS w2 rb s k lv (numB s j k bad) er at_ dep):=by have:=h2;rw[HE.out] at this;exact this
         have HG2:Hid (w.grownBy w2 (some rb)):=z01 (z01 HG.out (z02 _ _ _)) g2
         clear h2 g2
         go_wp2
         go_ret2
         exact⟨by rw[HRK.out,<-HN0.out];rfl,by rw[HRK.out];exact H2.out,HG2.out⟩
        ·have HE:Hid (numB s j k bad=bad):=by show _=_;unfold numB;rw[if_neg (by rw[hbz];omega)]
         have ez:((z:Int)==48)=false:=by simp;omega
         clear hbz
         go_wp2
         go_ret2
         exact⟨by rw[HRK.out,<-HN0.out];rfl,by rw[HRK.out,HE.out];exact HS.out.drewN _,z01 HG.out (z02 _ _ _)⟩
       ·have v1:¬(1:Int)<(k:Int) - (j:Int):=by omega
        have HE:Hid (numB s j k bad=bad):=by show _=_;unfold numB;rw[if_neg (by omega)]
        go_wp2
        go_ret2
        exact⟨by rw[HRK.out,<-HN0.out];rfl,by rw[HRK.out,HE.out];exact HS.out.drewN _,z01 HG.out (z02 _ _ _)⟩
    ·have e1:decide ((48:Int)≤(x:Int))=false:=decide_eq_false (by omega)
     clear hgo
     go_wp2_with fail
     go_quiet (fail)
     by_cases t0:k=j
     ·have HE:Hid (badI bad (j:Int)=numB s j k bad):=by show _=_;unfold numB badI;rw[if_pos hb,if_pos (.inl t0)]
      have u0:(k:Int) - (j:Int)=0:=by omega
      go_wp2_with fail
      refine (CF.out _ (HS.out.drewN _)).mono ?_
      rintro e w2 ⟨rfl,h2,g2⟩
      have H2:Hid (RS w2 rb s k lv (numB s j k bad) er at_ dep):=by have:=h2;rw[HE.out] at this;exact this
      have HG2:Hid (w.grownBy w2 (some rb)):=z01 (z01 HG.out (z02 _ _ _)) g2
      clear h2 g2
      go_wp2
      go_ret2
      exact⟨by rw[HRK.out,<-HN0.out];rfl,by rw[HRK.out];exact H2.out,HG2.out⟩
     ·by_cases t6:j+6<k
      ·have HE:Hid (badI bad (j:Int)=numB s j k bad):=by show _=_;unfold numB badI;rw[if_pos hb,if_pos (.inr (.inl t6))]
       have u0:¬(k:Int) - (j:Int)=0:=by omega
       have u1:((k:Int) - (j:Int)==0)=false:=by simp;omega
       have u6:(6:Int)<(k:Int) - (j:Int):=by omega
       go_wp2_with fail
       refine (CF.out _ (HS.out.drewN _)).mono ?_
       rintro e w2 ⟨rfl,h2,g2⟩
       have H2:Hid (RS w2 rb s k lv (numB s j k bad) er at_ dep):=by have:=h2;rw[HE.out] at this;exact this
       have HG2:Hid (w.grownBy w2 (some rb)):=z01 (z01 HG.out (z02 _ _ _)) g2
       clear h2 g2
       go_wp2
       go_ret2
       exact⟨by rw[HRK.out,<-HN0.out];rfl,by rw[HRK.out];exact H2.out,HG2.out⟩
      ·have u0:¬(k:Int) - (j:Int)=0:=by omega
       have u1:((k:Int) - (j:Int)==0)=false:=by simp;omega
       have u6:¬(6:Int)<(k:Int) - (j:Int):=by omega
       by_cases t1:j+1<k
       ·have v1:(1:Int)<(k:Int) - (j:Int):=by omega
        have hjl:j<s.size:=by omega
        have hjl':(j:Int)<(s.size:Int):=by omega
        obtain⟨z,hz⟩:∃z,s[j].toNat=z:=⟨_,rfl⟩
        have hbz:bat s j=z:=by rw[z24 hjl,hz]
        by_cases tz:z=48
        ·have HE:Hid (badI bad (j:Int)=numB s j k bad):=by show _=_;unfold numB badI;rw[if_pos hb,if_pos (.inr (.inr ⟨t1,by rw[hbz];exact tz⟩))]
         subst tz
         clear hbz
         go_wp2_with fail
         refine (CF.out _ (HS.out.drewN _)).mono ?_
         rintro e w2 ⟨rfl,h2,g2⟩
         have H2:Hid (RS w2 rb s k lv (numB s j k bad) er at_ dep):=by have:=h2;rw[HE.out] at this;exact this
         have HG2:Hid (w.grownBy w2 (some rb)):=z01 (z01 HG.out (z02 _ _ _)) g2
         clear h2 g2
         go_wp2
         go_ret2
         exact⟨by rw[HRK.out,<-HN0.out];rfl,by rw[HRK.out];exact H2.out,HG2.out⟩
        ·have HE:Hid (numB s j k bad=bad):=by show _=_;unfold numB;rw[if_neg (by rw[hbz];omega)]
         have ez:((z:Int)==48)=false:=by simp;omega
         clear hbz
         go_wp2
         go_ret2
         exact⟨by rw[HRK.out,<-HN0.out];rfl,by rw[HRK.out,HE.out];exact HS.out.drewN _,z01 HG.out (z02 _ _ _)⟩
       ·have v1:¬(1:Int)<(k:Int) - (j:Int):=by omega
        have HE:Hid (numB s j k bad=bad):=by show _=_;unfold numB;rw[if_neg (by omega)]
        go_wp2
        go_ret2
        exact⟨by rw[HRK.out,<-HN0.out];rfl,by rw[HRK.out,HE.out];exact HS.out.drewN _,z01 HG.out (z02 _ _ _)⟩
   ·have hlt':¬(k:Int)<(s.size:Int):=by omega
    have el:decide ((k:Int)<(s.size:Int))=false:=decide_eq_false hlt'
    clear hgo
    go_wp2_with fail
    go_quiet (fail)
    by_cases t0:k=j
    ·have HE:Hid (badI bad (j:Int)=numB s j k bad):=by show _=_;unfold numB badI;rw[if_pos hb,if_pos (.inl t0)]
     have u0:(k:Int) - (j:Int)=0:=by omega
     go_wp2_with fail
     refine (CF.out _ (HS.out.drewN _)).mono ?_
     rintro e w2 ⟨rfl,h2,g2⟩
     have H2:Hid (RS w2 rb s k lv (numB s j k bad) er at_ dep):=by have:=h2;rw[HE.out] at this;exact this
     have HG2:Hid (w.grownBy w2 (some rb)):=z01 (z01 HG.out (z02 _ _ _)) g2
     clear h2 g2
     go_wp2
     go_ret2
     exact⟨by rw[HRK.out,<-HN0.out];rfl,by rw[HRK.out];exact H2.out,HG2.out⟩
    ·by_cases t6:j+6<k
     ·have HE:Hid (badI bad (j:Int)=numB s j k bad):=by show _=_;unfold numB badI;rw[if_pos hb,if_pos (.inr (.inl t6))]
      have u0:¬(k:Int) - (j:Int)=0:=by omega
      have u1:((k:Int) - (j:Int)==0)=false:=by simp;omega
      have u6:(6:Int)<(k:Int) - (j:Int):=by omega
      go_wp2_with fail
      refine (CF.out _ (HS.out.drewN _)).mono ?_
      rintro e w2 ⟨rfl,h2,g2⟩
      have H2:Hid (RS w2 rb s k lv (numB s j k bad) er at_ dep):=by have:=h2;rw[HE.out] at this;exact this
      have HG2:Hid (w.grownBy w2 (some rb)):=z01 (z01 HG.out (z02 _ _ _)) g2
      clear h2 g2
      go_wp2
      go_ret2
      exact⟨by rw[HRK.out,<-HN0.out];rfl,by rw[HRK.out];exact H2.out,HG2.out⟩
     ·have u0:¬(k:Int) - (j:Int)=0:=by omega
      have u1:((k:Int) - (j:Int)==0)=false:=by simp;omega
      have u6:¬(6:Int)<(k:Int) - (j:Int):=by omega
      by_cases t1:j+1<k
      ·have v1:(1:Int)<(k:Int) - (j:Int):=by omega
       have hjl:j<s.size:=by omega
       have hjl':(j:Int)<(s.size:Int):=by omega
       obtain⟨z,hz⟩:∃z,s[j].toNat=z:=⟨_,rfl⟩
       have hbz:bat s j=z:=by rw[z24 hjl,hz]
       by_cases tz:z=48
       ·have HE:Hid (badI bad (j:Int)=numB s j k bad):=by show _=_;unfold numB badI;rw[if_pos hb,if_pos (.inr (.inr ⟨t1,by rw[hbz];exact tz⟩))]
        subst tz
        clear hbz
        go_wp2_with fail
        refine (CF.out _ (HS.out.drewN _)).mono ?_
        rintro e w2 ⟨rfl,h2,g2⟩
        have H2:Hid (RS w2 rb s k lv (numB s j k bad) er at_ dep):=by have:=h2;rw[HE.out] at this;exact this
        have HG2:Hid (w.grownBy w2 (some rb)):=z01 (z01 HG.out (z02 _ _ _)) g2
        clear h2 g2
        go_wp2
        go_ret2
        exact⟨by rw[HRK.out,<-HN0.out];rfl,by rw[HRK.out];exact H2.out,HG2.out⟩
       ·have HE:Hid (numB s j k bad=bad):=by show _=_;unfold numB;rw[if_neg (by rw[hbz];omega)]
        have ez:((z:Int)==48)=false:=by simp;omega
        clear hbz
        go_wp2
        go_ret2
        exact⟨by rw[HRK.out,<-HN0.out];rfl,by rw[HRK.out,HE.out];exact HS.out.drewN _,z01 HG.out (z02 _ _ _)⟩
      ·have v1:¬(1:Int)<(k:Int) - (j:Int):=by omega
       have HE:Hid (numB s j k bad=bad):=by show _=_;unfold numB;rw[if_neg (by omega)]
       go_wp2
       go_ret2
       exact⟨by rw[HRK.out,<-HN0.out];rfl,by rw[HRK.out,HE.out];exact HS.out.drewN _,z01 HG.out (z02 _ _ _)⟩
end
section
open Go.RowKit
theorem zoi(xs:List Int)(hx:∀x∈xs,0≤x∧x<256)(w:World) :
 (convert 151 9 (.slice (some ⟨w.heap.size,0,none⟩) xs.length xs.length)).run Tryz.prog (w.alloc (.cells (xs.map (Value.int .u8)).toArray 5)) =
  .ok (.string ⟨(xs.map fun x=>x.toNat.toUInt8).toArray⟩) (w.alloc (.cells (xs.map (Value.int .u8)).toArray 5)):=by
 have h:=run_convert_bytes_back (P:=Tryz.prog) (w.alloc (.cells (xs.map (Value.int .u8)).toArray 5)) 151 9 5 ⟨w.heap.size,0,none⟩ xs.length (xs.map fun x=>x.toNat.toUInt8) Tryz.underlying151 Tryz.underlying5 Tryz.underlying9 (by
  intro j hj
  simp only[List.length_map] at hj
  have e:(⟨w.heap.size,0,none⟩:Addr).add j=⟨w.heap.size,j,none⟩:=by unfold Addr.add;split <;> simp_all
  rw[e,World.cell?_alloc_mark]
  have hb:=hx xs[j] (List.getElem_mem hj)
  simp[hj]
  omega)
 simpa using h
theorem zty(a:Int)(ha:0≤a∧a<256)(w:World) :
 (convert 151 9 (.slice (some ⟨w.heap.size,0,none⟩) 1 1)).run Tryz.prog (w.alloc (.cells #[.int .u8 a] 5))=.ok (.string ⟨#[a.toNat.toUInt8]⟩) (w.alloc (.cells #[.int .u8 a] 5)) :=
 zoi [a] (by simpa using ha) w
theorem zro(a:Int)(ha:0≤a∧a<256)(w:World)(rb:Nat)(z:Int):∀q,(convert 151 9 (.slice (some ⟨w.heap.size,0,none⟩) 1 1)).run Tryz.prog (((w.drewN q).setCell ⟨rb,1,none⟩ (.int .i64 z)).alloc (.cells #[.int .u8 a] 5))=.ok (.string ⟨#[a.toNat.toUInt8]⟩) (((w.drewN q).setCell ⟨rb,1,none⟩ (.int .i64 z)).alloc (.cells #[.int .u8 a] 5)):=fun q=>by
 have:=zty a ha ((w.drewN q).setCell ⟨rb,1,none⟩ (.int .i64 z))
 have e:((w.drewN q).setCell ⟨rb,1,none⟩ (.int .i64 z)).heap.size=w.heap.size:=by simp
 rw[e] at this;exact this
theorem zbh(a:Int)(ha:0≤a∧a<256)(w:World)(rb:Nat)(z y:Int):∀q q',(convert 151 9 (.slice (some ⟨w.heap.size,0,none⟩) 1 1)).run Tryz.prog (((((w.drewN q).setCell ⟨rb,1,none⟩ (.int .i64 z)).drewN q').setCell ⟨rb,1,none⟩ (.int .i64 y)).alloc (.cells #[.int .u8 a] 5))=.ok (.string ⟨#[a.toNat.toUInt8]⟩) (((((w.drewN q).setCell ⟨rb,1,none⟩ (.int .i64 z)).drewN q').setCell ⟨rb,1,none⟩ (.int .i64 y)).alloc (.cells #[.int .u8 a] 5)):=fun q q'=>by
 have:=zty a ha ((((w.drewN q).setCell ⟨rb,1,none⟩ (.int .i64 z)).drewN q').setCell ⟨rb,1,none⟩ (.int .i64 y))
 have e:((((w.drewN q).setCell ⟨rb,1,none⟩ (.int .i64 z)).drewN q').setCell ⟨rb,1,none⟩ (.int .i64 y)).heap.size=w.heap.size:=by simp
 rw[e] at this;exact this
def qF(s:ByteArray):Nat->Nat->List UInt8->Except Nat (Nat×List UInt8)
 | 0,p,_=>.error p
 | f+1,p,acc =>
  if bat s p=256 then .error p
  else if bat s p=34 then .ok (p+1,acc)
  else if bat s p=92 then
   if bat s (p+1)=34∨bat s (p+1)=92 then qF s f (p+2) (acc++[(bat s (p+1)).toUInt8])
   else if bat s (p+1)=110 then qF s f (p+2) (acc++[10])
   else .error (p+1)
  else qF s f (p+1) (acc++[(bat s p).toUInt8])
def quoR(s:ByteArray)(i:Nat):Except Nat (Nat×List UInt8):=if isAt s i 34 then qF s (s.size+2) (gotI s i 34) [] else .error (sk s i)
def QOut(w w':World)(e:Ending)(rb:Nat)(s:ByteArray)(lv:Value)(bad er at_ dep:Int)(r:Except Nat (Nat×List UInt8)):Prop :=
 w.grownBy w' (some rb)∧match r with
  | .ok (p,t)=>e=.returned (.string ⟨t.toArray⟩)∧RS w' rb s p lv bad er at_ dep
  | .error b=>e=.returned (.string ByteArray.empty)∧∃p,p≤s.size∧RS w' rb s p lv (b:Int) er at_ dep
theorem zj2(rb:Nat)(s:ByteArray)(i:Nat)(lv:Value)(bad er at_ dep:Int)(w:World)(h:RS w rb s i lv bad er at_ dep)(hs:s.size≤1073741824)(hi:i≤s.size)(hb:bad<0) :
 Calls Tryz.prog 54 #[.pointer (some ⟨rb,0,none⟩)] w fun e w'=>QOut w w' e rb s lv bad er at_ dep (quoR s i):=by
 have CM:Hid (Calls Tryz.prog 53 #[.pointer (some ⟨rb,0,none⟩),.int .u8 34] w fun e w'=>e=.returned (.tuple #[])∧RS w' rb s (gotI s i 34) lv (z5p s i 34 bad) er at_ dep∧w.grownBy w' (some rb)):=zgz rb s i lv bad er at_ dep 34 w h (by omega) hi (by omega) hb
 clear h
 by_cases hia:isAt s i 34=true
 ·have hmb:z5p s i 34 bad=bad:=by unfold z5p;rw[if_pos hia]
  have HQ:Hid (quoR s i=qF s (s.size+2) (gotI s i 34) []):=by show _=_;unfold quoR;rw[if_pos hia]
  have hgs:gotI s i 34≤s.size:=by
   unfold isAt at hia
   have e:bat s (sk s i)=34:=by simpa using hia
   unfold gotI;rw[if_pos e]
   by_cases c:sk s i<s.size
   ·omega
   ·rw[z1z c] at e;omega
  obtain⟨j,hj⟩:∃j,gotI s i 34=j:=⟨_,rfl⟩
  rw[hmb,hj] at CM
  rw[hj] at HQ hgs
  clear hmb hj hia
  go_enter Tryz.func54,Tryz.ntmps54
  go_wp2_with fail
  refine CM.out.mono ?_
  rintro e w1 ⟨rfl,h1,g1⟩
  have HR:Hid (RS w1 rb s j lv bad er at_ dep):=h1
  have HG1:Hid (w.grownBy w1 (some rb)):=g1
  clear h1 g1 CM
  go_wp2
  go_loopw [3,7] (fun v _ wr=>∃ (k f:Nat) (Y:Array UInt8),v=.string ⟨Y⟩∧k≤s.size∧Y.size≤k∧s.size<k+f∧Hid (qF s f k Y.toList=quoR s i)∧Hid (RS wr rb s k lv bad er at_ dep)∧Hid (w.grownBy wr (some rb))) (fun _ _ wr=>s.size - rdI wr rb)
  case atStart=>exact⟨j,s.size+2,#[],rfl,hgs,by simp,by omega,by rw[HQ.out];rfl,HR.out,HG1.out⟩
  case round =>
   obtain⟨k,f,Y,rfl,hk,hY,hf,HF,HS,HG⟩:=hrel
   have hs1:=HS.out
   have c0:=hs1.c0
   have c1:=hs1.c1
   have c3:=hs1.c3
   have f1:=hs1.fz 1
   have HRD:Hid (rdI wr rb=k):=hs1.rdI
   have CF:Hid (∀ (g:Nat) W,RS W rb s g lv bad er at_ dep->Calls Tryz.prog 26 #[.pointer (some ⟨rb,0,none⟩),.int .i64 (g:Int)] W fun e w'=>e=.returned (.tuple #[])∧RS w' rb s g lv (badI bad g) er at_ dep∧W.grownBy w' (some rb)):=fun g W h=>z2p rb s g lv bad er at_ dep g W h
   have HBI:Hid (∀a,badI bad a=a):=fun a=>by unfold badI;rw[if_pos hb]
   obtain⟨f,rfl⟩:∃f',f=f'+1:=⟨f - 1,by omega⟩
   clear hs1
   by_cases hlt:k<s.size
   ·have hlt':(k:Int)<(s.size:Int):=by omega
    have hlt2:¬(s.size:Int)≤(k:Int):=by omega
    obtain⟨x,hx⟩:∃x,s[k].toNat=x:=⟨_,rfl⟩
    have hbx:bat s k=x:=by rw[z24 hlt,hx]
    have hx256:x<256:=by rw[<-hbx];exact zg4 hlt
    have HF1:Hid (quoR s i=if x=34 then .ok (k+1,Y.toList) else if x=92 then (if bat s (k+1)=34∨bat s (k+1)=92 then qF s f (k+2) (Y.toList++[(bat s (k+1)).toUInt8]) else if bat s (k+1)=110 then qF s f (k+2) (Y.toList++[10]) else .error (k+1)) else qF s f (k+1) (Y.toList++[x.toUInt8])):=by
     show _=_
     rw[<-HF.out,qF,hbx,if_neg (by omega)]
    clear HF hbx
    by_cases q34:x=34
    ·have HE:Hid (quoR s i=.ok (k+1,Y.toList)):=by show _=_;rw[HF1.out,if_pos q34]
     have HN:Hid (∀q,RS ((wr.drewN q).setCell ⟨rb,1,none⟩ (.int .i64 ((k:Int)+1))) rb s (k+1) lv bad er at_ dep):=fun q=>by
      have:=(HS.out.drewN q).setI (k+1)
      rw[show ((k+1:Nat):Int)=(k:Int)+1 by omega] at this;exact this
     subst q34
     clear HF1 HS
     go_wp2_with fail
     go_quiet (fail)
     go_wp2_with fail
     go_quiet (fail)
     go_wp2
     go_ret
     exact⟨z01 (z01 HG.out (z02 _ _ _)) (z0q _ _ _ _),by rw[HE.out];exact⟨rfl,HN.out _⟩⟩
    ·by_cases q92:x=92
     ·rw[if_neg q34,if_pos q92] at HF1
      have HN1:Hid (∀q,RS ((wr.drewN q).setCell ⟨rb,1,none⟩ (.int .i64 ((k:Int)+1))) rb s (k+1) lv bad er at_ dep):=fun q=>by
       have:=(HS.out.drewN q).setI (k+1)
       rw[show ((k+1:Nat):Int)=(k:Int)+1 by omega] at this;exact this
      subst q92
      have CF1:Hid (∀W,RS W rb s (k+1) lv bad er at_ dep->Calls Tryz.prog 26 #[.pointer (some ⟨rb,0,none⟩),.int .i64 ((k:Int)+1)] W fun e w'=>e=.returned (.tuple #[])∧RS w' rb s (k+1) lv (badI bad ((k:Int)+1)) er at_ dep∧W.grownBy w' (some rb)):=fun W h=>by have:=CF.out (k+1) W h;rw[show ((k+1:Nat):Int)=(k:Int)+1 by omega] at this;exact this
      by_cases hlt2:k+1<s.size
      ·have hlt3:(k:Int)+1<(s.size:Int):=by omega
       have hgd:decide ((s.size:Int)≤(k:Int)+1)=false:=decide_eq_false (by omega)
       obtain⟨y,hy⟩:∃y,s[k+1].toNat=y:=⟨_,rfl⟩
       have hby:bat s (k+1)=y:=by rw[z24 hlt2,hy]
       have hy256:y<256:=by rw[<-hby];exact zg4 hlt2
       rw[hby] at HF1
       clear hby
       by_cases ok:y=34∨y=92∨y=110
       ·have HN2:Hid (∀q q',RS ((((wr.drewN q).setCell ⟨rb,1,none⟩ (.int .i64 ((k:Int)+1))).drewN q').setCell ⟨rb,1,none⟩ (.int .i64 ((k:Int)+1+1))) rb s (k+2) lv bad er at_ dep):=fun q q'=>by
         have:=((HN1.out q).drewN q').setI (k+2)
         rw[show ((k+2:Nat):Int)=(k:Int)+1+1 by omega] at this;exact this
        rcases ok with ok|ok|ok
        ·have HF2:Hid (qF s f (k+2) (Y.toList++[34])=quoR s i):=by show _=_;rw[HF1.out,if_pos (.inl ok),ok];rfl
         subst ok
         have hcv:=zbh 34 (by omega) wr rb ((k:Int)+1) ((k:Int)+1+1)
         clear HF1 HS
         go_wp2_with fail
         go_quiet (fail)
         go_wp2_with fail
         go_quiet (fail)
         go_wp2_with fail
         go_quiet (fail)
         go_wp2_with fail
         go_quiet (fail)
         go_wp2
         go_roundw
         case rel=>exact⟨k+2,f,_,rfl,by omega,by simp;omega,by omega,by show _=_;rw[<-HF2.out],(HN2.out _ _).below ((Below.refl _ _).alloc (Nat.le_refl _) _),z01 (z01 (z01 (z01 (z01 HG.out (z02 _ _ _)) (z0q _ _ _ _)) (z02 _ _ _)) (z0q _ _ _ _)) (z1o ((Below.refl _ _).alloc (Nat.le_refl _) _))⟩
         case measure=>rw[((HN2.out _ _).below ((Below.refl _ _).alloc (Nat.le_refl _) _)).rdI,HRD.out];omega
        ·have HF2:Hid (qF s f (k+2) (Y.toList++[92])=quoR s i):=by show _=_;rw[HF1.out,if_pos (.inr ok),ok];rfl
         subst ok
         have hcv:=zbh 92 (by omega) wr rb ((k:Int)+1) ((k:Int)+1+1)
         clear HF1 HS
         go_wp2_with fail
         go_quiet (fail)
         go_wp2_with fail
         go_quiet (fail)
         go_wp2_with fail
         go_quiet (fail)
         go_wp2_with fail
         go_quiet (fail)
         go_wp2
         go_roundw
         case rel=>exact⟨k+2,f,_,rfl,by omega,by simp;omega,by omega,by show _=_;rw[<-HF2.out],(HN2.out _ _).below ((Below.refl _ _).alloc (Nat.le_refl _) _),z01 (z01 (z01 (z01 (z01 HG.out (z02 _ _ _)) (z0q _ _ _ _)) (z02 _ _ _)) (z0q _ _ _ _)) (z1o ((Below.refl _ _).alloc (Nat.le_refl _) _))⟩
         case measure=>rw[((HN2.out _ _).below ((Below.refl _ _).alloc (Nat.le_refl _) _)).rdI,HRD.out];omega
        ·have HF2:Hid (qF s f (k+2) (Y.toList++[10])=quoR s i):=by show _=_;rw[HF1.out,if_neg (by omega),if_pos ok]
         subst ok
         have hcv:=zbh 10 (by omega) wr rb ((k:Int)+1) ((k:Int)+1+1)
         clear HF1 HS
         go_wp2_with fail
         go_quiet (fail)
         go_wp2_with fail
         go_quiet (fail)
         go_wp2_with fail
         go_quiet (fail)
         go_wp2_with fail
         go_quiet (fail)
         go_wp2
         go_roundw
         case rel=>exact⟨k+2,f,_,rfl,by omega,by simp;omega,by omega,by show _=_;rw[<-HF2.out],(HN2.out _ _).below ((Below.refl _ _).alloc (Nat.le_refl _) _),z01 (z01 (z01 (z01 (z01 HG.out (z02 _ _ _)) (z0q _ _ _ _)) (z02 _ _ _)) (z0q _ _ _ _)) (z1o ((Below.refl _ _).alloc (Nat.le_refl _) _))⟩
         case measure=>rw[((HN2.out _ _).below ((Below.refl _ _).alloc (Nat.le_refl _) _)).rdI,HRD.out];omega
       ·have e1:((y:Int) != 34)=true:=by simp;omega
        have e2:((y:Int) != 92)=true:=by simp;omega
        have e3:((y:Int) != 110)=true:=by simp;omega
        have HE:Hid (quoR s i=.error (k+1)):=by show _=_;rw[HF1.out,if_neg (by omega),if_neg (by omega)]
        clear HF1 HS ok
        go_wp2_with fail
        go_quiet (fail)
        go_wp2_with fail
        go_quiet (fail)
        go_wp2_with fail
        go_quiet (fail)
        go_wp2_with fail
        refine (CF1.out _ (by first|exact HN1.out _|exact (HN1.out _).drewN _)).mono ?_
        rintro e w2 ⟨rfl,h2,g2⟩
        have H2:Hid (RS w2 rb s (k+1) lv ((k+1:Nat):Int) er at_ dep):=by have:=h2;rw[HBI.out] at this;rw[show ((k+1:Nat):Int)=(k:Int)+1 by omega];exact this
        have HG2:Hid (w.grownBy w2 (some rb)):=by first|exact z01 (z01 (z01 HG.out (z02 _ _ _)) (z0q _ _ _ _)) g2|exact z01 (z01 (z01 (z01 HG.out (z02 _ _ _)) (z0q _ _ _ _)) (z02 _ _ _)) g2
        clear h2 g2
        go_wp2
        go_ret
        exact⟨HG2.out,by rw[HE.out];exact⟨rfl,k+1,by omega,H2.out⟩⟩
      ·have hge:(s.size:Int)≤(k:Int)+1:=by omega
       have hgd:decide ((s.size:Int)≤(k:Int)+1)=true:=decide_eq_true hge
       have HE:Hid (quoR s i=.error (k+1)):=by show _=_;rw[HF1.out,z1z hlt2,if_neg (by omega),if_neg (by omega)]
       clear HF1 HS
       go_wp2_with fail
       go_quiet (fail)
       go_wp2_with fail
       go_quiet (fail)
       go_wp2_with fail
       go_quiet (fail)
       go_wp2_with fail
       refine (CF1.out _ (by first|exact HN1.out _|exact (HN1.out _).drewN _)).mono ?_
       rintro e w2 ⟨rfl,h2,g2⟩
       have H2:Hid (RS w2 rb s (k+1) lv ((k+1:Nat):Int) er at_ dep):=by have:=h2;rw[HBI.out] at this;rw[show ((k+1:Nat):Int)=(k:Int)+1 by omega];exact this
       have HG2:Hid (w.grownBy w2 (some rb)):=by first|exact z01 (z01 (z01 HG.out (z02 _ _ _)) (z0q _ _ _ _)) g2|exact z01 (z01 (z01 (z01 HG.out (z02 _ _ _)) (z0q _ _ _ _)) (z02 _ _ _)) g2
       clear h2 g2
       go_wp2
       go_ret
       exact⟨HG2.out,by rw[HE.out];exact⟨rfl,k+1,by omega,H2.out⟩⟩
     ·have HF2:Hid (qF s f (k+1) (Y.toList++[x.toUInt8])=quoR s i):=by show _=_;rw[HF1.out,if_neg q34,if_neg q92]
      have HN:Hid (∀q,RS ((wr.drewN q).setCell ⟨rb,1,none⟩ (.int .i64 ((k:Int)+1))) rb s (k+1) lv bad er at_ dep):=fun q=>by
       have:=(HS.out.drewN q).setI (k+1)
       rw[show ((k+1:Nat):Int)=(k:Int)+1 by omega] at this;exact this
      have e1:((x:Int)==34)=false:=by simp;omega
      have e2:((x:Int)==92)=false:=by simp;omega
      have hcv:=zro (x:Int) ⟨by omega,by omega⟩ wr rb ((k:Int)+1)
      have hxx:((x:Int).toNat).toUInt8=x.toUInt8:=by simp
      rw[hxx] at hcv
      clear hxx
      clear HF1 HS
      go_wp2_with fail
      go_quiet (fail)
      go_wp2_with fail
      go_quiet (fail)
      go_wp2
      go_roundw
      case rel=>exact⟨k+1,f,_,rfl,by omega,by simp;omega,by omega,by show _=_;rw[<-HF2.out],(HN.out _).below ((Below.refl _ _).alloc (Nat.le_refl _) _),z01 (z01 (z01 HG.out (z02 _ _ _)) (z0q _ _ _ _)) (z1o ((Below.refl _ _).alloc (Nat.le_refl _) _))⟩
      case measure=>rw[((HN.out _).below ((Below.refl _ _).alloc (Nat.le_refl _) _)).rdI,HRD.out];omega
   ·have hge:(s.size:Int)≤(k:Int):=by omega
    have HE:Hid (quoR s i=.error k):=by show _=_;rw[<-HF.out,qF,if_pos (z1z hlt)]
    clear HF
    go_wp2_with fail
    go_quiet (fail)
    go_wp2_with fail
    refine (CF.out k _ (HS.out.drewN _)).mono ?_
    rintro e w2 ⟨rfl,h2,g2⟩
    have H2:Hid (RS w2 rb s k lv (k:Int) er at_ dep):=by have:=h2;rw[HBI.out] at this;exact this
    have HG2:Hid (w.grownBy w2 (some rb)):=z01 (z01 HG.out (z02 _ _ _)) g2
    clear h2 g2
    go_wp2
    go_ret
    exact⟨HG2.out,by rw[HE.out];exact⟨rfl,k,hk,H2.out⟩⟩
 ·have hmb:z5p s i 34 bad=(sk s i:Int):=by unfold z5p;rw[if_neg hia]
  have HQ:Hid (quoR s i=.error (sk s i)):=by show _=_;unfold quoR;rw[if_neg hia]
  have hgs:gotI s i 34≤s.size:=by
   unfold isAt at hia
   unfold gotI;rw[if_neg (by simpa using hia)];exact z2w s i hi
  rw[hmb] at CM
  obtain⟨j,hj⟩:∃j,gotI s i 34=j:=⟨_,rfl⟩
  obtain⟨b,hbe⟩:∃b:Int,(sk s i:Int)=b:=⟨_,rfl⟩
  have HBE:Hid ((sk s i:Int)=b):=hbe
  have hb0:¬b<0:=by omega
  rw[hj,hbe] at CM
  rw[hj] at hgs
  clear hmb hj hia hbe
  go_enter Tryz.func54,Tryz.ntmps54
  go_wp2_with fail
  refine CM.out.mono ?_
  rintro e w1 ⟨rfl,h1,g1⟩
  have HR:Hid (RS w1 rb s j lv b er at_ dep):=h1
  have HG1:Hid (w.grownBy w1 (some rb)):=g1
  have c3:=h1.c3
  clear h1 g1 CM
  go_wp2
  go_loopw [3,7] (fun v _ wr=>v=.string ByteArray.empty∧wr=w1) (fun _ _ _=>0)
  case atStart=>exact⟨rfl,rfl⟩
  case round =>
   obtain⟨rfl,hw⟩:=hrel
   obtain rfl:=hw.symm
   go_wp2
   go_ret
   exact⟨HG1.out,by rw[HQ.out];exact⟨rfl,j,hgs,by rw[HBE.out];exact HR.out⟩⟩
end
section
open Go.RowKit
def z0z:List ByteArray:=[⟨#[114,111,119]⟩,⟨#[99,111,108]⟩,⟨#[115,116,97,99,107]⟩,⟨#[98,111,120]⟩,⟨#[115,99,114,111,108,108]⟩,⟨#[116,101,120,116]⟩,⟨#[103,97,112]⟩]
theorem zdp(w:World):Calls Tryz.prog 49 #[] w fun e w'=>e=.returned (.slice (some ⟨w.heap.size,0,none⟩) 7 7)∧(∀j,j<7->w'.cell? ⟨w.heap.size,0+j,none⟩=some (.string (z0z[j]?.getD ByteArray.empty)))∧w.heap.size<w'.heap.size∧Below w.heap.size w w':=by
 have HC:Hid (∀j,j<7->(w.alloc (.cells #[.string ⟨#[114,111,119]⟩,.string ⟨#[99,111,108]⟩,.string ⟨#[115,116,97,99,107]⟩,.string ⟨#[98,111,120]⟩,.string ⟨#[115,99,114,111,108,108]⟩,.string ⟨#[116,101,120,116]⟩,.string ⟨#[103,97,112]⟩] 9)).cell? ⟨w.heap.size,0+j,none⟩=some (.string (z0z[j]?.getD ByteArray.empty))):=fun j hj=>by
  rw[Nat.zero_add,World.cell?_alloc_at _ _ _ _ rfl]
  match j,hj with
  | 0,_=>rfl
  | 1,_=>rfl
  | 2,_=>rfl
  | 3,_=>rfl
  | 4,_=>rfl
  | 5,_=>rfl
  | 6,_=>rfl
 go_enter Tryz.func49,Tryz.ntmps49
 go_wp2
 go_ret
 exact⟨rfl,HC.out,by simp,(Below.refl _ _).alloc (Nat.le_refl _) _⟩
def z16:List ByteArray:=[⟨#[105,100]⟩,⟨#[109,105,110]⟩,⟨#[109,97,120]⟩,⟨#[119,101,105,103,104,116]⟩,⟨#[103,97,112]⟩,⟨#[112,97,100]⟩,⟨#[98,111,114,100,101,114]⟩,⟨#[97,108,105,103,110]⟩,⟨#[119,114,97,112]⟩,⟨#[102,103]⟩,⟨#[98,103]⟩,⟨#[98,111,108,100]⟩]
theorem zm6(w:World):Calls Tryz.prog 84 #[] w fun e w'=>e=.returned (.slice (some ⟨w.heap.size,0,none⟩) 12 12)∧(∀j,j<12->w'.cell? ⟨w.heap.size,0+j,none⟩=some (.string (z16[j]?.getD ByteArray.empty)))∧w.heap.size<w'.heap.size∧Below w.heap.size w w':=by
 have HC:Hid (∀j,j<12->(w.alloc (.cells #[.string ⟨#[105,100]⟩,.string ⟨#[109,105,110]⟩,.string ⟨#[109,97,120]⟩,.string ⟨#[119,101,105,103,104,116]⟩,.string ⟨#[103,97,112]⟩,.string ⟨#[112,97,100]⟩,.string ⟨#[98,111,114,100,101,114]⟩,.string ⟨#[97,108,105,103,110]⟩,.string ⟨#[119,114,97,112]⟩,.string ⟨#[102,103]⟩,.string ⟨#[98,103]⟩,.string ⟨#[98,111,108,100]⟩] 9)).cell? ⟨w.heap.size,0+j,none⟩=some (.string (z16[j]?.getD ByteArray.empty))):=fun j hj=>by
  rw[Nat.zero_add,World.cell?_alloc_at _ _ _ _ rfl]
  match j,hj with
  | 0,_=>rfl
  | 1,_=>rfl
  | 2,_=>rfl
  | 3,_=>rfl
  | 4,_=>rfl
  | 5,_=>rfl
  | 6,_=>rfl
  | 7,_=>rfl
  | 8,_=>rfl
  | 9,_=>rfl
  | 10,_=>rfl
  | 11,_=>rfl
 go_enter Tryz.func84,Tryz.ntmps84
 go_wp2
 go_ret
 exact⟨rfl,HC.out,by simp,(Below.refl _ _).alloc (Nat.le_refl _) _⟩
def z63:List Int:=[999999,100000,100000,100000,100,20,1,2,1,8,8,1]
theorem zpf(w:World):Calls Tryz.prog 86 #[] w fun e w'=>e=.returned (.slice (some ⟨w.heap.size,0,none⟩) 12 12)∧(∀j,j<12->w'.cell? ⟨w.heap.size,0+j,none⟩=some (.int .i64 (z63[j]?.getD 0))∧w'.frozen? ⟨w.heap.size,0+j,none⟩=false)∧w.heap.size<w'.heap.size∧Below w.heap.size w w':=by
 have HC:Hid (∀j,j<12->(w.alloc (.cells #[.int .i64 (999999),.int .i64 (100000),.int .i64 (100000),.int .i64 (100000),.int .i64 (100),.int .i64 (20),.int .i64 (1),.int .i64 (2),.int .i64 (1),.int .i64 (8),.int .i64 (8),.int .i64 (1)] 3)).cell? ⟨w.heap.size,0+j,none⟩=some (.int .i64 (z63[j]?.getD 0))∧(w.alloc (.cells #[.int .i64 (999999),.int .i64 (100000),.int .i64 (100000),.int .i64 (100000),.int .i64 (100),.int .i64 (20),.int .i64 (1),.int .i64 (2),.int .i64 (1),.int .i64 (8),.int .i64 (8),.int .i64 (1)] 3)).frozen? ⟨w.heap.size,0+j,none⟩=false):=fun j hj=>by
  rw[Nat.zero_add,World.cell?_alloc_at _ _ _ _ rfl,World.frozen?_alloc_at _ _ _ _ rfl]
  match j,hj with
  | 0,_=>exact⟨rfl,rfl⟩
  | 1,_=>exact⟨rfl,rfl⟩
  | 2,_=>exact⟨rfl,rfl⟩
  | 3,_=>exact⟨rfl,rfl⟩
  | 4,_=>exact⟨rfl,rfl⟩
  | 5,_=>exact⟨rfl,rfl⟩
  | 6,_=>exact⟨rfl,rfl⟩
  | 7,_=>exact⟨rfl,rfl⟩
  | 8,_=>exact⟨rfl,rfl⟩
  | 9,_=>exact⟨rfl,rfl⟩
  | 10,_=>exact⟨rfl,rfl⟩
  | 11,_=>exact⟨rfl,rfl⟩
 go_enter Tryz.func86,Tryz.ntmps86
 go_wp2
 go_ret
 exact⟨rfl,HC.out,by simp,(Below.refl _ _).alloc (Nat.le_refl _) _⟩
def z0c:List Int:=[0,0,-1,1,0,0,1,0,1,0,0,0]
theorem zfx(w:World):Calls Tryz.prog 81 #[] w fun e w'=>e=.returned (.slice (some ⟨w.heap.size,0,none⟩) 12 12)∧(∀j,j<12->w'.cell? ⟨w.heap.size,0+j,none⟩=some (.int .i64 (z0c[j]?.getD 0))∧w'.frozen? ⟨w.heap.size,0+j,none⟩=false)∧w.heap.size<w'.heap.size∧Below w.heap.size w w':=by
 have HC:Hid (∀j,j<12->(w.alloc (.cells #[.int .i64 (0),.int .i64 (0),.int .i64 (-1),.int .i64 (1),.int .i64 (0),.int .i64 (0),.int .i64 (1),.int .i64 (0),.int .i64 (1),.int .i64 (0),.int .i64 (0),.int .i64 (0)] 3)).cell? ⟨w.heap.size,0+j,none⟩=some (.int .i64 (z0c[j]?.getD 0))∧(w.alloc (.cells #[.int .i64 (0),.int .i64 (0),.int .i64 (-1),.int .i64 (1),.int .i64 (0),.int .i64 (0),.int .i64 (1),.int .i64 (0),.int .i64 (1),.int .i64 (0),.int .i64 (0),.int .i64 (0)] 3)).frozen? ⟨w.heap.size,0+j,none⟩=false):=fun j hj=>by
  rw[Nat.zero_add,World.cell?_alloc_at _ _ _ _ rfl,World.frozen?_alloc_at _ _ _ _ rfl]
  match j,hj with
  | 0,_=>exact⟨rfl,rfl⟩
  | 1,_=>exact⟨rfl,rfl⟩
  | 2,_=>exact⟨rfl,rfl⟩
  | 3,_=>exact⟨rfl,rfl⟩
  | 4,_=>exact⟨rfl,rfl⟩
  | 5,_=>exact⟨rfl,rfl⟩
  | 6,_=>exact⟨rfl,rfl⟩
  | 7,_=>exact⟨rfl,rfl⟩
  | 8,_=>exact⟨rfl,rfl⟩
  | 9,_=>exact⟨rfl,rfl⟩
  | 10,_=>exact⟨rfl,rfl⟩
  | 11,_=>exact⟨rfl,rfl⟩
 go_enter Tryz.func81,Tryz.ntmps81
 go_wp2
 go_ret
 exact⟨rfl,HC.out,by simp,(Below.refl _ _).alloc (Nat.le_refl _) _⟩
def z4g(kind attr:Nat):Bool:=if attr=4 then (kind==0 || kind==1) else if attr=5∨attr=6 then kind==3 else if attr=7∨attr=8 then kind==5 else true
theorem zh8(kind attr:Nat)(hk:kind<7)(ha:attr<12)(w:World):Calls Tryz.prog 85 #[.int .i64 (kind:Int),.int .i64 (attr:Int)] w fun e w'=>e=.returned (.bool (z4g kind attr))∧w'=w:=by
 obtain⟨r,hr⟩:∃r,z4g kind attr=r:=⟨_,rfl⟩
 rw[hr]
 have HK:kind=0∨kind=1∨kind=2∨kind=3∨kind=4∨kind=5∨kind=6:=by omega
 have HA:attr=0∨attr=1∨attr=2∨attr=3∨attr=4∨attr=5∨attr=6∨attr=7∨attr=8∨attr=9∨attr=10∨attr=11:=by omega
 rcases HA with rfl|rfl|rfl|rfl|rfl|rfl|rfl|rfl|rfl|rfl|rfl|rfl <;> rcases HK with rfl|rfl|rfl|rfl|rfl|rfl|rfl <;>
  (simp[z4g] at hr;subst hr;go_enter Tryz.func85,Tryz.ntmps85;go_wp2;go_ret;exact⟨rfl,rfl⟩)
end
section
structure Nd where
 kind:Nat
 attr:List Int
 text:List UInt8
 kids:List Nat
 up:Int
abbrev Flt:=Option (Nat×Nat)
def addF(f:Flt)(c p:Nat):Flt:=match f with
 | none=>some (c,p)
 | some x=>some x
def z0l(b:Bool)(f:Flt)(c p:Nat):Flt:=if b then addF f c p else f
structure PS where
 i:Nat
 L:List Nd
 er:Flt
def z19(s:ByteArray)(i c:Nat):Except Nat Nat:=if isAt s i c then .ok (gotI s i c) else .error (sk s i)
def z6w(s:ByteArray)(j k:Nat):Bool:=decide (k=j∨j+6<k∨(j+1<k∧bat s j=48))
def z29(L:List Nd)(n:Int):Bool:=L.any fun d=>d.attr[0]?.getD 0==n
def z5x(s:ByteArray)(kind:Nat)(L:List Nd)(i:Nat)(er:Flt)(a:List Int)(seen:List Nat):Except Nat (Nat×Flt×List Int×List Nat) :=
 let at_:=sk s i
 let k:=run z04 s at_
 if k=at_ then .error at_ else
 match z19 s k 61 with
 | .error b=>.error b
 | .ok i2 =>
  let j:=sk s i2
  let e:=run z0e s j
  if z6w s j e then .error j else
  let n:=dv s j (e - j)
  let ix:=z08 z16 (s.extract at_ k) 0
  if ix<0∨z4g kind ix.toNat=false then .ok (e,addF er 7 at_,a,seen)
  else .ok (e,z0l (decide (ix=0∧0<n)&&z29 L n) (z0l (decide (z63[ix.toNat]?.getD 0<n)) (z0l (seen.contains ix.toNat) er 5 at_) 6 j) 5 j,a.set ix.toNat n,ix.toNat::seen)
def z1u(s:ByteArray)(kind:Nat)(L:List Nd):Nat->Nat->Flt->List Int->List Nat->Except Nat (Nat×Flt×List Int)
 | 0,i,_,_,_=>.error i
 | f+1,i,er,a,seen=>match z5x s kind L i er a seen with
  | .error b=>.error b
  | .ok (i2,er2,a2,seen2) =>
   if isAt s i2 59 then z1u s kind L f (gotI s i2 59) er2 a2 seen2
   else match z19 s i2 125 with
    | .error b=>.error b
    | .ok i3=>.ok (i3,er2,a2)
def z1c(s:ByteArray)(kind:Nat)(L:List Nd)(i:Nat)(er:Flt):Except Nat (Nat×Flt×List Int) :=
 if isAt s i 123 then z1u s kind L (s.size+1) (gotI s i 123) er z0c [] else .ok (sk s i,er,z0c)
def grown(L:List Nd)(d:Nd):List Nd :=
 if d.up<0 then L++[d] else (L.modify d.up.toNat fun u=>{ u with kids:=u.kids++[L.length] })++[d]
def z03(L:List Nd)(k:Nat)(t:List UInt8):List Nd:=L.modify k fun u=>{ u with text:=t }
def z2f(s:ByteArray)(node:PS->Except Nat PS):Nat->PS->Except Nat PS
 | 0,st=>.error st.i
 | f+1,st=>match node st with
  | .error b=>.error b
  | .ok st2=>if isAt s st2.i 44 then z2f s node f { st2 with i:=gotI s st2.i 44 } else match z19 s st2.i 93 with
   | .error b=>.error b
   | .ok i3=>.ok { st2 with i:=i3 }
def z6a(s:ByteArray)(kind k:Nat)(node:PS->Except Nat PS)(st:PS):Except Nat PS :=
 if kind<3 then match z19 s st.i 91 with
  | .error b=>.error b
  | .ok i2=>if isAt s i2 93 then .ok { st with i:=gotI s i2 93 } else z2f s node (s.size+1) { st with i:=sk s i2 }
 else if kind<5 then match z19 s st.i 91 with
  | .error b=>.error b
  | .ok i2=>match node { st with i:=i2 } with
   | .error b=>.error b
   | .ok st3=>match z19 s st3.i 93 with
    | .error b=>.error b
    | .ok i4=>.ok { st3 with i:=i4 }
 else if kind=5 then match quoR s st.i with
  | .error b=>.error b
  | .ok (i2,t)=>.ok { st with i:=i2,L:=z03 st.L k t }
 else .ok st
def z0w(s:ByteArray):Nat->Int->Nat->PS->Except Nat PS
 | 0,_,_,st=>.error st.i
 | f+1,up,depth,st =>
  let at_:=sk s st.i
  let k:=run z04 s at_
  let kind:=z08 z0z (s.extract at_ k) 0
  if k=at_∨kind<0 then .error at_ else
  match z1c s kind.toNat st.L k (z0l (decide (12≤depth)) (z0l (decide (100≤st.L.length)) st.er 3 at_) 4 at_) with
  | .error b=>.error b
  | .ok (i2,er2,a)=>z6a s kind.toNat st.L.length (z0w s f st.L.length (depth+1)) { i:=i2,L:=grown st.L ⟨kind.toNat,a,[],[],up⟩,er:=er2 }
def z3p(s:ByteArray):Except (Nat×Nat) (List Nd) :=
 if 4000<s.size then .error (1,0) else
 match z0w s (s.size+1) (-1) 0 ⟨0,[],none⟩ with
 | .error b=>.error (2,b)
 | .ok st=>if sk s st.i<s.size then .error (2,sk s st.i) else match st.er with
  | some f=>.error f
  | none=>.ok st.L
end
section
open Go.RowKit
def z6o(l:List Nat):List Value:=l.map fun (k:Nat)=>.int .i64 (k:Int)
structure Up(B:Nat)(W W':World):Prop where
 size:W.heap.size≤W'.heap.size
 block:∀b,B≤b->b<W.heap.size->W'.heap[b]?=W.heap[b]?
theorem Up.refl(B:Nat)(W:World):Up B W W:=⟨Nat.le_refl _,fun _ _ _=>rfl⟩
theorem Up.trans{B:Nat}{W W1 W2:World}(h:Up B W W1)(k:Up B W1 W2):Up B W W2 :=
 ⟨Nat.le_trans h.size k.size,fun b h1 h2=>(k.block b h1 (Nat.lt_of_lt_of_le h2 h.size)).trans (h.block b h1 h2)⟩
theorem Up.grown{B r:Nat}{W W':World}(h:W.grownBy W' (some r))(hr:r<B):Up B W W' :=
 ⟨h.size,fun b h1 h2=>h.block b h2 (by simp;omega)⟩
theorem Up.below{B:Nat}{W W':World}(h:Below W.heap.size W W'):Up B W W':=⟨h.size,fun b _ h2=>h.block b h2⟩
theorem Up.drewN(B:Nat)(W:World)(q:Nat):Up B W (W.drewN q):=⟨Nat.le_refl _,fun _ _ _=>rfl⟩
theorem zr2{W W':World}{B n size:Nat}{e:TypeId}{v:Value}{xs:List Value}(h:W.ownsRow B e size v n xs)(hu:Up B W W'):W'.ownsRow B e size v n xs:=by
 refine⟨h.1,?_⟩
 rcases h.2 with h2|⟨g,cap,cur,a,b,c,d⟩
 ·exact .inl h2
 ·refine .inr ⟨g,cap,cur,a,b,?_,d⟩
  rw[hu.block g b (Array.getElem?_eq_some_iff.1 c).1];exact c
theorem z2c{W:World}{B B' n n' size size':Nat}{e e':TypeId}{v v':Value}{xs xs':List Value}(h:W.ownsRow B e size v n xs)(h':W.ownsRow B' e' size' v' n' xs')(he:e≠e'):v.ownBlock=none∨v.ownBlock≠v'.ownBlock:=by
 rcases h.2 with ⟨rfl,_⟩|⟨g,cap,cur,rfl,b,c,d⟩
 ·exact .inl rfl
 ·right
  rcases h'.2 with ⟨rfl,_⟩|⟨g',cap',cur',rfl,b',c',d'⟩
  ·simp[Value.ownBlock]
  ·intro hh
   simp[Value.ownBlock] at hh
   subst hh
   rw[c] at c'
   injection c' with c'
   injection c' with _ c'
   exact he c'
theorem z2q{W:World}{B n size:Nat}{e:TypeId}{v:Value}{xs:List Value}(h:W.ownsRow B e size v n xs):(v=.slice none 0 0∧n=0)∨∃g cap,v=.slice (some ⟨g,0,none⟩) n cap∧B≤g∧g<W.heap.size∧n≤cap∧cap≤maxLen:=by
 rcases h.2 with h2|⟨g,cap,cur,a,b,c,d,f,_⟩
 ·exact .inl h2
 ·exact .inr ⟨g,cap,a,b,(Array.getElem?_eq_some_iff.1 c).1,d,f⟩
structure NR(W:World)(B:Nat)(T:TypeId)(z:Nat)(nv:Value)(n:Nat)(C:Nat->List Value)(KV:Nat->Value)(K:Nat->List Nat):Prop where
 row:∃xs,W.ownsRow B T z nv n xs
 cells:∀g,nv.ownBlock=some g->∀j,j<n->∀ (t:Nat) u,(C j)[t]?=some u->W.cell? ⟨g,j*z+t,none⟩=some u
 len:∀j,j<n->(C j).length=z
 kids:∀j,j<n->W.ownsRow B 3 1 (KV j) (K j).length (z6o (K j))
 sep:∀i j,i<n->j<n->i≠j->∀b,(KV i).ownBlock=some b->(KV j).ownBlock≠some b
section
variable {W W' : World} {B z n : Nat} {T : TypeId} {nv : Value} {C : Nat -> List Value} {KV : Nat -> Value} {K : Nat -> List Nat}
theorem NR.nothing(W:World)(B:Nat)(T:TypeId)(z:Nat)(C:Nat->List Value)(KV:Nat->Value)(K:Nat->List Nat):NR W B T z (.slice none 0 0) 0 C KV K :=
 ⟨⟨[],World.ownsRow_nil _ _ _ _⟩,fun _ _ j h=>absurd h (by omega),fun j h=>absurd h (by omega),fun j h=>absurd h (by omega),fun i j h=>absurd h (by omega)⟩
theorem NR.up(h:NR W B T z nv n C KV K)(hu:Up B W W'):NR W' B T z nv n C KV K:=by
 obtain⟨xs,hx⟩:=h.row
 refine⟨⟨xs,zr2 hx hu⟩,fun g hg j hj t u htu=>?_,h.len,fun j hj=>zr2 (h.kids j hj) hu,h.sep⟩
 have:=h.cells g hg j hj t u htu
 have hl:=hx.lt g hg
 rw[World.cell?_of_block (hu.block g hl.1 hl.2)];exact this
theorem NR.form(h:NR W B T z nv n C KV K)(hn:0<n):∃g cap,nv=.slice (some ⟨g,0,none⟩) n cap∧B≤g∧g<W.heap.size∧n≤cap∧cap≤maxLen:=by
 obtain⟨xs,hx⟩:=h.row
 rcases z2q hx with ⟨_,h0⟩|h1
 ·omega
 ·exact h1
theorem NR.cell{g cap:Nat}(h:NR W B T z (.slice (some ⟨g,0,none⟩) n cap) n C KV K){j:Nat}(hj:j<n){t:Nat}{u:Value}(ht:(C j)[t]?=some u):W.cell? ⟨g,j*z+t,none⟩=some u:=h.cells g rfl j hj t u ht
theorem NR.frozen{g cap:Nat}(h:NR W B T z (.slice (some ⟨g,0,none⟩) n cap) n C KV K)(j:Nat):W.frozen? ⟨g,j,none⟩=false:=by
 obtain⟨xs,hx⟩:=h.row
 exact hx.frozenAt j
theorem NR.frz(h:NR W B T z nv n C KV K){g:Nat}(hg:nv.ownBlock=some g)(j:Nat):W.frozen? ⟨g,j,none⟩=false:=by
 obtain⟨xs,hx⟩:=h.row
 rcases z2q hx with ⟨rfl,_⟩|⟨g',cap,rfl,_⟩
 ·simp[Value.ownBlock] at hg
 ·simp[Value.ownBlock] at hg
  subst hg
  exact hx.frozenAt j
theorem NR.app{nv':Value}{xs news:List Value}(h:NR W B T z nv n C KV K)(hT:3≠T)(hx:W.ownsRow B T z nv n xs)(hx':W'.ownsRow B T z nv' (n+1) (xs++news))(hg:W.grownBy W' nv.ownBlock)(hl:news.length=z) :
 NR W' B T z nv' (n+1) (fun j=>if j=n then news else C j) (fun j=>if j=n then .slice none 0 0 else KV j) (fun j=>if j=n then [] else K j):=by
 have hxl:=hx.1
 refine⟨⟨_,hx'⟩,fun g hg' j hj t u htu=>?_,fun j hj=>?_,fun j hj=>?_,fun i j hi hj hij b hb=>?_⟩
 ·have key:=hx'.cells hg'
  have hadd:∀m,(⟨g,0,none⟩:Addr).add m=⟨g,m,none⟩:=fun m=>by unfold Addr.add;split <;> simp_all
  have hz:t<z:=by
   have h1:=(List.getElem?_eq_some_iff.1 htu).1
   by_cases hjn:j=n
   ·rw[if_pos hjn] at h1;omega
   ·rw[if_neg hjn,h.len j (by omega)] at h1;exact h1
  rw[<-hadd]
  refine key _ _ ?_
  by_cases hjn:j=n
  ·subst hjn
   rw[if_pos rfl] at htu
   rw[List.getElem?_append_right (by rw[hxl];omega),hxl,show j*z+t - j*z=t by omega];exact htu
  ·rw[if_neg hjn] at htu
   have hlt:j*z+t<n*z:=by
    have:(j+1)*z≤n*z:=Nat.mul_le_mul_right _ (by omega)
    rw[Nat.add_mul] at this;omega
   rw[List.getElem?_append_left (by rw[hxl];exact hlt)]
   obtain⟨g0,cap,rfl,_⟩:=h.form (by omega)
   have h1:=h.cell (by omega) htu
   rw[hx.cellAt _ hlt] at h1;exact h1
 ·by_cases hjn:j=n
  ·rw[if_pos hjn];exact hl
  ·rw[if_neg hjn];exact h.len j (by omega)
 ·by_cases hjn:j=n
  ·rw[if_pos hjn,if_pos hjn];exact World.ownsRow_nil _ _ _ _
  ·rw[if_neg hjn,if_neg hjn]
   exact (h.kids j (by omega)).kept hg (z2c (h.kids j (by omega)) hx hT)
 ·by_cases h1:i=n
  ·rw[if_pos h1] at hb;simp[Value.ownBlock] at hb
  ·rw[if_neg h1] at hb
   by_cases h2:j=n
   ·rw[if_pos h2];simp[Value.ownBlock]
   ·rw[if_neg h2];exact h.sep i j (by omega) (by omega) hij b hb
theorem NR.set{g cap:Nat}(h:NR W B T z (.slice (some ⟨g,0,none⟩) n cap) n C KV K)(hT:3≠T){k t:Nat}(hk:k<n)(ht:t<z)(u:Value) :
 NR (W.setCell ⟨g,k*z+t,none⟩ u) B T z (.slice (some ⟨g,0,none⟩) n cap) n (fun j=>if j=k then (C k).set t u else C j) KV K:=by
 obtain⟨xs,hx⟩:=h.row
 have hst:=hx.stored (k*z+t) u
 have hkt:k*z+t<n*z:=by
  have:(k+1)*z≤n*z:=Nat.mul_le_mul_right _ (by omega)
  rw[Nat.add_mul] at this;omega
 refine⟨⟨_,hst.1⟩,fun g' hg' j hj t' u' htu=>?_,fun j hj=>?_,fun j hj=>?_,h.sep⟩
 ·injection hg' with hg'
  have hg':g=g':=hg'
  subst hg'
  have hz:t'<z:=by
   have h1:=(List.getElem?_eq_some_iff.1 htu).1
   by_cases hjn:j=k
   ·rw[if_pos hjn] at h1;simp[h.len k hk] at h1;exact h1
   ·rw[if_neg hjn,h.len j (by omega)] at h1;exact h1
  have hlt:j*z+t'<n*z:=by
   have:(j+1)*z≤n*z:=Nat.mul_le_mul_right _ (by omega)
   rw[Nat.add_mul] at this;omega
  rw[hst.1.cellAt _ hlt]
  have hold:xs[j*z+t']?=W.cell? ⟨g,j*z+t',none⟩:=(hx.cellAt _ hlt).symm
  by_cases hjk:j=k
  ·subst hjk
   rw[if_pos rfl] at htu
   by_cases htt:t=t'
   ·subst htt
    rw[List.getElem?_set_self (by rw[hx.1];exact hkt)]
    rw[List.getElem?_set_self (by rw[h.len j hk];exact ht)] at htu
    exact htu
   ·rw[List.getElem?_set_ne (by omega)] at htu ⊢
    rw[hold];exact h.cell hj htu
  ·rw[if_neg hjk] at htu
   have hne:k*z+t≠j*z+t':=by
    intro e
    rcases Nat.lt_or_gt_of_ne hjk with hh|hh
    ·have:(j+1)*z≤k*z:=Nat.mul_le_mul_right _ (by omega)
     rw[Nat.add_mul] at this;omega
    ·have:(k+1)*z≤j*z:=Nat.mul_le_mul_right _ (by omega)
     rw[Nat.add_mul] at this;omega
   rw[List.getElem?_set_ne hne,hold];exact h.cell hj htu
 ·by_cases hjk:j=k
  ·rw[if_pos hjk];simp[h.len k hk]
  ·rw[if_neg hjk];exact h.len j hj
 ·exact (h.kids j hj).kept hst.2 (z2c (h.kids j hj) hx hT)
theorem NR.kid{g cap:Nat}{kv':Value}{k t c:Nat}(h:NR W B T z (.slice (some ⟨g,0,none⟩) n cap) n C KV K)(hT:3≠T)(hk:k<n)(ht:t<z)
 (hr:W'.ownsRow B 3 1 kv' ((K k).length+1) (z6o (K k++[c]))) (hg:W.grownBy W' (KV k).ownBlock) (hat:kv'.ownBlock=(KV k).ownBlock∨kv'.ownBlock=some W.heap.size) :
 NR (W'.setCell ⟨g,k*z+t,none⟩ kv') B T z (.slice (some ⟨g,0,none⟩) n cap) n (fun j=>if j=k then (C k).set t kv' else C j) (fun j=>if j=k then kv' else KV j) (fun j=>if j=k then K k++[c] else K j):=by
 obtain⟨xs,hx⟩:=h.row
 have hx':W'.ownsRow B T z (.slice (some ⟨g,0,none⟩) n cap) n xs:=hx.kept hg (z2c hx (h.kids k hk) (Ne.symm hT))
 have hgl:=hx.lt g rfl
 have hblk:W'.heap[g]?=W.heap[g]?:=hg.block g hgl.2 (by
  rcases z2c (h.kids k hk) hx hT with e|e
  ·rw[e];simp
  ·exact fun e2=>e e2.symm)
 have hother:∀j,j<n->j≠k->W'.ownsRow B 3 1 (KV j) (K j).length (z6o (K j)):=fun j hj hjk=>(h.kids j hj).kept hg (by
  cases hb:(KV j).ownBlock with
  | none=>exact .inl rfl
  | some b=>right;exact fun e=>h.sep j k hj hk hjk b hb e.symm)
 -- the state between,as rows whose kids of k are taken from kv'
 have mid:NR W' B T z (.slice (some ⟨g,0,none⟩) n cap) n C (fun j=>if j=k then kv' else KV j) (fun j=>if j=k then K k++[c] else K j):=by
  refine⟨⟨xs,hx'⟩,fun g' hg' j hj t' u' htu=>?_,h.len,fun j hj=>?_,fun i j hi hj hij b hb=>?_⟩
  ·injection hg' with hg'
   have hg':g=g':=hg'
   subst hg'
   rw[World.cell?_of_block hblk];exact h.cell hj htu
  ·by_cases hjk:j=k
   ·rw[if_pos hjk,if_pos hjk];simpa using hr
   ·rw[if_neg hjk,if_neg hjk];exact hother j hj hjk
  ·have hfar:∀i,i<n->(KV i).ownBlock≠some W.heap.size:=fun i hi e=>by have:=(h.kids i hi).lt _ e;omega
   by_cases h1:i=k
   ·rw[if_pos h1] at hb
    have h2:j≠k:=fun e=>hij (h1.trans e.symm)
    rw[if_neg h2]
    rcases hat with e|e
    ·rw[e] at hb;exact h.sep k j hk hj (fun e=>h2 e.symm) b hb
    ·rw[e] at hb;injection hb with hb;rw[<-hb];exact hfar j hj
   ·rw[if_neg h1] at hb
    by_cases h2:j=k
    ·rw[if_pos h2]
     rcases hat with e|e
     ·rw[e];exact h.sep i k hi hk h1 b hb
     ·rw[e];intro e2;injection e2 with e2;exact hfar i hi (by rw[hb,e2])
    ·rw[if_neg h2];exact h.sep i j hi hj hij b hb
 exact mid.set hT hk ht kv'
end
end
section
open Go.RowKit
theorem zif(ws:List ByteArray)(x:ByteArray)(blk off cap n:Nat)(w:World)(hb:blk<w.heap.size)(hc:∀j,j<ws.length->w.cell? ⟨blk,off+j,none⟩=some (.string (ws[j]?.getD ByteArray.empty)))(hn:ws.length=n)(hn2:n≤1099511627776) :
 Calls Tryz.prog 214 #[.slice (some ⟨blk,off,none⟩) n cap,.string x] w fun e w'=>e=.returned (.int .i64 (z08 ws x 0))∧w'=w:=by
 have HC:Hid (∀j,j<ws.length->w.cell? ⟨blk,off+j,none⟩=some (.string (ws[j]?.getD ByteArray.empty))):=hc
 have HN:Hid (ws.length=n):=hn
 clear hc hn
 go_enter Tryz.func214,Tryz.ntmps214
 go_wp2
 go_loop [8] (fun i=>∃k:Nat,k≤n∧i=.int .i64 k∧Hid (z08 ws x 0=z08 (ws.drop k) x k)) (fun i=>n - (intOf i).toNat)
 case atStart=>exact⟨0,Nat.zero_le _,rfl,by show _=_;rw[List.drop_zero]⟩
 case round =>
  obtain⟨k,hk,rfl,HF⟩:=hrel
  by_cases hlt:k<n
  ·have hlt':(k:Int)<(n:Int):=by omega
   have hkw:k<ws.length:=by rw[HN.out];exact hlt
   have hcell:=HC.out k hkw
   obtain⟨y,hy⟩:∃y,ws[k]?.getD ByteArray.empty=y:=⟨_,rfl⟩
   rw[hy] at hcell
   have hdrop:ws.drop k=y::ws.drop (k+1):=by rw[<-hy,List.getElem?_eq_getElem hkw];exact List.drop_eq_getElem_cons hkw
   have HF2:Hid (z08 ws x 0=if y=x then (k:Int) else z08 (ws.drop (k+1)) x (k+1)):=by show _=_;rw[HF.out,hdrop];rfl
   clear hdrop hy HF hkw
   by_cases e:y=x
   ·have HE:Hid (z08 ws x 0=(k:Int)):=by show _=_;rw[HF2.out,if_pos e]
    subst e
    clear HF2
    go_wp2
    go_ret
    exact⟨by rw[HE.out];rfl,rfl⟩
   ·have HE:Hid (z08 ws x 0=z08 (ws.drop (k+1)) x (k+1)):=by show _=_;rw[HF2.out,if_neg e]
    have e1:(x.toList==y.toList)=false:=z5v (fun h=>e h.symm)
    clear HF2
    go_wp2
    go_round
    case rel=>exact⟨k+1,by omega,by go_num,HE.out⟩
    case measure=>simp[intOf];omega
  ·have hlt':¬(k:Int)<(n:Int):=by omega
   have HE:Hid (z08 ws x 0 = -1):=by show _=_;rw[HF.out,List.drop_eq_nil_of_le (by rw[HN.out];omega)];rfl
   clear HF
   go_wp2
   go_ret
   exact⟨by rw[HE.out];rfl,rfl⟩
theorem zie(x:ByteArray)(p:Option Addr)(cap:Nat)(w:World) :
 Calls Tryz.prog 214 #[.slice p 0 cap,.string x] w fun e w'=>e=.returned (.int .i64 (-1))∧w'=w:=by
 go_enter Tryz.func214,Tryz.ntmps214
 go_wp2
 go_loop [8] (fun i=>i=.int .i64 0) (fun i=>0)
 case atStart=>rfl
 case round =>
  subst hrel
  go_wp2
  go_ret
  exact⟨rfl,rfl⟩
def Txts(W:World)(v:Value)(ws:List ByteArray):Prop:=∃p c,v=.slice p ws.length c∧(ws=[]∨∃blk,p=some ⟨blk,0,none⟩∧blk<W.heap.size∧∀j,j<ws.length->W.cell? ⟨blk,0+j,none⟩=some (.string (ws[j]?.getD ByteArray.empty)))
theorem zlh(ws:List ByteArray)(x:ByteArray)(v:Value)(w:World)(h:Txts w v ws)(hn:ws.length≤1099511627776) :
 Calls Tryz.prog 214 #[v,.string x] w fun e w'=>e=.returned (.int .i64 (z08 ws x 0))∧w'=w:=by
 obtain⟨p,c,rfl,rfl|⟨blk,rfl,hb,hc⟩⟩:=h
 ·exact zie x p c w
 ·exact zif ws x blk 0 c _ w hb hc rfl hn
theorem zd5(ws:List ByteArray)(x:ByteArray)(v:Value)(w:World)(h:Txts w v ws)(hn:ws.length≤1099511627776) :
 Calls Tryz.prog 191 #[v,.string x] w fun e w'=>e=.returned (.bool (decide (0≤z08 ws x 0)))∧w'=w:=by
 have CI:Hid (Calls Tryz.prog 214 #[v,.string x] w fun e w'=>e=.returned (.int .i64 (z08 ws x 0))∧w'=w):=zlh ws x v w h hn
 obtain⟨p,c,rfl,_⟩:=h
 obtain⟨r,hr⟩:∃r,z08 ws x 0=r:=⟨_,rfl⟩
 rw[hr] at CI ⊢
 clear hr
 go_enter Tryz.func191,Tryz.ntmps191
 go_wp2_with fail
 refine CI.out.mono ?_
 rintro e w1 ⟨rfl,hw⟩
 obtain rfl:=hw.symm
 go_wp2
 go_ret
 exact⟨rfl,rfl⟩
end
end Go.Proofs.YtnponhbgicbkcaaGreatDoor
