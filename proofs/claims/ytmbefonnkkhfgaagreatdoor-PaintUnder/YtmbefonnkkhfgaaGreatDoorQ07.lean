import Derived.Test.YtmbefonnkkhfgaaGreatDoorQ00
import Derived.Test.YtmbefonnkkhfgaaGreatDoorProg
import Derived.WalkKit
import Derived.WalkSpells
import Derived.WalkLawsBesides
import Derived.RegionTactic
import Derived.BigRegion
import Derived.BigQuiet
import Derived.Deep.QuietTactic
import Derived.Laws.IdiomStrings
import Derived.Below
import Derived.Laws.OwnMore
import Derived.Maps.AppendAt
set_option linter.unusedVariables false
set_option maxRecDepth 100000
set_option maxHeartbeats 16000000
namespace Go.Proofs.YtmbefonnkkhfgaaGreatDoor
section
open Go.RowKit Go.Proofs.Tryz
def bat(s:ByteArray)(i:Nat):Nat:=if h:i<s.size then s[i].toNat else 256
theorem bat_in{s:ByteArray}{i:Nat}(h:i<s.size):bat s i=s[i].toNat:=by unfold bat;rw[dif_pos h]
theorem bat_out{s:ByteArray}{i:Nat}(h:¬i<s.size):bat s i=256:=by unfold bat;rw[dif_neg h]
theorem bat_lt{s:ByteArray}{i:Nat}(h:i<s.size):bat s i<256:=by rw[bat_in h];exact UInt8.toNat_lt _
def runF(p:Nat->Bool)(s:ByteArray):Nat->Nat->Nat
 |0,i=>i
 |f+1,i=>if p (bat s i)then runF p s f (i+1)else i
def run(p:Nat->Bool)(s:ByteArray)(i:Nat):Nat:=runF p s (s.size-i) i
theorem run_step{p:Nat->Bool}{s:ByteArray}{i:Nat}(hi:i<s.size)(h:p (bat s i)=true):run p s i=run p s (i+1):=by unfold run;obtain⟨f,hf⟩:∃f,s.size-i=f+1:=⟨s.size-i-1,by omega⟩;rw[hf,runF,if_pos h,show s.size-(i+1)=f by omega]
theorem run_stop{p:Nat->Bool}{s:ByteArray}{i:Nat}(h:p (bat s i)=false):run p s i=i:=by
 unfold run;match s.size-i with
 |0=>rfl
 |f+1=>rw[runF,h];rfl
theorem run_out{p:Nat->Bool}{s:ByteArray}{i:Nat}(h:¬i<s.size):run p s i=i:=by unfold run;rw[show s.size-i=0 by omega];rfl
theorem runF_bd(p:Nat->Bool)(s:ByteArray):∀f i,i≤runF p s f i∧runF p s f i≤i+f
 |0,i=>⟨Nat.le_refl _,Nat.le_refl _⟩
 |f+1,i=>by have:=runF_bd p s f (i+1);rw[runF];split<;>omega
theorem run_ge(p:Nat->Bool)(s:ByteArray)(i:Nat):i≤run p s i:=(runF_bd p s _ i).1
theorem run_le(p:Nat->Bool)(s:ByteArray)(i:Nat)(hi:i≤s.size):run p s i≤s.size:=by have:=(runF_bd p s (s.size-i) i).2;unfold run;omega
theorem runF_end(p:Nat->Bool)(hp:p 256=false)(s:ByteArray):∀f i,s.size-i≤f->p (bat s (runF p s f i))=false
 |0,i,h=>by rw[runF,bat_out (by omega)];exact hp
 |f+1,i,h=>by
  rw[runF];by_cases c:p (bat s i)=true;·rw[if_pos c];exact runF_end p hp s f (i+1) (by omega)
  ·rw[if_neg c];simpa using c
theorem run_end{p:Nat->Bool}(hp:p 256=false)(s:ByteArray)(i:Nat):p (bat s (run p s i))=false:=runF_end p hp s _ i (Nat.le_refl _)
def blank(x:Nat):Bool:=x==32||x==10
def letter(x:Nat):Bool:=decide (97≤x)&&decide (x≤122)
def digit(x:Nat):Bool:=decide (48≤x)&&decide (x≤57)
def sk(s:ByteArray)(i:Nat):Nat:=run blank s i
theorem sk_ge(s:ByteArray)(i:Nat):i≤sk s i:=run_ge _ _ _
theorem sk_le(s:ByteArray)(i:Nat)(h:i≤s.size):sk s i≤s.size:=run_le _ _ _ h
theorem sk_sk(s:ByteArray)(i:Nat):sk s (sk s i)=sk s i:=run_stop (run_end (by rfl) s i)
structure RS(W:World)(rb:Nat)(s:ByteArray)(i:Nat)(lv:Value)(bad er at_ dep:Int):Prop where
 lt:rb<W.heap.size
 c0:W.cell? ⟨rb,0,none⟩=some (.string s)
 c1:W.cell? ⟨rb,1,none⟩=some (Iq (i:Int))
 c2:W.cell? ⟨rb,2,none⟩=some lv
 c3:W.cell? ⟨rb,3,none⟩=some (Iq bad)
 c4:W.cell? ⟨rb,4,none⟩=some (Iq er)
 c5:W.cell? ⟨rb,5,none⟩=some (Iq at_)
 c6:W.cell? ⟨rb,6,none⟩=some (Iq dep)
 fz:∀j,W.frozen? ⟨rb,j,none⟩=false
theorem RS.below{W W':World}{rb:Nat}{s:ByteArray}{i:Nat}{lv:Value}{bad er at_ dep:Int}(h:RS W rb s i lv bad er at_ dep)(hb:Below W.heap.size W W'):RS W' rb s i lv bad er at_ dep:=
 have k:∀j v,W.cell? ⟨rb,j,none⟩=some v->W'.cell? ⟨rb,j,none⟩=some v:=fun j v e=>(hb.cell (p:=⟨rb,j,none⟩) h.lt).trans e
 ⟨Nat.lt_of_lt_of_le h.lt hb.size,k _ _ h.c0,k _ _ h.c1,k _ _ h.c2,k _ _ h.c3,k _ _ h.c4,k _ _ h.c5,k _ _ h.c6,fun j=>(hb.frozen (p:=⟨rb,j,none⟩) h.lt).trans (h.fz j)⟩
theorem RS.drewN{W:World}{rb:Nat}{s:ByteArray}{i:Nat}{lv:Value}{bad er at_ dep:Int}(h:RS W rb s i lv bad er at_ dep)(n:Nat):RS (W.drewN n) rb s i lv bad er at_ dep:=
 ⟨h.lt,h.c0,h.c1,h.c2,h.c3,h.c4,h.c5,h.c6,h.fz⟩
theorem rs_other{W:World}{rb j k:Nat}{v u:Value}(hn:j≠k)(h:W.cell? ⟨rb,j,none⟩=some u):(W.setCell ⟨rb,k,none⟩ v).cell? ⟨rb,j,none⟩=some u:=by rw[World.cell?_setCell_other _ _ _ _ (fun e=>hn (by injection e with e1 e2;exact e2.symm))];exact h
theorem rs_same{W:World}{rb k:Nat}{v u:Value}(h:W.cell? ⟨rb,k,none⟩=some u):(W.setCell ⟨rb,k,none⟩ v).cell? ⟨rb,k,none⟩=some v:=
 World.cell?_setCell_same' _ _ _ (by rw[h];rfl)
theorem RS.setI{W:World}{rb:Nat}{s:ByteArray}{i:Nat}{lv:Value}{bad er at_ dep:Int}(h:RS W rb s i lv bad er at_ dep)(i':Nat):RS (W.setCell ⟨rb,1,none⟩ (Iq (i':Int))) rb s i' lv bad er at_ dep:=
 ⟨by simpa using h.lt,rs_other (by omega) h.c0,rs_same h.c1,rs_other (by omega) h.c2,rs_other (by omega) h.c3,rs_other (by omega) h.c4,rs_other (by omega) h.c5,rs_other (by omega) h.c6,fun j=>by rw[World.frozen?_setCell];exact h.fz j⟩
theorem RS.setBad{W:World}{rb:Nat}{s:ByteArray}{i:Nat}{lv:Value}{bad er at_ dep:Int}(h:RS W rb s i lv bad er at_ dep)(b:Int):RS (W.setCell ⟨rb,3,none⟩ (Iq b)) rb s i lv b er at_ dep:=
 ⟨by simpa using h.lt,rs_other (by omega) h.c0,rs_other (by omega) h.c1,rs_other (by omega) h.c2,rs_same h.c3,rs_other (by omega) h.c4,rs_other (by omega) h.c5,rs_other (by omega) h.c6,fun j=>by rw[World.frozen?_setCell];exact h.fz j⟩
theorem RS.setErr{W:World}{rb:Nat}{s:ByteArray}{i:Nat}{lv:Value}{bad er at_ dep:Int}(h:RS W rb s i lv bad er at_ dep)(b c:Int):RS ((W.setCell ⟨rb,4,none⟩ (Iq b)).setCell ⟨rb,5,none⟩ (Iq c)) rb s i lv bad b c dep:=
 ⟨by simpa using h.lt,rs_other (by omega) (rs_other (by omega) h.c0),rs_other (by omega) (rs_other (by omega) h.c1),rs_other (by omega) (rs_other (by omega) h.c2),rs_other (by omega) (rs_other (by omega) h.c3),rs_other (by omega) (rs_same h.c4),rs_same (rs_other (by omega) h.c5),rs_other (by omega) (rs_other (by omega) h.c6),fun j=>by rw[World.frozen?_setCell,World.frozen?_setCell];exact h.fz j⟩
theorem gr_refl(W:World)(b:Nat):W.grownBy W (some b):=⟨rfl,rfl,rfl,Nat.le_refl _,fun _ _ _=>rfl⟩
theorem gr_trans{A B C:World}{b:Nat}(h:A.grownBy B (some b))(k:B.grownBy C (some b)):A.grownBy C (some b):=
 ⟨k.os.trans h.os,k.tape.trans h.tape,k.output.trans h.output,Nat.le_trans h.size k.size,fun i hi hn=>(k.block i (Nat.lt_of_lt_of_le hi h.size) hn).trans (h.block i hi hn)⟩
theorem gr_set(W:World)(b i:Nat)(v:Value):W.grownBy (W.setCell ⟨b,i,none⟩ v) (some b):=
 ⟨rfl,rfl,rfl,by simp,fun k _ hk=>heap_setCell_other _ _ _ _ (fun e=>hk (by rw[e]))⟩
theorem gr_drewN(W:World)(n b:Nat):W.grownBy (W.drewN n) (some b):=⟨rfl,rfl,rfl,Nat.le_refl _,fun _ _ _=>rfl⟩
theorem gr_below{A B:World}{b:Nat}(h:Below A.heap.size A B):A.grownBy B (some b):=⟨h.os,h.tape,h.output,h.size,fun i hi _=>h.block i hi⟩
def rdI(W:World)(rb:Nat):Nat:=match W.cell? ⟨rb,1,none⟩with
 |some (.int _ x)=>x.toNat
 |_=>0
theorem RS.rdI{W:World}{rb:Nat}{s:ByteArray}{i:Nat}{lv:Value}{bad er at_ dep:Int}(h:RS W rb s i lv bad er at_ dep):rdI W rb=i:=by unfold Go.Proofs.YtmbefonnkkhfgaaGreatDoor.rdI;rw[h.c1];simp
theorem skip_any(rb:Nat)(s:ByteArray)(i:Nat)(lv:Value)(bad er at_ dep:Int)(w:World)(h:RS w rb s i lv bad er at_ dep)(hs:s.size≤1099511627776)(hi:i≤s.size):
 Calls prog 21 #[Pq rb] w fun e w'=>e=.returned (.tuple #[])∧RS w' rb s (sk s i) lv bad er at_ dep∧w.grownBy w' (some rb):=by
 have HR:=qH<|h;go_enter func21,ntmps21;go_wp2;go_loopw[2] (fun _ wr=>∃k:Nat,k≤s.size∧Hid (sk s k=sk s i)∧Hid (RS wr rb s k lv bad er at_ dep)∧Hid (w.grownBy wr (some rb))) (fun _ wr=>s.size-rdI wr rb);case atStart=>exact⟨i,hi,rfl,HR,gr_refl _ _⟩
 case round=>
  obtain⟨k,hk,HK,HS,HG⟩:=hrel;have hs1:=HS.out;have c0:=hs1.c0;have c1:=hs1.c1;have f1:=hs1.fz 1;by_cases hlt:k<s.size
  ·have hlt':(k:Int)<(s.size:Int):=by omega
   obtain⟨x,hx⟩:=nmd (s[k].toNat);have hbx:bat s k=x:=by rw[bat_in hlt,hx]
   by_cases hb:x=32
   ·skip;have HN:=qH<|fun q=>by have:=(HS.drewN q).setI (k+1);rw[show((k+1:Nat):Int)=(k:Int)+1 by omega]at this;exact this
    have HK2:Hid (sk s (k+1)=sk s i):=by rw[<-HK.out];exact(run_step hlt (by rw[hbx];simp[blank,hb])).symm
    have hrd:=HS.rdI;have HRD:=qH<|hrd;subst hb;go_wp2_with fail;go_quiet(fail);go_wp2;go_roundw;case rel=>exact⟨k+1,by omega,HK2,HN _,gr_trans (gr_trans HG (gr_drewN _ _ _)) (gr_set _ _ _ _)⟩
    case measure=>rw[(HN _).rdI,HRD.out];omega
   ·by_cases hb2:x=10
    ·skip;have HN:=qH<|fun q=>by have:=(HS.drewN q).setI (k+1);rw[show((k+1:Nat):Int)=(k:Int)+1 by omega]at this;exact this
     have HK2:Hid (sk s (k+1)=sk s i):=by rw[<-HK.out];exact(run_step hlt (by rw[hbx];simp[blank,hb2])).symm
     have hrd:=HS.rdI;have HRD:=qH<|hrd;subst hb2;go_wp2_with fail;go_quiet(fail);go_wp2;go_roundw;case rel=>exact⟨k+1,by omega,HK2,HN _,gr_trans (gr_trans HG (gr_drewN _ _ _)) (gr_set _ _ _ _)⟩
     case measure=>rw[(HN _).rdI,HRD.out];omega
    ·have HE:Hid (RS wr rb s (sk s i) lv bad er at_ dep):=by have:sk s k=k:=run_stop (by rw[hbx];simp[blank,hb,hb2]);rw[<-HK.out,this];exact HS
     have e1:((x:Int)==32)=false:=by simp;omega
     go_wp2_with fail;go_quiet(fail);go_wp2;go_end0;exact⟨rfl,HE.drewN _,gr_trans HG (gr_drewN _ _ _)⟩
  ·have hlt':¬(k:Int)<(s.size:Int):=by omega
   have HE:Hid (RS wr rb s (sk s i) lv bad er at_ dep):=by have:sk s k=k:=run_out hlt;rw[<-HK.out,this];exact HS
   go_wp2_with fail;go_quiet(fail);go_wp2;go_end0;exact⟨rfl,HE.drewN _,gr_trans HG (gr_drewN _ _ _)⟩
def badI(bad a:Int):Int:=if bad<0 then a else bad
theorem fail_any(rb:Nat)(s:ByteArray)(i:Nat)(lv:Value)(bad er at_ dep:Int)(a:Int)(w:World)(h:RS w rb s i lv bad er at_ dep):
 Calls prog 22 #[Pq rb,Iq a] w fun e w'=>e=.returned (.tuple #[])∧RS w' rb s i lv (badI bad a) er at_ dep∧w.grownBy w' (some rb):=by
 have c3:=h.c3;have f3:=h.fz 3;have HR:=qH<|h;by_cases hb:bad<0
 ·have HN:Hid (RS (w.setCell ⟨rb,3,none⟩ (Iq a)) rb s i lv (badI bad a) er at_ dep):=by unfold badI;rw[if_pos hb];exact HR.setBad a
  go_enter func22,ntmps22;go_wp2;go_end0;exact⟨rfl,HN,gr_set _ _ _ _⟩
 ·have HN:Hid (RS w rb s i lv (badI bad a) er at_ dep):=by unfold badI;rw[if_neg hb];exact HR
  go_enter func22,ntmps22;go_wp2;go_end0;exact⟨rfl,HN,gr_refl _ _⟩
def isAt(s:ByteArray)(i:Nat)(c:Nat):Bool:=bat s (sk s i)==c
def gotI(s:ByteArray)(i:Nat)(c:Nat):Nat:=if bat s (sk s i)=c then sk s i+1 else sk s i
theorem got_any(rb:Nat)(s:ByteArray)(i:Nat)(lv:Value)(bad er at_ dep:Int)(c:Nat)(w:World)(h:RS w rb s i lv bad er at_ dep)(hs:s.size≤1099511627776)(hi:i≤s.size)(hc:c<256)(hb:bad<0):
 Calls prog 73 #[Pq rb,.int .u8 (c:Int)] w fun e w'=>e=.returned (.bool (isAt s i c))∧RS w' rb s (gotI s i c) lv bad er at_ dep∧w.grownBy w' (some rb):=by
 have CS:=qH<|skip_any rb s i lv bad er at_ dep w h hs hi;obtain⟨j,hj⟩:=nmd (sk s i);have hjs:=sk_le s i hi;have HGI:Hid (gotI s i c=if bat s j=c then j+1 else j):=by show _=_;unfold gotI;rw[hj]
 have HIA:Hid (isAt s i c=(bat s j==c)):=by show _=_;unfold isAt;rw[hj]
 rw[hj]at CS hjs;go_enter func73,ntmps73;go_wp2_with fail;refine CS.mono ?_;rintro e w1 ⟨rfl,h1,g1⟩;have HR:=qH<|h1;have HG:=qH<|g1;have c0:=h1.c0;have c1:=h1.c1;have c3:=h1.c3;have f1:=h1.fz 1;by_cases hlt:j<s.size
 ·have hlt':(j:Int)<(s.size:Int):=by omega
  obtain⟨x,hx⟩:=nmd (s[j].toNat);have hbx:bat s j=x:=by rw[bat_in hlt,hx]
  by_cases hxc:x=c
  ·have HN:Hid (∀q,RS ((w1.drewN q).setCell ⟨rb,1,none⟩ (Iq ((j:Int)+1))) rb s (gotI s i c) lv bad er at_ dep):=fun q=>by rw[HGI.out,hbx,if_pos hxc];have:=(HR.drewN q).setI (j+1);rw[show((j+1:Nat):Int)=(j:Int)+1 by omega]at this;exact this
   have HE:Hid (isAt s i c=true):=by show _=_;rw[HIA.out,hbx];simpa using hxc
   subst hxc;go_wp2_with fail;go_quiet(fail);go_wp2;go_ret;exact⟨by rw[HE.out];rfl,HN _,gr_trans (gr_trans HG (gr_drewN _ _ _)) (gr_set _ _ _ _)⟩
  ·have HN:Hid (RS w1 rb s (gotI s i c) lv bad er at_ dep):=by rw[HGI.out,hbx,if_neg hxc];exact HR
   have HE:Hid (isAt s i c=false):=by show _=_;rw[HIA.out,hbx];simpa using hxc
   go_wp2_with fail;go_quiet(fail);go_wp2;go_ret;exact⟨by rw[HE.out];rfl,HN.drewN _,gr_trans HG (gr_drewN _ _ _)⟩
 ·have hlt':¬(j:Int)<(s.size:Int):=by omega
  have hbo:=bat_out hlt;have HN:Hid (RS w1 rb s (gotI s i c) lv bad er at_ dep):=by rw[HGI.out,hbo,if_neg (by omega)];exact HR
  have HE:Hid (isAt s i c=false):=by show _=_;rw[HIA.out,hbo];simp;omega
  go_wp2_with fail;go_quiet(fail);go_wp2;go_ret;exact⟨by rw[HE.out];rfl,HN.drewN _,gr_trans HG (gr_drewN _ _ _)⟩
end
section
def vis(kids:Nat->List Nat):Nat->Nat->List Nat
 |0,_=>[]
 |f+1,k=>k::(kids k).flatMap (vis kids f)
def upN(up:Nat->Int):Nat->Int->Int
 |0,x=>x
 |t+1,x=>up (upN up t x).toNat
structure Nest(n:Nat)(kids:Nat->List Nat)(up:Nat->Int):Prop where
 kid:∀i c,i<n->c∈kids i->i<c∧c<n∧up c=(i:Int)
 nd:∀i,i<n->(kids i).Nodup
 upl:∀i,i<n->up i<(i:Int)
 lo:∀i,i<n->-1≤up i
section
variable{n:Nat} {kids:Nat->List Nat} {up:Nat->Int}
theorem upN_add(s:Nat)(x:Int):∀t,upN up (s+t) x=upN up t (upN up s x)
 |0=>rfl
 |t+1=>by show up (upN up (s+t) x).toNat=up (upN up t (upN up s x)).toNat;rw[upN_add s x t]
theorem upN_le(h:Nest n kids up)(hn:0<n):∀(t:Nat) (x:Int),-1≤x->x<n->-1≤upN up t x∧upN up t x≤x
 |0,x,h1,h2=>⟨h1,Int.le_refl _⟩
 |t+1,x,h1,h2=>by
  obtain⟨k1,k2⟩:=upN_le h hn t x h1 h2;show-1≤up (upN up t x).toNat∧up (upN up t x).toNat≤x;have hl:(upN up t x).toNat<n:=by omega
  have a1:=h.lo _ hl;have a2:=h.upl _ hl;refine⟨a1,?_⟩;omega
theorem vis_in(h:Nest n kids up):∀(f k:Nat),k<n->∀j,j∈vis kids f k->k≤j∧j<n∧∃t,upN up t (j:Int)=(k:Int)
 |0,k,hk,j,hj=>by cases hj
 |f+1,k,hk,j,hj=>by
  rcases List.mem_cons.1 hj with e|hj;·subst e;exact⟨Nat.le_refl _,hk,0,rfl⟩
  ·obtain⟨c,hc,hj⟩:=List.mem_flatMap.1 hj;obtain⟨c1,c2,c3⟩:=h.kid k c hk hc;obtain⟨d1,d2,t,ht⟩:=vis_in h f c c2 j hj;refine⟨by omega,d2,t+1,?_⟩;show up (upN up t (j:Int)).toNat=(k:Int);rw[ht];exact c3
theorem vis_apart(h:Nest n kids up){f k c d:Nat}(hk:k<n)(hc:c∈kids k)(hd:d∈kids k)(hcd:c≠d){j:Nat}(h1:j∈vis kids f c)(h2:j∈vis kids f d):False:=by
 obtain⟨c1,c2,c3⟩:=h.kid k c hk hc;obtain⟨d1,d2,d3⟩:=h.kid k d hk hd;obtain⟨_,_,s,hs⟩:=vis_in h f c c2 j h1;obtain⟨_,_,t,ht⟩:=vis_in h f d d2 j h2;have hn:0<n:=by omega
 have key:∀(c d:Nat) (s t:Nat),c≠d->up c=(k:Int)->k<d->c<n->upN up s (j:Int)=(c:Int)->upN up t (j:Int)=(d:Int)->s≤t->False:=fun c d s t hcd hup hkd hcn hs ht hst=>by
  obtain⟨r,rfl⟩:∃r,t=s+r:=⟨t-s,by omega⟩;rw[upN_add,hs]at ht;cases r with
  |zero=>exact hcd (Int.ofNat.inj ht)
  |succ r=>
   rw[Nat.add_comm r 1,upN_add]at ht;have e:upN up 1 (c:Int)=(k:Int):=by show up ((c:Int)).toNat=_;exact hup
   rw[e]at ht;have:=(upN_le h hn r (k:Int) (by omega) (by omega)).2;omega
 rcases Nat.le_total s t with g|g;·exact key c d s t hcd c3 d1 c2 hs ht g
 ·exact key d c t s (fun e=>hcd e.symm) d3 c1 d2 ht hs g
theorem vis_nodup(h:Nest n kids up):∀(f k:Nat),k<n->(vis kids f k).Nodup
 |0,k,hk=>List.nodup_nil
 |f+1,k,hk=>by
  show(k::(kids k).flatMap (vis kids f)).Nodup;refine List.nodup_cons.2 ⟨fun q=>?_,?_⟩;·obtain⟨c,hc,hj⟩:=List.mem_flatMap.1 q;obtain⟨c1,c2,c3⟩:=h.kid k c hk hc;have:=(vis_in h f c c2 k hj).1;omega
  ·have key:∀ks:List Nat,(∀c∈ks,c∈kids k)->ks.Nodup->(ks.flatMap (vis kids f)).Nodup:=by
    intro ks;induction ks with
    |nil=>intro _ _;exact List.nodup_nil
    |cons c ks ih=>intro h1 h2;rw[List.flatMap_cons];obtain⟨m1,m2⟩:=List.nodup_cons.1 h2;have hc:=h1 c (List.mem_cons_self ..);obtain⟨c1,c2,c3⟩:=h.kid k c hk hc;refine List.nodup_append.2 ⟨vis_nodup h f c c2,ih (fun x hx=>h1 x (List.mem_cons_of_mem _ hx)) m2,fun a ha b hb e=>?_⟩;subst e;obtain⟨d,hd,hj⟩:=List.mem_flatMap.1 hb;exact vis_apart h hk hc (h1 d (List.mem_cons_of_mem _ hd)) (fun e=>m1 (e▸hd)) ha hj
   exact key (kids k) (fun _ hc=>hc) (h.nd k hk)
theorem nodup_len:∀(n:Nat) (l:List Nat),l.Nodup->(∀x∈l,x<n)->l.length≤n
 |0,l,_,h=>by
  cases l with
  |nil=>exact Nat.le_refl _
  |cons a l=>exact absurd (h a (List.mem_cons_self ..)) (by omega)
 |n+1,l,hd,h=>by
  by_cases hm:n∈l;·have h1:=List.length_erase_of_mem hm;have h2:=nodup_len n (l.erase n) (hd.erase n) (fun x hx=>by
    have hx1:=List.mem_of_mem_erase hx;have hx2:x≠n:=fun e=>by rw[e]at hx;exact(List.Nodup.not_mem_erase hd) hx
    have:=h x hx1;omega);have:0<l.length:=List.length_pos_of_mem hm;omega
  ·have:=nodup_len n l hd (fun x hx=>by have h1:=h x hx;have h2:x≠n:=fun e=>hm (e▸hx);omega);omega
theorem vis_len(h:Nest n kids up)(f k:Nat)(hk:k<n):(vis kids f k).length≤n:=nodup_len n _ (vis_nodup h f k hk) fun x hx=>(vis_in h f k hk x hx).2.1
end
theorem rise_lt:∀ks:List Nat,(∀k c d,ks[k]?=some c->ks[k+1]?=some d->c<d)->ks.Pairwise (·<·)
 |[],_=>.nil
 |[x],_=>by simp
 |x::y::r,h=>by
  have ih:=rise_lt (y::r) (fun k c d h1 h2=>h (k+1) c d h1 h2);have hxy:=h 0 x y rfl rfl;refine List.Pairwise.cons (fun z hz=>?_) ih;rcases List.mem_cons.1 hz with e|hz;·subst e;exact hxy
  ·have:=List.rel_of_pairwise_cons ih hz;omega
theorem rise_nodup{ks:List Nat}(h:∀k c d,ks[k]?=some c->ks[k+1]?=some d->c<d):ks.Nodup:=
 (rise_lt ks h).imp (fun h e=>by omega)
end
section
open Go.RowKit Go.Proofs.Tryz
theorem got_bad(rb:Nat)(s:ByteArray)(i:Nat)(lv:Value)(bad er at_ dep:Int)(c:Nat)(w:World)(h:RS w rb s i lv bad er at_ dep)(hs:s.size≤1099511627776)(hi:i≤s.size)(hb:0≤bad):
 Calls prog 73 #[Pq rb,.int .u8 (c:Int)] w fun e w'=>e=.returned (.bool false)∧RS w' rb s (sk s i) lv bad er at_ dep∧w.grownBy w' (some rb):=by
 have CS:=qH<|skip_any rb s i lv bad er at_ dep w h hs hi;clear h;go_enter func73,ntmps73;go_wp2_with fail;refine CS.mono ?_;rintro e w1 ⟨rfl,h1,g1⟩;have HR:=qH<|h1;have HG:=qH<|g1;have c3:=h1.c3;have hb':¬bad<0:=by omega
 have eb:=decide_eq_false hb';clear h1 g1 CS;go_wp2_with fail;go_quiet(fail);go_wp2;go_ret;exact⟨rfl,HR.drewN _,gr_trans HG (gr_drewN _ _ _)⟩
def mustB(s:ByteArray)(i c:Nat)(bad:Int):Int:=if isAt s i c then bad else(sk s i:Int)
theorem must_any(rb:Nat)(s:ByteArray)(i:Nat)(lv:Value)(bad er at_ dep:Int)(c:Nat)(w:World)(h:RS w rb s i lv bad er at_ dep)(hs:s.size≤1099511627776)(hi:i≤s.size)(hc:c<256)(hb:bad<0):
 Calls prog 48 #[Pq rb,.int .u8 (c:Int)] w fun e w'=>e=.returned (.tuple #[])∧RS w' rb s (gotI s i c) lv (mustB s i c bad) er at_ dep∧w.grownBy w' (some rb):=by
 have CG:=qH<|got_any rb s i lv bad er at_ dep c w h hs hi hc hb;obtain⟨ia,hia⟩:=nmd (isAt s i c);obtain⟨gi,hgi⟩:=nmd (gotI s i c);have HM:Hid (mustB s i c bad=if ia then bad else(sk s i:Int)):=by show _=_;unfold mustB;rw[hia]
 have HGI:Hid (ia=false->gi=sk s i):=by intro e;rw[<-hgi];unfold gotI;rw[<-hia]at e;unfold isAt at e;rw[if_neg (by simpa using e)]
 rw[hia,hgi]at CG;rw[hgi];clear h hia hgi;go_enter func48,ntmps48;go_wp2_with fail;refine CG.mono ?_;rintro e w1 ⟨rfl,h1,g1⟩;have HG:=qH<|g1;have c1:=h1.c1;have HR:=qH<|h1;have CF:=qH<|fail_any rb s gi lv bad er at_ dep gi w1 h1;clear h1 g1 CG;cases ia with
 |true=>
  have HE:Hid (RS w1 rb s gi lv (mustB s i c bad) er at_ dep):=by rw[HM.out];exact HR
  clear CF HR;go_wp2;go_end0;exact⟨rfl,HE,HG⟩
 |false=>
  have HE:Hid (badI bad (gi:Int)=mustB s i c bad):=by show _=_;rw[HM.out,HGI rfl];unfold badI;rw[if_pos hb];rfl
  clear HR;go_wp2_with fail;refine CF.mono ?_;rintro e w2 ⟨rfl,h2,g2⟩;have H2:Hid (RS w2 rb s gi lv (mustB s i c bad) er at_ dep):=by rw[<-HE.out];exact h2
  have HG2:=qH<|gr_trans HG g2;clear h2 g2;go_wp2;go_end0;exact⟨rfl,H2,HG2⟩
theorem must_bad(rb:Nat)(s:ByteArray)(i:Nat)(lv:Value)(bad er at_ dep:Int)(c:Nat)(w:World)(h:RS w rb s i lv bad er at_ dep)(hs:s.size≤1099511627776)(hi:i≤s.size)(hb:0≤bad):
 Calls prog 48 #[Pq rb,.int .u8 (c:Int)] w fun e w'=>e=.returned (.tuple #[])∧RS w' rb s (sk s i) lv bad er at_ dep∧w.grownBy w' (some rb):=by
 have CG:=qH<|got_bad rb s i lv bad er at_ dep c w h hs hi hb;obtain⟨gi,hgi⟩:=nmd (sk s i);rw[hgi]at CG⊢;clear h hgi;go_enter func48,ntmps48;go_wp2_with fail;refine CG.mono ?_;rintro e w1 ⟨rfl,h1,g1⟩;have HG:=qH<|g1;have c1:=h1.c1;have CF:=qH<|fail_any rb s gi lv bad er at_ dep gi w1 h1;have HE:Hid (badI bad (gi:Int)=bad):=by show _=_;unfold badI;rw[if_neg (by omega)]
 clear h1 g1 CG;go_wp2_with fail;refine CF.mono ?_;rintro e w2 ⟨rfl,h2,g2⟩;have H2:Hid (RS w2 rb s gi lv bad er at_ dep):=by have:=h2;rw[HE.out]at this;exact this
 have HG2:=qH<|gr_trans HG g2;clear h2 g2;go_wp2;go_end0;exact⟨rfl,H2,HG2⟩
def wrE(er at_ e a:Int):Int:=if at_<0∨a<at_ then e else er
def wrA(at_ a:Int):Int:=if at_<0∨a<at_ then a else at_
theorem wrong_any(rb:Nat)(s:ByteArray)(i:Nat)(lv:Value)(bad er at_ dep:Int)(e a:Int)(w:World)(h:RS w rb s i lv bad er at_ dep):
 Calls prog 45 #[Pq rb,Iq e,Iq a] w fun r w'=>r=.returned (.tuple #[])∧RS w' rb s i lv bad (wrE er at_ e a) (wrA at_ a) dep∧w.grownBy w' (some rb):=by
 have c5:=h.c5;have c4:=h.c4;have f4:=h.fz 4;have f5:=h.fz 5;have HR:=qH<|h;clear h;by_cases hc:at_<0∨a<at_
 ·have HN:Hid (RS ((w.setCell ⟨rb,4,none⟩ (Iq e)).setCell ⟨rb,5,none⟩ (Iq a)) rb s i lv bad (wrE er at_ e a) (wrA at_ a) dep):=by unfold wrE wrA;rw[if_pos hc,if_pos hc];exact HR.setErr e a
  have HG:Hid (w.grownBy ((w.setCell ⟨rb,4,none⟩ (Iq e)).setCell ⟨rb,5,none⟩ (Iq a)) (some rb)):=gr_trans (gr_set _ _ _ _) (gr_set _ _ _ _);by_cases h1:at_<0;·clear hc;go_enter func45,ntmps45;go_wp2;go_end0;exact⟨rfl,HN,HG⟩
  ·have h2:a<at_:=by omega
   clear hc;go_enter func45,ntmps45;go_wp2;go_end0;exact⟨rfl,HN,HG⟩
 ·have HN:Hid (RS w rb s i lv bad (wrE er at_ e a) (wrA at_ a) dep):=by unfold wrE wrA;rw[if_neg hc,if_neg hc];exact HR
  have h1:¬at_<0:=by omega
  have h2:¬a<at_:=by omega
  clear hc;go_enter func45,ntmps45;go_wp2;go_end0;exact⟨rfl,HN,gr_refl _ _⟩
end
section
open Go.RowKit Go.Proofs.Tryz
theorem ext_self(s:ByteArray)(k:Nat):s.extract k k=ByteArray.empty:=by apply ByteArray.ext;simp
def wordB(s:ByteArray)(i:Nat)(bad:Int):Int:=if run letter s (sk s i)=sk s i then(sk s i:Int)else bad
theorem word_any(rb:Nat)(s:ByteArray)(i:Nat)(lv:Value)(bad er at_ dep:Int)(w:World)(h:RS w rb s i lv bad er at_ dep)(hs:s.size≤1099511627776)(hi:i≤s.size)(hb:bad<0):
 Calls prog 42 #[Pq rb] w fun e w'=>e=.returned (.string (s.extract (sk s i) (run letter s (sk s i))))∧RS w' rb s (run letter s (sk s i)) lv (wordB s i bad) er at_ dep∧w.grownBy w' (some rb):=by
 have CS:=qH<|skip_any rb s i lv bad er at_ dep w h hs hi;obtain⟨j,hj⟩:=nmd (sk s i);have hjs:=sk_le s i hi;have HWB:Hid (wordB s i bad=if run letter s j=j then(j:Int)else bad):=by show _=_;unfold wordB;rw[hj]
 rw[hj]at CS hjs⊢;clear h hj;go_enter func42,ntmps42;go_wp2_with fail;refine CS.mono ?_;rintro e w1 ⟨rfl,h1,g1⟩;have HR:=qH<|h1;have HG1:=qH<|g1;have d1:=h1.c1;have eb:=decide_eq_true hb;clear h1 g1 CS;go_wp2;clear d1;go_loopw[10] (fun _ wr=>∃k:Nat,j≤k∧k≤s.size∧Hid (run letter s k=run letter s j)∧Hid (RS wr rb s k lv bad er at_ dep)∧Hid (w.grownBy wr (some rb))) (fun _ wr=>s.size-rdI wr rb);case atStart=>exact⟨j,Nat.le_refl _,hjs,rfl,HR,HG1⟩
 case round=>
  obtain⟨k,hjk,hk,HK,HS,HG⟩:=hrel;have hs1:=HS.out;have c0:=hs1.c0;have c1:=hs1.c1;have c3:=hs1.c3;have f1:=hs1.fz 1;have HRD:=qH<|hs1.rdI;by_cases hgo:letter (bat s k)=true
  ·have hlt:k<s.size:=by
    by_cases e:k<s.size;·exact e
    ·rw[bat_out e]at hgo;cases hgo
   have hlt':(k:Int)<(s.size:Int):=by omega
   have el:=decide_eq_true hlt';obtain⟨x,hx⟩:=nmd (s[k].toNat);have hbx:bat s k=x:=by rw[bat_in hlt,hx]
   have HK2:Hid (run letter s (k+1)=run letter s j):=by rw[<-HK.out];exact(run_step hlt hgo).symm
   rw[hbx]at hgo;unfold letter at hgo;simp only[Bool.and_eq_true,decide_eq_true_eq]at hgo;obtain⟨l1,l2⟩:=hgo;have e1:decide ((97:Int)≤(x:Int))=true:=decide_eq_true (by omega);have e2:decide ((x:Int)≤122)=true:=decide_eq_true (by omega);have HN:=qH<|fun q=>by have:=(HS.drewN q).setI (k+1);rw[show((k+1:Nat):Int)=(k:Int)+1 by omega]at this;exact this
   clear hs1 HK HS hbx;go_wp2_with fail;go_quiet(fail);go_wp2;go_roundw;case rel=>exact⟨k+1,by omega,by omega,HK2,HN _,gr_trans (gr_trans HG (gr_drewN _ _ _)) (gr_set _ _ _ _)⟩
   case measure=>rw[(HN _).rdI,HRD.out];omega
  ·have hrk:run letter s j=k:=by rw[<-HK.out];exact run_stop (by simpa using hgo)
   have HRK:=qH<|hrk;have CF:=qH<|fun g W h=>fail_any rb s g lv bad er at_ dep g W h;clear hrk hs1 HK;by_cases hlt:k<s.size
   ·have hlt':(k:Int)<(s.size:Int):=by omega
    have el:=decide_eq_true hlt';obtain⟨x,hx⟩:=nmd (s[k].toNat);have hbx:bat s k=x:=by rw[bat_in hlt,hx]
    rw[hbx]at hgo;unfold letter at hgo;simp only[Bool.and_eq_true,decide_eq_true_eq]at hgo;clear hbx;by_cases l1:97≤x
    ·have l2:¬x≤122:=fun e=>hgo ⟨l1,e⟩;have e1:decide ((97:Int)≤(x:Int))=true:=decide_eq_true (by omega);have e2:decide ((x:Int)≤122)=false:=decide_eq_false (by omega);clear hgo;go_wp2_with fail;go_quiet(fail);by_cases hkj:k=j
     ·subst hkj;have HE:Hid (badI bad (k:Int)=wordB s i bad):=by show _=_;rw[HWB.out,if_pos HRK.out];unfold badI;rw[if_pos hb]
      go_wp2_with fail;refine(CF k _ (HS.drewN _)).mono ?_;rintro e w2 ⟨rfl,h2,g2⟩;have H2:Hid (RS w2 rb s k lv (wordB s i bad) er at_ dep):=by have:=h2;rw[HE.out]at this;exact this
      have HG2:=qH<|gr_trans (gr_trans HG (gr_drewN _ _ _)) g2;have d0:=h2.c0;have d1:=h2.c1;clear h2 g2 c0 c1 c3 f1;go_wp2_with fail;go_quiet(fail);go_wp2;go_ret;exact⟨by rw[HRK.out,ext_self];rfl,by rw[HRK.out];exact H2.drewN _,gr_trans HG2 (gr_drewN _ _ _)⟩
     ·have ewb:wordB s i bad=bad:=by rw[HWB.out,if_neg (by rw[HRK.out];exact hkj)]
      have HE:Hid (RS wr rb s k lv (wordB s i bad) er at_ dep):=by rw[ewb];exact HS
      clear ewb;have hkj':((k:Int)==(j:Int))=false:=by simp;omega
      have hjk':(j:Int)≤(k:Int):=by omega
      have hks:(k:Int)≤(s.size:Int):=by omega
      go_wp2_with fail;go_quiet(fail);go_wp2;go_ret;exact⟨by rw[HRK.out];rfl,by rw[HRK.out];exact(HE.drewN _).drewN _,gr_trans (gr_trans HG (gr_drewN _ _ _)) (gr_drewN _ _ _)⟩
    ·have e1:decide ((97:Int)≤(x:Int))=false:=decide_eq_false (by omega);clear hgo;go_wp2_with fail;go_quiet(fail);by_cases hkj:k=j
     ·subst hkj;have HE:Hid (badI bad (k:Int)=wordB s i bad):=by show _=_;rw[HWB.out,if_pos HRK.out];unfold badI;rw[if_pos hb]
      go_wp2_with fail;refine(CF k _ (HS.drewN _)).mono ?_;rintro e w2 ⟨rfl,h2,g2⟩;have H2:Hid (RS w2 rb s k lv (wordB s i bad) er at_ dep):=by have:=h2;rw[HE.out]at this;exact this
      have HG2:=qH<|gr_trans (gr_trans HG (gr_drewN _ _ _)) g2;have d0:=h2.c0;have d1:=h2.c1;clear h2 g2 c0 c1 c3 f1;go_wp2_with fail;go_quiet(fail);go_wp2;go_ret;exact⟨by rw[HRK.out,ext_self];rfl,by rw[HRK.out];exact H2.drewN _,gr_trans HG2 (gr_drewN _ _ _)⟩
     ·have ewb:wordB s i bad=bad:=by rw[HWB.out,if_neg (by rw[HRK.out];exact hkj)]
      have HE:Hid (RS wr rb s k lv (wordB s i bad) er at_ dep):=by rw[ewb];exact HS
      clear ewb;have hkj':((k:Int)==(j:Int))=false:=by simp;omega
      have hjk':(j:Int)≤(k:Int):=by omega
      have hks:(k:Int)≤(s.size:Int):=by omega
      go_wp2_with fail;go_quiet(fail);go_wp2;go_ret;exact⟨by rw[HRK.out];rfl,by rw[HRK.out];exact(HE.drewN _).drewN _,gr_trans (gr_trans HG (gr_drewN _ _ _)) (gr_drewN _ _ _)⟩
   ·have hlt':¬(k:Int)<(s.size:Int):=by omega
    have el:=decide_eq_false hlt';clear hgo;go_wp2_with fail;go_quiet(fail);by_cases hkj:k=j
    ·subst hkj;have HE:Hid (badI bad (k:Int)=wordB s i bad):=by show _=_;rw[HWB.out,if_pos HRK.out];unfold badI;rw[if_pos hb]
     go_wp2_with fail;refine(CF k _ (HS.drewN _)).mono ?_;rintro e w2 ⟨rfl,h2,g2⟩;have H2:Hid (RS w2 rb s k lv (wordB s i bad) er at_ dep):=by have:=h2;rw[HE.out]at this;exact this
     have HG2:=qH<|gr_trans (gr_trans HG (gr_drewN _ _ _)) g2;have d0:=h2.c0;have d1:=h2.c1;clear h2 g2 c0 c1 c3 f1;go_wp2_with fail;go_quiet(fail);go_wp2;go_ret;exact⟨by rw[HRK.out,ext_self];rfl,by rw[HRK.out];exact H2.drewN _,gr_trans HG2 (gr_drewN _ _ _)⟩
    ·have ewb:wordB s i bad=bad:=by rw[HWB.out,if_neg (by rw[HRK.out];exact hkj)]
     have HE:Hid (RS wr rb s k lv (wordB s i bad) er at_ dep):=by rw[ewb];exact HS
     clear ewb;have hkj':((k:Int)==(j:Int))=false:=by simp;omega
     have hjk':(j:Int)≤(k:Int):=by omega
     have hks:(k:Int)≤(s.size:Int):=by omega
     go_wp2_with fail;go_quiet(fail);go_wp2;go_ret;exact⟨by rw[HRK.out];rfl,by rw[HRK.out];exact(HE.drewN _).drewN _,gr_trans (gr_trans HG (gr_drewN _ _ _)) (gr_drewN _ _ _)⟩
end
section
open Go.RowKit Go.Proofs.Tryz
theorem word_bad(rb:Nat)(s:ByteArray)(i:Nat)(lv:Value)(bad er at_ dep:Int)(w:World)(h:RS w rb s i lv bad er at_ dep)(hs:s.size≤1099511627776)(hi:i≤s.size)(hb:0≤bad):
 Calls prog 42 #[Pq rb] w fun e w'=>e=.returned (.string ByteArray.empty)∧RS w' rb s (sk s i) lv bad er at_ dep∧w.grownBy w' (some rb):=by
 have CS:=qH<|skip_any rb s i lv bad er at_ dep w h hs hi;obtain⟨j,hj⟩:=nmd (sk s i);have hjs:=sk_le s i hi;rw[hj]at CS hjs⊢;clear h hj;go_enter func42,ntmps42;go_wp2_with fail;refine CS.mono ?_;rintro e w1 ⟨rfl,h1,g1⟩;have HR:=qH<|h1;have HG1:=qH<|g1;have d1:=h1.c1;have hb':¬bad<0:=by omega
 have eb:=decide_eq_false hb';clear h1 g1 CS;go_wp2;clear d1;go_loopw[10] (fun _ wr=>Hid (RS wr rb s j lv bad er at_ dep)∧Hid (w.grownBy wr (some rb))) (fun _ wr=>0);case atStart=>exact⟨HR,HG1⟩
 case round=>
  obtain⟨HS,HG⟩:=hrel;have hs1:=HS.out;have c0:=hs1.c0;have c1:=hs1.c1;have c3:=hs1.c3;have CF:=qH<|fun W h=>fail_any rb s j lv bad er at_ dep j W h;have HE:Hid (badI bad (j:Int)=bad):=by show _=_;unfold badI;rw[if_neg (by omega)]
  clear hs1;go_wp2_with fail;go_quiet(fail);go_wp2_with fail;refine(CF _ (HS.drewN _)).mono ?_;rintro e w2 ⟨rfl,h2,g2⟩;have H2:Hid (RS w2 rb s j lv bad er at_ dep):=by have:=h2;rw[HE.out]at this;exact this
  have HG2:=qH<|gr_trans (gr_trans HG (gr_drewN _ _ _)) g2;have d0:=h2.c0;have d1:=h2.c1;clear h2 g2 c0 c1 c3;go_wp2_with fail;go_quiet(fail);go_wp2;go_ret;exact⟨rfl,H2.drewN _,gr_trans HG2 (gr_drewN _ _ _)⟩
theorem str_ne{a b:ByteArray}(h:¬a=b):(a.toList==b.toList)=false:=by rw[beq_eq_false_iff_ne];intro e;rw[ByteArray.toList_eq,ByteArray.toList_eq]at e;exact h (ByteArray.ext (Array.toList_inj.1 e))
def findF:List ByteArray->ByteArray->Nat->Int
 |[],_,_=>-1
 |a::r,x,k=>if a=x then(k:Int)else findF r x (k+1)
theorem findF_bd(x:ByteArray):∀(ws:List ByteArray) (k:Nat),findF ws x k=-1∨((k:Int)≤findF ws x k∧findF ws x k<(k:Int)+ws.length)
 |[],k=>.inl rfl
 |a::r,k=>by
  unfold findF;by_cases e:a=x;·right;simp only[e,if_true];simp;omega
  ·simp only[e,if_false];rcases findF_bd x r (k+1)with h|h;·exact .inl h
   ·right;simp;omega
theorem find_any(ws:List ByteArray)(x:ByteArray)(blk off cap n:Nat)(w:World)(hb:blk<w.heap.size)(hc:∀j,j<ws.length->w.cell? ⟨blk,off+j,none⟩=some (.string (ws[j]?.getD ByteArray.empty)))(hn:ws.length=n)(hn2:n≤1099511627776):
 Calls prog 43 #[.slice (some ⟨blk,off,none⟩) n cap,.string x] w fun e w'=>e=.returned (Iq (findF ws x 0))∧w'=w:=by
 have HC:=qH<|hc;have HN:=qH<|hn;clear hc hn;go_enter func43,ntmps43;go_wp2;go_loop[5] (fun i=>∃k:Nat,k≤n∧i=Iq k∧Hid (findF ws x 0=findF (ws.drop k) x k)) (fun i=>n-(intOf i).toNat);case atStart=>exact⟨0,Nat.zero_le _,rfl,by show _=_;rw[List.drop_zero]⟩
 case round=>
  obtain⟨k,hk,rfl,HF⟩:=hrel;by_cases hlt:k<n
  ·have hlt':(k:Int)<(n:Int):=by omega
   have hkw:k<ws.length:=by rw[HN.out];exact hlt
   have hcell:=HC k hkw;obtain⟨y,hy⟩:=nmd (ws[k]?.getD ByteArray.empty);rw[hy]at hcell;have hdrop:ws.drop k=y::ws.drop (k+1):=by rw[<-hy,List.getElem?_eq_getElem hkw];exact List.drop_eq_getElem_cons hkw
   have HF2:Hid (findF ws x 0=if y=x then(k:Int)else findF (ws.drop (k+1)) x (k+1)):=by show _=_;rw[HF.out,hdrop];rfl
   clear hdrop hy HF hkw;by_cases e:y=x
   ·have HE:Hid (findF ws x 0=(k:Int)):=by show _=_;rw[HF2.out,if_pos e]
    subst e;clear HF2;go_wp2;go_ret;exact⟨by rw[HE.out];rfl,rfl⟩
   ·have HE:Hid (findF ws x 0=findF (ws.drop (k+1)) x (k+1)):=by show _=_;rw[HF2.out,if_neg e]
    have e1:=str_ne e;clear HF2;go_wp2;go_round;case rel=>exact⟨k+1,by omega,by go_num,HE⟩
    case measure=>simp[intOf];omega
  ·have hlt':¬(k:Int)<(n:Int):=by omega
   have HE:Hid (findF ws x 0=-1):=by show _=_;rw[HF.out,List.drop_eq_nil_of_le (by rw[HN.out];omega)];rfl
   clear HF;go_wp2;go_ret;exact⟨by rw[HE.out];rfl,rfl⟩
end
section
open Go.RowKit Go.Proofs.Tryz
def dv(s:ByteArray)(j:Nat):Nat->Int
 |0=>0
 |c+1=>if c<6 then 10*dv s j c+((bat s (j+c):Int)-48)else dv s j c
theorem dv_bd(s:ByteArray)(j:Nat):∀c,(∀t,t<c->48≤bat s (j+t)∧bat s (j+t)≤57)->0≤dv s j c∧dv s j c≤999999∧(c≤5->dv s j c≤99999)∧(c≤4->dv s j c≤9999)∧(c≤3->dv s j c≤999)∧(c≤2->dv s j c≤99)∧(c≤1->dv s j c≤9)∧(c=0->dv s j c=0)
 |0,_=>by simp[dv]
 |c+1,h=>by have ih:=dv_bd s j c (fun t ht=>h t (by omega));have hd:=h c (by omega);unfold dv;split<;>omega
theorem run_all{p:Nat->Bool}(s:ByteArray):∀f i t,runF p s f i>i+t->p (bat s (i+t))=true
 |0,i,t,h=>by simp[runF]at h;omega
 |f+1,i,t,h=>by
  rw[runF]at h;by_cases c:p (bat s i)=true;·rw[if_pos c]at h;match t with
   |0=>exact c
   |t+1=>have:=run_all (p:=p) s f (i+1) t (by omega);rw[show i+(t+1)=i+1+t by omega];exact this
  ·rw[if_neg c]at h;omega
def numB(s:ByteArray)(j k:Nat)(bad:Int):Int:=if k=j∨j+6<k∨(j+1<k∧bat s j=48)then(j:Int)else bad
theorem number_any(rb:Nat)(s:ByteArray)(i:Nat)(lv:Value)(bad er at_ dep:Int)(w:World)(h:RS w rb s i lv bad er at_ dep)(hs:s.size≤1099511627776)(hi:i≤s.size)(hb:bad<0):
 Calls prog 74 #[Pq rb] w fun e w'=>e=.returned (.tuple #[Iq (dv s (sk s i) (run digit s (sk s i)-sk s i)),Iq (sk s i:Int)])∧RS w' rb s (run digit s (sk s i)) lv (numB s (sk s i) (run digit s (sk s i)) bad) er at_ dep∧w.grownBy w' (some rb):=by
 have CS:=qH<|skip_any rb s i lv bad er at_ dep w h hs hi;obtain⟨j,hj⟩:=nmd (sk s i);have hjs:=sk_le s i hi;rw[hj]at CS hjs⊢;have HDG:Hid (∀t,j+t<run digit s j->48≤bat s (j+t)∧bat s (j+t)≤57):=fun t ht=>by have:=run_all (p:=digit) s (s.size-j) j t ht;unfold digit at this;simpa using this
 clear h hj;go_enter func74,ntmps74;go_wp2_with fail;refine CS.mono ?_;rintro e w1 ⟨rfl,h1,g1⟩;have HR:=qH<|h1;have HG1:=qH<|g1;have d1:=h1.c1;have eb:=decide_eq_true hb;clear h1 g1 CS;go_wp2;clear d1;go_loopw[5,13] (fun v _ wr=>∃(k:Nat) (n:Int),v=Iq n∧j≤k∧k≤s.size∧0≤n∧n≤999999∧Hid (n=dv s j (k-j))∧Hid (run digit s k=run digit s j)∧Hid (RS wr rb s k lv bad er at_ dep)∧Hid (w.grownBy wr (some rb))) (fun _ _ wr=>s.size-rdI wr rb);case atStart=>exact⟨j,0,rfl,Nat.le_refl _,hjs,by omega,by omega,by show _=_;rw[Nat.sub_self];rfl,rfl,HR,HG1⟩
 case round=>
  obtain⟨k,n,rfl,hjk,hk,n0,n1,HN0,HK,HS,HG⟩:=hrel;have hs1:=HS.out;have c0:=hs1.c0;have c1:=hs1.c1;have c3:=hs1.c3;have f1:=hs1.fz 1;have HRD:=qH<|hs1.rdI;by_cases hgo:digit (bat s k)=true
  ·have hlt:k<s.size:=by
    by_cases e:k<s.size;·exact e
    ·rw[bat_out e]at hgo;cases hgo
   have hlt':(k:Int)<(s.size:Int):=by omega
   have el:=decide_eq_true hlt';obtain⟨x,hx⟩:=nmd (s[k].toNat);have hbx:bat s k=x:=by rw[bat_in hlt,hx]
   have hrk:=run_step hlt hgo;have HK2:Hid (run digit s (k+1)=run digit s j):=by rw[<-HK.out];exact hrk.symm
   have hreach:k<run digit s j:=by rw[<-HK.out,hrk];exact run_ge _ _ _
   have hnew:dv s j (k+1-j)=if k-j<6 then 10*n+((x:Int)-48)else n:=by rw[show k+1-j=(k-j)+1 by omega,dv,<-HN0.out,show j+(k-j)=k by omega,hbx]
   have hbnd:=dv_bd s j (k-j) (fun t ht=>HDG t (by omega));have hbnd2:=dv_bd s j (k+1-j) (fun t ht=>HDG t (by omega));rw[<-HN0.out]at hbnd;rw[hbx]at hgo;unfold digit at hgo;simp only[Bool.and_eq_true,decide_eq_true_eq]at hgo;obtain⟨l1,l2⟩:=hgo;have e1:decide ((48:Int)≤(x:Int))=true:=decide_eq_true (by omega);have e2:decide ((x:Int)≤57)=true:=decide_eq_true (by omega);have HN:=qH<|fun q=>by have:=(HS.drewN q).setI (k+1);rw[show((k+1:Nat):Int)=(k:Int)+1 by omega]at this;exact this
   by_cases h6:k-j<6
   ·rw[if_pos h6]at hnew;have h6':(k:Int)-(j:Int)<6:=by omega
    have HND:Hid (10*n+(x:Int)-48=dv s j (k+1-j)):=by show _=_;rw[hnew];omega
    have nb0:0≤10*n+(x:Int)-48:=by omega
    have nb1:10*n+(x:Int)-48≤999999:=by rw[HND.out];exact hbnd2.2.1
    clear hs1 HK HS hbx hnew hbnd hbnd2 hrk hreach HN0;go_wp2_with fail;go_quiet(fail);go_wp2_with fail;go_quiet(fail);go_wp2;go_roundw;case rel=>exact⟨k+1,_,rfl,by omega,by omega,nb0,nb1,HND,HK2,HN _,gr_trans (gr_trans HG (gr_drewN _ _ _)) (gr_set _ _ _ _)⟩
    case measure=>rw[(HN _).rdI,HRD.out];omega
   ·rw[if_neg h6]at hnew;have h6':¬(k:Int)-(j:Int)<6:=by omega
    have HND:Hid (n=dv s j (k+1-j)):=by show _=_;rw[hnew]
    clear hs1 HK HS hbx hnew hbnd hbnd2 hrk hreach HN0;go_wp2_with fail;go_quiet(fail);go_wp2;go_roundw;case rel=>exact⟨k+1,n,rfl,by omega,by omega,n0,n1,HND,HK2,HN _,gr_trans (gr_trans HG (gr_drewN _ _ _)) (gr_set _ _ _ _)⟩
    case measure=>rw[(HN _).rdI,HRD.out];omega
  ·have hrk:run digit s j=k:=by rw[<-HK.out];exact run_stop (by simpa using hgo)
   have HRK:=qH<|hrk;have CF:=qH<|fun W h=>fail_any rb s k lv bad er at_ dep j W h;clear hrk hs1 HK;by_cases hlt:k<s.size;focus
    have hlt':(k:Int)<(s.size:Int):=by omega
    have el:=decide_eq_true hlt';obtain⟨x,hx⟩:=nmd (s[k].toNat);have hbx:bat s k=x:=by rw[bat_in hlt,hx]
    rw[hbx]at hgo;unfold digit at hgo;simp only[Bool.and_eq_true,decide_eq_true_eq]at hgo;clear hbx;by_cases l1:48≤x;focus have l2:¬x≤57:=fun e=>hgo ⟨l1,e⟩;have e1:decide ((48:Int)≤(x:Int))=true:=decide_eq_true (by omega);have e2:decide ((x:Int)≤57)=false:=decide_eq_false (by omega);clear hgo;go_wp2_with fail;go_quiet(fail)
    rotate_left;focus have e1:decide ((48:Int)≤(x:Int))=false:=decide_eq_false (by omega);clear hgo;go_wp2_with fail;go_quiet(fail)
   rotate_left 2;focus
    have hlt':¬(k:Int)<(s.size:Int):=by omega
    have el:=decide_eq_false hlt';clear hgo;go_wp2_with fail;go_quiet(fail)
   all_goals
    by_cases t0:k=j
    ·have HE:Hid (badI bad (j:Int)=numB s j k bad):=by show _=_;unfold numB badI;rw[if_pos hb,if_pos (.inl t0)]
     have u0:(k:Int)-(j:Int)=0:=by omega
     go_wp2_with fail;refine(CF _ (HS.drewN _)).mono ?_;rintro e w2 ⟨rfl,h2,g2⟩;have H2:Hid (RS w2 rb s k lv (numB s j k bad) er at_ dep):=by have:=h2;rw[HE.out]at this;exact this
     have HG2:=qH<|gr_trans (gr_trans HG (gr_drewN _ _ _)) g2;clear h2 g2;go_wp2;go_ret2;exact⟨by rw[HRK.out,<-HN0.out];rfl,by rw[HRK.out];exact H2,HG2⟩
    ·by_cases t6:j+6<k
     ·have HE:Hid (badI bad (j:Int)=numB s j k bad):=by show _=_;unfold numB badI;rw[if_pos hb,if_pos (.inr (.inl t6))]
      have u0:¬(k:Int)-(j:Int)=0:=by omega
      have u1:((k:Int)-(j:Int)==0)=false:=by simp;omega
      have u6:(6:Int)<(k:Int)-(j:Int):=by omega
      go_wp2_with fail;refine(CF _ (HS.drewN _)).mono ?_;rintro e w2 ⟨rfl,h2,g2⟩;have H2:Hid (RS w2 rb s k lv (numB s j k bad) er at_ dep):=by have:=h2;rw[HE.out]at this;exact this
      have HG2:=qH<|gr_trans (gr_trans HG (gr_drewN _ _ _)) g2;clear h2 g2;go_wp2;go_ret2;exact⟨by rw[HRK.out,<-HN0.out];rfl,by rw[HRK.out];exact H2,HG2⟩
     ·have u0:¬(k:Int)-(j:Int)=0:=by omega
      have u1:((k:Int)-(j:Int)==0)=false:=by simp;omega
      have u6:¬(6:Int)<(k:Int)-(j:Int):=by omega
      by_cases t1:j+1<k
      ·have v1:(1:Int)<(k:Int)-(j:Int):=by omega
       have hjl:j<s.size:=by omega
       have hjl':(j:Int)<(s.size:Int):=by omega
       obtain⟨z,hz⟩:=nmd (s[j].toNat);have hbz:bat s j=z:=by rw[bat_in hjl,hz]
       by_cases tz:z=48
       ·have HE:Hid (badI bad (j:Int)=numB s j k bad):=by show _=_;unfold numB badI;rw[if_pos hb,if_pos (.inr (.inr ⟨t1,by rw[hbz];exact tz⟩))]
        subst tz;clear hbz;go_wp2_with fail;refine(CF _ (HS.drewN _)).mono ?_;rintro e w2 ⟨rfl,h2,g2⟩;have H2:Hid (RS w2 rb s k lv (numB s j k bad) er at_ dep):=by have:=h2;rw[HE.out]at this;exact this
        have HG2:=qH<|gr_trans (gr_trans HG (gr_drewN _ _ _)) g2;clear h2 g2;go_wp2;go_ret2;exact⟨by rw[HRK.out,<-HN0.out];rfl,by rw[HRK.out];exact H2,HG2⟩
       ·have HE:Hid (numB s j k bad=bad):=by show _=_;unfold numB;rw[if_neg (by rw[hbz];omega)]
        have ez:((z:Int)==48)=false:=by simp;omega
        clear hbz;go_wp2;go_ret2;exact⟨by rw[HRK.out,<-HN0.out];rfl,by rw[HRK.out,HE.out];exact HS.drewN _,gr_trans HG (gr_drewN _ _ _)⟩
      ·have v1:¬(1:Int)<(k:Int)-(j:Int):=by omega
       have HE:Hid (numB s j k bad=bad):=by show _=_;unfold numB;rw[if_neg (by omega)]
       go_wp2;go_ret2;exact⟨by rw[HRK.out,<-HN0.out];rfl,by rw[HRK.out,HE.out];exact HS.drewN _,gr_trans HG (gr_drewN _ _ _)⟩
end
section
open Go.RowKit Go.Proofs.Tryz
theorem conv_new(xs:List Int)(hx:∀x∈xs,0≤x∧x<256)(w:World):
 (convert 134 9 (Sq w.heap.size xs.length xs.length)).run prog (w.alloc (.cells (xs.map (Value.int .u8)).toArray 5))=
  .ok (.string ⟨(xs.map fun x=>x.toNat.toUInt8).toArray⟩) (w.alloc (.cells (xs.map (Value.int .u8)).toArray 5)):=by
 have h:=run_convert_bytes_back (P:=prog) (w.alloc (.cells (xs.map (Value.int .u8)).toArray 5)) 134 9 5 ⟨w.heap.size,0,none⟩ xs.length (xs.map fun x=>x.toNat.toUInt8) underlying134 underlying5 underlying9 (by
  intro j hj;simp only[List.length_map]at hj;have e:(⟨w.heap.size,0,none⟩:Addr).add j=⟨w.heap.size,j,none⟩:=by unfold Addr.add;split<;>simp_all
  rw[e,World.cell?_alloc_mark];have hb:=hx xs[j] (List.getElem_mem hj);simp[hj];omega);simpa using h
theorem conv1(a:Int)(ha:0≤a∧a<256)(w:World):
 (convert 134 9 (Sq w.heap.size 1 1)).run prog (w.alloc (.cells #[.int .u8 a] 5))=.ok (.string ⟨#[a.toNat.toUInt8]⟩) (w.alloc (.cells #[.int .u8 a] 5)):=
 conv_new [a] (by simpa using ha) w
theorem conv_at(a:Int)(ha:0≤a∧a<256)(w:World)(rb:Nat)(z:Int):∀q,(convert 134 9 (Sq w.heap.size 1 1)).run prog (((w.drewN q).setCell ⟨rb,1,none⟩ (Iq z)).alloc (.cells #[.int .u8 a] 5))=.ok (.string ⟨#[a.toNat.toUInt8]⟩) (((w.drewN q).setCell ⟨rb,1,none⟩ (Iq z)).alloc (.cells #[.int .u8 a] 5)):=fun q=>by
 have:=conv1 a ha ((w.drewN q).setCell ⟨rb,1,none⟩ (Iq z));have e:((w.drewN q).setCell ⟨rb,1,none⟩ (Iq z)).heap.size=w.heap.size:=by simp
 rw[e]at this;exact this
theorem conv_at2(a:Int)(ha:0≤a∧a<256)(w:World)(rb:Nat)(z y:Int):∀q q',(convert 134 9 (Sq w.heap.size 1 1)).run prog (((((w.drewN q).setCell ⟨rb,1,none⟩ (Iq z)).drewN q').setCell ⟨rb,1,none⟩ (Iq y)).alloc (.cells #[.int .u8 a] 5))=.ok (.string ⟨#[a.toNat.toUInt8]⟩) (((((w.drewN q).setCell ⟨rb,1,none⟩ (Iq z)).drewN q').setCell ⟨rb,1,none⟩ (Iq y)).alloc (.cells #[.int .u8 a] 5)):=fun q q'=>by
 have:=conv1 a ha ((((w.drewN q).setCell ⟨rb,1,none⟩ (Iq z)).drewN q').setCell ⟨rb,1,none⟩ (Iq y));have e:((((w.drewN q).setCell ⟨rb,1,none⟩ (Iq z)).drewN q').setCell ⟨rb,1,none⟩ (Iq y)).heap.size=w.heap.size:=by simp
 rw[e]at this;exact this
def qF(s:ByteArray):Nat->Nat->List UInt8->Except Nat (Nat×List UInt8)
 |0,p,_=>.error p
 |f+1,p,acc=>
  if bat s p=256 then .error p
  else if bat s p=34 then .ok (p+1,acc)
  else if bat s p=92 then
   if bat s (p+1)=34∨bat s (p+1)=92 then qF s f (p+2) (acc++[(bat s (p+1)).toUInt8])
   else if bat s (p+1)=110 then qF s f (p+2) (acc++[10])
   else .error (p+1)
  else qF s f (p+1) (acc++[(bat s p).toUInt8])
def quoR(s:ByteArray)(i:Nat):Except Nat (Nat×List UInt8):=if isAt s i 34 then qF s (s.size+2) (gotI s i 34) []else .error (sk s i)
def QOut(w w':World)(e:Ending)(rb:Nat)(s:ByteArray)(lv:Value)(bad er at_ dep:Int)(r:Except Nat (Nat×List UInt8)):Prop:=
 w.grownBy w' (some rb)∧match r with
  |.ok (p,t)=>e=.returned (.string ⟨t.toArray⟩)∧RS w' rb s p lv bad er at_ dep
  |.error b=>e=.returned (.string ByteArray.empty)∧∃p,p≤s.size∧RS w' rb s p lv (b:Int) er at_ dep
theorem quoted_any(rb:Nat)(s:ByteArray)(i:Nat)(lv:Value)(bad er at_ dep:Int)(w:World)(h:RS w rb s i lv bad er at_ dep)(hs:s.size≤1073741824)(hi:i≤s.size)(hb:bad<0):
 Calls prog 49 #[Pq rb] w fun e w'=>QOut w w' e rb s lv bad er at_ dep (quoR s i):=by
 have CM:Hid (Calls prog 48 #[Pq rb,.int .u8 34] w fun e w'=>e=.returned (.tuple #[])∧RS w' rb s (gotI s i 34) lv (mustB s i 34 bad) er at_ dep∧w.grownBy w' (some rb)):=must_any rb s i lv bad er at_ dep 34 w h (by omega) hi (by omega) hb;clear h;by_cases hia:isAt s i 34=true
 ·have hmb:mustB s i 34 bad=bad:=by unfold mustB;rw[if_pos hia]
  have HQ:Hid (quoR s i=qF s (s.size+2) (gotI s i 34) []):=by show _=_;unfold quoR;rw[if_pos hia]
  have hgs:gotI s i 34≤s.size:=by
   unfold isAt at hia;have e:bat s (sk s i)=34:=by simpa using hia
   unfold gotI;rw[if_pos e];by_cases c:sk s i<s.size;·omega
   ·rw[bat_out c]at e;omega
  obtain⟨j,hj⟩:=nmd (gotI s i 34);rw[hmb,hj]at CM;rw[hj]at HQ hgs;clear hmb hj hia;go_enter func49,ntmps49;go_wp2_with fail;refine CM.mono ?_;rintro e w1 ⟨rfl,h1,g1⟩;have HR:=qH<|h1;have HG1:=qH<|g1;clear h1 g1 CM;go_wp2;go_loopw[3,7] (fun v _ wr=>∃(k f:Nat) (Y:Array UInt8),v=.string ⟨Y⟩∧k≤s.size∧Y.size≤k∧s.size<k+f∧Hid (qF s f k Y.toList=quoR s i)∧Hid (RS wr rb s k lv bad er at_ dep)∧Hid (w.grownBy wr (some rb))) (fun _ _ wr=>s.size-rdI wr rb);case atStart=>exact⟨j,s.size+2,#[],rfl,hgs,by simp,by omega,by rw[HQ.out];rfl,HR,HG1⟩
  case round=>
   obtain⟨k,f,Y,rfl,hk,hY,hf,HF,HS,HG⟩:=hrel;have hs1:=HS.out;have c0:=hs1.c0;have c1:=hs1.c1;have c3:=hs1.c3;have f1:=hs1.fz 1;have HRD:=qH<|hs1.rdI;have CF:=qH<|fun g W h=>fail_any rb s g lv bad er at_ dep g W h;have HBI:Hid (∀a,badI bad a=a):=fun a=>by unfold badI;rw[if_pos hb]
   obtain⟨f,rfl⟩:∃f',f=f'+1:=⟨f-1,by omega⟩;clear hs1;by_cases hlt:k<s.size
   ·have hlt':(k:Int)<(s.size:Int):=by omega
    have hlt2:¬(s.size:Int)≤(k:Int):=by omega
    obtain⟨x,hx⟩:=nmd (s[k].toNat);have hbx:bat s k=x:=by rw[bat_in hlt,hx]
    have hx256:x<256:=by rw[<-hbx];exact bat_lt hlt
    have HF1:Hid (quoR s i=if x=34 then .ok (k+1,Y.toList)else if x=92 then(if bat s (k+1)=34∨bat s (k+1)=92 then qF s f (k+2) (Y.toList++[(bat s (k+1)).toUInt8])else if bat s (k+1)=110 then qF s f (k+2) (Y.toList++[10])else .error (k+1))else qF s f (k+1) (Y.toList++[x.toUInt8])):=by show _=_;rw[<-HF.out,qF,hbx,if_neg (by omega)]
    clear HF hbx;by_cases q34:x=34
    ·have HE:Hid (quoR s i=.ok (k+1,Y.toList)):=by show _=_;rw[HF1.out,if_pos q34]
     have HN:=qH<|fun q=>by have:=(HS.drewN q).setI (k+1);rw[show((k+1:Nat):Int)=(k:Int)+1 by omega]at this;exact this
     subst q34;clear HF1 HS;go_wp2_with fail;go_quiet(fail);go_wp2_with fail;go_quiet(fail);go_wp2;go_ret;exact⟨gr_trans (gr_trans HG (gr_drewN _ _ _)) (gr_set _ _ _ _),by rw[HE.out];exact⟨rfl,HN _⟩⟩
    ·by_cases q92:x=92
     ·rw[if_neg q34,if_pos q92]at HF1;have HN1:=qH<|fun q=>by have:=(HS.drewN q).setI (k+1);rw[show((k+1:Nat):Int)=(k:Int)+1 by omega]at this;exact this
      subst q92;have CF1:=qH<|fun W h=>by have:=CF (k+1) W h;rw[show((k+1:Nat):Int)=(k:Int)+1 by omega]at this;exact this
      by_cases hlt2:k+1<s.size
      ·have hlt3:(k:Int)+1<(s.size:Int):=by omega
       have hgd:decide ((s.size:Int)≤(k:Int)+1)=false:=decide_eq_false (by omega);obtain⟨y,hy⟩:=nmd (s[k+1].toNat);have hby:bat s (k+1)=y:=by rw[bat_in hlt2,hy]
       have hy256:y<256:=by rw[<-hby];exact bat_lt hlt2
       rw[hby]at HF1;clear hby;by_cases ok:y=34∨y=92∨y=110
       ·have HN2:=qH<|fun q q'=>by have:=((HN1 q).drewN q').setI (k+2);rw[show((k+2:Nat):Int)=(k:Int)+1+1 by omega]at this;exact this
        rcases ok with ok|ok|ok
        ·have HF2:Hid (qF s f (k+2) (Y.toList++[34])=quoR s i):=by show _=_;rw[HF1.out,if_pos (.inl ok),ok];rfl
         subst ok;have hcv:=conv_at2 34 (by omega) wr rb ((k:Int)+1) ((k:Int)+1+1);clear HF1 HS;go_wp2_with fail;go_quiet(fail);go_wp2_with fail;go_quiet(fail);go_wp2_with fail;go_quiet(fail);go_wp2_with fail;go_quiet(fail);go_wp2;go_roundw;case rel=>exact⟨k+2,f,_,rfl,by omega,by simp;omega,by omega,by show _=_;rw[<-HF2.out],(HN2 _ _).below ((Below.refl _ _).alloc (Nat.le_refl _) _),gr_trans (gr_trans (gr_trans (gr_trans (gr_trans HG (gr_drewN _ _ _)) (gr_set _ _ _ _)) (gr_drewN _ _ _)) (gr_set _ _ _ _)) (gr_below ((Below.refl _ _).alloc (Nat.le_refl _) _))⟩
         case measure=>rw[((HN2 _ _).below ((Below.refl _ _).alloc (Nat.le_refl _) _)).rdI,HRD.out];omega
        ·have HF2:Hid (qF s f (k+2) (Y.toList++[92])=quoR s i):=by show _=_;rw[HF1.out,if_pos (.inr ok),ok];rfl
         subst ok;have hcv:=conv_at2 92 (by omega) wr rb ((k:Int)+1) ((k:Int)+1+1);clear HF1 HS;go_wp2_with fail;go_quiet(fail);go_wp2_with fail;go_quiet(fail);go_wp2_with fail;go_quiet(fail);go_wp2_with fail;go_quiet(fail);go_wp2;go_roundw;case rel=>exact⟨k+2,f,_,rfl,by omega,by simp;omega,by omega,by show _=_;rw[<-HF2.out],(HN2 _ _).below ((Below.refl _ _).alloc (Nat.le_refl _) _),gr_trans (gr_trans (gr_trans (gr_trans (gr_trans HG (gr_drewN _ _ _)) (gr_set _ _ _ _)) (gr_drewN _ _ _)) (gr_set _ _ _ _)) (gr_below ((Below.refl _ _).alloc (Nat.le_refl _) _))⟩
         case measure=>rw[((HN2 _ _).below ((Below.refl _ _).alloc (Nat.le_refl _) _)).rdI,HRD.out];omega
        ·have HF2:Hid (qF s f (k+2) (Y.toList++[10])=quoR s i):=by show _=_;rw[HF1.out,if_neg (by omega),if_pos ok]
         subst ok;have hcv:=conv_at2 10 (by omega) wr rb ((k:Int)+1) ((k:Int)+1+1);clear HF1 HS;go_wp2_with fail;go_quiet(fail);go_wp2_with fail;go_quiet(fail);go_wp2_with fail;go_quiet(fail);go_wp2_with fail;go_quiet(fail);go_wp2;go_roundw;case rel=>exact⟨k+2,f,_,rfl,by omega,by simp;omega,by omega,by show _=_;rw[<-HF2.out],(HN2 _ _).below ((Below.refl _ _).alloc (Nat.le_refl _) _),gr_trans (gr_trans (gr_trans (gr_trans (gr_trans HG (gr_drewN _ _ _)) (gr_set _ _ _ _)) (gr_drewN _ _ _)) (gr_set _ _ _ _)) (gr_below ((Below.refl _ _).alloc (Nat.le_refl _) _))⟩
         case measure=>rw[((HN2 _ _).below ((Below.refl _ _).alloc (Nat.le_refl _) _)).rdI,HRD.out];omega
       ·have e1:((y:Int)!=34)=true:=by simp;omega
        have e2:((y:Int)!=92)=true:=by simp;omega
        have e3:((y:Int)!=110)=true:=by simp;omega
        have HE:Hid (quoR s i=.error (k+1)):=by show _=_;rw[HF1.out,if_neg (by omega),if_neg (by omega)]
        clear HF1 HS ok;go_wp2_with fail;go_quiet(fail);go_wp2_with fail;go_quiet(fail);go_wp2_with fail;go_quiet(fail);go_wp2_with fail;refine(CF1 _ (by first|exact HN1 _|exact(HN1 _).drewN _)).mono ?_;rintro e w2 ⟨rfl,h2,g2⟩;have H2:Hid (RS w2 rb s (k+1) lv ((k+1:Nat):Int) er at_ dep):=by have:=h2;rw[HBI.out]at this;rw[show((k+1:Nat):Int)=(k:Int)+1 by omega];exact this
        have HG2:Hid (w.grownBy w2 (some rb)):=by first|exact gr_trans (gr_trans (gr_trans HG (gr_drewN _ _ _)) (gr_set _ _ _ _)) g2|exact gr_trans (gr_trans (gr_trans (gr_trans HG (gr_drewN _ _ _)) (gr_set _ _ _ _)) (gr_drewN _ _ _)) g2
        clear h2 g2;go_wp2;go_ret;exact⟨HG2,by rw[HE.out];exact⟨rfl,k+1,by omega,H2⟩⟩
      ·have hge:(s.size:Int)≤(k:Int)+1:=by omega
       have hgd:=decide_eq_true hge;have HE:Hid (quoR s i=.error (k+1)):=by show _=_;rw[HF1.out,bat_out hlt2,if_neg (by omega),if_neg (by omega)]
       clear HF1 HS;go_wp2_with fail;go_quiet(fail);go_wp2_with fail;go_quiet(fail);go_wp2_with fail;go_quiet(fail);go_wp2_with fail;refine(CF1 _ (by first|exact HN1 _|exact(HN1 _).drewN _)).mono ?_;rintro e w2 ⟨rfl,h2,g2⟩;have H2:Hid (RS w2 rb s (k+1) lv ((k+1:Nat):Int) er at_ dep):=by have:=h2;rw[HBI.out]at this;rw[show((k+1:Nat):Int)=(k:Int)+1 by omega];exact this
       have HG2:Hid (w.grownBy w2 (some rb)):=by first|exact gr_trans (gr_trans (gr_trans HG (gr_drewN _ _ _)) (gr_set _ _ _ _)) g2|exact gr_trans (gr_trans (gr_trans (gr_trans HG (gr_drewN _ _ _)) (gr_set _ _ _ _)) (gr_drewN _ _ _)) g2
       clear h2 g2;go_wp2;go_ret;exact⟨HG2,by rw[HE.out];exact⟨rfl,k+1,by omega,H2⟩⟩
     ·have HF2:Hid (qF s f (k+1) (Y.toList++[x.toUInt8])=quoR s i):=by show _=_;rw[HF1.out,if_neg q34,if_neg q92]
      have HN:=qH<|fun q=>by have:=(HS.drewN q).setI (k+1);rw[show((k+1:Nat):Int)=(k:Int)+1 by omega]at this;exact this
      have e1:((x:Int)==34)=false:=by simp;omega
      have e2:((x:Int)==92)=false:=by simp;omega
      have hcv:=conv_at (x:Int) ⟨by omega,by omega⟩ wr rb ((k:Int)+1);have hxx:((x:Int).toNat).toUInt8=x.toUInt8:=by simp
      rw[hxx]at hcv;clear hxx;clear HF1 HS;go_wp2_with fail;go_quiet(fail);go_wp2_with fail;go_quiet(fail);go_wp2;go_roundw;case rel=>exact⟨k+1,f,_,rfl,by omega,by simp;omega,by omega,by show _=_;rw[<-HF2.out],(HN _).below ((Below.refl _ _).alloc (Nat.le_refl _) _),gr_trans (gr_trans (gr_trans HG (gr_drewN _ _ _)) (gr_set _ _ _ _)) (gr_below ((Below.refl _ _).alloc (Nat.le_refl _) _))⟩
      case measure=>rw[((HN _).below ((Below.refl _ _).alloc (Nat.le_refl _) _)).rdI,HRD.out];omega
   ·have hge:(s.size:Int)≤(k:Int):=by omega
    have HE:Hid (quoR s i=.error k):=by show _=_;rw[<-HF.out,qF,if_pos (bat_out hlt)]
    clear HF;go_wp2_with fail;go_quiet(fail);go_wp2_with fail;refine(CF k _ (HS.drewN _)).mono ?_;rintro e w2 ⟨rfl,h2,g2⟩;have H2:Hid (RS w2 rb s k lv (k:Int) er at_ dep):=by have:=h2;rw[HBI.out]at this;exact this
    have HG2:=qH<|gr_trans (gr_trans HG (gr_drewN _ _ _)) g2;clear h2 g2;go_wp2;go_ret;exact⟨HG2,by rw[HE.out];exact⟨rfl,k,hk,H2⟩⟩
 ·have hmb:mustB s i 34 bad=(sk s i:Int):=by unfold mustB;rw[if_neg hia]
  have HQ:Hid (quoR s i=.error (sk s i)):=by show _=_;unfold quoR;rw[if_neg hia]
  have hgs:gotI s i 34≤s.size:=by unfold isAt at hia;unfold gotI;rw[if_neg (by simpa using hia)];exact sk_le s i hi
  rw[hmb]at CM;obtain⟨j,hj⟩:=nmd (gotI s i 34);obtain⟨b,hbe⟩:∃b:Int,(sk s i:Int)=b:=⟨_,rfl⟩;have HBE:=qH<|hbe;have hb0:¬b<0:=by omega
  rw[hj,hbe]at CM;rw[hj]at hgs;clear hmb hj hia hbe;go_enter func49,ntmps49;go_wp2_with fail;refine CM.mono ?_;rintro e w1 ⟨rfl,h1,g1⟩;have HR:=qH<|h1;have HG1:=qH<|g1;have c3:=h1.c3;clear h1 g1 CM;go_wp2;go_loopw[3,7] (fun v _ wr=>v=.string ByteArray.empty∧wr=w1) (fun _ _ _=>0);case atStart=>exact⟨rfl,rfl⟩
  case round=>obtain⟨rfl,hw⟩:=hrel;obtain rfl:=hw.symm;go_wp2;go_ret;exact⟨HG1,by rw[HQ.out];exact⟨rfl,j,hgs,by rw[HBE.out];exact HR⟩⟩
end
section
open Go.RowKit
def kInts(l:List Nat):List Value:=l.map fun(k:Nat)=>Iq (k:Int)
structure Up(B:Nat)(W W':World):Prop where
 size:W.heap.size≤W'.heap.size
 block:∀b,B≤b->b<W.heap.size->W'.heap[b]?=W.heap[b]?
theorem Up.refl(B:Nat)(W:World):Up B W W:=⟨Nat.le_refl _,fun _ _ _=>rfl⟩
theorem Up.trans{B:Nat}{W W1 W2:World}(h:Up B W W1)(k:Up B W1 W2):Up B W W2:=
 ⟨Nat.le_trans h.size k.size,fun b h1 h2=>(k.block b h1 (Nat.lt_of_lt_of_le h2 h.size)).trans (h.block b h1 h2)⟩
theorem Up.grown{B r:Nat}{W W':World}(h:W.grownBy W' (some r))(hr:r<B):Up B W W':=
 ⟨h.size,fun b h1 h2=>h.block b h2 (by simp;omega)⟩
theorem Up.below{B:Nat}{W W':World}(h:Below W.heap.size W W'):Up B W W':=⟨h.size,fun b _ h2=>h.block b h2⟩
theorem Up.drewN(B:Nat)(W:World)(q:Nat):Up B W (W.drewN q):=⟨Nat.le_refl _,fun _ _ _=>rfl⟩
theorem own_up{W W':World}{B n size:Nat}{e:TypeId}{v:Value}{xs:List Value}(h:W.ownsRow B e size v n xs)(hu:Up B W W'):W'.ownsRow B e size v n xs:=by
 refine⟨h.1,?_⟩;rcases h.2 with h2|⟨g,cap,cur,a,b,c,d⟩;·exact .inl h2
 ·refine .inr ⟨g,cap,cur,a,b,?_,d⟩;rw[hu.block g b (Array.getElem?_eq_some_iff.1 c).1];exact c
theorem own_apart{W:World}{B B' n n' size size':Nat}{e e':TypeId}{v v':Value}{xs xs':List Value}(h:W.ownsRow B e size v n xs)(h':W.ownsRow B' e' size' v' n' xs')(he:e≠e'):v.ownBlock=none∨v.ownBlock≠v'.ownBlock:=by
 rcases h.2 with⟨rfl,_⟩|⟨g,cap,cur,rfl,b,c,d⟩;·exact .inl rfl
 ·right;rcases h'.2 with⟨rfl,_⟩|⟨g',cap',cur',rfl,b',c',d'⟩;·simp[Value.ownBlock]
  ·intro hh;simp[Value.ownBlock]at hh;subst hh;rw[c]at c';injection c' with c';injection c' with _ c';exact he c'
theorem own_form{W:World}{B n size:Nat}{e:TypeId}{v:Value}{xs:List Value}(h:W.ownsRow B e size v n xs):(v=.slice none 0 0∧n=0)∨∃g cap,v=Sq g n cap∧B≤g∧g<W.heap.size∧n≤cap∧cap≤maxLen:=by
 rcases h.2 with h2|⟨g,cap,cur,a,b,c,d,f,_⟩;·exact .inl h2
 ·exact .inr ⟨g,cap,a,b,(Array.getElem?_eq_some_iff.1 c).1,d,f⟩
structure NR(W:World)(B:Nat)(T:TypeId)(z:Nat)(nv:Value)(n:Nat)(C:Nat->List Value)(KV:Nat->Value)(K:Nat->List Nat):Prop where
 row:∃xs,W.ownsRow B T z nv n xs
 cells:∀g,nv.ownBlock=some g->∀j,j<n->∀(t:Nat) u,(C j)[t]?=some u->W.cell? ⟨g,j*z+t,none⟩=some u
 len:∀j,j<n->(C j).length=z
 kids:∀j,j<n->W.ownsRow B 3 1 (KV j) (K j).length (kInts (K j))
 sep:∀i j,i<n->j<n->i≠j->∀b,(KV i).ownBlock=some b->(KV j).ownBlock≠some b
section
variable{W W':World} {B z n:Nat} {T:TypeId} {nv:Value} {C:Nat->List Value} {KV:Nat->Value} {K:Nat->List Nat}
theorem NR.nothing(W:World)(B:Nat)(T:TypeId)(z:Nat)(C:Nat->List Value)(KV:Nat->Value)(K:Nat->List Nat):NR W B T z (.slice none 0 0) 0 C KV K:=
 ⟨⟨[],World.ownsRow_nil _ _ _ _⟩,fun _ _ j h=>absurd h (by omega),fun j h=>absurd h (by omega),fun j h=>absurd h (by omega),fun i j h=>absurd h (by omega)⟩
theorem NR.up(h:NR W B T z nv n C KV K)(hu:Up B W W'):NR W' B T z nv n C KV K:=by obtain⟨xs,hx⟩:=h.row;refine⟨⟨xs,own_up hx hu⟩,fun g hg j hj t u htu=>?_,h.len,fun j hj=>own_up (h.kids j hj) hu,h.sep⟩;have:=h.cells g hg j hj t u htu;have hl:=hx.lt g hg;rw[World.cell?_of_block (hu.block g hl.1 hl.2)];exact this
theorem NR.form(h:NR W B T z nv n C KV K)(hn:0<n):∃g cap,nv=Sq g n cap∧B≤g∧g<W.heap.size∧n≤cap∧cap≤maxLen:=by
 obtain⟨xs,hx⟩:=h.row;rcases own_form hx with⟨_,h0⟩|h1;·omega
 ·exact h1
theorem NR.cell{g cap:Nat}(h:NR W B T z (Sq g n cap) n C KV K){j:Nat}(hj:j<n){t:Nat}{u:Value}(ht:(C j)[t]?=some u):W.cell? ⟨g,j*z+t,none⟩=some u:=h.cells g rfl j hj t u ht
theorem NR.frozen{g cap:Nat}(h:NR W B T z (Sq g n cap) n C KV K)(j:Nat):W.frozen? ⟨g,j,none⟩=false:=by obtain⟨xs,hx⟩:=h.row;exact hx.frozenAt j
theorem NR.frz(h:NR W B T z nv n C KV K){g:Nat}(hg:nv.ownBlock=some g)(j:Nat):W.frozen? ⟨g,j,none⟩=false:=by
 obtain⟨xs,hx⟩:=h.row;rcases own_form hx with⟨rfl,_⟩|⟨g',cap,rfl,_⟩;·simp[Value.ownBlock]at hg
 ·simp[Value.ownBlock]at hg;subst hg;exact hx.frozenAt j
theorem NR.app{nv':Value}{xs news:List Value}(h:NR W B T z nv n C KV K)(hT:3≠T)(hx:W.ownsRow B T z nv n xs)(hx':W'.ownsRow B T z nv' (n+1) (xs++news))(hg:W.grownBy W' nv.ownBlock)(hl:news.length=z):
 NR W' B T z nv' (n+1) (fun j=>if j=n then news else C j) (fun j=>if j=n then .slice none 0 0 else KV j) (fun j=>if j=n then[]else K j):=by
 have hxl:=hx.1;refine⟨⟨_,hx'⟩,fun g hg' j hj t u htu=>?_,fun j hj=>?_,fun j hj=>?_,fun i j hi hj hij b hb=>?_⟩
 ·have key:=hx'.cells hg';have hadd:∀m,(⟨g,0,none⟩:Addr).add m=⟨g,m,none⟩:=fun m=>by unfold Addr.add;split<;>simp_all
  have hz:t<z:=by
   have h1:=(List.getElem?_eq_some_iff.1 htu).1;by_cases hjn:j=n;·rw[if_pos hjn]at h1;omega
   ·rw[if_neg hjn,h.len j (by omega)]at h1;exact h1
  rw[<-hadd];refine key _ _ ?_;by_cases hjn:j=n;·subst hjn;rw[if_pos rfl]at htu;rw[List.getElem?_append_right (by rw[hxl];omega),hxl,show j*z+t-j*z=t by omega];exact htu
  ·rw[if_neg hjn]at htu;have hlt:j*z+t<n*z:=by have:(j+1)*z≤n*z:=Nat.mul_le_mul_right _ (by omega);rw[Nat.add_mul]at this;omega
   rw[List.getElem?_append_left (by rw[hxl];exact hlt)];obtain⟨g0,cap,rfl,_⟩:=h.form (by omega);have h1:=h.cell (by omega) htu;rw[hx.cellAt _ hlt]at h1;exact h1
 ·by_cases hjn:j=n;·rw[if_pos hjn];exact hl
  ·rw[if_neg hjn];exact h.len j (by omega)
 ·by_cases hjn:j=n;·rw[if_pos hjn,if_pos hjn];exact World.ownsRow_nil _ _ _ _
  ·rw[if_neg hjn,if_neg hjn];exact(h.kids j (by omega)).kept hg (own_apart (h.kids j (by omega)) hx hT)
 ·by_cases h1:i=n;·rw[if_pos h1]at hb;simp[Value.ownBlock]at hb
  ·rw[if_neg h1]at hb;by_cases h2:j=n;·rw[if_pos h2];simp[Value.ownBlock]
   ·rw[if_neg h2];exact h.sep i j (by omega) (by omega) hij b hb
theorem NR.set{g cap:Nat}(h:NR W B T z (Sq g n cap) n C KV K)(hT:3≠T){k t:Nat}(hk:k<n)(ht:t<z)(u:Value):
 NR (W.setCell ⟨g,k*z+t,none⟩ u) B T z (Sq g n cap) n (fun j=>if j=k then(C k).set t u else C j) KV K:=by
 obtain⟨xs,hx⟩:=h.row;have hst:=hx.stored (k*z+t) u;have hkt:k*z+t<n*z:=by have:(k+1)*z≤n*z:=Nat.mul_le_mul_right _ (by omega);rw[Nat.add_mul]at this;omega
 refine⟨⟨_,hst.1⟩,fun g' hg' j hj t' u' htu=>?_,fun j hj=>?_,fun j hj=>?_,h.sep⟩
 ·injection hg' with hg';have hg':g=g':=hg';subst hg';have hz:t'<z:=by
   have h1:=(List.getElem?_eq_some_iff.1 htu).1;by_cases hjn:j=k;·rw[if_pos hjn]at h1;simp[h.len k hk]at h1;exact h1
   ·rw[if_neg hjn,h.len j (by omega)]at h1;exact h1
  have hlt:j*z+t'<n*z:=by have:(j+1)*z≤n*z:=Nat.mul_le_mul_right _ (by omega);rw[Nat.add_mul]at this;omega
  rw[hst.1.cellAt _ hlt];have hold:=(hx.cellAt _ hlt).symm;by_cases hjk:j=k
  ·subst hjk;rw[if_pos rfl]at htu;by_cases htt:t=t';·subst htt;rw[List.getElem?_set_self (by rw[hx.1];exact hkt)];rw[List.getElem?_set_self (by rw[h.len j hk];exact ht)]at htu;exact htu
   ·rw[List.getElem?_set_ne (by omega)]at htu⊢;rw[hold];exact h.cell hj htu
  ·rw[if_neg hjk]at htu;have hne:k*z+t≠j*z+t':=by
    intro e;rcases Nat.lt_or_gt_of_ne hjk with hh|hh;·have:(j+1)*z≤k*z:=Nat.mul_le_mul_right _ (by omega);rw[Nat.add_mul]at this;omega
    ·have:(k+1)*z≤j*z:=Nat.mul_le_mul_right _ (by omega);rw[Nat.add_mul]at this;omega
   rw[List.getElem?_set_ne hne,hold];exact h.cell hj htu
 ·by_cases hjk:j=k;·rw[if_pos hjk];simp[h.len k hk]
  ·rw[if_neg hjk];exact h.len j hj
 ·exact(h.kids j hj).kept hst.2 (own_apart (h.kids j hj) hx hT)
theorem NR.kid{g cap:Nat}{kv':Value}{k t c:Nat}(h:NR W B T z (Sq g n cap) n C KV K)(hT:3≠T)(hk:k<n)(ht:t<z)
 (hr:W'.ownsRow B 3 1 kv' ((K k).length+1) (kInts (K k++[c]))) (hg:W.grownBy W' (KV k).ownBlock) (hat:kv'.ownBlock=(KV k).ownBlock∨kv'.ownBlock=some W.heap.size):
 NR (W'.setCell ⟨g,k*z+t,none⟩ kv') B T z (Sq g n cap) n (fun j=>if j=k then(C k).set t kv' else C j) (fun j=>if j=k then kv' else KV j) (fun j=>if j=k then K k++[c]else K j):=by
 obtain⟨xs,hx⟩:=h.row;have hx':=hx.kept hg (own_apart hx (h.kids k hk) (Ne.symm hT));have hgl:=hx.lt g rfl;have hblk:=hg.block g hgl.2 (by
  rcases own_apart (h.kids k hk) hx hT with e|e;·rw[e];simp
  ·exact fun e2=>e e2.symm);have hother:=fun j hj hjk=>(h.kids j hj).kept hg (by
  cases hb:(KV j).ownBlock with
  |none=>exact .inl rfl
  |some b=>right;exact fun e=>h.sep j k hj hk hjk b hb e.symm);have mid:NR W' B T z (Sq g n cap) n C (fun j=>if j=k then kv' else KV j) (fun j=>if j=k then K k++[c]else K j):=by
  refine⟨⟨xs,hx'⟩,fun g' hg' j hj t' u' htu=>?_,h.len,fun j hj=>?_,fun i j hi hj hij b hb=>?_⟩;·injection hg' with hg';have hg':g=g':=hg';subst hg';rw[World.cell?_of_block hblk];exact h.cell hj htu
  ·by_cases hjk:j=k;·rw[if_pos hjk,if_pos hjk];simpa using hr
   ·rw[if_neg hjk,if_neg hjk];exact hother j hj hjk
  ·have hfar:∀i,i<n->(KV i).ownBlock≠some W.heap.size:=fun i hi e=>by have:=(h.kids i hi).lt _ e;omega
   by_cases h1:i=k
   ·rw[if_pos h1]at hb;have h2:j≠k:=fun e=>hij (h1.trans e.symm);rw[if_neg h2];rcases hat with e|e;·rw[e]at hb;exact h.sep k j hk hj (fun e=>h2 e.symm) b hb
    ·rw[e]at hb;injection hb with hb;rw[<-hb];exact hfar j hj
   ·rw[if_neg h1]at hb;by_cases h2:j=k
    ·rw[if_pos h2];rcases hat with e|e;·rw[e];exact h.sep i k hi hk h1 b hb
     ·rw[e];intro e2;injection e2 with e2;exact hfar i hi (by rw[hb,e2])
    ·rw[if_neg h2];exact h.sep i j hi hj hij b hb
 exact mid.set hT hk ht kv'
end
end
section
open Go.RowKit Go.Proofs.Tryz
theorem index_some(ws:List ByteArray)(x:ByteArray)(blk off cap n:Nat)(w:World)(hb:blk<w.heap.size)(hc:∀j,j<ws.length->w.cell? ⟨blk,off+j,none⟩=some (.string (ws[j]?.getD ByteArray.empty)))(hn:ws.length=n)(hn2:n≤1099511627776):
 Calls prog 197 #[.slice (some ⟨blk,off,none⟩) n cap,.string x] w fun e w'=>e=.returned (Iq (findF ws x 0))∧w'=w:=by
 have HC:=qH<|hc;have HN:=qH<|hn;clear hc hn;go_enter func197,ntmps197;go_wp2;go_loop[8] (fun i=>∃k:Nat,k≤n∧i=Iq k∧Hid (findF ws x 0=findF (ws.drop k) x k)) (fun i=>n-(intOf i).toNat);case atStart=>exact⟨0,Nat.zero_le _,rfl,by show _=_;rw[List.drop_zero]⟩
 case round=>
  obtain⟨k,hk,rfl,HF⟩:=hrel;by_cases hlt:k<n
  ·have hlt':(k:Int)<(n:Int):=by omega
   have hkw:k<ws.length:=by rw[HN.out];exact hlt
   have hcell:=HC k hkw;obtain⟨y,hy⟩:=nmd (ws[k]?.getD ByteArray.empty);rw[hy]at hcell;have hdrop:ws.drop k=y::ws.drop (k+1):=by rw[<-hy,List.getElem?_eq_getElem hkw];exact List.drop_eq_getElem_cons hkw
   have HF2:Hid (findF ws x 0=if y=x then(k:Int)else findF (ws.drop (k+1)) x (k+1)):=by show _=_;rw[HF.out,hdrop];rfl
   clear hdrop hy HF hkw;by_cases e:y=x
   ·have HE:Hid (findF ws x 0=(k:Int)):=by show _=_;rw[HF2.out,if_pos e]
    subst e;clear HF2;go_wp2;go_ret;exact⟨by rw[HE.out];rfl,rfl⟩
   ·have HE:Hid (findF ws x 0=findF (ws.drop (k+1)) x (k+1)):=by show _=_;rw[HF2.out,if_neg e]
    have e1:=str_ne (fun h=>e h.symm);clear HF2;go_wp2;go_round;case rel=>exact⟨k+1,by omega,by go_num,HE⟩
    case measure=>simp[intOf];omega
  ·have hlt':¬(k:Int)<(n:Int):=by omega
   have HE:Hid (findF ws x 0=-1):=by show _=_;rw[HF.out,List.drop_eq_nil_of_le (by rw[HN.out];omega)];rfl
   clear HF;go_wp2;go_ret;exact⟨by rw[HE.out];rfl,rfl⟩
theorem index_none(x:ByteArray)(p:Option Addr)(cap:Nat)(w:World):
 Calls prog 197 #[.slice p 0 cap,.string x] w fun e w'=>e=.returned (Iq (-1))∧w'=w:=by
 go_enter func197,ntmps197;go_wp2;go_loop[8] (fun i=>i=Iq 0) (fun i=>0);case atStart=>rfl
 case round=>subst hrel;go_wp2;go_ret;exact⟨rfl,rfl⟩
def Txts(W:World)(v:Value)(ws:List ByteArray):Prop:=∃p c,v=.slice p ws.length c∧(ws=[]∨∃blk,p=some ⟨blk,0,none⟩∧blk<W.heap.size∧∀j,j<ws.length->W.cell? ⟨blk,0+j,none⟩=some (.string (ws[j]?.getD ByteArray.empty)))
theorem index_any(ws:List ByteArray)(x:ByteArray)(v:Value)(w:World)(h:Txts w v ws)(hn:ws.length≤1099511627776):
 Calls prog 197 #[v,.string x] w fun e w'=>e=.returned (Iq (findF ws x 0))∧w'=w:=by
 obtain⟨p,c,rfl,rfl|⟨blk,rfl,hb,hc⟩⟩:=h;·exact index_none x p c w
 ·exact index_some ws x blk 0 c _ w hb hc rfl hn
theorem contains_any(ws:List ByteArray)(x:ByteArray)(v:Value)(w:World)(h:Txts w v ws)(hn:ws.length≤1099511627776):
 Calls prog 183 #[v,.string x] w fun e w'=>e=.returned (.bool (decide (0≤findF ws x 0)))∧w'=w:=by have CI:=qH<|index_any ws x v w h hn;obtain⟨p,c,rfl,_⟩:=h;obtain⟨r,hr⟩:=nmd (findF ws x 0);rw[hr]at CI⊢;clear hr;go_enter func183,ntmps183;go_wp2_with fail;refine CI.mono ?_;rintro e w1 ⟨rfl,hw⟩;obtain rfl:=hw.symm;go_wp2;go_ret;exact⟨rfl,rfl⟩
end
end Go.Proofs.YtmbefonnkkhfgaaGreatDoor
