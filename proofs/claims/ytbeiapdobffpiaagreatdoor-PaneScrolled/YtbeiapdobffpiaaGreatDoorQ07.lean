import Derived.Test.YtbeiapdobffpiaaGreatDoorQ00
import Derived.Test.YtbeiapdobffpiaaGreatDoorProg
import Derived.WalkSpells
import Derived.WalkLawsBesides
import Derived.BigQuiet
set_option linter.all false
set_option maxRecDepth 100000
set_option maxHeartbeats 16000000
namespace Go.Proofs.YtbeiapdobffpiaaGreatDoor
open Go.RowKit Go.Proofs.Tryz
def dh(s:ByteArray)(i:Nat):Nat:=if h:i<s.size then s[i].toNat else 256
theorem ea{s}{i}(h:i<s.size):dh s i=s[i].toNat:=by grind[dh]
theorem dO{s}{i}(h:¬i<s.size):dh s i=256:=by grind[dh]
theorem vZ{s}{i}(h:i<s.size):dh s i<256:=by rw[ea h];exact UInt8.toNat_lt _
def od(p:Nat->Bool)(s:ByteArray):Nat->Nat->Nat
 |0,i=>i
 |f+1,i=>if p (dh s i)then od p s f (i+1)else i
def run(p:Nat->Bool)(s:ByteArray)(i:Nat):Nat:=od p s (s.size-i) i
theorem iL{p}{s}{i}(hi:i<s.size)(h:p (dh s i)=true):run p s i=run p s (i+1):=by unfold run;obtain⟨f,hf⟩:∃f,s.size-i=f+1:=⟨s.size-i-1,by omega⟩;rw[hf,od,if_pos h,show s.size-(i+1)=f by omega]
theorem jH{p}{s}{i}(h:p (dh s i)=false):run p s i=i:=by
 unfold run;match s.size-i with
 |0=>rfl
 |f+1=>rw[od,h];rfl
theorem xn{p}{s}{i}(h:¬i<s.size):run p s i=i:=by unfold run;rw[show s.size-i=0 by omega];rfl
theorem xm  p   s  :∀f i,i<=od p s f i/\od p s f i<=i+f
 |0,i=>⟨ai _,ai _⟩
 |f+1,i=>by have:=xm p s f (i+1);grind[od]
theorem iJ  p   s   i  :i<=run p s i:=(xm p s _ i).1
theorem iK  p   s   i  (hi:i<=s.size):run p s i<=s.size:=by grind[xm,run]
theorem Ak(p:Nat->Bool)(hp:p 256=false)  s  :∀f i,s.size-i<=f->p (dh s (od p s f i))=false
 |0,i,h=>by grind[od,dO]
 |f+1,i,h=>by
  rw[od];by_cases c:p (dh s i)=true;·rw[if_pos c];exact Ak p hp s f (i+1) (by omega)
  grind
theorem Px{p:Nat->Bool}(hp:p 256=false)  s   i  :p (dh s (run p s i))=false:=Ak p hp s _ i (ai _)
def blank(x:Nat):Bool:=x==32||x==10
def ap(x:Nat):Bool:=decide (97<=x)&&decide (x<=122)
def aU(x:Nat):Bool:=decide (48<=x)&&decide (x<=57)
def sk(s:ByteArray)(i:Nat):Nat:=run blank s i
theorem dx  s   i  :i<=sk s i:=iJ _ _ _
theorem eh  s   i  (h:i<=s.size):sk s i<=s.size:=iK _ _ _ h
theorem kZ  s   i  :sk s (sk s i)=sk s i:=jH (Px (by rfl) s i)
structure RS(W:World)(rb:Nat)(s:ByteArray)(i:Nat)(lv:Value)(bad er at_ aI:Int):Prop where
 lt:rb<W.heap.size
 c0:W.cell? (az rb 0)=some (.string s)
 c1:W.cell? (az rb 1)=some (Iq (i:Int))
 c2:W.cell? (az rb 2)=some lv
 c3:W.cell? (az rb 3)=some (Iq bad)
 c4:W.cell? (az rb 4)=some (Iq er)
 c5:W.cell? (az rb 5)=some (Iq at_)
 c6:W.cell? (az rb 6)=some (Iq aI)
 fz:∀j,W.frozen? (az rb j)=false
theorem RS.below{W W'}{rb}{s}{i}{lv}{bad er at_ aI}(h:RS W rb s i lv bad er at_ aI)(hb:Bt W W'):RS W' rb s i lv bad er at_ aI:=
 have k:∀j v,W.cell? (az rb j)=some v->W'.cell? (az rb j)=some v:=fun j v e=>(hb.cell (p:=(az rb j)) h.lt).trans e
 ⟨bn h.lt hb.size,k _ _ h.c0,k _ _ h.c1,k _ _ h.c2,k _ _ h.c3,k _ _ h.c4,k _ _ h.c5,k _ _ h.c6,fun j=>(hb.frozen (p:=(az rb j)) h.lt).trans (h.fz j)⟩
theorem RS.drewN{W}{rb}{s}{i}{lv}{bad er at_ aI}(h:RS W rb s i lv bad er at_ aI)  n  :RS (W.drewN n) rb s i lv bad er at_ aI:=
 ⟨h.lt,h.c0,h.c1,h.c2,h.c3,h.c4,h.c5,h.c6,h.fz⟩
theorem aH{W:World}{rb j k}{v u}(hn:j≠k)(h:W.cell? (az rb j)=some u):(W.setCell (az rb k) v).cell? (az rb j)=some u:=by rw[dX _ _ _ _ (fun e=>hn (by grind))];exact h
theorem gG{W:World}{rb k}{v u}(h:W.cell? (az rb k)=some u):(W.setCell (az rb k) v).cell? (az rb k)=some v:=
 vs _ _ _ (by grind)
theorem RS.setI{W}{rb}{s}{i}{lv}{bad er at_ aI}(h:RS W rb s i lv bad er at_ aI)(i':Nat):RS (W.setCell (az rb 1) (Iq (i':Int))) rb s i' lv bad er at_ aI:=
 ⟨by simpa using h.lt,aH (by omega) h.c0,gG h.c1,aH (by omega) h.c2,aH (by omega) h.c3,aH (by omega) h.c4,aH (by omega) h.c5,aH (by omega) h.c6,fun j=>by rw[gN];exact h.fz j⟩
theorem RS.setBad{W}{rb}{s}{i}{lv}{bad er at_ aI}(h:RS W rb s i lv bad er at_ aI)  b  :RS (W.setCell (az rb 3) (Iq b)) rb s i lv b er at_ aI:=
 ⟨by simpa using h.lt,aH (by omega) h.c0,aH (by omega) h.c1,aH (by omega) h.c2,gG h.c3,aH (by omega) h.c4,aH (by omega) h.c5,aH (by omega) h.c6,fun j=>by rw[gN];exact h.fz j⟩
theorem RS.setErr{W}{rb}{s}{i}{lv}{bad er at_ aI}(h:RS W rb s i lv bad er at_ aI)  b c  :RS ((W.setCell (az rb 4) (Iq b)).setCell (az rb 5) (Iq c)) rb s i lv bad b c aI:=
 ⟨by simpa using h.lt,aH (by omega) (aH (by omega) h.c0),aH (by omega) (aH (by omega) h.c1),aH (by omega) (aH (by omega) h.c2),aH (by omega) (aH (by omega) h.c3),aH (by omega) (gG h.c4),gG (aH (by omega) h.c5),aH (by omega) (aH (by omega) h.c6),fun j=>by rw[gN,gN];exact h.fz j⟩
theorem lu(W:World)  b  :W.grownBy W (some b):=⟨rfl,rfl,rfl,ai _,fun _ _ _=>rfl⟩
theorem gr_trans{A B C:World}{b}(h:A.grownBy B (some b))(k:B.grownBy C (some b)):A.grownBy C (some b):=
 ⟨k.os.trans h.os,k.tape.trans h.tape,k.output.trans h.output,aT h.size k.size,fun i hi hn=>(k.block i (bn hi h.size) hn).trans (h.block i hi hn)⟩
theorem bP(W:World)  b i   v  :W.grownBy (W.setCell (az b i) v) (some b):=
 ⟨rfl,rfl,rfl,by simp,fun k _ hk=>heap_setCell_other _ _ _ _ (fun e=>hk (by rw[e]))⟩
theorem aG(W:World)  n b  :W.grownBy (W.drewN n) (some b):=⟨rfl,rfl,rfl,ai _,fun _ _ _=>rfl⟩
theorem eF{A B}{b}(h:Bt A B):A.grownBy B (some b):=⟨h.os,h.tape,h.output,h.size,fun i hi _=>h.block i hi⟩
def rdI(W:World)(rb:Nat):Nat:=match W.cell? (az rb 1)with
 |some (.int _ x)=>x.toNat
 |_=>0
theorem RS.rdI{W:World}{rb:Nat}{s:ByteArray}{i:Nat}{lv:Value}{bad er at_ aI:Int}(h:RS W rb s i lv bad er at_ aI):rdI W rb=i:=by unfold Go.Proofs.YtbeiapdobffpiaaGreatDoor.rdI;rw[h.c1];simp
theorem skip_any(rb:Nat)(s:ByteArray)(i:Nat)(lv:Value)(bad er at_ aI:Int)(w:World)(h:RS w rb s i lv bad er at_ aI)(hs:s.size<=1099511627776)(hi:i<=s.size):
 Cw 32 #[Pq rb] w fun e w'=>e=Rw (.tuple #[])/\RS w' rb s (sk s i) lv bad er at_ aI/\w.grownBy w' (some rb):=by
 have HR:=qH<|h;go_enter func32,ntmps32;go_wp2;go_loopw[2] (fun _ wr=>∃k:Nat,k<=s.size/\Hid (sk s k=sk s i)/\Hid (RS wr rb s k lv bad er at_ aI)/\Hid (w.grownBy wr (some rb))) (fun _ wr=>s.size-rdI wr rb);case atStart=>exact⟨i,hi,rfl,HR,lu _ _⟩
 case round=>
  obtain⟨k,hk,HK,HS,HG⟩:=hrel;have hs1:=HS.out;have c0:=hs1.c0;have c1:=hs1.c1;have f1:=hs1.fz 1;by_cases hlt:k<s.size
  ·have aK:(k:Int)<(s.size:Int):=by omega
   obtain⟨x,hx⟩:=aj (s[k].toNat);have gU:dh s k=x:=by rw[ea hlt,hx]
   by_cases hb:x=32
   ·skip;have HN:=qH<|fun q=>by have:=(HS.drewN q).setI (k+1);rw[show((k+1:Nat):Int)=(k:Int)+1 by omega]at this;exact this
    have km:Hid (sk s (k+1)=sk s i):=by rw[<-HK.out];exact(iL hlt (by rw[gU];simp[blank,hb])).symm
    have hrd:=HS.rdI;have qq:=qH<|hrd;subst hb;go_wp2_with fail;go_quiet(fail);go_wp2;go_roundw;case rel=>exact⟨k+1,by omega,km,HN _,gr_trans (gr_trans HG (aG _ _ _)) (bP _ _ _ _)⟩
    case measure=>rw[(HN _).rdI,qq.out];omega
   ·by_cases hb2:x=10
    ·skip;have HN:=qH<|fun q=>by have:=(HS.drewN q).setI (k+1);rw[show((k+1:Nat):Int)=(k:Int)+1 by omega]at this;exact this
     have km:Hid (sk s (k+1)=sk s i):=by rw[<-HK.out];exact(iL hlt (by rw[gU];simp[blank,hb2])).symm
     have hrd:=HS.rdI;have qq:=qH<|hrd;subst hb2;go_wp2_with fail;go_quiet(fail);go_wp2;go_roundw;case rel=>exact⟨k+1,by omega,km,HN _,gr_trans (gr_trans HG (aG _ _ _)) (bP _ _ _ _)⟩
     case measure=>rw[(HN _).rdI,qq.out];omega
    ·have HE:Hid (RS wr rb s (sk s i) lv bad er at_ aI):=by have:sk s k=k:=jH (by rw[gU];simp[blank,hb,hb2]);rw[<-HK.out,this];exact HS
     have e1:((x:Int)==32)=false:=by simp;omega
     go_wp2_with fail;go_quiet(fail);go_wp2;go_end0;exact⟨rfl,HE.drewN _,gr_trans HG (aG _ _ _)⟩
  ·have aK:¬(k:Int)<(s.size:Int):=by omega
   have HE:Hid (RS wr rb s (sk s i) lv bad er at_ aI):=by have:sk s k=k:=xn hlt;rw[<-HK.out,this];exact HS
   go_wp2_with fail;go_quiet(fail);go_wp2;go_end0;exact⟨rfl,HE.drewN _,gr_trans HG (aG _ _ _)⟩
def fD(bad a:Int):Int:=if bad<0 then a else bad
theorem fail_any(rb:Nat)(s:ByteArray)(i:Nat)(lv:Value)(bad er at_ aI:Int)(a:Int)(w:World)(h:RS w rb s i lv bad er at_ aI):
 Cw 33 #[Pq rb,Iq a] w fun e w'=>e=Rw (.tuple #[])/\RS w' rb s i lv (fD bad a) er at_ aI/\w.grownBy w' (some rb):=by
 have c3:=h.c3;have f3:=h.fz 3;have HR:=qH<|h;by_cases hb:bad<0
 ·have HN:Hid (RS (w.setCell (az rb 3) (Iq a)) rb s i lv (fD bad a) er at_ aI):=by unfold fD;rw[if_pos hb];exact HR.setBad a
  go_enter func33,ntmps33;go_wp2;go_end0;exact⟨rfl,HN,bP _ _ _ _⟩
 ·have HN:Hid (RS w rb s i lv (fD bad a) er at_ aI):=by unfold fD;rw[if_neg hb];exact HR
  go_enter func33,ntmps33;go_wp2;go_end0;exact⟨rfl,HN,lu _ _⟩
def aM(s:ByteArray)(i:Nat)(c:Nat):Bool:=dh s (sk s i)==c
def ao(s:ByteArray)(i:Nat)(c:Nat):Nat:=if dh s (sk s i)=c then sk s i+1 else sk s i
theorem got_any(rb:Nat)(s:ByteArray)(i:Nat)(lv:Value)(bad er at_ aI:Int)(c:Nat)(w:World)(h:RS w rb s i lv bad er at_ aI)(hs:s.size<=1099511627776)(hi:i<=s.size)(hc:c<256)(hb:bad<0):
 Cw 93 #[Pq rb,.int .u8 (c:Int)] w fun e w'=>e=Rw (.bool (aM s i c))/\RS w' rb s (ao s i c) lv bad er at_ aI/\w.grownBy w' (some rb):=by
 have CS:=qH<|skip_any rb s i lv bad er at_ aI w h hs hi;obtain⟨j,hj⟩:=aj (sk s i);have nu:=eh s i hi;have qp:Hid (ao s i c=if dh s j=c then j+1 else j):=by show _=_;unfold ao;rw[hj]
 have RJ:Hid (aM s i c=(dh s j==c)):=by show _=_;unfold aM;rw[hj]
 rw[hj]at CS nu;go_enter func93,ntmps93;go_wp2_with fail;refine CS.mono ?_;rintro e w1 ⟨rfl,h1,g1⟩;have HR:=qH<|h1;have HG:=qH<|g1;have c0:=h1.c0;have c1:=h1.c1;have c3:=h1.c3;have f1:=h1.fz 1;by_cases hlt:j<s.size
 ·have aK:(j:Int)<(s.size:Int):=by omega
  obtain⟨x,hx⟩:=aj (s[j].toNat);have gU:dh s j=x:=by rw[ea hlt,hx]
  by_cases Kq:x=c
  ·have HN:Hid (∀q,RS ((w1.drewN q).setCell (az rb 1) (Iq ((j:Int)+1))) rb s (ao s i c) lv bad er at_ aI):=fun q=>by rw[qp.out,gU,if_pos Kq];have:=(HR.drewN q).setI (j+1);rw[show((j+1:Nat):Int)=(j:Int)+1 by omega]at this;exact this
   have HE:Hid (aM s i c=true):=by show _=_;rw[RJ.out,gU];simpa using Kq
   subst Kq;go_wp2_with fail;go_quiet(fail);go_wp2;go_ret;exact⟨by rw[HE.out];rfl,HN _,gr_trans (gr_trans HG (aG _ _ _)) (bP _ _ _ _)⟩
  ·have HN:Hid (RS w1 rb s (ao s i c) lv bad er at_ aI):=by rw[qp.out,gU,if_neg Kq];exact HR
   have HE:Hid (aM s i c=false):=by show _=_;rw[RJ.out,gU];simpa using Kq
   go_wp2_with fail;go_quiet(fail);go_wp2;go_ret;exact⟨by rw[HE.out];rfl,HN.drewN _,gr_trans HG (aG _ _ _)⟩
 ·have aK:¬(j:Int)<(s.size:Int):=by omega
  have SN:=dO hlt;have HN:Hid (RS w1 rb s (ao s i c) lv bad er at_ aI):=by rw[qp.out,SN,if_neg (by omega)];exact HR
  have HE:Hid (aM s i c=false):=by show _=_;rw[RJ.out,SN];simp;omega
  go_wp2_with fail;go_quiet(fail);go_wp2;go_ret;exact⟨by rw[HE.out];rfl,HN.drewN _,gr_trans HG (aG _ _ _)⟩
def rh(kids:Nat->List Nat):Nat->Nat->List Nat
 |0,_=>[]
 |f+1,k=>k::(kids k).flatMap (rh kids f)
def AQ(up:Nat->Int):Nat->Int->Int
 |0,x=>x
 |t+1,x=>up (AQ up t x).toNat
structure vS(n:Nat)(kids:Nat->List Nat)(up:Nat->Int):Prop where
 kid:∀i c,i<n->c∈kids i->i<c/\c<n/\up c=(i:Int)
 nd:∀i,i<n->(kids i).Nodup
 upl:∀i,i<n->up i<(i:Int)
 lo:∀i,i<n->-1<=up i
section
variable{n:Nat} {kids:Nat->List Nat} {up:Nat->Int}
theorem xD  s   x  :∀t,AQ up (s+t) x=AQ up t (AQ up s x)
 |0=>rfl
 |t+1=>by show up (AQ up (s+t) x).toNat=up (AQ up t (AQ up s x)).toNat;rw[xD s x t]
theorem LZ(h:vS n kids up)(hn:0<n):∀  t  (x:Int),-1<=x->x<n->-1<=AQ up t x/\AQ up t x<=x
 |0,x,h1,h2=>⟨h1,jL _⟩
 |t+1,x,h1,h2=>by
  obtain⟨k1,k2⟩:=LZ h hn t x h1 h2;show-1<=up (AQ up t x).toNat/\up (AQ up t x).toNat<=x;have hl:(AQ up t x).toNat<n:=by omega
  have a1:=h.lo _ hl;have a2:=h.upl _ hl;omega
theorem tg(h:vS n kids up):∀  f k,k<n->∀j,j∈rh kids f k->k<=j/\j<n/\∃t,AQ up t (j:Int)=(k:Int)
 |0,k,hk,j,hj=>by cases hj
 |f+1,k,hk,j,hj=>by
  rcases tk.1 hj with e|hj;·subst e;exact⟨ai _,hk,0,rfl⟩
  ·obtain⟨c,hc,hj⟩:=List.mem_flatMap.1 hj;obtain⟨c1,c2,c3⟩:=h.kid k c hk hc;obtain⟨d1,d2,t,ht⟩:=tg h f c c2 j hj;refine⟨by omega,d2,t+1,?_⟩;grind[AQ]
theorem Hx(h:vS n kids up){f k c d}(hk:k<n)(hc:c∈kids k)(hd:d∈kids k)(QO:c≠d){j}(h1:j∈rh kids f c)(h2:j∈rh kids f d):False:=by
 obtain⟨c1,c2,c3⟩:=h.kid k c hk hc;obtain⟨d1,d2,d3⟩:=h.kid k d hk hd;obtain⟨_,_,s,hs⟩:=tg h f c c2 j h1;obtain⟨_,_,t,ht⟩:=tg h f d d2 j h2;have hn:0<n:=by omega
 have key:∀(c d:Nat) (s t:Nat),c≠d->up c=(k:Int)->k<d->c<n->AQ up s (j:Int)=(c:Int)->AQ up t (j:Int)=(d:Int)->s<=t->False:=fun c d s t QO q_ hkd hcn hs ht hst=>by
  obtain⟨r,rfl⟩:∃r,t=s+r:=⟨t-s,by omega⟩;rw[xD,hs]at ht;cases r with
  |zero=>exact QO (Int.ofNat.inj ht)
  |succ r=>
   rw[Nat.add_comm r 1,xD]at ht;have e:AQ up 1 (c:Int)=(k:Int):=by show up ((c:Int)).toNat=_;exact q_
   rw[e]at ht;have:=(LZ h hn r (k:Int) (by omega) (by omega)).2;omega
 grind
theorem vm(h:vS n kids up):∀  f k,k<n->(rh kids f k).Nodup
 |0,k,hk=>List.nodup_nil
 |f+1,k,hk=>by
  show(k::(kids k).flatMap (rh kids f)).Nodup;refine List.nodup_cons.2 ⟨fun q=>?_,?_⟩;·obtain⟨c,hc,hj⟩:=List.mem_flatMap.1 q;obtain⟨c1,c2,c3⟩:=h.kid k c hk hc;have:=(tg h f c c2 k hj).1;omega
  ·have key:∀ks:List Nat,(∀c∈ks,c∈kids k)->ks.Nodup->(ks.flatMap (rh kids f)).Nodup:=by
    intro ks;induction ks with
    |nil=>grind
    |cons c ks ih=>intro h1 h2;rw[List.flatMap_cons];obtain⟨m1,m2⟩:=List.nodup_cons.1 h2;have hc:=h1 c (List.mem_cons_self ..);obtain⟨c1,c2,c3⟩:=h.kid k c hk hc;refine Mf.2 ⟨vm h f c c2,ih (fun x hx=>h1 x (List.mem_cons_of_mem _ hx)) m2,fun a ha b hb e=>?_⟩;grind[Hx]
   exact key (kids k) (fun _ hc=>hc) (h.nd k hk)
theorem lF:∀  n  (l:List Nat),l.Nodup->(∀x∈l,x<n)->l.length<=n
 |0,l,_,h=>by
  cases l with
  |nil=>grind
  |cons a l=>exact absurd (h a (List.mem_cons_self ..)) (by omega)
 |n+1,l,hd,h=>by
  by_cases hm:n∈l;·have h1:=List.length_erase_of_mem hm;have h2:=lF n (l.erase n) (hd.erase n) (fun x hx=>by grind);omega
  ·have:=lF n l hd (fun x hx=>by grind);omega
theorem PX(h:vS n kids up)  f k  (hk:k<n):(rh kids f k).length<=n:=lF n _ (vm h f k hk) fun x hx=>(tg h f k hk x hx).2.1
end
theorem E0:∀ks:List Nat,(∀k c d,ks[k]?=some c->ks[k+1]?=some d->c<d)->ks.Pairwise (·<·)
 |[],_=>.nil
 |[x],_=>by simp
 |x::y::r,h=>by
  have ih:=E0 (y::r) (fun k c d h1 h2=>h (k+1) c d h1 h2);have zm:=h 0 x y rfl rfl;refine List.Pairwise.cons (fun z hz=>?_) ih;rcases tk.1 hz with e|hz;·omega
  ·have:=List.rel_of_pairwise_cons ih hz;omega
theorem Dz{ks:List Nat}(h:∀k c d,ks[k]?=some c->ks[k+1]?=some d->c<d):ks.Nodup:=
 (E0 ks h).imp (fun h e=>by omega)
theorem got_bad(rb:Nat)(s:ByteArray)(i:Nat)(lv:Value)(bad er at_ aI:Int)(c:Nat)(w:World)(h:RS w rb s i lv bad er at_ aI)(hs:s.size<=1099511627776)(hi:i<=s.size)(hb:0<=bad):
 Cw 93 #[Pq rb,.int .u8 (c:Int)] w fun e w'=>e=Rw (.bool false)/\RS w' rb s (sk s i) lv bad er at_ aI/\w.grownBy w' (some rb):=by
 have CS:=qH<|skip_any rb s i lv bad er at_ aI w h hs hi;clear h;go_enter func93,ntmps93;go_wp2_with fail;refine CS.mono ?_;rintro e w1 ⟨rfl,h1,g1⟩;have HR:=qH<|h1;have HG:=qH<|g1;have c3:=h1.c3;have j4:¬bad<0:=by omega
 have eb:=decide_eq_false j4;clear h1 g1 CS;go_wp2_with fail;go_quiet(fail);go_wp2;go_ret;exact⟨rfl,HR.drewN _,gr_trans HG (aG _ _ _)⟩
def gZ(s:ByteArray)(i c:Nat)(bad:Int):Int:=if aM s i c then bad else(sk s i:Int)
theorem zF(rb:Nat)(s:ByteArray)(i:Nat)(lv:Value)(bad er at_ aI:Int)(c:Nat)(w:World)(h:RS w rb s i lv bad er at_ aI)(hs:s.size<=1099511627776)(hi:i<=s.size)(hc:c<256)(hb:bad<0):
 Cw 53 #[Pq rb,.int .u8 (c:Int)] w fun e w'=>e=Rw (.tuple #[])/\RS w' rb s (ao s i c) lv (gZ s i c bad) er at_ aI/\w.grownBy w' (some rb):=by
 have CG:=qH<|got_any rb s i lv bad er at_ aI c w h hs hi hc hb;obtain⟨ia,Ey⟩:=aj (aM s i c);obtain⟨gi,xN⟩:=aj (ao s i c);have HM:Hid (gZ s i c bad=if ia then bad else(sk s i:Int)):=by show _=_;unfold gZ;rw[Ey]
 have qp:Hid (ia=false->gi=sk s i):=by intro e;rw[<-xN];unfold ao;rw[<-Ey]at e;unfold aM at e;rw[if_neg (by grind)]
 rw[Ey,xN]at CG;rw[xN];clear h Ey xN;go_enter func53,ntmps53;go_wp2_with fail;refine CG.mono ?_;rintro e w1 ⟨rfl,h1,g1⟩;have HG:=qH<|g1;have c1:=h1.c1;have HR:=qH<|h1;have CF:=qH<|fail_any rb s gi lv bad er at_ aI gi w1 h1;clear h1 g1 CG;cases ia with
 |true=>
  have HE:Hid (RS w1 rb s gi lv (gZ s i c bad) er at_ aI):=by rw[HM.out];exact HR
  clear CF HR;go_wp2;go_end0;exact⟨rfl,HE,HG⟩
 |false=>
  have HE:Hid (fD bad (gi:Int)=gZ s i c bad):=by show _=_;rw[HM.out,qp rfl];unfold fD;rw[if_pos hb];rfl
  clear HR;go_wp2_with fail;refine CF.mono ?_;rintro e w2 ⟨rfl,h2,g2⟩;have H2:Hid (RS w2 rb s gi lv (gZ s i c bad) er at_ aI):=by rw[<-HE.out];exact h2
  have fU:=qH<|gr_trans HG g2;clear h2 g2;go_wp2;go_end0;exact⟨rfl,H2,fU⟩
theorem KZ(rb:Nat)(s:ByteArray)(i:Nat)(lv:Value)(bad er at_ aI:Int)(c:Nat)(w:World)(h:RS w rb s i lv bad er at_ aI)(hs:s.size<=1099511627776)(hi:i<=s.size)(hb:0<=bad):
 Cw 53 #[Pq rb,.int .u8 (c:Int)] w fun e w'=>e=Rw (.tuple #[])/\RS w' rb s (sk s i) lv bad er at_ aI/\w.grownBy w' (some rb):=by
 have CG:=qH<|got_bad rb s i lv bad er at_ aI c w h hs hi hb;obtain⟨gi,xN⟩:=aj (sk s i);rw[xN]at CG⊢;clear h xN;go_enter func53,ntmps53;go_wp2_with fail;refine CG.mono ?_;rintro e w1 ⟨rfl,h1,g1⟩;have HG:=qH<|g1;have c1:=h1.c1;have CF:=qH<|fail_any rb s gi lv bad er at_ aI gi w1 h1;have HE:Hid (fD bad (gi:Int)=bad):=by show _=_;unfold fD;rw[if_neg (by omega)]
 clear h1 g1 CG;go_wp2_with fail;refine CF.mono ?_;rintro e w2 ⟨rfl,h2,g2⟩;have H2:Hid (RS w2 rb s gi lv bad er at_ aI):=by have:=h2;rw[HE.out]at this;exact this
 have fU:=qH<|gr_trans HG g2;clear h2 g2;go_wp2;go_end0;exact⟨rfl,H2,fU⟩
def Is(er at_ e a:Int):Int:=if at_<0\/a<at_ then e else er
def Ir(at_ a:Int):Int:=if at_<0\/a<at_ then a else at_
theorem wrong_any(rb:Nat)(s:ByteArray)(i:Nat)(lv:Value)(bad er at_ aI:Int)(e a:Int)(w:World)(h:RS w rb s i lv bad er at_ aI):
 Cw 50 #[Pq rb,Iq e,Iq a] w fun r w'=>r=Rw (.tuple #[])/\RS w' rb s i lv bad (Is er at_ e a) (Ir at_ a) aI/\w.grownBy w' (some rb):=by
 have c5:=h.c5;have c4:=h.c4;have f4:=h.fz 4;have f5:=h.fz 5;have HR:=qH<|h;clear h;by_cases hc:at_<0\/a<at_
 ·have HN:Hid (RS ((w.setCell (az rb 4) (Iq e)).setCell (az rb 5) (Iq a)) rb s i lv bad (Is er at_ e a) (Ir at_ a) aI):=by unfold Is Ir;rw[if_pos hc,if_pos hc];exact HR.setErr e a
  have HG:Hid (w.grownBy ((w.setCell (az rb 4) (Iq e)).setCell (az rb 5) (Iq a)) (some rb)):=gr_trans (bP _ _ _ _) (bP _ _ _ _);by_cases h1:at_<0;·clear hc;go_enter func50,ntmps50;go_wp2;go_end0;exact⟨rfl,HN,HG⟩
  ·have h2:a<at_:=by omega
   clear hc;go_enter func50,ntmps50;go_wp2;go_end0;exact⟨rfl,HN,HG⟩
 ·have HN:Hid (RS w rb s i lv bad (Is er at_ e a) (Ir at_ a) aI):=by unfold Is Ir;rw[if_neg hc,if_neg hc];exact HR
  have h1:¬at_<0:=by omega
  have h2:¬a<at_:=by omega
  clear hc;go_enter func50,ntmps50;go_wp2;go_end0;exact⟨rfl,HN,lu _ _⟩
theorem rP(s:ByteArray)  k  :s.extract k k=ByteArray.empty:=by apply l8;simp
def iR(s:ByteArray)(i:Nat)(bad:Int):Int:=if run ap s (sk s i)=sk s i then(sk s i:Int)else bad
theorem L8(rb:Nat)(s:ByteArray)(i:Nat)(lv:Value)(bad er at_ aI:Int)(w:World)(h:RS w rb s i lv bad er at_ aI)(hs:s.size<=1099511627776)(hi:i<=s.size)(hb:bad<0):
 Cw 47 #[Pq rb] w fun e w'=>e=Rw (.string (s.extract (sk s i) (run ap s (sk s i))))/\RS w' rb s (run ap s (sk s i)) lv (iR s i bad) er at_ aI/\w.grownBy w' (some rb):=by
 have CS:=qH<|skip_any rb s i lv bad er at_ aI w h hs hi;obtain⟨j,hj⟩:=aj (sk s i);have nu:=eh s i hi;have MJ:Hid (iR s i bad=if run ap s j=j then(j:Int)else bad):=by show _=_;unfold iR;rw[hj]
 rw[hj]at CS nu⊢;clear h hj;go_enter func47,ntmps47;go_wp2_with fail;refine CS.mono ?_;rintro e w1 ⟨rfl,h1,g1⟩;have HR:=qH<|h1;have HG1:=qH<|g1;have d1:=h1.c1;have eb:=decide_eq_true hb;clear h1 g1 CS;go_wp2;clear d1;go_loopw[10] (fun _ wr=>∃k:Nat,j<=k/\k<=s.size/\Hid (run ap s k=run ap s j)/\Hid (RS wr rb s k lv bad er at_ aI)/\Hid (w.grownBy wr (some rb))) (fun _ wr=>s.size-rdI wr rb);case atStart=>exact⟨j,ai _,nu,rfl,HR,HG1⟩
 case round=>
  obtain⟨k,tA,hk,HK,HS,HG⟩:=hrel;have hs1:=HS.out;have c0:=hs1.c0;have c1:=hs1.c1;have c3:=hs1.c3;have f1:=hs1.fz 1;have qq:=qH<|hs1.rdI;by_cases my:ap (dh s k)=true
  ·have hlt:k<s.size:=by
    by_cases e:k<s.size;·exact e
    ·rw[dO e]at my;cases my
   have aK:(k:Int)<(s.size:Int):=by omega
   have el:=decide_eq_true aK;obtain⟨x,hx⟩:=aj (s[k].toNat);have gU:dh s k=x:=by rw[ea hlt,hx]
   have km:Hid (run ap s (k+1)=run ap s j):=by rw[<-HK.out];exact(iL hlt my).symm
   rw[gU]at my;unfold ap at my;simp only[qi,decide_eq_true_eq]at my;obtain⟨l1,l2⟩:=my;have e1:decide ((97:Int)<=(x:Int))=true:=decide_eq_true (by omega);have e2:decide ((x:Int)<=122)=true:=decide_eq_true (by omega);have HN:=qH<|fun q=>by have:=(HS.drewN q).setI (k+1);rw[show((k+1:Nat):Int)=(k:Int)+1 by omega]at this;exact this
   clear hs1 HK HS gU;go_wp2_with fail;go_quiet(fail);go_wp2;go_roundw;case rel=>exact⟨k+1,by omega,by omega,km,HN _,gr_trans (gr_trans HG (aG _ _ _)) (bP _ _ _ _)⟩
   case measure=>rw[(HN _).rdI,qq.out];omega
  ·have hrk:run ap s j=k:=by rw[<-HK.out];exact jH (by simpa using my)
   have jg:=qH<|hrk;have CF:=qH<|fun g W h=>fail_any rb s g lv bad er at_ aI g W h;clear hrk hs1 HK;by_cases hlt:k<s.size
   ·have aK:(k:Int)<(s.size:Int):=by omega
    have el:=decide_eq_true aK;obtain⟨x,hx⟩:=aj (s[k].toNat);have gU:dh s k=x:=by rw[ea hlt,hx]
    rw[gU]at my;unfold ap at my;simp only[qi,decide_eq_true_eq]at my;clear gU;by_cases l1:97<=x;focus have l2:¬x<=122:=fun e=>my ⟨l1,e⟩;have e1:decide ((97:Int)<=(x:Int))=true:=decide_eq_true (by omega);have e2:decide ((x:Int)<=122)=false:=decide_eq_false (by omega)
    rotate_left;focus have e1:decide ((97:Int)<=(x:Int))=false:=decide_eq_false (by omega)
    rotate_left;all_goals
     clear my;go_wp2_with fail;go_quiet(fail);by_cases Gm:k=j
     ·subst Gm;have HE:Hid (fD bad (k:Int)=iR s i bad):=by show _=_;rw[MJ.out,if_pos jg.out];unfold fD;rw[if_pos hb]
      go_wp2_with fail;refine(CF k _ (HS.drewN _)).mono ?_;rintro e w2 ⟨rfl,h2,g2⟩;have H2:Hid (RS w2 rb s k lv (iR s i bad) er at_ aI):=by have:=h2;rw[HE.out]at this;exact this
      have fU:=qH<|gr_trans (gr_trans HG (aG _ _ _)) g2;have d0:=h2.c0;have d1:=h2.c1;clear h2 g2 c0 c1 c3 f1;go_wp2_with fail;go_quiet(fail);go_wp2;go_ret;exact⟨by rw[jg.out,rP];rfl,by rw[jg.out];exact H2.drewN _,gr_trans fU (aG _ _ _)⟩
     ·have WF:iR s i bad=bad:=by rw[MJ.out,if_neg (by rw[jg.out];exact Gm)]
      have HE:Hid (RS wr rb s k lv (iR s i bad) er at_ aI):=by rw[WF];exact HS
      clear WF;have zb':((k:Int)==(j:Int))=false:=by simp;omega
      have S7:(j:Int)<=(k:Int):=by omega
      have hks:(k:Int)<=(s.size:Int):=by omega
      go_wp2_with fail;go_quiet(fail);go_wp2;go_ret;exact⟨by rw[jg.out];rfl,by rw[jg.out];exact(HE.drewN _).drewN _,gr_trans (gr_trans HG (aG _ _ _)) (aG _ _ _)⟩
   ·have aK:¬(k:Int)<(s.size:Int):=by omega
    have el:=decide_eq_false aK;clear my;go_wp2_with fail;go_quiet(fail);by_cases Gm:k=j
    ·subst Gm;have HE:Hid (fD bad (k:Int)=iR s i bad):=by show _=_;rw[MJ.out,if_pos jg.out];unfold fD;rw[if_pos hb]
     go_wp2_with fail;refine(CF k _ (HS.drewN _)).mono ?_;rintro e w2 ⟨rfl,h2,g2⟩;have H2:Hid (RS w2 rb s k lv (iR s i bad) er at_ aI):=by have:=h2;rw[HE.out]at this;exact this
     have fU:=qH<|gr_trans (gr_trans HG (aG _ _ _)) g2;have d0:=h2.c0;have d1:=h2.c1;clear h2 g2 c0 c1 c3 f1;go_wp2_with fail;go_quiet(fail);go_wp2;go_ret;exact⟨by rw[jg.out,rP];rfl,by rw[jg.out];exact H2.drewN _,gr_trans fU (aG _ _ _)⟩
    ·have WF:iR s i bad=bad:=by rw[MJ.out,if_neg (by rw[jg.out];exact Gm)]
     have HE:Hid (RS wr rb s k lv (iR s i bad) er at_ aI):=by rw[WF];exact HS
     clear WF;have zb':((k:Int)==(j:Int))=false:=by simp;omega
     have S7:(j:Int)<=(k:Int):=by omega
     have hks:(k:Int)<=(s.size:Int):=by omega
     go_wp2_with fail;go_quiet(fail);go_wp2;go_ret;exact⟨by rw[jg.out];rfl,by rw[jg.out];exact(HE.drewN _).drewN _,gr_trans (gr_trans HG (aG _ _ _)) (aG _ _ _)⟩
theorem AU(rb:Nat)(s:ByteArray)(i:Nat)(lv:Value)(bad er at_ aI:Int)(w:World)(h:RS w rb s i lv bad er at_ aI)(hs:s.size<=1099511627776)(hi:i<=s.size)(hb:0<=bad):
 Cw 47 #[Pq rb] w fun e w'=>e=Rw (.string ByteArray.empty)/\RS w' rb s (sk s i) lv bad er at_ aI/\w.grownBy w' (some rb):=by
 have CS:=qH<|skip_any rb s i lv bad er at_ aI w h hs hi;obtain⟨j,hj⟩:=aj (sk s i);have nu:=eh s i hi;rw[hj]at CS nu⊢;clear h hj;go_enter func47,ntmps47;go_wp2_with fail;refine CS.mono ?_;rintro e w1 ⟨rfl,h1,g1⟩;have HR:=qH<|h1;have HG1:=qH<|g1;have d1:=h1.c1;have j4:¬bad<0:=by omega
 have eb:=decide_eq_false j4;clear h1 g1 CS;go_wp2;clear d1;go_loopw[10] (fun _ wr=>Hid (RS wr rb s j lv bad er at_ aI)/\Hid (w.grownBy wr (some rb))) (fun _ wr=>0);case atStart=>grind
 case round=>
  obtain⟨HS,HG⟩:=hrel;have hs1:=HS.out;have c0:=hs1.c0;have c1:=hs1.c1;have c3:=hs1.c3;have CF:=qH<|fun W h=>fail_any rb s j lv bad er at_ aI j W h;have HE:Hid (fD bad (j:Int)=bad):=by show _=_;unfold fD;rw[if_neg (by omega)]
  clear hs1;go_wp2_with fail;go_quiet(fail);go_wp2_with fail;refine(CF _ (HS.drewN _)).mono ?_;rintro e w2 ⟨rfl,h2,g2⟩;have H2:Hid (RS w2 rb s j lv bad er at_ aI):=by have:=h2;rw[HE.out]at this;exact this
  have fU:=qH<|gr_trans (gr_trans HG (aG _ _ _)) g2;have d0:=h2.c0;have d1:=h2.c1;clear h2 g2 c0 c1 c3;go_wp2_with fail;go_quiet(fail);go_wp2;go_ret;exact⟨rfl,H2.drewN _,gr_trans fU (aG _ _ _)⟩
theorem xz{a b:ByteArray}(h:¬a=b):(a.toList==b.toList)=false:=by rw[beq_eq_false_iff_ne];intro e;rw[ByteArray.toList_eq,ByteArray.toList_eq]at e;exact h (l8 (Array.toList_inj.1 e))
def aJ:List ByteArray->ByteArray->Nat->Int
 |[],_,_=>-1
 |a::r,x,k=>if a=x then(k:Int)else aJ r x (k+1)
theorem jB  x  :∀  ws   k,aJ ws x k=-1\/((k:Int)<=aJ ws x k/\aJ ws x k<(k:Int)+ws.length)
 |[],k=>.inl rfl
 |a::r,k=>by
  unfold aJ;by_cases e:a=x;·grind
  ·simp only[e,if_false];rcases jB x r (k+1)with h|h;all_goals grind
theorem find_any(ws:List ByteArray)(x:ByteArray)(blk off al n:Nat)(w:World)(hb:blk<w.heap.size)(hc:∀j,j<ws.length->w.cell? (az blk (off+j))=some (.string (ws[j]?.getD ByteArray.empty)))(hn:ws.length=n)(QW:n<=1099511627776):
 Cw 48 #[.slice (some (az blk off)) n al,.string x] w fun e w'=>e=Rw (Iq (aJ ws x 0))/\w'=w:=by
 have HC:=qH<|hc;have HN:=qH<|hn;clear hc hn;go_enter func48,ntmps48;go_wp2;go_loop[5] (fun i=>∃k:Nat,k<=n/\i=Iq k/\Hid (aJ ws x 0=aJ (ws.drop k) x k)) (fun i=>n-(intOf i).toNat);case atStart=>exact⟨0,bc _,rfl,by show _=_;grind⟩
 case round=>
  obtain⟨k,hk,rfl,HF⟩:=hrel;by_cases hlt:k<n
  ·have aK:(k:Int)<(n:Int):=by omega
   have Gn:k<ws.length:=by rw[HN.out];exact hlt
   have nj:=HC k Gn;obtain⟨y,hy⟩:=aj (ws[k]?.getD ByteArray.empty);rw[hy]at nj;have yT:ws.drop k=y::ws.drop (k+1):=by rw[<-hy,dN Gn];exact tn Gn
   have HF2:Hid (aJ ws x 0=if y=x then(k:Int)else aJ (ws.drop (k+1)) x (k+1)):=by show _=_;rw[HF.out,yT];rfl
   clear yT hy HF Gn;by_cases e:y=x
   ·have HE:Hid (aJ ws x 0=(k:Int)):=by show _=_;rw[HF2.out,if_pos e]
    subst e;clear HF2;go_wp2;go_ret;exact⟨by rw[HE.out];rfl,rfl⟩
   ·have HE:Hid (aJ ws x 0=aJ (ws.drop (k+1)) x (k+1)):=by show _=_;rw[HF2.out,if_neg e]
    have e1:=xz e;clear HF2;go_wp2;go_round;case rel=>grind
    case measure=>simp[intOf];omega
  ·have aK:¬(k:Int)<(n:Int):=by omega
   have HE:Hid (aJ ws x 0=-1):=by show _=_;rw[HF.out,vr (by rw[HN.out];omega)];rfl
   clear HF;go_wp2;go_ret;exact⟨by rw[HE.out];rfl,rfl⟩
def dv(s:ByteArray)(j:Nat):Nat->Int
 |0=>0
 |c+1=>if c<6 then 10*dv s j c+((dh s (j+c):Int)-48)else dv s j c
theorem rO  s   j  :∀c,(∀t,t<c->48<=dh s (j+t)/\dh s (j+t)<=57)->0<=dv s j c/\dv s j c<=999999/\(c<=5->dv s j c<=99999)/\(c<=4->dv s j c<=9999)/\(c<=3->dv s j c<=999)/\(c<=2->dv s j c<=99)/\(c<=1->dv s j c<=9)/\(c=0->dv s j c=0)
 |0,_=>by simp[dv]
 |c+1,h=>by have ih:=rO s j c (fun t ht=>h t (by omega));grind[dv]
theorem oe{p}  s  :∀f i t,od p s f i>i+t->p (dh s (i+t))=true
 |0,i,t,h=>by grind[od]
 |f+1,i,t,h=>by
  rw[od]at h;by_cases c:p (dh s i)=true;·rw[if_pos c]at h;match t with
   |0=>exact c
   |t+1=>have:=oe (p:=p) s f (i+1) t (by omega);grind
  grind
def kh(s:ByteArray)(j k:Nat)(bad:Int):Int:=if k=j\/j+6<k\/(j+1<k/\dh s j=48)then(j:Int)else bad
theorem Di(rb:Nat)(s:ByteArray)(i:Nat)(lv:Value)(bad er at_ aI:Int)(w:World)(h:RS w rb s i lv bad er at_ aI)(hs:s.size<=1099511627776)(hi:i<=s.size)(hb:bad<0):
 Cw 94 #[Pq rb] w fun e w'=>e=Rw (.tuple #[Iq (dv s (sk s i) (run aU s (sk s i)-sk s i)),Iq (sk s i:Int)])/\RS w' rb s (run aU s (sk s i)) lv (kh s (sk s i) (run aU s (sk s i)) bad) er at_ aI/\w.grownBy w' (some rb):=by
 have CS:=qH<|skip_any rb s i lv bad er at_ aI w h hs hi;obtain⟨j,hj⟩:=aj (sk s i);have nu:=eh s i hi;rw[hj]at CS nu⊢;have HDG:Hid (∀t,j+t<run aU s j->48<=dh s (j+t)/\dh s (j+t)<=57):=fun t ht=>by have:=oe (p:=aU) s (s.size-j) j t ht;unfold aU at this;simpa using this
 clear h hj;go_enter func94,ntmps94;go_wp2_with fail;refine CS.mono ?_;rintro e w1 ⟨rfl,h1,g1⟩;have HR:=qH<|h1;have HG1:=qH<|g1;have d1:=h1.c1;have eb:=decide_eq_true hb;clear h1 g1 CS;go_wp2;clear d1;go_loopw[5,13] (fun v _ wr=>∃(k:Nat) (n:Int),v=Iq n/\j<=k/\k<=s.size/\0<=n/\n<=999999/\Hid (n=dv s j (k-j))/\Hid (run aU s k=run aU s j)/\Hid (RS wr rb s k lv bad er at_ aI)/\Hid (w.grownBy wr (some rb))) (fun _ _ wr=>s.size-rdI wr rb);case atStart=>exact⟨j,0,rfl,ai _,nu,by omega,by omega,by show _=_;rw[Nat.sub_self];rfl,rfl,HR,HG1⟩
 case round=>
  obtain⟨k,n,rfl,tA,hk,n0,n1,Nq,HK,HS,HG⟩:=hrel;have hs1:=HS.out;have c0:=hs1.c0;have c1:=hs1.c1;have c3:=hs1.c3;have f1:=hs1.fz 1;have qq:=qH<|hs1.rdI;by_cases my:aU (dh s k)=true
  ·have hlt:k<s.size:=by
    by_cases e:k<s.size;·exact e
    ·rw[dO e]at my;cases my
   have aK:(k:Int)<(s.size:Int):=by omega
   have el:=decide_eq_true aK;obtain⟨x,hx⟩:=aj (s[k].toNat);have gU:dh s k=x:=by rw[ea hlt,hx]
   have hrk:=iL hlt my;have km:Hid (run aU s (k+1)=run aU s j):=by rw[<-HK.out];exact hrk.symm
   have Ki:k<run aU s j:=by rw[<-HK.out,hrk];exact iJ _ _ _
   have Gv:dv s j (k+1-j)=if k-j<6 then 10*n+((x:Int)-48)else n:=by rw[show k+1-j=(k-j)+1 by omega,dv,<-Nq.out,show j+(k-j)=k by omega,gU]
   have SL:=rO s j (k-j) (fun t ht=>HDG t (by omega));have J1:=rO s j (k+1-j) (fun t ht=>HDG t (by omega));rw[<-Nq.out]at SL;rw[gU]at my;unfold aU at my;simp only[qi,decide_eq_true_eq]at my;obtain⟨l1,l2⟩:=my;have e1:decide ((48:Int)<=(x:Int))=true:=decide_eq_true (by omega);have e2:decide ((x:Int)<=57)=true:=decide_eq_true (by omega);have HN:=qH<|fun q=>by have:=(HS.drewN q).setI (k+1);rw[show((k+1:Nat):Int)=(k:Int)+1 by omega]at this;exact this
   by_cases h6:k-j<6
   ·rw[if_pos h6]at Gv;have Of:(k:Int)-(j:Int)<6:=by omega
    have HND:Hid (10*n+(x:Int)-48=dv s j (k+1-j)):=by show _=_;rw[Gv];omega
    have nb0:0<=10*n+(x:Int)-48:=by omega
    have nb1:10*n+(x:Int)-48<=999999:=by rw[HND.out];exact J1.2.1
    clear hs1 HK HS gU Gv SL J1 hrk Ki Nq;go_wp2_with fail;go_quiet(fail);go_wp2_with fail;go_quiet(fail);go_wp2;go_roundw;case rel=>exact⟨k+1,_,rfl,by omega,by omega,nb0,nb1,HND,km,HN _,gr_trans (gr_trans HG (aG _ _ _)) (bP _ _ _ _)⟩
    case measure=>rw[(HN _).rdI,qq.out];omega
   ·rw[if_neg h6]at Gv;have Of:¬(k:Int)-(j:Int)<6:=by omega
    have HND:Hid (n=dv s j (k+1-j)):=by show _=_;rw[Gv]
    clear hs1 HK HS gU Gv SL J1 hrk Ki Nq;go_wp2_with fail;go_quiet(fail);go_wp2;go_roundw;case rel=>exact⟨k+1,n,rfl,by omega,by omega,n0,n1,HND,km,HN _,gr_trans (gr_trans HG (aG _ _ _)) (bP _ _ _ _)⟩
    case measure=>rw[(HN _).rdI,qq.out];omega
  ·have hrk:run aU s j=k:=by rw[<-HK.out];exact jH (by grind)
   have jg:=qH<|hrk;have CF:=qH<|fun W h=>fail_any rb s k lv bad er at_ aI j W h;clear hrk hs1 HK;by_cases hlt:k<s.size;focus
    have aK:(k:Int)<(s.size:Int):=by omega
    have el:=decide_eq_true aK;obtain⟨x,hx⟩:=aj (s[k].toNat);have gU:dh s k=x:=by rw[ea hlt,hx]
    rw[gU]at my;unfold aU at my;simp only[qi,decide_eq_true_eq]at my;clear gU;by_cases l1:48<=x;focus have l2:¬x<=57:=fun e=>my ⟨l1,e⟩;have e1:decide ((48:Int)<=(x:Int))=true:=decide_eq_true (by omega);have e2:decide ((x:Int)<=57)=false:=decide_eq_false (by omega);clear my;go_wp2_with fail;go_quiet(fail)
    rotate_left;focus have e1:decide ((48:Int)<=(x:Int))=false:=decide_eq_false (by omega);clear my;go_wp2_with fail;go_quiet(fail)
   rotate_left 2;focus
    have aK:¬(k:Int)<(s.size:Int):=by omega
    have el:=decide_eq_false aK;clear my;go_wp2_with fail;go_quiet(fail)
   all_goals
    by_cases t0:k=j
    ·have HE:Hid (fD bad (j:Int)=kh s j k bad):=by show _=_;unfold kh fD;rw[if_pos hb,if_pos (.inl t0)]
     have u0:(k:Int)-(j:Int)=0:=by omega
     go_wp2_with fail;refine(CF _ (HS.drewN _)).mono ?_;rintro e w2 ⟨rfl,h2,g2⟩;have H2:Hid (RS w2 rb s k lv (kh s j k bad) er at_ aI):=by have:=h2;rw[HE.out]at this;exact this
     have fU:=qH<|gr_trans (gr_trans HG (aG _ _ _)) g2;clear h2 g2;go_wp2;go_ret2;exact⟨by rw[jg.out,<-Nq.out];rfl,by rw[jg.out];exact H2,fU⟩
    ·by_cases t6:j+6<k
     ·have HE:Hid (fD bad (j:Int)=kh s j k bad):=by show _=_;unfold kh fD;rw[if_pos hb,if_pos (.inr (.inl t6))]
      have u0:¬(k:Int)-(j:Int)=0:=by omega
      have u1:((k:Int)-(j:Int)==0)=false:=by simp;omega
      have u6:(6:Int)<(k:Int)-(j:Int):=by omega
      go_wp2_with fail;refine(CF _ (HS.drewN _)).mono ?_;rintro e w2 ⟨rfl,h2,g2⟩;have H2:Hid (RS w2 rb s k lv (kh s j k bad) er at_ aI):=by have:=h2;rw[HE.out]at this;exact this
      have fU:=qH<|gr_trans (gr_trans HG (aG _ _ _)) g2;clear h2 g2;go_wp2;go_ret2;exact⟨by rw[jg.out,<-Nq.out];rfl,by rw[jg.out];exact H2,fU⟩
     ·have u0:¬(k:Int)-(j:Int)=0:=by omega
      have u1:((k:Int)-(j:Int)==0)=false:=by simp;omega
      have u6:¬(6:Int)<(k:Int)-(j:Int):=by omega
      by_cases t1:j+1<k
      ·have v1:(1:Int)<(k:Int)-(j:Int):=by omega
       have MZ:j<s.size:=by omega
       have zjv:(j:Int)<(s.size:Int):=by omega
       obtain⟨z,hz⟩:=aj (s[j].toNat);have ZC:dh s j=z:=by rw[ea MZ,hz]
       by_cases tz:z=48
       ·have HE:Hid (fD bad (j:Int)=kh s j k bad):=by show _=_;unfold kh fD;rw[if_pos hb,if_pos (.inr (.inr ⟨t1,by rw[ZC];exact tz⟩))]
        subst tz;clear ZC;go_wp2_with fail;refine(CF _ (HS.drewN _)).mono ?_;rintro e w2 ⟨rfl,h2,g2⟩;have H2:Hid (RS w2 rb s k lv (kh s j k bad) er at_ aI):=by have:=h2;rw[HE.out]at this;exact this
        have fU:=qH<|gr_trans (gr_trans HG (aG _ _ _)) g2;clear h2 g2;go_wp2;go_ret2;exact⟨by rw[jg.out,<-Nq.out];rfl,by rw[jg.out];exact H2,fU⟩
       ·have HE:Hid (kh s j k bad=bad):=by show _=_;unfold kh;rw[if_neg (by rw[ZC];omega)]
        have ez:((z:Int)==48)=false:=by simp;omega
        clear ZC;go_wp2;go_ret2;exact⟨by rw[jg.out,<-Nq.out];rfl,by rw[jg.out,HE.out];exact HS.drewN _,gr_trans HG (aG _ _ _)⟩
      ·have v1:¬(1:Int)<(k:Int)-(j:Int):=by omega
       have HE:Hid (kh s j k bad=bad):=by show _=_;unfold kh;rw[if_neg (by omega)]
       go_wp2;go_ret2;exact⟨by rw[jg.out,<-Nq.out];rfl,by rw[jg.out,HE.out];exact HS.drewN _,gr_trans HG (aG _ _ _)⟩
theorem jx(xs:List Int)(hx:∀x∈xs,0<=x/\x<256)(w:World):
 (convert 183 9 (Sq w.heap.size xs.length xs.length)).run prog (w.alloc (.cells (xs.map (Value.int .u8)).toArray 5))=
  .ok (.string ⟨(xs.map fun x=>x.toNat.toUInt8).toArray⟩) (w.alloc (.cells (xs.map (Value.int .u8)).toArray 5)):=by
 have h:=run_convert_bytes_back (P:=prog) (w.alloc (.cells (xs.map (Value.int .u8)).toArray 5)) 183 9 5 (az w.heap.size 0) xs.length (xs.map fun x=>x.toNat.toUInt8) underlying183 underlying5 underlying9 (by
  intro j hj;simp only[Me]at hj;have e:((az w.heap.size 0):Addr).add j=(az w.heap.size j):=by unfold Addr.add;split<;>simp_all
  rw[e,World.cell?_alloc_mark];have hb:=hx xs[j] (l6 hj);simp[hj];omega);grind
theorem El  a  (ha:0<=a/\a<256) (w:World):
 (convert 183 9 (Sq w.heap.size 1 1)).run prog (w.alloc (.cells #[.int .u8 a] 5))=.ok (.string ⟨#[a.toNat.toUInt8]⟩) (w.alloc (.cells #[.int .u8 a] 5)):=
 jx [a] (by grind) w
theorem N5  a  (ha:0<=a/\a<256) (w:World)  rb   z  :∀q,(convert 183 9 (Sq w.heap.size 1 1)).run prog (((w.drewN q).setCell (az rb 1) (Iq z)).alloc (.cells #[.int .u8 a] 5))=.ok (.string ⟨#[a.toNat.toUInt8]⟩) (((w.drewN q).setCell (az rb 1) (Iq z)).alloc (.cells #[.int .u8 a] 5)):=fun q=>by have:=El a ha ((w.drewN q).setCell (az rb 1) (Iq z));simp_all
theorem rN  a  (ha:0<=a/\a<256) (w:World)  rb   z y  :∀q q',(convert 183 9 (Sq w.heap.size 1 1)).run prog (((((w.drewN q).setCell (az rb 1) (Iq z)).drewN q').setCell (az rb 1) (Iq y)).alloc (.cells #[.int .u8 a] 5))=.ok (.string ⟨#[a.toNat.toUInt8]⟩) (((((w.drewN q).setCell (az rb 1) (Iq z)).drewN q').setCell (az rb 1) (Iq y)).alloc (.cells #[.int .u8 a] 5)):=fun q q'=>by have:=El a ha ((((w.drewN q).setCell (az rb 1) (Iq z)).drewN q').setCell (az rb 1) (Iq y));simp_all
def qF(s:ByteArray):Nat->Nat->List UInt8->Except Nat (Nat×List UInt8)
 |0,p,_=>.error p
 |f+1,p,acc=>
  if dh s p=256 then .error p
  else if dh s p=34 then .ok (p+1,acc)
  else if dh s p=92 then
   if dh s (p+1)=34\/dh s (p+1)=92 then qF s f (p+2) (acc++[(dh s (p+1)).toUInt8])
   else if dh s (p+1)=110 then qF s f (p+2) (acc++[10])
   else .error (p+1)
  else qF s f (p+1) (acc++[(dh s p).toUInt8])
def ee(s:ByteArray)(i:Nat):Except Nat (Nat×List UInt8):=if aM s i 34 then qF s (s.size+2) (ao s i 34) []else .error (sk s i)
def zaE(w w':World)(e:Ending)(rb:Nat)(s:ByteArray)(lv:Value)(bad er at_ aI:Int)(r:Except Nat (Nat×List UInt8)):Prop:=
 w.grownBy w' (some rb)/\match r with
  |.ok (p,t)=>e=Rw (.string ⟨t.toArray⟩)/\RS w' rb s p lv bad er at_ aI
  |.error b=>e=Rw (.string ByteArray.empty)/\∃p,p<=s.size/\RS w' rb s p lv (b:Int) er at_ aI
theorem Dt(rb:Nat)(s:ByteArray)(i:Nat)(lv:Value)(bad er at_ aI:Int)(w:World)(h:RS w rb s i lv bad er at_ aI)(hs:s.size<=1073741824)(hi:i<=s.size)(hb:bad<0):
 Cw 54 #[Pq rb] w fun e w'=>zaE w w' e rb s lv bad er at_ aI (ee s i):=by
 have CM:Hid (Cw 53 #[Pq rb,.int .u8 34] w fun e w'=>e=Rw (.tuple #[])/\RS w' rb s (ao s i 34) lv (gZ s i 34 bad) er at_ aI/\w.grownBy w' (some rb)):=zF rb s i lv bad er at_ aI 34 w h (by omega) hi (by omega) hb;clear h;by_cases Ey:aM s i 34=true
 ·have Vb:gZ s i 34 bad=bad:=by unfold gZ;rw[if_pos Ey]
  have HQ:Hid (ee s i=qF s (s.size+2) (ao s i 34) []):=by show _=_;unfold ee;rw[if_pos Ey]
  have UU:ao s i 34<=s.size:=by
   unfold aM at Ey;have e:dh s (sk s i)=34:=by simpa using Ey
   unfold ao;rw[if_pos e];by_cases c:sk s i<s.size;·omega
   ·grind[dO]
  obtain⟨j,hj⟩:=aj (ao s i 34);rw[Vb,hj]at CM;rw[hj]at HQ UU;clear Vb hj Ey;go_enter func54,ntmps54;go_wp2_with fail;refine CM.mono ?_;rintro e w1 ⟨rfl,h1,g1⟩;have HR:=qH<|h1;have HG1:=qH<|g1;clear h1 g1 CM;go_wp2;go_loopw[3,7] (fun v _ wr=>∃(k f:Nat) (Y:Array UInt8),v=.string ⟨Y⟩/\k<=s.size/\Y.size<=k/\s.size<k+f/\Hid (qF s f k Y.toList=ee s i)/\Hid (RS wr rb s k lv bad er at_ aI)/\Hid (w.grownBy wr (some rb))) (fun _ _ wr=>s.size-rdI wr rb);case atStart=>grind
  case round=>
   obtain⟨k,f,Y,rfl,hk,hY,hf,HF,HS,HG⟩:=hrel;have hs1:=HS.out;have c0:=hs1.c0;have c1:=hs1.c1;have c3:=hs1.c3;have f1:=hs1.fz 1;have qq:=qH<|hs1.rdI;have CF:=qH<|fun g W h=>fail_any rb s g lv bad er at_ aI g W h;have _p:Hid (∀a,fD bad a=a):=fun a=>by unfold fD;rw[if_pos hb]
   obtain⟨f,rfl⟩:∃f',f=f'+1:=⟨f-1,by omega⟩;clear hs1;by_cases hlt:k<s.size
   ·have aK:(k:Int)<(s.size:Int):=by omega
    have qD:¬(s.size:Int)<=(k:Int):=by omega
    obtain⟨x,hx⟩:=aj (s[k].toNat);have gU:dh s k=x:=by rw[ea hlt,hx]
    have zfP:x<256:=by rw[<-gU];exact vZ hlt
    have HF1:Hid (ee s i=if x=34 then .ok (k+1,Y.toList)else if x=92 then(if dh s (k+1)=34\/dh s (k+1)=92 then qF s f (k+2) (Y.toList++[(dh s (k+1)).toUInt8])else if dh s (k+1)=110 then qF s f (k+2) (Y.toList++[10])else .error (k+1))else qF s f (k+1) (Y.toList++[x.toUInt8])):=by show _=_;rw[<-HF.out,qF,gU,if_neg (by omega)]
    clear HF gU;by_cases _d:x=34
    ·have HE:Hid (ee s i=.ok (k+1,Y.toList)):=by show _=_;rw[HF1.out,if_pos _d]
     have HN:=qH<|fun q=>by have:=(HS.drewN q).setI (k+1);rw[show((k+1:Nat):Int)=(k:Int)+1 by omega]at this;exact this
     subst _d;clear HF1 HS;go_wp2_with fail;go_quiet(fail);go_wp2_with fail;go_quiet(fail);go_wp2;go_ret;exact⟨gr_trans (gr_trans HG (aG _ _ _)) (bP _ _ _ _),by rw[HE.out];exact⟨rfl,HN _⟩⟩
    ·by_cases q92:x=92
     ·rw[if_neg _d,if_pos q92]at HF1;have HN1:=qH<|fun q=>by have:=(HS.drewN q).setI (k+1);rw[show((k+1:Nat):Int)=(k:Int)+1 by omega]at this;exact this
      subst q92;have CF1:=qH<|fun W h=>by have:=CF (k+1) W h;rw[show((k+1:Nat):Int)=(k:Int)+1 by omega]at this;exact this
      by_cases qD:k+1<s.size
      ·have tQ:(k:Int)+1<(s.size:Int):=by omega
       have hgd:decide ((s.size:Int)<=(k:Int)+1)=false:=decide_eq_false (by omega);obtain⟨y,hy⟩:=aj (s[k+1].toNat);have SQ:dh s (k+1)=y:=by rw[ea qD,hy]
       have zfR:y<256:=by rw[<-SQ];exact vZ qD
       rw[SQ]at HF1;clear SQ;by_cases ok:y=34\/y=92\/y=110
       ·have oC:=qH<|fun q q'=>by have:=((HN1 q).drewN q').setI (k+2);rw[show((k+2:Nat):Int)=(k:Int)+1+1 by omega]at this;exact this
        rcases ok with ok|ok|ok;focus
         have HF2:Hid (qF s f (k+2) (Y.toList++[34])=ee s i):=by show _=_;rw[HF1.out,if_pos (.inl ok),ok];rfl
         subst ok;have OC:=rN 34 (by omega) wr rb ((k:Int)+1) ((k:Int)+1+1)
        rotate_left;focus
         have HF2:Hid (qF s f (k+2) (Y.toList++[92])=ee s i):=by show _=_;rw[HF1.out,if_pos (.inr ok),ok];rfl
         subst ok;have OC:=rN 92 (by omega) wr rb ((k:Int)+1) ((k:Int)+1+1)
        rotate_left;focus
         have HF2:Hid (qF s f (k+2) (Y.toList++[10])=ee s i):=by show _=_;rw[HF1.out,if_neg (by omega),if_pos ok]
         subst ok;have OC:=rN 10 (by omega) wr rb ((k:Int)+1) ((k:Int)+1+1)
        rotate_left;all_goals
         clear HF1 HS;go_wp2_with fail;go_quiet(fail);go_wp2_with fail;go_quiet(fail);go_wp2_with fail;go_quiet(fail);go_wp2_with fail;go_quiet(fail);go_wp2;go_roundw;case rel=>exact⟨k+2,f,_,rfl,by omega,by simp;omega,by omega,by show _=_;rw[<-HF2.out],(oC _ _).below ((ag _ _).alloc (ai _) _),gr_trans (gr_trans (gr_trans (gr_trans (gr_trans HG (aG _ _ _)) (bP _ _ _ _)) (aG _ _ _)) (bP _ _ _ _)) (eF ((ag _ _).alloc (ai _) _))⟩
         case measure=>rw[((oC _ _).below ((ag _ _).alloc (ai _) _)).rdI,qq.out];omega
       ·have e1:((y:Int)!=34)=true:=by simp;omega
        have e2:((y:Int)!=92)=true:=by simp;omega
        have e3:((y:Int)!=110)=true:=by simp;omega
        have HE:Hid (ee s i=.error (k+1)):=by show _=_;rw[HF1.out,if_neg (by omega),if_neg (by omega)]
        clear HF1 HS ok;go_wp2_with fail;go_quiet(fail);go_wp2_with fail;go_quiet(fail);go_wp2_with fail;go_quiet(fail);go_wp2_with fail;refine(CF1 _ (by first|exact HN1 _|exact(HN1 _).drewN _)).mono ?_;rintro e w2 ⟨rfl,h2,g2⟩;have H2:Hid (RS w2 rb s (k+1) lv ((k+1:Nat):Int) er at_ aI):=by have:=h2;rw[_p.out]at this;rw[show((k+1:Nat):Int)=(k:Int)+1 by omega];exact this
        have fU:Hid (w.grownBy w2 (some rb)):=by first|exact gr_trans (gr_trans (gr_trans HG (aG _ _ _)) (bP _ _ _ _)) g2|exact gr_trans (gr_trans (gr_trans (gr_trans HG (aG _ _ _)) (bP _ _ _ _)) (aG _ _ _)) g2
        clear h2 g2;go_wp2;go_ret;exact⟨fU,by rw[HE.out];exact⟨rfl,k+1,by omega,H2⟩⟩
      ·have qC:(s.size:Int)<=(k:Int)+1:=by omega
       have hgd:=decide_eq_true qC;have HE:Hid (ee s i=.error (k+1)):=by show _=_;rw[HF1.out,dO qD,if_neg (by omega),if_neg (by omega)]
       clear HF1 HS;go_wp2_with fail;go_quiet(fail);go_wp2_with fail;go_quiet(fail);go_wp2_with fail;go_quiet(fail);go_wp2_with fail;refine(CF1 _ (by first|exact HN1 _|exact(HN1 _).drewN _)).mono ?_;rintro e w2 ⟨rfl,h2,g2⟩;have H2:Hid (RS w2 rb s (k+1) lv ((k+1:Nat):Int) er at_ aI):=by have:=h2;rw[_p.out]at this;rw[show((k+1:Nat):Int)=(k:Int)+1 by omega];exact this
       have fU:Hid (w.grownBy w2 (some rb)):=by first|exact gr_trans (gr_trans (gr_trans HG (aG _ _ _)) (bP _ _ _ _)) g2|exact gr_trans (gr_trans (gr_trans (gr_trans HG (aG _ _ _)) (bP _ _ _ _)) (aG _ _ _)) g2
       clear h2 g2;go_wp2;go_ret;exact⟨fU,by rw[HE.out];exact⟨rfl,k+1,by omega,H2⟩⟩
     ·have HF2:Hid (qF s f (k+1) (Y.toList++[x.toUInt8])=ee s i):=by show _=_;rw[HF1.out,if_neg _d,if_neg q92]
      have HN:=qH<|fun q=>by have:=(HS.drewN q).setI (k+1);rw[show((k+1:Nat):Int)=(k:Int)+1 by omega]at this;exact this
      have e1:((x:Int)==34)=false:=by simp;omega
      have e2:((x:Int)==92)=false:=by simp;omega
      have OC:=N5 (x:Int) ⟨by omega,by omega⟩ wr rb ((k:Int)+1);have Rc:((x:Int).toNat).toUInt8=x.toUInt8:=by simp
      rw[Rc]at OC;clear Rc;clear HF1 HS;go_wp2_with fail;go_quiet(fail);go_wp2_with fail;go_quiet(fail);go_wp2;go_roundw;case rel=>exact⟨k+1,f,_,rfl,by omega,by simp;omega,by omega,by show _=_;rw[<-HF2.out],(HN _).below ((ag _ _).alloc (ai _) _),gr_trans (gr_trans (gr_trans HG (aG _ _ _)) (bP _ _ _ _)) (eF ((ag _ _).alloc (ai _) _))⟩
      case measure=>rw[((HN _).below ((ag _ _).alloc (ai _) _)).rdI,qq.out];omega
   ·have qC:(s.size:Int)<=(k:Int):=by omega
    have HE:Hid (ee s i=.error k):=by show _=_;rw[<-HF.out,qF,if_pos (dO hlt)]
    clear HF;go_wp2_with fail;go_quiet(fail);go_wp2_with fail;refine(CF k _ (HS.drewN _)).mono ?_;rintro e w2 ⟨rfl,h2,g2⟩;have H2:Hid (RS w2 rb s k lv (k:Int) er at_ aI):=by have:=h2;rw[_p.out]at this;exact this
    have fU:=qH<|gr_trans (gr_trans HG (aG _ _ _)) g2;clear h2 g2;go_wp2;go_ret;exact⟨fU,by rw[HE.out];exact⟨rfl,k,hk,H2⟩⟩
 ·have Vb:gZ s i 34 bad=(sk s i:Int):=by unfold gZ;rw[if_neg Ey]
  have HQ:Hid (ee s i=.error (sk s i)):=by show _=_;unfold ee;rw[if_neg Ey]
  have UU:ao s i 34<=s.size:=by unfold aM at Ey;unfold ao;rw[if_neg (by grind)];exact eh s i hi
  rw[Vb]at CM;obtain⟨j,hj⟩:=aj (ao s i 34);obtain⟨b,hbe⟩:∃b:Int,(sk s i:Int)=b:=⟨_,rfl⟩;have Ue:=qH<|hbe;have hb0:¬b<0:=by omega
  rw[hj,hbe]at CM;rw[hj]at UU;clear Vb hj Ey hbe;go_enter func54,ntmps54;go_wp2_with fail;refine CM.mono ?_;rintro e w1 ⟨rfl,h1,g1⟩;have HR:=qH<|h1;have HG1:=qH<|g1;have c3:=h1.c3;clear h1 g1 CM;go_wp2;go_loopw[3,7] (fun v _ wr=>v=.string ByteArray.empty/\wr=w1) (fun _ _ _=>0);case atStart=>exact⟨rfl,rfl⟩
  case round=>obtain⟨rfl,hw⟩:=hrel;obtain rfl:=hw.symm;go_wp2;go_ret;exact⟨HG1,by rw[HQ.out];exact⟨rfl,j,UU,by rw[Ue.out];exact HR⟩⟩
def b_:List ByteArray:=[⟨#[114,111,119]⟩,⟨#[99,111,108]⟩,⟨#[115,116,97,99,107]⟩,⟨#[98,111,120]⟩,⟨#[115,99,114,111,108,108]⟩,⟨#[116,101,120,116]⟩,⟨#[103,97,112]⟩]
theorem uS(w:World):Cw 49 #[] w fun e w'=>e=Rw (Sq w.heap.size 7 7)/\(∀j,j<7->w'.cell? (az w.heap.size (0+j))=some (.string (b_[j]?.getD ByteArray.empty)))/\w.heap.size<w'.heap.size/\Bt w w':=by
 have HC:Hid (∀j,j<7->(w.alloc (.cells #[.string ⟨#[114,111,119]⟩,.string ⟨#[99,111,108]⟩,.string ⟨#[115,116,97,99,107]⟩,.string ⟨#[98,111,120]⟩,.string ⟨#[115,99,114,111,108,108]⟩,.string ⟨#[116,101,120,116]⟩,.string ⟨#[103,97,112]⟩] 9)).cell? (az w.heap.size (0+j))=some (.string (b_[j]?.getD ByteArray.empty))):=fun j hj=>by
  rw[bC,World.cell?_alloc_at _ _ _ _ rfl];match j,hj with
  |0,_=>rfl
  |1,_=>rfl
  |2,_=>rfl
  |3,_=>rfl
  |4,_=>rfl
  |5,_=>rfl
  |6,_=>rfl
 go_enter func49,ntmps49;go_wp2;go_ret;exact⟨rfl,HC,by simp,(ag _ _).alloc (ai _) _⟩
def bZ:List ByteArray:=[⟨#[105,100]⟩,⟨#[109,105,110]⟩,⟨#[109,97,120]⟩,⟨#[119,101,105,103,104,116]⟩,⟨#[103,97,112]⟩,⟨#[112,97,100]⟩,⟨#[98,111,114,100,101,114]⟩,⟨#[97,108,105,103,110]⟩,⟨#[119,114,97,112]⟩,⟨#[102,103]⟩,⟨#[98,103]⟩,⟨#[98,111,108,100]⟩]
theorem GW(w:World):Cw 95 #[] w fun e w'=>e=Rw (Sq w.heap.size 12 12)/\(∀j,j<12->w'.cell? (az w.heap.size (0+j))=some (.string (bZ[j]?.getD ByteArray.empty)))/\w.heap.size<w'.heap.size/\Bt w w':=by
 have HC:Hid (∀j,j<12->(w.alloc (.cells #[.string ⟨#[105,100]⟩,.string ⟨#[109,105,110]⟩,.string ⟨#[109,97,120]⟩,.string ⟨#[119,101,105,103,104,116]⟩,.string ⟨#[103,97,112]⟩,.string ⟨#[112,97,100]⟩,.string ⟨#[98,111,114,100,101,114]⟩,.string ⟨#[97,108,105,103,110]⟩,.string ⟨#[119,114,97,112]⟩,.string ⟨#[102,103]⟩,.string ⟨#[98,103]⟩,.string ⟨#[98,111,108,100]⟩] 9)).cell? (az w.heap.size (0+j))=some (.string (bZ[j]?.getD ByteArray.empty))):=fun j hj=>by
  rw[bC,World.cell?_alloc_at _ _ _ _ rfl];match j,hj with
  |0,_=>rfl
  |1,_=>rfl
  |2,_=>rfl
  |3,_=>rfl
  |4,_=>rfl
  |5,_=>rfl
  |6,_=>rfl
  |7,_=>rfl
  |8,_=>rfl
  |9,_=>rfl
  |10,_=>rfl
  |11,_=>rfl
 go_enter func95,ntmps95;go_wp2;go_ret;exact⟨rfl,HC,by simp,(ag _ _).alloc (ai _) _⟩
def iE:List Int:=[999999,100000,100000,100000,100,20,1,2,1,8,8,1]
theorem KX(w:World):Cw 97 #[] w fun e w'=>e=Rw (Sq w.heap.size 12 12)/\(∀j,j<12->w'.cell? (az w.heap.size (0+j))=some (Iq (iE[j]?.getD 0))/\w'.frozen? (az w.heap.size (0+j))=false)/\w.heap.size<w'.heap.size/\Bt w w':=by
 have HC:Hid (∀j,j<12->(w.alloc (.cells #[Iq (999999),Iq (100000),Iq (100000),Iq (100000),Iq (100),Iq (20),Iq (1),Iq (2),Iq (1),Iq (8),Iq (8),Iq (1)] 3)).cell? (az w.heap.size (0+j))=some (Iq (iE[j]?.getD 0))/\(w.alloc (.cells #[Iq (999999),Iq (100000),Iq (100000),Iq (100000),Iq (100),Iq (20),Iq (1),Iq (2),Iq (1),Iq (8),Iq (8),Iq (1)] 3)).frozen? (az w.heap.size (0+j))=false):=fun j hj=>by
  rw[bC,World.cell?_alloc_at _ _ _ _ rfl,World.frozen?_alloc_at _ _ _ _ rfl];match j,hj with
  |0,_=>exact⟨rfl,rfl⟩
  |1,_=>exact⟨rfl,rfl⟩
  |2,_=>exact⟨rfl,rfl⟩
  |3,_=>exact⟨rfl,rfl⟩
  |4,_=>exact⟨rfl,rfl⟩
  |5,_=>exact⟨rfl,rfl⟩
  |6,_=>exact⟨rfl,rfl⟩
  |7,_=>exact⟨rfl,rfl⟩
  |8,_=>exact⟨rfl,rfl⟩
  |9,_=>exact⟨rfl,rfl⟩
  |10,_=>exact⟨rfl,rfl⟩
  |11,_=>exact⟨rfl,rfl⟩
 go_enter func97,ntmps97;go_wp2;go_ret;exact⟨rfl,HC,by simp,(ag _ _).alloc (ai _) _⟩
def aV:List Int:=[0,0,-1,1,0,0,1,0,1,0,0,0]
theorem AR(w:World):Cw 92 #[] w fun e w'=>e=Rw (Sq w.heap.size 12 12)/\(∀j,j<12->w'.cell? (az w.heap.size (0+j))=some (Iq (aV[j]?.getD 0))/\w'.frozen? (az w.heap.size (0+j))=false)/\w.heap.size<w'.heap.size/\Bt w w':=by
 have HC:Hid (∀j,j<12->(w.alloc (.cells #[Iq (0),Iq (0),Iq (-1),Iq (1),Iq (0),Iq (0),Iq (1),Iq (0),Iq (1),Iq (0),Iq (0),Iq (0)] 3)).cell? (az w.heap.size (0+j))=some (Iq (aV[j]?.getD 0))/\(w.alloc (.cells #[Iq (0),Iq (0),Iq (-1),Iq (1),Iq (0),Iq (0),Iq (1),Iq (0),Iq (1),Iq (0),Iq (0),Iq (0)] 3)).frozen? (az w.heap.size (0+j))=false):=fun j hj=>by
  rw[bC,World.cell?_alloc_at _ _ _ _ rfl,World.frozen?_alloc_at _ _ _ _ rfl];match j,hj with
  |0,_=>exact⟨rfl,rfl⟩
  |1,_=>exact⟨rfl,rfl⟩
  |2,_=>exact⟨rfl,rfl⟩
  |3,_=>exact⟨rfl,rfl⟩
  |4,_=>exact⟨rfl,rfl⟩
  |5,_=>exact⟨rfl,rfl⟩
  |6,_=>exact⟨rfl,rfl⟩
  |7,_=>exact⟨rfl,rfl⟩
  |8,_=>exact⟨rfl,rfl⟩
  |9,_=>exact⟨rfl,rfl⟩
  |10,_=>exact⟨rfl,rfl⟩
  |11,_=>exact⟨rfl,rfl⟩
 go_enter func92,ntmps92;go_wp2;go_ret;exact⟨rfl,HC,by simp,(ag _ _).alloc (ai _) _⟩
def gn(kind attr:Nat):Bool:=if attr=4 then(kind==0||kind==1)else if attr=5\/attr=6 then kind==3 else if attr=7\/attr=8 then kind==5 else true
theorem zS(kind attr:Nat)(hk:kind<7)(ha:attr<12)(w:World):Cw 96 #[Iq (kind:Int),Iq (attr:Int)] w fun e w'=>e=Rw (.bool (gn kind attr))/\w'=w:=by
 obtain⟨r,hr⟩:=aj (gn kind attr);rw[hr];have HK:kind=0\/kind=1\/kind=2\/kind=3\/kind=4\/kind=5\/kind=6:=by omega
 have HA:attr=0\/attr=1\/attr=2\/attr=3\/attr=4\/attr=5\/attr=6\/attr=7\/attr=8\/attr=9\/attr=10\/attr=11:=by omega
 rcases HA with rfl|rfl|rfl|rfl|rfl|rfl|rfl|rfl|rfl|rfl|rfl|rfl<;>rcases HK with rfl|rfl|rfl|rfl|rfl|rfl|rfl<;>
  (simp[gn]at hr;subst hr;go_enter func96,ntmps96;go_wp2;go_ret;simp_all)
structure Nd where
 kind:Nat
 attr:List Int
 text:List UInt8
 kids:List Nat
 up:Int
abbrev fP:=Option (Nat×Nat)
def ib(f:fP)(c p:Nat):fP:=match f with
 |none=>some (c,p)
 |some x=>some x
def bD(b:Bool)(f:fP)(c p:Nat):fP:=if b then ib f c p else f
structure PS where
 i:Nat
 L:List Nd
 er:fP
def cz(s:ByteArray)(i c:Nat):Except Nat Nat:=if aM s i c then .ok (ao s i c)else .error (sk s i)
def jV(s:ByteArray)(j k:Nat):Bool:=decide (k=j\/j+6<k\/(j+1<k/\dh s j=48))
def eJ(L:List Nd)(n:Int):Bool:=L.any fun d=>d.attr[0]?.getD 0==n
def iu(s:ByteArray)(kind:Nat)(L:List Nd)(i:Nat)(er:fP)(a:List Int)(seen:List Nat):Except Nat (Nat×fP×List Int×List Nat):=
 let at_:=sk s i
 let k:=run ap s at_
 if k=at_ then .error at_ else
 match cz s k 61 with
 |.error b=>.error b
 |.ok i2=>
  let j:=sk s i2
  let e:=run aU s j
  if jV s j e then .error j else
  let n:=dv s j (e-j)
  let ix:=aJ bZ (s.extract at_ k) 0
  if ix<0\/gn kind ix.toNat=false then .ok (e,ib er 7 at_,a,seen)
  else .ok (e,bD (decide (ix=0/\0<n)&&eJ L n) (bD (decide (iE[ix.toNat]?.getD 0<n)) (bD (seen.contains ix.toNat) er 5 at_) 6 j) 5 j,a.set ix.toNat n,ix.toNat::seen)
def dy(s:ByteArray)(kind:Nat)(L:List Nd):Nat->Nat->fP->List Int->List Nat->Except Nat (Nat×fP×List Int)
 |0,i,_,_,_=>.error i
 |f+1,i,er,a,seen=>match iu s kind L i er a seen with
  |.error b=>.error b
  |.ok (i2,dY,a2,oh)=>
   if aM s i2 59 then dy s kind L f (ao s i2 59) dY a2 oh
   else match cz s i2 125 with
    |.error b=>.error b
    |.ok i3=>.ok (i3,dY,a2)
def cY(s:ByteArray)(kind:Nat)(L:List Nd)(i:Nat)(er:fP):Except Nat (Nat×fP×List Int):=
 if aM s i 123 then dy s kind L (s.size+1) (ao s i 123) er aV []else .ok (sk s i,er,aV)
def grown(L:List Nd)(d:Nd):List Nd:=
 if d.up<0 then L++[d]else(L.modify d.up.toNat fun u=>{u with kids:=u.kids++[L.length]})++[d]
def aB(L:List Nd)(k:Nat)(t:List UInt8):List Nd:=L.modify k fun u=>{u with text:=t}
def dH(s:ByteArray)(bB:PS->Except Nat PS):Nat->PS->Except Nat PS
 |0,st=>.error st.i
 |f+1,st=>match bB st with
  |.error b=>.error b
  |.ok eR=>if aM s eR.i 44 then dH s bB f {eR with i:=ao s eR.i 44}else match cz s eR.i 93 with
   |.error b=>.error b
   |.ok i3=>.ok {eR with i:=i3}
def i_(s:ByteArray)(kind k:Nat)(bB:PS->Except Nat PS)(st:PS):Except Nat PS:=
 if kind<3 then match cz s st.i 91 with
  |.error b=>.error b
  |.ok i2=>if aM s i2 93 then .ok {st with i:=ao s i2 93}else dH s bB (s.size+1) {st with i:=sk s i2}
 else if kind<5 then match cz s st.i 91 with
  |.error b=>.error b
  |.ok i2=>match bB {st with i:=i2}with
   |.error b=>.error b
   |.ok dE=>match cz s dE.i 93 with
    |.error b=>.error b
    |.ok i4=>.ok {dE with i:=i4}
 else if kind=5 then match ee s st.i with
  |.error b=>.error b
  |.ok (i2,t)=>.ok {st with i:=i2,L:=aB st.L k t}
 else .ok st
def cC(s:ByteArray):Nat->Int->Nat->PS->Except Nat PS
 |0,_,_,st=>.error st.i
 |f+1,up,af,st=>
  let at_:=sk s st.i
  let k:=run ap s at_
  let kind:=aJ b_ (s.extract at_ k) 0
  if k=at_\/kind<0 then .error at_ else
  match cY s kind.toNat st.L k (bD (decide (12<=af)) (bD (decide (100<=st.L.length)) st.er 3 at_) 4 at_)with
  |.error b=>.error b
  |.ok (i2,dY,a)=>i_ s kind.toNat st.L.length (cC s f st.L.length (af+1)) {i:=i2,L:=grown st.L ⟨kind.toNat,a,[],[],up⟩,er:=dY}
def fO(s:ByteArray):Except (Nat×Nat) (List Nd):=
 if 4000<s.size then .error (1,0)else
 match cC s (s.size+1) (-1) 0 ⟨0,[],none⟩with
 |.error b=>.error (2,b)
 |.ok st=>if sk s st.i<s.size then .error (2,sk s st.i)else match st.er with
  |some f=>.error f
  |none=>.ok st.L
def jD(l:List Nat):List Value:=l.map fun(k:Nat)=>Iq (k:Int)
structure Up(B:Nat)(W W':World):Prop where
 size:W.heap.size<=W'.heap.size
 block:∀b,B<=b->b<W.heap.size->W'.heap[b]?=W.heap[b]?
theorem Up.refl  B   W  :Up B W W:=⟨ai _,fun _ _ _=>rfl⟩
theorem Up.trans{B}{W W1 W2}(h:Up B W W1)(k:Up B W1 W2):Up B W W2:=
 ⟨aT h.size k.size,fun b h1 h2=>(k.block b h1 (bn h2 h.size)).trans (h.block b h1 h2)⟩
theorem Up.grown{B r}{W W'}(h:W.grownBy W' (some r))(hr:r<B):Up B W W':=
 ⟨h.size,fun b h1 h2=>h.block b h2 (by grind)⟩
theorem Up.below{B}{W W'}(h:Bt W W'):Up B W W':=⟨h.size,fun b _ h2=>h.block b h2⟩
theorem Up.drewN  B   W   q  :Up B W (W.drewN q):=⟨ai _,fun _ _ _=>rfl⟩
theorem Lc{W W'}{B n size}{e}{v}{xs}(h:W.ownsRow B e size v n xs)(hu:Up B W W'):W'.ownsRow B e size v n xs:=by
 refine⟨h.1,?_⟩;rcases h.2 with h2|⟨g,al,iT,a,b,c,d⟩;·exact .inl h2
 ·refine .inr ⟨g,al,iT,a,b,?_,d⟩;rw[hu.block g b (aS.1 c).1];exact c
theorem ff{W:World}{B B' n n' size Yt}{e e'}{v v'}{xs xs'}(h:W.ownsRow B e size v n xs)(h':W.ownsRow B' e' Yt v' n' xs')(he:e≠e'):v.ownBlock=none\/v.ownBlock≠v'.ownBlock:=by
 rcases h.2 with⟨rfl,_⟩|⟨g,al,iT,rfl,b,c,d⟩;·exact .inl rfl
 ·right;rcases h'.2 with⟨rfl,_⟩|⟨g',mg,zhY,rfl,b',c',d'⟩;·simp[Value.ownBlock]
  ·intro hh;simp[Value.ownBlock]at hh;grind
theorem cD{W:World}{B n size}{e}{v}{xs}(h:W.ownsRow B e size v n xs):(v=.slice none 0 0/\n=0)\/∃g al,v=Sq g n al/\B<=g/\g<W.heap.size/\n<=al/\al<=maxLen:=by rcases h.2 with h2|⟨g,al,iT,a,b,c,d,f,_⟩;all_goals grind
structure NR(W:World)(B:Nat)(T:TypeId)(z:Nat)(nv:Value)(n:Nat)(C:Nat->List Value)(KV:Nat->Value)(K:Nat->List Nat):Prop where
 row:∃xs,W.ownsRow B T z nv n xs
 cells:∀g,nv.ownBlock=some g->∀j,j<n->∀(t:Nat) u,(C j)[t]?=some u->W.cell? (az g (j*z+t))=some u
 len:∀j,j<n->(C j).length=z
 kids:∀j,j<n->W.ownsRow B 3 1 (KV j) (K j).length (jD (K j))
 sep:∀i j,i<n->j<n->i≠j->∀b,(KV i).ownBlock=some b->(KV j).ownBlock≠some b
section
variable{W W':World} {B z n:Nat} {T:TypeId} {nv:Value} {C:Nat->List Value} {KV:Nat->Value} {K:Nat->List Nat}
theorem NR.nothing  W   B   T   z   C   KV   K  :NR W B T z (.slice none 0 0) 0 C KV K:=
 ⟨⟨[],gM _ _ _ _⟩,fun _ _ j h=>absurd h (by omega),fun j h=>absurd h (by omega),fun j h=>absurd h (by omega),fun i j h=>absurd h (by omega)⟩
theorem NR.up(h:NR W B T z nv n C KV K)(hu:Up B W W'):NR W' B T z nv n C KV K:=by obtain⟨xs,hx⟩:=h.row;refine⟨⟨xs,Lc hx hu⟩,fun g hg j hj t u xQ=>?_,h.len,fun j hj=>Lc (h.kids j hj) hu,h.sep⟩;have:=h.cells g hg j hj t u xQ;have hl:=hx.lt g hg;rw[bU (hu.block g hl.1 hl.2)];omega
theorem NR.form(h:NR W B T z nv n C KV K)(hn:0<n):∃g al,nv=Sq g n al/\B<=g/\g<W.heap.size/\n<=al/\al<=maxLen:=by obtain⟨xs,hx⟩:=h.row;grind[cD]
theorem NR.cell{g al}(h:NR W B T z (Sq g n al) n C KV K){j}(hj:j<n){t}{u}(ht:(C j)[t]?=some u):W.cell? (az g (j*z+t))=some u:=h.cells g rfl j hj t u ht
theorem NR.frozen{g al}(h:NR W B T z (Sq g n al) n C KV K)  j  :W.frozen? (az g j)=false:=by obtain⟨xs,hx⟩:=h.row;exact hx.frozenAt j
theorem NR.frz(h:NR W B T z nv n C KV K){g}(hg:nv.ownBlock=some g)  j  :W.frozen? (az g j)=false:=by
 obtain⟨xs,hx⟩:=h.row;rcases cD hx with⟨rfl,_⟩|⟨g',al,rfl,_⟩;·simp[Value.ownBlock]at hg
 ·simp[Value.ownBlock]at hg;subst hg;exact hx.frozenAt j
theorem NR.app{G3}{xs jU}(h:NR W B T z nv n C KV K)(hT:3≠T)(hx:W.ownsRow B T z nv n xs)(hx':W'.ownsRow B T z G3 (n+1) (xs++jU))(hg:W.grownBy W' nv.ownBlock)(hl:jU.length=z):
 NR W' B T z G3 (n+1) (fun j=>if j=n then jU else C j) (fun j=>if j=n then .slice none 0 0 else KV j) (fun j=>if j=n then[]else K j):=by
 have Vj:=hx.1;refine⟨⟨_,hx'⟩,fun g wM j hj t u xQ=>?_,fun j hj=>?_,fun j hj=>?_,fun i j hi hj Ez b hb=>?_⟩
 ·have key:=hx'.cells wM;have zbw:∀m,((az g 0):Addr).add m=(az g m):=fun m=>by unfold Addr.add;grind
  have hz:t<z:=by
   have h1:=(Bd.1 xQ).1;by_cases wP:j=n;·grind
   ·rw[if_neg wP,h.len j (by omega)]at h1;exact h1
  rw[<-zbw];refine key _ _ ?_;by_cases wP:j=n;·grind
  ·rw[if_neg wP]at xQ;have hlt:j*z+t<n*z:=by have:(j+1)*z<=n*z:=Be _ (by omega);rw[Bf]at this;omega
   rw[List.getElem?_append_left (by omega)];obtain⟨g0,al,rfl,_⟩:=h.form (by omega);have h1:=h.cell (by omega) xQ;rw[hx.cellAt _ hlt]at h1;exact h1
 ·by_cases wP:j=n;·grind
  ·rw[if_neg wP];exact h.len j (by omega)
 ·by_cases wP:j=n;·rw[if_pos wP,if_pos wP];exact gM _ _ _ _
  ·rw[if_neg wP,if_neg wP];exact(h.kids j (by omega)).kept hg (ff (h.kids j (by omega)) hx hT)
 ·by_cases h1:i=n;·rw[if_pos h1]at hb;simp[Value.ownBlock]at hb
  ·rw[if_neg h1]at hb;by_cases h2:j=n;·rw[if_pos h2];simp[Value.ownBlock]
   ·rw[if_neg h2];exact h.sep i j (by omega) (by omega) Ez b hb
theorem NR.set{g al}(h:NR W B T z (Sq g n al) n C KV K)(hT:3≠T){k t}(hk:k<n)(ht:t<z)  u  :
 NR (W.setCell (az g (k*z+t)) u) B T z (Sq g n al) n (fun j=>if j=k then(C k).set t u else C j) KV K:=by
 obtain⟨xs,hx⟩:=h.row;have hst:=hx.stored (k*z+t) u;have hkt:k*z+t<n*z:=by have:(k+1)*z<=n*z:=Be _ (by omega);rw[Bf]at this;omega
 refine⟨⟨_,hst.1⟩,fun g' wM j hj t' u' xQ=>?_,fun j hj=>?_,fun j hj=>?_,h.sep⟩
 ·injection wM with wM;have wM:g=g':=wM;subst wM;have hz:t'<z:=by
   have h1:=(Bd.1 xQ).1;by_cases wP:j=k;·rw[if_pos wP]at h1;simp[h.len k hk]at h1;exact h1
   ·rw[if_neg wP,h.len j (by omega)]at h1;exact h1
  have hlt:j*z+t'<n*z:=by have:(j+1)*z<=n*z:=Be _ (by omega);rw[Bf]at this;omega
  rw[hst.1.cellAt _ hlt];have hold:=(hx.cellAt _ hlt).symm;by_cases tA:j=k
  ·subst tA;rw[if_pos rfl]at xQ;by_cases htt:t=t';·subst htt;rw[List.getElem?_set_self (by rw[hx.1];exact hkt)];grind
   ·rw[vt (by omega)]at xQ⊢;rw[hold];exact h.cell hj xQ
  ·rw[if_neg tA]at xQ;have bG:k*z+t≠j*z+t':=by
    intro e;rcases Nat.lt_or_gt_of_ne tA with hh|hh;·have:(j+1)*z<=k*z:=Be _ (by omega);rw[Bf]at this;omega
    ·have:(k+1)*z<=j*z:=Be _ (by omega);rw[Bf]at this;omega
   rw[vt bG,hold];exact h.cell hj xQ
 ·by_cases tA:j=k;·rw[if_pos tA];simp[h.len k hk]
  ·rw[if_neg tA];exact h.len j hj
 ·exact(h.kids j hj).kept hst.2 (ff (h.kids j hj) hx hT)
theorem NR.kid{g al}{kv'}{k t c}(h:NR W B T z (Sq g n al) n C KV K)(hT:3≠T)(hk:k<n)(ht:t<z)
 (hr:W'.ownsRow B 3 1 kv' ((K k).length+1) (jD (K k++[c]))) (hg:W.grownBy W' (KV k).ownBlock) (bY:kv'.ownBlock=(KV k).ownBlock\/kv'.ownBlock=some W.heap.size):
 NR (W'.setCell (az g (k*z+t)) kv') B T z (Sq g n al) n (fun j=>if j=k then(C k).set t kv' else C j) (fun j=>if j=k then kv' else KV j) (fun j=>if j=k then K k++[c]else K j):=by
 obtain⟨xs,hx⟩:=h.row;have hx':=hx.kept hg (ff hx (h.kids k hk) (Ne.symm hT));have iU:=hx.lt g rfl;have wK:=hg.block g iU.2 (by
  rcases ff (h.kids k hk) hx hT with e|e;·rw[e];simp
  ·exact fun e2=>e e2.symm);have Tg:=fun j hj tA=>(h.kids j hj).kept hg (by
  cases hb:(KV j).ownBlock with
  |none=>exact .inl rfl
  |some b=>right;exact fun e=>h.sep j k hj hk tA b hb e.symm);have dZ:NR W' B T z (Sq g n al) n C (fun j=>if j=k then kv' else KV j) (fun j=>if j=k then K k++[c]else K j):=by
  refine⟨⟨xs,hx'⟩,fun g' wM j hj t' u' xQ=>?_,h.len,fun j hj=>?_,fun i j hi hj Ez b hb=>?_⟩;·injection wM with wM;have wM:g=g':=wM;subst wM;rw[bU wK];exact h.cell hj xQ
  ·by_cases tA:j=k;·rw[if_pos tA,if_pos tA];simpa using hr
   ·rw[if_neg tA,if_neg tA];exact Tg j hj tA
  ·have Xp:∀i,i<n->(KV i).ownBlock≠some W.heap.size:=fun i hi e=>by have:=(h.kids i hi).lt _ e;omega
   by_cases h1:i=k
   ·rw[if_pos h1]at hb;have h2:j≠k:=fun e=>Ez (h1.trans e.symm);rw[if_neg h2];rcases bY with e|e;·rw[e]at hb;exact h.sep k j hk hj (fun e=>h2 e.symm) b hb
    ·rw[e]at hb;injection hb with hb;rw[<-hb];exact Xp j hj
   ·rw[if_neg h1]at hb;by_cases h2:j=k
    ·rw[if_pos h2];rcases bY with e|e;·rw[e];exact h.sep i k hi hk h1 b hb
     ·rw[e];intro e2;injection e2 with e2;exact Xp i hi (by rw[hb,e2])
    ·rw[if_neg h2];exact h.sep i j hi hj Ez b hb
 exact dZ.set hT hk ht kv'
end
def nd0:Nd:=⟨0,[],[],[],0⟩
def ae(L:List Nd)(j:Nat):Nd:=L[j]?.getD nd0
theorem cu{L}{d}{j}(h:j<L.length):ae (L++[d]) j=ae L j:=by grind[ae]
theorem cN  L   d  :ae (L++[d]) L.length=d:=by grind[ae]
theorem aY{L:List Nd}{k}  f  (h:k<L.length):ae (L.modify k f) k=f (ae L k):=by grind[ae]
theorem aR{L}{k j}  f  (h:j≠k):ae (L.modify k f) j=ae L j:=by grind[ae]
theorem NR.congr{W}{B z n}{T}{nv}{C C'}{KV KV'}{K K'}(h:NR W B T z nv n C KV K)
 (h1:∀j,j<n->C' j=C j) (h2:∀j,j<n->KV' j=KV j) (h3:∀j,j<n->K' j=K j):NR W B T z nv n C' KV' K':=
 ⟨h.row,fun g hg j hj t u ht=>h.cells g hg j hj t u (by grind),fun j hj=>by rw[h1 j hj];exact h.len j hj,fun j hj=>by rw[h2 j hj,h3 j hj];exact h.kids j hj,
  fun i j hi hj Ez b hb=>by rw[h2 j hj];rw[h2 i hi]at hb;exact h.sep i j hi hj Ez b hb⟩
structure Fr(B r:Nat)(W W':World):Prop where
 os:W'.os=W.os
 tape:W'.tape=W.tape
 output:W'.output=W.output
 size:W.heap.size<=W'.heap.size
 block:∀b,b<B->b≠r->W'.heap[b]?=W.heap[b]?
theorem Fr.refl  B r   W  :Fr B r W W:=⟨rfl,rfl,rfl,ai _,fun _ _ _=>rfl⟩
theorem Fr.trans{B r}{W W1 W2}(h:Fr B r W W1)(k:Fr B r W1 W2):Fr B r W W2:=
 ⟨k.os.trans h.os,k.tape.trans h.tape,k.output.trans h.output,aT h.size k.size,fun b h1 h2=>(k.block b h1 h2).trans (h.block b h1 h2)⟩
theorem Fr.grown{B r}{W W'}(h:W.grownBy W' (some r))(hB:B<=W.heap.size):Fr B r W W':=
 ⟨h.os,h.tape,h.output,h.size,fun b h1 h2=>h.block b (by omega) (by grind)⟩
theorem Fr.own{B r}{W W'}{o}(h:W.grownBy W' o)(hB:B<=W.heap.size)(ho:∀g,o=some g->B<=g):Fr B r W W':=
 ⟨h.os,h.tape,h.output,h.size,fun b h1 h2=>h.block b (by omega) (fun e=>by grind)⟩
theorem Fr.below{B B' r}{W W'}(h:Below B' W W')(hB:B<=B'):Fr B r W W':=
 ⟨h.os,h.tape,h.output,h.size,fun b h1 h2=>h.block b (by omega)⟩
theorem Fr.drewN  B r   W   q  :Fr B r W (W.drewN q):=⟨rfl,rfl,rfl,ai _,fun _ _ _=>rfl⟩
theorem Fr.cell{B r}{W W'}(h:Fr B r W W'){a}{v}(hc:W.cell? a=some v)(h1:a.block<B)(h2:a.block≠r):W'.cell? a=some v:=
 (bU (h.block a.block h1 h2)).trans hc
theorem Fr.frozen{B r}{W W'}(h:Fr B r W W'){a}(h1:a.block<B)(h2:a.block≠r):W'.frozen? a=W.frozen? a:=
 oz (h.block a.block h1 h2)
def bE(d:Nd)(kv:Value):List Value:=Iq (d.kind:Int)::((d.attr.map fun(x:Int)=>Iq x)++[.string ⟨d.text.toArray⟩,kv,Iq d.up])
theorem Pn  d   kv  :(bE d kv)[0]?=some (Iq (d.kind:Int)):=rfl
theorem EV{d}{kv}{t}(h:t<d.attr.length):(bE d kv)[t+1]?=some (Iq (d.attr[t]?.getD 0)):=by unfold bE;grind
theorem EW{d}{kv}(h:d.attr.length=12):(bE d kv)[13]?=some (.string ⟨d.text.toArray⟩):=by grind[bE]
theorem Pm{d}{kv}(h:d.attr.length=12):(bE d kv)[14]?=some kv:=by grind[bE]
theorem Li{d}{kv}(h:d.attr.length=12):(bE d kv).length=16:=by simp_all[bE]
theorem zZ{d}{kv}{t}(h:t<d.attr.length)  x  :(bE d kv).set (t+1) (Iq x)=bE {d with attr:=d.attr.set t x} kv:=by simp_all[bE]
theorem z'{d}{kv}(h:d.attr.length=12)  x  :(bE d kv).set 13 (.string ⟨x.toArray⟩)=bE {d with text:=x} kv:=by simp_all[bE]
theorem z_{d}{kv kv'}(h:d.attr.length=12)  ks  :(bE d kv).set 14 kv'=bE {d with kids:=ks} kv':=by simp_all[bE]
structure PN(W:World)(B:Nat)(nv:Value)(L:List Nd)(KV:Nat->Value):Prop where
 nr:NR W B 100 16 nv L.length (fun j=>bE (ae L j) (KV j)) KV (fun j=>(ae L j).kids)
 len:∀j,j<L.length->(ae L j).attr.length=12
section
variable{W W':World} {B:Nat} {nv:Value} {L:List Nd} {KV:Nat->Value}
theorem PN.up(h:PN W B nv L KV)(hu:Up B W W'):PN W' B nv L KV:=⟨h.nr.up hu,h.len⟩
theorem PN.app{G3}{xs}{d}(h:PN W B nv L KV)(hx:W.ownsRow B 100 16 nv L.length xs)(hx':W'.ownsRow B 100 16 G3 (L.length+1) (xs++bE d (.slice none 0 0)))(hg:W.grownBy W' nv.ownBlock)(hl:d.attr.length=12)(hk:d.kids=[]):
 PN W' B G3 (L++[d]) (fun j=>if j=L.length then .slice none 0 0 else KV j):=by
 refine⟨?_,fun j hj=>?_⟩
 ·have uK:(L++[d]).length=L.length+1:=by simp
  rw[uK];refine(h.nr.app (by decide) hx hx' hg (Li hl)).congr (fun j hj=>?_) (fun j hj=>rfl) (fun j hj=>?_);all_goals grind[cN,cu]
 ·by_cases e:j=L.length;·grind[cN]
  ·rw[cu (by grind)];exact h.len j (by grind)
theorem PN.mod{g al k t}{u}(h:PN W B (Sq g L.length al) L KV)(hk:k<L.length)(ht:t<16)  f  (hf:(bE (ae L k) (KV k)).set t u=bE (f (ae L k)) (KV k)) (hfk:(f (ae L k)).kids=(ae L k).kids) (hfl:(f (ae L k)).attr.length=12):
 PN (W.setCell (az g (k*16+t)) u) B (Sq g L.length al) (L.modify k f) KV:=by
 refine⟨?_,fun j hj=>?_⟩
 ·have uK:(L.modify k f).length=L.length:=by simp
  rw[uK];refine(h.nr.set (by decide) hk ht u).congr (fun j hj=>?_) (fun j hj=>rfl) (fun j hj=>?_);all_goals grind[aY,aR]
 ·by_cases e:j=k;·grind[aY]
  ·rw[aR f e];exact h.len j (by grind)
theorem PN.setAttr{g al k t}(h:PN W B (Sq g L.length al) L KV)(hk:k<L.length)(ht:t<12)  x  :
 PN (W.setCell (az g (k*16+(t+1))) (Iq x)) B (Sq g L.length al) (L.modify k fun d=>{d with attr:=d.attr.set t x}) KV:=
 h.mod hk (by omega) _ (zZ (by rw[h.len k hk];exact ht) x) rfl (by simp[h.len k hk])
theorem PN.setText{g al k}(h:PN W B (Sq g L.length al) L KV)(hk:k<L.length)  x  :
 PN (W.setCell (az g (k*16+13)) (.string ⟨x.toArray⟩)) B (Sq g L.length al) (aB L k x) KV:=
 h.mod hk (by omega) _ (z' (h.len k hk) x) rfl (h.len k hk)
theorem PN.kid{g al}{kv'}{k c}(h:PN W B (Sq g L.length al) L KV)(hk:k<L.length)
 (hr:W'.ownsRow B 3 1 kv' ((ae L k).kids.length+1) (jD ((ae L k).kids++[c]))) (hg:W.grownBy W' (KV k).ownBlock) (bY:kv'.ownBlock=(KV k).ownBlock\/kv'.ownBlock=some W.heap.size):
 PN (W'.setCell (az g (k*16+14)) kv') B (Sq g L.length al) (L.modify k fun u=>{u with kids:=u.kids++[c]}) (fun j=>if j=k then kv' else KV j):=by
 refine⟨?_,fun j hj=>?_⟩
 ·have uK:(L.modify k fun u=>{u with kids:=u.kids++[c]}).length=L.length:=by simp
  rw[uK];refine(h.nr.kid (t:=14) (by decide) hk (by omega) hr hg bY).congr (fun j hj=>?_) (fun j hj=>rfl) (fun j hj=>?_)
  ·by_cases e:j=k;·subst e;simp only[if_true];rw[aY _ hk];exact(z_ (h.len j hk) _).symm
   grind[aR]
  grind[aY,aR]
 ·by_cases e:j=k;·subst e;rw[aY _ hk];exact h.len j hk
  ·rw[aR _ e];exact h.len j (by grind)
end
theorem jC  L   d  (k:Nat) (hd:d.up=(k:Int)) (hk:k<L.length):grown L d=(L++[d]).modify k fun u=>{u with kids:=u.kids++[L.length]}:=by unfold grown;rw[if_neg (by omega),hd];simp only[oy];apply Mg;grind
def jT(d:Nd)(av kv:Value):List Value:=[Iq (d.kind:Int),av,.string ⟨d.text.toArray⟩,kv,Iq d.up]
def Rj:List Nd->List Value->List Value->List Value
 |d::L,a::A,k::K=>jT d a k++Rj L A K
 |_,_,_=>[]
def Na(W:World)(B:Nat)(v:Value)(a:List Int):Prop:=∃ab,v=Sq ab 12 12/\B<=ab/\ab<W.heap.size/\a.length=12/\∀j,j<12->W.cell? (az ab j)=some (Iq (a[j]?.getD 0))/\W.frozen? (az ab j)=false
def v_:Value->Option Nat
 |.slice (some a) _ _=>some a.block
 |_=>none
structure NA(W:World)(B:Nat)(lv:Value)(L:List Nd)(AV KV:List Value):Prop where
 row:W.ownsRow B 107 5 lv L.length (Rj L AV KV)
 lenA:AV.length=L.length
 lenK:KV.length=L.length
 attr:∀(j:Nat) d v,L[j]?=some d->AV[j]?=some v->Na W B v d.attr
 kids:∀(j:Nat) d v,L[j]?=some d->KV[j]?=some v->W.ownsRow B 3 1 v d.kids.length (d.kids.map fun(k:Nat)=>Iq (k:Int))
 sepKK:∀(i j:Nat) (u v:Value),i≠j->KV[i]?=some u->KV[j]?=some v->∀b,u.ownBlock=some b->v.ownBlock≠some b
 sepKL:∀(j:Nat) (v:Value),KV[j]?=some v->∀b,v.ownBlock=some b->lv.ownBlock≠some b
 sepAL:∀(j:Nat) (v:Value),AV[j]?=some v->∀b,v_ v=some b->lv.ownBlock≠some b
 sepAK:∀(i j:Nat) (u v:Value),AV[i]?=some u->KV[j]?=some v->∀b,v_ u=some b->v.ownBlock≠some b
theorem uX{W W':World}{B r n size}{e}{v}{xs}(h:W.ownsRow B e size v n xs)(hg:W.grownBy W' (some r))(hn:∀b,v.ownBlock=some b->b≠r):W'.ownsRow B e size v n xs:=by
 refine⟨h.1,?_⟩;rcases h.2 with h2|⟨g,al,iT,a,b,c,d⟩;·grind
 ·have fQ:=hn g (by rw[a];rfl);refine .inr ⟨g,al,iT,a,b,?_,d⟩;rw[hg.block g (aS.1 c).1 (fun e=>fQ (by grind))];exact c
theorem K_{W:World}{B n size}{e}{v}{xs}(h:W.ownsRow B e size v n xs){b}(hb:v.ownBlock=some b):B<=b/\b<W.heap.size:=h.lt b hb
theorem Od{A B:World}{r b o}(hb:A.grownBy B (some r))(hl:b<A.heap.size)(hn:b≠r):B.frozen? (az b o)=A.frozen? (az b o):=by unfold World.frozen?;rw[hb.block b hl (fun e=>hn (by grind))]
theorem Na.grown{W W'}{B r}{v}{a}(h:Na W B v a)(hg:W.grownBy W' (some r))(hn:∀b,v_ v=some b->b≠r):Na W' B v a:=by obtain⟨ab,rfl,h1,h2,h3,h4⟩:=h;have bG:=hn ab rfl;exact⟨ab,rfl,h1,bn h2 hg.size,h3,fun j hj=>⟨hg.cell (h4 j hj).1 (by grind),(Od hg h2 bG).trans (h4 j hj).2⟩⟩
theorem NA.grown{W W'}{B r}{lv}{L}{AV KV}(h:NA W B lv L AV KV)(hg:W.grownBy W' (some r))(hr:r<B):NA W' B lv L AV KV:=by
 refine⟨uX h.row hg fun b hb=>by have:=K_ h.row hb;omega,h.lenA,h.lenK,fun j d v h1 h2=>?_,fun j d v h1 h2=>?_,h.sepKK,h.sepKL,h.sepAL,h.sepAK⟩;·refine(h.attr j d v h1 h2).grown hg fun b hb=>?_;obtain⟨ab,rfl,h3,_⟩:=h.attr j d v h1 h2;injection hb with hb;grind
 ·exact uX (h.kids j d v h1 h2) hg fun b hb=>by have:=K_ (h.kids j d v h1 h2) hb;omega
theorem Dj(rb:Nat)(s:ByteArray)(i:Nat)(lv:Value)(bad er at_ aI:Int)(w:World)(h:RS w rb s i lv bad er at_ aI)(hs:s.size<=1099511627776)(hi:i<=s.size)(hb:0<=bad):
 Cw 94 #[Pq rb] w fun e w'=>e=Rw (.tuple #[Iq 0,Iq (sk s i:Int)])/\RS w' rb s (sk s i) lv bad er at_ aI/\w.grownBy w' (some rb):=by
 have CS:=qH<|skip_any rb s i lv bad er at_ aI w h hs hi;obtain⟨j,hj⟩:=aj (sk s i);have nu:=eh s i hi;rw[hj]at CS nu⊢;clear h hj;go_enter func94,ntmps94;go_wp2_with fail;refine CS.mono ?_;rintro e w1 ⟨rfl,h1,g1⟩;have HR:=qH<|h1;have HG1:=qH<|g1;have d1:=h1.c1;have j4:¬bad<0:=by omega
 have eb:=decide_eq_false j4;clear h1 g1 CS;go_wp2;clear d1;go_loopw[5,13] (fun v _ wr=>v=Iq 0/\Hid (RS wr rb s j lv bad er at_ aI)/\Hid (w.grownBy wr (some rb))) (fun _ _ wr=>0);case atStart=>grind
 case round=>
  obtain⟨rfl,HS,HG⟩:=hrel;have hs1:=HS.out;have c0:=hs1.c0;have c1:=hs1.c1;have c3:=hs1.c3;have CF:=qH<|fun W h=>fail_any rb s j lv bad er at_ aI j W h;have HE:Hid (fD bad (j:Int)=bad):=by show _=_;unfold fD;rw[if_neg (by omega)]
  have u0:(j:Int)-(j:Int)=0:=by omega
  clear hs1;go_wp2_with fail;go_quiet(fail);go_wp2_with fail;refine(CF _ (HS.drewN _)).mono ?_;rintro e w2 ⟨rfl,h2,g2⟩;have H2:Hid (RS w2 rb s j lv bad er at_ aI):=by have:=h2;rw[HE.out]at this;exact this
  have fU:=qH<|gr_trans (gr_trans HG (aG _ _ _)) g2;clear h2 g2 c0 c1 c3;go_wp2;go_ret2;exact⟨rfl,H2,fU⟩
def wS(s:ByteArray)(i:Nat)(bad:Int):ByteArray:=if bad<0 then s.extract (sk s i) (run ap s (sk s i))else ByteArray.empty
def wI(s:ByteArray)(i:Nat)(bad:Int):Nat:=if bad<0 then run ap s (sk s i)else sk s i
def wB(s:ByteArray)(i:Nat)(bad:Int):Int:=if bad<0 then iR s i bad else bad
def mI(s:ByteArray)(i c:Nat)(bad:Int):Nat:=if bad<0 then ao s i c else sk s i
def mB(s:ByteArray)(i c:Nat)(bad:Int):Int:=if bad<0 then gZ s i c bad else bad
def gB(s:ByteArray)(i c:Nat)(bad:Int):Bool:=if bad<0 then aM s i c else false
def nV(s:ByteArray)(i:Nat)(bad:Int):Int:=if bad<0 then dv s (sk s i) (run aU s (sk s i)-sk s i)else 0
def nI(s:ByteArray)(i:Nat)(bad:Int):Nat:=if bad<0 then run aU s (sk s i)else sk s i
def nB(s:ByteArray)(i:Nat)(bad:Int):Int:=if bad<0 then kh s (sk s i) (run aU s (sk s i)) bad else bad
theorem E8{s}{i}  bad  (hi:i<=s.size):wI s i bad<=s.size:=by grind[wI,iK,eh]
theorem dP{s}{i c}(hc:c<256)(hi:i<=s.size):ao s i c<=s.size:=by grind[ao,sk,dO,eh]
theorem pY{s}{i c}  bad  (hc:c<256) (hi:i<=s.size):mI s i c bad<=s.size:=by grind[mI,dP,eh]
theorem Yi{s}{i}  bad  (hi:i<=s.size):nI s i bad<=s.size:=by grind[nI,iK,eh]
theorem Ri  s   i   bad  :0<=nV s i bad/\nV s i bad<=999999:=by
 unfold nV;split;·have h:=rO s (sk s i) (run aU s (sk s i)-sk s i) (fun t ht=>by have:=oe (p:=aU) s (s.size-sk s i) (sk s i) t (by grind[od,aU,sk,run]);grind[aU]);omega
 ·omega
theorem word_all  rb   s   i   lv   bad er at_ aI   w  (h:RS w rb s i lv bad er at_ aI) (hs:s.size<=1099511627776) (hi:i<=s.size):
 Cw 47 #[Pq rb] w fun e w'=>e=Rw (.string (wS s i bad))/\RS w' rb s (wI s i bad) lv (wB s i bad) er at_ aI/\w.grownBy w' (some rb):=by
 unfold wS wI wB;by_cases hb:bad<0;·rw[if_pos hb,if_pos hb,if_pos hb];exact L8 rb s i lv bad er at_ aI w h hs hi hb
 ·rw[if_neg hb,if_neg hb,if_neg hb];exact AU rb s i lv bad er at_ aI w h hs hi (by omega)
theorem nM  rb   s   i   lv   bad er at_ aI  (c:Nat)  w  (h:RS w rb s i lv bad er at_ aI) (hs:s.size<=1099511627776) (hi:i<=s.size) (hc:c<256):
 Cw 53 #[Pq rb,.int .u8 (c:Int)] w fun e w'=>e=Rw (.tuple #[])/\RS w' rb s (mI s i c bad) lv (mB s i c bad) er at_ aI/\w.grownBy w' (some rb):=by
 unfold mI mB;by_cases hb:bad<0;·rw[if_pos hb,if_pos hb];exact zF rb s i lv bad er at_ aI c w h hs hi hc hb
 ·rw[if_neg hb,if_neg hb];exact KZ rb s i lv bad er at_ aI c w h hs hi (by omega)
theorem qW  rb   s   i   lv   bad er at_ aI  (c:Nat)  w  (h:RS w rb s i lv bad er at_ aI) (hs:s.size<=1099511627776) (hi:i<=s.size) (hc:c<256):
 Cw 93 #[Pq rb,.int .u8 (c:Int)] w fun e w'=>e=Rw (.bool (gB s i c bad))/\RS w' rb s (mI s i c bad) lv bad er at_ aI/\w.grownBy w' (some rb):=by
 unfold mI gB;by_cases hb:bad<0;·rw[if_pos hb,if_pos hb];exact got_any rb s i lv bad er at_ aI c w h hs hi hc hb
 ·rw[if_neg hb,if_neg hb];exact got_bad rb s i lv bad er at_ aI c w h hs hi (by omega)
theorem Dh  rb   s   i   lv   bad er at_ aI   w  (h:RS w rb s i lv bad er at_ aI) (hs:s.size<=1099511627776) (hi:i<=s.size):
 Cw 94 #[Pq rb] w fun e w'=>e=Rw (.tuple #[Iq (nV s i bad),Iq (sk s i:Int)])/\RS w' rb s (nI s i bad) lv (nB s i bad) er at_ aI/\w.grownBy w' (some rb):=by
 unfold nV nI nB;by_cases hb:bad<0;·rw[if_pos hb,if_pos hb,if_pos hb];exact Di rb s i lv bad er at_ aI w h hs hi hb
 ·rw[if_neg hb,if_neg hb,if_neg hb];exact Dj rb s i lv bad er at_ aI w h hs hi (by omega)
structure Wj where
 i:Nat
 bad:Int
 n:Int
 p:Nat
 at_:Nat
 ix:Int
def bm(s:ByteArray)(i:Nat)(bad:Int):Wj:=
 let j:=sk s i
 let i1:=wI s j bad
 let b1:=wB s j bad
 let i2:=mI s i1 61 b1
 let b2:=mB s i1 61 b1
 {i:=nI s i2 b2,bad:=nB s i2 b2,n:=nV s i2 b2,p:=sk s i2,at_:=j,ix:=aJ bZ (wS s j bad) 0}
structure PR(W:World)(rb:Nat)(s:ByteArray)(i:Nat)(av nv fv:Value):Prop where
 lt:rb<W.heap.size
 c0:W.cell? (az rb 0)=some (.string s)
 c1:W.cell? (az rb 1)=some (Iq (i:Int))
 c2:W.cell? (az rb 2)=some av
 c3:W.cell? (az rb 3)=some nv
 c4:W.cell? (az rb 4)=some fv
 fz:∀j,W.frozen? (az rb j)=false
theorem PR.below{W W'}{rb}{s}{i}{av nv fv}(h:PR W rb s i av nv fv)(hb:Bt W W'):PR W' rb s i av nv fv:=
 have k:∀j v,W.cell? (az rb j)=some v->W'.cell? (az rb j)=some v:=fun j v e=>(hb.cell (p:=(az rb j)) h.lt).trans e
 ⟨bn h.lt hb.size,k _ _ h.c0,k _ _ h.c1,k _ _ h.c2,k _ _ h.c3,k _ _ h.c4,fun j=>(hb.frozen (p:=(az rb j)) h.lt).trans (h.fz j)⟩
theorem PR.drewN{W}{rb}{s}{i}{av nv fv}(h:PR W rb s i av nv fv)  n  :PR (W.drewN n) rb s i av nv fv:=
 ⟨h.lt,h.c0,h.c1,h.c2,h.c3,h.c4,h.fz⟩
theorem PR.setI{W}{rb}{s}{i}{av nv fv}(h:PR W rb s i av nv fv)(i':Nat):PR (W.setCell (az rb 1) (Iq (i':Int))) rb s i' av nv fv:=
 ⟨by simpa using h.lt,aH (by omega) h.c0,gG h.c1,aH (by omega) h.c2,aH (by omega) h.c3,aH (by omega) h.c4,fun j=>by rw[gN];exact h.fz j⟩
def prI(W:World)(rb:Nat):Nat:=match W.cell? (az rb 1)with
 |some (.int _ x)=>x.toNat
 |_=>0
theorem PR.prI{W:World}{rb:Nat}{s:ByteArray}{i:Nat}{av nv fv:Value}(h:PR W rb s i av nv fv):prI W rb=i:=by unfold Go.Proofs.YtbeiapdobffpiaaGreatDoor.prI;rw[h.c1];simp
theorem skipBlanks_any(rb:Nat)(s:ByteArray)(i:Nat)(av nv fv:Value)(w:World)(h:PR w rb s i av nv fv)(hs:s.size<=1099511627776)(hi:i<=s.size):
 Cw 45 #[Pq rb] w fun e w'=>e=Rw (.tuple #[])/\PR w' rb s (sk s i) av nv fv/\w.grownBy w' (some rb):=by
 have HR:=qH<|h;clear h;go_enter func45,ntmps45;go_wp2;go_loopw[2] (fun _ wr=>∃k:Nat,k<=s.size/\Hid (sk s k=sk s i)/\Hid (PR wr rb s k av nv fv)/\Hid (w.grownBy wr (some rb))) (fun _ wr=>s.size-prI wr rb);case atStart=>exact⟨i,hi,rfl,HR,lu _ _⟩
 case round=>
  obtain⟨k,hk,HK,HS,HG⟩:=hrel;have hs1:=HS.out;have c0:=hs1.c0;have c1:=hs1.c1;have f1:=hs1.fz 1;by_cases hlt:k<s.size
  ·have aK:(k:Int)<(s.size:Int):=by omega
   obtain⟨x,hx⟩:=aj (s[k].toNat);have gU:dh s k=x:=by rw[ea hlt,hx]
   by_cases hb:x=32
   ·skip;have HN:=qH<|fun q=>by have:=(HS.drewN q).setI (k+1);rw[show((k+1:Nat):Int)=(k:Int)+1 by omega]at this;exact this
    have km:Hid (sk s (k+1)=sk s i):=by rw[<-HK.out];exact(iL hlt (by grind[blank])).symm
    have hrd:=HS.prI;have qq:=qH<|hrd;subst hb;clear hs1 HK HS gU hrd;go_wp2_with fail;go_quiet(fail);go_wp2;go_roundw;case rel=>exact⟨k+1,by omega,km,HN _,gr_trans (gr_trans HG (aG _ _ _)) (bP _ _ _ _)⟩
    case measure=>rw[(HN _).prI,qq.out];omega
   ·by_cases hb2:x=10
    ·skip;have HN:=qH<|fun q=>by have:=(HS.drewN q).setI (k+1);rw[show((k+1:Nat):Int)=(k:Int)+1 by omega]at this;exact this
     have km:Hid (sk s (k+1)=sk s i):=by rw[<-HK.out];exact(iL hlt (by grind[blank])).symm
     have hrd:=HS.prI;have qq:=qH<|hrd;subst hb2;clear hs1 HK HS gU hrd;go_wp2_with fail;go_quiet(fail);go_wp2;go_roundw;case rel=>exact⟨k+1,by omega,km,HN _,gr_trans (gr_trans HG (aG _ _ _)) (bP _ _ _ _)⟩
     case measure=>rw[(HN _).prI,qq.out];omega
    ·have HE:Hid (PR wr rb s (sk s i) av nv fv):=by have:sk s k=k:=jH (by grind[blank]);rw[<-HK.out,this];exact HS
     have e1:((x:Int)==32)=false:=by simp;omega
     have e2:((x:Int)==10)=false:=by simp;omega
     clear hs1 HK HS gU;go_wp2_with fail;go_quiet(fail);go_wp2;go_end0;exact⟨rfl,HE.drewN _,gr_trans HG (aG _ _ _)⟩
  ·have aK:¬(k:Int)<(s.size:Int):=by omega
   have hd:=decide_eq_false aK;have HE:Hid (PR wr rb s (sk s i) av nv fv):=by have:sk s k=k:=xn hlt;rw[<-HK.out,this];exact HS
   clear hs1 HK HS;go_wp2_with fail;go_quiet(fail);go_wp2;go_end0;exact⟨rfl,HE.drewN _,gr_trans HG (aG _ _ _)⟩
theorem lK(rb:Nat)(s:ByteArray)(i:Nat)(av nv fv:Value)(c:Nat)(w:World)(h:PR w rb s i av nv fv)(hs:s.size<=1099511627776)(hi:i<=s.size)(hc:c<256):
 Cw 87 #[Pq rb,.int .u8 (c:Int)] w fun e w'=>e=Rw (.bool (aM s i c))/\PR w' rb s (ao s i c) av nv fv/\w.grownBy w' (some rb):=by
 have CS:=qH<|skipBlanks_any rb s i av nv fv w h hs hi;obtain⟨j,hj⟩:=aj (sk s i);have nu:=eh s i hi;have qp:Hid (ao s i c=if dh s j=c then j+1 else j):=by show _=_;unfold ao;rw[hj]
 have RJ:Hid (aM s i c=(dh s j==c)):=by show _=_;unfold aM;rw[hj]
 rw[hj]at CS nu;clear h hj;go_enter func87,ntmps87;go_wp2_with fail;refine CS.mono ?_;rintro e w1 ⟨rfl,h1,g1⟩;have HR:=qH<|h1;have HG:=qH<|g1;have c0:=h1.c0;have c1:=h1.c1;have f1:=h1.fz 1;clear h1 g1 CS;by_cases hlt:j<s.size
 ·have aK:(j:Int)<(s.size:Int):=by omega
  have el:((j:Int)==(s.size:Int))=false:=by simp;omega
  obtain⟨x,hx⟩:=aj (s[j].toNat);have gU:dh s j=x:=by rw[ea hlt,hx]
  by_cases Kq:x=c
  ·have HN:Hid (∀q,PR ((w1.drewN q).setCell (az rb 1) (Iq ((j:Int)+1))) rb s (ao s i c) av nv fv):=fun q=>by rw[qp.out,gU,if_pos Kq];have:=(HR.drewN q).setI (j+1);grind
   have HE:Hid (aM s i c=true):=by show _=_;rw[RJ.out,gU];simpa using Kq
   subst Kq;clear gU HR;go_wp2_with fail;go_quiet(fail);go_wp2;go_ret;exact⟨by rw[HE.out];rfl,HN _,gr_trans (gr_trans HG (aG _ _ _)) (bP _ _ _ _)⟩
  ·have HN:Hid (PR w1 rb s (ao s i c) av nv fv):=by rw[qp.out,gU,if_neg Kq];exact HR
   have HE:Hid (aM s i c=false):=by show _=_;rw[RJ.out,gU];simpa using Kq
   have ex:((x:Int)!=(c:Int))=true:=by simp;omega
   clear gU HR;go_wp2_with fail;go_quiet(fail);go_wp2;go_ret;exact⟨by rw[HE.out];rfl,HN.drewN _,gr_trans HG (aG _ _ _)⟩
 ·have aK:¬(j:Int)<(s.size:Int):=by omega
  have el:((j:Int)==(s.size:Int))=true:=by simp;omega
  have SN:=dO hlt;have HN:Hid (PR w1 rb s (ao s i c) av nv fv):=by rw[qp.out,SN,if_neg (by omega)];exact HR
  have HE:Hid (aM s i c=false):=by show _=_;rw[RJ.out,SN];simp;omega
  clear SN HR;go_wp2_with fail;go_quiet(fail);go_wp2;go_ret;exact⟨by rw[HE.out];rfl,HN.drewN _,gr_trans HG (aG _ _ _)⟩
theorem in1(nb o:Nat)(w:World):Cw 70 #[.pointer (some (az nb o))] w fun e w'=>e=Rw (.pointer (some (az nb (o+1))))/\w'=w:=by go_enter func70,ntmps70;go_wp2;go_ret;simp_all
theorem in2(nb o:Nat)(w:World):Cw 71 #[.pointer (some (az nb o))] w fun e w'=>e=Rw (.pointer (some (az nb (o+2))))/\w'=w:=by go_enter func71,ntmps71;go_wp2;go_ret;simp_all
theorem in3(nb o:Nat)(w:World):Cw 72 #[.pointer (some (az nb o))] w fun e w'=>e=Rw (.pointer (some (az nb (o+3))))/\w'=w:=by go_enter func72,ntmps72;go_wp2;go_ret;simp_all
theorem in4(nb o:Nat)(w:World):Cw 73 #[.pointer (some (az nb o))] w fun e w'=>e=Rw (.pointer (some (az nb (o+4))))/\w'=w:=by go_enter func73,ntmps73;go_wp2;go_ret;simp_all
theorem in5(nb o:Nat)(w:World):Cw 74 #[.pointer (some (az nb o))] w fun e w'=>e=Rw (.pointer (some (az nb (o+5))))/\w'=w:=by go_enter func74,ntmps74;go_wp2;go_ret;simp_all
theorem in6(nb o:Nat)(w:World):Cw 75 #[.pointer (some (az nb o))] w fun e w'=>e=Rw (.pointer (some (az nb (o+6))))/\w'=w:=by go_enter func75,ntmps75;go_wp2;go_ret;exact⟨rfl,rfl⟩
theorem in7(nb o:Nat)(w:World):Cw 76 #[.pointer (some (az nb o))] w fun e w'=>e=Rw (.pointer (some (az nb (o+7))))/\w'=w:=by go_enter func76,ntmps76;go_wp2;go_ret;exact⟨rfl,rfl⟩
theorem in8(nb o:Nat)(w:World):Cw 77 #[.pointer (some (az nb o))] w fun e w'=>e=Rw (.pointer (some (az nb (o+8))))/\w'=w:=by go_enter func77,ntmps77;go_wp2;go_ret;simp_all
theorem in9(nb o:Nat)(w:World):Cw 78 #[.pointer (some (az nb o))] w fun e w'=>e=Rw (.pointer (some (az nb (o+9))))/\w'=w:=by go_enter func78,ntmps78;go_wp2;go_ret;simp_all
theorem zc6(nb o:Nat)(w:World):Cw 79 #[.pointer (some (az nb o))] w fun e w'=>e=Rw (.pointer (some (az nb (o+10))))/\w'=w:=by go_enter func79,ntmps79;go_wp2;go_ret;simp_all
theorem zc7(nb o:Nat)(w:World):Cw 80 #[.pointer (some (az nb o))] w fun e w'=>e=Rw (.pointer (some (az nb (o+11))))/\w'=w:=by go_enter func80,ntmps80;go_wp2;go_ret;simp_all
theorem zc8(nb o:Nat)(w:World):Cw 81 #[.pointer (some (az nb o))] w fun e w'=>e=Rw (.pointer (some (az nb (o+12))))/\w'=w:=by go_enter func81,ntmps81;go_wp2;go_ret;simp_all
def jq:Array Value:=#[
 .string ⟨#[105,100]⟩,.int .u64 127,Iq 999999,Iq 0,.bool true,.func (.func 70) #[] #[],
 .string ⟨#[109,105,110]⟩,.int .u64 127,Iq 100000,Iq 0,.bool false,.func (.func 71) #[] #[],
 .string ⟨#[109,97,120]⟩,.int .u64 127,Iq 100000,Iq (-1),.bool false,.func (.func 72) #[] #[],
 .string ⟨#[119,101,105,103,104,116]⟩,.int .u64 127,Iq 100000,Iq 1,.bool false,.func (.func 73) #[] #[],
 .string ⟨#[103,97,112]⟩,.int .u64 3,Iq 100,Iq 0,.bool false,.func (.func 74) #[] #[],
 .string ⟨#[112,97,100]⟩,.int .u64 8,Iq 20,Iq 0,.bool false,.func (.func 75) #[] #[],
 .string ⟨#[98,111,114,100,101,114]⟩,.int .u64 8,Iq 1,Iq 1,.bool false,.func (.func 76) #[] #[],
 .string ⟨#[97,108,105,103,110]⟩,.int .u64 32,Iq 2,Iq 0,.bool false,.func (.func 77) #[] #[],
 .string ⟨#[119,114,97,112]⟩,.int .u64 32,Iq 1,Iq 1,.bool false,.func (.func 78) #[] #[],
 .string ⟨#[102,103]⟩,.int .u64 127,Iq 8,Iq 0,.bool false,.func (.func 79) #[] #[],
 .string ⟨#[98,103]⟩,.int .u64 127,Iq 8,Iq 0,.bool false,.func (.func 80) #[] #[],
 .string ⟨#[98,111,108,100]⟩,.int .u64 127,Iq 1,Iq 0,.bool false,.func (.func 81) #[] #[]]
theorem rD(w:World):Cw 43 #[] w fun e w'=>e=Rw (Sq w.heap.size 12 12)/\w'=w.alloc (.cells jq 171):=by go_enter func43,ntmps43;go_wp2;go_ret;exact⟨rfl,rfl⟩
def bp(eb:Addr):Value:=.iface 365 (.pointer (some eb))
def cR(iI:Int)(ev:Value):Value:=.iface 124 (.agg #[Iq iI,ev])
theorem fI(iI:Int)(w:World)(eb:Addr)(he:w.cell? (az 7 0)=some (bp eb)):
 Cw 46 #[Iq iI] w fun e w'=>e=Rw (cR iI (bp eb))/\w'=w:=by have he':w.cell? (az 7 0)=some (.iface 365 (.pointer (some eb))):=he;clear he;go_enter func46,ntmps46;go_wp2;go_ret;exact⟨rfl,rfl⟩
theorem iw(rb:Nat)(s:ByteArray)(i:Nat)(av nv fv:Value)(c:Nat)(w:World)(h:PR w rb s i av nv fv)(hs:s.size<=1099511627776)(hi:i<=s.size)(hc:c<256)(bY:aM s i c=true):
 Cw 90 #[Pq rb,.int .u8 (c:Int)] w fun e w'=>e=Rw (.tuple #[])/\PR w' rb s (ao s i c) av nv fv/\w.grownBy w' (some rb):=by
 have CT:Hid (Cw 87 #[Pq rb,.int .u8 (c:Int)] w fun e w'=>e=Rw (.bool true)/\PR w' rb s (ao s i c) av nv fv/\w.grownBy w' (some rb)):=by have:=lK rb s i av nv fv c w h hs hi hc;rw[bY]at this;exact this
 clear h bY;go_enter func90,ntmps90;go_wp2_with fail;refine CT.mono ?_;rintro e w1 ⟨rfl,h1,g1⟩;have HR:=qH<|h1;have HG:=qH<|g1;clear h1 g1 CT;go_wp2;go_end0;exact⟨rfl,HR,HG⟩
theorem jA(rb:Nat)(s:ByteArray)(i:Nat)(av nv fv:Value)(eb:Addr)(c:Nat)(w:World)(h:PR w rb s i av nv fv)(hs:s.size<=1099511627776)(hi:i<=s.size)(hc:c<256)(bY:aM s i c=false)(hg:7≠rb)(he:w.cell? (az 7 0)=some (bp eb)):
 Cw 90 #[Pq rb,.int .u8 (c:Int)] w fun e w'=>e=.panicked [{v:=cR (sk s i:Int) (bp eb),recovered:=false}]/\w.grownBy w' (some rb):=by
 have CT:Hid (Cw 87 #[Pq rb,.int .u8 (c:Int)] w fun e w'=>e=Rw (.bool false)/\PR w' rb s (sk s i) av nv fv/\w.grownBy w' (some rb)):=by
  have:=lK rb s i av nv fv c w h hs hi hc;have e2:ao s i c=sk s i:=by unfold ao;unfold aM at bY;rw[if_neg (by grind)]
  rw[bY,e2]at this;exact this
 have HN:Hid (∀w,w.cell? (az 7 0)=some (bp eb)->Cw 46 #[Iq (sk s i:Int)] w fun e w'=>e=Rw (.iface 124 (.agg #[Iq (sk s i:Int),.iface 365 (.pointer (some eb))]))/\w'=w):=fun w he=>fI _ w eb he;have HE:=qH<|he;obtain⟨j,hj⟩:=aj (sk s i);rw[hj]at CT HN⊢;clear h bY he hj;go_enter func90,ntmps90;go_wp2_with fail;refine CT.mono ?_;rintro e w1 ⟨rfl,h1,g1⟩;have HG:=qH<|g1;have c1:=h1.c1;have HE1:=qH<|g1.cell HE (by grind);clear h1 g1 CT;go_wp2_with fail;refine(HN _ HE1).mono ?_;rintro e w2 ⟨rfl,hw⟩;obtain rfl:=hw.symm;go_wp2;exact⟨rfl,rfl,HG⟩
theorem C4(ws:List ByteArray)(x:ByteArray)(blk off al n:Nat)(w:World)(hb:blk<w.heap.size)(hc:∀j,j<ws.length->w.cell? (az blk (off+j))=some (.string (ws[j]?.getD ByteArray.empty)))(hn:ws.length=n)(QW:n<=1099511627776):
 Cw 217 #[.slice (some (az blk off)) n al,.string x] w fun e w'=>e=Rw (Iq (aJ ws x 0))/\w'=w:=by
 have HC:=qH<|hc;have HN:=qH<|hn;clear hc hn;go_enter func217,ntmps217;go_wp2;go_loop[8] (fun i=>∃k:Nat,k<=n/\i=Iq k/\Hid (aJ ws x 0=aJ (ws.drop k) x k)) (fun i=>n-(intOf i).toNat);case atStart=>exact⟨0,bc _,rfl,by show _=_;grind⟩
 case round=>
  obtain⟨k,hk,rfl,HF⟩:=hrel;by_cases hlt:k<n
  ·have aK:(k:Int)<(n:Int):=by omega
   have Gn:k<ws.length:=by rw[HN.out];exact hlt
   have nj:=HC k Gn;obtain⟨y,hy⟩:=aj (ws[k]?.getD ByteArray.empty);rw[hy]at nj;have yT:ws.drop k=y::ws.drop (k+1):=by rw[<-hy,dN Gn];exact tn Gn
   have HF2:Hid (aJ ws x 0=if y=x then(k:Int)else aJ (ws.drop (k+1)) x (k+1)):=by show _=_;rw[HF.out,yT];rfl
   clear yT hy HF Gn;by_cases e:y=x
   ·have HE:Hid (aJ ws x 0=(k:Int)):=by show _=_;rw[HF2.out,if_pos e]
    subst e;clear HF2;go_wp2;go_ret;exact⟨by rw[HE.out];rfl,rfl⟩
   ·have HE:Hid (aJ ws x 0=aJ (ws.drop (k+1)) x (k+1)):=by show _=_;rw[HF2.out,if_neg e]
    have e1:=xz (fun h=>e h.symm);clear HF2;go_wp2;go_round;case rel=>grind
    case measure=>simp[intOf];omega
  ·have aK:¬(k:Int)<(n:Int):=by omega
   have HE:Hid (aJ ws x 0=-1):=by show _=_;rw[HF.out,vr (by rw[HN.out];omega)];rfl
   clear HF;go_wp2;go_ret;exact⟨by rw[HE.out];rfl,rfl⟩
theorem C0(x:ByteArray)(p:Option Addr)(al:Nat)(w:World):
 Cw 217 #[.slice p 0 al,.string x] w fun e w'=>e=Rw (Iq (-1))/\w'=w:=by
 go_enter func217,ntmps217;go_wp2;go_loop[8] (fun i=>i=Iq 0) (fun i=>0);case atStart=>rfl
 case round=>subst hrel;go_wp2;go_ret;simp_all
def ru(W:World)(v:Value)(ws:List ByteArray):Prop:=∃p c,v=.slice p ws.length c/\(ws=[]\/∃blk,p=some (az blk 0)/\blk<W.heap.size/\∀j,j<ws.length->W.cell? (az blk (0+j))=some (.string (ws[j]?.getD ByteArray.empty)))
theorem index_any  ws   x   v   w  (h:ru w v ws) (hn:ws.length<=1099511627776):
 Cw 217 #[v,.string x] w fun e w'=>e=Rw (Iq (aJ ws x 0))/\w'=w:=by
 obtain⟨p,c,rfl,rfl|⟨blk,rfl,hb,hc⟩⟩:=h;·exact C0 x p c w
 ·exact C4 ws x blk 0 c _ w hb hc rfl hn
theorem contains_any(ws:List ByteArray)(x:ByteArray)(v:Value)(w:World)(h:ru w v ws)(hn:ws.length<=1099511627776):
 Cw 194 #[v,.string x] w fun e w'=>e=Rw (.bool (decide (0<=aJ ws x 0)))/\w'=w:=by have CI:=qH<|index_any ws x v w h hn;obtain⟨p,c,rfl,_⟩:=h;obtain⟨r,hr⟩:=aj (aJ ws x 0);rw[hr]at CI⊢;clear hr;go_enter func194,ntmps194;go_wp2_with fail;refine CI.mono ?_;rintro e w1 ⟨rfl,hw⟩;obtain rfl:=hw.symm;go_wp2;go_ret;simp_all
def Yl(m k:Nat):Bool:=(m/2^k) %2==1
theorem Kz(n:ByteArray)(m k:Nat)(mo wi:Int)(sg:Bool)(fv:Value)(w:World)(hm:m=127\/m=3\/m=8\/m=32)(hk:k<7):
 Cw 193 #[.agg #[.string n,.int .u64 (m:Int),Iq mo,Iq wi,.bool sg,fv],Iq (k:Int)] w fun e w'=>e=Rw (.bool (Yl m k))/\Bt w w':=by
 have hc:k=0\/k=1\/k=2\/k=3\/k=4\/k=5\/k=6:=by omega
 have hb:=fun o=>(ag _ w).alloc (ai _) o;have HB:=qH<|hb;clear hk hb;rcases hm with rfl|rfl|rfl|rfl<;>rcases hc with rfl|rfl|rfl|rfl|rfl|rfl|rfl;all_goals go_enter func193,ntmps193;go_wp2;go_ret;exact⟨by rfl,HB _⟩
theorem PR.setF{W}{rb}{s}{i}{av nv fv}(h:PR W rb s i av nv fv)  fv'  :PR (W.setCell (az rb 4) fv') rb s i av nv fv':=
 ⟨by simpa using h.lt,aH (by omega) h.c0,aH (by omega) h.c1,aH (by omega) h.c2,aH (by omega) h.c3,gG h.c4,fun j=>by rw[gN];exact h.fz j⟩
theorem KF(rb:Nat)(s:ByteArray)(i:Nat)(av nv fv:Value)(iI:Int)(w:World)(h:PR w rb s i av nv fv):
 Cw 84 #[Pq rb,.nilIface,Iq iI] w fun e w'=>e=Rw (.tuple #[])/\PR w' rb s i av nv fv/\w.grownBy w' (some rb):=by have HR:=qH<|h;go_enter func84,ntmps84;go_wp2;go_end0;grind[lu]
theorem C_(rb:Nat)(s:ByteArray)(i:Nat)(av nv:Value)(eb:Addr)(iI:Int)(w:World)(h:PR w rb s i av nv .nilIface):
 Cw 84 #[Pq rb,bp eb,Iq iI] w fun e w'=>e=Rw (.tuple #[])/\PR w' rb s i av nv (cR iI (bp eb))/\w.grownBy w' (some rb):=by have c4:=h.c4;have f4:=h.fz 4;have HN:Hid (PR (w.setCell (az rb 4) (cR iI (bp eb))) rb s i av nv (cR iI (bp eb))):=h.setF _;show Cw 84 #[Pq rb,.iface 365 (.pointer (some eb)),Iq iI] w _;go_enter func84,ntmps84;go_wp2;go_end0;exact⟨rfl,HN,bP _ _ _ _⟩
theorem Da(rb:Nat)(s:ByteArray)(i:Nat)(av nv:Value)(eb eb2:Addr)(iI Dr:Int)(w:World)(h:PR w rb s i av nv (cR Dr (bp eb2))):
 Cw 84 #[Pq rb,bp eb,Iq iI] w fun e w'=>e=Rw (.tuple #[])/\PR w' rb s i av nv (cR Dr (bp eb2))/\w.grownBy w' (some rb):=by have HR:=qH<|h;have c4:w.cell? (az rb 4)=some (.iface 124 (.agg #[Iq Dr,.iface 365 (.pointer (some eb2))])):=h.c4;show Cw 84 #[Pq rb,.iface 365 (.pointer (some eb)),Iq iI] w _;go_enter func84,ntmps84;go_wp2;go_end0;grind[lu]
def n_(n af:Nat)(m d:Addr):Value:=if 100<=n then bp m else if 12<=af then bp d else .nilIface
theorem Af(rb:Nat)(s:ByteArray)(i:Nat)(av fv:Value)(p:Option Addr)(n cp af:Nat)(m d:Addr)(w:World)(h:PR w rb s i av (.slice p n cp) fv)
 (hm:w.cell? (az 1 0)=some (bp m)) (hd:w.cell? (az 2 0)=some (bp d)):
 Cw 85 #[Pq rb,Iq (af:Int)] w fun e w'=>e=Rw (n_ n af m d)/\w'=w:=by
 have c3:=h.c3;have em:w.cell? (az 1 0)=some (.iface 365 (.pointer (some m))):=hm;by_cases h1:100<=n
 ·have tK:(100:Int)<=(n:Int):=by omega
  have HV:Hid (n_ n af m d=.iface 365 (.pointer (some m))):=by show _=_;unfold n_;rw[if_pos h1];rfl
  go_enter func85,ntmps85;go_wp2;go_ret;exact⟨by rw[HV.out];rfl,rfl⟩
 ·have tK:¬(100:Int)<=(n:Int):=by omega
  by_cases h2:12<=af
  ·have qX:(12:Int)<=(af:Int):=by omega
   have HV:Hid (n_ n af m d=.iface 365 (.pointer (some d))):=by show _=_;unfold n_;rw[if_neg h1,if_pos h2];rfl
   go_enter func85,ntmps85;go_wp2;go_ret;exact⟨by rw[HV.out];rfl,rfl⟩
  ·have qX:¬(12:Int)<=(af:Int):=by omega
   have HV:Hid (n_ n af m d=.nilIface):=by show _=_;unfold n_;rw[if_neg h1,if_neg h2]
   go_enter func85,ntmps85;go_wp2;go_ret;exact⟨by rw[HV.out];rfl,rfl⟩
def lW(i:Int):Value:=if i<0 then .tuple #[Iq 0,.bool false]else .tuple #[Iq i,.bool true]
theorem GQ(t:ByteArray)(w:World)(n0 n1 n2 n3 n4 n5 n6:ByteArray)
 (h0:w.cell? (az 8 0)=some (.string n0))
 (h1:w.cell? (az 8 1)=some (.string n1))
 (h2:w.cell? (az 8 2)=some (.string n2))
 (h3:w.cell? (az 8 3)=some (.string n3))
 (h4:w.cell? (az 8 4)=some (.string n4))
 (h5:w.cell? (az 8 5)=some (.string n5))
 (h6:w.cell? (az 8 6)=some (.string n6)):
 Cw 83 #[.string t] w fun e w'=>e=Rw (lW (aJ [n0,n1,n2,n3,n4,n5,n6] t 0))/\w'=w:=by
 have IX:∀k:Nat,k<7->∃n,aJ ([n0,n1,n2,n3,n4,n5,n6].drop k) t k=(if n=t then(k:Int)else aJ ([n0,n1,n2,n3,n4,n5,n6].drop (k+1)) t (k+1))/\∀w,(Instr.index 222 (.agg #[.string n0,.string n1,.string n2,.string n3,.string n4,.string n5,.string n6]) (Iq k)).run prog w=.ok (.string n) w:=fun k hk=>by
  have hc:k=0\/k=1\/k=2\/k=3\/k=4\/k=5\/k=6:=by omega
  rcases hc with rfl|rfl|rfl|rfl|rfl|rfl|rfl<;>exact⟨_,rfl,fun _=>by kernel_rfl⟩
 have IX:=qH IX;go_enter func83,ntmps83;go_wp2;clear h0 h1 h2 h3 h4 h5 h6;go_loop[7] (fun i=>∃k:Nat,k<=7/\i=Iq k/\Hid (aJ [n0,n1,n2,n3,n4,n5,n6] t 0=aJ ([n0,n1,n2,n3,n4,n5,n6].drop k) t k)) (fun i=>7-(intOf i).toNat);case atStart=>grind
 case round=>
  obtain⟨k,hk,rfl,HF⟩:=hrel;by_cases hlt:k<7
  ·have aK:(k:Int)<7:=by omega
   obtain⟨n,hn,yX⟩:=IX k hlt;have HN:=qH hn;clear hn;by_cases e:n=t
   ·have HE:Hid (lW (aJ [n0,n1,n2,n3,n4,n5,n6] t 0)=.tuple #[Iq k,.bool true]):=by show _=_;rw[HF.out,HN.out,if_pos e];unfold lW;rw[if_neg (by omega)]
    subst e;clear HF;go_wp2;go_ret2;exact⟨by rw[HE.out];rfl,rfl⟩
   ·have HE:Hid (aJ [n0,n1,n2,n3,n4,n5,n6] t 0=aJ ([n0,n1,n2,n3,n4,n5,n6].drop (k+1)) t (k+1)):=by show _=_;rw[HF.out,HN.out,if_neg e]
    have e1:=xz e;clear HF;go_wp2;go_round;case rel=>grind
    case measure=>simp[intOf];omega
  ·have aK:¬(k:Int)<7:=by omega
   obtain rfl:k=7:=by omega
   have HE:Hid (lW (aJ [n0,n1,n2,n3,n4,n5,n6] t 0)=.tuple #[Iq 0,.bool false]):=by show _=_;rw[HF.out];simp[aJ,lW]
   clear HF;go_wp2;go_ret2;exact⟨by rw[HE.out];rfl,rfl⟩
def FL(er at_:Int)(f:fP)(i:Nat):Prop:=match f with
 |none=>at_<0
 |some (c,p)=>er=c/\at_=p/\p<=i
theorem FL.on{er at_}{f}{i j}(h:FL er at_ f i)(Ez:i<=j):FL er at_ f j:=by
 cases f with
 |none=>exact h
 |some x=>obtain⟨c,p⟩:=x;exact⟨h.1,h.2.1,aT h.2.2 Ez⟩
theorem FL.add{er at_}{f}{i}(h:FL er at_ f i)(c p:Nat)(hp:i<=p):FL (Is er at_ c p) (Ir at_ p) (ib f c p) p:=by
 cases f with
 |none=>have h':at_<0:=h;unfold Is Ir;rw[if_pos (.inl h'),if_pos (.inl h')];exact⟨rfl,rfl,ai _⟩
 |some x=>
  obtain⟨c',p'⟩:=x;obtain⟨h1,h2,h3⟩:=h;have hn:¬(at_<0\/(p:Int)<at_):=by omega
  unfold Is Ir;rw[if_neg hn,if_neg hn];exact⟨h1,h2,aT h3 hp⟩
def fa(kind:Nat)(L:List Nd)(er:fP)(a:List Int)(seen:List Nat)(st:Wj):fP×List Int×List Nat:=
 if st.ix<0\/gn kind st.ix.toNat=false then(ib er 7 st.at_,a,seen)
 else(bD (decide (st.ix=0/\0<st.n)&&eJ L st.n) (bD (decide (iE[st.ix.toNat]?.getD 0<st.n)) (bD (seen.contains st.ix.toNat) er 5 st.at_) 6 st.p) 5 st.p,a.set st.ix.toNat st.n,st.ix.toNat::seen)
theorem jY  s   i   bad  :i<=(bm s i bad).at_/\(bm s i bad).at_<=(bm s i bad).p/\(bm s i bad).p<=(bm s i bad).i:=by
 have h1:=dx s i;have w1:sk s i<=wI s (sk s i) bad:=by unfold wI;split;exact aT (dx s (sk s i)) (iJ _ _ _);exact dx _ _
 have m1:wI s (sk s i) bad<=mI s (wI s (sk s i) bad) 61 (wB s (sk s i) bad):=by
  unfold mI;split;·grind[ao,dx,wI,sk]
  ·exact dx _ _
 grind[sk,mI,wI,wB,nI,mB,iJ,dx,bm]
theorem sY  s   i   bad  (hi:i<=s.size):(bm s i bad).i<=s.size:=by grind[bm,Yi,pY,E8,eh]
theorem LJ  s   i   bad  :(bm s i bad).ix=-1\/(0<=(bm s i bad).ix/\(bm s i bad).ix<12):=by have:=jB (wS s (sk s i) bad) bZ 0;have hl:bZ.length=12:=rfl;grind[bm]
theorem PK  s   i   bad  :0<=(bm s i bad).n/\(bm s i bad).n<=999999:=Ri s _ _
theorem ma  s   kind   L   i   er   a   seen   bad  (hb:bad<0):
 ((bm s i bad).bad=bad/\iu s kind L i er a seen=.ok ((bm s i bad).i,fa kind L er a seen (bm s i bad)))
 \/(0<=(bm s i bad).bad/\iu s kind L i er a seen=.error (bm s i bad).bad.toNat):=by
 unfold iu;simp only;have e0:=kZ s i;have hw:wI s (sk s i) bad=run ap s (sk s i):=by unfold wI;rw[if_pos hb,e0]
 by_cases h1:run ap s (sk s i)=sk s i;·grind[wB,sk,iR,bm,mB,wI,nB]
 ·have hB:wB s (sk s i) bad=bad:=by unfold wB;rw[if_pos hb];unfold iR;rw[e0,if_neg h1]
  rw[if_neg h1];by_cases h2:aM s (run ap s (sk s i)) 61=true
  ·have hm:mB s (run ap s (sk s i)) 61 bad=bad:=by unfold mB;rw[if_pos hb];unfold gZ;rw[if_pos h2]
   have Gs:mI s (run ap s (sk s i)) 61 bad=ao s (run ap s (sk s i)) 61:=by unfold mI;rw[if_pos hb]
   have hmr:cz s (run ap s (sk s i)) 61=.ok (ao s (run ap s (sk s i)) 61):=by unfold cz;rw[if_pos h2]
   rw[hmr];simp only;have hs:bm s i bad={i:=run aU s (sk s (ao s (run ap s (sk s i)) 61)),bad:=kh s (sk s (ao s (run ap s (sk s i)) 61)) (run aU s (sk s (ao s (run ap s (sk s i)) 61))) bad,n:=dv s (sk s (ao s (run ap s (sk s i)) 61)) (run aU s (sk s (ao s (run ap s (sk s i)) 61))-sk s (ao s (run ap s (sk s i)) 61)),p:=sk s (ao s (run ap s (sk s i)) 61),at_:=sk s i,ix:=aJ bZ (s.extract (sk s i) (run ap s (sk s i))) 0}:=by
    unfold bm;simp only;rw[hw,hB,hm,Gs];have a1:nI s (ao s (run ap s (sk s i)) 61) bad=run aU s (sk s (ao s (run ap s (sk s i)) 61)):=by unfold nI;rw[if_pos hb]
    have a2:nB s (ao s (run ap s (sk s i)) 61) bad=kh s (sk s (ao s (run ap s (sk s i)) 61)) (run aU s (sk s (ao s (run ap s (sk s i)) 61))) bad:=by unfold nB;rw[if_pos hb]
    have a3:nV s (ao s (run ap s (sk s i)) 61) bad=dv s (sk s (ao s (run ap s (sk s i)) 61)) (run aU s (sk s (ao s (run ap s (sk s i)) 61))-sk s (ao s (run ap s (sk s i)) 61)):=by unfold nV;rw[if_pos hb]
    have a4:wS s (sk s i) bad=s.extract (sk s i) (run ap s (sk s i)):=by unfold wS;rw[if_pos hb,e0]
    rw[a1,a2,a3,a4]
   generalize sk s (ao s (run ap s (sk s i)) 61)=j at hs⊢;generalize run aU s j=e at hs⊢;by_cases h3:jV s j e=true;all_goals grind[bm,kh,jV,fa]
  grind[aM,run,ap,sk,mB,gZ,cz,bm,nB]
theorem mc{s}{kind}{L}{f i}{er}{a}{seen}{b}(h:iu s kind L i er a seen=.error b):dy s kind L (f+1) i er a seen=.error b:=by rw[dy,h]
theorem kw{s}{kind}{L}{f i i2}{er dY}{a a2}{seen oh}(h:iu s kind L i er a seen=.ok (i2,dY,a2,oh))(hm:aM s i2 59=true):dy s kind L (f+1) i er a seen=dy s kind L f (ao s i2 59) dY a2 oh:=by grind[dy]
def kB(s:ByteArray)(i:Nat)(er:fP)(a:List Int):Except Nat (Nat×fP×List Int):=match cz s i 125 with
 |.error b=>.error b
 |.ok i3=>.ok (i3,er,a)
theorem ku{s}{kind}{L}{f i i2}{er dY}{a a2}{seen oh}(h:iu s kind L i er a seen=.ok (i2,dY,a2,oh))(hm:¬aM s i2 59=true):dy s kind L (f+1) i er a seen=kB s i2 dY a2:=by rw[dy,h];simp only;rw[if_neg hm];rfl
theorem EH  s   i c  :aM s (sk s i) c=aM s i c:=by unfold aM;rw[kZ]
theorem Es  s   i c  :ao s (sk s i) c=ao s i c:=by unfold ao;rw[kZ]
theorem FP  s   i   er   a  :kB s (sk s i) er a=kB s i er a:=by grind[kB,cz,EH,Es,kZ]
