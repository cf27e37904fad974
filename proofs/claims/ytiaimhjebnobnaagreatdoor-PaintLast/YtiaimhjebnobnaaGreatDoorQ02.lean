import Derived.Test.YtiaimhjebnobnaaGreatDoorQ00
import Derived.Test.YtiaimhjebnobnaaGreatDoorProg
import Derived.WalkSpells
import Derived.WalkLawsBesides
import Derived.BigQuiet
set_option linter.all false
set_option maxRecDepth 100000
set_option maxHeartbeats 16000000
namespace Go.Proofs.YtiaimhjebnobnaaGreatDoor
open Go.RowKit Go.Proofs.Tryz
def dL(s:ByteArray)(i:Nat):Nat:=if h:i<s.size then s[i].toNat else 256
theorem fh{s}{i}(h:i<s.size):dL s i=s[i].toNat:=by grind[dL]
theorem eT{s}{i}(h:¬i<s.size):dL s i=256:=by grind[dL]
theorem zM{s}{i}(h:i<s.size):dL s i<256:=by rw[fh h];exact UInt8.toNat_lt _
def qz(p:Nat->Bool)(s:ByteArray):Nat->Nat->Nat
 |0,i=>i
 |f+1,i=>if p (dL s i)then qz p s f (i+1)else i
def run(p:Nat->Bool)(s:ByteArray)(i:Nat):Nat:=qz p s (s.size-i) i
theorem jO{p}{s}{i}(hi:i<s.size)(h:p (dL s i)=true):run p s i=run p s (i+1):=by unfold run;obtain⟨f,hf⟩:∃f,s.size-i=f+1:=⟨s.size-i-1,by omega⟩;rw[hf,qz,if_pos h,show s.size-(i+1)=f by omega]
theorem k_{p}{s}{i}(h:p (dL s i)=false):run p s i=i:=by
 unfold run;match s.size-i with
 |0=>rfl
 |f+1=>rw[qz,h];rfl
theorem AW{p}{s}{i}(h:¬i<s.size):run p s i=i:=by unfold run;rw[show s.size-i=0 by omega];rfl
theorem AU  p   s  :∀f i,i<=qz p s f i/\qz p s f i<=i+f
 |0,i=>⟨ai _,ai _⟩
 |f+1,i=>by have:=AU p s f (i+1);grind[qz]
theorem jM  p   s   i  :i<=run p s i:=(AU p s _ i).1
theorem jN  p   s   i  (hi:i<=s.size):run p s i<=s.size:=by grind[AU,run]
theorem Ev(p:Nat->Bool)(hp:p 256=false)  s  :∀f i,s.size-i<=f->p (dL s (qz p s f i))=false
 |0,i,h=>by grind[qz,eT]
 |f+1,i,h=>by
  rw[qz];by_cases c:p (dL s i)=true;·rw[if_pos c];exact Ev p hp s f (i+1) (by omega)
  grind
theorem Vx{p:Nat->Bool}(hp:p 256=false)  s   i  :p (dL s (run p s i))=false:=Ev p hp s _ i (ai _)
def blank(x:Nat):Bool:=x==32||x==10
def aB(x:Nat):Bool:=decide (97<=x)&&decide (x<=122)
def aW(x:Nat):Bool:=decide (48<=x)&&decide (x<=57)
def sk(s:ByteArray)(i:Nat):Nat:=run blank s i
theorem dX  s   i  :i<=sk s i:=jM _ _ _
theorem fw  s   i  (h:i<=s.size):sk s i<=s.size:=jN _ _ _ h
theorem m8  s   i  :sk s (sk s i)=sk s i:=k_ (Vx (by rfl) s i)
structure RS(W:World)(rb:Nat)(s:ByteArray)(i:Nat)(lv:Value)(bad er at_ aQ:Int):Prop where
 lt:rb<W.heap.size
 c0:W.cell? (az rb 0)=some (.string s)
 c1:W.cell? (az rb 1)=some (Iq (i:Int))
 c2:W.cell? (az rb 2)=some lv
 c3:W.cell? (az rb 3)=some (Iq bad)
 c4:W.cell? (az rb 4)=some (Iq er)
 c5:W.cell? (az rb 5)=some (Iq at_)
 c6:W.cell? (az rb 6)=some (Iq aQ)
 fz:∀j,W.frozen? (az rb j)=false
theorem RS.below{W W'}{rb}{s}{i}{lv}{bad er at_ aQ}(h:RS W rb s i lv bad er at_ aQ)(hb:Bt W W'):RS W' rb s i lv bad er at_ aQ:=
 have k:∀j v,W.cell? (az rb j)=some v->W'.cell? (az rb j)=some v:=fun j v e=>(hb.cell (p:=(az rb j)) h.lt).trans e
 ⟨zz008 h.lt hb.size,k _ _ h.c0,k _ _ h.c1,k _ _ h.c2,k _ _ h.c3,k _ _ h.c4,k _ _ h.c5,k _ _ h.c6,fun j=>(hb.frozen (p:=(az rb j)) h.lt).trans (h.fz j)⟩
theorem RS.drewN{W}{rb}{s}{i}{lv}{bad er at_ aQ}(h:RS W rb s i lv bad er at_ aQ)  n  :RS (W.drewN n) rb s i lv bad er at_ aQ:=
 ⟨h.lt,h.c0,h.c1,h.c2,h.c3,h.c4,h.c5,h.c6,h.fz⟩
theorem aL{W:World}{rb j k}{v u}(hn:j≠k)(h:W.cell? (az rb j)=some u):(W.setCell (az rb k) v).cell? (az rb j)=some u:=by rw[eu _ _ _ _ (fun e=>hn (by grind))];exact h
theorem iQ{W:World}{rb k}{v u}(h:W.cell? (az rb k)=some u):(W.setCell (az rb k) v).cell? (az rb k)=some v:=
 oJ _ _ _ (by grind)
theorem RS.setI{W}{rb}{s}{i}{lv}{bad er at_ aQ}(h:RS W rb s i lv bad er at_ aQ)(i':Nat):RS (W.setCell (az rb 1) (Iq (i':Int))) rb s i' lv bad er at_ aQ:=
 ⟨by simpa using h.lt,aL (by omega) h.c0,iQ h.c1,aL (by omega) h.c2,aL (by omega) h.c3,aL (by omega) h.c4,aL (by omega) h.c5,aL (by omega) h.c6,fun j=>by rw[ij];exact h.fz j⟩
theorem RS.setBad{W}{rb}{s}{i}{lv}{bad er at_ aQ}(h:RS W rb s i lv bad er at_ aQ)  b  :RS (W.setCell (az rb 3) (Iq b)) rb s i lv b er at_ aQ:=
 ⟨by simpa using h.lt,aL (by omega) h.c0,aL (by omega) h.c1,aL (by omega) h.c2,iQ h.c3,aL (by omega) h.c4,aL (by omega) h.c5,aL (by omega) h.c6,fun j=>by rw[ij];exact h.fz j⟩
theorem RS.setErr{W}{rb}{s}{i}{lv}{bad er at_ aQ}(h:RS W rb s i lv bad er at_ aQ)  b c  :RS ((W.setCell (az rb 4) (Iq b)).setCell (az rb 5) (Iq c)) rb s i lv bad b c aQ:=
 ⟨by simpa using h.lt,aL (by omega) (aL (by omega) h.c0),aL (by omega) (aL (by omega) h.c1),aL (by omega) (aL (by omega) h.c2),aL (by omega) (aL (by omega) h.c3),aL (by omega) (iQ h.c4),iQ (aL (by omega) h.c5),aL (by omega) (aL (by omega) h.c6),fun j=>by rw[ij,ij];exact h.fz j⟩
theorem nw(W:World)  b  :W.grownBy W (some b):=⟨rfl,rfl,rfl,ai _,fun _ _ _=>rfl⟩
theorem gr_trans{A B C:World}{b}(h:A.grownBy B (some b))(k:B.grownBy C (some b)):A.grownBy C (some b):=
 ⟨k.os.trans h.os,k.tape.trans h.tape,k.output.trans h.output,aO h.size k.size,fun i hi hn=>(k.block i (zz008 hi h.size) hn).trans (h.block i hi hn)⟩
theorem ct(W:World)  b i   v  :W.grownBy (W.setCell (az b i) v) (some b):=
 ⟨rfl,rfl,rfl,by simp,fun k _ hk=>heap_setCell_other _ _ _ _ (fun e=>hk (by rw[e]))⟩
theorem aK(W:World)  n b  :W.grownBy (W.drewN n) (some b):=⟨rfl,rfl,rfl,ai _,fun _ _ _=>rfl⟩
theorem fG{A B}{b}(h:Bt A B):A.grownBy B (some b):=⟨h.os,h.tape,h.output,h.size,fun i hi _=>h.block i hi⟩
def rdI(W:World)(rb:Nat):Nat:=match W.cell? (az rb 1)with
 |some (.int _ x)=>x.toNat
 |_=>0
theorem RS.rdI{W:World}{rb:Nat}{s:ByteArray}{i:Nat}{lv:Value}{bad er at_ aQ:Int}(h:RS W rb s i lv bad er at_ aQ):rdI W rb=i:=by unfold Go.Proofs.YtiaimhjebnobnaaGreatDoor.rdI;rw[h.c1];simp
theorem skip_any(rb:Nat)(s:ByteArray)(i:Nat)(lv:Value)(bad er at_ aQ:Int)(w:World)(h:RS w rb s i lv bad er at_ aQ)(hs:s.size<=1099511627776)(hi:i<=s.size):
 Cw 26 #[Pq rb] w fun e w'=>e=Rw (.tuple #[])/\RS w' rb s (sk s i) lv bad er at_ aQ/\w.grownBy w' (some rb):=by
 have HR:=qH<|h;go_enter func26,ntmps26;go_wp2;go_loopw[2] (fun _ wr=>∃k:Nat,k<=s.size/\Hid (sk s k=sk s i)/\Hid (RS wr rb s k lv bad er at_ aQ)/\Hid (w.grownBy wr (some rb))) (fun _ wr=>s.size-rdI wr rb);case atStart=>exact⟨i,hi,rfl,HR,nw _ _⟩
 case round=>
  obtain⟨k,hk,HK,HS,HG⟩:=hrel;have hs1:=HS.out;have c0:=hs1.c0;have c1:=hs1.c1;have f1:=hs1.fz 1;by_cases hlt:k<s.size
  ·have aN:(k:Int)<(s.size:Int):=by omega
   obtain⟨x,hx⟩:=ag (s[k].toNat);have jd:dL s k=x:=by rw[fh hlt,hx]
   by_cases hb:x=32
   ·skip;have HN:=qH<|fun q=>by have:=(HS.drewN q).setI (k+1);rw[show((k+1:Nat):Int)=(k:Int)+1 by omega]at this;exact this
    have mh:Hid (sk s (k+1)=sk s i):=by rw[<-HK.out];exact(jO hlt (by rw[jd];simp[blank,hb])).symm
    have hrd:=HS.rdI;have xe:=qH<|hrd;subst hb;go_wp2_with fail;go_quiet(fail);go_wp2;go_roundw;case rel=>exact⟨k+1,by omega,mh,HN _,gr_trans (gr_trans HG (aK _ _ _)) (ct _ _ _ _)⟩
    case measure=>rw[(HN _).rdI,xe.out];omega
   ·by_cases hb2:x=10
    ·skip;have HN:=qH<|fun q=>by have:=(HS.drewN q).setI (k+1);rw[show((k+1:Nat):Int)=(k:Int)+1 by omega]at this;exact this
     have mh:Hid (sk s (k+1)=sk s i):=by rw[<-HK.out];exact(jO hlt (by rw[jd];simp[blank,hb2])).symm
     have hrd:=HS.rdI;have xe:=qH<|hrd;subst hb2;go_wp2_with fail;go_quiet(fail);go_wp2;go_roundw;case rel=>exact⟨k+1,by omega,mh,HN _,gr_trans (gr_trans HG (aK _ _ _)) (ct _ _ _ _)⟩
     case measure=>rw[(HN _).rdI,xe.out];omega
    ·have HE:Hid (RS wr rb s (sk s i) lv bad er at_ aQ):=by have:sk s k=k:=k_ (by rw[jd];simp[blank,hb,hb2]);rw[<-HK.out,this];exact HS
     have e1:((x:Int)==32)=false:=by simp;omega
     go_wp2_with fail;go_quiet(fail);go_wp2;go_end0;exact⟨rfl,HE.drewN _,gr_trans HG (aK _ _ _)⟩
  ·have aN:¬(k:Int)<(s.size:Int):=by omega
   have HE:Hid (RS wr rb s (sk s i) lv bad er at_ aQ):=by have:sk s k=k:=AW hlt;rw[<-HK.out,this];exact HS
   go_wp2_with fail;go_quiet(fail);go_wp2;go_end0;exact⟨rfl,HE.drewN _,gr_trans HG (aK _ _ _)⟩
def gH(bad a:Int):Int:=if bad<0 then a else bad
theorem fail_any(rb:Nat)(s:ByteArray)(i:Nat)(lv:Value)(bad er at_ aQ:Int)(a:Int)(w:World)(h:RS w rb s i lv bad er at_ aQ):
 Cw 27 #[Pq rb,Iq a] w fun e w'=>e=Rw (.tuple #[])/\RS w' rb s i lv (gH bad a) er at_ aQ/\w.grownBy w' (some rb):=by
 have c3:=h.c3;have f3:=h.fz 3;have HR:=qH<|h;by_cases hb:bad<0
 ·have HN:Hid (RS (w.setCell (az rb 3) (Iq a)) rb s i lv (gH bad a) er at_ aQ):=by unfold gH;rw[if_pos hb];exact HR.setBad a
  go_enter func27,ntmps27;go_wp2;go_end0;exact⟨rfl,HN,ct _ _ _ _⟩
 ·have HN:Hid (RS w rb s i lv (gH bad a) er at_ aQ):=by unfold gH;rw[if_neg hb];exact HR
  go_enter func27,ntmps27;go_wp2;go_end0;exact⟨rfl,HN,nw _ _⟩
def aT(s:ByteArray)(i:Nat)(c:Nat):Bool:=dL s (sk s i)==c
def aA(s:ByteArray)(i:Nat)(c:Nat):Nat:=if dL s (sk s i)=c then sk s i+1 else sk s i
theorem got_any(rb:Nat)(s:ByteArray)(i:Nat)(lv:Value)(bad er at_ aQ:Int)(c:Nat)(w:World)(h:RS w rb s i lv bad er at_ aQ)(hs:s.size<=1099511627776)(hi:i<=s.size)(hc:c<256)(hb:bad<0):
 Cw 97 #[Pq rb,.int .u8 (c:Int)] w fun e w'=>e=Rw (.bool (aT s i c))/\RS w' rb s (aA s i c) lv bad er at_ aQ/\w.grownBy w' (some rb):=by
 have CS:=qH<|skip_any rb s i lv bad er at_ aQ w h hs hi;obtain⟨j,hj⟩:=ag (sk s i);have oe:=fw s i hi;have tm:Hid (aA s i c=if dL s j=c then j+1 else j):=by show _=_;unfold aA;rw[hj]
 have XT:Hid (aT s i c=(dL s j==c)):=by show _=_;unfold aT;rw[hj]
 rw[hj]at CS oe;go_enter func97,ntmps97;go_wp2_with fail;refine CS.mono ?_;rintro e w1 ⟨rfl,h1,g1⟩;have HR:=qH<|h1;have HG:=qH<|g1;have c0:=h1.c0;have c1:=h1.c1;have c3:=h1.c3;have f1:=h1.fz 1;by_cases hlt:j<s.size
 ·have aN:(j:Int)<(s.size:Int):=by omega
  obtain⟨x,hx⟩:=ag (s[j].toNat);have jd:dL s j=x:=by rw[fh hlt,hx]
  by_cases Pu:x=c
  ·have HN:Hid (∀q,RS ((w1.drewN q).setCell (az rb 1) (Iq ((j:Int)+1))) rb s (aA s i c) lv bad er at_ aQ):=fun q=>by rw[tm.out,jd,if_pos Pu];have:=(HR.drewN q).setI (j+1);rw[show((j+1:Nat):Int)=(j:Int)+1 by omega]at this;exact this
   have HE:Hid (aT s i c=true):=by show _=_;rw[XT.out,jd];simpa using Pu
   subst Pu;go_wp2_with fail;go_quiet(fail);go_wp2;go_ret;exact⟨by rw[HE.out];rfl,HN _,gr_trans (gr_trans HG (aK _ _ _)) (ct _ _ _ _)⟩
  ·have HN:Hid (RS w1 rb s (aA s i c) lv bad er at_ aQ):=by rw[tm.out,jd,if_neg Pu];exact HR
   have HE:Hid (aT s i c=false):=by show _=_;rw[XT.out,jd];simpa using Pu
   go_wp2_with fail;go_quiet(fail);go_wp2;go_ret;exact⟨by rw[HE.out];rfl,HN.drewN _,gr_trans HG (aK _ _ _)⟩
 ·have aN:¬(j:Int)<(s.size:Int):=by omega
  have YX:=eT hlt;have HN:Hid (RS w1 rb s (aA s i c) lv bad er at_ aQ):=by rw[tm.out,YX,if_neg (by omega)];exact HR
  have HE:Hid (aT s i c=false):=by show _=_;rw[XT.out,YX];simp;omega
  go_wp2_with fail;go_quiet(fail);go_wp2;go_ret;exact⟨by rw[HE.out];rfl,HN.drewN _,gr_trans HG (aK _ _ _)⟩
def un(kids:Nat->List Nat):Nat->Nat->List Nat
 |0,_=>[]
 |f+1,k=>k::(kids k).flatMap (un kids f)
def EU(up:Nat->Int):Nat->Int->Int
 |0,x=>x
 |t+1,x=>up (EU up t x).toNat
structure zD(n:Nat)(kids:Nat->List Nat)(up:Nat->Int):Prop where
 kid:∀i c,i<n->c∈kids i->i<c/\c<n/\up c=(i:Int)
 nd:∀i,i<n->(kids i).Nodup
 upl:∀i,i<n->up i<(i:Int)
 lo:∀i,i<n->-1<=up i
section
variable{n:Nat} {kids:Nat->List Nat} {up:Nat->Int}
theorem Bi  s   x  :∀t,EU up (s+t) x=EU up t (EU up s x)
 |0=>rfl
 |t+1=>by show up (EU up (s+t) x).toNat=up (EU up t (EU up s x)).toNat;rw[Bi s x t]
theorem Rb(h:zD n kids up)(hn:0<n):∀  t  (x:Int),-1<=x->x<n->-1<=EU up t x/\EU up t x<=x
 |0,x,h1,h2=>⟨h1,li _⟩
 |t+1,x,h1,h2=>by
  obtain⟨k1,k2⟩:=Rb h hn t x h1 h2;show-1<=up (EU up t x).toNat/\up (EU up t x).toNat<=x;have hl:(EU up t x).toNat<n:=by omega
  have a1:=h.lo _ hl;have a2:=h.upl _ hl;omega
theorem wT(h:zD n kids up):∀  f k,k<n->∀j,j∈un kids f k->k<=j/\j<n/\∃t,EU up t (j:Int)=(k:Int)
 |0,k,hk,j,hj=>by cases hj
 |f+1,k,hk,j,hj=>by
  rcases km.1 hj with e|hj;·subst e;exact⟨ai _,hk,0,rfl⟩
  ·obtain⟨c,hc,hj⟩:=List.mem_flatMap.1 hj;obtain⟨c1,c2,c3⟩:=h.kid k c hk hc;obtain⟨d1,d2,t,ht⟩:=wT h f c c2 j hj;refine⟨by omega,d2,t+1,?_⟩;grind[EU]
theorem Mt(h:zD n kids up){f k c d}(hk:k<n)(hc:c∈kids k)(hd:d∈kids k)(WS:c≠d){j}(h1:j∈un kids f c)(h2:j∈un kids f d):False:=by
 obtain⟨c1,c2,c3⟩:=h.kid k c hk hc;obtain⟨d1,d2,d3⟩:=h.kid k d hk hd;obtain⟨_,_,s,hs⟩:=wT h f c c2 j h1;obtain⟨_,_,t,ht⟩:=wT h f d d2 j h2;have hn:0<n:=by omega
 have key:∀(c d:Nat) (s t:Nat),c≠d->up c=(k:Int)->k<d->c<n->EU up s (j:Int)=(c:Int)->EU up t (j:Int)=(d:Int)->s<=t->False:=fun c d s t WS hup hkd hcn hs ht hst=>by
  obtain⟨r,rfl⟩:∃r,t=s+r:=⟨t-s,by omega⟩;rw[Bi,hs]at ht;cases r with
  |zero=>exact WS (Int.ofNat.inj ht)
  |succ r=>
   rw[Nat.add_comm r 1,Bi]at ht;have e:EU up 1 (c:Int)=(k:Int):=by show up ((c:Int)).toNat=_;exact hup
   rw[e]at ht;have:=(Rb h hn r (k:Int) (by omega) (by omega)).2;omega
 grind
theorem yZ(h:zD n kids up):∀  f k,k<n->(un kids f k).Nodup
 |0,k,hk=>List.nodup_nil
 |f+1,k,hk=>by
  show(k::(kids k).flatMap (un kids f)).Nodup;refine List.nodup_cons.2 ⟨fun q=>?_,?_⟩;·obtain⟨c,hc,hj⟩:=List.mem_flatMap.1 q;obtain⟨c1,c2,c3⟩:=h.kid k c hk hc;have:=(wT h f c c2 k hj).1;omega
  ·have key:∀ks:List Nat,(∀c∈ks,c∈kids k)->ks.Nodup->(ks.flatMap (un kids f)).Nodup:=by
    intro ks;induction ks with
    |nil=>grind
    |cons c ks ih=>intro h1 h2;rw[List.flatMap_cons];obtain⟨m1,m2⟩:=List.nodup_cons.1 h2;have hc:=h1 c (E8 ..);obtain⟨c1,c2,c3⟩:=h.kid k c hk hc;refine Rn.2 ⟨yZ h f c c2,ih (fun x hx=>h1 x (E9 _ hx)) m2,fun a ha b hb e=>?_⟩;grind[Mt]
   exact key (kids k) (fun _ hc=>hc) (h.nd k hk)
theorem nM:∀  n  (l:List Nat),l.Nodup->(∀x∈l,x<n)->l.length<=n
 |0,l,_,h=>by
  cases l with
  |nil=>grind
  |cons a l=>exact absurd (h a (E8 ..)) (by omega)
 |n+1,l,hd,h=>by
  by_cases hm:n∈l;·have h1:=List.length_erase_of_mem hm;have h2:=nM n (l.erase n) (hd.erase n) (fun x hx=>by grind);omega
  ·have:=nM n l hd (fun x hx=>by grind);omega
theorem VU(h:zD n kids up)  f k  (hk:k<n):(un kids f k).length<=n:=nM n _ (yZ h f k hk) fun x hx=>(wT h f k hk x hx).2.1
end
theorem Jr:∀ks:List Nat,(∀k c d,ks[k]?=some c->ks[k+1]?=some d->c<d)->ks.Pairwise (·<·)
 |[],_=>.nil
 |[x],_=>by simp
 |x::y::r,h=>by
  have ih:=Jr (y::r) (fun k c d h1 h2=>h (k+1) c d h1 h2);have Ll:=h 0 x y rfl rfl;refine List.Pairwise.cons (fun z hz=>?_) ih;rcases km.1 hz with e|hz;·omega
  ·have:=List.rel_of_pairwise_cons ih hz;omega
theorem Hn{ks:List Nat}(h:∀k c d,ks[k]?=some c->ks[k+1]?=some d->c<d):ks.Nodup:=
 (Jr ks h).imp (fun h e=>by omega)
theorem got_bad(rb:Nat)(s:ByteArray)(i:Nat)(lv:Value)(bad er at_ aQ:Int)(c:Nat)(w:World)(h:RS w rb s i lv bad er at_ aQ)(hs:s.size<=1099511627776)(hi:i<=s.size)(hb:0<=bad):
 Cw 97 #[Pq rb,.int .u8 (c:Int)] w fun e w'=>e=Rw (.bool false)/\RS w' rb s (sk s i) lv bad er at_ aQ/\w.grownBy w' (some rb):=by
 have CS:=qH<|skip_any rb s i lv bad er at_ aQ w h hs hi;clear h;go_enter func97,ntmps97;go_wp2_with fail;refine CS.mono ?_;rintro e w1 ⟨rfl,h1,g1⟩;have HR:=qH<|h1;have HG:=qH<|g1;have c3:=h1.c3;have jF:¬bad<0:=by omega
 have eb:=decide_eq_false jF;clear h1 g1 CS;go_wp2_with fail;go_quiet(fail);go_wp2;go_ret;exact⟨rfl,HR.drewN _,gr_trans HG (aK _ _ _)⟩
def jk(s:ByteArray)(i c:Nat)(bad:Int):Int:=if aT s i c then bad else(sk s i:Int)
theorem DO(rb:Nat)(s:ByteArray)(i:Nat)(lv:Value)(bad er at_ aQ:Int)(c:Nat)(w:World)(h:RS w rb s i lv bad er at_ aQ)(hs:s.size<=1099511627776)(hi:i<=s.size)(hc:c<256)(hb:bad<0):
 Cw 55 #[Pq rb,.int .u8 (c:Int)] w fun e w'=>e=Rw (.tuple #[])/\RS w' rb s (aA s i c) lv (jk s i c bad) er at_ aQ/\w.grownBy w' (some rb):=by
 have CG:=qH<|got_any rb s i lv bad er at_ aQ c w h hs hi hc hb;obtain⟨ia,IW⟩:=ag (aT s i c);obtain⟨gi,BD⟩:=ag (aA s i c);have HM:Hid (jk s i c bad=if ia then bad else(sk s i:Int)):=by show _=_;unfold jk;rw[IW]
 have tm:Hid (ia=false->gi=sk s i):=by intro e;rw[<-BD];unfold aA;rw[<-IW]at e;unfold aT at e;rw[if_neg (by grind)]
 rw[IW,BD]at CG;rw[BD];clear h IW BD;go_enter func55,ntmps55;go_wp2_with fail;refine CG.mono ?_;rintro e w1 ⟨rfl,h1,g1⟩;have HG:=qH<|g1;have c1:=h1.c1;have HR:=qH<|h1;have CF:=qH<|fail_any rb s gi lv bad er at_ aQ gi w1 h1;clear h1 g1 CG;cases ia with
 |true=>
  have HE:Hid (RS w1 rb s gi lv (jk s i c bad) er at_ aQ):=by rw[HM.out];exact HR
  clear CF HR;go_wp2;go_end0;exact⟨rfl,HE,HG⟩
 |false=>
  have HE:Hid (gH bad (gi:Int)=jk s i c bad):=by show _=_;rw[HM.out,tm rfl];unfold gH;rw[if_pos hb];rfl
  clear HR;go_wp2_with fail;refine CF.mono ?_;rintro e w2 ⟨rfl,h2,g2⟩;have H2:Hid (RS w2 rb s gi lv (jk s i c bad) er at_ aQ):=by rw[<-HE.out];exact h2
  have gX:=qH<|gr_trans HG g2;clear h2 g2;go_wp2;go_end0;exact⟨rfl,H2,gX⟩
theorem Qf(rb:Nat)(s:ByteArray)(i:Nat)(lv:Value)(bad er at_ aQ:Int)(c:Nat)(w:World)(h:RS w rb s i lv bad er at_ aQ)(hs:s.size<=1099511627776)(hi:i<=s.size)(hb:0<=bad):
 Cw 55 #[Pq rb,.int .u8 (c:Int)] w fun e w'=>e=Rw (.tuple #[])/\RS w' rb s (sk s i) lv bad er at_ aQ/\w.grownBy w' (some rb):=by
 have CG:=qH<|got_bad rb s i lv bad er at_ aQ c w h hs hi hb;obtain⟨gi,BD⟩:=ag (sk s i);rw[BD]at CG⊢;clear h BD;go_enter func55,ntmps55;go_wp2_with fail;refine CG.mono ?_;rintro e w1 ⟨rfl,h1,g1⟩;have HG:=qH<|g1;have c1:=h1.c1;have CF:=qH<|fail_any rb s gi lv bad er at_ aQ gi w1 h1;have HE:Hid (gH bad (gi:Int)=bad):=by show _=_;unfold gH;rw[if_neg (by omega)]
 clear h1 g1 CG;go_wp2_with fail;refine CF.mono ?_;rintro e w2 ⟨rfl,h2,g2⟩;have H2:Hid (RS w2 rb s gi lv bad er at_ aQ):=by have:=h2;rw[HE.out]at this;exact this
 have gX:=qH<|gr_trans HG g2;clear h2 g2;go_wp2;go_end0;exact⟨rfl,H2,gX⟩
def MZ(er at_ e a:Int):Int:=if at_<0\/a<at_ then e else er
def MY(at_ a:Int):Int:=if at_<0\/a<at_ then a else at_
theorem wrong_any(rb:Nat)(s:ByteArray)(i:Nat)(lv:Value)(bad er at_ aQ:Int)(e a:Int)(w:World)(h:RS w rb s i lv bad er at_ aQ):
 Cw 52 #[Pq rb,Iq e,Iq a] w fun r w'=>r=Rw (.tuple #[])/\RS w' rb s i lv bad (MZ er at_ e a) (MY at_ a) aQ/\w.grownBy w' (some rb):=by
 have c5:=h.c5;have c4:=h.c4;have f4:=h.fz 4;have f5:=h.fz 5;have HR:=qH<|h;clear h;by_cases hc:at_<0\/a<at_
 ·have HN:Hid (RS ((w.setCell (az rb 4) (Iq e)).setCell (az rb 5) (Iq a)) rb s i lv bad (MZ er at_ e a) (MY at_ a) aQ):=by unfold MZ MY;rw[if_pos hc,if_pos hc];exact HR.setErr e a
  have HG:Hid (w.grownBy ((w.setCell (az rb 4) (Iq e)).setCell (az rb 5) (Iq a)) (some rb)):=gr_trans (ct _ _ _ _) (ct _ _ _ _);by_cases h1:at_<0;·clear hc;go_enter func52,ntmps52;go_wp2;go_end0;exact⟨rfl,HN,HG⟩
  ·have h2:a<at_:=by omega
   clear hc;go_enter func52,ntmps52;go_wp2;go_end0;exact⟨rfl,HN,HG⟩
 ·have HN:Hid (RS w rb s i lv bad (MZ er at_ e a) (MY at_ a) aQ):=by unfold MZ MY;rw[if_neg hc,if_neg hc];exact HR
  have h1:¬at_<0:=by omega
  have h2:¬a<at_:=by omega
  clear hc;go_enter func52,ntmps52;go_wp2;go_end0;exact⟨rfl,HN,nw _ _⟩
theorem uW(s:ByteArray)  k  :s.extract k k=ByteArray.empty:=by apply nh;simp
def jV(s:ByteArray)(i:Nat)(bad:Int):Int:=if run aB s (sk s i)=sk s i then(sk s i:Int)else bad
theorem Rj(rb:Nat)(s:ByteArray)(i:Nat)(lv:Value)(bad er at_ aQ:Int)(w:World)(h:RS w rb s i lv bad er at_ aQ)(hs:s.size<=1099511627776)(hi:i<=s.size)(hb:bad<0):
 Cw 49 #[Pq rb] w fun e w'=>e=Rw (.string (s.extract (sk s i) (run aB s (sk s i))))/\RS w' rb s (run aB s (sk s i)) lv (jV s i bad) er at_ aQ/\w.grownBy w' (some rb):=by
 have CS:=qH<|skip_any rb s i lv bad er at_ aQ w h hs hi;obtain⟨j,hj⟩:=ag (sk s i);have oe:=fw s i hi;have Sj:Hid (jV s i bad=if run aB s j=j then(j:Int)else bad):=by show _=_;unfold jV;rw[hj]
 rw[hj]at CS oe⊢;clear h hj;go_enter func49,ntmps49;go_wp2_with fail;refine CS.mono ?_;rintro e w1 ⟨rfl,h1,g1⟩;have HR:=qH<|h1;have HG1:=qH<|g1;have d1:=h1.c1;have eb:=decide_eq_true hb;clear h1 g1 CS;go_wp2;clear d1;go_loopw[10] (fun _ wr=>∃k:Nat,j<=k/\k<=s.size/\Hid (run aB s k=run aB s j)/\Hid (RS wr rb s k lv bad er at_ aQ)/\Hid (w.grownBy wr (some rb))) (fun _ wr=>s.size-rdI wr rb);case atStart=>exact⟨j,ai _,oe,rfl,HR,HG1⟩
 case round=>
  obtain⟨k,vn,hk,HK,HS,HG⟩:=hrel;have hs1:=HS.out;have c0:=hs1.c0;have c1:=hs1.c1;have c3:=hs1.c3;have f1:=hs1.fz 1;have xe:=qH<|hs1.rdI;by_cases oX:aB (dL s k)=true
  ·have hlt:k<s.size:=by
    by_cases e:k<s.size;·exact e
    ·rw[eT e]at oX;cases oX
   have aN:(k:Int)<(s.size:Int):=by omega
   have el:=decide_eq_true aN;obtain⟨x,hx⟩:=ag (s[k].toNat);have jd:dL s k=x:=by rw[fh hlt,hx]
   have mh:Hid (run aB s (k+1)=run aB s j):=by rw[<-HK.out];exact(jO hlt oX).symm
   rw[jd]at oX;unfold aB at oX;simp only[qL,decide_eq_true_eq]at oX;obtain⟨l1,l2⟩:=oX;have e1:decide ((97:Int)<=(x:Int))=true:=decide_eq_true (by omega);have e2:decide ((x:Int)<=122)=true:=decide_eq_true (by omega);have HN:=qH<|fun q=>by have:=(HS.drewN q).setI (k+1);rw[show((k+1:Nat):Int)=(k:Int)+1 by omega]at this;exact this
   clear hs1 HK HS jd;go_wp2_with fail;go_quiet(fail);go_wp2;go_roundw;case rel=>exact⟨k+1,by omega,by omega,mh,HN _,gr_trans (gr_trans HG (aK _ _ _)) (ct _ _ _ _)⟩
   case measure=>rw[(HN _).rdI,xe.out];omega
  ·have hrk:run aB s j=k:=by rw[<-HK.out];exact k_ (by simpa using oX)
   have ky:=qH<|hrk;have CF:=qH<|fun g W h=>fail_any rb s g lv bad er at_ aQ g W h;clear hrk hs1 HK;by_cases hlt:k<s.size
   ·have aN:(k:Int)<(s.size:Int):=by omega
    have el:=decide_eq_true aN;obtain⟨x,hx⟩:=ag (s[k].toNat);have jd:dL s k=x:=by rw[fh hlt,hx]
    rw[jd]at oX;unfold aB at oX;simp only[qL,decide_eq_true_eq]at oX;clear jd;by_cases l1:97<=x;focus have l2:¬x<=122:=fun e=>oX ⟨l1,e⟩;have e1:decide ((97:Int)<=(x:Int))=true:=decide_eq_true (by omega);have e2:decide ((x:Int)<=122)=false:=decide_eq_false (by omega)
    rotate_left;focus have e1:decide ((97:Int)<=(x:Int))=false:=decide_eq_false (by omega)
    rotate_left;all_goals
     clear oX;go_wp2_with fail;go_quiet(fail);by_cases K9:k=j
     ·subst K9;have HE:Hid (gH bad (k:Int)=jV s i bad):=by show _=_;rw[Sj.out,if_pos ky.out];unfold gH;rw[if_pos hb]
      go_wp2_with fail;refine(CF k _ (HS.drewN _)).mono ?_;rintro e w2 ⟨rfl,h2,g2⟩;have H2:Hid (RS w2 rb s k lv (jV s i bad) er at_ aQ):=by have:=h2;rw[HE.out]at this;exact this
      have gX:=qH<|gr_trans (gr_trans HG (aK _ _ _)) g2;have d0:=h2.c0;have d1:=h2.c1;clear h2 g2 c0 c1 c3 f1;go_wp2_with fail;go_quiet(fail);go_wp2;go_ret;exact⟨by rw[ky.out,uW];rfl,by rw[ky.out];exact H2.drewN _,gr_trans gX (aK _ _ _)⟩
     ·have ewb:jV s i bad=bad:=by rw[Sj.out,if_neg (by rw[ky.out];exact K9)]
      have HE:Hid (RS wr rb s k lv (jV s i bad) er at_ aQ):=by rw[ewb];exact HS
      clear ewb;have zh_:((k:Int)==(j:Int))=false:=by simp;omega
      have Y9:(j:Int)<=(k:Int):=by omega
      have hks:(k:Int)<=(s.size:Int):=by omega
      go_wp2_with fail;go_quiet(fail);go_wp2;go_ret;exact⟨by rw[ky.out];rfl,by rw[ky.out];exact(HE.drewN _).drewN _,gr_trans (gr_trans HG (aK _ _ _)) (aK _ _ _)⟩
   ·have aN:¬(k:Int)<(s.size:Int):=by omega
    have el:=decide_eq_false aN;clear oX;go_wp2_with fail;go_quiet(fail);by_cases K9:k=j
    ·subst K9;have HE:Hid (gH bad (k:Int)=jV s i bad):=by show _=_;rw[Sj.out,if_pos ky.out];unfold gH;rw[if_pos hb]
     go_wp2_with fail;refine(CF k _ (HS.drewN _)).mono ?_;rintro e w2 ⟨rfl,h2,g2⟩;have H2:Hid (RS w2 rb s k lv (jV s i bad) er at_ aQ):=by have:=h2;rw[HE.out]at this;exact this
     have gX:=qH<|gr_trans (gr_trans HG (aK _ _ _)) g2;have d0:=h2.c0;have d1:=h2.c1;clear h2 g2 c0 c1 c3 f1;go_wp2_with fail;go_quiet(fail);go_wp2;go_ret;exact⟨by rw[ky.out,uW];rfl,by rw[ky.out];exact H2.drewN _,gr_trans gX (aK _ _ _)⟩
    ·have ewb:jV s i bad=bad:=by rw[Sj.out,if_neg (by rw[ky.out];exact K9)]
     have HE:Hid (RS wr rb s k lv (jV s i bad) er at_ aQ):=by rw[ewb];exact HS
     clear ewb;have zh_:((k:Int)==(j:Int))=false:=by simp;omega
     have Y9:(j:Int)<=(k:Int):=by omega
     have hks:(k:Int)<=(s.size:Int):=by omega
     go_wp2_with fail;go_quiet(fail);go_wp2;go_ret;exact⟨by rw[ky.out];rfl,by rw[ky.out];exact(HE.drewN _).drewN _,gr_trans (gr_trans HG (aK _ _ _)) (aK _ _ _)⟩
theorem EW(rb:Nat)(s:ByteArray)(i:Nat)(lv:Value)(bad er at_ aQ:Int)(w:World)(h:RS w rb s i lv bad er at_ aQ)(hs:s.size<=1099511627776)(hi:i<=s.size)(hb:0<=bad):
 Cw 49 #[Pq rb] w fun e w'=>e=Rw (.string ByteArray.empty)/\RS w' rb s (sk s i) lv bad er at_ aQ/\w.grownBy w' (some rb):=by
 have CS:=qH<|skip_any rb s i lv bad er at_ aQ w h hs hi;obtain⟨j,hj⟩:=ag (sk s i);have oe:=fw s i hi;rw[hj]at CS oe⊢;clear h hj;go_enter func49,ntmps49;go_wp2_with fail;refine CS.mono ?_;rintro e w1 ⟨rfl,h1,g1⟩;have HR:=qH<|h1;have HG1:=qH<|g1;have d1:=h1.c1;have jF:¬bad<0:=by omega
 have eb:=decide_eq_false jF;clear h1 g1 CS;go_wp2;clear d1;go_loopw[10] (fun _ wr=>Hid (RS wr rb s j lv bad er at_ aQ)/\Hid (w.grownBy wr (some rb))) (fun _ wr=>0);case atStart=>grind
 case round=>
  obtain⟨HS,HG⟩:=hrel;have hs1:=HS.out;have c0:=hs1.c0;have c1:=hs1.c1;have c3:=hs1.c3;have CF:=qH<|fun W h=>fail_any rb s j lv bad er at_ aQ j W h;have HE:Hid (gH bad (j:Int)=bad):=by show _=_;unfold gH;rw[if_neg (by omega)]
  clear hs1;go_wp2_with fail;go_quiet(fail);go_wp2_with fail;refine(CF _ (HS.drewN _)).mono ?_;rintro e w2 ⟨rfl,h2,g2⟩;have H2:Hid (RS w2 rb s j lv bad er at_ aQ):=by have:=h2;rw[HE.out]at this;exact this
  have gX:=qH<|gr_trans (gr_trans HG (aK _ _ _)) g2;have d0:=h2.c0;have d1:=h2.c1;clear h2 g2 c0 c1 c3;go_wp2_with fail;go_quiet(fail);go_wp2;go_ret;exact⟨rfl,H2.drewN _,gr_trans gX (aK _ _ _)⟩
theorem Bd{a b:ByteArray}(h:¬a=b):(a.toList==b.toList)=false:=by rw[beq_eq_false_iff_ne];intro e;rw[ByteArray.toList_eq,ByteArray.toList_eq]at e;exact h (nh (Array.toList_inj.1 e))
def aR:List ByteArray->ByteArray->Nat->Int
 |[],_,_=>-1
 |a::r,x,k=>if a=x then(k:Int)else aR r x (k+1)
theorem kP  x  :∀  ws   k,aR ws x k=-1\/((k:Int)<=aR ws x k/\aR ws x k<(k:Int)+ws.length)
 |[],k=>.inl rfl
 |a::r,k=>by
  unfold aR;by_cases e:a=x;·grind
  ·simp only[e,if_false];rcases kP x r (k+1)with h|h;all_goals grind
theorem find_any(ws:List ByteArray)(x:ByteArray)(blk off cap n:Nat)(w:World)(hb:blk<w.heap.size)(hc:∀j,j<ws.length->w.cell? (az blk (off+j))=some (.string (ws[j]?.getD ByteArray.empty)))(hn:ws.length=n)(Ld:n<=1099511627776):
 Cw 50 #[.slice (some (az blk off)) n cap,.string x] w fun e w'=>e=Rw (Iq (aR ws x 0))/\w'=w:=by
 have HC:=qH<|hc;have HN:=qH<|hn;clear hc hn;go_enter func50,ntmps50;go_wp2;go_loop[5] (fun i=>∃k:Nat,k<=n/\i=Iq k/\Hid (aR ws x 0=aR (ws.drop k) x k)) (fun i=>n-(intOf i).toNat);case atStart=>exact⟨0,aZ _,rfl,by show _=_;grind⟩
 case round=>
  obtain⟨k,hk,rfl,HF⟩:=hrel;by_cases hlt:k<n
  ·have aN:(k:Int)<(n:Int):=by omega
   have K_:k<ws.length:=by rw[HN.out];exact hlt
   have lQ:=HC k K_;obtain⟨y,hy⟩:=ag (ws[k]?.getD ByteArray.empty);rw[hy]at lQ;have Dh:ws.drop k=y::ws.drop (k+1):=by rw[<-hy,eR K_];exact wY K_
   have HF2:Hid (aR ws x 0=if y=x then(k:Int)else aR (ws.drop (k+1)) x (k+1)):=by show _=_;rw[HF.out,Dh];rfl
   clear Dh hy HF K_;by_cases e:y=x
   ·have HE:Hid (aR ws x 0=(k:Int)):=by show _=_;rw[HF2.out,if_pos e]
    subst e;clear HF2;go_wp2;go_ret;exact⟨by rw[HE.out];rfl,rfl⟩
   ·have HE:Hid (aR ws x 0=aR (ws.drop (k+1)) x (k+1)):=by show _=_;rw[HF2.out,if_neg e]
    have e1:=Bd e;clear HF2;go_wp2;go_round;case rel=>grind
    case measure=>simp[intOf];omega
  ·have aN:¬(k:Int)<(n:Int):=by omega
   have HE:Hid (aR ws x 0=-1):=by show _=_;rw[HF.out,zg (by rw[HN.out];omega)];rfl
   clear HF;go_wp2;go_ret;exact⟨by rw[HE.out];rfl,rfl⟩
def dv(s:ByteArray)(j:Nat):Nat->Int
 |0=>0
 |c+1=>if c<6 then 10*dv s j c+((dL s (j+c):Int)-48)else dv s j c
theorem uU  s   j  :∀c,(∀t,t<c->48<=dL s (j+t)/\dL s (j+t)<=57)->0<=dv s j c/\dv s j c<=999999/\(c<=5->dv s j c<=99999)/\(c<=4->dv s j c<=9999)/\(c<=3->dv s j c<=999)/\(c<=2->dv s j c<=99)/\(c<=1->dv s j c<=9)/\(c=0->dv s j c=0)
 |0,_=>by simp[dv]
 |c+1,h=>by have ih:=uU s j c (fun t ht=>h t (by omega));grind[dv]
theorem qA{p}  s  :∀f i t,qz p s f i>i+t->p (dL s (i+t))=true
 |0,i,t,h=>by grind[qz]
 |f+1,i,t,h=>by
  rw[qz]at h;by_cases c:p (dL s i)=true;·rw[if_pos c]at h;match t with
   |0=>exact c
   |t+1=>have:=qA (p:=p) s f (i+1) t (by omega);grind
  grind
def me(s:ByteArray)(j k:Nat)(bad:Int):Int:=if k=j\/j+6<k\/(j+1<k/\dL s j=48)then(j:Int)else bad
theorem GX(rb:Nat)(s:ByteArray)(i:Nat)(lv:Value)(bad er at_ aQ:Int)(w:World)(h:RS w rb s i lv bad er at_ aQ)(hs:s.size<=1099511627776)(hi:i<=s.size)(hb:bad<0):
 Cw 98 #[Pq rb] w fun e w'=>e=Rw (.tuple #[Iq (dv s (sk s i) (run aW s (sk s i)-sk s i)),Iq (sk s i:Int)])/\RS w' rb s (run aW s (sk s i)) lv (me s (sk s i) (run aW s (sk s i)) bad) er at_ aQ/\w.grownBy w' (some rb):=by
 have CS:=qH<|skip_any rb s i lv bad er at_ aQ w h hs hi;obtain⟨j,hj⟩:=ag (sk s i);have oe:=fw s i hi;rw[hj]at CS oe⊢;have HDG:Hid (∀t,j+t<run aW s j->48<=dL s (j+t)/\dL s (j+t)<=57):=fun t ht=>by have:=qA (p:=aW) s (s.size-j) j t ht;unfold aW at this;simpa using this
 clear h hj;go_enter func98,ntmps98;go_wp2_with fail;refine CS.mono ?_;rintro e w1 ⟨rfl,h1,g1⟩;have HR:=qH<|h1;have HG1:=qH<|g1;have d1:=h1.c1;have eb:=decide_eq_true hb;clear h1 g1 CS;go_wp2;clear d1;go_loopw[5,13] (fun v _ wr=>∃(k:Nat) (n:Int),v=Iq n/\j<=k/\k<=s.size/\0<=n/\n<=999999/\Hid (n=dv s j (k-j))/\Hid (run aW s k=run aW s j)/\Hid (RS wr rb s k lv bad er at_ aQ)/\Hid (w.grownBy wr (some rb))) (fun _ _ wr=>s.size-rdI wr rb);case atStart=>exact⟨j,0,rfl,ai _,oe,by omega,by omega,by show _=_;rw[Nat.sub_self];rfl,rfl,HR,HG1⟩
 case round=>
  obtain⟨k,n,rfl,vn,hk,n0,n1,Te,HK,HS,HG⟩:=hrel;have hs1:=HS.out;have c0:=hs1.c0;have c1:=hs1.c1;have c3:=hs1.c3;have f1:=hs1.fz 1;have xe:=qH<|hs1.rdI;by_cases oX:aW (dL s k)=true
  ·have hlt:k<s.size:=by
    by_cases e:k<s.size;·exact e
    ·rw[eT e]at oX;cases oX
   have aN:(k:Int)<(s.size:Int):=by omega
   have el:=decide_eq_true aN;obtain⟨x,hx⟩:=ag (s[k].toNat);have jd:dL s k=x:=by rw[fh hlt,hx]
   have hrk:=jO hlt oX;have mh:Hid (run aW s (k+1)=run aW s j):=by rw[<-HK.out];exact hrk.symm
   have Pm:k<run aW s j:=by rw[<-HK.out,hrk];exact jM _ _ _
   have Le:dv s j (k+1-j)=if k-j<6 then 10*n+((x:Int)-48)else n:=by rw[show k+1-j=(k-j)+1 by omega,dv,<-Te.out,show j+(k-j)=k by omega,jd]
   have YV:=uU s j (k-j) (fun t ht=>HDG t (by omega));have OT:=uU s j (k+1-j) (fun t ht=>HDG t (by omega));rw[<-Te.out]at YV;rw[jd]at oX;unfold aW at oX;simp only[qL,decide_eq_true_eq]at oX;obtain⟨l1,l2⟩:=oX;have e1:decide ((48:Int)<=(x:Int))=true:=decide_eq_true (by omega);have e2:decide ((x:Int)<=57)=true:=decide_eq_true (by omega);have HN:=qH<|fun q=>by have:=(HS.drewN q).setI (k+1);rw[show((k+1:Nat):Int)=(k:Int)+1 by omega]at this;exact this
   by_cases h6:k-j<6
   ·rw[if_pos h6]at Le;have T4:(k:Int)-(j:Int)<6:=by omega
    have HND:Hid (10*n+(x:Int)-48=dv s j (k+1-j)):=by show _=_;rw[Le];omega
    have nb0:0<=10*n+(x:Int)-48:=by omega
    have nb1:10*n+(x:Int)-48<=999999:=by rw[HND.out];exact OT.2.1
    clear hs1 HK HS jd Le YV OT hrk Pm Te;go_wp2_with fail;go_quiet(fail);go_wp2_with fail;go_quiet(fail);go_wp2;go_roundw;case rel=>exact⟨k+1,_,rfl,by omega,by omega,nb0,nb1,HND,mh,HN _,gr_trans (gr_trans HG (aK _ _ _)) (ct _ _ _ _)⟩
    case measure=>rw[(HN _).rdI,xe.out];omega
   ·rw[if_neg h6]at Le;have T4:¬(k:Int)-(j:Int)<6:=by omega
    have HND:Hid (n=dv s j (k+1-j)):=by show _=_;rw[Le]
    clear hs1 HK HS jd Le YV OT hrk Pm Te;go_wp2_with fail;go_quiet(fail);go_wp2;go_roundw;case rel=>exact⟨k+1,n,rfl,by omega,by omega,n0,n1,HND,mh,HN _,gr_trans (gr_trans HG (aK _ _ _)) (ct _ _ _ _)⟩
    case measure=>rw[(HN _).rdI,xe.out];omega
  ·have hrk:run aW s j=k:=by rw[<-HK.out];exact k_ (by grind)
   have ky:=qH<|hrk;have CF:=qH<|fun W h=>fail_any rb s k lv bad er at_ aQ j W h;clear hrk hs1 HK;by_cases hlt:k<s.size;focus
    have aN:(k:Int)<(s.size:Int):=by omega
    have el:=decide_eq_true aN;obtain⟨x,hx⟩:=ag (s[k].toNat);have jd:dL s k=x:=by rw[fh hlt,hx]
    rw[jd]at oX;unfold aW at oX;simp only[qL,decide_eq_true_eq]at oX;clear jd;by_cases l1:48<=x;focus have l2:¬x<=57:=fun e=>oX ⟨l1,e⟩;have e1:decide ((48:Int)<=(x:Int))=true:=decide_eq_true (by omega);have e2:decide ((x:Int)<=57)=false:=decide_eq_false (by omega);clear oX;go_wp2_with fail;go_quiet(fail)
    rotate_left;focus have e1:decide ((48:Int)<=(x:Int))=false:=decide_eq_false (by omega);clear oX;go_wp2_with fail;go_quiet(fail)
   rotate_left 2;focus
    have aN:¬(k:Int)<(s.size:Int):=by omega
    have el:=decide_eq_false aN;clear oX;go_wp2_with fail;go_quiet(fail)
   all_goals
    by_cases t0:k=j
    ·have HE:Hid (gH bad (j:Int)=me s j k bad):=by show _=_;unfold me gH;rw[if_pos hb,if_pos (.inl t0)]
     have u0:(k:Int)-(j:Int)=0:=by omega
     go_wp2_with fail;refine(CF _ (HS.drewN _)).mono ?_;rintro e w2 ⟨rfl,h2,g2⟩;have H2:Hid (RS w2 rb s k lv (me s j k bad) er at_ aQ):=by have:=h2;rw[HE.out]at this;exact this
     have gX:=qH<|gr_trans (gr_trans HG (aK _ _ _)) g2;clear h2 g2;go_wp2;go_ret2;exact⟨by rw[ky.out,<-Te.out];rfl,by rw[ky.out];exact H2,gX⟩
    ·by_cases t6:j+6<k
     ·have HE:Hid (gH bad (j:Int)=me s j k bad):=by show _=_;unfold me gH;rw[if_pos hb,if_pos (.inr (.inl t6))]
      have u0:¬(k:Int)-(j:Int)=0:=by omega
      have u1:((k:Int)-(j:Int)==0)=false:=by simp;omega
      have u6:(6:Int)<(k:Int)-(j:Int):=by omega
      go_wp2_with fail;refine(CF _ (HS.drewN _)).mono ?_;rintro e w2 ⟨rfl,h2,g2⟩;have H2:Hid (RS w2 rb s k lv (me s j k bad) er at_ aQ):=by have:=h2;rw[HE.out]at this;exact this
      have gX:=qH<|gr_trans (gr_trans HG (aK _ _ _)) g2;clear h2 g2;go_wp2;go_ret2;exact⟨by rw[ky.out,<-Te.out];rfl,by rw[ky.out];exact H2,gX⟩
     ·have u0:¬(k:Int)-(j:Int)=0:=by omega
      have u1:((k:Int)-(j:Int)==0)=false:=by simp;omega
      have u6:¬(6:Int)<(k:Int)-(j:Int):=by omega
      by_cases t1:j+1<k
      ·have v1:(1:Int)<(k:Int)-(j:Int):=by omega
       have SG:j<s.size:=by omega
       have zpG:(j:Int)<(s.size:Int):=by omega
       obtain⟨z,hz⟩:=ag (s[j].toNat);have hbz:dL s j=z:=by rw[fh SG,hz]
       by_cases tz:z=48
       ·have HE:Hid (gH bad (j:Int)=me s j k bad):=by show _=_;unfold me gH;rw[if_pos hb,if_pos (.inr (.inr ⟨t1,by rw[hbz];exact tz⟩))]
        subst tz;clear hbz;go_wp2_with fail;refine(CF _ (HS.drewN _)).mono ?_;rintro e w2 ⟨rfl,h2,g2⟩;have H2:Hid (RS w2 rb s k lv (me s j k bad) er at_ aQ):=by have:=h2;rw[HE.out]at this;exact this
        have gX:=qH<|gr_trans (gr_trans HG (aK _ _ _)) g2;clear h2 g2;go_wp2;go_ret2;exact⟨by rw[ky.out,<-Te.out];rfl,by rw[ky.out];exact H2,gX⟩
       ·have HE:Hid (me s j k bad=bad):=by show _=_;unfold me;rw[if_neg (by rw[hbz];omega)]
        have ez:((z:Int)==48)=false:=by simp;omega
        clear hbz;go_wp2;go_ret2;exact⟨by rw[ky.out,<-Te.out];rfl,by rw[ky.out,HE.out];exact HS.drewN _,gr_trans HG (aK _ _ _)⟩
      ·have v1:¬(1:Int)<(k:Int)-(j:Int):=by omega
       have HE:Hid (me s j k bad=bad):=by show _=_;unfold me;rw[if_neg (by omega)]
       go_wp2;go_ret2;exact⟨by rw[ky.out,<-Te.out];rfl,by rw[ky.out,HE.out];exact HS.drewN _,gr_trans HG (aK _ _ _)⟩
theorem Oi(xs:List Int)(hx:∀x∈xs,0<=x/\x<256)(w:World):
 (convert 174 9 (Sq w.heap.size xs.length xs.length)).run prog (w.alloc (.cells (xs.map (Value.int .u8)).toArray 5))=
  .ok (.string ⟨(xs.map fun x=>x.toNat.toUInt8).toArray⟩) (w.alloc (.cells (xs.map (Value.int .u8)).toArray 5)):=by
 have h:=run_convert_bytes_back (P:=prog) (w.alloc (.cells (xs.map (Value.int .u8)).toArray 5)) 174 9 5 (az w.heap.size 0) xs.length (xs.map fun x=>x.toNat.toUInt8) underlying174 underlying5 underlying9 (by
  intro j hj;simp only[zh]at hj;have e:((az w.heap.size 0):Addr).add j=(az w.heap.size j):=by unfold Addr.add;split<;>simp_all
  rw[e,World.cell?_alloc_mark];have hb:=hx xs[j] (lX hj);simp[hj];omega);grind
theorem WB  a  (ha:0<=a/\a<256) (w:World):
 (convert 174 9 (Sq w.heap.size 1 1)).run prog (w.alloc (.cells #[.int .u8 a] 5))=.ok (.string ⟨#[a.toNat.toUInt8]⟩) (w.alloc (.cells #[.int .u8 a] 5)):=
 Oi [a] (by grind) w
theorem TJ  a  (ha:0<=a/\a<256) (w:World)  rb   z  :∀q,(convert 174 9 (Sq w.heap.size 1 1)).run prog (((w.drewN q).setCell (az rb 1) (Iq z)).alloc (.cells #[.int .u8 a] 5))=.ok (.string ⟨#[a.toNat.toUInt8]⟩) (((w.drewN q).setCell (az rb 1) (Iq z)).alloc (.cells #[.int .u8 a] 5)):=fun q=>by have:=WB a ha ((w.drewN q).setCell (az rb 1) (Iq z));simp_all
theorem uQ  a  (ha:0<=a/\a<256) (w:World)  rb   z y  :∀q q',(convert 174 9 (Sq w.heap.size 1 1)).run prog (((((w.drewN q).setCell (az rb 1) (Iq z)).drewN q').setCell (az rb 1) (Iq y)).alloc (.cells #[.int .u8 a] 5))=.ok (.string ⟨#[a.toNat.toUInt8]⟩) (((((w.drewN q).setCell (az rb 1) (Iq z)).drewN q').setCell (az rb 1) (Iq y)).alloc (.cells #[.int .u8 a] 5)):=fun q q'=>by have:=WB a ha ((((w.drewN q).setCell (az rb 1) (Iq z)).drewN q').setCell (az rb 1) (Iq y));simp_all
def qF(s:ByteArray):Nat->Nat->List UInt8->Except Nat (Nat×List UInt8)
 |0,p,_=>.error p
 |f+1,p,acc=>
  if dL s p=256 then .error p
  else if dL s p=34 then .ok (p+1,acc)
  else if dL s p=92 then
   if dL s (p+1)=34\/dL s (p+1)=92 then qF s f (p+2) (acc++[(dL s (p+1)).toUInt8])
   else if dL s (p+1)=110 then qF s f (p+2) (acc++[10])
   else .error (p+1)
  else qF s f (p+1) (acc++[(dL s p).toUInt8])
def fi(s:ByteArray)(i:Nat):Except Nat (Nat×List UInt8):=if aT s i 34 then qF s (s.size+2) (aA s i 34) []else .error (sk s i)
def zgL(w w':World)(e:Ending)(rb:Nat)(s:ByteArray)(lv:Value)(bad er at_ aQ:Int)(r:Except Nat (Nat×List UInt8)):Prop:=
 w.grownBy w' (some rb)/\match r with
  |.ok (p,t)=>e=Rw (.string ⟨t.toArray⟩)/\RS w' rb s p lv bad er at_ aQ
  |.error b=>e=Rw (.string ByteArray.empty)/\∃p,p<=s.size/\RS w' rb s p lv (b:Int) er at_ aQ
theorem Hg(rb:Nat)(s:ByteArray)(i:Nat)(lv:Value)(bad er at_ aQ:Int)(w:World)(h:RS w rb s i lv bad er at_ aQ)(hs:s.size<=1073741824)(hi:i<=s.size)(hb:bad<0):
 Cw 56 #[Pq rb] w fun e w'=>zgL w w' e rb s lv bad er at_ aQ (fi s i):=by
 have CM:Hid (Cw 55 #[Pq rb,.int .u8 34] w fun e w'=>e=Rw (.tuple #[])/\RS w' rb s (aA s i 34) lv (jk s i 34 bad) er at_ aQ/\w.grownBy w' (some rb)):=DO rb s i lv bad er at_ aQ 34 w h (by omega) hi (by omega) hb;clear h;by_cases IW:aT s i 34=true
 ·have Ux:jk s i 34 bad=bad:=by unfold jk;rw[if_pos IW]
  have HQ:Hid (fi s i=qF s (s.size+2) (aA s i 34) []):=by show _=_;unfold fi;rw[if_pos IW]
  have _5:aA s i 34<=s.size:=by
   unfold aT at IW;have e:dL s (sk s i)=34:=by simpa using IW
   unfold aA;rw[if_pos e];by_cases c:sk s i<s.size;·omega
   ·grind[eT]
  obtain⟨j,hj⟩:=ag (aA s i 34);rw[Ux,hj]at CM;rw[hj]at HQ _5;clear Ux hj IW;go_enter func56,ntmps56;go_wp2_with fail;refine CM.mono ?_;rintro e w1 ⟨rfl,h1,g1⟩;have HR:=qH<|h1;have HG1:=qH<|g1;clear h1 g1 CM;go_wp2;go_loopw[3,7] (fun v _ wr=>∃(k f:Nat) (Y:Array UInt8),v=.string ⟨Y⟩/\k<=s.size/\Y.size<=k/\s.size<k+f/\Hid (qF s f k Y.toList=fi s i)/\Hid (RS wr rb s k lv bad er at_ aQ)/\Hid (w.grownBy wr (some rb))) (fun _ _ wr=>s.size-rdI wr rb);case atStart=>grind
  case round=>
   obtain⟨k,f,Y,rfl,hk,hY,hf,HF,HS,HG⟩:=hrel;have hs1:=HS.out;have c0:=hs1.c0;have c1:=hs1.c1;have c3:=hs1.c3;have f1:=hs1.fz 1;have xe:=qH<|hs1.rdI;have CF:=qH<|fun g W h=>fail_any rb s g lv bad er at_ aQ g W h;have HBI:Hid (∀a,gH bad a=a):=fun a=>by unfold gH;rw[if_pos hb]
   obtain⟨f,rfl⟩:∃f',f=f'+1:=⟨f-1,by omega⟩;clear hs1;by_cases hlt:k<s.size
   ·have aN:(k:Int)<(s.size:Int):=by omega
    have mM:¬(s.size:Int)<=(k:Int):=by omega
    obtain⟨x,hx⟩:=ag (s[k].toNat);have jd:dL s k=x:=by rw[fh hlt,hx]
    have zl7:x<256:=by rw[<-jd];exact zM hlt
    have HF1:Hid (fi s i=if x=34 then .ok (k+1,Y.toList)else if x=92 then(if dL s (k+1)=34\/dL s (k+1)=92 then qF s f (k+2) (Y.toList++[(dL s (k+1)).toUInt8])else if dL s (k+1)=110 then qF s f (k+2) (Y.toList++[10])else .error (k+1))else qF s f (k+1) (Y.toList++[x.toUInt8])):=by show _=_;rw[<-HF.out,qF,jd,if_neg (by omega)]
    clear HF jd;by_cases q34:x=34
    ·have HE:Hid (fi s i=.ok (k+1,Y.toList)):=by show _=_;rw[HF1.out,if_pos q34]
     have HN:=qH<|fun q=>by have:=(HS.drewN q).setI (k+1);rw[show((k+1:Nat):Int)=(k:Int)+1 by omega]at this;exact this
     subst q34;clear HF1 HS;go_wp2_with fail;go_quiet(fail);go_wp2_with fail;go_quiet(fail);go_wp2;go_ret;exact⟨gr_trans (gr_trans HG (aK _ _ _)) (ct _ _ _ _),by rw[HE.out];exact⟨rfl,HN _⟩⟩
    ·by_cases q92:x=92
     ·rw[if_neg q34,if_pos q92]at HF1;have HN1:=qH<|fun q=>by have:=(HS.drewN q).setI (k+1);rw[show((k+1:Nat):Int)=(k:Int)+1 by omega]at this;exact this
      subst q92;have CF1:=qH<|fun W h=>by have:=CF (k+1) W h;rw[show((k+1:Nat):Int)=(k:Int)+1 by omega]at this;exact this
      by_cases mM:k+1<s.size
      ·have xG:(k:Int)+1<(s.size:Int):=by omega
       have hgd:decide ((s.size:Int)<=(k:Int)+1)=false:=decide_eq_false (by omega);obtain⟨y,hy⟩:=ag (s[k+1].toNat);have hby:dL s (k+1)=y:=by rw[fh mM,hy]
       have zl9:y<256:=by rw[<-hby];exact zM mM
       rw[hby]at HF1;clear hby;by_cases ok:y=34\/y=92\/y=110
       ·have HN2:=qH<|fun q q'=>by have:=((HN1 q).drewN q').setI (k+2);rw[show((k+2:Nat):Int)=(k:Int)+1+1 by omega]at this;exact this
        rcases ok with ok|ok|ok;focus
         have HF2:Hid (qF s f (k+2) (Y.toList++[34])=fi s i):=by show _=_;rw[HF1.out,if_pos (.inl ok),ok];rfl
         subst ok;have OY:=uQ 34 (by omega) wr rb ((k:Int)+1) ((k:Int)+1+1)
        rotate_left;focus
         have HF2:Hid (qF s f (k+2) (Y.toList++[92])=fi s i):=by show _=_;rw[HF1.out,if_pos (.inr ok),ok];rfl
         subst ok;have OY:=uQ 92 (by omega) wr rb ((k:Int)+1) ((k:Int)+1+1)
        rotate_left;focus
         have HF2:Hid (qF s f (k+2) (Y.toList++[10])=fi s i):=by show _=_;rw[HF1.out,if_neg (by omega),if_pos ok]
         subst ok;have OY:=uQ 10 (by omega) wr rb ((k:Int)+1) ((k:Int)+1+1)
        rotate_left;all_goals
         clear HF1 HS;go_wp2_with fail;go_quiet(fail);go_wp2_with fail;go_quiet(fail);go_wp2_with fail;go_quiet(fail);go_wp2_with fail;go_quiet(fail);go_wp2;go_roundw;case rel=>exact⟨k+2,f,_,rfl,by omega,by simp;omega,by omega,by show _=_;rw[<-HF2.out],(HN2 _ _).below ((aj _ _).alloc (ai _) _),gr_trans (gr_trans (gr_trans (gr_trans (gr_trans HG (aK _ _ _)) (ct _ _ _ _)) (aK _ _ _)) (ct _ _ _ _)) (fG ((aj _ _).alloc (ai _) _))⟩
         case measure=>rw[((HN2 _ _).below ((aj _ _).alloc (ai _) _)).rdI,xe.out];omega
       ·have e1:((y:Int)!=34)=true:=by simp;omega
        have e2:((y:Int)!=92)=true:=by simp;omega
        have e3:((y:Int)!=110)=true:=by simp;omega
        have HE:Hid (fi s i=.error (k+1)):=by show _=_;rw[HF1.out,if_neg (by omega),if_neg (by omega)]
        clear HF1 HS ok;go_wp2_with fail;go_quiet(fail);go_wp2_with fail;go_quiet(fail);go_wp2_with fail;go_quiet(fail);go_wp2_with fail;refine(CF1 _ (by first|exact HN1 _|exact(HN1 _).drewN _)).mono ?_;rintro e w2 ⟨rfl,h2,g2⟩;have H2:Hid (RS w2 rb s (k+1) lv ((k+1:Nat):Int) er at_ aQ):=by have:=h2;rw[HBI.out]at this;rw[show((k+1:Nat):Int)=(k:Int)+1 by omega];exact this
        have gX:Hid (w.grownBy w2 (some rb)):=by first|exact gr_trans (gr_trans (gr_trans HG (aK _ _ _)) (ct _ _ _ _)) g2|exact gr_trans (gr_trans (gr_trans (gr_trans HG (aK _ _ _)) (ct _ _ _ _)) (aK _ _ _)) g2
        clear h2 g2;go_wp2;go_ret;exact⟨gX,by rw[HE.out];exact⟨rfl,k+1,by omega,H2⟩⟩
      ·have tD:(s.size:Int)<=(k:Int)+1:=by omega
       have hgd:=decide_eq_true tD;have HE:Hid (fi s i=.error (k+1)):=by show _=_;rw[HF1.out,eT mM,if_neg (by omega),if_neg (by omega)]
       clear HF1 HS;go_wp2_with fail;go_quiet(fail);go_wp2_with fail;go_quiet(fail);go_wp2_with fail;go_quiet(fail);go_wp2_with fail;refine(CF1 _ (by first|exact HN1 _|exact(HN1 _).drewN _)).mono ?_;rintro e w2 ⟨rfl,h2,g2⟩;have H2:Hid (RS w2 rb s (k+1) lv ((k+1:Nat):Int) er at_ aQ):=by have:=h2;rw[HBI.out]at this;rw[show((k+1:Nat):Int)=(k:Int)+1 by omega];exact this
       have gX:Hid (w.grownBy w2 (some rb)):=by first|exact gr_trans (gr_trans (gr_trans HG (aK _ _ _)) (ct _ _ _ _)) g2|exact gr_trans (gr_trans (gr_trans (gr_trans HG (aK _ _ _)) (ct _ _ _ _)) (aK _ _ _)) g2
       clear h2 g2;go_wp2;go_ret;exact⟨gX,by rw[HE.out];exact⟨rfl,k+1,by omega,H2⟩⟩
     ·have HF2:Hid (qF s f (k+1) (Y.toList++[x.toUInt8])=fi s i):=by show _=_;rw[HF1.out,if_neg q34,if_neg q92]
      have HN:=qH<|fun q=>by have:=(HS.drewN q).setI (k+1);rw[show((k+1:Nat):Int)=(k:Int)+1 by omega]at this;exact this
      have e1:((x:Int)==34)=false:=by simp;omega
      have e2:((x:Int)==92)=false:=by simp;omega
      have OY:=TJ (x:Int) ⟨by omega,by omega⟩ wr rb ((k:Int)+1);have Xj:((x:Int).toNat).toUInt8=x.toUInt8:=by simp
      rw[Xj]at OY;clear Xj;clear HF1 HS;go_wp2_with fail;go_quiet(fail);go_wp2_with fail;go_quiet(fail);go_wp2;go_roundw;case rel=>exact⟨k+1,f,_,rfl,by omega,by simp;omega,by omega,by show _=_;rw[<-HF2.out],(HN _).below ((aj _ _).alloc (ai _) _),gr_trans (gr_trans (gr_trans HG (aK _ _ _)) (ct _ _ _ _)) (fG ((aj _ _).alloc (ai _) _))⟩
      case measure=>rw[((HN _).below ((aj _ _).alloc (ai _) _)).rdI,xe.out];omega
   ·have tD:(s.size:Int)<=(k:Int):=by omega
    have HE:Hid (fi s i=.error k):=by show _=_;rw[<-HF.out,qF,if_pos (eT hlt)]
    clear HF;go_wp2_with fail;go_quiet(fail);go_wp2_with fail;refine(CF k _ (HS.drewN _)).mono ?_;rintro e w2 ⟨rfl,h2,g2⟩;have H2:Hid (RS w2 rb s k lv (k:Int) er at_ aQ):=by have:=h2;rw[HBI.out]at this;exact this
    have gX:=qH<|gr_trans (gr_trans HG (aK _ _ _)) g2;clear h2 g2;go_wp2;go_ret;exact⟨gX,by rw[HE.out];exact⟨rfl,k,hk,H2⟩⟩
 ·have Ux:jk s i 34 bad=(sk s i:Int):=by unfold jk;rw[if_neg IW]
  have HQ:Hid (fi s i=.error (sk s i)):=by show _=_;unfold fi;rw[if_neg IW]
  have _5:aA s i 34<=s.size:=by unfold aT at IW;unfold aA;rw[if_neg (by grind)];exact fw s i hi
  rw[Ux]at CM;obtain⟨j,hj⟩:=ag (aA s i 34);obtain⟨b,hbe⟩:∃b:Int,(sk s i:Int)=b:=⟨_,rfl⟩;have _l:=qH<|hbe;have hb0:¬b<0:=by omega
  rw[hj,hbe]at CM;rw[hj]at _5;clear Ux hj IW hbe;go_enter func56,ntmps56;go_wp2_with fail;refine CM.mono ?_;rintro e w1 ⟨rfl,h1,g1⟩;have HR:=qH<|h1;have HG1:=qH<|g1;have c3:=h1.c3;clear h1 g1 CM;go_wp2;go_loopw[3,7] (fun v _ wr=>v=.string ByteArray.empty/\wr=w1) (fun _ _ _=>0);case atStart=>exact⟨rfl,rfl⟩
  case round=>obtain⟨rfl,hw⟩:=hrel;obtain rfl:=hw.symm;go_wp2;go_ret;exact⟨HG1,by rw[HQ.out];exact⟨rfl,j,_5,by rw[_l.out];exact HR⟩⟩
def cM:List ByteArray:=[⟨#[114,111,119]⟩,⟨#[99,111,108]⟩,⟨#[115,116,97,99,107]⟩,⟨#[98,111,120]⟩,⟨#[115,99,114,111,108,108]⟩,⟨#[116,101,120,116]⟩,⟨#[103,97,112]⟩]
theorem yJ(w:World):Cw 51 #[] w fun e w'=>e=Rw (Sq w.heap.size 7 7)/\(∀j,j<7->w'.cell? (az w.heap.size (0+j))=some (.string (cM[j]?.getD ByteArray.empty)))/\w.heap.size<w'.heap.size/\Bt w w':=by
 have HC:Hid (∀j,j<7->(w.alloc (.cells #[.string ⟨#[114,111,119]⟩,.string ⟨#[99,111,108]⟩,.string ⟨#[115,116,97,99,107]⟩,.string ⟨#[98,111,120]⟩,.string ⟨#[115,99,114,111,108,108]⟩,.string ⟨#[116,101,120,116]⟩,.string ⟨#[103,97,112]⟩] 9)).cell? (az w.heap.size (0+j))=some (.string (cM[j]?.getD ByteArray.empty))):=fun j hj=>by
  rw[bM,World.cell?_alloc_at _ _ _ _ rfl];match j,hj with
  |0,_=>rfl
  |1,_=>rfl
  |2,_=>rfl
  |3,_=>rfl
  |4,_=>rfl
  |5,_=>rfl
  |6,_=>rfl
 go_enter func51,ntmps51;go_wp2;go_ret;exact⟨rfl,HC,by simp,(aj _ _).alloc (ai _) _⟩
def cI:List ByteArray:=[⟨#[105,100]⟩,⟨#[109,105,110]⟩,⟨#[109,97,120]⟩,⟨#[119,101,105,103,104,116]⟩,⟨#[103,97,112]⟩,⟨#[112,97,100]⟩,⟨#[98,111,114,100,101,114]⟩,⟨#[97,108,105,103,110]⟩,⟨#[119,114,97,112]⟩,⟨#[102,103]⟩,⟨#[98,103]⟩,⟨#[98,111,108,100]⟩]
theorem LD(w:World):Cw 99 #[] w fun e w'=>e=Rw (Sq w.heap.size 12 12)/\(∀j,j<12->w'.cell? (az w.heap.size (0+j))=some (.string (cI[j]?.getD ByteArray.empty)))/\w.heap.size<w'.heap.size/\Bt w w':=by
 have HC:Hid (∀j,j<12->(w.alloc (.cells #[.string ⟨#[105,100]⟩,.string ⟨#[109,105,110]⟩,.string ⟨#[109,97,120]⟩,.string ⟨#[119,101,105,103,104,116]⟩,.string ⟨#[103,97,112]⟩,.string ⟨#[112,97,100]⟩,.string ⟨#[98,111,114,100,101,114]⟩,.string ⟨#[97,108,105,103,110]⟩,.string ⟨#[119,114,97,112]⟩,.string ⟨#[102,103]⟩,.string ⟨#[98,103]⟩,.string ⟨#[98,111,108,100]⟩] 9)).cell? (az w.heap.size (0+j))=some (.string (cI[j]?.getD ByteArray.empty))):=fun j hj=>by
  rw[bM,World.cell?_alloc_at _ _ _ _ rfl];match j,hj with
  |0,_=>rfl
  |1,_=>rfl
  |2,_=>rfl
  |3,_=>rfl
  |4,_=>rfl
  |5,_=>rfl
  |6,_=>rfl
  |7,_=>rfl
  |8,_=>rfl
  |9,_=>rfl
  |10,_=>rfl
  |11,_=>rfl
 go_enter func99,ntmps99;go_wp2;go_ret;exact⟨rfl,HC,by simp,(aj _ _).alloc (ai _) _⟩
def jH:List Int:=[999999,100000,100000,100000,100,20,1,2,1,8,8,1]
theorem Qd(w:World):Cw 101 #[] w fun e w'=>e=Rw (Sq w.heap.size 12 12)/\(∀j,j<12->w'.cell? (az w.heap.size (0+j))=some (Iq (jH[j]?.getD 0))/\w'.frozen? (az w.heap.size (0+j))=false)/\w.heap.size<w'.heap.size/\Bt w w':=by
 have HC:Hid (∀j,j<12->(w.alloc (.cells #[Iq (999999),Iq (100000),Iq (100000),Iq (100000),Iq (100),Iq (20),Iq (1),Iq (2),Iq (1),Iq (8),Iq (8),Iq (1)] 3)).cell? (az w.heap.size (0+j))=some (Iq (jH[j]?.getD 0))/\(w.alloc (.cells #[Iq (999999),Iq (100000),Iq (100000),Iq (100000),Iq (100),Iq (20),Iq (1),Iq (2),Iq (1),Iq (8),Iq (8),Iq (1)] 3)).frozen? (az w.heap.size (0+j))=false):=fun j hj=>by
  rw[bM,World.cell?_alloc_at _ _ _ _ rfl,World.frozen?_alloc_at _ _ _ _ rfl];match j,hj with
  |0,_=>exact⟨rfl,rfl⟩
  |1,_=>exact⟨rfl,rfl⟩
  |2,_=>exact⟨rfl,rfl⟩
  |3,_=>exact⟨rfl,rfl⟩
  |4,_=>exact⟨rfl,rfl⟩
  |5,_=>exact⟨rfl,rfl⟩
  |6,_=>exact⟨rfl,rfl⟩
  |7,_=>exact⟨rfl,rfl⟩
  |8,_=>exact⟨rfl,rfl⟩
  |9,_=>exact⟨rfl,rfl⟩
  |10,_=>exact⟨rfl,rfl⟩
  |11,_=>exact⟨rfl,rfl⟩
 go_enter func101,ntmps101;go_wp2;go_ret;exact⟨rfl,HC,by simp,(aj _ _).alloc (ai _) _⟩
def aX:List Int:=[0,0,-1,1,0,0,1,0,1,0,0,0]
theorem EV(w:World):Cw 96 #[] w fun e w'=>e=Rw (Sq w.heap.size 12 12)/\(∀j,j<12->w'.cell? (az w.heap.size (0+j))=some (Iq (aX[j]?.getD 0))/\w'.frozen? (az w.heap.size (0+j))=false)/\w.heap.size<w'.heap.size/\Bt w w':=by
 have HC:Hid (∀j,j<12->(w.alloc (.cells #[Iq (0),Iq (0),Iq (-1),Iq (1),Iq (0),Iq (0),Iq (1),Iq (0),Iq (1),Iq (0),Iq (0),Iq (0)] 3)).cell? (az w.heap.size (0+j))=some (Iq (aX[j]?.getD 0))/\(w.alloc (.cells #[Iq (0),Iq (0),Iq (-1),Iq (1),Iq (0),Iq (0),Iq (1),Iq (0),Iq (1),Iq (0),Iq (0),Iq (0)] 3)).frozen? (az w.heap.size (0+j))=false):=fun j hj=>by
  rw[bM,World.cell?_alloc_at _ _ _ _ rfl,World.frozen?_alloc_at _ _ _ _ rfl];match j,hj with
  |0,_=>exact⟨rfl,rfl⟩
  |1,_=>exact⟨rfl,rfl⟩
  |2,_=>exact⟨rfl,rfl⟩
  |3,_=>exact⟨rfl,rfl⟩
  |4,_=>exact⟨rfl,rfl⟩
  |5,_=>exact⟨rfl,rfl⟩
  |6,_=>exact⟨rfl,rfl⟩
  |7,_=>exact⟨rfl,rfl⟩
  |8,_=>exact⟨rfl,rfl⟩
  |9,_=>exact⟨rfl,rfl⟩
  |10,_=>exact⟨rfl,rfl⟩
  |11,_=>exact⟨rfl,rfl⟩
 go_enter func96,ntmps96;go_wp2;go_ret;exact⟨rfl,HC,by simp,(aj _ _).alloc (ai _) _⟩
def iu(kind attr:Nat):Bool:=if attr=4 then(kind==0||kind==1)else if attr=5\/attr=6 then kind==3 else if attr=7\/attr=8 then kind==5 else true
theorem D_(kind attr:Nat)(hk:kind<7)(ha:attr<12)(w:World):Cw 100 #[Iq (kind:Int),Iq (attr:Int)] w fun e w'=>e=Rw (.bool (iu kind attr))/\w'=w:=by
 obtain⟨r,hr⟩:=ag (iu kind attr);rw[hr];have HK:kind=0\/kind=1\/kind=2\/kind=3\/kind=4\/kind=5\/kind=6:=by omega
 have HA:attr=0\/attr=1\/attr=2\/attr=3\/attr=4\/attr=5\/attr=6\/attr=7\/attr=8\/attr=9\/attr=10\/attr=11:=by omega
 rcases HA with rfl|rfl|rfl|rfl|rfl|rfl|rfl|rfl|rfl|rfl|rfl|rfl<;>rcases HK with rfl|rfl|rfl|rfl|rfl|rfl|rfl<;>
  (simp[iu]at hr;subst hr;go_enter func100,ntmps100;go_wp2;go_ret;simp_all)
structure Nd where
 kind:Nat
 attr:List Int
 text:List UInt8
 kids:List Nat
 up:Int
abbrev gW:=Option (Nat×Nat)
def jn(f:gW)(c p:Nat):gW:=match f with
 |none=>some (c,p)
 |some x=>some x
def bS(b:Bool)(f:gW)(c p:Nat):gW:=if b then jn f c p else f
structure PS where
 i:Nat
 L:List Nd
 er:gW
def dd(s:ByteArray)(i c:Nat):Except Nat Nat:=if aT s i c then .ok (aA s i c)else .error (sk s i)
def lG(s:ByteArray)(j k:Nat):Bool:=decide (k=j\/j+6<k\/(j+1<k/\dL s j=48))
def fI(L:List Nd)(n:Int):Bool:=L.any fun d=>d.attr[0]?.getD 0==n
def jx(s:ByteArray)(kind:Nat)(L:List Nd)(i:Nat)(er:gW)(a:List Int)(seen:List Nat):Except Nat (Nat×gW×List Int×List Nat):=
 let at_:=sk s i
 let k:=run aB s at_
 if k=at_ then .error at_ else
 match dd s k 61 with
 |.error b=>.error b
 |.ok i2=>
  let j:=sk s i2
  let e:=run aW s j
  if lG s j e then .error j else
  let n:=dv s j (e-j)
  let ix:=aR cI (s.extract at_ k) 0
  if ix<0\/iu kind ix.toNat=false then .ok (e,jn er 7 at_,a,seen)
  else .ok (e,bS (decide (ix=0/\0<n)&&fI L n) (bS (decide (jH[ix.toNat]?.getD 0<n)) (bS (seen.contains ix.toNat) er 5 at_) 6 j) 5 j,a.set ix.toNat n,ix.toNat::seen)
def d_(s:ByteArray)(kind:Nat)(L:List Nd):Nat->Nat->gW->List Int->List Nat->Except Nat (Nat×gW×List Int)
 |0,i,_,_,_=>.error i
 |f+1,i,er,a,seen=>match jx s kind L i er a seen with
  |.error b=>.error b
  |.ok (i2,fd,a2,qC)=>
   if aT s i2 59 then d_ s kind L f (aA s i2 59) fd a2 qC
   else match dd s i2 125 with
    |.error b=>.error b
    |.ok i3=>.ok (i3,fd,a2)
def dC(s:ByteArray)(kind:Nat)(L:List Nd)(i:Nat)(er:gW):Except Nat (Nat×gW×List Int):=
 if aT s i 123 then d_ s kind L (s.size+1) (aA s i 123) er aX []else .ok (sk s i,er,aX)
def grown(L:List Nd)(d:Nd):List Nd:=
 if d.up<0 then L++[d]else(L.modify d.up.toNat fun u=>{u with kids:=u.kids++[L.length]})++[d]
def aH(L:List Nd)(k:Nat)(t:List UInt8):List Nd:=L.modify k fun u=>{u with text:=t}
def eI(s:ByteArray)(bJ:PS->Except Nat PS):Nat->PS->Except Nat PS
 |0,st=>.error st.i
 |f+1,st=>match bJ st with
  |.error b=>.error b
  |.ok fk=>if aT s fk.i 44 then eI s bJ f {fk with i:=aA s fk.i 44}else match dd s fk.i 93 with
   |.error b=>.error b
   |.ok i3=>.ok {fk with i:=i3}
def jZ(s:ByteArray)(kind k:Nat)(bJ:PS->Except Nat PS)(st:PS):Except Nat PS:=
 if kind<3 then match dd s st.i 91 with
  |.error b=>.error b
  |.ok i2=>if aT s i2 93 then .ok {st with i:=aA s i2 93}else eI s bJ (s.size+1) {st with i:=sk s i2}
 else if kind<5 then match dd s st.i 91 with
  |.error b=>.error b
  |.ok i2=>match bJ {st with i:=i2}with
   |.error b=>.error b
   |.ok eD=>match dd s eD.i 93 with
    |.error b=>.error b
    |.ok i4=>.ok {eD with i:=i4}
 else if kind=5 then match fi s st.i with
  |.error b=>.error b
  |.ok (i2,t)=>.ok {st with i:=i2,L:=aH st.L k t}
 else .ok st
def de(s:ByteArray):Nat->Int->Nat->PS->Except Nat PS
 |0,_,_,st=>.error st.i
 |f+1,up,af,st=>
  let at_:=sk s st.i
  let k:=run aB s at_
  let kind:=aR cM (s.extract at_ k) 0
  if k=at_\/kind<0 then .error at_ else
  match dC s kind.toNat st.L k (bS (decide (12<=af)) (bS (decide (100<=st.L.length)) st.er 3 at_) 4 at_)with
  |.error b=>.error b
  |.ok (i2,fd,a)=>jZ s kind.toNat st.L.length (de s f st.L.length (af+1)) {i:=i2,L:=grown st.L ⟨kind.toNat,a,[],[],up⟩,er:=fd}
def gC(s:ByteArray):Except (Nat×Nat) (List Nd):=
 if 4000<s.size then .error (1,0)else
 match de s (s.size+1) (-1) 0 ⟨0,[],none⟩with
 |.error b=>.error (2,b)
 |.ok st=>if sk s st.i<s.size then .error (2,sk s st.i)else match st.er with
  |some f=>.error f
  |none=>.ok st.L
def kX(l:List Nat):List Value:=l.map fun(k:Nat)=>Iq (k:Int)
structure Up(B:Nat)(W W':World):Prop where
 size:W.heap.size<=W'.heap.size
 block:∀b,B<=b->b<W.heap.size->W'.heap[b]?=W.heap[b]?
theorem Up.refl  B   W  :Up B W W:=⟨ai _,fun _ _ _=>rfl⟩
theorem Up.trans{B}{W W1 W2}(h:Up B W W1)(k:Up B W1 W2):Up B W W2:=
 ⟨aO h.size k.size,fun b h1 h2=>(k.block b h1 (zz008 h2 h.size)).trans (h.block b h1 h2)⟩
theorem Up.grown{B r}{W W'}(h:W.grownBy W' (some r))(hr:r<B):Up B W W':=
 ⟨h.size,fun b h1 h2=>h.block b h2 (by grind)⟩
theorem Up.below{B}{W W'}(h:Bt W W'):Up B W W':=⟨h.size,fun b _ h2=>h.block b h2⟩
theorem Up.drewN  B   W   q  :Up B W (W.drewN q):=⟨ai _,fun _ _ _=>rfl⟩
theorem Qt{W W'}{B n size}{e}{v}{xs}(h:W.ownsRow B e size v n xs)(hu:Up B W W'):W'.ownsRow B e size v n xs:=by
 refine⟨h.1,?_⟩;rcases h.2 with h2|⟨g,cap,ik,a,b,c,d⟩;·exact .inl h2
 ·refine .inr ⟨g,cap,ik,a,b,?_,d⟩;rw[hu.block g b (aM.1 c).1];exact c
theorem gm{W:World}{B B' n n' size zdE}{e e'}{v v'}{xs xs'}(h:W.ownsRow B e size v n xs)(h':W.ownsRow B' e' zdE v' n' xs')(he:e≠e'):v.ownBlock=none\/v.ownBlock≠v'.ownBlock:=by
 rcases h.2 with⟨rfl,_⟩|⟨g,cap,ik,rfl,b,c,d⟩;·exact .inl rfl
 ·right;rcases h'.2 with⟨rfl,_⟩|⟨g',dD,zn_,rfl,b',c',d'⟩;·simp[Value.ownBlock]
  ·intro hh;simp[Value.ownBlock]at hh;grind
theorem dK{W:World}{B n size}{e}{v}{xs}(h:W.ownsRow B e size v n xs):(v=.slice none 0 0/\n=0)\/∃g cap,v=Sq g n cap/\B<=g/\g<W.heap.size/\n<=cap/\cap<=maxLen:=by rcases h.2 with h2|⟨g,cap,ik,a,b,c,d,f,_⟩;all_goals grind
structure NR(W:World)(B:Nat)(T:TypeId)(z:Nat)(nv:Value)(n:Nat)(C:Nat->List Value)(KV:Nat->Value)(K:Nat->List Nat):Prop where
 row:∃xs,W.ownsRow B T z nv n xs
 cells:∀g,nv.ownBlock=some g->∀j,j<n->∀(t:Nat) u,(C j)[t]?=some u->W.cell? (az g (j*z+t))=some u
 len:∀j,j<n->(C j).length=z
 kids:∀j,j<n->W.ownsRow B 3 1 (KV j) (K j).length (kX (K j))
 sep:∀i j,i<n->j<n->i≠j->∀b,(KV i).ownBlock=some b->(KV j).ownBlock≠some b
section
variable{W W':World} {B z n:Nat} {T:TypeId} {nv:Value} {C:Nat->List Value} {KV:Nat->Value} {K:Nat->List Nat}
theorem NR.nothing  W   B   T   z   C   KV   K  :NR W B T z (.slice none 0 0) 0 C KV K:=
 ⟨⟨[],gF _ _ _ _⟩,fun _ _ j h=>absurd h (by omega),fun j h=>absurd h (by omega),fun j h=>absurd h (by omega),fun i j h=>absurd h (by omega)⟩
theorem NR.up(h:NR W B T z nv n C KV K)(hu:Up B W W'):NR W' B T z nv n C KV K:=by obtain⟨xs,hx⟩:=h.row;refine⟨⟨xs,Qt hx hu⟩,fun g hg j hj t u BK=>?_,h.len,fun j hj=>Qt (h.kids j hj) hu,h.sep⟩;have:=h.cells g hg j hj t u BK;have hl:=hx.lt g hg;rw[bU (hu.block g hl.1 hl.2)];omega
theorem NR.form(h:NR W B T z nv n C KV K)(hn:0<n):∃g cap,nv=Sq g n cap/\B<=g/\g<W.heap.size/\n<=cap/\cap<=maxLen:=by obtain⟨xs,hx⟩:=h.row;grind[dK]
theorem NR.cell{g cap}(h:NR W B T z (Sq g n cap) n C KV K){j}(hj:j<n){t}{u}(ht:(C j)[t]?=some u):W.cell? (az g (j*z+t))=some u:=h.cells g rfl j hj t u ht
theorem NR.frozen{g cap}(h:NR W B T z (Sq g n cap) n C KV K)  j  :W.frozen? (az g j)=false:=by obtain⟨xs,hx⟩:=h.row;exact hx.frozenAt j
theorem NR.frz(h:NR W B T z nv n C KV K){g}(hg:nv.ownBlock=some g)  j  :W.frozen? (az g j)=false:=by
 obtain⟨xs,hx⟩:=h.row;rcases dK hx with⟨rfl,_⟩|⟨g',cap,rfl,_⟩;·simp[Value.ownBlock]at hg
 ·simp[Value.ownBlock]at hg;subst hg;exact hx.frozenAt j
theorem NR.app{LH}{xs jg}(h:NR W B T z nv n C KV K)(hT:3≠T)(hx:W.ownsRow B T z nv n xs)(hx':W'.ownsRow B T z LH (n+1) (xs++jg))(hg:W.grownBy W' nv.ownBlock)(hl:jg.length=z):
 NR W' B T z LH (n+1) (fun j=>if j=n then jg else C j) (fun j=>if j=n then .slice none 0 0 else KV j) (fun j=>if j=n then[]else K j):=by
 have UJ:=hx.1;refine⟨⟨_,hx'⟩,fun g Ad j hj t u BK=>?_,fun j hj=>?_,fun j hj=>?_,fun i j hi hj IY b hb=>?_⟩
 ·have key:=hx'.cells Ad;have zhE:∀m,((az g 0):Addr).add m=(az g m):=fun m=>by unfold Addr.add;grind
  have hz:t<z:=by
   have h1:=(qM.1 BK).1;by_cases Af:j=n;·grind
   ·rw[if_neg Af,h.len j (by omega)]at h1;exact h1
  rw[<-zhE];refine key _ _ ?_;by_cases Af:j=n;·grind
  ·rw[if_neg Af]at BK;have hlt:j*z+t<n*z:=by have:(j+1)*z<=n*z:=sW _ (by omega);rw[sX]at this;omega
   rw[XH (by omega)];obtain⟨g0,cap,rfl,_⟩:=h.form (by omega);have h1:=h.cell (by omega) BK;rw[hx.cellAt _ hlt]at h1;exact h1
 ·by_cases Af:j=n;·grind
  ·rw[if_neg Af];exact h.len j (by omega)
 ·by_cases Af:j=n;·rw[if_pos Af,if_pos Af];exact gF _ _ _ _
  ·rw[if_neg Af,if_neg Af];exact(h.kids j (by omega)).kept hg (gm (h.kids j (by omega)) hx hT)
 ·by_cases h1:i=n;·rw[if_pos h1]at hb;simp[Value.ownBlock]at hb
  ·rw[if_neg h1]at hb;by_cases h2:j=n;·rw[if_pos h2];simp[Value.ownBlock]
   ·rw[if_neg h2];exact h.sep i j (by omega) (by omega) IY b hb
theorem NR.set{g cap}(h:NR W B T z (Sq g n cap) n C KV K)(hT:3≠T){k t}(hk:k<n)(ht:t<z)  u  :
 NR (W.setCell (az g (k*z+t)) u) B T z (Sq g n cap) n (fun j=>if j=k then(C k).set t u else C j) KV K:=by
 obtain⟨xs,hx⟩:=h.row;have hst:=hx.stored (k*z+t) u;have hkt:k*z+t<n*z:=by have:(k+1)*z<=n*z:=sW _ (by omega);rw[sX]at this;omega
 refine⟨⟨_,hst.1⟩,fun g' Ad j hj t' u' BK=>?_,fun j hj=>?_,fun j hj=>?_,h.sep⟩
 ·injection Ad with Ad;have Ad:g=g':=Ad;subst Ad;have hz:t'<z:=by
   have h1:=(qM.1 BK).1;by_cases Af:j=k;·rw[if_pos Af]at h1;simp[h.len k hk]at h1;exact h1
   ·rw[if_neg Af,h.len j (by omega)]at h1;exact h1
  have hlt:j*z+t'<n*z:=by have:(j+1)*z<=n*z:=sW _ (by omega);rw[sX]at this;omega
  rw[hst.1.cellAt _ hlt];have hold:=(hx.cellAt _ hlt).symm;by_cases vn:j=k
  ·subst vn;rw[if_pos rfl]at BK;by_cases htt:t=t';·subst htt;rw[Ro (by rw[hx.1];exact hkt)];grind
   ·rw[wZ (by omega)]at BK⊢;rw[hold];exact h.cell hj BK
  ·rw[if_neg vn]at BK;have bZ:k*z+t≠j*z+t':=by
    intro e;rcases Nat.lt_or_gt_of_ne vn with hh|hh;·have:(j+1)*z<=k*z:=sW _ (by omega);rw[sX]at this;omega
    ·have:(k+1)*z<=j*z:=sW _ (by omega);rw[sX]at this;omega
   rw[wZ bZ,hold];exact h.cell hj BK
 ·by_cases vn:j=k;·rw[if_pos vn];simp[h.len k hk]
  ·rw[if_neg vn];exact h.len j hj
 ·exact(h.kids j hj).kept hst.2 (gm (h.kids j hj) hx hT)
theorem NR.kid{g cap}{kv'}{k t c}(h:NR W B T z (Sq g n cap) n C KV K)(hT:3≠T)(hk:k<n)(ht:t<z)
 (hr:W'.ownsRow B 3 1 kv' ((K k).length+1) (kX (K k++[c]))) (hg:W.grownBy W' (KV k).ownBlock) (b9:kv'.ownBlock=(KV k).ownBlock\/kv'.ownBlock=some W.heap.size):
 NR (W'.setCell (az g (k*z+t)) kv') B T z (Sq g n cap) n (fun j=>if j=k then(C k).set t kv' else C j) (fun j=>if j=k then kv' else KV j) (fun j=>if j=k then K k++[c]else K j):=by
 obtain⟨xs,hx⟩:=h.row;have hx':=hx.kept hg (gm hx (h.kids k hk) (Ne.symm hT));have kV:=hx.lt g rfl;have Gg:=hg.block g kV.2 (by
  rcases gm (h.kids k hk) hx hT with e|e;·rw[e];simp
  ·exact fun e2=>e e2.symm);have Zh:=fun j hj vn=>(h.kids j hj).kept hg (by
  cases hb:(KV j).ownBlock with
  |none=>exact .inl rfl
  |some b=>right;exact fun e=>h.sep j k hj hk vn b hb e.symm);have ff:NR W' B T z (Sq g n cap) n C (fun j=>if j=k then kv' else KV j) (fun j=>if j=k then K k++[c]else K j):=by
  refine⟨⟨xs,hx'⟩,fun g' Ad j hj t' u' BK=>?_,h.len,fun j hj=>?_,fun i j hi hj IY b hb=>?_⟩;·injection Ad with Ad;have Ad:g=g':=Ad;subst Ad;rw[bU Gg];exact h.cell hj BK
  ·by_cases vn:j=k;·rw[if_pos vn,if_pos vn];simpa using hr
   ·rw[if_neg vn,if_neg vn];exact Zh j hj vn
  ·have zcw:∀i,i<n->(KV i).ownBlock≠some W.heap.size:=fun i hi e=>by have:=(h.kids i hi).lt _ e;omega
   by_cases h1:i=k
   ·rw[if_pos h1]at hb;have h2:j≠k:=fun e=>IY (h1.trans e.symm);rw[if_neg h2];rcases b9 with e|e;·rw[e]at hb;exact h.sep k j hk hj (fun e=>h2 e.symm) b hb
    ·rw[e]at hb;injection hb with hb;rw[<-hb];exact zcw j hj
   ·rw[if_neg h1]at hb;by_cases h2:j=k
    ·rw[if_pos h2];rcases b9 with e|e;·rw[e];exact h.sep i k hi hk h1 b hb
     ·rw[e];intro e2;injection e2 with e2;exact zcw i hi (by rw[hb,e2])
    ·rw[if_neg h2];exact h.sep i j hi hj IY b hb
 exact ff.set hT hk ht kv'
end
def nd0:Nd:=⟨0,[],[],[],0⟩
def ae(L:List Nd)(j:Nat):Nd:=L[j]?.getD nd0
theorem cV{L}{d}{j}(h:j<L.length):ae (L++[d]) j=ae L j:=by grind[ae]
theorem dp  L   d  :ae (L++[d]) L.length=d:=by grind[ae]
theorem bj{L:List Nd}{k}  f  (h:k<L.length):ae (L.modify k f) k=f (ae L k):=by grind[ae]
theorem aV{L}{k j}  f  (h:j≠k):ae (L.modify k f) j=ae L j:=by grind[ae]
theorem NR.congr{W}{B z n}{T}{nv}{C C'}{KV KV'}{K K'}(h:NR W B T z nv n C KV K)
 (h1:∀j,j<n->C' j=C j) (h2:∀j,j<n->KV' j=KV j) (h3:∀j,j<n->K' j=K j):NR W B T z nv n C' KV' K':=
 ⟨h.row,fun g hg j hj t u ht=>h.cells g hg j hj t u (by grind),fun j hj=>by rw[h1 j hj];exact h.len j hj,fun j hj=>by rw[h2 j hj,h3 j hj];exact h.kids j hj,
  fun i j hi hj IY b hb=>by rw[h2 j hj];rw[h2 i hi]at hb;exact h.sep i j hi hj IY b hb⟩
structure Fr(B r:Nat)(W W':World):Prop where
 os:W'.os=W.os
 tape:W'.tape=W.tape
 output:W'.output=W.output
 size:W.heap.size<=W'.heap.size
 block:∀b,b<B->b≠r->W'.heap[b]?=W.heap[b]?
theorem Fr.refl  B r   W  :Fr B r W W:=⟨rfl,rfl,rfl,ai _,fun _ _ _=>rfl⟩
theorem Fr.trans{B r}{W W1 W2}(h:Fr B r W W1)(k:Fr B r W1 W2):Fr B r W W2:=
 ⟨k.os.trans h.os,k.tape.trans h.tape,k.output.trans h.output,aO h.size k.size,fun b h1 h2=>(k.block b h1 h2).trans (h.block b h1 h2)⟩
theorem Fr.grown{B r}{W W'}(h:W.grownBy W' (some r))(hB:B<=W.heap.size):Fr B r W W':=
 ⟨h.os,h.tape,h.output,h.size,fun b h1 h2=>h.block b (by omega) (by grind)⟩
theorem Fr.own{B r}{W W'}{o}(h:W.grownBy W' o)(hB:B<=W.heap.size)(ho:∀g,o=some g->B<=g):Fr B r W W':=
 ⟨h.os,h.tape,h.output,h.size,fun b h1 h2=>h.block b (by omega) (fun e=>by grind)⟩
theorem Fr.below{B B' r}{W W'}(h:Below B' W W')(hB:B<=B'):Fr B r W W':=
 ⟨h.os,h.tape,h.output,h.size,fun b h1 h2=>h.block b (by omega)⟩
theorem Fr.drewN  B r   W   q  :Fr B r W (W.drewN q):=⟨rfl,rfl,rfl,ai _,fun _ _ _=>rfl⟩
theorem Fr.cell{B r}{W W'}(h:Fr B r W W'){a}{v}(hc:W.cell? a=some v)(h1:a.block<B)(h2:a.block≠r):W'.cell? a=some v:=
 (bU (h.block a.block h1 h2)).trans hc
theorem Fr.frozen{B r}{W W'}(h:Fr B r W W'){a}(h1:a.block<B)(h2:a.block≠r):W'.frozen? a=W.frozen? a:=
 qN (h.block a.block h1 h2)
def b_(d:Nd)(kv:Value):List Value:=Iq (d.kind:Int)::((d.attr.map fun(x:Int)=>Iq x)++[.string ⟨d.text.toArray⟩,kv,Iq d.up])
theorem Vm  d   kv  :(b_ d kv)[0]?=some (Iq (d.kind:Int)):=rfl
theorem Jn{d}{kv}{t}(h:t<d.attr.length):(b_ d kv)[t+1]?=some (Iq (d.attr[t]?.getD 0)):=by unfold b_;grind
theorem Jo{d}{kv}(h:d.attr.length=12):(b_ d kv)[13]?=some (.string ⟨d.text.toArray⟩):=by grind[b_]
theorem Vk{d}{kv}(h:d.attr.length=12):(b_ d kv)[14]?=some kv:=by grind[b_]
theorem Z4{d}{kv}(h:d.attr.length=12):(b_ d kv).length=16:=by simp_all[b_]
theorem Eh{d}{kv}{t}(h:t<d.attr.length)  x  :(b_ d kv).set (t+1) (Iq x)=b_ {d with attr:=d.attr.set t x} kv:=by simp_all[b_]
theorem Ej{d}{kv}(h:d.attr.length=12)  x  :(b_ d kv).set 13 (.string ⟨x.toArray⟩)=b_ {d with text:=x} kv:=by simp_all[b_]
theorem Ei{d}{kv kv'}(h:d.attr.length=12)  ks  :(b_ d kv).set 14 kv'=b_ {d with kids:=ks} kv':=by simp_all[b_]
structure PN(W:World)(B:Nat)(nv:Value)(L:List Nd)(KV:Nat->Value):Prop where
 nr:NR W B 63 16 nv L.length (fun j=>b_ (ae L j) (KV j)) KV (fun j=>(ae L j).kids)
 len:∀j,j<L.length->(ae L j).attr.length=12
section
variable{W W':World} {B:Nat} {nv:Value} {L:List Nd} {KV:Nat->Value}
theorem PN.up(h:PN W B nv L KV)(hu:Up B W W'):PN W' B nv L KV:=⟨h.nr.up hu,h.len⟩
theorem PN.app{LH}{xs}{d}(h:PN W B nv L KV)(hx:W.ownsRow B 63 16 nv L.length xs)(hx':W'.ownsRow B 63 16 LH (L.length+1) (xs++b_ d (.slice none 0 0)))(hg:W.grownBy W' nv.ownBlock)(hl:d.attr.length=12)(hk:d.kids=[]):
 PN W' B LH (L++[d]) (fun j=>if j=L.length then .slice none 0 0 else KV j):=by
 refine⟨?_,fun j hj=>?_⟩
 ·have yA:(L++[d]).length=L.length+1:=by simp
  rw[yA];refine(h.nr.app (by decide) hx hx' hg (Z4 hl)).congr (fun j hj=>?_) (fun j hj=>rfl) (fun j hj=>?_);all_goals grind[dp,cV]
 ·by_cases e:j=L.length;·grind[dp]
  ·rw[cV (by grind)];exact h.len j (by grind)
theorem PN.mod{g cap k t}{u}(h:PN W B (Sq g L.length cap) L KV)(hk:k<L.length)(ht:t<16)  f  (hf:(b_ (ae L k) (KV k)).set t u=b_ (f (ae L k)) (KV k)) (hfk:(f (ae L k)).kids=(ae L k).kids) (hfl:(f (ae L k)).attr.length=12):
 PN (W.setCell (az g (k*16+t)) u) B (Sq g L.length cap) (L.modify k f) KV:=by
 refine⟨?_,fun j hj=>?_⟩
 ·have yA:(L.modify k f).length=L.length:=by simp
  rw[yA];refine(h.nr.set (by decide) hk ht u).congr (fun j hj=>?_) (fun j hj=>rfl) (fun j hj=>?_);all_goals grind[bj,aV]
 ·by_cases e:j=k;·grind[bj]
  ·rw[aV f e];exact h.len j (by grind)
theorem PN.setAttr{g cap k t}(h:PN W B (Sq g L.length cap) L KV)(hk:k<L.length)(ht:t<12)  x  :
 PN (W.setCell (az g (k*16+(t+1))) (Iq x)) B (Sq g L.length cap) (L.modify k fun d=>{d with attr:=d.attr.set t x}) KV:=
 h.mod hk (by omega) _ (Eh (by rw[h.len k hk];exact ht) x) rfl (by simp[h.len k hk])
theorem PN.setText{g cap k}(h:PN W B (Sq g L.length cap) L KV)(hk:k<L.length)  x  :
 PN (W.setCell (az g (k*16+13)) (.string ⟨x.toArray⟩)) B (Sq g L.length cap) (aH L k x) KV:=
 h.mod hk (by omega) _ (Ej (h.len k hk) x) rfl (h.len k hk)
theorem PN.kid{g cap}{kv'}{k c}(h:PN W B (Sq g L.length cap) L KV)(hk:k<L.length)
 (hr:W'.ownsRow B 3 1 kv' ((ae L k).kids.length+1) (kX ((ae L k).kids++[c]))) (hg:W.grownBy W' (KV k).ownBlock) (b9:kv'.ownBlock=(KV k).ownBlock\/kv'.ownBlock=some W.heap.size):
 PN (W'.setCell (az g (k*16+14)) kv') B (Sq g L.length cap) (L.modify k fun u=>{u with kids:=u.kids++[c]}) (fun j=>if j=k then kv' else KV j):=by
 refine⟨?_,fun j hj=>?_⟩
 ·have yA:(L.modify k fun u=>{u with kids:=u.kids++[c]}).length=L.length:=by simp
  rw[yA];refine(h.nr.kid (t:=14) (by decide) hk (by omega) hr hg b9).congr (fun j hj=>?_) (fun j hj=>rfl) (fun j hj=>?_)
  ·by_cases e:j=k;·subst e;simp only[if_true];rw[bj _ hk];exact(Ei (h.len j hk) _).symm
   grind[aV]
  grind[bj,aV]
 ·by_cases e:j=k;·subst e;rw[bj _ hk];exact h.len j hk
  ·rw[aV _ e];exact h.len j (by grind)
end
theorem kR  L   d  (k:Nat) (hd:d.up=(k:Int)) (hk:k<L.length):grown L d=(L++[d]).modify k fun u=>{u with kids:=u.kids++[L.length]}:=by unfold grown;rw[if_neg (by omega),hd];simp only[lY];apply Rp;grind
def FN(w:World)(v:Value)(zs:List Int):Prop:=
 ∃a cap,v=.slice a zs.length cap/\(zs=[]\/∃b off,a=some (az b off)/\b<w.heap.size/\∀j,j<zs.length->w.cell? (az b (off+j))=some (Iq (zs[j]?.getD 0)))
def lF(d:Nd)(av kv:Value):List Value:=[Iq (d.kind:Int),av,.string ⟨d.text.toArray⟩,kv,Iq d.up]
def Xs:List Nd->List Value->List Value->List Value
 |d::L,a::A,k::K=>lF d a k++Xs L A K
 |_,_,_=>[]
def SZ(W:World)(B:Nat)(v:Value)(a:List Int):Prop:=∃ab,v=Sq ab 12 12/\B<=ab/\ab<W.heap.size/\a.length=12/\∀j,j<12->W.cell? (az ab j)=some (Iq (a[j]?.getD 0))/\W.frozen? (az ab j)=false
def zO:Value->Option Nat
 |.slice (some a) _ _=>some a.block
 |_=>none
structure NA(W:World)(B:Nat)(lv:Value)(L:List Nd)(AV KV:List Value):Prop where
 row:W.ownsRow B 77 5 lv L.length (Xs L AV KV)
 lenA:AV.length=L.length
 lenK:KV.length=L.length
 attr:∀(j:Nat) d v,L[j]?=some d->AV[j]?=some v->SZ W B v d.attr
 kids:∀(j:Nat) d v,L[j]?=some d->KV[j]?=some v->W.ownsRow B 3 1 v d.kids.length (d.kids.map fun(k:Nat)=>Iq (k:Int))
 sepKK:∀(i j:Nat) (u v:Value),i≠j->KV[i]?=some u->KV[j]?=some v->∀b,u.ownBlock=some b->v.ownBlock≠some b
 sepKL:∀(j:Nat) (v:Value),KV[j]?=some v->∀b,v.ownBlock=some b->lv.ownBlock≠some b
 sepAL:∀(j:Nat) (v:Value),AV[j]?=some v->∀b,zO v=some b->lv.ownBlock≠some b
 sepAK:∀(i j:Nat) (u v:Value),AV[i]?=some u->KV[j]?=some v->∀b,zO u=some b->v.ownBlock≠some b
theorem yP{W W':World}{B r n size}{e}{v}{xs}(h:W.ownsRow B e size v n xs)(hg:W.grownBy W' (some r))(hn:∀b,v.ownBlock=some b->b≠r):W'.ownsRow B e size v n xs:=by
 refine⟨h.1,?_⟩;rcases h.2 with h2|⟨g,cap,ik,a,b,c,d⟩;·grind
 ·have fY:=hn g (by rw[a];rfl);refine .inr ⟨g,cap,ik,a,b,?_,d⟩;rw[hg.block g (aM.1 c).1 (fun e=>fY (by grind))];exact c
theorem Qr{W:World}{B n size}{e}{v}{xs}(h:W.ownsRow B e size v n xs){b}(hb:v.ownBlock=some b):B<=b/\b<W.heap.size:=h.lt b hb
theorem TZ{A B:World}{r b o}(hb:A.grownBy B (some r))(hl:b<A.heap.size)(hn:b≠r):B.frozen? (az b o)=A.frozen? (az b o):=by unfold World.frozen?;rw[hb.block b hl (fun e=>hn (by grind))]
theorem SZ.grown{W W'}{B r}{v}{a}(h:SZ W B v a)(hg:W.grownBy W' (some r))(hn:∀b,zO v=some b->b≠r):SZ W' B v a:=by obtain⟨ab,rfl,h1,h2,h3,h4⟩:=h;have bZ:=hn ab rfl;exact⟨ab,rfl,h1,zz008 h2 hg.size,h3,fun j hj=>⟨hg.cell (h4 j hj).1 (by grind),(TZ hg h2 bZ).trans (h4 j hj).2⟩⟩
theorem NA.grown{W W'}{B r}{lv}{L}{AV KV}(h:NA W B lv L AV KV)(hg:W.grownBy W' (some r))(hr:r<B):NA W' B lv L AV KV:=by
 refine⟨yP h.row hg fun b hb=>by have:=Qr h.row hb;omega,h.lenA,h.lenK,fun j d v h1 h2=>?_,fun j d v h1 h2=>?_,h.sepKK,h.sepKL,h.sepAL,h.sepAK⟩;·refine(h.attr j d v h1 h2).grown hg fun b hb=>?_;obtain⟨ab,rfl,h3,_⟩:=h.attr j d v h1 h2;injection hb with hb;grind
 ·exact yP (h.kids j d v h1 h2) hg fun b hb=>by have:=Qr (h.kids j d v h1 h2) hb;omega
theorem GY(rb:Nat)(s:ByteArray)(i:Nat)(lv:Value)(bad er at_ aQ:Int)(w:World)(h:RS w rb s i lv bad er at_ aQ)(hs:s.size<=1099511627776)(hi:i<=s.size)(hb:0<=bad):
 Cw 98 #[Pq rb] w fun e w'=>e=Rw (.tuple #[Iq 0,Iq (sk s i:Int)])/\RS w' rb s (sk s i) lv bad er at_ aQ/\w.grownBy w' (some rb):=by
 have CS:=qH<|skip_any rb s i lv bad er at_ aQ w h hs hi;obtain⟨j,hj⟩:=ag (sk s i);have oe:=fw s i hi;rw[hj]at CS oe⊢;clear h hj;go_enter func98,ntmps98;go_wp2_with fail;refine CS.mono ?_;rintro e w1 ⟨rfl,h1,g1⟩;have HR:=qH<|h1;have HG1:=qH<|g1;have d1:=h1.c1;have jF:¬bad<0:=by omega
 have eb:=decide_eq_false jF;clear h1 g1 CS;go_wp2;clear d1;go_loopw[5,13] (fun v _ wr=>v=Iq 0/\Hid (RS wr rb s j lv bad er at_ aQ)/\Hid (w.grownBy wr (some rb))) (fun _ _ wr=>0);case atStart=>grind
 case round=>
  obtain⟨rfl,HS,HG⟩:=hrel;have hs1:=HS.out;have c0:=hs1.c0;have c1:=hs1.c1;have c3:=hs1.c3;have CF:=qH<|fun W h=>fail_any rb s j lv bad er at_ aQ j W h;have HE:Hid (gH bad (j:Int)=bad):=by show _=_;unfold gH;rw[if_neg (by omega)]
  have u0:(j:Int)-(j:Int)=0:=by omega
  clear hs1;go_wp2_with fail;go_quiet(fail);go_wp2_with fail;refine(CF _ (HS.drewN _)).mono ?_;rintro e w2 ⟨rfl,h2,g2⟩;have H2:Hid (RS w2 rb s j lv bad er at_ aQ):=by have:=h2;rw[HE.out]at this;exact this
  have gX:=qH<|gr_trans (gr_trans HG (aK _ _ _)) g2;clear h2 g2 c0 c1 c3;go_wp2;go_ret2;exact⟨rfl,H2,gX⟩
def wS(s:ByteArray)(i:Nat)(bad:Int):ByteArray:=if bad<0 then s.extract (sk s i) (run aB s (sk s i))else ByteArray.empty
def wI(s:ByteArray)(i:Nat)(bad:Int):Nat:=if bad<0 then run aB s (sk s i)else sk s i
def wB(s:ByteArray)(i:Nat)(bad:Int):Int:=if bad<0 then jV s i bad else bad
def mI(s:ByteArray)(i c:Nat)(bad:Int):Nat:=if bad<0 then aA s i c else sk s i
def mB(s:ByteArray)(i c:Nat)(bad:Int):Int:=if bad<0 then jk s i c bad else bad
def gB(s:ByteArray)(i c:Nat)(bad:Int):Bool:=if bad<0 then aT s i c else false
def nV(s:ByteArray)(i:Nat)(bad:Int):Int:=if bad<0 then dv s (sk s i) (run aW s (sk s i)-sk s i)else 0
def nI(s:ByteArray)(i:Nat)(bad:Int):Nat:=if bad<0 then run aW s (sk s i)else sk s i
def nB(s:ByteArray)(i:Nat)(bad:Int):Int:=if bad<0 then me s (sk s i) (run aW s (sk s i)) bad else bad
theorem JC{s}{i}  bad  (hi:i<=s.size):wI s i bad<=s.size:=by grind[wI,jN,fw]
theorem eU{s}{i c}(hc:c<256)(hi:i<=s.size):aA s i c<=s.size:=by grind[aA,sk,eT,fw]
theorem sJ{s}{i c}  bad  (hc:c<256) (hi:i<=s.size):mI s i c bad<=s.size:=by grind[mI,eU,fw]
theorem zdv{s}{i}  bad  (hi:i<=s.size):nI s i bad<=s.size:=by grind[nI,jN,fw]
theorem Xr  s   i   bad  :0<=nV s i bad/\nV s i bad<=999999:=by
 unfold nV;split;·have h:=uU s (sk s i) (run aW s (sk s i)-sk s i) (fun t ht=>by have:=qA (p:=aW) s (s.size-sk s i) (sk s i) t (by grind[qz,aW,sk,run]);grind[aW]);omega
 ·omega
theorem word_all  rb   s   i   lv   bad er at_ aQ   w  (h:RS w rb s i lv bad er at_ aQ) (hs:s.size<=1099511627776) (hi:i<=s.size):
 Cw 49 #[Pq rb] w fun e w'=>e=Rw (.string (wS s i bad))/\RS w' rb s (wI s i bad) lv (wB s i bad) er at_ aQ/\w.grownBy w' (some rb):=by
 unfold wS wI wB;by_cases hb:bad<0;·rw[if_pos hb,if_pos hb,if_pos hb];exact Rj rb s i lv bad er at_ aQ w h hs hi hb
 ·rw[if_neg hb,if_neg hb,if_neg hb];exact EW rb s i lv bad er at_ aQ w h hs hi (by omega)
theorem qi  rb   s   i   lv   bad er at_ aQ  (c:Nat)  w  (h:RS w rb s i lv bad er at_ aQ) (hs:s.size<=1099511627776) (hi:i<=s.size) (hc:c<256):
 Cw 55 #[Pq rb,.int .u8 (c:Int)] w fun e w'=>e=Rw (.tuple #[])/\RS w' rb s (mI s i c bad) lv (mB s i c bad) er at_ aQ/\w.grownBy w' (some rb):=by
 unfold mI mB;by_cases hb:bad<0;·rw[if_pos hb,if_pos hb];exact DO rb s i lv bad er at_ aQ c w h hs hi hc hb
 ·rw[if_neg hb,if_neg hb];exact Qf rb s i lv bad er at_ aQ c w h hs hi (by omega)
theorem ud  rb   s   i   lv   bad er at_ aQ  (c:Nat)  w  (h:RS w rb s i lv bad er at_ aQ) (hs:s.size<=1099511627776) (hi:i<=s.size) (hc:c<256):
 Cw 97 #[Pq rb,.int .u8 (c:Int)] w fun e w'=>e=Rw (.bool (gB s i c bad))/\RS w' rb s (mI s i c bad) lv bad er at_ aQ/\w.grownBy w' (some rb):=by
 unfold mI gB;by_cases hb:bad<0;·rw[if_pos hb,if_pos hb];exact got_any rb s i lv bad er at_ aQ c w h hs hi hc hb
 ·rw[if_neg hb,if_neg hb];exact got_bad rb s i lv bad er at_ aQ c w h hs hi (by omega)
theorem GW  rb   s   i   lv   bad er at_ aQ   w  (h:RS w rb s i lv bad er at_ aQ) (hs:s.size<=1099511627776) (hi:i<=s.size):
 Cw 98 #[Pq rb] w fun e w'=>e=Rw (.tuple #[Iq (nV s i bad),Iq (sk s i:Int)])/\RS w' rb s (nI s i bad) lv (nB s i bad) er at_ aQ/\w.grownBy w' (some rb):=by
 unfold nV nI nB;by_cases hb:bad<0;·rw[if_pos hb,if_pos hb,if_pos hb];exact GX rb s i lv bad er at_ aQ w h hs hi hb
 ·rw[if_neg hb,if_neg hb,if_neg hb];exact GY rb s i lv bad er at_ aQ w h hs hi (by omega)
structure zbo where
 i:Nat
 bad:Int
 n:Int
 p:Nat
 at_:Nat
 ix:Int
def bF(s:ByteArray)(i:Nat)(bad:Int):zbo:=
 let j:=sk s i
 let i1:=wI s j bad
 let b1:=wB s j bad
 let i2:=mI s i1 61 b1
 let b2:=mB s i1 61 b1
 {i:=nI s i2 b2,bad:=nB s i2 b2,n:=nV s i2 b2,p:=sk s i2,at_:=j,ix:=aR cI (wS s j bad) 0}
structure PR(W:World)(rb:Nat)(s:ByteArray)(i:Nat)(av nv fv:Value):Prop where
 lt:rb<W.heap.size
 c0:W.cell? (az rb 0)=some (.string s)
 c1:W.cell? (az rb 1)=some (Iq (i:Int))
 c2:W.cell? (az rb 2)=some av
 c3:W.cell? (az rb 3)=some nv
 c4:W.cell? (az rb 4)=some fv
 fz:∀j,W.frozen? (az rb j)=false
theorem PR.below{W W'}{rb}{s}{i}{av nv fv}(h:PR W rb s i av nv fv)(hb:Bt W W'):PR W' rb s i av nv fv:=
 have k:∀j v,W.cell? (az rb j)=some v->W'.cell? (az rb j)=some v:=fun j v e=>(hb.cell (p:=(az rb j)) h.lt).trans e
 ⟨zz008 h.lt hb.size,k _ _ h.c0,k _ _ h.c1,k _ _ h.c2,k _ _ h.c3,k _ _ h.c4,fun j=>(hb.frozen (p:=(az rb j)) h.lt).trans (h.fz j)⟩
theorem PR.drewN{W}{rb}{s}{i}{av nv fv}(h:PR W rb s i av nv fv)  n  :PR (W.drewN n) rb s i av nv fv:=
 ⟨h.lt,h.c0,h.c1,h.c2,h.c3,h.c4,h.fz⟩
theorem PR.setI{W}{rb}{s}{i}{av nv fv}(h:PR W rb s i av nv fv)(i':Nat):PR (W.setCell (az rb 1) (Iq (i':Int))) rb s i' av nv fv:=
 ⟨by simpa using h.lt,aL (by omega) h.c0,iQ h.c1,aL (by omega) h.c2,aL (by omega) h.c3,aL (by omega) h.c4,fun j=>by rw[ij];exact h.fz j⟩
def prI(W:World)(rb:Nat):Nat:=match W.cell? (az rb 1)with
 |some (.int _ x)=>x.toNat
 |_=>0
theorem PR.prI{W:World}{rb:Nat}{s:ByteArray}{i:Nat}{av nv fv:Value}(h:PR W rb s i av nv fv):prI W rb=i:=by unfold Go.Proofs.YtiaimhjebnobnaaGreatDoor.prI;rw[h.c1];simp
theorem skipBlanks_any(rb:Nat)(s:ByteArray)(i:Nat)(av nv fv:Value)(w:World)(h:PR w rb s i av nv fv)(hs:s.size<=1099511627776)(hi:i<=s.size):
 Cw 66 #[Pq rb] w fun e w'=>e=Rw (.tuple #[])/\PR w' rb s (sk s i) av nv fv/\w.grownBy w' (some rb):=by
 have HR:=qH<|h;clear h;go_enter func66,ntmps66;go_wp2;go_loopw[2] (fun _ wr=>∃k:Nat,k<=s.size/\Hid (sk s k=sk s i)/\Hid (PR wr rb s k av nv fv)/\Hid (w.grownBy wr (some rb))) (fun _ wr=>s.size-prI wr rb);case atStart=>exact⟨i,hi,rfl,HR,nw _ _⟩
 case round=>
  obtain⟨k,hk,HK,HS,HG⟩:=hrel;have hs1:=HS.out;have c0:=hs1.c0;have c1:=hs1.c1;have f1:=hs1.fz 1;by_cases hlt:k<s.size
  ·have aN:(k:Int)<(s.size:Int):=by omega
   obtain⟨x,hx⟩:=ag (s[k].toNat);have jd:dL s k=x:=by rw[fh hlt,hx]
   by_cases hb:x=32
   ·skip;have HN:=qH<|fun q=>by have:=(HS.drewN q).setI (k+1);rw[show((k+1:Nat):Int)=(k:Int)+1 by omega]at this;exact this
    have mh:Hid (sk s (k+1)=sk s i):=by rw[<-HK.out];exact(jO hlt (by grind[blank])).symm
    have hrd:=HS.prI;have xe:=qH<|hrd;subst hb;clear hs1 HK HS jd hrd;go_wp2_with fail;go_quiet(fail);go_wp2;go_roundw;case rel=>exact⟨k+1,by omega,mh,HN _,gr_trans (gr_trans HG (aK _ _ _)) (ct _ _ _ _)⟩
    case measure=>rw[(HN _).prI,xe.out];omega
   ·by_cases hb2:x=10
    ·skip;have HN:=qH<|fun q=>by have:=(HS.drewN q).setI (k+1);rw[show((k+1:Nat):Int)=(k:Int)+1 by omega]at this;exact this
     have mh:Hid (sk s (k+1)=sk s i):=by rw[<-HK.out];exact(jO hlt (by grind[blank])).symm
     have hrd:=HS.prI;have xe:=qH<|hrd;subst hb2;clear hs1 HK HS jd hrd;go_wp2_with fail;go_quiet(fail);go_wp2;go_roundw;case rel=>exact⟨k+1,by omega,mh,HN _,gr_trans (gr_trans HG (aK _ _ _)) (ct _ _ _ _)⟩
     case measure=>rw[(HN _).prI,xe.out];omega
    ·have HE:Hid (PR wr rb s (sk s i) av nv fv):=by have:sk s k=k:=k_ (by grind[blank]);rw[<-HK.out,this];exact HS
     have e1:((x:Int)==32)=false:=by simp;omega
     have e2:((x:Int)==10)=false:=by simp;omega
     clear hs1 HK HS jd;go_wp2_with fail;go_quiet(fail);go_wp2;go_end0;exact⟨rfl,HE.drewN _,gr_trans HG (aK _ _ _)⟩
  ·have aN:¬(k:Int)<(s.size:Int):=by omega
   have hd:=decide_eq_false aN;have HE:Hid (PR wr rb s (sk s i) av nv fv):=by have:sk s k=k:=AW hlt;rw[<-HK.out,this];exact HS
   clear hs1 HK HS;go_wp2_with fail;go_quiet(fail);go_wp2;go_end0;exact⟨rfl,HE.drewN _,gr_trans HG (aK _ _ _)⟩
theorem n_(rb:Nat)(s:ByteArray)(i:Nat)(av nv fv:Value)(c:Nat)(w:World)(h:PR w rb s i av nv fv)(hs:s.size<=1099511627776)(hi:i<=s.size)(hc:c<256):
 Cw 137 #[Pq rb,.int .u8 (c:Int)] w fun e w'=>e=Rw (.bool (aT s i c))/\PR w' rb s (aA s i c) av nv fv/\w.grownBy w' (some rb):=by
 have CS:=qH<|skipBlanks_any rb s i av nv fv w h hs hi;obtain⟨j,hj⟩:=ag (sk s i);have oe:=fw s i hi;have tm:Hid (aA s i c=if dL s j=c then j+1 else j):=by show _=_;unfold aA;rw[hj]
 have XT:Hid (aT s i c=(dL s j==c)):=by show _=_;unfold aT;rw[hj]
 rw[hj]at CS oe;clear h hj;go_enter func137,ntmps137;go_wp2_with fail;refine CS.mono ?_;rintro e w1 ⟨rfl,h1,g1⟩;have HR:=qH<|h1;have HG:=qH<|g1;have c0:=h1.c0;have c1:=h1.c1;have f1:=h1.fz 1;clear h1 g1 CS;by_cases hlt:j<s.size
 ·have aN:(j:Int)<(s.size:Int):=by omega
  have el:((j:Int)==(s.size:Int))=false:=by simp;omega
  obtain⟨x,hx⟩:=ag (s[j].toNat);have jd:dL s j=x:=by rw[fh hlt,hx]
  by_cases Pu:x=c
  ·have HN:Hid (∀q,PR ((w1.drewN q).setCell (az rb 1) (Iq ((j:Int)+1))) rb s (aA s i c) av nv fv):=fun q=>by rw[tm.out,jd,if_pos Pu];have:=(HR.drewN q).setI (j+1);grind
   have HE:Hid (aT s i c=true):=by show _=_;rw[XT.out,jd];simpa using Pu
   subst Pu;clear jd HR;go_wp2_with fail;go_quiet(fail);go_wp2;go_ret;exact⟨by rw[HE.out];rfl,HN _,gr_trans (gr_trans HG (aK _ _ _)) (ct _ _ _ _)⟩
  ·have HN:Hid (PR w1 rb s (aA s i c) av nv fv):=by rw[tm.out,jd,if_neg Pu];exact HR
   have HE:Hid (aT s i c=false):=by show _=_;rw[XT.out,jd];simpa using Pu
   have ex:((x:Int)!=(c:Int))=true:=by simp;omega
   clear jd HR;go_wp2_with fail;go_quiet(fail);go_wp2;go_ret;exact⟨by rw[HE.out];rfl,HN.drewN _,gr_trans HG (aK _ _ _)⟩
 ·have aN:¬(j:Int)<(s.size:Int):=by omega
  have el:((j:Int)==(s.size:Int))=true:=by simp;omega
  have YX:=eT hlt;have HN:Hid (PR w1 rb s (aA s i c) av nv fv):=by rw[tm.out,YX,if_neg (by omega)];exact HR
  have HE:Hid (aT s i c=false):=by show _=_;rw[XT.out,YX];simp;omega
  clear YX HR;go_wp2_with fail;go_quiet(fail);go_wp2;go_ret;exact⟨by rw[HE.out];rfl,HN.drewN _,gr_trans HG (aK _ _ _)⟩
theorem in1(nb o:Nat)(w:World):Cw 120 #[.pointer (some (az nb o))] w fun e w'=>e=Rw (.pointer (some (az nb (o+1))))/\w'=w:=by go_enter func120,ntmps120;go_wp2;go_ret;simp_all
theorem in2(nb o:Nat)(w:World):Cw 121 #[.pointer (some (az nb o))] w fun e w'=>e=Rw (.pointer (some (az nb (o+2))))/\w'=w:=by go_enter func121,ntmps121;go_wp2;go_ret;simp_all
theorem in3(nb o:Nat)(w:World):Cw 122 #[.pointer (some (az nb o))] w fun e w'=>e=Rw (.pointer (some (az nb (o+3))))/\w'=w:=by go_enter func122,ntmps122;go_wp2;go_ret;simp_all
theorem in4(nb o:Nat)(w:World):Cw 123 #[.pointer (some (az nb o))] w fun e w'=>e=Rw (.pointer (some (az nb (o+4))))/\w'=w:=by go_enter func123,ntmps123;go_wp2;go_ret;simp_all
theorem in5(nb o:Nat)(w:World):Cw 124 #[.pointer (some (az nb o))] w fun e w'=>e=Rw (.pointer (some (az nb (o+5))))/\w'=w:=by go_enter func124,ntmps124;go_wp2;go_ret;simp_all
theorem in6(nb o:Nat)(w:World):Cw 125 #[.pointer (some (az nb o))] w fun e w'=>e=Rw (.pointer (some (az nb (o+6))))/\w'=w:=by go_enter func125,ntmps125;go_wp2;go_ret;exact⟨rfl,rfl⟩
theorem in7(nb o:Nat)(w:World):Cw 126 #[.pointer (some (az nb o))] w fun e w'=>e=Rw (.pointer (some (az nb (o+7))))/\w'=w:=by go_enter func126,ntmps126;go_wp2;go_ret;exact⟨rfl,rfl⟩
theorem in8(nb o:Nat)(w:World):Cw 127 #[.pointer (some (az nb o))] w fun e w'=>e=Rw (.pointer (some (az nb (o+8))))/\w'=w:=by go_enter func127,ntmps127;go_wp2;go_ret;simp_all
theorem in9(nb o:Nat)(w:World):Cw 128 #[.pointer (some (az nb o))] w fun e w'=>e=Rw (.pointer (some (az nb (o+9))))/\w'=w:=by go_enter func128,ntmps128;go_wp2;go_ret;simp_all
theorem zi6(nb o:Nat)(w:World):Cw 129 #[.pointer (some (az nb o))] w fun e w'=>e=Rw (.pointer (some (az nb (o+10))))/\w'=w:=by go_enter func129,ntmps129;go_wp2;go_ret;simp_all
theorem zi7(nb o:Nat)(w:World):Cw 130 #[.pointer (some (az nb o))] w fun e w'=>e=Rw (.pointer (some (az nb (o+11))))/\w'=w:=by go_enter func130,ntmps130;go_wp2;go_ret;simp_all
theorem zi8(nb o:Nat)(w:World):Cw 131 #[.pointer (some (az nb o))] w fun e w'=>e=Rw (.pointer (some (az nb (o+12))))/\w'=w:=by go_enter func131,ntmps131;go_wp2;go_ret;simp_all
def kK:Array Value:=#[
 .string ⟨#[105,100]⟩,.int .u64 127,Iq 999999,Iq 0,.bool true,.func (.func 120) #[] #[],
 .string ⟨#[109,105,110]⟩,.int .u64 127,Iq 100000,Iq 0,.bool false,.func (.func 121) #[] #[],
 .string ⟨#[109,97,120]⟩,.int .u64 127,Iq 100000,Iq (-1),.bool false,.func (.func 122) #[] #[],
 .string ⟨#[119,101,105,103,104,116]⟩,.int .u64 127,Iq 100000,Iq 1,.bool false,.func (.func 123) #[] #[],
 .string ⟨#[103,97,112]⟩,.int .u64 3,Iq 100,Iq 0,.bool false,.func (.func 124) #[] #[],
 .string ⟨#[112,97,100]⟩,.int .u64 8,Iq 20,Iq 0,.bool false,.func (.func 125) #[] #[],
 .string ⟨#[98,111,114,100,101,114]⟩,.int .u64 8,Iq 1,Iq 1,.bool false,.func (.func 126) #[] #[],
 .string ⟨#[97,108,105,103,110]⟩,.int .u64 32,Iq 2,Iq 0,.bool false,.func (.func 127) #[] #[],
 .string ⟨#[119,114,97,112]⟩,.int .u64 32,Iq 1,Iq 1,.bool false,.func (.func 128) #[] #[],
 .string ⟨#[102,103]⟩,.int .u64 127,Iq 8,Iq 0,.bool false,.func (.func 129) #[] #[],
 .string ⟨#[98,103]⟩,.int .u64 127,Iq 8,Iq 0,.bool false,.func (.func 130) #[] #[],
 .string ⟨#[98,111,108,100]⟩,.int .u64 127,Iq 1,Iq 0,.bool false,.func (.func 131) #[] #[]]
theorem uG(w:World):Cw 64 #[] w fun e w'=>e=Rw (Sq w.heap.size 12 12)/\w'=w.alloc (.cells kK 203):=by go_enter func64,ntmps64;go_wp2;go_ret;exact⟨rfl,rfl⟩
def bH(eb:Addr):Value:=.iface 362 (.pointer (some eb))
def dw(iX:Int)(ev:Value):Value:=.iface 132 (.agg #[Iq iX,ev])
theorem gM(iX:Int)(w:World)(eb:Addr)(he:w.cell? (az 7 0)=some (bH eb)):
 Cw 67 #[Iq iX] w fun e w'=>e=Rw (dw iX (bH eb))/\w'=w:=by have he':w.cell? (az 7 0)=some (.iface 362 (.pointer (some eb))):=he;clear he;go_enter func67,ntmps67;go_wp2;go_ret;exact⟨rfl,rfl⟩
theorem jB(rb:Nat)(s:ByteArray)(i:Nat)(av nv fv:Value)(c:Nat)(w:World)(h:PR w rb s i av nv fv)(hs:s.size<=1099511627776)(hi:i<=s.size)(hc:c<256)(b9:aT s i c=true):
 Cw 140 #[Pq rb,.int .u8 (c:Int)] w fun e w'=>e=Rw (.tuple #[])/\PR w' rb s (aA s i c) av nv fv/\w.grownBy w' (some rb):=by
 have CT:Hid (Cw 137 #[Pq rb,.int .u8 (c:Int)] w fun e w'=>e=Rw (.bool true)/\PR w' rb s (aA s i c) av nv fv/\w.grownBy w' (some rb)):=by have:=n_ rb s i av nv fv c w h hs hi hc;rw[b9]at this;exact this
 clear h b9;go_enter func140,ntmps140;go_wp2_with fail;refine CT.mono ?_;rintro e w1 ⟨rfl,h1,g1⟩;have HR:=qH<|h1;have HG:=qH<|g1;clear h1 g1 CT;go_wp2;go_end0;exact⟨rfl,HR,HG⟩
theorem kO(rb:Nat)(s:ByteArray)(i:Nat)(av nv fv:Value)(eb:Addr)(c:Nat)(w:World)(h:PR w rb s i av nv fv)(hs:s.size<=1099511627776)(hi:i<=s.size)(hc:c<256)(b9:aT s i c=false)(hg:7≠rb)(he:w.cell? (az 7 0)=some (bH eb)):
 Cw 140 #[Pq rb,.int .u8 (c:Int)] w fun e w'=>e=.panicked [{v:=dw (sk s i:Int) (bH eb),recovered:=false}]/\w.grownBy w' (some rb):=by
 have CT:Hid (Cw 137 #[Pq rb,.int .u8 (c:Int)] w fun e w'=>e=Rw (.bool false)/\PR w' rb s (sk s i) av nv fv/\w.grownBy w' (some rb)):=by
  have:=n_ rb s i av nv fv c w h hs hi hc;have e2:aA s i c=sk s i:=by unfold aA;unfold aT at b9;rw[if_neg (by grind)]
  rw[b9,e2]at this;exact this
 have HN:Hid (∀w,w.cell? (az 7 0)=some (bH eb)->Cw 67 #[Iq (sk s i:Int)] w fun e w'=>e=Rw (.iface 132 (.agg #[Iq (sk s i:Int),.iface 362 (.pointer (some eb))]))/\w'=w):=fun w he=>gM _ w eb he;have HE:=qH<|he;obtain⟨j,hj⟩:=ag (sk s i);rw[hj]at CT HN⊢;clear h b9 he hj;go_enter func140,ntmps140;go_wp2_with fail;refine CT.mono ?_;rintro e w1 ⟨rfl,h1,g1⟩;have HG:=qH<|g1;have c1:=h1.c1;have HE1:=qH<|g1.cell HE (by grind);clear h1 g1 CT;go_wp2_with fail;refine(HN _ HE1).mono ?_;rintro e w2 ⟨rfl,hw⟩;obtain rfl:=hw.symm;go_wp2;exact⟨rfl,rfl,HG⟩
theorem Gy(ws:List ByteArray)(x:ByteArray)(blk off cap n:Nat)(w:World)(hb:blk<w.heap.size)(hc:∀j,j<ws.length->w.cell? (az blk (off+j))=some (.string (ws[j]?.getD ByteArray.empty)))(hn:ws.length=n)(Ld:n<=1099511627776):
 Cw 246 #[.slice (some (az blk off)) n cap,.string x] w fun e w'=>e=Rw (Iq (aR ws x 0))/\w'=w:=by
 have HC:=qH<|hc;have HN:=qH<|hn;clear hc hn;go_enter func246,ntmps246;go_wp2;go_loop[8] (fun i=>∃k:Nat,k<=n/\i=Iq k/\Hid (aR ws x 0=aR (ws.drop k) x k)) (fun i=>n-(intOf i).toNat);case atStart=>exact⟨0,aZ _,rfl,by show _=_;grind⟩
 case round=>
  obtain⟨k,hk,rfl,HF⟩:=hrel;by_cases hlt:k<n
  ·have aN:(k:Int)<(n:Int):=by omega
   have K_:k<ws.length:=by rw[HN.out];exact hlt
   have lQ:=HC k K_;obtain⟨y,hy⟩:=ag (ws[k]?.getD ByteArray.empty);rw[hy]at lQ;have Dh:ws.drop k=y::ws.drop (k+1):=by rw[<-hy,eR K_];exact wY K_
   have HF2:Hid (aR ws x 0=if y=x then(k:Int)else aR (ws.drop (k+1)) x (k+1)):=by show _=_;rw[HF.out,Dh];rfl
   clear Dh hy HF K_;by_cases e:y=x
   ·have HE:Hid (aR ws x 0=(k:Int)):=by show _=_;rw[HF2.out,if_pos e]
    subst e;clear HF2;go_wp2;go_ret;exact⟨by rw[HE.out];rfl,rfl⟩
   ·have HE:Hid (aR ws x 0=aR (ws.drop (k+1)) x (k+1)):=by show _=_;rw[HF2.out,if_neg e]
    have e1:=Bd (fun h=>e h.symm);clear HF2;go_wp2;go_round;case rel=>grind
    case measure=>simp[intOf];omega
  ·have aN:¬(k:Int)<(n:Int):=by omega
   have HE:Hid (aR ws x 0=-1):=by show _=_;rw[HF.out,zg (by rw[HN.out];omega)];rfl
   clear HF;go_wp2;go_ret;exact⟨by rw[HE.out];rfl,rfl⟩
theorem Gx(x:ByteArray)(p:Option Addr)(cap:Nat)(w:World):
 Cw 246 #[.slice p 0 cap,.string x] w fun e w'=>e=Rw (Iq (-1))/\w'=w:=by
 go_enter func246,ntmps246;go_wp2;go_loop[8] (fun i=>i=Iq 0) (fun i=>0);case atStart=>rfl
 case round=>subst hrel;go_wp2;go_ret;simp_all
def uz(W:World)(v:Value)(ws:List ByteArray):Prop:=∃p c,v=.slice p ws.length c/\(ws=[]\/∃blk,p=some (az blk 0)/\blk<W.heap.size/\∀j,j<ws.length->W.cell? (az blk (0+j))=some (.string (ws[j]?.getD ByteArray.empty)))
theorem index_any  ws   x   v   w  (h:uz w v ws) (hn:ws.length<=1099511627776):
 Cw 246 #[v,.string x] w fun e w'=>e=Rw (Iq (aR ws x 0))/\w'=w:=by
 obtain⟨p,c,rfl,rfl|⟨blk,rfl,hb,hc⟩⟩:=h;·exact Gx x p c w
 ·exact Gy ws x blk 0 c _ w hb hc rfl hn
theorem contains_any(ws:List ByteArray)(x:ByteArray)(v:Value)(w:World)(h:uz w v ws)(hn:ws.length<=1099511627776):
 Cw 230 #[v,.string x] w fun e w'=>e=Rw (.bool (decide (0<=aR ws x 0)))/\w'=w:=by have CI:=qH<|index_any ws x v w h hn;obtain⟨p,c,rfl,_⟩:=h;obtain⟨r,hr⟩:=ag (aR ws x 0);rw[hr]at CI⊢;clear hr;go_enter func230,ntmps230;go_wp2_with fail;refine CI.mono ?_;rintro e w1 ⟨rfl,hw⟩;obtain rfl:=hw.symm;go_wp2;go_ret;simp_all
def ofK(m k:Nat):Bool:=(m/2^k) %2==1
theorem PJ(n:ByteArray)(m k:Nat)(mo wi:Int)(sg:Bool)(fv:Value)(w:World)(hm:m=127\/m=3\/m=8\/m=32)(hk:k<7):
 Cw 229 #[.agg #[.string n,.int .u64 (m:Int),Iq mo,Iq wi,.bool sg,fv],Iq (k:Int)] w fun e w'=>e=Rw (.bool (ofK m k))/\Bt w w':=by
 have hc:k=0\/k=1\/k=2\/k=3\/k=4\/k=5\/k=6:=by omega
 have hb:=fun o=>(aj _ w).alloc (ai _) o;have HB:=qH<|hb;clear hk hb;rcases hm with rfl|rfl|rfl|rfl<;>rcases hc with rfl|rfl|rfl|rfl|rfl|rfl|rfl;all_goals go_enter func229,ntmps229;go_wp2;go_ret;exact⟨by rfl,HB _⟩
theorem PR.setF{W}{rb}{s}{i}{av nv fv}(h:PR W rb s i av nv fv)  fv'  :PR (W.setCell (az rb 4) fv') rb s i av nv fv':=
 ⟨by simpa using h.lt,aL (by omega) h.c0,aL (by omega) h.c1,aL (by omega) h.c2,aL (by omega) h.c3,iQ h.c4,fun j=>by rw[ij];exact h.fz j⟩
theorem PQ(rb:Nat)(s:ByteArray)(i:Nat)(av nv fv:Value)(iX:Int)(w:World)(h:PR w rb s i av nv fv):
 Cw 134 #[Pq rb,.nilIface,Iq iX] w fun e w'=>e=Rw (.tuple #[])/\PR w' rb s i av nv fv/\w.grownBy w' (some rb):=by have HR:=qH<|h;go_enter func134,ntmps134;go_wp2;go_end0;grind[nw]
theorem GK(rb:Nat)(s:ByteArray)(i:Nat)(av nv:Value)(eb:Addr)(iX:Int)(w:World)(h:PR w rb s i av nv .nilIface):
 Cw 134 #[Pq rb,bH eb,Iq iX] w fun e w'=>e=Rw (.tuple #[])/\PR w' rb s i av nv (dw iX (bH eb))/\w.grownBy w' (some rb):=by have c4:=h.c4;have f4:=h.fz 4;have HN:Hid (PR (w.setCell (az rb 4) (dw iX (bH eb))) rb s i av nv (dw iX (bH eb))):=h.setF _;show Cw 134 #[Pq rb,.iface 362 (.pointer (some eb)),Iq iX] w _;go_enter func134,ntmps134;go_wp2;go_end0;exact⟨rfl,HN,ct _ _ _ _⟩
theorem GL(rb:Nat)(s:ByteArray)(i:Nat)(av nv:Value)(eb eb2:Addr)(iX Hc:Int)(w:World)(h:PR w rb s i av nv (dw Hc (bH eb2))):
 Cw 134 #[Pq rb,bH eb,Iq iX] w fun e w'=>e=Rw (.tuple #[])/\PR w' rb s i av nv (dw Hc (bH eb2))/\w.grownBy w' (some rb):=by have HR:=qH<|h;have c4:w.cell? (az rb 4)=some (.iface 132 (.agg #[Iq Hc,.iface 362 (.pointer (some eb2))])):=h.c4;show Cw 134 #[Pq rb,.iface 362 (.pointer (some eb)),Iq iX] w _;go_enter func134,ntmps134;go_wp2;go_end0;grind[nw]
def qv(n af:Nat)(m d:Addr):Value:=if 100<=n then bH m else if 12<=af then bH d else .nilIface
theorem Er(rb:Nat)(s:ByteArray)(i:Nat)(av fv:Value)(p:Option Addr)(n cp af:Nat)(m d:Addr)(w:World)(h:PR w rb s i av (.slice p n cp) fv)
 (hm:w.cell? (az 1 0)=some (bH m)) (hd:w.cell? (az 2 0)=some (bH d)):
 Cw 135 #[Pq rb,Iq (af:Int)] w fun e w'=>e=Rw (qv n af m d)/\w'=w:=by
 have c3:=h.c3;have em:w.cell? (az 1 0)=some (.iface 362 (.pointer (some m))):=hm;by_cases h1:100<=n
 ·have xE:(100:Int)<=(n:Int):=by omega
  have HV:Hid (qv n af m d=.iface 362 (.pointer (some m))):=by show _=_;unfold qv;rw[if_pos h1];rfl
  go_enter func135,ntmps135;go_wp2;go_ret;exact⟨by rw[HV.out];rfl,rfl⟩
 ·have xE:¬(100:Int)<=(n:Int):=by omega
  by_cases h2:12<=af
  ·have ue:(12:Int)<=(af:Int):=by omega
   have HV:Hid (qv n af m d=.iface 362 (.pointer (some d))):=by show _=_;unfold qv;rw[if_neg h1,if_pos h2];rfl
   go_enter func135,ntmps135;go_wp2;go_ret;exact⟨by rw[HV.out];rfl,rfl⟩
  ·have ue:¬(12:Int)<=(af:Int):=by omega
   have HV:Hid (qv n af m d=.nilIface):=by show _=_;unfold qv;rw[if_neg h1,if_neg h2]
   go_enter func135,ntmps135;go_wp2;go_ret;exact⟨by rw[HV.out];rfl,rfl⟩
def oD(i:Int):Value:=if i<0 then .tuple #[Iq 0,.bool false]else .tuple #[Iq i,.bool true]
theorem Lv(t:ByteArray)(w:World)(n0 n1 n2 n3 n4 n5 n6:ByteArray)
 (h0:w.cell? (az 8 0)=some (.string n0))
 (h1:w.cell? (az 8 1)=some (.string n1))
 (h2:w.cell? (az 8 2)=some (.string n2))
 (h3:w.cell? (az 8 3)=some (.string n3))
 (h4:w.cell? (az 8 4)=some (.string n4))
 (h5:w.cell? (az 8 5)=some (.string n5))
 (h6:w.cell? (az 8 6)=some (.string n6)):
 Cw 133 #[.string t] w fun e w'=>e=Rw (oD (aR [n0,n1,n2,n3,n4,n5,n6] t 0))/\w'=w:=by
 have IX:∀k:Nat,k<7->∃n,aR ([n0,n1,n2,n3,n4,n5,n6].drop k) t k=(if n=t then(k:Int)else aR ([n0,n1,n2,n3,n4,n5,n6].drop (k+1)) t (k+1))/\∀w,(Instr.index 270 (.agg #[.string n0,.string n1,.string n2,.string n3,.string n4,.string n5,.string n6]) (Iq k)).run prog w=.ok (.string n) w:=fun k hk=>by
  have hc:k=0\/k=1\/k=2\/k=3\/k=4\/k=5\/k=6:=by omega
  rcases hc with rfl|rfl|rfl|rfl|rfl|rfl|rfl<;>exact⟨_,rfl,fun _=>by kernel_rfl⟩
 have IX:=qH IX;go_enter func133,ntmps133;go_wp2;clear h0 h1 h2 h3 h4 h5 h6;go_loop[7] (fun i=>∃k:Nat,k<=7/\i=Iq k/\Hid (aR [n0,n1,n2,n3,n4,n5,n6] t 0=aR ([n0,n1,n2,n3,n4,n5,n6].drop k) t k)) (fun i=>7-(intOf i).toNat);case atStart=>grind
 case round=>
  obtain⟨k,hk,rfl,HF⟩:=hrel;by_cases hlt:k<7
  ·have aN:(k:Int)<7:=by omega
   obtain⟨n,hn,Dl⟩:=IX k hlt;have HN:=qH hn;clear hn;by_cases e:n=t
   ·have HE:Hid (oD (aR [n0,n1,n2,n3,n4,n5,n6] t 0)=.tuple #[Iq k,.bool true]):=by show _=_;rw[HF.out,HN.out,if_pos e];unfold oD;rw[if_neg (by omega)]
    subst e;clear HF;go_wp2;go_ret2;exact⟨by rw[HE.out];rfl,rfl⟩
   ·have HE:Hid (aR [n0,n1,n2,n3,n4,n5,n6] t 0=aR ([n0,n1,n2,n3,n4,n5,n6].drop (k+1)) t (k+1)):=by show _=_;rw[HF.out,HN.out,if_neg e]
    have e1:=Bd e;clear HF;go_wp2;go_round;case rel=>grind
    case measure=>simp[intOf];omega
  ·have aN:¬(k:Int)<7:=by omega
   obtain rfl:k=7:=by omega
   have HE:Hid (oD (aR [n0,n1,n2,n3,n4,n5,n6] t 0)=.tuple #[Iq 0,.bool false]):=by show _=_;rw[HF.out];simp[aR,oD]
   clear HF;go_wp2;go_ret2;exact⟨by rw[HE.out];rfl,rfl⟩
def FL(er at_:Int)(f:gW)(i:Nat):Prop:=match f with
 |none=>at_<0
 |some (c,p)=>er=c/\at_=p/\p<=i
theorem FL.on{er at_}{f}{i j}(h:FL er at_ f i)(IY:i<=j):FL er at_ f j:=by
 cases f with
 |none=>exact h
 |some x=>obtain⟨c,p⟩:=x;exact⟨h.1,h.2.1,aO h.2.2 IY⟩
theorem FL.add{er at_}{f}{i}(h:FL er at_ f i)(c p:Nat)(hp:i<=p):FL (MZ er at_ c p) (MY at_ p) (jn f c p) p:=by
 cases f with
 |none=>have h':at_<0:=h;unfold MZ MY;rw[if_pos (.inl h'),if_pos (.inl h')];exact⟨rfl,rfl,ai _⟩
 |some x=>
  obtain⟨c',p'⟩:=x;obtain⟨h1,h2,h3⟩:=h;have hn:¬(at_<0\/(p:Int)<at_):=by omega
  unfold MZ MY;rw[if_neg hn,if_neg hn];exact⟨h1,h2,aO h3 hp⟩
def fa(kind:Nat)(L:List Nd)(er:gW)(a:List Int)(seen:List Nat)(st:zbo):gW×List Int×List Nat:=
 if st.ix<0\/iu kind st.ix.toNat=false then(jn er 7 st.at_,a,seen)
 else(bS (decide (st.ix=0/\0<st.n)&&fI L st.n) (bS (decide (jH[st.ix.toNat]?.getD 0<st.n)) (bS (seen.contains st.ix.toNat) er 5 st.at_) 6 st.p) 5 st.p,a.set st.ix.toNat st.n,st.ix.toNat::seen)
theorem lL  s   i   bad  :i<=(bF s i bad).at_/\(bF s i bad).at_<=(bF s i bad).p/\(bF s i bad).p<=(bF s i bad).i:=by
 have h1:=dX s i;have w1:sk s i<=wI s (sk s i) bad:=by unfold wI;split;exact aO (dX s (sk s i)) (jM _ _ _);exact dX _ _
 have m1:wI s (sk s i) bad<=mI s (wI s (sk s i) bad) 61 (wB s (sk s i) bad):=by
  unfold mI;split;·grind[aA,dX,wI,sk]
  ·exact dX _ _
 grind[sk,mI,wI,wB,nI,mB,jM,dX,bF]
theorem wK  s   i   bad  (hi:i<=s.size):(bF s i bad).i<=s.size:=by grind[bF,zdv,sJ,JC,fw]
theorem QX  s   i   bad  :(bF s i bad).ix=-1\/(0<=(bF s i bad).ix/\(bF s i bad).ix<12):=by have:=kP (wS s (sk s i) bad) cI 0;have hl:cI.length=12:=rfl;grind[bF]
theorem VI  s   i   bad  :0<=(bF s i bad).n/\(bF s i bad).n<=999999:=Xr s _ _
theorem oO  s   kind   L   i   er   a   seen   bad  (hb:bad<0):
 ((bF s i bad).bad=bad/\jx s kind L i er a seen=.ok ((bF s i bad).i,fa kind L er a seen (bF s i bad)))
 \/(0<=(bF s i bad).bad/\jx s kind L i er a seen=.error (bF s i bad).bad.toNat):=by
 unfold jx;simp only;have e0:=m8 s i;have hw:wI s (sk s i) bad=run aB s (sk s i):=by unfold wI;rw[if_pos hb,e0]
 by_cases h1:run aB s (sk s i)=sk s i;·grind[wB,sk,jV,bF,mB,wI,nB]
 ·have hB:wB s (sk s i) bad=bad:=by unfold wB;rw[if_pos hb];unfold jV;rw[e0,if_neg h1]
  rw[if_neg h1];by_cases h2:aT s (run aB s (sk s i)) 61=true
  ·have hm:mB s (run aB s (sk s i)) 61 bad=bad:=by unfold mB;rw[if_pos hb];unfold jk;rw[if_pos h2]
   have Lb:mI s (run aB s (sk s i)) 61 bad=aA s (run aB s (sk s i)) 61:=by unfold mI;rw[if_pos hb]
   have hmr:dd s (run aB s (sk s i)) 61=.ok (aA s (run aB s (sk s i)) 61):=by unfold dd;rw[if_pos h2]
   rw[hmr];simp only;have hs:bF s i bad={i:=run aW s (sk s (aA s (run aB s (sk s i)) 61)),bad:=me s (sk s (aA s (run aB s (sk s i)) 61)) (run aW s (sk s (aA s (run aB s (sk s i)) 61))) bad,n:=dv s (sk s (aA s (run aB s (sk s i)) 61)) (run aW s (sk s (aA s (run aB s (sk s i)) 61))-sk s (aA s (run aB s (sk s i)) 61)),p:=sk s (aA s (run aB s (sk s i)) 61),at_:=sk s i,ix:=aR cI (s.extract (sk s i) (run aB s (sk s i))) 0}:=by
    unfold bF;simp only;rw[hw,hB,hm,Lb];have a1:nI s (aA s (run aB s (sk s i)) 61) bad=run aW s (sk s (aA s (run aB s (sk s i)) 61)):=by unfold nI;rw[if_pos hb]
    have a2:nB s (aA s (run aB s (sk s i)) 61) bad=me s (sk s (aA s (run aB s (sk s i)) 61)) (run aW s (sk s (aA s (run aB s (sk s i)) 61))) bad:=by unfold nB;rw[if_pos hb]
    have a3:nV s (aA s (run aB s (sk s i)) 61) bad=dv s (sk s (aA s (run aB s (sk s i)) 61)) (run aW s (sk s (aA s (run aB s (sk s i)) 61))-sk s (aA s (run aB s (sk s i)) 61)):=by unfold nV;rw[if_pos hb]
    have a4:wS s (sk s i) bad=s.extract (sk s i) (run aB s (sk s i)):=by unfold wS;rw[if_pos hb,e0]
    rw[a1,a2,a3,a4]
   generalize sk s (aA s (run aB s (sk s i)) 61)=j at hs⊢;generalize run aW s j=e at hs⊢;by_cases h3:lG s j e=true;all_goals grind[bF,me,lG,fa]
  grind[aT,run,aB,sk,mB,jk,dd,bF,nB]
theorem oP{s}{kind}{L}{f i}{er}{a}{seen}{b}(h:jx s kind L i er a seen=.error b):d_ s kind L (f+1) i er a seen=.error b:=by rw[d_,h]
theorem my{s}{kind}{L}{f i i2}{er fd}{a a2}{seen qC}(h:jx s kind L i er a seen=.ok (i2,fd,a2,qC))(hm:aT s i2 59=true):d_ s kind L (f+1) i er a seen=d_ s kind L f (aA s i2 59) fd a2 qC:=by grind[d_]
def mG(s:ByteArray)(i:Nat)(er:gW)(a:List Int):Except Nat (Nat×gW×List Int):=match dd s i 125 with
 |.error b=>.error b
 |.ok i3=>.ok (i3,er,a)
theorem mw{s}{kind}{L}{f i i2}{er fd}{a a2}{seen qC}(h:jx s kind L i er a seen=.ok (i2,fd,a2,qC))(hm:¬aT s i2 59=true):d_ s kind L (f+1) i er a seen=mG s i2 fd a2:=by rw[d_,h];simp only;rw[if_neg hm];rfl
theorem I_  s   i c  :aT s (sk s i) c=aT s i c:=by unfold aT;rw[m8]
theorem IL  s   i c  :aA s (sk s i) c=aA s i c:=by unfold aA;rw[m8]
theorem Kk  s   i   er   a  :mG s (sk s i) er a=mG s i er a:=by grind[mG,dd,I_,IL,m8]
