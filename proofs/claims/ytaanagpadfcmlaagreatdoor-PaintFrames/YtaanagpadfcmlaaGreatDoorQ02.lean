import Derived.Test.YtaanagpadfcmlaaGreatDoorQ00
import Derived.Test.YtaanagpadfcmlaaGreatDoorProg
import Derived.WalkSpells
import Derived.WalkLawsBesides
import Derived.BigQuiet
set_option linter.all false
set_option maxRecDepth 100000
set_option maxHeartbeats 16000000
namespace Go.Proofs.YtaanagpadfcmlaaGreatDoor
open Go.RowKit Go.Proofs.Tryz
def dh(s:ByteArray)(i:Nat):Nat:=if h:i<s.size then s[i].toNat else 256
theorem dT{s}{i}(h:i<s.size):dh s i=s[i].toNat:=by grind[dh]
theorem dJ{s}{i}(h:¬i<s.size):dh s i=256:=by grind[dh]
theorem uQ{s}{i}(h:i<s.size):dh s i<256:=by rw[dT h];exact UInt8.toNat_lt _
def nt(p:Nat->Bool)(s:ByteArray):Nat->Nat->Nat
 |0,i=>i
 |f+1,i=>if p (dh s i)then nt p s f (i+1)else i
def run(p:Nat->Bool)(s:ByteArray)(i:Nat):Nat:=nt p s (s.size-i) i
theorem ia{p}{s}{i}(hi:i<s.size)(h:p (dh s i)=true):run p s i=run p s (i+1):=by unfold run;obtain⟨f,a⟩:∃f,s.size-i=f+1:=⟨s.size-i-1,dg⟩;rw[a,nt,if_pos h,show s.size-(i+1)=f by omega]
theorem ja{p}{s}{i}(h:p (dh s i)=false):run p s i=i:=by
 unfold run;match s.size-i with
 |0=>rfl
 |f+1=>rw[nt,h];rfl
theorem vD{p}{s}{i}(h:¬i<s.size):run p s i=i:=by unfold run;rw[show s.size-i=0 by omega];rfl
theorem vC p s:∀f i,i<=nt p s f i/\nt p s f i<=i+f
 |0,i=>⟨ae _,ae _⟩
 |f+1,i=>by have:=vC p s f (i+1);grind[nt]
theorem g_ p s i:i<=run p s i:=(vC p s _ i).1
theorem h_ p s i(hi:i<=s.size):run p s i<=s.size:=by grind[vC,run]
theorem yF(p:Nat->Bool)(hp:p 256=false)s:∀f i,s.size-i<=f->p (dh s (nt p s f i))=false
 |0,i,h=>by grind[nt,dJ]
 |f+1,i,h=>by
  rw[nt];by_cases c:p (dh s i)=true;·rw[if_pos c];exact yF p hp s f (i+1) dg
  grind
theorem Mw{p:Nat->Bool}(hp:p 256=false)s i:p (dh s (run p s i))=false:=yF p hp s _ i (ae _)
def blank(x:Nat):Bool:=x==32||x==10
def ao(x:Nat):Bool:=decide (97<=x)&&decide (x<=122)
def aP(x:Nat):Bool:=decide (48<=x)&&decide (x<=57)
def sk(s:ByteArray)(i:Nat):Nat:=run blank s i
theorem du s i:i<=sk s i:=g_ _ _ _
theorem dX s i(h:i<=s.size):sk s i<=s.size:=h_ _ _ _ h
theorem kF s i:sk s (sk s i)=sk s i:=ja (Mw (by rfl) s i)
structure RS(W:World)(rb:Nat)(s:ByteArray)(i:Nat)(lv:Value)(bad er at_ cO:Int):Prop where
 lt:rb<W.heap.size
 c0:W.cell? (aj rb 0)=some (.string s)
 c1:W.cell? (aj rb 1)=some (Iq (i:Int))
 c2:W.cell? (aj rb 2)=some lv
 c3:W.cell? (aj rb 3)=some (Iq bad)
 c4:W.cell? (aj rb 4)=some (Iq er)
 c5:W.cell? (aj rb 5)=some (Iq at_)
 c6:W.cell? (aj rb 6)=some (Iq cO)
 fz:∀j,W.frozen? (aj rb j)=false
theorem RS.below{W W'}{a}{s}{i}{g}{b f at_ c}(h:RS W a s i g b f at_ c)(d:Bt W W'):RS W' a s i g b f at_ c:=
 have k:∀j v,W.cell? (aj a j)=some v->W'.cell? (aj a j)=some v:=λj v e=>(d.cell (p:=(aj a j)) h.lt).trans e
 ⟨zz007 h.lt d.size,k _ _ h.c0,k _ _ h.c1,k _ _ h.c2,k _ _ h.c3,k _ _ h.c4,k _ _ h.c5,k _ _ h.c6,λj=>(d.frozen (p:=(aj a j)) h.lt).trans (h.fz j)⟩
theorem RS.drewN{W}{e}{s}{i}{d}{a c at_ b}(h:RS W e s i d a c at_ b)n:RS (W.drewN n) e s i d a c at_ b:=
 ⟨h.lt,h.c0,h.c1,h.c2,h.c3,h.c4,h.c5,h.c6,h.fz⟩
theorem aE{W:World}{a j k}{v u}(b:j≠k)(h:W.cell? (aj a j)=some u):(W.setCell (aj a k) v).cell? (aj a j)=some u:=by rw[c_ _ _ _ _ (λe=>b rd)];exact h
theorem gh{W:World}{a k}{v u}(h:W.cell? (aj a k)=some u):(W.setCell (aj a k) v).cell? (aj a k)=some v:=
 lP _ _ _ rd
theorem RS.setI{W}{c}{s}{i}{f}{a d at_ b}(h:RS W c s i f a d at_ b)(e:Nat):RS (W.setCell (aj c 1) (Iq (e:Int))) c s e f a d at_ b:=
 ⟨by simpa using h.lt,aE dg h.c0,gh h.c1,aE dg h.c2,aE dg h.c3,aE dg h.c4,aE dg h.c5,aE dg h.c6,λj=>by rw[fI];exact h.fz j⟩
theorem RS.setBad{W}{d}{s}{i}{f}{c e at_ a}(h:RS W d s i f c e at_ a)b:RS (W.setCell (aj d 3) (Iq b)) d s i f b e at_ a:=
 ⟨by simpa using h.lt,aE dg h.c0,aE dg h.c1,aE dg h.c2,gh h.c3,aE dg h.c4,aE dg h.c5,aE dg h.c6,λj=>by rw[fI];exact h.fz j⟩
theorem RS.setErr{W}{e}{s}{i}{f}{a g at_ d}(h:RS W e s i f a g at_ d)b c:RS ((W.setCell (aj e 4) (Iq b)).setCell (aj e 5) (Iq c)) e s i f a b c d:=
 ⟨by simpa using h.lt,aE dg (aE dg h.c0),aE dg (aE dg h.c1),aE dg (aE dg h.c2),aE dg (aE dg h.c3),aE dg (gh h.c4),gh (aE dg h.c5),aE dg (aE dg h.c6),λj=>by rw[fI,fI];exact h.fz j⟩
theorem kW(W:World)b:W.grownBy W (some b):=⟨rfl,rfl,rfl,ae _,λ_ _ _=>rfl⟩
theorem gr_trans{A B C:World}{b}(h:A.grownBy B (some b))(k:B.grownBy C (some b)):A.grownBy C (some b):=
 ⟨k.os.trans h.os,k.tape.trans h.tape,k.output.trans h.output,aF h.size k.size,λi hi a=>(k.block i (zz007 hi h.size) a).trans (h.block i hi a)⟩
theorem bF(W:World)b i v:W.grownBy (W.setCell (aj b i) v) (some b):=
 ⟨rfl,rfl,rfl,rn,λk _ a=>heap_setCell_other _ _ _ _ (λe=>a (by rw[e]))⟩
theorem aC(W:World)n b:W.grownBy (W.drewN n) (some b):=⟨rfl,rfl,rfl,ae _,λ_ _ _=>rfl⟩
theorem eh{A B}{b}(h:Bt A B):A.grownBy B (some b):=⟨h.os,h.tape,h.output,h.size,λi hi _=>h.block i hi⟩
def rdI(W:World)(rb:Nat):Nat:=match W.cell? (aj rb 1)with
 |some (.int _ x)=>x.toNat
 |_=>0
theorem RS.rdI{W:World}{c:Nat}{s:ByteArray}{i:Nat}{e:Value}{a d at_ b:Int}(h:RS W c s i e a d at_ b):rdI W c=i:=by unfold Go.Proofs.YtaanagpadfcmlaaGreatDoor.rdI;rw[h.c1];simp
theorem skip_any(d:Nat)(s:ByteArray)(i:Nat)(u:Value)(a r at_ b:Int)(w:World)(h:RS w d s i u a r at_ b)(J:s.size<=1099511627776)(hi:i<=s.size):
 Cw 68 #[Pq d] w λe w'=>e=Rw (.tuple #[])/\RS w' d s (sk s i) u a r at_ b/\w.grownBy w' (some d):=by
 have E:=qH<|h;go_enter func68,ntmps68;go_wp2;go_loopw[2] (λ_ wr=>∃k:Nat,k<=s.size/\Hid (sk s k=sk s i)/\Hid (RS wr d s k u a r at_ b)/\Hid (w.grownBy wr (some d))) (λ_ wr=>s.size-rdI wr d);case atStart=>exact⟨i,hi,rfl,E,kW _ _⟩
 case round=>
  obtain⟨k,I,y,j,v⟩:=hrel;have o:=j.out;have G:=o.c0;have c1:=o.c1;have f1:=o.fz 1;by_cases c:k<s.size
  ·have t:(k:Int)<(s.size:Int):=dg
   obtain⟨x,F⟩:=ad (s[k].toNat);have m:dh s k=x:=by rw[dT c,F]
   by_cases D:x=32
   ·skip;have p:=qH<|λq=>by have:=(j.drewN q).setI (k+1);rw[show((k+1:Nat):Int)=(k:Int)+1 by omega]at this;exact this
    have f:Hid (sk s (k+1)=sk s i):=by rw[<-y.out];exact(ia c (by rw[m];simp[blank,D])).symm
    have hrd:=j.rdI;have g:=qH<|hrd;subst D;go_wp2_with fail;go_quiet(fail);go_wp2;go_roundw;case rel=>exact⟨k+1,dg,f,p _,gr_trans (gr_trans v (aC _ _ _)) (bF _ _ _ _)⟩
    case measure=>rw[(p _).rdI,g.out];omega
   ·by_cases l:x=10
    ·skip;have p:=qH<|λq=>by have:=(j.drewN q).setI (k+1);rw[show((k+1:Nat):Int)=(k:Int)+1 by omega]at this;exact this
     have f:Hid (sk s (k+1)=sk s i):=by rw[<-y.out];exact(ia c (by rw[m];simp[blank,l])).symm
     have hrd:=j.rdI;have g:=qH<|hrd;subst l;go_wp2_with fail;go_quiet(fail);go_wp2;go_roundw;case rel=>exact⟨k+1,dg,f,p _,gr_trans (gr_trans v (aC _ _ _)) (bF _ _ _ _)⟩
     case measure=>rw[(p _).rdI,g.out];omega
    ·have A:Hid (RS wr d s (sk s i) u a r at_ b):=by have:sk s k=k:=ja (by rw[m];simp[blank,D,l]);rw[<-y.out,this];exact j
     have H:((x:Int)==32)=false:=by simp;omega
     go_wp2_with fail;go_quiet(fail);go_wp2;go_end0;exact⟨rfl,A.drewN _,gr_trans v (aC _ _ _)⟩
  ·have t:¬(k:Int)<(s.size:Int):=dg
   have A:Hid (RS wr d s (sk s i) u a r at_ b):=by have:sk s k=k:=vD c;rw[<-y.out,this];exact j
   go_wp2_with fail;go_quiet(fail);go_wp2;go_end0;exact⟨rfl,A.drewN _,gr_trans v (aC _ _ _)⟩
def e_(bad a:Int):Int:=if bad<0 then a else bad
theorem fail_any(d:Nat)(s:ByteArray)(i:Nat)(g:Value)(b f at_ c:Int)(a:Int)(w:World)(h:RS w d s i g b f at_ c):
 Cw 69 #[Pq d,Iq a] w λe w'=>e=Rw (.tuple #[])/\RS w' d s i g (e_ b a) f at_ c/\w.grownBy w' (some d):=by
 have c3:=h.c3;have f3:=h.fz 3;have k:=qH<|h;by_cases l:b<0
 ·have j:Hid (RS (w.setCell (aj d 3) (Iq a)) d s i g (e_ b a) f at_ c):=by unfold e_;rw[if_pos l];exact k.setBad a
  go_enter func69,ntmps69;go_wp2;go_end0;exact⟨rfl,j,bF _ _ _ _⟩
 ·have j:Hid (RS w d s i g (e_ b a) f at_ c):=by unfold e_;rw[if_neg l];exact k
  go_enter func69,ntmps69;go_wp2;go_end0;exact⟨rfl,j,kW _ _⟩
def aL(s:ByteArray)(i:Nat)(c:Nat):Bool:=dh s (sk s i)==c
def am(s:ByteArray)(i:Nat)(c:Nat):Nat:=if dh s (sk s i)=c then sk s i+1 else sk s i
theorem got_any(g:Nat)(s:ByteArray)(i:Nat)(o:Value)(a m at_ b:Int)(c:Nat)(w:World)(h:RS w g s i o a m at_ b)(H:s.size<=1099511627776)(hi:i<=s.size)(N:c<256)(M:a<0):
 Cw 195 #[Pq g,.int .u8 (c:Int)] w λe w'=>e=Rw (.bool (aL s i c))/\RS w' g s (am s i c) o a m at_ b/\w.grownBy w' (some g):=by
 have CS:=qH<|skip_any g s i o a m at_ b w h H hi;obtain⟨j,D⟩:=ad (sk s i);have E:=dX s i hi;have k:Hid (am s i c=if dh s j=c then j+1 else j):=by show _=_;unfold am;rw[D]
 have l:Hid (aL s i c=(dh s j==c)):=by show _=_;unfold aL;rw[D]
 rw[D]at CS E;go_enter func195,ntmps195;go_wp2_with fail;refine CS.mono ?_;rintro e F ⟨rfl,h1,G⟩;have A:=qH<|h1;have y:=qH<|G;have J:=h1.c0;have c1:=h1.c1;have c3:=h1.c3;have f1:=h1.fz 1;by_cases u:j<s.size
 ·have v:(j:Int)<(s.size:Int):=dg
  obtain⟨x,I⟩:=ad (s[j].toNat);have f:dh s j=x:=by rw[dT u,I]
  by_cases d:x=c
  ·have r:Hid (∀q,RS ((F.drewN q).setCell (aj g 1) (Iq ((j:Int)+1))) g s (am s i c) o a m at_ b):=λq=>by rw[k.out,f,if_pos d];have:=(A.drewN q).setI (j+1);rw[show((j+1:Nat):Int)=(j:Int)+1 by omega]at this;exact this
   have p:Hid (aL s i c=true):=by show _=_;rw[l.out,f];simpa using d
   subst d;go_wp2_with fail;go_quiet(fail);go_wp2;go_ret;exact⟨by rw[p.out];rfl,r _,gr_trans (gr_trans y (aC _ _ _)) (bF _ _ _ _)⟩
  ·have r:Hid (RS F g s (am s i c) o a m at_ b):=by rw[k.out,f,if_neg d];exact A
   have p:Hid (aL s i c=false):=by show _=_;rw[l.out,f];simpa using d
   go_wp2_with fail;go_quiet(fail);go_wp2;go_ret;exact⟨by rw[p.out];rfl,r.drewN _,gr_trans y (aC _ _ _)⟩
 ·have v:¬(j:Int)<(s.size:Int):=dg
  have t:=dJ u;have r:Hid (RS F g s (am s i c) o a m at_ b):=by rw[k.out,t,if_neg dg];exact A
  have p:Hid (aL s i c=false):=by show _=_;rw[l.out,t];simp;omega
  go_wp2_with fail;go_quiet(fail);go_wp2;go_ret;exact⟨by rw[p.out];rfl,r.drewN _,gr_trans y (aC _ _ _)⟩
def vis(kids:Nat->List Nat):Nat->Nat->List Nat
 |0,_=>[]
 |f+1,k=>k::(kids k).flatMap (vis kids f)
def y_(up:Nat->Int):Nat->Int->Int
 |0,x=>x
 |t+1,x=>up (y_ up t x).toNat
structure uG(n:Nat)(kids:Nat->List Nat)(up:Nat->Int):Prop where
 kid:∀i c,i<n->c∈kids i->i<c/\c<n/\up c=(i:Int)
 nd:∀i,i<n->(kids i).Nodup
 upl:∀i,i<n->up i<(i:Int)
 lo:∀i,i<n->-1<=up i
section
variable{n:Nat} {kids:Nat->List Nat} {up:Nat->Int}
theorem vQ s x:∀t,y_ up (s+t) x=y_ up t (y_ up s x)
 |0=>rfl
 |t+1=>by show up (y_ up (s+t) x).toNat=up (y_ up t (y_ up s x)).toNat;rw[vQ s x t]
theorem J3(h:uG n kids up)(c:0<n):∀  t  (x:Int),-1<=x->x<n->-1<=y_ up t x/\y_ up t x<=x
 |0,x,h1,a=>⟨h1,iD _⟩
 |t+1,x,h1,a=>by
  obtain⟨f,g⟩:=J3 h c t x h1 a;show-1<=up (y_ up t x).toNat/\up (y_ up t x).toNat<=x;have b:(y_ up t x).toNat<n:=dg;have d:=h.lo _ b;have e:=h.upl _ b;omega
theorem su(h:uG n kids up):∀  f k,k<n->∀j,j∈vis kids f k->k<=j/\j<n/\∃t,y_ up t (j:Int)=(k:Int)
 |0,k,b,j,a=>by cases a
 |f+1,k,b,j,a=>by
  rcases gE.1 a with e|a;·subst e;exact⟨ae _,b,0,rfl⟩
  ·obtain⟨c,d,a⟩:=List.mem_flatMap.1 a;obtain⟨c1,c2,c3⟩:=h.kid k c b d;obtain⟨d1,d2,t,g⟩:=su h f c c2 j a;refine⟨dg,d2,t+1,?_⟩;grind[y_]
theorem Gl(h:uG n kids up){f k c d}(i:k<n)(o:c∈kids k)(hd:d∈kids k)(a:c≠d){j}(h1:j∈vis kids f c)(m:j∈vis kids f d):False:=by
 obtain⟨c1,c2,c3⟩:=h.kid k c i o;obtain⟨d1,d2,d3⟩:=h.kid k d i hd;obtain⟨_,_,s,l⟩:=su h f c c2 j h1;obtain⟨_,_,t,b⟩:=su h f d d2 j m;have u:0<n:=dg;have w:∀(c d:Nat) (s t:Nat),c≠d->up c=(k:Int)->k<d->c<n->y_ up s (j:Int)=(c:Int)->y_ up t (j:Int)=(d:Int)->s<=t->False:=λc d s t a g q p l b v=>by
  obtain⟨r,rfl⟩:∃r,t=s+r:=⟨t-s,dg⟩;rw[vQ,l]at b;cases r with
  |zero=>exact a (Int.ofNat.inj b)
  |succ r=>
   rw[Nat.add_comm r 1,vQ]at b;have e:y_ up 1 (c:Int)=(k:Int):=by show up ((c:Int)).toNat=_;exact g
   rw[e]at b;have:=(J3 h u r (k:Int) dg dg).2;omega
 grind
theorem uk(h:uG n kids up):∀  f k,k<n->(vis kids f k).Nodup
 |0,k,i=>List.nodup_nil
 |f+1,k,i=>by
  show(k::(kids k).flatMap (vis kids f)).Nodup;refine List.nodup_cons.2 ⟨λq=>?_,?_⟩;·obtain⟨c,g,m⟩:=List.mem_flatMap.1 q;obtain⟨c1,c2,c3⟩:=h.kid k c i g;have:=(su h f c c2 k m).1;omega
  ·have j:∀d:List Nat,(∀c∈d,c∈kids k)->d.Nodup->(d.flatMap (vis kids f)).Nodup:=by
    intro d;induction d with
    |nil=>grind
    |cons c d p=>intro h1 l;rw[List.flatMap_cons];obtain⟨u,r⟩:=List.nodup_cons.1 l;have g:=h1 c (Ag ..);obtain⟨c1,c2,c3⟩:=h.kid k c i g;refine Kd.2 ⟨uk h f c c2,p (λx o=>h1 x (Ah _ o)) r,λa s b t e=>?_⟩;grind[Gl]
   exact j (kids k) (λ_ g=>g) (h.nd k i)
theorem k9:∀  n  (l:List Nat),l.Nodup->(∀x∈l,x<n)->l.length<=n
 |0,l,_,h=>by
  cases l with
  |nil=>grind
  |cons a l=>exact absurd (h a (Ag ..)) dg
 |n+1,l,hd,h=>by
  by_cases b:n∈l;·have h1:=List.length_erase_of_mem b;have d:=k9 n (l.erase n) (hd.erase n) (λx c=>rd);omega
  ·have:=k9 n l hd (λx c=>rd);omega
theorem MT(h:uG n kids up)f k(a:k<n):(vis kids f k).length<=n:=k9 n _ (uk h f k a) λx b=>(su h f k a x b).2.1
end
theorem DN:∀b:List Nat,(∀k c d,b[k]?=some c->b[k+1]?=some d->c<d)->b.Pairwise (·<·)
 |[],_=>.nil
 |[x],_=>rn
 |x::y::r,h=>by
  have f:=DN (y::r) (λk c d h1 g=>h (k+1) c d h1 g);have i:=h 0 x y rfl rfl;refine List.Pairwise.cons (λz a=>?_) f;rcases gE.1 a with e|a;·omega
  ·have:=List.rel_of_pairwise_cons f a;omega
theorem Cd{a:List Nat}(h:∀k c d,a[k]?=some c->a[k+1]?=some d->c<d):a.Nodup:=
 (DN a h).imp (λh e=>dg)
theorem got_bad(d:Nat)(s:ByteArray)(i:Nat)(j:Value)(a f at_ b:Int)(c:Nat)(w:World)(h:RS w d s i j a f at_ b)(o:s.size<=1099511627776)(hi:i<=s.size)(q:0<=a):
 Cw 195 #[Pq d,.int .u8 (c:Int)] w λe w'=>e=Rw (.bool false)/\RS w' d s (sk s i) j a f at_ b/\w.grownBy w' (some d):=by
 have CS:=qH<|skip_any d s i j a f at_ b w h o hi;clear h;go_enter func195,ntmps195;go_wp2_with fail;refine CS.mono ?_;rintro e r ⟨rfl,h1,k⟩;have m:=qH<|h1;have l:=qH<|k;have c3:=h1.c3;have g:¬a<0:=dg
 have p:=decide_eq_false g;clear h1 k CS;go_wp2_with fail;go_quiet(fail);go_wp2;go_ret;exact⟨rfl,m.drewN _,gr_trans l (aC _ _ _)⟩
def gD(s:ByteArray)(i c:Nat)(bad:Int):Int:=if aL s i c then bad else(sk s i:Int)
theorem xO(g:Nat)(s:ByteArray)(i:Nat)(l:Value)(a j at_ b:Int)(c:Nat)(w:World)(h:RS w g s i l a j at_ b)(I:s.size<=1099511627776)(hi:i<=s.size)(H:c<256)(E:a<0):
 Cw 147 #[Pq g,.int .u8 (c:Int)] w λe w'=>e=Rw (.tuple #[])/\RS w' g s (am s i c) l (gD s i c a) j at_ b/\w.grownBy w' (some g):=by
 have m:=qH<|got_any g s i l a j at_ b c w h I hi H E;obtain⟨t,f⟩:=ad (aL s i c);obtain⟨k,d⟩:=ad (am s i c);have x:Hid (gD s i c a=if t then a else(sk s i:Int)):=by show _=_;unfold gD;rw[f]
 have q:Hid (t=false->k=sk s i):=by intro e;rw[<-d];unfold am;rw[<-f]at e;unfold aL at e;rw[if_neg rd]
 rw[f,d]at m;rw[d];clear h f d;go_enter func147,ntmps147;go_wp2_with fail;refine m.mono ?_;rintro e F ⟨rfl,h1,y⟩;have v:=qH<|y;have c1:=h1.c1;have r:=qH<|h1;have u:=qH<|fail_any g s k l a j at_ b k F h1;clear h1 y m;cases t with
 |true=>
  have o:Hid (RS F g s k l (gD s i c a) j at_ b):=by rw[x.out];exact r
  clear u r;go_wp2;go_end0;exact⟨rfl,o,v⟩
 |false=>
  have o:Hid (e_ a (k:Int)=gD s i c a):=by show _=_;rw[x.out,q rfl];unfold e_;rw[if_pos E];rfl
  clear r;go_wp2_with fail;refine u.mono ?_;rintro e J ⟨rfl,D,A⟩;have G:Hid (RS J g s k l (gD s i c a) j at_ b):=by rw[<-o.out];exact D
  have p:=qH<|gr_trans v A;clear D A;go_wp2;go_end0;exact⟨rfl,G,p⟩
theorem I7(d:Nat)(s:ByteArray)(i:Nat)(j:Value)(a f at_ b:Int)(c:Nat)(w:World)(h:RS w d s i j a f at_ b)(y:s.size<=1099511627776)(hi:i<=s.size)(x:0<=a):
 Cw 147 #[Pq d,.int .u8 (c:Int)] w λe w'=>e=Rw (.tuple #[])/\RS w' d s (sk s i) j a f at_ b/\w.grownBy w' (some d):=by
 have l:=qH<|got_bad d s i j a f at_ b c w h y hi x;obtain⟨k,g⟩:=ad (sk s i);rw[g]at l⊢;clear h g;go_enter func147,ntmps147;go_wp2_with fail;refine l.mono ?_;rintro e A ⟨rfl,h1,o⟩;have v:=qH<|o;have c1:=h1.c1;have r:=qH<|fail_any d s k j a f at_ b k A h1;have u:Hid (e_ a (k:Int)=a):=by show _=_;unfold e_;rw[if_neg dg]
 clear h1 o l;go_wp2_with fail;refine r.mono ?_;rintro e D ⟨rfl,q,p⟩;have t:Hid (RS D d s k j a f at_ b):=by have:=q;rw[u.out]at this;exact this
 have m:=qH<|gr_trans v p;clear q p;go_wp2;go_end0;exact⟨rfl,t,m⟩
def Gt(er at_ e a:Int):Int:=if at_<0\/a<at_ then e else er
def Gs(at_ a:Int):Int:=if at_<0\/a<at_ then a else at_
theorem wrong_any(b:Nat)(s:ByteArray)(i:Nat)(k:Value)(c j at_ d:Int)(e a:Int)(w:World)(h:RS w b s i k c j at_ d):
 Cw 144 #[Pq b,Iq e,Iq a] w λr w'=>r=Rw (.tuple #[])/\RS w' b s i k c (Gt j at_ e a) (Gs at_ a) d/\w.grownBy w' (some b):=by
 have c5:=h.c5;have c4:=h.c4;have f4:=h.fz 4;have f5:=h.fz 5;have m:=qH<|h;clear h;by_cases f:at_<0\/a<at_
 ·have g:Hid (RS ((w.setCell (aj b 4) (Iq e)).setCell (aj b 5) (Iq a)) b s i k c (Gt j at_ e a) (Gs at_ a) d):=by unfold Gt Gs;rw[if_pos f,if_pos f];exact m.setErr e a
  have l:Hid (w.grownBy ((w.setCell (aj b 4) (Iq e)).setCell (aj b 5) (Iq a)) (some b)):=gr_trans (bF _ _ _ _) (bF _ _ _ _);by_cases h1:at_<0;·clear f;go_enter func144,ntmps144;go_wp2;go_end0;exact⟨rfl,g,l⟩
  ·have o:a<at_:=dg
   clear f;go_enter func144,ntmps144;go_wp2;go_end0;exact⟨rfl,g,l⟩
 ·have g:Hid (RS w b s i k c (Gt j at_ e a) (Gs at_ a) d):=by unfold Gt Gs;rw[if_neg f,if_neg f];exact m
  have h1:¬at_<0:=dg;have o:¬a<at_:=dg;clear f;go_enter func144,ntmps144;go_wp2;go_end0;exact⟨rfl,g,kW _ _⟩
theorem qJ(s:ByteArray)k:s.extract k k=ByteArray.empty:=by apply kM;simp
def im(s:ByteArray)(i:Nat)(bad:Int):Int:=if run ao s (sk s i)=sk s i then(sk s i:Int)else bad
theorem J_(m:Nat)(s:ByteArray)(i:Nat)(A:Value)(a u at_ d:Int)(w:World)(h:RS w m s i A a u at_ d)(hs:s.size<=1099511627776)(hi:i<=s.size)(U:a<0):
 Cw 141 #[Pq m] w λe w'=>e=Rw (.string (s.extract (sk s i) (run ao s (sk s i))))/\RS w' m s (run ao s (sk s i)) A (im s i a) u at_ d/\w.grownBy w' (some m):=by
 have CS:=qH<|skip_any m s i A a u at_ d w h hs hi;obtain⟨j,V⟩:=ad (sk s i);have J:=dX s i hi;have t:Hid (im s i a=if run ao s j=j then(j:Int)else a):=by show _=_;unfold im;rw[V]
 rw[V]at CS J⊢;clear h V;go_enter func141,ntmps141;go_wp2_with fail;refine CS.mono ?_;rintro e w1 ⟨rfl,h1,g1⟩;have HR:=qH<|h1;have Q:=qH<|g1;have d1:=h1.c1;have eb:=decide_eq_true U;clear h1 g1 CS;go_wp2;clear d1;go_loopw[10] (λ_ wr=>∃k:Nat,j<=k/\k<=s.size/\Hid (run ao s k=run ao s j)/\Hid (RS wr m s k A a u at_ d)/\Hid (w.grownBy wr (some m))) (λ_ wr=>s.size-rdI wr m);case atStart=>exact⟨j,ae _,J,rfl,HR,Q⟩
 case round=>
  obtain⟨k,za,hk,O,F,G⟩:=hrel;have l:=F.out;have c0:=l.c0;have c1:=l.c1;have c3:=l.c3;have f1:=l.fz 1;have S:=qH<|l.rdI;by_cases b:ao (dh s k)=true
  ·have y:k<s.size:=by
    by_cases e:k<s.size;·exact e
    ·rw[dJ e]at b;cases b
   have f:(k:Int)<(s.size:Int):=dg;have el:=decide_eq_true f;obtain⟨x,Y⟩:=ad (s[k].toNat);have p:dh s k=x:=by rw[dT y,Y]
   have R:Hid (run ao s (k+1)=run ao s j):=by rw[<-O.out];exact(ia y b).symm
   rw[p]at b;unfold ao at b;simp only[nG,decide_eq_true_eq]at b;obtain⟨l1,l2⟩:=b;have e1:decide ((97:Int)<=(x:Int))=true:=decide_eq_true dg;have e2:decide ((x:Int)<=122)=true:=decide_eq_true dg;have HN:=qH<|λq=>by have:=(F.drewN q).setI (k+1);rw[show((k+1:Nat):Int)=(k:Int)+1 by omega]at this;exact this
   clear l O F p;go_wp2_with fail;go_quiet(fail);go_wp2;go_roundw;case rel=>exact⟨k+1,dg,dg,R,HN _,gr_trans (gr_trans G (aC _ _ _)) (bF _ _ _ _)⟩
   case measure=>rw[(HN _).rdI,S.out];omega
  ·have N:run ao s j=k:=by rw[<-O.out];exact ja (by simpa using b)
   have c:=qH<|N;have CF:=qH<|λg W h=>fail_any m s g A a u at_ d g W h;clear N l O;by_cases y:k<s.size
   ·have f:(k:Int)<(s.size:Int):=dg
    have el:=decide_eq_true f;obtain⟨x,Y⟩:=ad (s[k].toNat);have p:dh s k=x:=by rw[dT y,Y]
    rw[p]at b;unfold ao at b;simp only[nG,decide_eq_true_eq]at b;clear p;by_cases l1:97<=x;focus have l2:¬x<=122:=λe=>b ⟨l1,e⟩;have e1:decide ((97:Int)<=(x:Int))=true:=decide_eq_true dg;have e2:decide ((x:Int)<=122)=false:=decide_eq_false dg
    rotate_left;focus have e1:decide ((97:Int)<=(x:Int))=false:=decide_eq_false dg
    rotate_left;all_goals
     clear b;go_wp2_with fail;go_quiet(fail);by_cases r:k=j
     ·subst r;have D:Hid (e_ a (k:Int)=im s i a):=by show _=_;rw[t.out,if_pos c.out];unfold e_;rw[if_pos U]
      go_wp2_with fail;refine(CF k _ (F.drewN _)).mono ?_;rintro e Z ⟨rfl,v,H⟩;have P:Hid (RS Z m s k A (im s i a) u at_ d):=by have:=v;rw[D.out]at this;exact this
      have E:=qH<|gr_trans (gr_trans G (aC _ _ _)) H;have d0:=v.c0;have d1:=v.c1;clear v H c0 c1 c3 f1;go_wp2_with fail;go_quiet(fail);go_wp2;go_ret;exact⟨by rw[c.out,qJ];rfl,by rw[c.out];exact P.drewN _,gr_trans E (aC _ _ _)⟩
     ·have o:im s i a=a:=by rw[t.out,if_neg (by rw[c.out];exact r)]
      have D:Hid (RS wr m s k A (im s i a) u at_ d):=by rw[o];exact F
      clear o;have M:((k:Int)==(j:Int))=false:=by simp;omega
      have I:(j:Int)<=(k:Int):=dg;have X:(k:Int)<=(s.size:Int):=dg;go_wp2_with fail;go_quiet(fail);go_wp2;go_ret;exact⟨by rw[c.out];rfl,by rw[c.out];exact(D.drewN _).drewN _,gr_trans (gr_trans G (aC _ _ _)) (aC _ _ _)⟩
   ·have f:¬(k:Int)<(s.size:Int):=dg
    have el:=decide_eq_false f;clear b;go_wp2_with fail;go_quiet(fail);by_cases r:k=j
    ·subst r;have D:Hid (e_ a (k:Int)=im s i a):=by show _=_;rw[t.out,if_pos c.out];unfold e_;rw[if_pos U]
     go_wp2_with fail;refine(CF k _ (F.drewN _)).mono ?_;rintro e Z ⟨rfl,v,H⟩;have P:Hid (RS Z m s k A (im s i a) u at_ d):=by have:=v;rw[D.out]at this;exact this
     have E:=qH<|gr_trans (gr_trans G (aC _ _ _)) H;have d0:=v.c0;have d1:=v.c1;clear v H c0 c1 c3 f1;go_wp2_with fail;go_quiet(fail);go_wp2;go_ret;exact⟨by rw[c.out,qJ];rfl,by rw[c.out];exact P.drewN _,gr_trans E (aC _ _ _)⟩
    ·have o:im s i a=a:=by rw[t.out,if_neg (by rw[c.out];exact r)]
     have D:Hid (RS wr m s k A (im s i a) u at_ d):=by rw[o];exact F
     clear o;have M:((k:Int)==(j:Int))=false:=by simp;omega
     have I:(j:Int)<=(k:Int):=dg;have X:(k:Int)<=(s.size:Int):=dg;go_wp2_with fail;go_quiet(fail);go_wp2;go_ret;exact⟨by rw[c.out];rfl,by rw[c.out];exact(D.drewN _).drewN _,gr_trans (gr_trans G (aC _ _ _)) (aC _ _ _)⟩
theorem z_(d:Nat)(s:ByteArray)(i:Nat)(g:Value)(a f at_ b:Int)(w:World)(h:RS w d s i g a f at_ b)(E:s.size<=1099511627776)(hi:i<=s.size)(I:0<=a):
 Cw 141 #[Pq d] w λe w'=>e=Rw (.string ByteArray.empty)/\RS w' d s (sk s i) g a f at_ b/\w.grownBy w' (some d):=by
 have CS:=qH<|skip_any d s i g a f at_ b w h E hi;obtain⟨j,t⟩:=ad (sk s i);have o:=dX s i hi;rw[t]at CS o⊢;clear h t;go_enter func141,ntmps141;go_wp2_with fail;refine CS.mono ?_;rintro e J ⟨rfl,h1,q⟩;have G:=qH<|h1;have A:=qH<|q;have d1:=h1.c1;have m:¬a<0:=dg
 have H:=decide_eq_false m;clear h1 q CS;go_wp2;clear d1;go_loopw[10] (λ_ wr=>Hid (RS wr d s j g a f at_ b)/\Hid (w.grownBy wr (some d))) (λ_ wr=>0);case atStart=>grind
 case round=>
  obtain⟨p,y⟩:=hrel;have c:=p.out;have D:=c.c0;have c1:=c.c1;have c3:=c.c3;have u:=qH<|λW h=>fail_any d s j g a f at_ b j W h;have x:Hid (e_ a (j:Int)=a):=by show _=_;unfold e_;rw[if_neg dg]
  clear c;go_wp2_with fail;go_quiet(fail);go_wp2_with fail;refine(u _ (p.drewN _)).mono ?_;rintro e F ⟨rfl,k,r⟩;have v:Hid (RS F d s j g a f at_ b):=by have:=k;rw[x.out]at this;exact this
  have l:=qH<|gr_trans (gr_trans y (aC _ _ _)) r;have d0:=k.c0;have d1:=k.c1;clear k r D c1 c3;go_wp2_with fail;go_quiet(fail);go_wp2;go_ret;exact⟨rfl,v.drewN _,gr_trans l (aC _ _ _)⟩
theorem vK{a b:ByteArray}(h:¬a=b):(a.toList==b.toList)=false:=by rw[beq_eq_false_iff_ne];intro e;rw[ByteArray.toList_eq,ByteArray.toList_eq]at e;exact h (kM (Array.toList_inj.1 e))
def aI:List ByteArray->ByteArray->Nat->Int
 |[],_,_=>-1
 |a::r,x,k=>if a=x then(k:Int)else aI r x (k+1)
theorem iT x:∀  b   k,aI b x k=-1\/((k:Int)<=aI b x k/\aI b x k<(k:Int)+b.length)
 |[],k=>.inl rfl
 |a::r,k=>by
  unfold aI;by_cases e:a=x;·grind
  ·simp only[e,if_false];rcases iT x r (k+1)with h|h;all_goals grind
theorem find_any(a:List ByteArray)(x:ByteArray)(f off o n:Nat)(w:World)(v:f<w.heap.size)(r:∀j,j<a.length->w.cell? (aj f (off+j))=some (.string (a[j]?.getD ByteArray.empty)))(hn:a.length=n)(t:n<=1099511627776):
 Cw 142 #[.slice (some (aj f off)) n o,.string x] w λe w'=>e=Rw (Iq (aI a x 0))/\w'=w:=by
 have s:=qH<|r;have q:=qH<|hn;clear r hn;go_enter func142,ntmps142;go_wp2;go_loop[5] (λi=>∃k:Nat,k<=n/\i=Iq k/\Hid (aI a x 0=aI (a.drop k) x k)) (λi=>n-(intOf i).toNat);case atStart=>exact⟨0,aR _,rfl,by show _=_;grind⟩
 case round=>
  obtain⟨k,A,rfl,m⟩:=hrel;by_cases p:k<n
  ·have h:(k:Int)<(n:Int):=dg
   have d:k<a.length:=by rw[q.out];exact p
   have g:=s k d;obtain⟨y,hy⟩:=ad (a[k]?.getD ByteArray.empty);rw[hy]at g;have b:a.drop k=y::a.drop (k+1):=by rw[<-hy,dI d];exact sC d
   have c:Hid (aI a x 0=if y=x then(k:Int)else aI (a.drop (k+1)) x (k+1)):=by show _=_;rw[m.out,b];rfl
   clear b hy m d;by_cases e:y=x
   ·have l:Hid (aI a x 0=(k:Int)):=by show _=_;rw[c.out,if_pos e]
    subst e;clear c;go_wp2;go_ret;exact⟨by rw[l.out];rfl,rfl⟩
   ·have l:Hid (aI a x 0=aI (a.drop (k+1)) x (k+1)):=by show _=_;rw[c.out,if_neg e]
    have u:=vK e;clear c;go_wp2;go_round;case rel=>grind
    case measure=>simp[intOf];omega
  ·have h:¬(k:Int)<(n:Int):=dg
   have l:Hid (aI a x 0=-1):=by show _=_;rw[m.out,ut (by rw[q.out];omega)];rfl
   clear m;go_wp2;go_ret;exact⟨by rw[l.out];rfl,rfl⟩
def dv(s:ByteArray)(j:Nat):Nat->Int
 |0=>0
 |c+1=>if c<6 then 10*dv s j c+((dh s (j+c):Int)-48)else dv s j c
theorem qG s j:∀c,(∀t,t<c->48<=dh s (j+t)/\dh s (j+t)<=57)->0<=dv s j c/\dv s j c<=999999/\(c<=5->dv s j c<=99999)/\(c<=4->dv s j c<=9999)/\(c<=3->dv s j c<=999)/\(c<=2->dv s j c<=99)/\(c<=1->dv s j c<=9)/\(c=0->dv s j c=0)
 |0,_=>by simp[dv]
 |c+1,h=>by have b:=qG s j c (λt a=>h t dg);grind[dv]
theorem nu{p}s:∀f i t,nt p s f i>i+t->p (dh s (i+t))=true
 |0,i,t,h=>by grind[nt]
 |f+1,i,t,h=>by
  rw[nt]at h;by_cases c:p (dh s i)=true;·rw[if_pos c]at h;match t with
   |0=>exact c
   |t+1=>have:=nu (p:=p) s f (i+1) t dg;grind
  grind
def jN(s:ByteArray)(j k:Nat)(bad:Int):Int:=if k=j\/j+6<k\/(j+1<k/\dh s j=48)then(j:Int)else bad
theorem BJ(A:Nat)(s:ByteArray)(i:Nat)(P:Value)(a M at_ g:Int)(w:World)(h:RS w A s i P a M at_ g)(hs:s.size<=1099511627776)(hi:i<=s.size)(hb:a<0):
 Cw 196 #[Pq A] w λe w'=>e=Rw (.tuple #[Iq (dv s (sk s i) (run aP s (sk s i)-sk s i)),Iq (sk s i:Int)])/\RS w' A s (run aP s (sk s i)) P (jN s (sk s i) (run aP s (sk s i)) a) M at_ g/\w.grownBy w' (some A):=by
 have CS:=qH<|skip_any A s i P a M at_ g w h hs hi;obtain⟨j,hj⟩:=ad (sk s i);have Y:=dX s i hi;rw[hj]at CS Y⊢;have U:Hid (∀t,j+t<run aP s j->48<=dh s (j+t)/\dh s (j+t)<=57):=λt ht=>by have:=nu (p:=aP) s (s.size-j) j t ht;unfold aP at this;simpa using this
 clear h hj;go_enter func196,ntmps196;go_wp2_with fail;refine CS.mono ?_;rintro e w1 ⟨rfl,h1,g1⟩;have HR:=qH<|h1;have za:=qH<|g1;have d1:=h1.c1;have eb:=decide_eq_true hb;clear h1 g1 CS;go_wp2;clear d1;go_loopw[5,13] (λv _ wr=>∃(k:Nat) (n:Int),v=Iq n/\j<=k/\k<=s.size/\0<=n/\n<=999999/\Hid (n=dv s j (k-j))/\Hid (run aP s k=run aP s j)/\Hid (RS wr A s k P a M at_ g)/\Hid (w.grownBy wr (some A))) (λ_ _ wr=>s.size-rdI wr A);case atStart=>exact⟨j,0,rfl,ae _,Y,dg,dg,by show _=_;rw[Nat.sub_self];rfl,rfl,HR,za⟩
 case round=>
  obtain⟨k,n,rfl,zi,hk,n0,n1,f,R,H,Q⟩:=hrel;have m:=H.out;have c0:=m.c0;have c1:=m.c1;have c3:=m.c3;have f1:=m.fz 1;have X:=qH<|m.rdI;by_cases b:aP (dh s k)=true
  ·have J:k<s.size:=by
    by_cases e:k<s.size;·exact e
    ·rw[dJ e]at b;cases b
   have l:(k:Int)<(s.size:Int):=dg;have el:=decide_eq_true l;obtain⟨x,hx⟩:=ad (s[k].toNat);have r:dh s k=x:=by rw[dT J,hx]
   have u:=ia J b;have V:Hid (run aP s (k+1)=run aP s j):=by rw[<-R.out];exact u.symm
   have y:k<run aP s j:=by rw[<-R.out,u];exact g_ _ _ _
   have d:dv s j (k+1-j)=if k-j<6 then 10*n+((x:Int)-48)else n:=by rw[show k+1-j=(k-j)+1 by omega,dv,<-f.out,show j+(k-j)=k by omega,r]
   have E:=qG s j (k-j) (λt ht=>U t dg);have o:=qG s j (k+1-j) (λt ht=>U t dg);rw[<-f.out]at E;rw[r]at b;unfold aP at b;simp only[nG,decide_eq_true_eq]at b;obtain⟨l1,l2⟩:=b;have e1:decide ((48:Int)<=(x:Int))=true:=decide_eq_true dg;have e2:decide ((x:Int)<=57)=true:=decide_eq_true dg;have HN:=qH<|λq=>by have:=(H.drewN q).setI (k+1);rw[show((k+1:Nat):Int)=(k:Int)+1 by omega]at this;exact this
   by_cases h6:k-j<6
   ·rw[if_pos h6]at d;have zb:(k:Int)-(j:Int)<6:=dg
    have G:Hid (10*n+(x:Int)-48=dv s j (k+1-j)):=by show _=_;rw[d];omega
    have ze:0<=10*n+(x:Int)-48:=dg;have zg:10*n+(x:Int)-48<=999999:=by rw[G.out];exact o.2.1
    clear m R H r d E o u y f;go_wp2_with fail;go_quiet(fail);go_wp2_with fail;go_quiet(fail);go_wp2;go_roundw;case rel=>exact⟨k+1,_,rfl,dg,dg,ze,zg,G,V,HN _,gr_trans (gr_trans Q (aC _ _ _)) (bF _ _ _ _)⟩
    case measure=>rw[(HN _).rdI,X.out];omega
   ·rw[if_neg h6]at d;have zb:¬(k:Int)-(j:Int)<6:=dg
    have G:Hid (n=dv s j (k+1-j)):=by show _=_;rw[d]
    clear m R H r d E o u y f;go_wp2_with fail;go_quiet(fail);go_wp2;go_roundw;case rel=>exact⟨k+1,n,rfl,dg,dg,n0,n1,G,V,HN _,gr_trans (gr_trans Q (aC _ _ _)) (bF _ _ _ _)⟩
    case measure=>rw[(HN _).rdI,X.out];omega
  ·have u:run aP s j=k:=by rw[<-R.out];exact ja rd
   have c:=qH<|u;have CF:=qH<|λW h=>fail_any A s k P a M at_ g j W h;clear u m R;by_cases J:k<s.size;focus
    have l:(k:Int)<(s.size:Int):=dg;have el:=decide_eq_true l;obtain⟨x,hx⟩:=ad (s[k].toNat);have r:dh s k=x:=by rw[dT J,hx]
    rw[r]at b;unfold aP at b;simp only[nG,decide_eq_true_eq]at b;clear r;by_cases l1:48<=x;focus have l2:¬x<=57:=λe=>b ⟨l1,e⟩;have e1:decide ((48:Int)<=(x:Int))=true:=decide_eq_true dg;have e2:decide ((x:Int)<=57)=false:=decide_eq_false dg;clear b;go_wp2_with fail;go_quiet(fail)
    rotate_left;focus have e1:decide ((48:Int)<=(x:Int))=false:=decide_eq_false dg;clear b;go_wp2_with fail;go_quiet(fail)
   rotate_left 2;focus
    have l:¬(k:Int)<(s.size:Int):=dg;have el:=decide_eq_false l;clear b;go_wp2_with fail;go_quiet(fail)
   all_goals
    by_cases t0:k=j
    ·have F:Hid (e_ a (j:Int)=jN s j k a):=by show _=_;unfold jN e_;rw[if_pos hb,if_pos (.inl t0)]
     have u0:(k:Int)-(j:Int)=0:=dg;go_wp2_with fail;refine(CF _ (H.drewN _)).mono ?_;rintro e Z ⟨rfl,O,N⟩;have S:Hid (RS Z A s k P (jN s j k a) M at_ g):=by have:=O;rw[F.out]at this;exact this
     have D:=qH<|gr_trans (gr_trans Q (aC _ _ _)) N;clear O N;go_wp2;go_ret2;exact⟨by rw[c.out,<-f.out];rfl,by rw[c.out];exact S,D⟩
    ·by_cases t6:j+6<k
     ·have F:Hid (e_ a (j:Int)=jN s j k a):=by show _=_;unfold jN e_;rw[if_pos hb,if_pos (.inr (.inl t6))]
      have u0:¬(k:Int)-(j:Int)=0:=dg;have u1:((k:Int)-(j:Int)==0)=false:=by simp;omega
      have u6:(6:Int)<(k:Int)-(j:Int):=dg;go_wp2_with fail;refine(CF _ (H.drewN _)).mono ?_;rintro e Z ⟨rfl,O,N⟩;have S:Hid (RS Z A s k P (jN s j k a) M at_ g):=by have:=O;rw[F.out]at this;exact this
      have D:=qH<|gr_trans (gr_trans Q (aC _ _ _)) N;clear O N;go_wp2;go_ret2;exact⟨by rw[c.out,<-f.out];rfl,by rw[c.out];exact S,D⟩
     ·have u0:¬(k:Int)-(j:Int)=0:=dg
      have u1:((k:Int)-(j:Int)==0)=false:=by simp;omega
      have u6:¬(6:Int)<(k:Int)-(j:Int):=dg;by_cases t1:j+1<k
      ·have v1:(1:Int)<(k:Int)-(j:Int):=dg
       have zc:j<s.size:=dg;have zh:(j:Int)<(s.size:Int):=dg;obtain⟨z,hz⟩:=ad (s[j].toNat);have I:dh s j=z:=by rw[dT zc,hz]
       by_cases tz:z=48
       ·have F:Hid (e_ a (j:Int)=jN s j k a):=by show _=_;unfold jN e_;rw[if_pos hb,if_pos (.inr (.inr ⟨t1,by rw[I];exact tz⟩))]
        subst tz;clear I;go_wp2_with fail;refine(CF _ (H.drewN _)).mono ?_;rintro e Z ⟨rfl,O,N⟩;have S:Hid (RS Z A s k P (jN s j k a) M at_ g):=by have:=O;rw[F.out]at this;exact this
        have D:=qH<|gr_trans (gr_trans Q (aC _ _ _)) N;clear O N;go_wp2;go_ret2;exact⟨by rw[c.out,<-f.out];rfl,by rw[c.out];exact S,D⟩
       ·have F:Hid (jN s j k a=a):=by show _=_;unfold jN;rw[if_neg (by rw[I];omega)]
        have ez:((z:Int)==48)=false:=by simp;omega
        clear I;go_wp2;go_ret2;exact⟨by rw[c.out,<-f.out];rfl,by rw[c.out,F.out];exact H.drewN _,gr_trans Q (aC _ _ _)⟩
      ·have v1:¬(1:Int)<(k:Int)-(j:Int):=dg
       have F:Hid (jN s j k a=a):=by show _=_;unfold jN;rw[if_neg dg]
       go_wp2;go_ret2;exact⟨by rw[c.out,<-f.out];rfl,by rw[c.out,F.out];exact H.drewN _,gr_trans Q (aC _ _ _)⟩
theorem Hq(a:List Int)(c:∀x∈a,0<=x/\x<256)(w:World):
 (convert 160 9 (Sq w.heap.size a.length a.length)).run prog (w.alloc (.cells (a.map (Value.int .u8)).toArray 5))=
  .ok (.string ⟨(a.map λx=>x.toNat.toUInt8).toArray⟩) (w.alloc (.cells (a.map (Value.int .u8)).toArray 5)):=by
 have h:=run_convert_bytes_back (P:=prog) (w.alloc (.cells (a.map (Value.int .u8)).toArray 5)) 160 9 5 (aj w.heap.size 0) a.length (a.map λx=>x.toNat.toUInt8) underlying160 underlying5 underlying9 (by
  intro j b;simp only[sD]at b;have e:((aj w.heap.size 0):Addr).add j=(aj w.heap.size j):=by unfold Addr.add;split<;>simp_all
  rw[e,World.cell?_alloc_mark];have d:=c a[j] (iE b);simp[b];omega);grind
theorem Nl a(b:0<=a/\a<256)(w:World):
 (convert 160 9 (Sq w.heap.size 1 1)).run prog (w.alloc (.cells #[.int .u8 a] 5))=.ok (.string ⟨#[a.toNat.toUInt8]⟩) (w.alloc (.cells #[.int .u8 a] 5)):=
 Hq [a] rd w
theorem Lf a(c:0<=a/\a<256)(w:World)b z:∀q,(convert 160 9 (Sq w.heap.size 1 1)).run prog (((w.drewN q).setCell (aj b 1) (Iq z)).alloc (.cells #[.int .u8 a] 5))=.ok (.string ⟨#[a.toNat.toUInt8]⟩) (((w.drewN q).setCell (aj b 1) (Iq z)).alloc (.cells #[.int .u8 a] 5)):=λq=>by have:=Nl a c ((w.drewN q).setCell (aj b 1) (Iq z));simp_all
theorem qC a(d:0<=a/\a<256)(w:World)b z y:∀q c,(convert 160 9 (Sq w.heap.size 1 1)).run prog (((((w.drewN q).setCell (aj b 1) (Iq z)).drewN c).setCell (aj b 1) (Iq y)).alloc (.cells #[.int .u8 a] 5))=.ok (.string ⟨#[a.toNat.toUInt8]⟩) (((((w.drewN q).setCell (aj b 1) (Iq z)).drewN c).setCell (aj b 1) (Iq y)).alloc (.cells #[.int .u8 a] 5)):=λq c=>by have:=Nl a d ((((w.drewN q).setCell (aj b 1) (Iq z)).drewN c).setCell (aj b 1) (Iq y));simp_all
def qF(s:ByteArray):Nat->Nat->List UInt8->Except Nat (Nat×List UInt8)
 |0,p,_=>.error p
 |f+1,p,acc=>
  if dh s p=256 then .error p
  else if dh s p=34 then .ok (p+1,acc)
  else if dh s p=92 then
   if dh s (p+1)=34\/dh s (p+1)=92 then qF s f (p+2) (acc++[(dh s (p+1)).toUInt8])
   else if dh s (p+1)=110 then qF s f (p+2) (acc++[10])
   else .error (p+1)
  else qF s f (p+1) (acc++[(dh s p).toUInt8])
def dU(s:ByteArray)(i:Nat):Except Nat (Nat×List UInt8):=if aL s i 34 then qF s (s.size+2) (am s i 34) []else .error (sk s i)
def RZ(w w':World)(e:Ending)(rb:Nat)(s:ByteArray)(lv:Value)(bad er at_ cO:Int)(r:Except Nat (Nat×List UInt8)):Prop:=
 w.grownBy w' (some rb)/\match r with
  |.ok (p,t)=>e=Rw (.string ⟨t.toArray⟩)/\RS w' rb s p lv bad er at_ cO
  |.error b=>e=Rw (.string ByteArray.empty)/\∃p,p<=s.size/\RS w' rb s p lv (b:Int) er at_ cO
theorem BZ(m:Nat)(s:ByteArray)(i:Nat)(N:Value)(l I at_ o:Int)(w:World)(h:RS w m s i N l I at_ o)(hs:s.size<=1073741824)(hi:i<=s.size)(hb:l<0):
 Cw 148 #[Pq m] w λe w'=>RZ w w' e m s N l I at_ o (dU s i):=by
 have R:Hid (Cw 147 #[Pq m,.int .u8 34] w λe w'=>e=Rw (.tuple #[])/\RS w' m s (am s i 34) N (gD s i 34 l) I at_ o/\w.grownBy w' (some m)):=xO m s i N l I at_ o 34 w h dg hi dg hb;clear h;by_cases p:aL s i 34=true
 ·have F:gD s i 34 l=l:=by unfold gD;rw[if_pos p]
  have HQ:Hid (dU s i=qF s (s.size+2) (am s i 34) []):=by show _=_;unfold dU;rw[if_pos p]
  have M:am s i 34<=s.size:=by
   unfold aL at p;have e:dh s (sk s i)=34:=by simpa using p
   unfold am;rw[if_pos e];by_cases c:sk s i<s.size;·omega
   ·grind[dJ]
  obtain⟨j,hj⟩:=ad (am s i 34);rw[F,hj]at R;rw[hj]at HQ M;clear F hj p;go_enter func148,ntmps148;go_wp2_with fail;refine R.mono ?_;rintro e w1 ⟨rfl,h1,g1⟩;have HR:=qH<|h1;have ze:=qH<|g1;clear h1 g1 R;go_wp2;go_loopw[3,7] (λv _ wr=>∃(k f:Nat) (Y:Array UInt8),v=.string ⟨Y⟩/\k<=s.size/\Y.size<=k/\s.size<k+f/\Hid (qF s f k Y.toList=dU s i)/\Hid (RS wr m s k N l I at_ o)/\Hid (w.grownBy wr (some m))) (λ_ _ wr=>s.size-rdI wr m);case atStart=>grind
  case round=>
   obtain⟨k,f,Y,rfl,hk,hY,hf,HF,G,P⟩:=hrel;have t:=G.out;have c0:=t.c0;have c1:=t.c1;have c3:=t.c3;have f1:=t.fz 1;have zh:=qH<|t.rdI;have CF:=qH<|λg W h=>fail_any m s g N l I at_ o g W h;have S:Hid (∀a,e_ l a=a):=λa=>by unfold e_;rw[if_pos hb]
   obtain⟨f,rfl⟩:∃f',f=f'+1:=⟨f-1,dg⟩;clear t;by_cases za:k<s.size
   ·have zo:(k:Int)<(s.size:Int):=dg
    have r:¬(s.size:Int)<=(k:Int):=dg;obtain⟨x,hx⟩:=ad (s[k].toNat);have X:dh s k=x:=by rw[dT za,hx]
    have zm:x<256:=by rw[<-X];exact uQ za
    have d:Hid (dU s i=if x=34 then .ok (k+1,Y.toList)else if x=92 then(if dh s (k+1)=34\/dh s (k+1)=92 then qF s f (k+2) (Y.toList++[(dh s (k+1)).toUInt8])else if dh s (k+1)=110 then qF s f (k+2) (Y.toList++[10])else .error (k+1))else qF s f (k+1) (Y.toList++[x.toUInt8])):=by show _=_;rw[<-HF.out,qF,X,if_neg dg]
    clear HF X;by_cases O:x=34
    ·have U:Hid (dU s i=.ok (k+1,Y.toList)):=by show _=_;rw[d.out,if_pos O]
     have HN:=qH<|λq=>by have:=(G.drewN q).setI (k+1);rw[show((k+1:Nat):Int)=(k:Int)+1 by omega]at this;exact this
     subst O;clear d G;go_wp2_with fail;go_quiet(fail);go_wp2_with fail;go_quiet(fail);go_wp2;go_ret;exact⟨gr_trans (gr_trans P (aC _ _ _)) (bF _ _ _ _),by rw[U.out];exact⟨rfl,HN _⟩⟩
    ·by_cases zb:x=92
     ·rw[if_neg O,if_pos zb]at d;have E:=qH<|λq=>by have:=(G.drewN q).setI (k+1);rw[show((k+1:Nat):Int)=(k:Int)+1 by omega]at this;exact this
      subst zb;have zc:=qH<|λW h=>by have:=CF (k+1) W h;rw[show((k+1:Nat):Int)=(k:Int)+1 by omega]at this;exact this
      by_cases r:k+1<s.size
      ·have zq:(k:Int)+1<(s.size:Int):=dg
       have zl:decide ((s.size:Int)<=(k:Int)+1)=false:=decide_eq_false dg;obtain⟨y,hy⟩:=ad (s[k+1].toNat);have Z:dh s (k+1)=y:=by rw[dT r,hy]
       have zn:y<256:=by rw[<-Z];exact uQ r
       rw[Z]at d;clear Z;by_cases u:y=34\/y=92\/y=110
       ·have zg:=qH<|λq q'=>by have:=((E q).drewN q').setI (k+2);rw[show((k+2:Nat):Int)=(k:Int)+1+1 by omega]at this;exact this
        rcases u with u|u|u;focus
         have A:Hid (qF s f (k+2) (Y.toList++[34])=dU s i):=by show _=_;rw[d.out,if_pos (.inl u),u];rfl
         subst u;have J:=qC 34 dg wr m ((k:Int)+1) ((k:Int)+1+1)
        rotate_left;focus
         have A:Hid (qF s f (k+2) (Y.toList++[92])=dU s i):=by show _=_;rw[d.out,if_pos (.inr u),u];rfl
         subst u;have J:=qC 92 dg wr m ((k:Int)+1) ((k:Int)+1+1)
        rotate_left;focus
         have A:Hid (qF s f (k+2) (Y.toList++[10])=dU s i):=by show _=_;rw[d.out,if_neg dg,if_pos u]
         subst u;have J:=qC 10 dg wr m ((k:Int)+1) ((k:Int)+1+1)
        rotate_left;all_goals
         clear d G;go_wp2_with fail;go_quiet(fail);go_wp2_with fail;go_quiet(fail);go_wp2_with fail;go_quiet(fail);go_wp2_with fail;go_quiet(fail);go_wp2;go_roundw;case rel=>exact⟨k+2,f,_,rfl,dg,by simp;omega,dg,by show _=_;rw[<-A.out],(zg _ _).below ((af _ _).alloc (ae _) _),gr_trans (gr_trans (gr_trans (gr_trans (gr_trans P (aC _ _ _)) (bF _ _ _ _)) (aC _ _ _)) (bF _ _ _ _)) (eh ((af _ _).alloc (ae _) _))⟩
         case measure=>rw[((zg _ _).below ((af _ _).alloc (ae _) _)).rdI,zh.out];omega
       ·have e1:((y:Int)!=34)=true:=by simp;omega
        have e2:((y:Int)!=92)=true:=by simp;omega
        have e3:((y:Int)!=110)=true:=by simp;omega
        have U:Hid (dU s i=.error (k+1)):=by show _=_;rw[d.out,if_neg dg,if_neg dg]
        clear d G u;go_wp2_with fail;go_quiet(fail);go_wp2_with fail;go_quiet(fail);go_wp2_with fail;go_quiet(fail);go_wp2_with fail;refine(zc _ (by first|exact E _|exact(E _).drewN _)).mono ?_;rintro e w2 ⟨rfl,Q,H⟩;have H2:Hid (RS w2 m s (k+1) N ((k+1:Nat):Int) I at_ o):=by have:=Q;rw[S.out]at this;rw[show((k+1:Nat):Int)=(k:Int)+1 by omega];exact this
        have D:Hid (w.grownBy w2 (some m)):=by first|exact gr_trans (gr_trans (gr_trans P (aC _ _ _)) (bF _ _ _ _)) H|exact gr_trans (gr_trans (gr_trans (gr_trans P (aC _ _ _)) (bF _ _ _ _)) (aC _ _ _)) H
        clear Q H;go_wp2;go_ret;exact⟨D,by rw[U.out];exact⟨rfl,k+1,dg,H2⟩⟩
      ·have zi:(s.size:Int)<=(k:Int)+1:=dg
       have zl:=decide_eq_true zi;have U:Hid (dU s i=.error (k+1)):=by show _=_;rw[d.out,dJ r,if_neg dg,if_neg dg]
       clear d G;go_wp2_with fail;go_quiet(fail);go_wp2_with fail;go_quiet(fail);go_wp2_with fail;go_quiet(fail);go_wp2_with fail;refine(zc _ (by first|exact E _|exact(E _).drewN _)).mono ?_;rintro e w2 ⟨rfl,Q,H⟩;have H2:Hid (RS w2 m s (k+1) N ((k+1:Nat):Int) I at_ o):=by have:=Q;rw[S.out]at this;rw[show((k+1:Nat):Int)=(k:Int)+1 by omega];exact this
       have D:Hid (w.grownBy w2 (some m)):=by first|exact gr_trans (gr_trans (gr_trans P (aC _ _ _)) (bF _ _ _ _)) H|exact gr_trans (gr_trans (gr_trans (gr_trans P (aC _ _ _)) (bF _ _ _ _)) (aC _ _ _)) H
       clear Q H;go_wp2;go_ret;exact⟨D,by rw[U.out];exact⟨rfl,k+1,dg,H2⟩⟩
     ·have A:Hid (qF s f (k+1) (Y.toList++[x.toUInt8])=dU s i):=by show _=_;rw[d.out,if_neg O,if_neg zb]
      have HN:=qH<|λq=>by have:=(G.drewN q).setI (k+1);rw[show((k+1:Nat):Int)=(k:Int)+1 by omega]at this;exact this
      have e1:((x:Int)==34)=false:=by simp;omega
      have e2:((x:Int)==92)=false:=by simp;omega
      have J:=Lf (x:Int) ⟨dg,dg⟩ wr m ((k:Int)+1);have zj:((x:Int).toNat).toUInt8=x.toUInt8:=rn;rw[zj]at J;clear zj;clear d G;go_wp2_with fail;go_quiet(fail);go_wp2_with fail;go_quiet(fail);go_wp2;go_roundw;case rel=>exact⟨k+1,f,_,rfl,dg,by simp;omega,dg,by show _=_;rw[<-A.out],(HN _).below ((af _ _).alloc (ae _) _),gr_trans (gr_trans (gr_trans P (aC _ _ _)) (bF _ _ _ _)) (eh ((af _ _).alloc (ae _) _))⟩
      case measure=>rw[((HN _).below ((af _ _).alloc (ae _) _)).rdI,zh.out];omega
   ·have zi:(s.size:Int)<=(k:Int):=dg
    have U:Hid (dU s i=.error k):=by show _=_;rw[<-HF.out,qF,if_pos (dJ za)]
    clear HF;go_wp2_with fail;go_quiet(fail);go_wp2_with fail;refine(CF k _ (G.drewN _)).mono ?_;rintro e w2 ⟨rfl,Q,H⟩;have H2:Hid (RS w2 m s k N (k:Int) I at_ o):=by have:=Q;rw[S.out]at this;exact this
    have D:=qH<|gr_trans (gr_trans P (aC _ _ _)) H;clear Q H;go_wp2;go_ret;exact⟨D,by rw[U.out];exact⟨rfl,k,hk,H2⟩⟩
 ·have F:gD s i 34 l=(sk s i:Int):=by unfold gD;rw[if_neg p]
  have HQ:Hid (dU s i=.error (sk s i)):=by show _=_;unfold dU;rw[if_neg p]
  have M:am s i 34<=s.size:=by unfold aL at p;unfold am;rw[if_neg rd];exact dX s i hi
  rw[F]at R;obtain⟨j,hj⟩:=ad (am s i 34);obtain⟨b,V⟩:∃b:Int,(sk s i:Int)=b:=⟨_,rfl⟩;have zk:=qH<|V;have zr:¬b<0:=dg
  rw[hj,V]at R;rw[hj]at M;clear F hj p V;go_enter func148,ntmps148;go_wp2_with fail;refine R.mono ?_;rintro e w1 ⟨rfl,h1,g1⟩;have HR:=qH<|h1;have ze:=qH<|g1;have c3:=h1.c3;clear h1 g1 R;go_wp2;go_loopw[3,7] (λv _ wr=>v=.string ByteArray.empty/\wr=w1) (λ_ _ _=>0);case atStart=>exact⟨rfl,rfl⟩
  case round=>obtain⟨rfl,hw⟩:=hrel;obtain rfl:=hw.symm;go_wp2;go_ret;exact⟨ze,by rw[HQ.out];exact⟨rfl,j,M,by rw[zk.out];exact HR⟩⟩
def bU:List ByteArray:=[⟨#[114,111,119]⟩,⟨#[99,111,108]⟩,⟨#[115,116,97,99,107]⟩,⟨#[98,111,120]⟩,⟨#[115,99,114,111,108,108]⟩,⟨#[116,101,120,116]⟩,⟨#[103,97,112]⟩]
theorem tV(w:World):Cw 143 #[] w λe w'=>e=Rw (Sq w.heap.size 7 7)/\(∀j,j<7->w'.cell? (aj w.heap.size (0+j))=some (.string (bU[j]?.getD ByteArray.empty)))/\w.heap.size<w'.heap.size/\Bt w w':=by
 have a:Hid (∀j,j<7->(w.alloc (.cells #[.string ⟨#[114,111,119]⟩,.string ⟨#[99,111,108]⟩,.string ⟨#[115,116,97,99,107]⟩,.string ⟨#[98,111,120]⟩,.string ⟨#[115,99,114,111,108,108]⟩,.string ⟨#[116,101,120,116]⟩,.string ⟨#[103,97,112]⟩] 9)).cell? (aj w.heap.size (0+j))=some (.string (bU[j]?.getD ByteArray.empty))):=λj b=>by
  rw[aZ,World.cell?_alloc_at _ _ _ _ rfl];match j,b with
  |0,_=>rfl
  |1,_=>rfl
  |2,_=>rfl
  |3,_=>rfl
  |4,_=>rfl
  |5,_=>rfl
  |6,_=>rfl
 go_enter func143,ntmps143;go_wp2;go_ret;exact⟨rfl,a,rn,(af _ _).alloc (ae _) _⟩
def bS:List ByteArray:=[⟨#[105,100]⟩,⟨#[109,105,110]⟩,⟨#[109,97,120]⟩,⟨#[119,101,105,103,104,116]⟩,⟨#[103,97,112]⟩,⟨#[112,97,100]⟩,⟨#[98,111,114,100,101,114]⟩,⟨#[97,108,105,103,110]⟩,⟨#[119,114,97,112]⟩,⟨#[102,103]⟩,⟨#[98,103]⟩,⟨#[98,111,108,100]⟩]
theorem Fy(w:World):Cw 197 #[] w λe w'=>e=Rw (Sq w.heap.size 12 12)/\(∀j,j<12->w'.cell? (aj w.heap.size (0+j))=some (.string (bS[j]?.getD ByteArray.empty)))/\w.heap.size<w'.heap.size/\Bt w w':=by
 have a:Hid (∀j,j<12->(w.alloc (.cells #[.string ⟨#[105,100]⟩,.string ⟨#[109,105,110]⟩,.string ⟨#[109,97,120]⟩,.string ⟨#[119,101,105,103,104,116]⟩,.string ⟨#[103,97,112]⟩,.string ⟨#[112,97,100]⟩,.string ⟨#[98,111,114,100,101,114]⟩,.string ⟨#[97,108,105,103,110]⟩,.string ⟨#[119,114,97,112]⟩,.string ⟨#[102,103]⟩,.string ⟨#[98,103]⟩,.string ⟨#[98,111,108,100]⟩] 9)).cell? (aj w.heap.size (0+j))=some (.string (bS[j]?.getD ByteArray.empty))):=λj b=>by
  rw[aZ,World.cell?_alloc_at _ _ _ _ rfl];match j,b with
  |0,_=>rfl
  |1,_=>rfl
  |2,_=>rfl
  |3,_=>rfl
  |4,_=>rfl
  |5,_=>rfl
  |6,_=>rfl
  |7,_=>rfl
  |8,_=>rfl
  |9,_=>rfl
  |10,_=>rfl
  |11,_=>rfl
 go_enter func197,ntmps197;go_wp2;go_ret;exact⟨rfl,a,rn,(af _ _).alloc (ae _) _⟩
def gX:List Int:=[999999,100000,100000,100000,100,20,1,2,1,8,8,1]
theorem I5(w:World):Cw 199 #[] w λe w'=>e=Rw (Sq w.heap.size 12 12)/\(∀j,j<12->w'.cell? (aj w.heap.size (0+j))=some (Iq (gX[j]?.getD 0))/\w'.frozen? (aj w.heap.size (0+j))=false)/\w.heap.size<w'.heap.size/\Bt w w':=by
 have a:Hid (∀j,j<12->(w.alloc (.cells #[Iq (999999),Iq (100000),Iq (100000),Iq (100000),Iq (100),Iq (20),Iq (1),Iq (2),Iq (1),Iq (8),Iq (8),Iq (1)] 3)).cell? (aj w.heap.size (0+j))=some (Iq (gX[j]?.getD 0))/\(w.alloc (.cells #[Iq (999999),Iq (100000),Iq (100000),Iq (100000),Iq (100),Iq (20),Iq (1),Iq (2),Iq (1),Iq (8),Iq (8),Iq (1)] 3)).frozen? (aj w.heap.size (0+j))=false):=λj b=>by
  rw[aZ,World.cell?_alloc_at _ _ _ _ rfl,World.frozen?_alloc_at _ _ _ _ rfl];match j,b with
  |0,_=>exact⟨rfl,rfl⟩
  |1,_=>exact⟨rfl,rfl⟩
  |2,_=>exact⟨rfl,rfl⟩
  |3,_=>exact⟨rfl,rfl⟩
  |4,_=>exact⟨rfl,rfl⟩
  |5,_=>exact⟨rfl,rfl⟩
  |6,_=>exact⟨rfl,rfl⟩
  |7,_=>exact⟨rfl,rfl⟩
  |8,_=>exact⟨rfl,rfl⟩
  |9,_=>exact⟨rfl,rfl⟩
  |10,_=>exact⟨rfl,rfl⟩
  |11,_=>exact⟨rfl,rfl⟩
 go_enter func199,ntmps199;go_wp2;go_ret;exact⟨rfl,a,rn,(af _ _).alloc (ae _) _⟩
def aQ:List Int:=[0,0,-1,1,0,0,1,0,1,0,0,0]
theorem zW(w:World):Cw 194 #[] w λe w'=>e=Rw (Sq w.heap.size 12 12)/\(∀j,j<12->w'.cell? (aj w.heap.size (0+j))=some (Iq (aQ[j]?.getD 0))/\w'.frozen? (aj w.heap.size (0+j))=false)/\w.heap.size<w'.heap.size/\Bt w w':=by
 have a:Hid (∀j,j<12->(w.alloc (.cells #[Iq (0),Iq (0),Iq (-1),Iq (1),Iq (0),Iq (0),Iq (1),Iq (0),Iq (1),Iq (0),Iq (0),Iq (0)] 3)).cell? (aj w.heap.size (0+j))=some (Iq (aQ[j]?.getD 0))/\(w.alloc (.cells #[Iq (0),Iq (0),Iq (-1),Iq (1),Iq (0),Iq (0),Iq (1),Iq (0),Iq (1),Iq (0),Iq (0),Iq (0)] 3)).frozen? (aj w.heap.size (0+j))=false):=λj b=>by
  rw[aZ,World.cell?_alloc_at _ _ _ _ rfl,World.frozen?_alloc_at _ _ _ _ rfl];match j,b with
  |0,_=>exact⟨rfl,rfl⟩
  |1,_=>exact⟨rfl,rfl⟩
  |2,_=>exact⟨rfl,rfl⟩
  |3,_=>exact⟨rfl,rfl⟩
  |4,_=>exact⟨rfl,rfl⟩
  |5,_=>exact⟨rfl,rfl⟩
  |6,_=>exact⟨rfl,rfl⟩
  |7,_=>exact⟨rfl,rfl⟩
  |8,_=>exact⟨rfl,rfl⟩
  |9,_=>exact⟨rfl,rfl⟩
  |10,_=>exact⟨rfl,rfl⟩
  |11,_=>exact⟨rfl,rfl⟩
 go_enter func194,ntmps194;go_wp2;go_ret;exact⟨rfl,a,rn,(af _ _).alloc (ae _) _⟩
def fM(kind attr:Nat):Bool:=if attr=4 then(kind==0||kind==1)else if attr=5\/attr=6 then kind==3 else if attr=7\/attr=8 then kind==5 else true
theorem ye(b a:Nat)(h:b<7)(g:a<12)(w:World):Cw 198 #[Iq (b:Int),Iq (a:Int)] w λe w'=>e=Rw (.bool (fM b a))/\w'=w:=by
 obtain⟨r,c⟩:=ad (fM b a);rw[c];have f:b=0\/b=1\/b=2\/b=3\/b=4\/b=5\/b=6:=dg;have d:a=0\/a=1\/a=2\/a=3\/a=4\/a=5\/a=6\/a=7\/a=8\/a=9\/a=10\/a=11:=dg;rcases d with rfl|rfl|rfl|rfl|rfl|rfl|rfl|rfl|rfl|rfl|rfl|rfl<;>rcases f with rfl|rfl|rfl|rfl|rfl|rfl|rfl<;>
  (simp[fM]at c;subst c;go_enter func198,ntmps198;go_wp2;go_ret;simp_all)
structure Nd where
 kind:Nat
 attr:List Int
 text:List UInt8
 kids:List Nat
 up:Int
abbrev fA:=Option (Nat×Nat)
def gI(f:fA)(c p:Nat):fA:=match f with
 |none=>some (c,p)
 |some x=>some x
def bn(b:Bool)(f:fA)(c p:Nat):fA:=if b then gI f c p else f
structure PS where
 i:Nat
 L:List Nd
 er:fA
def cC(s:ByteArray)(i c:Nat):Except Nat Nat:=if aL s i c then .ok (am s i c)else .error (sk s i)
def jq(s:ByteArray)(j k:Nat):Bool:=decide (k=j\/j+6<k\/(j+1<k/\dh s j=48))
def em(L:List Nd)(n:Int):Bool:=L.any λd=>d.attr[0]?.getD 0==n
def gP(s:ByteArray)(kind:Nat)(L:List Nd)(i:Nat)(er:fA)(a:List Int)(seen:List Nat):Except Nat (Nat×fA×List Int×List Nat):=
 let at_:=sk s i
 let k:=run ao s at_
 if k=at_ then .error at_ else
 match cC s k 61 with
 |.error b=>.error b
 |.ok i2=>
  let j:=sk s i2
  let e:=run aP s j
  if jq s j e then .error j else
  let n:=dv s j (e-j)
  let ix:=aI bS (s.extract at_ k) 0
  if ix<0\/fM kind ix.toNat=false then .ok (e,gI er 7 at_,a,seen)
  else .ok (e,bn (decide (ix=0/\0<n)&&em L n) (bn (decide (gX[ix.toNat]?.getD 0<n)) (bn (seen.contains ix.toNat) er 5 at_) 6 j) 5 j,a.set ix.toNat n,ix.toNat::seen)
def dw(s:ByteArray)(kind:Nat)(L:List Nd):Nat->Nat->fA->List Int->List Nat->Except Nat (Nat×fA×List Int)
 |0,i,_,_,_=>.error i
 |f+1,i,er,a,seen=>match gP s kind L i er a seen with
  |.error b=>.error b
  |.ok (i2,Gq,a2,QI)=>
   if aL s i2 59 then dw s kind L f (am s i2 59) Gq a2 QI
   else match cC s i2 125 with
    |.error b=>.error b
    |.ok i3=>.ok (i3,Gq,a2)
def cW(s:ByteArray)(kind:Nat)(L:List Nd)(i:Nat)(er:fA):Except Nat (Nat×fA×List Int):=
 if aL s i 123 then dw s kind L (s.size+1) (am s i 123) er aQ []else .ok (sk s i,er,aQ)
def grown(L:List Nd)(d:Nd):List Nd:=
 if d.up<0 then L++[d]else(L.modify d.up.toNat λu=>{u with kids:=u.kids++[L.length]})++[d]
def aA(L:List Nd)(k:Nat)(t:List UInt8):List Nd:=L.modify k λu=>{u with text:=t}
def dD(s:ByteArray)(bM:PS->Except Nat PS):Nat->PS->Except Nat PS
 |0,st=>.error st.i
 |f+1,st=>match bM st with
  |.error b=>.error b
  |.ok Ge=>if aL s Ge.i 44 then dD s bM f {Ge with i:=am s Ge.i 44}else match cC s Ge.i 93 with
   |.error b=>.error b
   |.ok i3=>.ok {Ge with i:=i3}
def iw(s:ByteArray)(kind k:Nat)(bM:PS->Except Nat PS)(st:PS):Except Nat PS:=
 if kind<3 then match cC s st.i 91 with
  |.error b=>.error b
  |.ok i2=>if aL s i2 93 then .ok {st with i:=am s i2 93}else dD s bM (s.size+1) {st with i:=sk s i2}
 else if kind<5 then match cC s st.i 91 with
  |.error b=>.error b
  |.ok i2=>match bM {st with i:=i2}with
   |.error b=>.error b
   |.ok VN=>match cC s VN.i 93 with
    |.error b=>.error b
    |.ok i4=>.ok {VN with i:=i4}
 else if kind=5 then match dU s st.i with
  |.error b=>.error b
  |.ok (i2,t)=>.ok {st with i:=i2,L:=aA st.L k t}
 else .ok st
def cD(s:ByteArray):Nat->Int->Nat->PS->Except Nat PS
 |0,_,_,st=>.error st.i
 |f+1,up,fs,st=>
  let at_:=sk s st.i
  let k:=run ao s at_
  let kind:=aI bU (s.extract at_ k) 0
  if k=at_\/kind<0 then .error at_ else
  match cW s kind.toNat st.L k (bn (decide (12<=fs)) (bn (decide (100<=st.L.length)) st.er 3 at_) 4 at_)with
  |.error b=>.error b
  |.ok (i2,Gq,a)=>iw s kind.toNat st.L.length (cD s f st.L.length (fs+1)) {i:=i2,L:=grown st.L ⟨kind.toNat,a,[],[],up⟩,er:=Gq}
def fu(s:ByteArray):Except (Nat×Nat) (List Nd):=
 if 4000<s.size then .error (1,0)else
 match cD s (s.size+1) (-1) 0 ⟨0,[],none⟩with
 |.error b=>.error (2,b)
 |.ok st=>if sk s st.i<s.size then .error (2,sk s st.i)else match st.er with
  |some f=>.error f
  |none=>.ok st.L
def iX(l:List Nat):List Value:=l.map fun(k:Nat)=>Iq (k:Int)
structure Up(B:Nat)(W W':World):Prop where
 size:W.heap.size<=W'.heap.size
 block:∀b,B<=b->b<W.heap.size->W'.heap[b]?=W.heap[b]?
theorem Up.refl B W:Up B W W:=⟨ae _,λ_ _ _=>rfl⟩
theorem Up.trans{B}{W a c}(h:Up B W a)(k:Up B a c):Up B W c:=
 ⟨aF h.size k.size,λb h1 d=>(k.block b h1 (zz007 d h.size)).trans (h.block b h1 d)⟩
theorem Up.grown{B r}{W W'}(h:W.grownBy W' (some r))(c:r<B):Up B W W':=
 ⟨h.size,λb h1 a=>h.block b a rd⟩
theorem Up.below{B}{W W'}(h:Bt W W'):Up B W W':=⟨h.size,λb _ a=>h.block b a⟩
theorem Up.drewN B W q:Up B W (W.drewN q):=⟨ae _,λ_ _ _=>rfl⟩
theorem Jj{W W'}{B n size}{e}{v}{j}(h:W.ownsRow B e size v n j)(hu:Up B W W'):W'.ownsRow B e size v n j:=by
 refine⟨h.1,?_⟩;rcases h.2 with k|⟨g,f,i,a,b,c,d⟩;·exact .inl k
 ·refine .inr ⟨g,f,i,a,b,?_,d⟩;rw[hu.block g b (aD.1 c).1];exact c
theorem eL{W:World}{B l n q size a}{e k}{v v'}{r f}(h:W.ownsRow B e size v n r)(p:W.ownsRow l k a v' q f)(w:e≠k):v.ownBlock=none\/v.ownBlock≠v'.ownBlock:=by
 rcases h.2 with⟨rfl,_⟩|⟨g,m,o,rfl,b,c,d⟩;·exact .inl rfl
 ·right;rcases p.2 with⟨rfl,_⟩|⟨u,i,j,rfl,s,t,d'⟩;·simp[Value.ownBlock]
  ·intro hh;simp[Value.ownBlock]at hh;grind
theorem cU{W:World}{B n size}{e}{v}{k}(h:W.ownsRow B e size v n k):(v=.slice none 0 0/\n=0)\/∃g i,v=Sq g n i/\B<=g/\g<W.heap.size/\n<=i/\i<=maxLen:=by rcases h.2 with l|⟨g,i,j,a,b,c,d,f,_⟩;all_goals grind
structure NR(W:World)(B:Nat)(T:TypeId)(z:Nat)(nv:Value)(n:Nat)(C:Nat->List Value)(KV:Nat->Value)(K:Nat->List Nat):Prop where
 row:∃xs,W.ownsRow B T z nv n xs
 cells:∀g,nv.ownBlock=some g->∀j,j<n->∀(t:Nat) u,(C j)[t]?=some u->W.cell? (aj g (j*z+t))=some u
 len:∀j,j<n->(C j).length=z
 kids:∀j,j<n->W.ownsRow B 3 1 (KV j) (K j).length (iX (K j))
 sep:∀i j,i<n->j<n->i≠j->∀b,(KV i).ownBlock=some b->(KV j).ownBlock≠some b
section
variable{W W':World} {B z n:Nat} {T:TypeId} {nv:Value} {C:Nat->List Value} {KV:Nat->Value} {K:Nat->List Nat}
theorem NR.nothing W B T z C KV K:NR W B T z (.slice none 0 0) 0 C KV K:=
 ⟨⟨[],eO _ _ _ _⟩,λ_ _ j h=>absurd h dg,λj h=>absurd h dg,λj h=>absurd h dg,λi j h=>absurd h dg⟩
theorem NR.up(h:NR W B T z nv n C KV K)(hu:Up B W W'):NR W' B T z nv n C KV K:=by obtain⟨f,e⟩:=h.row;refine⟨⟨f,Jj e hu⟩,λg c j a t u b=>?_,h.len,λj a=>Jj (h.kids j a) hu,h.sep⟩;have:=h.cells g c j a t u b;have d:=e.lt g c;rw[bf (hu.block g d.1 d.2)];omega
theorem NR.form(h:NR W B T z nv n C KV K)(b:0<n):∃g a,nv=Sq g n a/\B<=g/\g<W.heap.size/\n<=a/\a<=maxLen:=by obtain⟨d,c⟩:=h.row;grind[cU]
theorem NR.cell{g a}(h:NR W B T z (Sq g n a) n C KV K){j}(b:j<n){t}{u}(c:(C j)[t]?=some u):W.cell? (aj g (j*z+t))=some u:=h.cells g rfl j b t u c
theorem NR.frozen{g a}(h:NR W B T z (Sq g n a) n C KV K)j:W.frozen? (aj g j)=false:=by obtain⟨c,b⟩:=h.row;exact b.frozenAt j
theorem NR.frz(h:NR W B T z nv n C KV K){g}(a:nv.ownBlock=some g)j:W.frozen? (aj g j)=false:=by
 obtain⟨e,b⟩:=h.row;rcases cU b with⟨rfl,_⟩|⟨d,c,rfl,_⟩;·simp[Value.ownBlock]at a
 ·simp[Value.ownBlock]at a;subst a;exact b.frozenAt j
theorem NR.app{k}{x c}(h:NR W B T z nv n C KV K)(A:3≠T)(s:W.ownsRow B T z nv n x)(f:W'.ownsRow B T z k (n+1) (x++c))(D:W.grownBy W' nv.ownBlock)(G:c.length=z):
 NR W' B T z k (n+1) (λj=>if j=n then c else C j) (λj=>if j=n then .slice none 0 0 else KV j) (λj=>if j=n then[]else K j):=by
 have E:=s.1;refine⟨⟨_,f⟩,λg o j q t u d=>?_,λj q=>?_,λj q=>?_,λi j hi q p b l=>?_⟩
 ·have v:=f.cells o;have e:∀m,((aj g 0):Addr).add m=(aj g m):=λm=>by unfold Addr.add;grind
  have H:t<z:=by
   have h1:=(lQ.1 d).1;by_cases a:j=n;·grind
   ·rw[if_neg a,h.len j dg]at h1;exact h1
  rw[<-e];refine v _ _ ?_;by_cases a:j=n;·grind
  ·rw[if_neg a]at d;have r:j*z+t<n*z:=by have:(j+1)*z<=n*z:=lR _ dg;rw[kN]at this;omega
   rw[NQ dg];obtain⟨F,y,rfl,_⟩:=h.form dg;have h1:=h.cell dg d;rw[s.cellAt _ r]at h1;exact h1
 ·by_cases a:j=n;·grind
  ·rw[if_neg a];exact h.len j dg
 ·by_cases a:j=n;·rw[if_pos a,if_pos a];exact eO _ _ _ _
  ·rw[if_neg a,if_neg a];exact(h.kids j dg).kept D (eL (h.kids j dg) s A)
 ·by_cases h1:i=n;·rw[if_pos h1]at l;simp[Value.ownBlock]at l
  ·rw[if_neg h1]at l;by_cases w:j=n;·rw[if_pos w];simp[Value.ownBlock]
   ·rw[if_neg w];exact h.sep i j dg dg p b l
theorem NR.set{g i}(h:NR W B T z (Sq g n i) n C KV K)(x:3≠T){k t}(v:k<n)(y:t<z)u:
 NR (W.setCell (aj g (k*z+t)) u) B T z (Sq g n i) n (λj=>if j=k then(C k).set t u else C j) KV K:=by
 obtain⟨E,o⟩:=h.row;have f:=o.stored (k*z+t) u;have q:k*z+t<n*z:=by have:(k+1)*z<=n*z:=lR _ dg;rw[kN]at this;omega
 refine⟨⟨_,f.1⟩,λw c j d p D b=>?_,λj d=>?_,λj d=>?_,h.sep⟩
 ·injection c with c;have c:g=w:=c;subst c;have A:p<z:=by
   have h1:=(lQ.1 b).1;by_cases l:j=k;·rw[if_pos l]at h1;simp[h.len k v]at h1;exact h1
   ·rw[if_neg l,h.len j dg]at h1;exact h1
  have m:j*z+p<n*z:=by have:(j+1)*z<=n*z:=lR _ dg;rw[kN]at this;omega
  rw[f.1.cellAt _ m];have hold:=(o.cellAt _ m).symm;by_cases a:j=k
  ·subst a;rw[if_pos rfl]at b;by_cases s:t=p;·subst s;rw[Ke (by rw[o.1];exact q)];grind
   ·rw[sE dg]at b⊢;rw[hold];exact h.cell d b
  ·rw[if_neg a]at b;have r:k*z+t≠j*z+p:=by
    intro e;rcases Nat.lt_or_gt_of_ne a with hh|hh;·have:(j+1)*z<=k*z:=lR _ dg;rw[kN]at this;omega
    ·have:(k+1)*z<=j*z:=lR _ dg;rw[kN]at this;omega
   rw[sE r,hold];exact h.cell d b
 ·by_cases a:j=k;·rw[if_pos a];simp[h.len k v]
  ·rw[if_neg a];exact h.len j d
 ·exact(h.kids j d).kept f.2 (eL (h.kids j d) o x)
theorem NR.kid{g p}{kv'}{k t c}(h:NR W B T z (Sq g n p) n C KV K)(y:3≠T)(q:k<n)(J:t<z)(I:W'.ownsRow B 3 1 kv' ((K k).length+1) (iX (K k++[c])))(A:W.grownBy W' (KV k).ownBlock)(u:kv'.ownBlock=(KV k).ownBlock\/kv'.ownBlock=some W.heap.size):
 NR (W'.setCell (aj g (k*z+t)) kv') B T z (Sq g n p) n (λj=>if j=k then(C k).set t kv' else C j) (λj=>if j=k then kv' else KV j) (λj=>if j=k then K k++[c]else K j):=by
 obtain⟨M,x⟩:=h.row;have F:=x.kept A (eL x (h.kids k q) (Ne.symm y));have D:=x.lt g rfl;have v:=A.block g D.2 (by
  rcases eL (h.kids k q) x y with e|e;·rw[e];simp
  ·exact λr=>e r.symm);have m:=λj l a=>(h.kids j l).kept A (by
  cases d:(KV j).ownBlock with
  |none=>exact .inl rfl
  |some b=>right;exact λe=>h.sep j k l q a b d e.symm);have G:NR W' B T z (Sq g n p) n C (λj=>if j=k then kv' else KV j) (λj=>if j=k then K k++[c]else K j):=by
  refine⟨⟨M,F⟩,λH f j l N O E=>?_,h.len,λj l=>?_,λi j hi l w b d=>?_⟩;·injection f with f;have f:g=H:=f;subst f;rw[bf v];exact h.cell l E
  ·by_cases a:j=k;·rw[if_pos a,if_pos a];simpa using I
   ·rw[if_neg a,if_neg a];exact m j l a
  ·have o:∀i,i<n->(KV i).ownBlock≠some W.heap.size:=λi hi e=>by have:=(h.kids i hi).lt _ e;omega
   by_cases h1:i=k
   ·rw[if_pos h1]at d;have s:j≠k:=λe=>w (h1.trans e.symm);rw[if_neg s];rcases u with e|e;·rw[e]at d;exact h.sep k j q l (λe=>s e.symm) b d
    ·rw[e]at d;injection d with d;rw[<-d];exact o j l
   ·rw[if_neg h1]at d;by_cases s:j=k
    ·rw[if_pos s];rcases u with e|e;·rw[e];exact h.sep i k hi q h1 b d
     ·rw[e];intro r;injection r with r;exact o i hi (by rw[d,r])
    ·rw[if_neg s];exact h.sep i j hi l w b d
 exact G.set y q J kv'
end
def Vx:Nd:=⟨0,[],[],[],0⟩
def aa(L:List Nd)(j:Nat):Nd:=L[j]?.getD Vx
theorem ci{L}{d}{j}(h:j<L.length):aa (L++[d]) j=aa L j:=by grind[aa]
theorem cJ L d:aa (L++[d]) L.length=d:=by grind[aa]
theorem aT{L:List Nd}{k}f(h:k<L.length):aa (L.modify k f) k=f (aa L k):=by grind[aa]
theorem aN{L}{k j}f(h:j≠k):aa (L.modify k f) j=aa L j:=by grind[aa]
theorem NR.congr{W}{B z n}{T}{nv}{C f}{KV c}{K k}(h:NR W B T z nv n C KV K)(h1:∀j,j<n->f j=C j)(d:∀j,j<n->c j=KV j)(m:∀j,j<n->k j=K j):NR W B T z nv n f c k:=
 ⟨h.row,λg o j a t u p=>h.cells g o j a t u rd,λj a=>by rw[h1 j a];exact h.len j a,λj a=>by rw[d j a,m j a];exact h.kids j a,
  λi j hi a e b l=>by rw[d j a];rw[d i hi]at l;exact h.sep i j hi a e b l⟩
structure Fr(B r:Nat)(W W':World):Prop where
 os:W'.os=W.os
 tape:W'.tape=W.tape
 output:W'.output=W.output
 size:W.heap.size<=W'.heap.size
 block:∀b,b<B->b≠r->W'.heap[b]?=W.heap[b]?
theorem Fr.refl B r W:Fr B r W W:=⟨rfl,rfl,rfl,ae _,λ_ _ _=>rfl⟩
theorem Fr.trans{B r}{W a c}(h:Fr B r W a)(k:Fr B r a c):Fr B r W c:=
 ⟨k.os.trans h.os,k.tape.trans h.tape,k.output.trans h.output,aF h.size k.size,λb h1 d=>(k.block b h1 d).trans (h.block b h1 d)⟩
theorem Fr.grown{B r}{W W'}(h:W.grownBy W' (some r))(c:B<=W.heap.size):Fr B r W W':=
 ⟨h.os,h.tape,h.output,h.size,λb h1 a=>h.block b dg rd⟩
theorem Fr.own{B r}{W W'}{o}(h:W.grownBy W' o)(c:B<=W.heap.size)(d:∀g,o=some g->B<=g):Fr B r W W':=
 ⟨h.os,h.tape,h.output,h.size,λb h1 a=>h.block b dg (λe=>rd)⟩
theorem Fr.below{B a r}{W W'}(h:Below a W W')(d:B<=a):Fr B r W W':=
 ⟨h.os,h.tape,h.output,h.size,λb h1 c=>h.block b dg⟩
theorem Fr.drewN B r W q:Fr B r W (W.drewN q):=⟨rfl,rfl,rfl,ae _,λ_ _ _=>rfl⟩
theorem Fr.cell{B r}{W W'}(h:Fr B r W W'){a}{v}(c:W.cell? a=some v)(h1:a.block<B)(b:a.block≠r):W'.cell? a=some v:=
 (bf (h.block a.block h1 b)).trans c
theorem Fr.frozen{B r}{W W'}(h:Fr B r W W'){a}(h1:a.block<B)(b:a.block≠r):W'.frozen? a=W.frozen? a:=
 nH (h.block a.block h1 b)
def bC(d:Nd)(kv:Value):List Value:=Iq (d.kind:Int)::((d.attr.map fun(x:Int)=>Iq x)++[.string ⟨d.text.toArray⟩,kv,Iq d.up])
theorem Mj d a:(bC d a)[0]?=some (Iq (d.kind:Int)):=rfl
theorem DJ{d}{a}{t}(h:t<d.attr.length):(bC d a)[t+1]?=some (Iq (d.attr[t]?.getD 0)):=by unfold bC;grind
theorem DK{d}{a}(h:d.attr.length=12):(bC d a)[13]?=some (.string ⟨d.text.toArray⟩):=by grind[bC]
theorem Mi{d}{a}(h:d.attr.length=12):(bC d a)[14]?=some a:=by grind[bC]
theorem OP{d}{a}(h:d.attr.length=12):(bC d a).length=16:=by simp_all[bC]
theorem yp{d}{b}{t}(h:t<d.attr.length)x:(bC d b).set (t+1) (Iq x)=bC {d with attr:=d.attr.set t x} b:=by simp_all[bC]
theorem yr{d}{a}(h:d.attr.length=12)x:(bC d a).set 13 (.string ⟨x.toArray⟩)=bC {d with text:=x} a:=by simp_all[bC]
theorem yq{d}{c a}(h:d.attr.length=12)b:(bC d c).set 14 a=bC {d with kids:=b} a:=by simp_all[bC]
structure PN(W:World)(B:Nat)(nv:Value)(L:List Nd)(KV:Nat->Value):Prop where
 nr:NR W B 57 16 nv L.length (λj=>bC (aa L j) (KV j)) KV (λj=>(aa L j).kids)
 len:∀j,j<L.length->(aa L j).attr.length=12
section
variable{W W':World} {B:Nat} {nv:Value} {L:List Nd} {KV:Nat->Value}
theorem PN.up(h:PN W B nv L KV)(hu:Up B W W'):PN W' B nv L KV:=⟨h.nr.up hu,h.len⟩
theorem PN.app{a}{g}{d}(h:PN W B nv L KV)(l:W.ownsRow B 57 16 nv L.length g)(f:W'.ownsRow B 57 16 a (L.length+1) (g++bC d (.slice none 0 0)))(i:W.grownBy W' nv.ownBlock)(k:d.attr.length=12)(m:d.kids=[]):
 PN W' B a (L++[d]) (λj=>if j=L.length then .slice none 0 0 else KV j):=by
 refine⟨?_,λj b=>?_⟩
 ·have c:(L++[d]).length=L.length+1:=rn
  rw[c];refine(h.nr.app (by decide) l f i (OP k)).congr (λj b=>?_) (λj b=>rfl) (λj b=>?_);all_goals grind[cJ,ci]
 ·by_cases e:j=L.length;·grind[cJ]
  ·rw[ci rd];exact h.len j rd
theorem PN.mod{g a k t}{u}(h:PN W B (Sq g L.length a) L KV)(l:k<L.length)(m:t<16)f(o:(bC (aa L k) (KV k)).set t u=bC (f (aa L k)) (KV k))(d:(f (aa L k)).kids=(aa L k).kids)(i:(f (aa L k)).attr.length=12):
 PN (W.setCell (aj g (k*16+t)) u) B (Sq g L.length a) (L.modify k f) KV:=by
 refine⟨?_,λj b=>?_⟩
 ·have c:(L.modify k f).length=L.length:=rn
  rw[c];refine(h.nr.set (by decide) l m u).congr (λj b=>?_) (λj b=>rfl) (λj b=>?_);all_goals grind[aT,aN]
 ·by_cases e:j=k;·grind[aT]
  ·rw[aN f e];exact h.len j rd
theorem PN.setAttr{g a k t}(h:PN W B (Sq g L.length a) L KV)(b:k<L.length)(e:t<12)x:
 PN (W.setCell (aj g (k*16+(t+1))) (Iq x)) B (Sq g L.length a) (L.modify k λd=>{d with attr:=d.attr.set t x}) KV:=
 h.mod b dg _ (yp (by rw[h.len k b];exact e) x) rfl (by simp[h.len k b])
theorem PN.setText{g a k}(h:PN W B (Sq g L.length a) L KV)(b:k<L.length)x:
 PN (W.setCell (aj g (k*16+13)) (.string ⟨x.toArray⟩)) B (Sq g L.length a) (aA L k x) KV:=
 h.mod b dg _ (yr (h.len k b) x) rfl (h.len k b)
theorem PN.kid{g a}{kv'}{k c}(h:PN W B (Sq g L.length a) L KV)(b:k<L.length)(m:W'.ownsRow B 3 1 kv' ((aa L k).kids.length+1) (iX ((aa L k).kids++[c])))(l:W.grownBy W' (KV k).ownBlock)(d:kv'.ownBlock=(KV k).ownBlock\/kv'.ownBlock=some W.heap.size):
 PN (W'.setCell (aj g (k*16+14)) kv') B (Sq g L.length a) (L.modify k λu=>{u with kids:=u.kids++[c]}) (λj=>if j=k then kv' else KV j):=by
 refine⟨?_,λj f=>?_⟩
 ·have i:(L.modify k λu=>{u with kids:=u.kids++[c]}).length=L.length:=rn
  rw[i];refine(h.nr.kid (t:=14) (by decide) b dg m l d).congr (λj f=>?_) (λj f=>rfl) (λj f=>?_)
  ·by_cases e:j=k;·subst e;simp only[if_true];rw[aT _ b];exact(yq (h.len j b) _).symm
   grind[aN]
  grind[aT,aN]
 ·by_cases e:j=k;·subst e;rw[aT _ b];exact h.len j b
  ·rw[aN _ e];exact h.len j rd
end
theorem iV L d(k:Nat)(hd:d.up=(k:Int))(a:k<L.length):grown L d=(L++[d]).modify k λu=>{u with kids:=u.kids++[L.length]}:=by unfold grown;rw[if_neg dg,hd];simp only[jG];apply Kf;grind
def AK(w:World)(v:Value)(zs:List Int):Prop:=
 ∃a cap,v=.slice a zs.length cap/\(zs=[]\/∃b off,a=some (aj b off)/\b<w.heap.size/\∀j,j<zs.length->w.cell? (aj b (off+j))=some (Iq (zs[j]?.getD 0)))
def jp(d:Nd)(av kv:Value):List Value:=[Iq (d.kind:Int),av,.string ⟨d.text.toArray⟩,kv,Iq d.up]
def NI:List Nd->List Value->List Value->List Value
 |d::L,a::A,k::K=>jp d a k++NI L A K
 |_,_,_=>[]
def KQ(W:World)(B:Nat)(v:Value)(a:List Int):Prop:=∃ab,v=Sq ab 12 12/\B<=ab/\ab<W.heap.size/\a.length=12/\∀j,j<12->W.cell? (aj ab j)=some (Iq (a[j]?.getD 0))/\W.frozen? (aj ab j)=false
def uR:Value->Option Nat
 |.slice (some a) _ _=>some a.block
 |_=>none
structure NA(W:World)(B:Nat)(lv:Value)(L:List Nd)(AV KV:List Value):Prop where
 row:W.ownsRow B 100 5 lv L.length (NI L AV KV)
 lenA:AV.length=L.length
 lenK:KV.length=L.length
 attr:∀(j:Nat) d v,L[j]?=some d->AV[j]?=some v->KQ W B v d.attr
 kids:∀(j:Nat) d v,L[j]?=some d->KV[j]?=some v->W.ownsRow B 3 1 v d.kids.length (d.kids.map fun(k:Nat)=>Iq (k:Int))
 sepKK:∀(i j:Nat) (u v:Value),i≠j->KV[i]?=some u->KV[j]?=some v->∀b,u.ownBlock=some b->v.ownBlock≠some b
 sepKL:∀(j:Nat) (v:Value),KV[j]?=some v->∀b,v.ownBlock=some b->lv.ownBlock≠some b
 sepAL:∀(j:Nat) (v:Value),AV[j]?=some v->∀b,uR v=some b->lv.ownBlock≠some b
 sepAK:∀(i j:Nat) (u v:Value),AV[i]?=some u->KV[j]?=some v->∀b,uR u=some b->v.ownBlock≠some b
theorem t'{W W':World}{B r n size}{e}{v}{k}(h:W.ownsRow B e size v n k)(l:W.grownBy W' (some r))(m:∀b,v.ownBlock=some b->b≠r):W'.ownsRow B e size v n k:=by
 refine⟨h.1,?_⟩;rcases h.2 with o|⟨g,f,i,a,b,c,d⟩;·grind
 ·have j:=m g (by rw[a];rfl);refine .inr ⟨g,f,i,a,b,?_,d⟩;rw[l.block g (aD.1 c).1 (λe=>j rd)];exact c
theorem Jh{W:World}{B n size}{e}{v}{c}(h:W.ownsRow B e size v n c){b}(a:v.ownBlock=some b):B<=b/\b<W.heap.size:=h.lt b a
theorem Lv{A B:World}{r b o}(a:A.grownBy B (some r))(c:b<A.heap.size)(d:b≠r):B.frozen? (aj b o)=A.frozen? (aj b o):=by unfold World.frozen?;rw[a.block b c (λe=>d rd)]
theorem KQ.grown{W W'}{B r}{v}{a}(h:KQ W B v a)(c:W.grownBy W' (some r))(k:∀b,uR v=some b->b≠r):KQ W' B v a:=by obtain⟨ab,rfl,h1,e,i,f⟩:=h;have d:=k ab rfl;exact⟨ab,rfl,h1,zz007 e c.size,i,λj g=>⟨c.cell (f j g).1 rd,(Lv c e d).trans (f j g).2⟩⟩
theorem NA.grown{W W'}{B r}{g}{L}{f KV}(h:NA W B g L f KV)(e:W.grownBy W' (some r))(k:r<B):NA W' B g L f KV:=by
 refine⟨t' h.row e λb a=>by have:=Jh h.row a;omega,h.lenA,h.lenK,λj d v h1 c=>?_,λj d v h1 c=>?_,h.sepKK,h.sepKL,h.sepAL,h.sepAK⟩;·refine(h.attr j d v h1 c).grown e λb a=>?_;obtain⟨ab,rfl,i,_⟩:=h.attr j d v h1 c;injection a with a;grind
 ·exact t' (h.kids j d v h1 c) e λb a=>by have:=Jh (h.kids j d v h1 c) a;omega
theorem BK(d:Nat)(s:ByteArray)(i:Nat)(g:Value)(a f at_ b:Int)(w:World)(h:RS w d s i g a f at_ b)(F:s.size<=1099511627776)(hi:i<=s.size)(J:0<=a):
 Cw 196 #[Pq d] w λe w'=>e=Rw (.tuple #[Iq 0,Iq (sk s i:Int)])/\RS w' d s (sk s i) g a f at_ b/\w.grownBy w' (some d):=by
 have CS:=qH<|skip_any d s i g a f at_ b w h F hi;obtain⟨j,t⟩:=ad (sk s i);have m:=dX s i hi;rw[t]at CS m⊢;clear h t;go_enter func196,ntmps196;go_wp2_with fail;refine CS.mono ?_;rintro e M ⟨rfl,h1,p⟩;have H:=qH<|h1;have D:=qH<|p;have d1:=h1.c1;have l:¬a<0:=dg
 have I:=decide_eq_false l;clear h1 p CS;go_wp2;clear d1;go_loopw[5,13] (λv _ wr=>v=Iq 0/\Hid (RS wr d s j g a f at_ b)/\Hid (w.grownBy wr (some d))) (λ_ _ wr=>0);case atStart=>grind
 case round=>
  obtain⟨rfl,o,A⟩:=hrel;have c:=o.out;have E:=c.c0;have c1:=c.c1;have c3:=c.c3;have u:=qH<|λW h=>fail_any d s j g a f at_ b j W h;have y:Hid (e_ a (j:Int)=a):=by show _=_;unfold e_;rw[if_neg dg]
  have u0:(j:Int)-(j:Int)=0:=dg;clear c;go_wp2_with fail;go_quiet(fail);go_wp2_with fail;refine(u _ (o.drewN _)).mono ?_;rintro e G ⟨rfl,r,q⟩;have x:Hid (RS G d s j g a f at_ b):=by have:=r;rw[y.out]at this;exact this
  have k:=qH<|gr_trans (gr_trans A (aC _ _ _)) q;clear r q E c1 c3;go_wp2;go_ret2;exact⟨rfl,x,k⟩
def wS(s:ByteArray)(i:Nat)(bad:Int):ByteArray:=if bad<0 then s.extract (sk s i) (run ao s (sk s i))else ByteArray.empty
def wI(s:ByteArray)(i:Nat)(bad:Int):Nat:=if bad<0 then run ao s (sk s i)else sk s i
def wB(s:ByteArray)(i:Nat)(bad:Int):Int:=if bad<0 then im s i bad else bad
def mI(s:ByteArray)(i c:Nat)(bad:Int):Nat:=if bad<0 then am s i c else sk s i
def mB(s:ByteArray)(i c:Nat)(bad:Int):Int:=if bad<0 then gD s i c bad else bad
def gB(s:ByteArray)(i c:Nat)(bad:Int):Bool:=if bad<0 then aL s i c else false
def nV(s:ByteArray)(i:Nat)(bad:Int):Int:=if bad<0 then dv s (sk s i) (run aP s (sk s i)-sk s i)else 0
def nI(s:ByteArray)(i:Nat)(bad:Int):Nat:=if bad<0 then run aP s (sk s i)else sk s i
def nB(s:ByteArray)(i:Nat)(bad:Int):Int:=if bad<0 then jN s (sk s i) (run aP s (sk s i)) bad else bad
theorem DY{s}{i}a(hi:i<=s.size):wI s i a<=s.size:=by grind[wI,h_,dX]
theorem dK{s}{i c}(a:c<256)(hi:i<=s.size):am s i c<=s.size:=by grind[am,sk,dJ,dX]
theorem oV{s}{i c}a(b:c<256)(hi:i<=s.size):mI s i c a<=s.size:=by grind[mI,dK,dX]
theorem QB{s}{i}a(hi:i<=s.size):nI s i a<=s.size:=by grind[nI,h_,dX]
theorem NH s i a:0<=nV s i a/\nV s i a<=999999:=by
 unfold nV;split;·have h:=qG s (sk s i) (run aP s (sk s i)-sk s i) (λt b=>by have:=nu (p:=aP) s (s.size-sk s i) (sk s i) t (by grind[nt,aP,sk,run]);grind[aP]);omega
 ·omega
theorem word_all d s i g a f at_ b w(h:RS w d s i g a f at_ b)(j:s.size<=1099511627776)(hi:i<=s.size):
 Cw 141 #[Pq d] w λe w'=>e=Rw (.string (wS s i a))/\RS w' d s (wI s i a) g (wB s i a) f at_ b/\w.grownBy w' (some d):=by
 unfold wS wI wB;by_cases c:a<0;·rw[if_pos c,if_pos c,if_pos c];exact J_ d s i g a f at_ b w h j hi c
 ·rw[if_neg c,if_neg c,if_neg c];exact z_ d s i g a f at_ b w h j hi dg
theorem m6 b s i g bad f at_ a(c:Nat)w(h:RS w b s i g bad f at_ a)(j:s.size<=1099511627776)(hi:i<=s.size)(k:c<256):
 Cw 147 #[Pq b,.int .u8 (c:Int)] w λe w'=>e=Rw (.tuple #[])/\RS w' b s (mI s i c bad) g (mB s i c bad) f at_ a/\w.grownBy w' (some b):=by
 unfold mI mB;by_cases d:bad<0;·rw[if_pos d,if_pos d];exact xO b s i g bad f at_ a c w h j hi k d
 ·rw[if_neg d,if_neg d];exact I7 b s i g bad f at_ a c w h j hi dg
theorem pV d s i j a g at_ b(c:Nat)w(h:RS w d s i j a g at_ b)(k:s.size<=1099511627776)(hi:i<=s.size)(l:c<256):
 Cw 195 #[Pq d,.int .u8 (c:Int)] w λe w'=>e=Rw (.bool (gB s i c a))/\RS w' d s (mI s i c a) j a g at_ b/\w.grownBy w' (some d):=by
 unfold mI gB;by_cases f:a<0;·rw[if_pos f,if_pos f];exact got_any d s i j a g at_ b c w h k hi l f
 ·rw[if_neg f,if_neg f];exact got_bad d s i j a g at_ b c w h k hi dg
theorem BI d s i g a f at_ b w(h:RS w d s i g a f at_ b)(j:s.size<=1099511627776)(hi:i<=s.size):
 Cw 196 #[Pq d] w λe w'=>e=Rw (.tuple #[Iq (nV s i a),Iq (sk s i:Int)])/\RS w' d s (nI s i a) g (nB s i a) f at_ b/\w.grownBy w' (some d):=by
 unfold nV nI nB;by_cases c:a<0;·rw[if_pos c,if_pos c,if_pos c];exact BJ d s i g a f at_ b w h j hi c
 ·rw[if_neg c,if_neg c,if_neg c];exact BK d s i g a f at_ b w h j hi dg
structure PF where
 i:Nat
 bad:Int
 n:Int
 p:Nat
 at_:Nat
 ix:Int
def bc(s:ByteArray)(i:Nat)(bad:Int):PF:=
 let j:=sk s i
 let i1:=wI s j bad
 let b1:=wB s j bad
 let i2:=mI s i1 61 b1
 let b2:=mB s i1 61 b1
 {i:=nI s i2 b2,bad:=nB s i2 b2,n:=nV s i2 b2,p:=sk s i2,at_:=j,ix:=aI bS (wS s j bad) 0}
structure PR(W:World)(rb:Nat)(s:ByteArray)(i:Nat)(av nv fv:Value):Prop where
 lt:rb<W.heap.size
 c0:W.cell? (aj rb 0)=some (.string s)
 c1:W.cell? (aj rb 1)=some (Iq (i:Int))
 c2:W.cell? (aj rb 2)=some av
 c3:W.cell? (aj rb 3)=some nv
 c4:W.cell? (aj rb 4)=some fv
 fz:∀j,W.frozen? (aj rb j)=false
theorem PR.below{W W'}{a}{s}{i}{c nv d}(h:PR W a s i c nv d)(b:Bt W W'):PR W' a s i c nv d:=
 have k:∀j v,W.cell? (aj a j)=some v->W'.cell? (aj a j)=some v:=λj v e=>(b.cell (p:=(aj a j)) h.lt).trans e
 ⟨zz007 h.lt b.size,k _ _ h.c0,k _ _ h.c1,k _ _ h.c2,k _ _ h.c3,k _ _ h.c4,λj=>(b.frozen (p:=(aj a j)) h.lt).trans (h.fz j)⟩
theorem PR.drewN{W}{c}{s}{i}{a nv b}(h:PR W c s i a nv b)n:PR (W.drewN n) c s i a nv b:=
 ⟨h.lt,h.c0,h.c1,h.c2,h.c3,h.c4,h.fz⟩
theorem PR.setI{W}{a}{s}{i}{b nv c}(h:PR W a s i b nv c)(d:Nat):PR (W.setCell (aj a 1) (Iq (d:Int))) a s d b nv c:=
 ⟨by simpa using h.lt,aE dg h.c0,gh h.c1,aE dg h.c2,aE dg h.c3,aE dg h.c4,λj=>by rw[fI];exact h.fz j⟩
def prI(W:World)(rb:Nat):Nat:=match W.cell? (aj rb 1)with
 |some (.int _ x)=>x.toNat
 |_=>0
theorem PR.prI{W:World}{a:Nat}{s:ByteArray}{i:Nat}{b nv c:Value}(h:PR W a s i b nv c):prI W a=i:=by unfold Go.Proofs.YtaanagpadfcmlaaGreatDoor.prI;rw[h.c1];simp
theorem skipBlanks_any(d:Nat)(s:ByteArray)(i:Nat)(p nv r:Value)(w:World)(h:PR w d s i p nv r)(I:s.size<=1099511627776)(hi:i<=s.size):
 Cw 56 #[Pq d] w λe w'=>e=Rw (.tuple #[])/\PR w' d s (sk s i) p nv r/\w.grownBy w' (some d):=by
 have y:=qH<|h;clear h;go_enter func56,ntmps56;go_wp2;go_loopw[2] (λ_ wr=>∃k:Nat,k<=s.size/\Hid (sk s k=sk s i)/\Hid (PR wr d s k p nv r)/\Hid (w.grownBy wr (some d))) (λ_ wr=>s.size-prI wr d);case atStart=>exact⟨i,hi,rfl,y,kW _ _⟩
 case round=>
  obtain⟨k,H,f,b,t⟩:=hrel;have a:=b.out;have E:=a.c0;have c1:=a.c1;have f1:=a.fz 1;by_cases c:k<s.size
  ·have g:(k:Int)<(s.size:Int):=dg
   obtain⟨x,D⟩:=ad (s[k].toNat);have m:dh s k=x:=by rw[dT c,D]
   by_cases A:x=32
   ·skip;have o:=qH<|λq=>by have:=(b.drewN q).setI (k+1);rw[show((k+1:Nat):Int)=(k:Int)+1 by omega]at this;exact this
    have j:Hid (sk s (k+1)=sk s i):=by rw[<-f.out];exact(ia c (by grind[blank])).symm
    have hrd:=b.prI;have l:=qH<|hrd;subst A;clear a f b m hrd;go_wp2_with fail;go_quiet(fail);go_wp2;go_roundw;case rel=>exact⟨k+1,dg,j,o _,gr_trans (gr_trans t (aC _ _ _)) (bF _ _ _ _)⟩
    case measure=>rw[(o _).prI,l.out];omega
   ·by_cases v:x=10
    ·skip;have o:=qH<|λq=>by have:=(b.drewN q).setI (k+1);rw[show((k+1:Nat):Int)=(k:Int)+1 by omega]at this;exact this
     have j:Hid (sk s (k+1)=sk s i):=by rw[<-f.out];exact(ia c (by grind[blank])).symm
     have hrd:=b.prI;have l:=qH<|hrd;subst v;clear a f b m hrd;go_wp2_with fail;go_quiet(fail);go_wp2;go_roundw;case rel=>exact⟨k+1,dg,j,o _,gr_trans (gr_trans t (aC _ _ _)) (bF _ _ _ _)⟩
     case measure=>rw[(o _).prI,l.out];omega
    ·have u:Hid (PR wr d s (sk s i) p nv r):=by have:sk s k=k:=ja (by grind[blank]);rw[<-f.out,this];exact b
     have F:((x:Int)==32)=false:=by simp;omega
     have G:((x:Int)==10)=false:=by simp;omega
     clear a f b m;go_wp2_with fail;go_quiet(fail);go_wp2;go_end0;exact⟨rfl,u.drewN _,gr_trans t (aC _ _ _)⟩
  ·have g:¬(k:Int)<(s.size:Int):=dg
   have hd:=decide_eq_false g;have u:Hid (PR wr d s (sk s i) p nv r):=by have:sk s k=k:=vD c;rw[<-f.out,this];exact b
   clear a f b;go_wp2_with fail;go_quiet(fail);go_wp2;go_end0;exact⟨rfl,u.drewN _,gr_trans t (aC _ _ _)⟩
theorem lq(d:Nat)(s:ByteArray)(i:Nat)(m nv o:Value)(c:Nat)(w:World)(h:PR w d s i m nv o)(G:s.size<=1099511627776)(hi:i<=s.size)(M:c<256):
 Cw 121 #[Pq d,.int .u8 (c:Int)] w λe w'=>e=Rw (.bool (aL s i c))/\PR w' d s (am s i c) m nv o/\w.grownBy w' (some d):=by
 have CS:=qH<|skipBlanks_any d s i m nv o w h G hi;obtain⟨j,v⟩:=ad (sk s i);have A:=dX s i hi;have f:Hid (am s i c=if dh s j=c then j+1 else j):=by show _=_;unfold am;rw[v]
 have g:Hid (aL s i c=(dh s j==c)):=by show _=_;unfold aL;rw[v]
 rw[v]at CS A;clear h v;go_enter func121,ntmps121;go_wp2_with fail;refine CS.mono ?_;rintro e D ⟨rfl,h1,E⟩;have l:=qH<|h1;have y:=qH<|E;have I:=h1.c0;have c1:=h1.c1;have f1:=h1.fz 1;clear h1 E CS;by_cases t:j<s.size
 ·have u:(j:Int)<(s.size:Int):=dg
  have F:((j:Int)==(s.size:Int))=false:=by simp;omega
  obtain⟨x,H⟩:=ad (s[j].toNat);have a:dh s j=x:=by rw[dT t,H]
  by_cases b:x=c
  ·have r:Hid (∀q,PR ((D.drewN q).setCell (aj d 1) (Iq ((j:Int)+1))) d s (am s i c) m nv o):=λq=>by rw[f.out,a,if_pos b];have:=(l.drewN q).setI (j+1);grind
   have p:Hid (aL s i c=true):=by show _=_;rw[g.out,a];simpa using b
   subst b;clear a l;go_wp2_with fail;go_quiet(fail);go_wp2;go_ret;exact⟨by rw[p.out];rfl,r _,gr_trans (gr_trans y (aC _ _ _)) (bF _ _ _ _)⟩
  ·have r:Hid (PR D d s (am s i c) m nv o):=by rw[f.out,a,if_neg b];exact l
   have p:Hid (aL s i c=false):=by show _=_;rw[g.out,a];simpa using b
   have J:((x:Int)!=(c:Int))=true:=by simp;omega
   clear a l;go_wp2_with fail;go_quiet(fail);go_wp2;go_ret;exact⟨by rw[p.out];rfl,r.drewN _,gr_trans y (aC _ _ _)⟩
 ·have u:¬(j:Int)<(s.size:Int):=dg
  have F:((j:Int)==(s.size:Int))=true:=by simp;omega
  have k:=dJ t;have r:Hid (PR D d s (am s i c) m nv o):=by rw[f.out,k,if_neg dg];exact l
  have p:Hid (aL s i c=false):=by show _=_;rw[g.out,k];simp;omega
  clear k l;go_wp2_with fail;go_quiet(fail);go_wp2;go_ret;exact⟨by rw[p.out];rfl,r.drewN _,gr_trans y (aC _ _ _)⟩
theorem Y'(a o:Nat)(w:World):Cw 104 #[.pointer (some (aj a o))] w λe w'=>e=Rw (.pointer (some (aj a (o+1))))/\w'=w:=by go_enter func104,ntmps104;go_wp2;go_ret;simp_all
theorem Za(a o:Nat)(w:World):Cw 105 #[.pointer (some (aj a o))] w λe w'=>e=Rw (.pointer (some (aj a (o+2))))/\w'=w:=by go_enter func105,ntmps105;go_wp2;go_ret;simp_all
theorem Zb(a o:Nat)(w:World):Cw 106 #[.pointer (some (aj a o))] w λe w'=>e=Rw (.pointer (some (aj a (o+3))))/\w'=w:=by go_enter func106,ntmps106;go_wp2;go_ret;simp_all
theorem Zc(a o:Nat)(w:World):Cw 107 #[.pointer (some (aj a o))] w λe w'=>e=Rw (.pointer (some (aj a (o+4))))/\w'=w:=by go_enter func107,ntmps107;go_wp2;go_ret;simp_all
theorem Zd(a o:Nat)(w:World):Cw 108 #[.pointer (some (aj a o))] w λe w'=>e=Rw (.pointer (some (aj a (o+5))))/\w'=w:=by go_enter func108,ntmps108;go_wp2;go_ret;simp_all
theorem Ze(a o:Nat)(w:World):Cw 109 #[.pointer (some (aj a o))] w λe w'=>e=Rw (.pointer (some (aj a (o+6))))/\w'=w:=by go_enter func109,ntmps109;go_wp2;go_ret;exact⟨rfl,rfl⟩
theorem Zf(a o:Nat)(w:World):Cw 110 #[.pointer (some (aj a o))] w λe w'=>e=Rw (.pointer (some (aj a (o+7))))/\w'=w:=by go_enter func110,ntmps110;go_wp2;go_ret;exact⟨rfl,rfl⟩
theorem Zg(a o:Nat)(w:World):Cw 111 #[.pointer (some (aj a o))] w λe w'=>e=Rw (.pointer (some (aj a (o+8))))/\w'=w:=by go_enter func111,ntmps111;go_wp2;go_ret;simp_all
theorem Zh(a o:Nat)(w:World):Cw 112 #[.pointer (some (aj a o))] w λe w'=>e=Rw (.pointer (some (aj a (o+9))))/\w'=w:=by go_enter func112,ntmps112;go_wp2;go_ret;simp_all
theorem Tw(a o:Nat)(w:World):Cw 113 #[.pointer (some (aj a o))] w λe w'=>e=Rw (.pointer (some (aj a (o+10))))/\w'=w:=by go_enter func113,ntmps113;go_wp2;go_ret;simp_all
theorem Tx(a o:Nat)(w:World):Cw 114 #[.pointer (some (aj a o))] w λe w'=>e=Rw (.pointer (some (aj a (o+11))))/\w'=w:=by go_enter func114,ntmps114;go_wp2;go_ret;simp_all
theorem Ty(a o:Nat)(w:World):Cw 115 #[.pointer (some (aj a o))] w λe w'=>e=Rw (.pointer (some (aj a (o+12))))/\w'=w:=by go_enter func115,ntmps115;go_wp2;go_ret;simp_all
def iP:Array Value:=#[
 .string ⟨#[105,100]⟩,.int .u64 127,Iq 999999,Iq 0,.bool true,.func (.func 104) #[] #[],
 .string ⟨#[109,105,110]⟩,.int .u64 127,Iq 100000,Iq 0,.bool false,.func (.func 105) #[] #[],
 .string ⟨#[109,97,120]⟩,.int .u64 127,Iq 100000,Iq (-1),.bool false,.func (.func 106) #[] #[],
 .string ⟨#[119,101,105,103,104,116]⟩,.int .u64 127,Iq 100000,Iq 1,.bool false,.func (.func 107) #[] #[],
 .string ⟨#[103,97,112]⟩,.int .u64 3,Iq 100,Iq 0,.bool false,.func (.func 108) #[] #[],
 .string ⟨#[112,97,100]⟩,.int .u64 8,Iq 20,Iq 0,.bool false,.func (.func 109) #[] #[],
 .string ⟨#[98,111,114,100,101,114]⟩,.int .u64 8,Iq 1,Iq 1,.bool false,.func (.func 110) #[] #[],
 .string ⟨#[97,108,105,103,110]⟩,.int .u64 32,Iq 2,Iq 0,.bool false,.func (.func 111) #[] #[],
 .string ⟨#[119,114,97,112]⟩,.int .u64 32,Iq 1,Iq 1,.bool false,.func (.func 112) #[] #[],
 .string ⟨#[102,103]⟩,.int .u64 127,Iq 8,Iq 0,.bool false,.func (.func 113) #[] #[],
 .string ⟨#[98,103]⟩,.int .u64 127,Iq 8,Iq 0,.bool false,.func (.func 114) #[] #[],
 .string ⟨#[98,111,108,100]⟩,.int .u64 127,Iq 1,Iq 0,.bool false,.func (.func 115) #[] #[]]
theorem qp(w:World):Cw 54 #[] w λe w'=>e=Rw (Sq w.heap.size 12 12)/\w'=w.alloc (.cells iP 195):=by go_enter func54,ntmps54;go_wp2;go_ret;exact⟨rfl,rfl⟩
def bi(eb:Addr):Value:=.iface 376 (.pointer (some eb))
def cP(DI:Int)(ev:Value):Value:=.iface 131 (.agg #[Iq DI,ev])
theorem fh(a:Int)(w:World)(b:Addr)(c:w.cell? (aj 7 0)=some (bi b)):
 Cw 57 #[Iq a] w λe w'=>e=Rw (cP a (bi b))/\w'=w:=by have d:w.cell? (aj 7 0)=some (.iface 376 (.pointer (some b))):=c;clear c;go_enter func57,ntmps57;go_wp2;go_ret;exact⟨rfl,rfl⟩
theorem gR(a:Nat)(s:ByteArray)(i:Nat)(d nv f:Value)(c:Nat)(w:World)(h:PR w a s i d nv f)(o:s.size<=1099511627776)(hi:i<=s.size)(m:c<256)(b:aL s i c=true):
 Cw 124 #[Pq a,.int .u8 (c:Int)] w λe w'=>e=Rw (.tuple #[])/\PR w' a s (am s i c) d nv f/\w.grownBy w' (some a):=by
 have g:Hid (Cw 121 #[Pq a,.int .u8 (c:Int)] w λe w'=>e=Rw (.bool true)/\PR w' a s (am s i c) d nv f/\w.grownBy w' (some a)):=by have:=lq a s i d nv f c w h o hi m;rw[b]at this;exact this
 clear h b;go_enter func124,ntmps124;go_wp2_with fail;refine g.mono ?_;rintro e p ⟨rfl,h1,j⟩;have l:=qH<|h1;have k:=qH<|j;clear h1 j g;go_wp2;go_end0;exact⟨rfl,l,k⟩
theorem iS(a:Nat)(s:ByteArray)(i:Nat)(m nv o:Value)(f:Addr)(c:Nat)(w:World)(h:PR w a s i m nv o)(A:s.size<=1099511627776)(hi:i<=s.size)(y:c<256)(b:aL s i c=false)(E:7≠a)(g:w.cell? (aj 7 0)=some (bi f)):
 Cw 124 #[Pq a,.int .u8 (c:Int)] w λe w'=>e=.panicked [{v:=cP (sk s i:Int) (bi f),recovered:=false}]/\w.grownBy w' (some a):=by
 have k:Hid (Cw 121 #[Pq a,.int .u8 (c:Int)] w λe w'=>e=Rw (.bool false)/\PR w' a s (sk s i) m nv o/\w.grownBy w' (some a)):=by
  have:=lq a s i m nv o c w h A hi y;have x:am s i c=sk s i:=by unfold am;unfold aL at b;rw[if_neg rd]
  rw[b,x]at this;exact this
 have q:Hid (∀w,w.cell? (aj 7 0)=some (bi f)->Cw 57 #[Iq (sk s i:Int)] w λe w'=>e=Rw (.iface 131 (.agg #[Iq (sk s i:Int),.iface 376 (.pointer (some f))]))/\w'=w):=λw g=>fh _ w f g;have t:=qH<|g;obtain⟨j,r⟩:=ad (sk s i);rw[r]at k q⊢;clear h b g r;go_enter func124,ntmps124;go_wp2_with fail;refine k.mono ?_;rintro e F ⟨rfl,h1,p⟩;have u:=qH<|p;have c1:=h1.c1;have l:=qH<|p.cell t rd;clear h1 p k;go_wp2_with fail;refine(q _ l).mono ?_;rintro e G ⟨rfl,D⟩;obtain rfl:=D.symm;go_wp2;exact⟨rfl,rfl,u⟩
theorem Bj(a:List ByteArray)(x:ByteArray)(f off p n:Nat)(w:World)(A:f<w.heap.size)(s:∀j,j<a.length->w.cell? (aj f (off+j))=some (.string (a[j]?.getD ByteArray.empty)))(hn:a.length=n)(u:n<=1099511627776):
 Cw 255 #[.slice (some (aj f off)) n p,.string x] w λe w'=>e=Rw (Iq (aI a x 0))/\w'=w:=by
 have t:=qH<|s;have r:=qH<|hn;clear s hn;go_enter func255,ntmps255;go_wp2;go_loop[8] (λi=>∃k:Nat,k<=n/\i=Iq k/\Hid (aI a x 0=aI (a.drop k) x k)) (λi=>n-(intOf i).toNat);case atStart=>exact⟨0,aR _,rfl,by show _=_;grind⟩
 case round=>
  obtain⟨k,D,rfl,o⟩:=hrel;by_cases q:k<n
  ·have l:(k:Int)<(n:Int):=dg
   have d:k<a.length:=by rw[r.out];exact q
   have g:=t k d;obtain⟨y,hy⟩:=ad (a[k]?.getD ByteArray.empty);rw[hy]at g;have b:a.drop k=y::a.drop (k+1):=by rw[<-hy,dI d];exact sC d
   have c:Hid (aI a x 0=if y=x then(k:Int)else aI (a.drop (k+1)) x (k+1)):=by show _=_;rw[o.out,b];rfl
   clear b hy o d;by_cases e:y=x
   ·have m:Hid (aI a x 0=(k:Int)):=by show _=_;rw[c.out,if_pos e]
    subst e;clear c;go_wp2;go_ret;exact⟨by rw[m.out];rfl,rfl⟩
   ·have m:Hid (aI a x 0=aI (a.drop (k+1)) x (k+1)):=by show _=_;rw[c.out,if_neg e]
    have v:=vK (λh=>e h.symm);clear c;go_wp2;go_round;case rel=>grind
    case measure=>simp[intOf];omega
  ·have l:¬(k:Int)<(n:Int):=dg
   have m:Hid (aI a x 0=-1):=by show _=_;rw[o.out,ut (by rw[r.out];omega)];rfl
   clear o;go_wp2;go_ret;exact⟨by rw[m.out];rfl,rfl⟩
theorem Bi(x:ByteArray)(p:Option Addr)(a:Nat)(w:World):
 Cw 255 #[.slice p 0 a,.string x] w λe w'=>e=Rw (Iq (-1))/\w'=w:=by
 go_enter func255,ntmps255;go_wp2;go_loop[8] (λi=>i=Iq 0) (λi=>0);case atStart=>rfl
 case round=>subst hrel;go_wp2;go_ret;simp_all
def qj(W:World)(v:Value)(ws:List ByteArray):Prop:=∃p c,v=.slice p ws.length c/\(ws=[]\/∃blk,p=some (aj blk 0)/\blk<W.heap.size/\∀j,j<ws.length->W.cell? (aj blk (0+j))=some (.string (ws[j]?.getD ByteArray.empty)))
theorem index_any a x v w(h:qj w v a)(g:a.length<=1099511627776):
 Cw 255 #[v,.string x] w λe w'=>e=Rw (Iq (aI a x 0))/\w'=w:=by
 obtain⟨p,c,rfl,rfl|⟨b,rfl,d,f⟩⟩:=h;·exact Bi x p c w
 ·exact Bj a x b 0 c _ w d f rfl g
theorem contains_any(a:List ByteArray)(x:ByteArray)(v:Value)(w:World)(h:qj w v a)(f:a.length<=1099511627776):
 Cw 239 #[v,.string x] w λe w'=>e=Rw (.bool (decide (0<=aI a x 0)))/\w'=w:=by have b:=qH<|index_any a x v w h f;obtain⟨p,c,rfl,_⟩:=h;obtain⟨r,d⟩:=ad (aI a x 0);rw[d]at b⊢;clear d;go_enter func239,ntmps239;go_wp2_with fail;refine b.mono ?_;rintro e i ⟨rfl,g⟩;obtain rfl:=g.symm;go_wp2;go_ret;simp_all
def QF(m k:Nat):Bool:=(m/2^k) %2==1
theorem IC(n:ByteArray)(m k:Nat)(h wi:Int)(i:Bool)(c:Value)(w:World)(g:m=127\/m=3\/m=8\/m=32)(f:k<7):
 Cw 238 #[.agg #[.string n,.int .u64 (m:Int),Iq h,Iq wi,.bool i,c],Iq (k:Int)] w λe w'=>e=Rw (.bool (QF m k))/\Bt w w':=by
 have d:k=0\/k=1\/k=2\/k=3\/k=4\/k=5\/k=6:=dg;have a:=λo=>(af _ w).alloc (ae _) o;have b:=qH<|a;clear f a;rcases g with rfl|rfl|rfl|rfl<;>rcases d with rfl|rfl|rfl|rfl|rfl|rfl|rfl;all_goals go_enter func238,ntmps238;go_wp2;go_ret;exact⟨by rfl,b _⟩
theorem PR.setF{W}{b}{s}{i}{c nv d}(h:PR W b s i c nv d)a:PR (W.setCell (aj b 4) a) b s i c nv a:=
 ⟨by simpa using h.lt,aE dg h.c0,aE dg h.c1,aE dg h.c2,aE dg h.c3,gh h.c4,λj=>by rw[fI];exact h.fz j⟩
theorem IG(b:Nat)(s:ByteArray)(i:Nat)(c nv d:Value)(a:Int)(w:World)(h:PR w b s i c nv d):
 Cw 118 #[Pq b,.nilIface,Iq a] w λe w'=>e=Rw (.tuple #[])/\PR w' b s i c nv d/\w.grownBy w' (some b):=by have f:=qH<|h;go_enter func118,ntmps118;go_wp2;go_end0;grind[kW]
theorem Br(b:Nat)(s:ByteArray)(i:Nat)(d nv:Value)(c:Addr)(a:Int)(w:World)(h:PR w b s i d nv .nilIface):
 Cw 118 #[Pq b,bi c,Iq a] w λe w'=>e=Rw (.tuple #[])/\PR w' b s i d nv (cP a (bi c))/\w.grownBy w' (some b):=by have c4:=h.c4;have f4:=h.fz 4;have f:Hid (PR (w.setCell (aj b 4) (cP a (bi c))) b s i d nv (cP a (bi c))):=h.setF _;show Cw 118 #[Pq b,.iface 376 (.pointer (some c)),Iq a] w _;go_enter func118,ntmps118;go_wp2;go_end0;exact⟨rfl,f,bF _ _ _ _⟩
theorem Bu(d:Nat)(s:ByteArray)(i:Nat)(f nv:Value)(g c:Addr)(b a:Int)(w:World)(h:PR w d s i f nv (cP a (bi c))):
 Cw 118 #[Pq d,bi g,Iq b] w λe w'=>e=Rw (.tuple #[])/\PR w' d s i f nv (cP a (bi c))/\w.grownBy w' (some d):=by have j:=qH<|h;have c4:w.cell? (aj d 4)=some (.iface 131 (.agg #[Iq a,.iface 376 (.pointer (some c))])):=h.c4;show Cw 118 #[Pq d,.iface 376 (.pointer (some g)),Iq b] w _;go_enter func118,ntmps118;go_wp2;go_end0;grind[kW]
def nl(n fs:Nat)(m d:Addr):Value:=if 100<=n then bi m else if 12<=fs then bi d else .nilIface
theorem yA(j:Nat)(s:ByteArray)(i:Nat)(k o:Value)(p:Option Addr)(n l a:Nat)(m d:Addr)(w:World)(h:PR w j s i k (.slice p n l) o)(q:w.cell? (aj 1 0)=some (bi m))(hd:w.cell? (aj 2 0)=some (bi d)):
 Cw 119 #[Pq j,Iq (a:Int)] w λe w'=>e=Rw (nl n a m d)/\w'=w:=by
 have c3:=h.c3;have r:w.cell? (aj 1 0)=some (.iface 376 (.pointer (some m))):=q;by_cases h1:100<=n
 ·have c:(100:Int)<=(n:Int):=dg
  have b:Hid (nl n a m d=.iface 376 (.pointer (some m))):=by show _=_;unfold nl;rw[if_pos h1];rfl
  go_enter func119,ntmps119;go_wp2;go_ret;exact⟨by rw[b.out];rfl,rfl⟩
 ·have c:¬(100:Int)<=(n:Int):=dg
  by_cases g:12<=a
  ·have f:(12:Int)<=(a:Int):=dg
   have b:Hid (nl n a m d=.iface 376 (.pointer (some d))):=by show _=_;unfold nl;rw[if_neg h1,if_pos g];rfl
   go_enter func119,ntmps119;go_wp2;go_ret;exact⟨by rw[b.out];rfl,rfl⟩
  ·have f:¬(12:Int)<=(a:Int):=dg
   have b:Hid (nl n a m d=.nilIface):=by show _=_;unfold nl;rw[if_neg h1,if_neg g]
   go_enter func119,ntmps119;go_wp2;go_ret;exact⟨by rw[b.out];rfl,rfl⟩
def lH(i:Int):Value:=if i<0 then .tuple #[Iq 0,.bool false]else .tuple #[Iq i,.bool true]
theorem Fs(t:ByteArray)(w:World)(a b c d f g h:ByteArray)(s:w.cell? (aj 8 0)=some (.string a))(h1:w.cell? (aj 8 1)=some (.string b))(u:w.cell? (aj 8 2)=some (.string c))(v:w.cell? (aj 8 3)=some (.string d))(x:w.cell? (aj 8 4)=some (.string f))(y:w.cell? (aj 8 5)=some (.string g))(A:w.cell? (aj 8 6)=some (.string h)):
 Cw 117 #[.string t] w λe w'=>e=Rw (lH (aI [a,b,c,d,f,g,h] t 0))/\w'=w:=by
 have o:∀k:Nat,k<7->∃n,aI ([a,b,c,d,f,g,h].drop k) t k=(if n=t then(k:Int)else aI ([a,b,c,d,f,g,h].drop (k+1)) t (k+1))/\∀w,(Instr.index 274 (.agg #[.string a,.string b,.string c,.string d,.string f,.string g,.string h]) (Iq k)).run prog w=.ok (.string n) w:=λk F=>by
  have D:k=0\/k=1\/k=2\/k=3\/k=4\/k=5\/k=6:=dg;rcases D with rfl|rfl|rfl|rfl|rfl|rfl|rfl<;>exact⟨_,rfl,λ_=>ns⟩
 have o:=qH o;go_enter func117,ntmps117;go_wp2;clear s h1 u v x y A;go_loop[7] (λi=>∃k:Nat,k<=7/\i=Iq k/\Hid (aI [a,b,c,d,f,g,h] t 0=aI ([a,b,c,d,f,g,h].drop k) t k)) (λi=>7-(intOf i).toNat);case atStart=>grind
 case round=>
  obtain⟨k,F,rfl,j⟩:=hrel;by_cases p:k<7
  ·have l:(k:Int)<7:=dg
   obtain⟨n,r,E⟩:=o k p;have q:=qH r;clear r;by_cases e:n=t
   ·have m:Hid (lH (aI [a,b,c,d,f,g,h] t 0)=.tuple #[Iq k,.bool true]):=by show _=_;rw[j.out,q.out,if_pos e];unfold lH;rw[if_neg dg]
    subst e;clear j;go_wp2;go_ret2;exact⟨by rw[m.out];rfl,rfl⟩
   ·have m:Hid (aI [a,b,c,d,f,g,h] t 0=aI ([a,b,c,d,f,g,h].drop (k+1)) t (k+1)):=by show _=_;rw[j.out,q.out,if_neg e]
    have G:=vK e;clear j;go_wp2;go_round;case rel=>grind
    case measure=>simp[intOf];omega
  ·have l:¬(k:Int)<7:=dg
   obtain rfl:k=7:=dg;have m:Hid (lH (aI [a,b,c,d,f,g,h] t 0)=.tuple #[Iq 0,.bool false]):=by show _=_;rw[j.out];simp[aI,lH]
   clear j;go_wp2;go_ret2;exact⟨by rw[m.out];rfl,rfl⟩
def FL(er at_:Int)(f:fA)(i:Nat):Prop:=match f with
 |none=>at_<0
 |some (c,p)=>er=c/\at_=p/\p<=i
theorem FL.on{b at_}{f}{i j}(h:FL b at_ f i)(a:i<=j):FL b at_ f j:=by
 cases f with
 |none=>exact h
 |some x=>obtain⟨c,p⟩:=x;exact⟨h.1,h.2.1,aF h.2.2 a⟩
theorem FL.add{a at_}{f}{i}(h:FL a at_ f i)(c p:Nat)(hp:i<=p):FL (Gt a at_ c p) (Gs at_ p) (gI f c p) p:=by
 cases f with
 |none=>have b:at_<0:=h;unfold Gt Gs;rw[if_pos (.inl b),if_pos (.inl b)];exact⟨rfl,rfl,ae _⟩
 |some x=>
  obtain⟨j,k⟩:=x;obtain⟨h1,e,g⟩:=h;have d:¬(at_<0\/(p:Int)<at_):=dg;unfold Gt Gs;rw[if_neg d,if_neg d];exact⟨h1,e,aF g hp⟩
def fa(kind:Nat)(L:List Nd)(er:fA)(a:List Int)(seen:List Nat)(st:PF):fA×List Int×List Nat:=
 if st.ix<0\/fM kind st.ix.toNat=false then(gI er 7 st.at_,a,seen)
 else(bn (decide (st.ix=0/\0<st.n)&&em L st.n) (bn (decide (gX[st.ix.toNat]?.getD 0<st.n)) (bn (seen.contains st.ix.toNat) er 5 st.at_) 6 st.p) 5 st.p,a.set st.ix.toNat st.n,st.ix.toNat::seen)
theorem jw s i a:i<=(bc s i a).at_/\(bc s i a).at_<=(bc s i a).p/\(bc s i a).p<=(bc s i a).i:=by
 have h1:=du s i;have c:sk s i<=wI s (sk s i) a:=by unfold wI;split;exact aF (du s (sk s i)) (g_ _ _ _);exact du _ _
 have b:wI s (sk s i) a<=mI s (wI s (sk s i) a) 61 (wB s (sk s i) a):=by
  unfold mI;split;·grind[am,du,wI,sk]
  ·exact du _ _
 grind[sk,mI,wI,wB,nI,mB,g_,du,bc]
theorem rX s i a(hi:i<=s.size):(bc s i a).i<=s.size:=by grind[bc,QB,oV,DY,dX]
theorem JQ s i a:(bc s i a).ix=-1\/(0<=(bc s i a).ix/\(bc s i a).ix<12):=by have:=iT (wS s (sk s i) a) bS 0;have b:bS.length=12:=rfl;grind[bc]
theorem MJ s i a:0<=(bc s i a).n/\(bc s i a).n<=999999:=NH s _ _
theorem lW s c L i g a seen b(d:b<0):
 ((bc s i b).bad=b/\gP s c L i g a seen=.ok ((bc s i b).i,fa c L g a seen (bc s i b)))
 \/(0<=(bc s i b).bad/\gP s c L i g a seen=.error (bc s i b).bad.toNat):=by
 unfold gP;simp only;have f:=kF s i;have w:wI s (sk s i) b=run ao s (sk s i):=by unfold wI;rw[if_pos d,f]
 by_cases h1:run ao s (sk s i)=sk s i;·grind[wB,sk,im,bc,mB,wI,nB]
 ·have u:wB s (sk s i) b=b:=by unfold wB;rw[if_pos d];unfold im;rw[f,if_neg h1]
  rw[if_neg h1];by_cases l:aL s (run ao s (sk s i)) 61=true
  ·have v:mB s (run ao s (sk s i)) 61 b=b:=by unfold mB;rw[if_pos d];unfold gD;rw[if_pos l]
   have h:mI s (run ao s (sk s i)) 61 b=am s (run ao s (sk s i)) 61:=by unfold mI;rw[if_pos d]
   have k:cC s (run ao s (sk s i)) 61=.ok (am s (run ao s (sk s i)) 61):=by unfold cC;rw[if_pos l]
   rw[k];simp only;have m:bc s i b={i:=run aP s (sk s (am s (run ao s (sk s i)) 61)),bad:=jN s (sk s (am s (run ao s (sk s i)) 61)) (run aP s (sk s (am s (run ao s (sk s i)) 61))) b,n:=dv s (sk s (am s (run ao s (sk s i)) 61)) (run aP s (sk s (am s (run ao s (sk s i)) 61))-sk s (am s (run ao s (sk s i)) 61)),p:=sk s (am s (run ao s (sk s i)) 61),at_:=sk s i,ix:=aI bS (s.extract (sk s i) (run ao s (sk s i))) 0}:=by
    unfold bc;simp only;rw[w,u,v,h];have o:nI s (am s (run ao s (sk s i)) 61) b=run aP s (sk s (am s (run ao s (sk s i)) 61)):=by unfold nI;rw[if_pos d]
    have q:nB s (am s (run ao s (sk s i)) 61) b=jN s (sk s (am s (run ao s (sk s i)) 61)) (run aP s (sk s (am s (run ao s (sk s i)) 61))) b:=by unfold nB;rw[if_pos d]
    have r:nV s (am s (run ao s (sk s i)) 61) b=dv s (sk s (am s (run ao s (sk s i)) 61)) (run aP s (sk s (am s (run ao s (sk s i)) 61))-sk s (am s (run ao s (sk s i)) 61)):=by unfold nV;rw[if_pos d]
    have t:wS s (sk s i) b=s.extract (sk s i) (run ao s (sk s i)):=by unfold wS;rw[if_pos d,f]
    rw[o,q,r,t]
   generalize sk s (am s (run ao s (sk s i)) 61)=j at m⊢;generalize run aP s j=e at m⊢;by_cases x:jq s j e=true;all_goals grind[bc,jN,jq,fa]
  grind[aL,run,ao,sk,mB,gD,cC,bc,nB]
theorem lX{s}{c}{L}{f i}{d}{a}{seen}{b}(h:gP s c L i d a seen=.error b):dw s c L (f+1) i d a seen=.error b:=by rw[dw,h]
theorem jT{s}{b}{L}{f i e}{j d}{a g}{seen c}(h:gP s b L i j a seen=.ok (e,d,g,c))(k:aL s e 59=true):dw s b L (f+1) i j a seen=dw s b L f (am s e 59) d g c:=by grind[dw]
def jY(s:ByteArray)(i:Nat)(er:fA)(a:List Int):Except Nat (Nat×fA×List Int):=match cC s i 125 with
 |.error b=>.error b
 |.ok i3=>.ok (i3,er,a)
theorem jS{s}{b}{L}{f i e}{j d}{a g}{seen c}(h:gP s b L i j a seen=.ok (e,d,g,c))(k:¬aL s e 59=true):dw s b L (f+1) i j a seen=jY s e d g:=by rw[dw,h];simp only;rw[if_neg k];rfl
theorem Dq s i c:aL s (sk s i) c=aL s i c:=by unfold aL;rw[kF]
theorem Dn s i c:am s (sk s i) c=am s i c:=by unfold am;rw[kF]
theorem EM s i b a:jY s (sk s i) b a=jY s i b a:=by grind[jY,cC,Dq,Dn,kF]
