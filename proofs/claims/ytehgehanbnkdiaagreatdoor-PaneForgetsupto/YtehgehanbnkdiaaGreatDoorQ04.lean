import Derived.Test.YtehgehanbnkdiaaGreatDoorQ02
import Derived.Shelf.Abstract
import Derived.Lib.Strings
set_option linter.all false
set_option maxRecDepth 100000
set_option maxHeartbeats 16000000
namespace Go.Proofs.YtehgehanbnkdiaaGreatDoor
open Go.RowKit Go.Proofs.Tryz
theorem ni(g:Nat)(S:∀args w,(callFunc g args).run prog w=.ok (.enter g args) w)(p:Nat->Bool)(U:p 256=false)(K:∀(b:Nat) w,b<256->Cw g #[.int .u8 (b:Int)] w λe w'=>e=Rw (.bool (p b))/\w'=w)(l:Nat)(s:BY)(i:Nat)(y A z:Fd)(w:AT)(h:PR w l s i y A z)(P:s.size<=1099511627776)(hi:i<=s.size):
 Cw 225 #[Pq l,.func (.func g) #[] #[]] w λe w'=>e=Rw (.tuple #[.string (s.extract (sk s i) (run p s (sk s i))),Iq (sk s i:Int)])/\PR w' l s (run p s (sk s i)) y A z/\w.grownBy w' (some l):=by
 have CS:=qH<|skipBlanks_any l s i y A z w h P hi;have J:=qH<|K;obtain⟨j,L⟩:=af (sk s i);have u:=f_ s i hi;rw[L]at CS u⊢;clear h L K;go_enter func225,ntmps225;go_wp2_with fail;refine CS.mono ?_;rintro e V ⟨rfl,G,g1⟩;have M:=qH<|G;have C:=qH<|g1;have d1:=G.c1;clear G g1 CS;go_wp2;clear d1;go_loopw[13] (λ_ wr=>∃k:Nat,j<=k/\k<=s.size/\Hid (run p s k=run p s j)/\Hid (PR wr l s k y A z)/\Hid (w.grownBy wr (some l))) (λ_ wr=>s.size-prI wr l);case atStart=>exact⟨j,ad _,u,rfl,M,C⟩
 case round=>
  obtain⟨k,O,T,o,r,B⟩:=hrel;have a:=r.out;have R:=a.c0;have c1:=a.c1;have f1:=a.fz 1;have F:=qH<|a.prI;by_cases f:k<s.size
  ·have d:(k:Int)<(s.size:Int):=dg
   have N:=decide_eq_true d;obtain⟨x,Q⟩:=af (s[k].toNat);have m:dj s k=x:=by rw[gY f,Q]
   have v:x<256:=by rw[<-m];exact EM f
   by_cases n:p x=true
   ·have E:=qH<|λw=>by have:=J x w v;rw[n]at this;exact this
    have D:Hid (run p s (k+1)=run p s j):=by rw[<-o.out];exact(pW f rn).symm
    have I:=qH<|λq=>by have:=(r.drewN q).setI (k+1);rw[show((k+1:Nat):Int)=(k:Int)+1 by omega]at this;exact this
    clear a o r m n;go_wp2_with fail;go_quiet(first|(go_at_fn g;exact Calls.quiet_of_same (E _)));go_wp2;go_roundw;case rel=>exact⟨k+1,dg,dg,D,I _,gr_trans (gr_trans B (a_ _ _ _)) (cH _ _ _ _)⟩
    case measure=>rw[(I _).prI,F.out];omega
   ·have E:=qH<|λw=>by have:=J x w v;rw[show p x=false by grind]at this;exact this
    have c:Hid (run p s j=k):=by show _=_;rw[<-o.out];exact pX rn
    have t:(j:Int)<=(k:Int):=dg;have H:(k:Int)<=(s.size:Int):=dg;clear a o m n;go_wp2_with fail;go_quiet(first|(go_at_fn g;exact Calls.quiet_of_same (E _)));go_wp2_with fail;go_quiet(fail);go_wp2;go_ret2;exact⟨by rw[c.out];rfl,by rw[c.out];exact(r.drewN _).drewN _,gr_trans (gr_trans B (a_ _ _ _)) (a_ _ _ _)⟩
  ·have d:¬(k:Int)<(s.size:Int):=dg
   have N:=decide_eq_false d;have c:Hid (run p s j=k):=by show _=_;rw[<-o.out];exact BA f
   have t:(j:Int)<=(k:Int):=dg;have H:(k:Int)<=(s.size:Int):=dg;clear a o;go_wp2_with fail;go_quiet(fail);go_wp2_with fail;go_quiet(fail);go_wp2;go_ret2;exact⟨by rw[c.out];rfl,by rw[c.out];exact(r.drewN _).drewN _,gr_trans (gr_trans B (a_ _ _ _)) (a_ _ _ _)⟩
def YN:List Nat:=[127,127,127,127,3,8,8,32,32,127,127,127]
def Ww:List Nat:=[147,148,149,150,151,152,153,154,155,156,157,158]
def fw(k:Nat):BY:=cm[k]?.getD ByteArray.empty
def lm(k:Nat):Nat:=YN[k]?.getD 0
def kJ(k:Nat):Int:=iX[k]?.getD 0
def kT(k:Nat):Int:=aN[k]?.getD 0
def nZ(k:Nat):Bool:=k==0
def tf(k:Nat):Nat:=Ww[k]?.getD 0
def Ty(k:Nat):List Fd:=[.string (fw k),.int .u64 (lm k:Int),Iq (kJ k),Iq (kT k),.bool (nZ k),.func (.func (tf k)) #[] #[]]
structure Ev(W:AT)(ab:Nat):Prop where
 lt:ab<W.heap.size
 row:∀k,k<12->∀t,t<6->W.cell? (aq ab (k*6+t))=(Ty k)[t]?
theorem Ev.fr{W a}{ab B r}(h:Ev W ab)(f:Fr B r W a)(b:ab<B)(c:ab≠r):Ev a ab:=
 ⟨zz006 h.lt f.size,λk d t e=>by rw[aO (f.block ab b c)];exact h.row k d t e⟩
theorem Ev.at{W}{ab k}(h:Ev W ab)(a:k<12):W.cell? (aq ab (k*6))=some (.string (fw k))/\W.cell? (aq ab (k*6+1))=some (.int .u64 (lm k:Int))/\W.cell? (aq ab (k*6+2))=some (Iq (kJ k))/\W.cell? (aq ab (k*6+3))=some (Iq (kT k))/\W.cell? (aq ab (k*6+4))=some (.bool (nZ k))/\W.cell? (aq ab (k*6+5))=some (.func (.func (tf k)) #[] #[]):=
 ⟨h.row k a 0 dg,h.row k a 1 dg,h.row k a 2 dg,h.row k a 3 dg,h.row k a 4 dg,h.row k a 5 dg⟩
theorem Ma(w:AT):Ev (w.alloc (.cells gC 259)) w.heap.size:=by
 refine⟨At,λk b t c=>?_⟩;rw[World.cell?_alloc_at _ _ _ _ rfl];have:k=0\/k=1\/k=2\/k=3\/k=4\/k=5\/k=6\/k=7\/k=8\/k=9\/k=10\/k=11:=dg;have a:t=0\/t=1\/t=2\/t=3\/t=4\/t=5:=dg;rcases this with rfl|rfl|rfl|rfl|rfl|rfl|rfl|rfl|rfl|rfl|rfl|rfl<;>rcases a with rfl|rfl|rfl|rfl|rfl|rfl<;>rfl
def RN(g k:Nat):Prop:=(∀args w,(callFunc g args).run prog w=.ok (.enter g args) w)/\∀(nb o:Nat) (w:AT),Cw g #[.pointer (some (aq nb o))] w λe w'=>e=Rw (.pointer (some (aq nb (o+(k+1)))))/\w'=w
theorem in_at k(a:k<12):RN (tf k) k:=by
 have:k=0\/k=1\/k=2\/k=3\/k=4\/k=5\/k=6\/k=7\/k=8\/k=9\/k=10\/k=11:=dg;rcases this with rfl|rfl|rfl|rfl|rfl|rfl|rfl|rfl|rfl|rfl|rfl|rfl;·exact⟨enters_of func147 pt rfl,YC⟩
 ·exact⟨enters_of func148 pt rfl,YD⟩
 ·exact⟨enters_of func149 pt rfl,YE⟩
 ·exact⟨enters_of func150 pt rfl,YF⟩
 ·exact⟨enters_of func151 pt rfl,YG⟩
 ·exact⟨enters_of func152 pt rfl,YH⟩
 ·exact⟨enters_of func153 pt rfl,YI⟩
 ·exact⟨enters_of func154 pt rfl,YJ⟩
 ·exact⟨enters_of func155 pt rfl,YK⟩
 ·exact⟨enters_of func156 pt rfl,Td⟩
 ·exact⟨enters_of func157 pt rfl,Te⟩
 ·exact⟨enters_of func158 pt rfl,Tf⟩
theorem tm(b:Nat)(w:AT)(j:b<256):
 Cw 226 #[.int .u8 (b:Int)] w λe w'=>e=Rw (.bool (ap b))/\w'=w:=by
 by_cases g:97<=b
 ·have a:(97:Int)<=(b:Int):=dg
  by_cases h:b<=122
  ·have c:(b:Int)<=122:=dg
   have d:Hid (ap b=true):=by show _=_;simp[ap,g,h]
   have f:=decide_eq_true a;have i:=decide_eq_true c;go_enter func226,ntmps226;go_wp2;go_ret;exact⟨by rw[d.out];rfl,rfl⟩
  ·have c:¬(b:Int)<=122:=dg
   have d:Hid (ap b=false):=by show _=_;simp[ap,h]
   have f:=decide_eq_true a;have i:=decide_eq_false c;go_enter func226,ntmps226;go_wp2;go_ret;exact⟨by rw[d.out];rfl,rfl⟩
 ·have a:¬(97:Int)<=(b:Int):=dg
  have d:Hid (ap b=false):=by show _=_;simp[ap,g]
  have f:=decide_eq_false a;go_enter func226,ntmps226;go_wp2;go_ret;exact⟨by rw[d.out];rfl,rfl⟩
theorem lI(a:Nat)(s:BY)(i:Nat)(d g f:Fd)(w:AT)(h:PR w a s i d g f)(r:s.size<=1099511627776)(hi:i<=s.size):
 Cw 159 #[Pq a] w λe w'=>e=Rw (.tuple #[.string (s.extract (sk s i) (run ap s (sk s i))),Iq (sk s i:Int)])/\PR w' a s (run ap s (sk s i)) d g f/\w.grownBy w' (some a):=by
 have c:Hid (Cw 225 #[Pq a,.func (.func 226) #[] #[]] w λe w'=>e=Rw (.tuple #[.string (s.extract (sk s i) (run ap s (sk s i))),Iq (sk s i:Int)])/\PR w' a s (run ap s (sk s i)) d g f/\w.grownBy w' (some a)):=
  ni 226 (enters_of func226 pt rfl) ap (by rfl) (λb w q=>tm b w q) a s i d g f w h r hi;obtain⟨j,m⟩:=af (sk s i);rw[m]at c⊢;obtain⟨t,n⟩:=af (s.extract j (run ap s j));rw[n]at c⊢;clear h m n;go_enter func159,ntmps159;go_wp2_with fail;refine c.mono ?_;rintro e u ⟨rfl,l,k⟩;have p:=qH<|l;have o:=qH<|k;clear l k c;go_wp2;go_ret2;exact⟨rfl,p,o⟩
theorem readByte_yes(b:Nat)(s:BY)(i:Nat)(c g d:Fd)(w:AT)(h:PR w b s i c g d)(o:s.size<=1099511627776)(hi:i<s.size):
 Cw 228 #[Pq b] w λe w'=>e=Rw (.int .u8 (dj s i:Int))/\PR w' b s (i+1) c g d/\w.grownBy w' (some b):=by
 have k:=qH<|h;have m:=h.c0;have c1:=h.c1;have f1:=h.fz 1;have n:((i:Int)==(s.size:Int))=false:=by simp;omega
 have f:(i:Int)<(s.size:Int):=dg;obtain⟨x,l⟩:=af (s[i].toNat);have a:dj s i=x:=by rw[gY hi,l]
 rw[a];have j:=qH<|λq=>by have:=(k.drewN q).setI (i+1);rw[show((i+1:Nat):Int)=(i:Int)+1 by omega]at this;exact this
 clear h a;go_enter func228,ntmps228;go_wp2_with fail;go_quiet(fail);go_wp2_with fail;go_quiet(fail);go_wp2;go_ret;exact⟨rfl,(j _).drewN _,gr_trans (gr_trans (a_ _ _ _) (cH _ _ _ _)) (a_ _ _ _)⟩
theorem readByte_no(d:Nat)(s:BY)(i:Nat)(j m k:Fd)(b:Addr)(w:AT)(h:PR w d s i j m k)(hi:i=s.size)(c:w.cell? (aq 7 0)=some (aS b)):
 Cw 228 #[Pq d] w λe w'=>e=.panicked [{v:=cj (i:Int) (aS b),recovered:=false}]/\w.grownBy w' (some d):=by
 have g:Hid (∀w,w.cell? (aq 7 0)=some (aS b)->Cw 94 #[Iq (i:Int)] w λe w'=>e=Rw (.iface 186 (.agg #[Iq (i:Int),.iface 460 (.pointer (some b))]))/\w'=w):=λw c=>dP _ w b c;have f:=qH<|c;have n:=h.c0;have c1:=h.c1;have o:((i:Int)==(s.size:Int))=true:=by simp;omega
 clear h c hi;go_enter func228,ntmps228;go_wp2_with fail;go_quiet(fail);go_wp2_with fail;refine(g (w.drewN _) f).mono ?_;rintro e p ⟨rfl,l⟩;obtain rfl:=l.symm;go_wp2;exact⟨rfl,rfl,a_ _ _ _⟩
def kD(x:Nat):Option Nat:=if x=34 then some 34 else if x=92 then some 92 else if x=110 then some 10 else none
theorem readEscaped_yes(g:Nat)(s:BY)(i:Nat)(m p n:Fd)(w:AT)(h:PR w g s i m p n)(r:s.size<=1099511627776)(hi:i<s.size)(c:Nat)(a:kD (dj s i)=some c):
 Cw 230 #[Pq g] w λe w'=>e=Rw (.int .u8 (c:Int))/\PR w' g s (i+1) m p n/\w.grownBy w' (some g):=by
 have CB:=qH<|readByte_yes g s i m p n w h r hi;obtain⟨x,q⟩:=af (dj s i);rw[q]at CB a;clear h q;by_cases b:x=34
 ·have d:c=34:=by subst b;simp[kD]at a;exact a.symm
  subst b;subst d;clear a;go_enter func230,ntmps230;go_wp2_with fail;refine CB.mono ?_;rintro e t ⟨rfl,b,f⟩;have l:=qH<|b;have k:=qH<|f;clear b f CB;go_wp2;go_ret;exact⟨rfl,l,k⟩
 ·by_cases o:x=92;focus
   have d:c=92:=by subst o;simp[kD]at a;exact a.symm
   subst o;subst d;clear a
  rotate_left;focus
   have j:x=110:=by
    by_cases j:x=110;·exact j
    ·grind[kD]
   have d:c=10:=by subst j;simp[kD]at a;exact a.symm
   subst j;subst d;clear a b o
  rotate_left;all_goals go_enter func230,ntmps230;go_wp2_with fail;refine CB.mono ?_;rintro e t ⟨rfl,b,f⟩;have l:=qH<|b;have k:=qH<|f;clear b f CB;go_wp2;go_ret;exact⟨rfl,l,k⟩
theorem pS(b:Nat)(s:BY)(i:Nat)(k o l:Fd)(c:Addr)(w:AT)(h:PR w b s i k o l)(u:s.size<=1099511627776)(hi:i<s.size)(d:kD (dj s i)=none)(F:7≠b)(f:w.cell? (aq 7 0)=some (aS c)):
 Cw 230 #[Pq b] w λe w'=>e=.panicked [{v:=cj (i:Int) (aS c),recovered:=false}]/\w.grownBy w' (some b):=by
 have CB:=qH<|readByte_yes b s i k o l w h u hi;have t:Hid (∀w,w.cell? (aq 7 0)=some (aS c)->Cw 94 #[Iq (i:Int)] w λe w'=>e=Rw (.iface 186 (.agg #[Iq (i:Int),.iface 460 (.pointer (some c))]))/\w'=w):=λw f=>dP _ w c f;have q:=qH<|f;obtain⟨x,n⟩:=af (dj s i);rw[n]at CB d;have z:x≠34:=by intro hh;subst hh;simp[kD]at d
 have A:x≠92:=by intro hh;subst hh;simp[kD]at d
 have B:x≠110:=by intro hh;subst hh;simp[kD]at d
 have C:((x:Int)==34)=false:=by simp;omega
 have D:((x:Int)==92)=false:=by simp;omega
 have E:((x:Int)==110)=false:=by simp;omega
 clear h n d f z A B;go_enter func230,ntmps230;go_wp2_with fail;refine CB.mono ?_;rintro e p ⟨rfl,m,j⟩;have r:=qH<|j;have c1:p.cell? (aq b 1)=some (Iq ((i:Int)+1)):=by have:=m.c1;rw[show((i+1:Nat):Int)=(i:Int)+1 by omega]at this;exact this
 have g:=qH<|j.cell q rn;clear m j CB;go_wp2_with fail;refine(t p g).mono ?_;rintro e G ⟨rfl,y⟩;obtain rfl:=y.symm;go_wp2;exact⟨rfl,rfl,r⟩
theorem uZ(b:Nat)(w:AT)(j:b<256):
 Cw 314 #[.int .u8 (b:Int)] w λe w'=>e=Rw (.bool (aL b))/\w'=w:=by
 by_cases g:48<=b
 ·have a:(48:Int)<=(b:Int):=dg
  by_cases h:b<=57
  ·have c:(b:Int)<=57:=dg
   have d:Hid (aL b=true):=by show _=_;simp[aL,g,h]
   have f:=decide_eq_true a;have i:=decide_eq_true c;go_enter func314,ntmps314;go_wp2;go_ret;exact⟨by rw[d.out];rfl,rfl⟩
  ·have c:¬(b:Int)<=57:=dg
   have d:Hid (aL b=false):=by show _=_;simp[aL,h]
   have f:=decide_eq_true a;have i:=decide_eq_false c;go_enter func314,ntmps314;go_wp2;go_ret;exact⟨by rw[d.out];rfl,rfl⟩
 ·have a:¬(48:Int)<=(b:Int):=dg
  have d:Hid (aL b=false):=by show _=_;simp[aL,g]
  have f:=decide_eq_false a;go_enter func314,ntmps314;go_wp2;go_ret;exact⟨by rw[d.out];rfl,rfl⟩
theorem digits_any a s i c f d w(h:PR w a s i c f d)(j:s.size<=1099511627776)(hi:i<=s.size):
 Cw 225 #[Pq a,.func (.func 314) #[] #[]] w λe w'=>e=Rw (.tuple #[.string (s.extract (sk s i) (run aL s (sk s i))),Iq (sk s i:Int)])/\PR w' a s (run aL s (sk s i)) c f d/\w.grownBy w' (some a):=
 ni 314 (enters_of func314 pt rfl) aL (by rfl) (λb w g=>uZ b w g) a s i c f d w h j hi
