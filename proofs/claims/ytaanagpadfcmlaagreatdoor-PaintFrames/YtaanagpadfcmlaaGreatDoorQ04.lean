import Derived.Test.YtaanagpadfcmlaaGreatDoorQ02
import Derived.Shelf.Abstract
set_option linter.all false
set_option maxRecDepth 100000
set_option maxHeartbeats 16000000
namespace Go.Proofs.YtaanagpadfcmlaaGreatDoor
open Go.RowKit Go.Proofs.Tryz
theorem oY(g:Nat)(R:∀args w,(callFunc g args).run prog w=.ok (.enter g args) w)(p:Nat->Bool)(hp:p 256=false)(J:∀(b:Nat) w,b<256->Cw g #[.int .u8 (b:Int)] w λe w'=>e=Rw (.bool (p b))/\w'=w)(l:Nat)(s:ByteArray)(i:Nat)(y A z:Value)(w:World)(h:PR w l s i y A z)(O:s.size<=1099511627776)(hi:i<=s.size):
 Cw 178 #[Pq l,.func (.func g) #[] #[]] w λe w'=>e=Rw (.tuple #[.string (s.extract (sk s i) (run p s (sk s i))),Iq (sk s i:Int)])/\PR w' l s (run p s (sk s i)) y A z/\w.grownBy w' (some l):=by
 have CS:=qH<|skipBlanks_any l s i y A z w h O hi;have I:=qH<|J;obtain⟨j,K⟩:=ad (sk s i);have u:=dX s i hi;rw[K]at CS u⊢;clear h K J;go_enter func178,ntmps178;go_wp2_with fail;refine CS.mono ?_;rintro e T ⟨rfl,h1,g1⟩;have L:=qH<|h1;have C:=qH<|g1;have d1:=h1.c1;clear h1 g1 CS;go_wp2;clear d1;go_loopw[13] (λ_ wr=>∃k:Nat,j<=k/\k<=s.size/\Hid (run p s k=run p s j)/\Hid (PR wr l s k y A z)/\Hid (w.grownBy wr (some l))) (λ_ wr=>s.size-prI wr l);case atStart=>exact⟨j,ae _,u,rfl,L,C⟩
 case round=>
  obtain⟨k,N,S,o,r,B⟩:=hrel;have a:=r.out;have Q:=a.c0;have c1:=a.c1;have f1:=a.fz 1;have F:=qH<|a.prI;by_cases f:k<s.size
  ·have d:(k:Int)<(s.size:Int):=dg
   have M:=decide_eq_true d;obtain⟨x,P⟩:=ad (s[k].toNat);have m:dh s k=x:=by rw[dT f,P]
   have v:x<256:=by rw[<-m];exact uQ f
   by_cases n:p x=true
   ·have E:=qH<|λw=>by have:=I x w v;rw[n]at this;exact this
    have D:Hid (run p s (k+1)=run p s j):=by rw[<-o.out];exact(ia f rd).symm
    have H:=qH<|λq=>by have:=(r.drewN q).setI (k+1);rw[show((k+1:Nat):Int)=(k:Int)+1 by omega]at this;exact this
    clear a o r m n;go_wp2_with fail;go_quiet(first|(go_at_fn g;exact Calls.quiet_of_same (E _)));go_wp2;go_roundw;case rel=>exact⟨k+1,dg,dg,D,H _,gr_trans (gr_trans B (aC _ _ _)) (bF _ _ _ _)⟩
    case measure=>rw[(H _).prI,F.out];omega
   ·have E:=qH<|λw=>by have:=I x w v;rw[show p x=false by grind]at this;exact this
    have c:Hid (run p s j=k):=by show _=_;rw[<-o.out];exact ja rd
    have t:(j:Int)<=(k:Int):=dg;have G:(k:Int)<=(s.size:Int):=dg;clear a o m n;go_wp2_with fail;go_quiet(first|(go_at_fn g;exact Calls.quiet_of_same (E _)));go_wp2_with fail;go_quiet(fail);go_wp2;go_ret2;exact⟨by rw[c.out];rfl,by rw[c.out];exact(r.drewN _).drewN _,gr_trans (gr_trans B (aC _ _ _)) (aC _ _ _)⟩
  ·have d:¬(k:Int)<(s.size:Int):=dg
   have M:=decide_eq_false d;have c:Hid (run p s j=k):=by show _=_;rw[<-o.out];exact vD f
   have t:(j:Int)<=(k:Int):=dg;have G:(k:Int)<=(s.size:Int):=dg;clear a o;go_wp2_with fail;go_quiet(fail);go_wp2_with fail;go_quiet(fail);go_wp2;go_ret2;exact⟨by rw[c.out];rfl,by rw[c.out];exact(r.drewN _).drewN _,gr_trans (gr_trans B (aC _ _ _)) (aC _ _ _)⟩
def Zj:List Nat:=[127,127,127,127,3,8,8,32,32,127,127,127]
def Xo:List Nat:=[104,105,106,107,108,109,110,111,112,113,114,115]
def gK(k:Nat):ByteArray:=bS[k]?.getD ByteArray.empty
def mV(k:Nat):Nat:=Zj[k]?.getD 0
def me(k:Nat):Int:=gX[k]?.getD 0
def mD(k:Nat):Int:=aQ[k]?.getD 0
def pH(k:Nat):Bool:=k==0
def u_(k:Nat):Nat:=Xo[k]?.getD 0
def TF(k:Nat):List Value:=[.string (gK k),.int .u64 (mV k:Int),Iq (me k),Iq (mD k),.bool (pH k),.func (.func (u_ k)) #[] #[]]
structure GL(W:World)(ab:Nat):Prop where
 lt:ab<W.heap.size
 row:∀k,k<12->∀t,t<6->W.cell? (aj ab (k*6+t))=(TF k)[t]?
theorem GL.fr{W a}{ab B r}(h:GL W ab)(f:Fr B r W a)(h1:ab<B)(b:ab≠r):GL a ab:=
 ⟨zz007 h.lt f.size,λk c t d=>by rw[bf (f.block ab h1 b)];exact h.row k c t d⟩
theorem GL.at{W}{ab k}(h:GL W ab)(a:k<12):W.cell? (aj ab (k*6))=some (.string (gK k))/\W.cell? (aj ab (k*6+1))=some (.int .u64 (mV k:Int))/\W.cell? (aj ab (k*6+2))=some (Iq (me k))/\W.cell? (aj ab (k*6+3))=some (Iq (mD k))/\W.cell? (aj ab (k*6+4))=some (.bool (pH k))/\W.cell? (aj ab (k*6+5))=some (.func (.func (u_ k)) #[] #[]):=
 ⟨h.row k a 0 dg,h.row k a 1 dg,h.row k a 2 dg,h.row k a 3 dg,h.row k a 4 dg,h.row k a 5 dg⟩
theorem ML(w:World):GL (w.alloc (.cells iP 195)) w.heap.size:=by
 refine⟨rn,λk b t c=>?_⟩;rw[World.cell?_alloc_at _ _ _ _ rfl];have:k=0\/k=1\/k=2\/k=3\/k=4\/k=5\/k=6\/k=7\/k=8\/k=9\/k=10\/k=11:=dg;have a:t=0\/t=1\/t=2\/t=3\/t=4\/t=5:=dg;rcases this with rfl|rfl|rfl|rfl|rfl|rfl|rfl|rfl|rfl|rfl|rfl|rfl<;>rcases a with rfl|rfl|rfl|rfl|rfl|rfl<;>rfl
def RT(g k:Nat):Prop:=(∀args w,(callFunc g args).run prog w=.ok (.enter g args) w)/\∀(nb o:Nat) (w:World),Cw g #[.pointer (some (aj nb o))] w λe w'=>e=Rw (.pointer (some (aj nb (o+(k+1)))))/\w'=w
theorem in_at k(a:k<12):RT (u_ k) k:=by
 have:k=0\/k=1\/k=2\/k=3\/k=4\/k=5\/k=6\/k=7\/k=8\/k=9\/k=10\/k=11:=dg;rcases this with rfl|rfl|rfl|rfl|rfl|rfl|rfl|rfl|rfl|rfl|rfl|rfl;·exact⟨enters_of func104 ns rfl,Y'⟩
 ·exact⟨enters_of func105 ns rfl,Za⟩
 ·exact⟨enters_of func106 ns rfl,Zb⟩
 ·exact⟨enters_of func107 ns rfl,Zc⟩
 ·exact⟨enters_of func108 ns rfl,Zd⟩
 ·exact⟨enters_of func109 ns rfl,Ze⟩
 ·exact⟨enters_of func110 ns rfl,Zf⟩
 ·exact⟨enters_of func111 ns rfl,Zg⟩
 ·exact⟨enters_of func112 ns rfl,Zh⟩
 ·exact⟨enters_of func113 ns rfl,Tw⟩
 ·exact⟨enters_of func114 ns rfl,Tx⟩
 ·exact⟨enters_of func115 ns rfl,Ty⟩
theorem vh(b:Nat)(w:World)(i:b<256):
 Cw 179 #[.int .u8 (b:Int)] w λe w'=>e=Rw (.bool (ao b))/\w'=w:=by
 by_cases h1:97<=b
 ·have a:(97:Int)<=(b:Int):=dg
  by_cases g:b<=122
  ·have c:(b:Int)<=122:=dg
   have d:Hid (ao b=true):=by show _=_;simp[ao,h1,g]
   have f:=decide_eq_true a;have h:=decide_eq_true c;go_enter func179,ntmps179;go_wp2;go_ret;exact⟨by rw[d.out];rfl,rfl⟩
  ·have c:¬(b:Int)<=122:=dg
   have d:Hid (ao b=false):=by show _=_;simp[ao,g]
   have f:=decide_eq_true a;have h:=decide_eq_false c;go_enter func179,ntmps179;go_wp2;go_ret;exact⟨by rw[d.out];rfl,rfl⟩
 ·have a:¬(97:Int)<=(b:Int):=dg
  have d:Hid (ao b=false):=by show _=_;simp[ao,h1]
  have f:=decide_eq_false a;go_enter func179,ntmps179;go_wp2;go_ret;exact⟨by rw[d.out];rfl,rfl⟩
theorem ni(a:Nat)(s:ByteArray)(i:Nat)(d g f:Value)(w:World)(h:PR w a s i d g f)(q:s.size<=1099511627776)(hi:i<=s.size):
 Cw 116 #[Pq a] w λe w'=>e=Rw (.tuple #[.string (s.extract (sk s i) (run ao s (sk s i))),Iq (sk s i:Int)])/\PR w' a s (run ao s (sk s i)) d g f/\w.grownBy w' (some a):=by
 have c:Hid (Cw 178 #[Pq a,.func (.func 179) #[] #[]] w λe w'=>e=Rw (.tuple #[.string (s.extract (sk s i) (run ao s (sk s i))),Iq (sk s i:Int)])/\PR w' a s (run ao s (sk s i)) d g f/\w.grownBy w' (some a)):=
  oY 179 (enters_of func179 ns rfl) ao (by rfl) (λb w p=>vh b w p) a s i d g f w h q hi;obtain⟨j,l⟩:=ad (sk s i);rw[l]at c⊢;obtain⟨t,m⟩:=ad (s.extract j (run ao s j));rw[m]at c⊢;clear h l m;go_enter func116,ntmps116;go_wp2_with fail;refine c.mono ?_;rintro e r ⟨rfl,h1,k⟩;have o:=qH<|h1;have n:=qH<|k;clear h1 k c;go_wp2;go_ret2;exact⟨rfl,o,n⟩
theorem readByte_yes(b:Nat)(s:ByteArray)(i:Nat)(c g d:Value)(w:World)(h:PR w b s i c g d)(o:s.size<=1099511627776)(hi:i<s.size):
 Cw 181 #[Pq b] w λe w'=>e=Rw (.int .u8 (dh s i:Int))/\PR w' b s (i+1) c g d/\w.grownBy w' (some b):=by
 have k:=qH<|h;have m:=h.c0;have c1:=h.c1;have f1:=h.fz 1;have n:((i:Int)==(s.size:Int))=false:=by simp;omega
 have f:(i:Int)<(s.size:Int):=dg;obtain⟨x,l⟩:=ad (s[i].toNat);have a:dh s i=x:=by rw[dT hi,l]
 rw[a];have j:=qH<|λq=>by have:=(k.drewN q).setI (i+1);rw[show((i+1:Nat):Int)=(i:Int)+1 by omega]at this;exact this
 clear h a;go_enter func181,ntmps181;go_wp2_with fail;go_quiet(fail);go_wp2_with fail;go_quiet(fail);go_wp2;go_ret;exact⟨rfl,(j _).drewN _,gr_trans (gr_trans (aC _ _ _) (bF _ _ _ _)) (aC _ _ _)⟩
theorem readByte_no(d:Nat)(s:ByteArray)(i:Nat)(j m k:Value)(b:Addr)(w:World)(h:PR w d s i j m k)(hi:i=s.size)(c:w.cell? (aj 7 0)=some (bi b)):
 Cw 181 #[Pq d] w λe w'=>e=.panicked [{v:=cP (i:Int) (bi b),recovered:=false}]/\w.grownBy w' (some d):=by
 have g:Hid (∀w,w.cell? (aj 7 0)=some (bi b)->Cw 57 #[Iq (i:Int)] w λe w'=>e=Rw (.iface 131 (.agg #[Iq (i:Int),.iface 376 (.pointer (some b))]))/\w'=w):=λw c=>fh _ w b c;have f:=qH<|c;have n:=h.c0;have c1:=h.c1;have o:((i:Int)==(s.size:Int))=true:=by simp;omega
 clear h c hi;go_enter func181,ntmps181;go_wp2_with fail;go_quiet(fail);go_wp2_with fail;refine(g (w.drewN _) f).mono ?_;rintro e p ⟨rfl,l⟩;obtain rfl:=l.symm;go_wp2;exact⟨rfl,rfl,aC _ _ _⟩
def l_(x:Nat):Option Nat:=if x=34 then some 34 else if x=92 then some 92 else if x=110 then some 10 else none
theorem readEscaped_yes(g:Nat)(s:ByteArray)(i:Nat)(m p n:Value)(w:World)(h:PR w g s i m p n)(r:s.size<=1099511627776)(hi:i<s.size)(c:Nat)(a:l_ (dh s i)=some c):
 Cw 183 #[Pq g] w λe w'=>e=Rw (.int .u8 (c:Int))/\PR w' g s (i+1) m p n/\w.grownBy w' (some g):=by
 have b:=qH<|readByte_yes g s i m p n w h r hi;obtain⟨x,q⟩:=ad (dh s i);rw[q]at b a;clear h q;by_cases h1:x=34
 ·have d:c=34:=by subst h1;simp[l_]at a;exact a.symm
  subst h1;subst d;clear a;go_enter func183,ntmps183;go_wp2_with fail;refine b.mono ?_;rintro e t ⟨rfl,h1,f⟩;have l:=qH<|h1;have k:=qH<|f;clear h1 f b;go_wp2;go_ret;exact⟨rfl,l,k⟩
 ·by_cases o:x=92;focus
   have d:c=92:=by subst o;simp[l_]at a;exact a.symm
   subst o;subst d;clear a
  rotate_left;focus
   have j:x=110:=by
    by_cases j:x=110;·exact j
    ·grind[l_]
   have d:c=10:=by subst j;simp[l_]at a;exact a.symm
   subst j;subst d;clear a h1 o
  rotate_left;all_goals go_enter func183,ntmps183;go_wp2_with fail;refine b.mono ?_;rintro e t ⟨rfl,h1,f⟩;have l:=qH<|h1;have k:=qH<|f;clear h1 f b;go_wp2;go_ret;exact⟨rfl,l,k⟩
theorem rE(b:Nat)(s:ByteArray)(i:Nat)(l o m:Value)(c:Addr)(w:World)(h:PR w b s i l o m)(u:s.size<=1099511627776)(hi:i<s.size)(d:l_ (dh s i)=none)(F:7≠b)(f:w.cell? (aj 7 0)=some (bi c)):
 Cw 183 #[Pq b] w λe w'=>e=.panicked [{v:=cP (i:Int) (bi c),recovered:=false}]/\w.grownBy w' (some b):=by
 have g:=qH<|readByte_yes b s i l o m w h u hi;have t:Hid (∀w,w.cell? (aj 7 0)=some (bi c)->Cw 57 #[Iq (i:Int)] w λe w'=>e=Rw (.iface 131 (.agg #[Iq (i:Int),.iface 376 (.pointer (some c))]))/\w'=w):=λw f=>fh _ w c f;have q:=qH<|f;obtain⟨x,n⟩:=ad (dh s i);rw[n]at g d;have z:x≠34:=by intro hh;subst hh;simp[l_]at d
 have A:x≠92:=by intro hh;subst hh;simp[l_]at d
 have B:x≠110:=by intro hh;subst hh;simp[l_]at d
 have C:((x:Int)==34)=false:=by simp;omega
 have D:((x:Int)==92)=false:=by simp;omega
 have E:((x:Int)==110)=false:=by simp;omega
 clear h n d f z A B;go_enter func183,ntmps183;go_wp2_with fail;refine g.mono ?_;rintro e p ⟨rfl,h1,k⟩;have r:=qH<|k;have c1:p.cell? (aj b 1)=some (Iq ((i:Int)+1)):=by have:=h1.c1;rw[show((i+1:Nat):Int)=(i:Int)+1 by omega]at this;exact this
 have j:=qH<|k.cell q rd;clear h1 k g;go_wp2_with fail;refine(t p j).mono ?_;rintro e G ⟨rfl,y⟩;obtain rfl:=y.symm;go_wp2;exact⟨rfl,rfl,r⟩
theorem xB(b:Nat)(w:World)(i:b<256):
 Cw 240 #[.int .u8 (b:Int)] w λe w'=>e=Rw (.bool (aP b))/\w'=w:=by
 by_cases h1:48<=b
 ·have a:(48:Int)<=(b:Int):=dg
  by_cases g:b<=57
  ·have c:(b:Int)<=57:=dg
   have d:Hid (aP b=true):=by show _=_;simp[aP,h1,g]
   have f:=decide_eq_true a;have h:=decide_eq_true c;go_enter func240,ntmps240;go_wp2;go_ret;exact⟨by rw[d.out];rfl,rfl⟩
  ·have c:¬(b:Int)<=57:=dg
   have d:Hid (aP b=false):=by show _=_;simp[aP,g]
   have f:=decide_eq_true a;have h:=decide_eq_false c;go_enter func240,ntmps240;go_wp2;go_ret;exact⟨by rw[d.out];rfl,rfl⟩
 ·have a:¬(48:Int)<=(b:Int):=dg
  have d:Hid (aP b=false):=by show _=_;simp[aP,h1]
  have f:=decide_eq_false a;go_enter func240,ntmps240;go_wp2;go_ret;exact⟨by rw[d.out];rfl,rfl⟩
theorem digits_any a s i c f d w(h:PR w a s i c f d)(j:s.size<=1099511627776)(hi:i<=s.size):
 Cw 178 #[Pq a,.func (.func 240) #[] #[]] w λe w'=>e=Rw (.tuple #[.string (s.extract (sk s i) (run aP s (sk s i))),Iq (sk s i:Int)])/\PR w' a s (run aP s (sk s i)) c f d/\w.grownBy w' (some a):=
 oY 240 (enters_of func240 ns rfl) aP (by rfl) (λb w g=>xB b w g) a s i c f d w h j hi
