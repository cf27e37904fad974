import Derived.Test.YtehgehanbnkdiaaGreatDoorQ02
import Derived.Shelf.Abstract
import Derived.Lib.Strings
set_option linter.all false
set_option maxRecDepth 100000
set_option maxHeartbeats 16000000
namespace Go.Proofs.YtehgehanbnkdiaaGreatDoor
open Go.RowKit Go.Proofs.Tryz
def nF(g:Nat)(S:∀args w,(callFunc g args).run prog w=.ok (.enter g args) w)(p:Nat->Bool)(U:p 256=false)(K:∀(b:Nat) w,b<256->Cw g #[.int .u8 (b:Int)] w λe w'=>e=Rw (.bool (p b))/\w'=w)(l:Nat)(s:BY)(i:Nat)(y A z:Fd)(w:AT)(h:PR w l s i y A z)(P:s.size<=1099511627776)(hi:i<=s.size):
 Cw 225 #[Pq l,.func (.func g) #[] #[]] w λe w'=>e=Rw (.tuple #[.string (s.extract (sk s i) (run p s (sk s i))),Iq (sk s i:Int)])/\PR w' l s (run p s (sk s i)) y A z/\w.grownBy w' (some l):=by
 have CS:=qH<|skipBlanks_any l s i y A z w h P hi;have J:=qH<|K;obtain⟨j,L⟩:=af (sk s i);have u:=gu s i hi;rw[L]at CS u|-;clear h L K;go_enter func225,ntmps225;go_wp2_with fail;refine Ut CS ?_;rintro V ⟨G,g1⟩;have M:=qH<|G;have C:=qH<|g1;have d1:=G.c1;clear G g1 CS;go_wp2;clear d1;go_loopw[13] (λ_ wr=>∃k:Nat,j<=k/\k<=s.size/\Hid (run p s k=run p s j)/\Hid (PR wr l s k y A z)/\Hid (w.grownBy wr (some l))) (λ_ wr=>s.size-prI wr l);.exact⟨j,LE,u,rfl,M,C⟩
 obtain⟨k,O,T,o,r,B⟩:=hrel;have a:=r.out;have R:=a.c0;have c1:=a.c1;have f1:=a.fz 1;have F:=qH<|a.prI;by_cases f:k<s.size
 .have d:(k:Int)<(s.size:Int):=dg;have N:=decide_eq_true d;obtain⟨x,Q⟩:=af (s[k].toNat);have m:cR s k=x:=by rw[dN f,Q]
  have v:x<256:=by rw[<-m];exact FK f
  by_cases n:p x=true
  .have E:=qH<|λw=>by have:=J x w v;rw[n]at this;exact this
   have D:Hid (run p s (k+1)=run p s j):=by rw[<-o.out];exact(gZ f rn).symm
   have I:=qH<|λq=>by have:=(r.drewN q).setI (k+1);rw[show((k+1:Nat):Int)=(k:Int)+1 by omega]at this;exact this
   clear a o r m n;go_wp2_with fail;go_quiet(first|(go_at_fn g;exact Calls.quiet_of_same (E _)));go_wp2;go_roundw;.exact⟨k+1,dg,dg,D,I _,gr_trans (gr_trans B (bi _ _ _)) (cM _ _ _ _)⟩
   .rw[(I _).prI,F.out];omega
  .have E:=qH<|λw=>by have:=J x w v;rw[show p x=false by grind]at this;exact this
   have c:Hid (run p s j=k):=qH<|by rw[<-o.out];exact g_ rn
   have t:(j:Int)<=(k:Int):=dg;have H:(k:Int)<=(s.size:Int):=dg;clear a o m n;go_wp2_with fail;go_quiet(first|(go_at_fn g;exact Calls.quiet_of_same (E _)));go_wp2_with fail;go_quiet(fail);go_wp2;go_ret2;exact⟨by rw[c.out];rfl,by rw[c.out];exact(r.drewN _).drewN _,gr_trans (gr_trans B (bi _ _ _)) (bi _ _ _)⟩
 .have d:¬(k:Int)<(s.size:Int):=dg;have N:=decide_eq_false d;have c:Hid (run p s j=k):=qH<|by rw[<-o.out];exact B9 f
  have t:(j:Int)<=(k:Int):=dg;have H:(k:Int)<=(s.size:Int):=dg;clear a o;go_wp2_with fail;go_quiet(fail);go_wp2_with fail;go_quiet(fail);go_wp2;go_ret2;exact⟨by rw[c.out];rfl,by rw[c.out];exact(r.drewN _).drewN _,gr_trans (gr_trans B (bi _ _ _)) (bi _ _ _)⟩
def ZO:List Nat:=[127,127,127,127,3,8,8,32,32,127,127,127]
def XH:List Nat:=[147,148,149,150,151,152,153,154,155,156,157,158]
def fJ(k:Nat):BY:=bu[k]?.getD ByteArray.empty
def lK(k:Nat):Nat:=ZO[k]?.getD 0
def k6(k:Nat):Int:=fY[k]?.getD 0
def li(k:Nat):Int:=aJ[k]?.getD 0
def ou(k:Nat):Bool:=k==0
def tC(k:Nat):Nat:=XH[k]?.getD 0
def Uo(k:Nat):List Fd:=[.string (fJ k),.int .u64 (lK k:Int),Iq (k6 k),Iq (li k),.bool (ou k),.func (.func (tC k)) #[] #[]]
structure Fq(W:AT)(ab:Nat):Prop where
 lt:ab<W.heap.size
 row:∀k,k<12->∀t,t<6->W.cell? (aq ab (k*6+t))=(Uo k)[t]?
def Fq.fr{W a}{ab B r}(h:Fq W ab)(f:Fr B r W a)(b:ab<B)(c:ab≠r):Fq a ab:=
 ⟨zz006 h.lt f.size,λk d t e=>by rw[aQ (f.block ab b c)];exact h.row k d t e⟩
def Fq.at{W}{ab k}(h:Fq W ab)(a:k<12):W.cell? (aq ab (k*6))=some (.string (fJ k))/\W.cell? (aq ab (k*6+1))=some (.int .u64 (lK k:Int))/\W.cell? (aq ab (k*6+2))=some (Iq (k6 k))/\W.cell? (aq ab (k*6+3))=some (Iq (li k))/\W.cell? (aq ab (k*6+4))=some (.bool (ou k))/\W.cell? (aq ab (k*6+5))=some (.func (.func (tC k)) #[] #[]):=
 ⟨h.row k a 0 dg,h.row k a 1 dg,h.row k a 2 dg,h.row k a 3 dg,h.row k a 4 dg,h.row k a 5 dg⟩
def M9(w:AT):Fq (w.alloc (.cells gM 259)) w.heap.size:=by refine⟨At,λk b t c=>?_⟩;rw[World.cell?_alloc_at _ _ _ _ rfl];have:k=0\/k=1\/k=2\/k=3\/k=4\/k=5\/k=6\/k=7\/k=8\/k=9\/k=10\/k=11:=dg;have a:t=0\/t=1\/t=2\/t=3\/t=4\/t=5:=dg;rcases this with rfl|rfl|rfl|rfl|rfl|rfl|rfl|rfl|rfl|rfl|rfl|rfl<;>rcases a with rfl|rfl|rfl|rfl|rfl|rfl<;>rfl
def SX(g k:Nat):Prop:=(∀args w,(callFunc g args).run prog w=.ok (.enter g args) w)/\∀(nb o:Nat) (w:AT),Cw g #[.pointer (some (aq nb o))] w λe w'=>e=Rw (.pointer (some (aq nb (o+(k+1)))))/\w'=w
def in_at k(a:k<12):SX (tC k) k:=by
 have:k=0\/k=1\/k=2\/k=3\/k=4\/k=5\/k=6\/k=7\/k=8\/k=9\/k=10\/k=11:=dg;rcases this with rfl|rfl|rfl|rfl|rfl|rfl|rfl|rfl|rfl|rfl|rfl|rfl;.exact⟨enters_of func147 pt rfl,Zz⟩
 .exact⟨enters_of func148 pt rfl,ZD⟩
 .exact⟨enters_of func149 pt rfl,ZE⟩
 .exact⟨enters_of func150 pt rfl,ZF⟩
 .exact⟨enters_of func151 pt rfl,ZG⟩
 .exact⟨enters_of func152 pt rfl,ZH⟩
 .exact⟨enters_of func153 pt rfl,ZI⟩
 .exact⟨enters_of func154 pt rfl,ZJ⟩
 .exact⟨enters_of func155 pt rfl,ZK⟩
 .exact⟨enters_of func156 pt rfl,T3⟩
 .exact⟨enters_of func157 pt rfl,T4⟩
 .exact⟨enters_of func158 pt rfl,T5⟩
def tI(b:Nat)(w:AT)(j:b<256):
 Cw 226 #[.int .u8 (b:Int)] w λe w'=>e=Rw (.bool (am b))/\w'=w:=by
 by_cases g:97<=b
 .have a:(97:Int)<=(b:Int):=dg;by_cases h:b<=122
  .have c:(b:Int)<=122:=dg;have d:Hid (am b=true):=qH<|by simp[am,g,h]
   have f:=decide_eq_true a;have i:=decide_eq_true c;go_enter func226,ntmps226;go_wp2;go_ret;exact⟨by rw[d.out];rfl,rfl⟩
  .have c:¬(b:Int)<=122:=dg;have d:Hid (am b=false):=qH<|by simp[am,h]
   have f:=decide_eq_true a;have i:=decide_eq_false c;go_enter func226,ntmps226;go_wp2;go_ret;exact⟨by rw[d.out];rfl,rfl⟩
 .have a:¬(97:Int)<=(b:Int):=dg;have d:Hid (am b=false):=qH<|by simp[am,g]
  have f:=decide_eq_false a;go_enter func226,ntmps226;go_wp2;go_ret;exact⟨by rw[d.out];rfl,rfl⟩
def lW(a:Nat)(s:BY)(i:Nat)(d g f:Fd)(w:AT)(h:PR w a s i d g f)(r:s.size<=1099511627776)(hi:i<=s.size):
 Cw 159 #[Pq a] w λe w'=>e=Rw (.tuple #[.string (s.extract (sk s i) (run am s (sk s i))),Iq (sk s i:Int)])/\PR w' a s (run am s (sk s i)) d g f/\w.grownBy w' (some a):=by
 have c:Hid (Cw 225 #[Pq a,.func (.func 226) #[] #[]] w λe w'=>e=Rw (.tuple #[.string (s.extract (sk s i) (run am s (sk s i))),Iq (sk s i:Int)])/\PR w' a s (run am s (sk s i)) d g f/\w.grownBy w' (some a)):=
  nF 226 (enters_of func226 pt rfl) am (by rfl) (λb w q=>tI b w q) a s i d g f w h r hi;obtain⟨j,m⟩:=af (sk s i);rw[m]at c|-;obtain⟨t,n⟩:=af (s.extract j (run am s j));rw[n]at c|-;clear h m n;go_enter func159,ntmps159;go_wp2_with fail;refine Ut c ?_;rintro u ⟨l,k⟩;have p:=qH<|l;have o:=qH<|k;clear l k c;go_wp2;go_ret2;exact⟨rfl,p,o⟩
def readByte_yes(b:Nat)(s:BY)(i:Nat)(c g d:Fd)(w:AT)(h:PR w b s i c g d)(o:s.size<=1099511627776)(hi:i<s.size):
 Cw 228 #[Pq b] w λe w'=>e=Rw (.int .u8 (cR s i:Int))/\PR w' b s (i+1) c g d/\w.grownBy w' (some b):=by
 have k:=qH<|h;have m:=h.c0;have c1:=h.c1;have f1:=h.fz 1;have n:((i:Int)==(s.size:Int))=false:=by simp;omega
 have f:(i:Int)<(s.size:Int):=dg;obtain⟨x,l⟩:=af (s[i].toNat);have a:cR s i=x:=by rw[dN hi,l]
 rw[a];have j:=qH<|λq=>by have:=(k.drewN q).setI (i+1);rw[show((i+1:Nat):Int)=(i:Int)+1 by omega]at this;exact this
 clear h a;go_enter func228,ntmps228;go_wp2_with fail;go_quiet(fail);go_wp2_with fail;go_quiet(fail);go_wp2;go_ret;exact⟨rfl,(j _).drewN _,gr_trans (gr_trans (bi _ _ _) (cM _ _ _ _)) (bi _ _ _)⟩
def readByte_no(d:Nat)(s:BY)(i:Nat)(j m k:Fd)(b:Addr)(w:AT)(h:PR w d s i j m k)(hi:i=s.size)(c:w.cell? (aq 7 0)=some (aT b)):
 Cw 228 #[Pq d] w λe w'=>e=.panicked [{v:=cB (i:Int) (aT b),recovered:=false}]/\w.grownBy w' (some d):=by
 have g:Hid (∀w,w.cell? (aq 7 0)=some (aT b)->Cw 94 #[Iq (i:Int)] w λe w'=>e=Rw (.iface 186 (.agg #[Iq (i:Int),.iface 460 (.pointer (some b))]))/\w'=w):=λw c=>d_ _ w b c;have f:=qH<|c;have n:=h.c0;have c1:=h.c1;have o:((i:Int)==(s.size:Int))=true:=by simp;omega
 clear h c hi;go_enter func228,ntmps228;go_wp2_with fail;go_quiet(fail);go_wp2_with fail;refine Ut (g (w.drewN _) f) ?_;rintro p l;obtain rfl:=l.symm;go_wp2;exact⟨rfl,rfl,bi _ _ _⟩
def kV(x:Nat):Option Nat:=if x=34 then some 34 else if x=92 then some 92 else if x=110 then some 10 else none
def readEscaped_yes(g:Nat)(s:BY)(i:Nat)(m p n:Fd)(w:AT)(h:PR w g s i m p n)(r:s.size<=1099511627776)(hi:i<s.size)(c:Nat)(a:kV (cR s i)=some c):
 Cw 230 #[Pq g] w λe w'=>e=Rw (.int .u8 (c:Int))/\PR w' g s (i+1) m p n/\w.grownBy w' (some g):=by
 have CB:=qH<|readByte_yes g s i m p n w h r hi;obtain⟨x,q⟩:=af (cR s i);rw[q]at CB a;clear h q;by_cases b:x=34
 .have d:c=34:=by subst b;simp[kV]at a;exact a.symm
  subst b;subst d;clear a;go_enter func230,ntmps230;go_wp2_with fail;refine Ut CB ?_;rintro t ⟨b,f⟩;have l:=qH<|b;have k:=qH<|f;clear b f CB;go_wp2;go_ret;exact⟨rfl,l,k⟩
 .by_cases o:x=92;focus
   have d:c=92:=by subst o;simp[kV]at a;exact a.symm
   subst o;subst d;clear a
  rotate_left;focus
   have j:x=110:=by
    by_cases j:x=110;.exact j
    .grind[kV]
   have d:c=10:=by subst j;simp[kV]at a;exact a.symm
   subst j;subst d;clear a b o
  rotate_left;all_goals go_enter func230,ntmps230;go_wp2_with fail;refine Ut CB ?_;rintro t ⟨b,f⟩;have l:=qH<|b;have k:=qH<|f;clear b f CB;go_wp2;go_ret;exact⟨rfl,l,k⟩
def qe(b:Nat)(s:BY)(i:Nat)(k o l:Fd)(c:Addr)(w:AT)(h:PR w b s i k o l)(u:s.size<=1099511627776)(hi:i<s.size)(d:kV (cR s i)=none)(F:7≠b)(f:w.cell? (aq 7 0)=some (aT c)):
 Cw 230 #[Pq b] w λe w'=>e=.panicked [{v:=cB (i:Int) (aT c),recovered:=false}]/\w.grownBy w' (some b):=by
 have CB:=qH<|readByte_yes b s i k o l w h u hi;have t:Hid (∀w,w.cell? (aq 7 0)=some (aT c)->Cw 94 #[Iq (i:Int)] w λe w'=>e=Rw (.iface 186 (.agg #[Iq (i:Int),.iface 460 (.pointer (some c))]))/\w'=w):=λw f=>d_ _ w c f;have q:=qH<|f;obtain⟨x,n⟩:=af (cR s i);rw[n]at CB d;have z:x≠34:=by intro hh;subst hh;simp[kV]at d
 have A:x≠92:=by intro hh;subst hh;simp[kV]at d
 have B:x≠110:=by intro hh;subst hh;simp[kV]at d
 have C:((x:Int)==34)=false:=by simp;omega
 have D:((x:Int)==92)=false:=by simp;omega
 have E:((x:Int)==110)=false:=by simp;omega
 clear h n d f z A B;go_enter func230,ntmps230;go_wp2_with fail;refine Ut CB ?_;rintro p ⟨m,j⟩;have r:=qH<|j;have c1:p.cell? (aq b 1)=some (Iq ((i:Int)+1)):=by have:=m.c1;rw[show((i+1:Nat):Int)=(i:Int)+1 by omega]at this;exact this
 have g:=qH<|j.cell q rn;clear m j CB;go_wp2_with fail;refine Ut (t p g) ?_;rintro G y;obtain rfl:=y.symm;go_wp2;exact⟨rfl,rfl,r⟩
def vt(b:Nat)(w:AT)(j:b<256):
 Cw 314 #[.int .u8 (b:Int)] w λe w'=>e=Rw (.bool (aE b))/\w'=w:=by
 by_cases g:48<=b
 .have a:(48:Int)<=(b:Int):=dg;by_cases h:b<=57
  .have c:(b:Int)<=57:=dg;have d:Hid (aE b=true):=qH<|by simp[aE,g,h]
   have f:=decide_eq_true a;have i:=decide_eq_true c;go_enter func314,ntmps314;go_wp2;go_ret;exact⟨by rw[d.out];rfl,rfl⟩
  .have c:¬(b:Int)<=57:=dg;have d:Hid (aE b=false):=qH<|by simp[aE,h]
   have f:=decide_eq_true a;have i:=decide_eq_false c;go_enter func314,ntmps314;go_wp2;go_ret;exact⟨by rw[d.out];rfl,rfl⟩
 .have a:¬(48:Int)<=(b:Int):=dg;have d:Hid (aE b=false):=qH<|by simp[aE,g]
  have f:=decide_eq_false a;go_enter func314,ntmps314;go_wp2;go_ret;exact⟨by rw[d.out];rfl,rfl⟩
def digits_any a s i c f d w(h:PR w a s i c f d)(j:s.size<=1099511627776)(hi:i<=s.size):
 Cw 225 #[Pq a,.func (.func 314) #[] #[]] w λe w'=>e=Rw (.tuple #[.string (s.extract (sk s i) (run aE s (sk s i))),Iq (sk s i:Int)])/\PR w' a s (run aE s (sk s i)) c f d/\w.grownBy w' (some a):=
 nF 314 (enters_of func314 pt rfl) aE (by rfl) (λb w g=>vt b w g) a s i c f d w h j hi
