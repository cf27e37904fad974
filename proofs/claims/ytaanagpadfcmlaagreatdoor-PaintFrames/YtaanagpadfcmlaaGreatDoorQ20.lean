import Derived.Test.YtaanagpadfcmlaaGreatDoorQ04
import Derived.Test.YtaanagpadfcmlaaGreatDoorQ19
set_option linter.all false
set_option maxRecDepth 100000
set_option maxHeartbeats 16000000
namespace Go.Proofs.YtaanagpadfcmlaaGreatDoor
open Go.RowKit Go.Proofs.Tryz
theorem oK{T e}{B b q}{p}{l}{w w'}(h:Lib.BuilderAtF T e B b p l w)(n:w.grownBy w' (some q))(y:q<B):Lib.BuilderAtF T e B b p l w':=by
 obtain⟨s,v,m,a,j⟩:=h;have lt:∀{k o},w.heap[k]?=some o->k<w.heap.size:=fun{k o} t=>(aD.1 t).1;refine⟨s,v,(n.block b (lt m) rd).trans m,⟨a.1,?_⟩,j⟩;rcases a.2 with x|⟨g,d,f,r,u,i,c,rest⟩;·grind
 ·exact .inr ⟨g,d,f,r,u,i,(n.block g (lt c) rd).trans c,rest⟩
theorem isBuilt_grown{T e}{B b f}{a}{w w'}(h:Lib.IsBuilderF T e B b a w)(c:w.grownBy w' (some f))(d:f<B):Lib.IsBuilderF T e B b a w':=
 h.elim (λx=>.inl (oK x c d)) (λx=>.inr (oK x c d))
theorem PR.belowB{W b}{a B}{s}{i}{d l f}(h:PR W a s i d l f)(c:Below B W b)(g:a<B):PR b a s i d l f:=
 have k:∀j v,W.cell? (aj a j)=some v->b.cell? (aj a j)=some v:=λj v e=>(c.cell (p:=(aj a j)) g).trans e
 ⟨zz007 h.lt c.size,k _ _ h.c0,k _ _ h.c1,k _ _ h.c2,k _ _ h.c3,k _ _ h.c4,λj=>(c.frozen (p:=(aj a j)) g).trans (h.fz j)⟩
theorem pG(b:Nat)(s:ByteArray)(i:Nat)(d j f:Value)(c:Addr)(w:World)(h:PR w b s i d j f)(hi:i=s.size)(g:w.cell? (aj 7 0)=some (bi c)):
 Cw 183 #[Pq b] w λe w'=>e=.panicked [{v:=cP (i:Int) (bi c),recovered:=false}]/\w.grownBy w' (some b):=by have k:=qH<|readByte_no b s i d j f c w h hi g;clear h g hi;go_enter func183,ntmps183;go_wp2_with fail;refine k.mono ?_;rintro e m ⟨rfl,l⟩;exact⟨rfl,rfl,l⟩
theorem ext_get(s:ByteArray)(j k c:Nat)(h:j+c<k)(a:k<=s.size):(s.extract j k).data.toList[c]?=some (s[j+c]' dg):=by have b:k<=s.data.size:=a;rw[ByteArray.data_extract,Ks,Array.getElem?_extract];rw[if_pos dg,NV dg];rfl
theorem qK(s:ByteArray)j k(a:k<=s.size):(s.extract j k).size=k-j:=by simp_all
theorem Hw s j k(b:k<=s.size)(d:k-j<=6)(hd:∀t,j+t<k->48<=dh s (j+t)/\dh s (j+t)<=57):
 ∀c,c<=k-j->Lib.decFrom 0 ((s.extract j k).data.toList.take c)=some (dv s j c).toNat
 |0,_=>by simp[Lib.decFrom,dv]
 |c+1,l=>by
  have g:=Hw s j k b d hd c dg;have i:=hd c dg;have f:=(qG s j c (λt m=>hd t dg)).1;have a:j+c<s.size:=dg;have h:=dT a;have e:=Lib.decFrom_take (s.extract j k).data.toList c 0 _ _ (dh s (j+c)-48) g (ext_get s j k c dg b) (by unfold Lib.digitVal;grind);grind[dv]
theorem atoi_dv s j k(o:j<k)(f:k<=s.size)(m:k-j<=6)(hd:∀t,j+t<k->48<=dh s (j+t)/\dh s (j+t)<=57):
 Lib.atoi (s.extract j k).data.toList=some (dv s j (k-j)):=by
 have c:=Hw s j k f m hd (k-j) (ae _);have e:(s.extract j k).data.toList.length=k-j:=by rw[dZ];exact qK s j k f
 rw[eP dg]at c;have d:=ext_get s j k 0 dg f;have g:=hd 0 dg;have h:=dT (s:=s) (i:=j+0) dg;have n:=(qG s j (k-j) (λt u=>hd t dg)).1;generalize(s.extract j k).data.toList=l at c d e;match l,d with
 |b::r,d=>
  simp only[Ku,Ed]at d;have a:b.toNat=dh s (j+0):=by rw[h,d]
  have p:(b==45)=false:=by apply beq_eq_false_iff_ne.mpr;intro hh;rw[hh]at a;simp at a g;omega
  have q:(b==43)=false:=by apply beq_eq_false_iff_ne.mpr;intro hh;rw[hh]at a;simp at a g;omega
  unfold Lib.atoi;dsimp only;rw[p,q];unfold Lib.decNat;grind
theorem A3 s j:∀t,j+t<run aP s j->48<=dh s (j+t)/\dh s (j+t)<=57:=λt a=>by have:=nu (p:=aP) s (s.size-j) j t a;grind[aP]
theorem readNumber_no(u:Nat)(s:ByteArray)(i:Nat)(G N I:Value)(m:Addr)(w:World)(h:PR w u s i G N I)(X:s.size<=1099511627776)(hi:i<=s.size)(V:7≠u)(he:w.cell? (aj 7 0)=some (bi m))(a:run aP s (sk s i)=sk s i\/sk s i+6<run aP s (sk s i)\/(sk s i+1<run aP s (sk s i)/\dh s (sk s i)=48)):
 Cw 217 #[Pq u] w λe w'=>e=.panicked [{v:=cP (sk s i:Int) (bi m),recovered:=false}]/\w.grownBy w' (some u):=by
 have d:=qH<|digits_any u s i G N I w h X hi;have n:=dX s i hi;obtain⟨j,J⟩:=ad (sk s i);rw[J]at d a n⊢;have O:Hid (∀w,w.cell? (aj 7 0)=some (bi m)->Cw 57 #[Iq (j:Int)] w λe w'=>e=Rw (.iface 131 (.agg #[Iq (j:Int),.iface 376 (.pointer (some m))]))/\w'=w):=λw he=>fh _ w m he;have z:=qH<|he;have f:=h_ aP s j n;have q:=g_ aP s j;obtain⟨k,K⟩:=ad (run aP s j);rw[K]at d a f q;have M:=qK s j k f;have R:j<k->∀hh,(s.extract j k)[0]'hh=s[j]' dg:=λW hh=>by have:=ext_get s j k 0 dg f;rw[dI rd,Ed]at this;exact this
 have C:∀hh:j<s.size,dh s j=(s[j]'hh).toNat:=λhh=>dT hh;obtain⟨t,L⟩:=ad (s.extract j k);rw[L]at d M;have F:t.size=0\/6<t.size\/(1<t.size/\∃hh:0<t.size,(t[0]'hh).toNat=48):=by
  rcases a with h|h|⟨h,T⟩;·omega
  ·omega
  ·grind
 clear h J he a R C K L M f q n;by_cases g:t.size=0
 ·have Q:t=⟨#[]⟩:=by apply kM;exact NX g
  subst Q;clear F g;go_enter func217,ntmps217;go_wp2_with fail;refine d.mono ?_;rintro e y ⟨rfl,h1,b⟩;have p:=qH<|b;have A:=qH<|b.cell z (by simpa using V);clear h1 b d;go_wp2_with fail;refine(O _ A).mono ?_;rintro e w2 ⟨rfl,Y⟩;obtain rfl:=Y.symm;go_wp2;exact⟨rfl,rfl,p⟩
 ·have E:t≠⟨#[]⟩:=λhh=>g (by rw[hh];rfl);have P:=decide_eq_false E;have h1:1<t.size:=dg
  have B:(1:Int)<(t.size:Int):=dg;have S:(0:Int)<(t.size:Int):=dg;have h0n:0<t.size:=dg;obtain⟨x,hx⟩:=ad ((t[0]'h0n).toNat);have r:6<t.size\/x=48:=by
   rcases F with h|h|⟨h,hh,T⟩;·omega
   ·omega
   ·omega
  clear F g;have Z:=decide_eq_true B;by_cases l:x=48
  ·subst l;clear r;by_cases U:6<t.size;focus
    have c:(6:Int)<(t.size:Int):=dg;have H:=decide_eq_true c
   rotate_left;focus
    have c:¬(6:Int)<(t.size:Int):=dg;have H:=decide_eq_false c
   rotate_left;all_goals go_enter func217,ntmps217;go_wp2_with fail;refine d.mono ?_;rintro e y ⟨rfl,h1,b⟩;have p:=qH<|b;have D:y.cell? (aj 7 0)=some (.iface 376 (.pointer (some m))):=b.cell z rd;clear h1 b d;go_wp2;all_goals exact⟨rfl,rfl,p⟩
  ·have ex:((x:Int)==48)=false:=by simp;omega
   have U:6<t.size:=dg;have c:(6:Int)<(t.size:Int):=dg;have H:=decide_eq_true c;clear r l;go_enter func217,ntmps217;go_wp2_with fail;refine d.mono ?_;rintro e y ⟨rfl,h1,b⟩;have p:=qH<|b;have D:y.cell? (aj 7 0)=some (.iface 376 (.pointer (some m))):=b.cell z rd;clear h1 b d;go_wp2;all_goals exact⟨rfl,rfl,p⟩
def K1(w w':World)(e:Ending)(rb:Nat)(s:ByteArray)(av nv fv:Value)(eb:Addr)(r:Except Nat (Nat×List UInt8)):Prop:=
 w.grownBy w' (some rb)/\match r with
  |.ok (p,t)=>e=Rw (.string ⟨t.toArray⟩)/\PR w' rb s p av nv fv
  |.error b=>e=.panicked [{v:=cP (b:Int) (bi eb),recovered:=false}]
theorem oa{A B C:World}{b}(h:A.grownBy B (some b))(k:Below A.heap.size B C):A.grownBy C (some b):=
 ⟨k.os.trans h.os,k.tape.trans h.tape,k.output.trans h.output,aF h.size k.size,λi hi a=>(k.block i hi).trans (h.block i hi a)⟩
theorem OR{s}{f p}{a}(h:dh s p=256):qF s (f+1) p a=.error p:=by grind[qF]
theorem Jt{s}{f p}{a}(h:dh s p=34):qF s (f+1) p a=.ok (p+1,a):=by grind[qF]
theorem OS{s}{f p c}{a}(h:dh s p=92)(b:l_ (dh s (p+1))=some c):qF s (f+1) p a=qF s f (p+2) (a++[c.toUInt8]):=by
 conv=>lhs;unfold qF
 rw[if_neg dg,if_neg dg,if_pos h];unfold l_ at b;by_cases h1:dh s (p+1)=34;·grind
 ·rw[if_neg h1]at b;by_cases d:dh s (p+1)=92;·grind
  ·rw[if_neg d]at b;by_cases e:dh s (p+1)=110;·rw[if_pos e]at b;cases b;grind
   grind
theorem Js{s}{f p}{a}(h:dh s p=92)(b:l_ (dh s (p+1))=none):qF s (f+1) p a=.error (p+1):=by grind[qF,l_,dh]
theorem Mm{s}{f p}{acc}(a:dh s p≠256)(h1:dh s p≠34)(b:dh s p≠92):qF s (f+1) p acc=qF s f (p+1) (acc++[(dh s p).toUInt8]):=by grind[qF]
theorem qA acc(c:Nat)(a:c<256):Lib.byteCells (acc++[c.toUInt8])=Lib.byteCells acc++[.int .u8 (c:Int)]:=by simp[Lib.byteCells];omega
theorem kC(b:Nat)(s:ByteArray)(i:Nat)(o r q:Value)(J:Addr)(w:World)(h:PR w b s i o r q)(hs:s.size<=1073741824)(hi:i<=s.size)(hg:7≠b)(he:w.cell? (aj 7 0)=some (bi J)):
 Cw 123 #[Pq b] w λe w'=>K1 w w' e b s o r q J (dU s i):=by
 have HE:=qH<|he;by_cases g:aL s i 34=true
 ·have Q:Hid (Cw 124 #[Pq b,.int .u8 34] w λe w'=>e=Rw (.tuple #[])/\PR w' b s (am s i 34) o r q/\w.grownBy w' (some b)):=gR b s i o r q 34 w h dg hi dg g;have hq:dU s i=qF s (s.size+2) (am s i 34) []:=by unfold dU;rw[if_pos g]
  have zb:am s i 34<=s.size:=by
   unfold aL at g;have h1:dh s (sk s i)=34:=by simpa using g
   have D:sk s i<s.size:=by
    by_cases hh:sk s i<s.size;·exact hh
    ·grind[dJ]
   unfold am;rw[if_pos h1];omega
  rw[hq];obtain⟨j,hj⟩:=ad (am s i 34);rw[hj]at Q zb⊢;obtain⟨R,hR⟩:=ad (qF s (s.size+2) j []);rw[hR];have zh:=qH<|hR;clear h he g hq hj hR;go_enter func123,ntmps123;go_wp2_with fail;refine Q.mono ?_;rintro e B ⟨rfl,h1,g1⟩;have m:=h1.lt;have HR:=qH<|h1;have u:=qH<|g1;clear h1 g1 Q;go_wp2;go_loopw[4] (λ_ wr=>∃(p f:Nat) (a:List UInt8),p<=s.size/\a.length<=p/\s.size<f+p/\Hid (qF s f p a=R)/\Hid (PR wr b s p o r q)/\Hid (Lib.IsBuilderF 216 5 B.heap.size B.heap.size (Lib.byteCells a) wr)/\Hid (B.grownBy wr (some b))) (λ_ wr=>s.size-prI wr b);case atStart=>exact⟨j,s.size+2,[],zb,aR _,dg,zh,HR.below ((af _ _).alloc (ae _) _),Lib.IsBuilderF.of (Lib.fresh_isBuilder 216 5 B),eh ((af _ _).alloc (ae _) _)⟩
  case round=>
   obtain⟨p,f0,a,hp,hl,hf,F,HS,HB,U⟩:=hrel;obtain⟨f,rfl⟩:∃f,f0=f+1:=⟨f0-1,dg⟩;have T:=qH<|U.cell (u.cell HE (by simpa using hg)) (by simpa using hg);have X:=qH<|HS.prI;by_cases za:p=s.size
   ·have C:=qH<|readByte_no b s p o r q J wr HS za T;have k:Hid (R=.error p):=by show _=_;rw[<-F.out];exact OR (dJ dg)
    go_wp2_with fail;refine C.mono ?_;rintro e H ⟨rfl,n⟩;refine⟨rfl,?_⟩;rw[k.out];exact⟨gr_trans u (gr_trans U n),rfl⟩
   ·have ze:p<s.size:=dg
    have Z:=uQ ze;have C:=qH<|readByte_yes b s p o r q wr HS dg ze;obtain⟨x,hx⟩:=ad (dh s p);have P:=qH<|hx;rw[hx]at C Z;clear hx;by_cases z:x=34
    ·have k:Hid (R=.ok (p+1,a)):=by show _=_;rw[<-F.out];exact Jt (by rw[P.out,z])
     subst z;go_wp2_with fail;refine C.mono ?_;rintro e H ⟨rfl,D,n⟩;have HR2:=qH<|D;have d:=qH<|gr_trans U n;have t:=qH<|isBuilt_grown HB n m;clear D n C;go_wp2_with(go_at_call 134;refine(yY B.heap.size B.heap.size a H t d.size).mono ?_;rintro e w3 ⟨rfl,zc,A,zj⟩);go_ret;show K1 _ _ _ _ _ _ _ _ _ _;rw[k.out];exact⟨gr_trans u (oa d A),rfl,HR2.belowB A m⟩
    ·have zk:((x:Int)==34)=false:=by simp;omega
     by_cases E:x=92
     ·have y:Hid (dh s p=92):=by show _=_;rw[P.out,E]
      subst E;clear z;have L:(Lib.byteCells a).length+1<=140737488355328:=by simp[Lib.byteCells];omega
      go_wp2_with fail;refine C.mono ?_;rintro e H ⟨rfl,D,n⟩;have HR2:=qH<|D;have d:=qH<|gr_trans U n;have t:=qH<|isBuilt_grown HB n m;have S:=qH<|n.cell T (by simpa using hg);clear D n C;by_cases N:p+1=s.size
      ·have k:Hid (R=.error (p+1)):=by show _=_;rw[<-F.out];exact Js y (by rw[dJ dg];rfl)
       go_wp2_with(go_at_call 183;refine(pG b s (p+1) o r q J H HR2 N S).mono ?_;rintro e w3 ⟨rfl,K⟩);refine⟨rfl,?_⟩;rw[k.out];exact⟨gr_trans u (gr_trans d K),rd⟩
      ·cases l:l_ (dh s (p+1))with
       |none=>
        have k:Hid (R=.error (p+1)):=by show _=_;rw[<-F.out];exact Js y l
        go_wp2_with(go_at_call 183;refine(rE b s (p+1) o r q J H HR2 dg dg l hg S).mono ?_;rintro e w3 ⟨rfl,K⟩);refine⟨rfl,?_⟩;rw[k.out];exact⟨gr_trans u (gr_trans d K),rfl⟩
       |some c=>
        have M:c<256:=by
         unfold l_ at l;split at l;·grind
         ·grind
        have I:Hid (qF s f (p+2) (a++[c.toUInt8])=R):=by show _=_;rw[<-OS y.out l];exact F
        have CE:=qH<|readEscaped_yes b s (p+1) o r q H HR2 dg dg c l;clear l;go_wp2_with fail;refine CE.mono ?_;rintro e w3 ⟨rfl,h3,K⟩;have HR3:Hid (PR w3 b s (p+2) o r q):=h3;have V:=qH<|gr_trans d K;have zg:=qH<|isBuilt_grown t K m;clear h3 K CE;go_wp2_with(go_at_call 182;refine(lO B.heap.size B.heap.size (Lib.byteCells a) (c:Int) w3 zg L V.size).mono ?_;rintro e w4 ⟨rfl,zi,Y,zm⟩);have W:=qH<|HR3.belowB Y m;go_roundw;case rel=>exact⟨p+2,f,a++[c.toUInt8],dg,by simp;omega,dg,I,W,by show Lib.IsBuilderF _ _ _ _ _ _;rw[qA a c M];exact .inr zi,oa V Y⟩
        case measure=>rw[W.prI,X.out];omega
     ·have zl:((x:Int)==92)=false:=by simp;omega
      have I:Hid (qF s f (p+1) (a++[x.toUInt8])=R):=by show _=_;have:=Mm (s:=s) (f:=f) (p:=p) (acc:=a) (by rw[P.out];omega) (by rw[P.out];exact z) (by rw[P.out];exact E);rw[P.out]at this;rw[<-this];exact F
      have L:(Lib.byteCells a).length+1<=140737488355328:=by simp[Lib.byteCells];omega
      clear z E;go_wp2_with fail;refine C.mono ?_;rintro e H ⟨rfl,D,n⟩;have HR2:=qH<|D;have d:=qH<|gr_trans U n;have t:=qH<|isBuilt_grown HB n m;clear D n C;go_wp2_with(go_at_call 182;refine(lO B.heap.size B.heap.size (Lib.byteCells a) (x:Int) H t L d.size).mono ?_;rintro e w3 ⟨rfl,zc,A,zj⟩);have HR3:=qH<|HR2.belowB A m;go_roundw;case rel=>exact⟨p+1,f,a++[x.toUInt8],dg,by simp;omega,dg,I,HR3,by show Lib.IsBuilderF _ _ _ _ _ _;rw[qA a x Z];exact .inr zc,oa d A⟩
      case measure=>rw[HR3.prI,X.out];omega
 ·have G:aL s i 34=false:=by simpa using g
  have Q:Hid (Cw 124 #[Pq b,.int .u8 34] w λe w'=>e=.panicked [{v:=cP (sk s i:Int) (bi J),recovered:=false}]/\w.grownBy w' (some b)):=iS b s i o r q J 34 w h dg hi dg G hg he;have F:Hid (dU s i=.error (sk s i)):=by show _=_;unfold dU;rw[if_neg g]
  clear h he g G;go_enter func123,ntmps123;go_wp2_with fail;refine Q.mono ?_;rintro e B ⟨rfl,g1⟩;refine⟨rfl,?_⟩;rw[F.out];exact⟨g1,rfl⟩
