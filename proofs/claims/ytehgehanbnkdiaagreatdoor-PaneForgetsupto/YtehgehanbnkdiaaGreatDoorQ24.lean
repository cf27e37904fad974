import Derived.Test.YtehgehanbnkdiaaGreatDoorQ04
import Derived.Test.YtehgehanbnkdiaaGreatDoorQ23
import Derived.Lib.AtoiErrMem
set_option linter.all false
set_option maxRecDepth 100000
set_option maxHeartbeats 16000000
namespace Go.Proofs.YtehgehanbnkdiaaGreatDoor
open Go.RowKit Go.Proofs.Tryz
theorem mS{T e}{B b q}{p}{l}{w w'}(h:Lib.BuilderAtF T e B b p l w)(n:w.grownBy w' (some q))(y:q<B):Lib.BuilderAtF T e B b p l w':=by
 obtain⟨s,v,m,a,j⟩:=h;have lt:∀{k o},w.heap[k]?=some o->k<w.heap.size:=fun{k o} t=>(aj.1 t).1;refine⟨s,v,(n.block b (lt m) rn).trans m,⟨a.1,?_⟩,j⟩;rcases a.2 with x|⟨g,d,f,r,u,i,c,rest⟩;·grind
 ·exact .inr ⟨g,d,f,r,u,i,(n.block g (lt c) rn).trans c,rest⟩
theorem isBuilt_grown{T e}{B b f}{a}{w w'}(h:Lib.IsBuilderF T e B b a w)(c:w.grownBy w' (some f))(d:f<B):Lib.IsBuilderF T e B b a w':=
 h.elim (λx=>.inl (mS x c d)) (λx=>.inr (mS x c d))
theorem PR.belowB{W b}{a B}{s}{i}{d l f}(h:PR W a s i d l f)(c:Below B W b)(g:a<B):PR b a s i d l f:=
 have k:∀j v,W.cell? (aq a j)=some v->b.cell? (aq a j)=some v:=λj v e=>(c.cell (p:=(aq a j)) g).trans e
 ⟨zz006 h.lt c.size,k _ _ h.c0,k _ _ h.c1,k _ _ h.c2,k _ _ h.c3,k _ _ h.c4,λj=>(c.frozen (p:=(aq a j)) g).trans (h.fz j)⟩
theorem nY(b:Nat)(s:BY)(i:Nat)(d j f:Fd)(c:Addr)(w:AT)(h:PR w b s i d j f)(hi:i=s.size)(g:w.cell? (aq 7 0)=some (aS c)):
 Cw 230 #[Pq b] w λe w'=>e=.panicked [{v:=cj (i:Int) (aS c),recovered:=false}]/\w.grownBy w' (some b):=by have CB:=qH<|readByte_no b s i d j f c w h hi g;clear h g hi;go_enter func230,ntmps230;go_wp2_with fail;refine CB.mono ?_;rintro e l ⟨rfl,k⟩;exact⟨rfl,rfl,k⟩
theorem ext_get(s:BY)(j k c:Nat)(h:j+c<k)(a:k<=s.size):(s.extract j k).data.toList[c]?=some (s[j+c]' dg):=by have b:k<=s.data.size:=a;rw[ByteArray.data_extract,I5,Array.getElem?_extract];rw[if_pos dg,xt dg];rfl
theorem oZ(s:BY)j k(a:k<=s.size):(s.extract j k).size=k-j:=by simp_all
theorem Fq s j k(b:k<=s.size)(d:k-j<=6)(hd:∀t,j+t<k->48<=dj s (j+t)/\dj s (j+t)<=57):
 ∀c,c<=k-j->Lib.decFrom 0 ((s.extract j k).data.toList.take c)=some (dv s j c).toNat
 |0,_=>by simp[Lib.decFrom,dv]
 |c+1,l=>by
  have g:=Fq s j k b d hd c dg;have i:=hd c dg;have f:=(uF s j c (λt m=>hd t dg)).1;have a:j+c<s.size:=dg;have h:=gY a;have e:=Lib.decFrom_take (s.extract j k).data.toList c 0 _ _ (dj s (j+c)-48) g (ext_get s j k c dg b) (by unfold Lib.digitVal;grind);grind[dv]
theorem atoi_dv s j k(o:j<k)(f:k<=s.size)(m:k-j<=6)(hd:∀t,j+t<k->48<=dj s (j+t)/\dj s (j+t)<=57):
 Lib.atoi (s.extract j k).data.toList=some (dv s j (k-j)):=by
 have c:=Fq s j k f m hd (k-j) (ad _);have e:(s.extract j k).data.toList.length=k-j:=by rw[ep];exact oZ s j k f
 rw[gT dg]at c;have d:=ext_get s j k 0 dg f;have g:=hd 0 dg;have h:=gY (s:=s) (i:=j+0) dg;have n:=(uF s j (k-j) (λt u=>hd t dg)).1;generalize(s.extract j k).data.toList=l at c d e;match l,d with
 |b::r,d=>
  simp only[B7,BZ]at d;have a:b.toNat=dj s (j+0):=by rw[h,d]
  have p:(b==45)=false:=by apply beq_eq_false_iff_ne.mpr;intro hh;rw[hh]at a;simp at a g;omega
  have q:(b==43)=false:=by apply beq_eq_false_iff_ne.mpr;intro hh;rw[hh]at a;simp at a g;omega
  unfold Lib.atoi;dsimp only;rw[p,q];unfold Lib.decNat;grind
theorem xR s j:∀t,j+t<run aL s j->48<=dj s (j+t)/\dj s (j+t)<=57:=λt a=>by have:=oA (p:=aL) s (s.size-j) j t a;grind[aL]
theorem readNumber_no(y:Nat)(s:BY)(i:Nat)(H O J:Fd)(m:Addr)(w:AT)(h:PR w y s i H O J)(Y:s.size<=1099511627776)(hi:i<=s.size)(W:7≠y)(he:w.cell? (aq 7 0)=some (aS m))(a:run aL s (sk s i)=sk s i\/sk s i+6<run aL s (sk s i)\/(sk s i+1<run aL s (sk s i)/\dj s (sk s i)=48)):
 Cw 281 #[Pq y] w λe w'=>e=.panicked [{v:=cj (sk s i:Int) (aS m),recovered:=false}]/\w.grownBy w' (some y):=by
 have d:=qH<|digits_any y s i H O J w h Y hi;have n:=f_ s i hi;obtain⟨j,K⟩:=af (sk s i);rw[K]at d a n⊢;have P:Hid (∀w,w.cell? (aq 7 0)=some (aS m)->Cw 94 #[Iq (j:Int)] w λe w'=>e=Rw (.iface 186 (.agg #[Iq (j:Int),.iface 460 (.pointer (some m))]))/\w'=w):=λw he=>dP _ w m he;have A:=qH<|he;have f:=gu aL s j n;have r:=io aL s j;obtain⟨k,L⟩:=af (run aL s j);rw[L]at d a f r;have N:=oZ s j k f;have S:j<k->∀hh,(s.extract j k)[0]'hh=s[j]' dg:=λX hh=>by have:=ext_get s j k 0 dg f;rw[cW rn,BZ]at this;exact this
 have D:∀hh:j<s.size,dj s j=(s[j]'hh).toNat:=λhh=>gY hh;obtain⟨t,M⟩:=af (s.extract j k);rw[M]at d N;have G:t.size=0\/6<t.size\/(1<t.size/\∃hh:0<t.size,(t[0]'hh).toNat=48):=by
  rcases a with h|h|⟨h,U⟩;·omega
  ·omega
  ·grind
 clear h K he a S D L M N f r n;by_cases g:t.size=0
 ·have R:t=⟨#[]⟩:=by apply jZ;exact Nl g
  subst R;clear G g;go_enter func281,ntmps281;go_wp2_with fail;refine d.mono ?_;rintro e z ⟨rfl,p,b⟩;have q:=qH<|b;have B:=qH<|b.cell A (by simpa using W);clear p b d;go_wp2_with fail;refine(P _ B).mono ?_;rintro e w2 ⟨rfl,Z⟩;obtain rfl:=Z.symm;go_wp2;exact⟨rfl,rfl,q⟩
 ·have F:t≠⟨#[]⟩:=λhh=>g (by rw[hh];rfl);have Q:=decide_eq_false F;have p:1<t.size:=dg
  have C:(1:Int)<(t.size:Int):=dg;have T:(0:Int)<(t.size:Int):=dg;have h0n:0<t.size:=dg;obtain⟨x,hx⟩:=af ((t[0]'h0n).toNat);have u:6<t.size\/x=48:=by
   rcases G with h|h|⟨h,hh,U⟩;·omega
   ·omega
   ·omega
  clear G g;have ed:=decide_eq_true C;by_cases l:x=48
  ·subst l;clear u;by_cases V:6<t.size;focus
    have c:(6:Int)<(t.size:Int):=dg;have I:=decide_eq_true c
   rotate_left;focus
    have c:¬(6:Int)<(t.size:Int):=dg;have I:=decide_eq_false c
   rotate_left;all_goals go_enter func281,ntmps281;go_wp2_with fail;refine d.mono ?_;rintro e z ⟨rfl,p,b⟩;have q:=qH<|b;have E:z.cell? (aq 7 0)=some (.iface 460 (.pointer (some m))):=b.cell A rn;clear p b d;go_wp2;all_goals exact⟨rfl,rfl,q⟩
  ·have ex:((x:Int)==48)=false:=by simp;omega
   have V:6<t.size:=dg;have c:(6:Int)<(t.size:Int):=dg;have I:=decide_eq_true c;clear u l;go_enter func281,ntmps281;go_wp2_with fail;refine d.mono ?_;rintro e z ⟨rfl,p,b⟩;have q:=qH<|b;have E:z.cell? (aq 7 0)=some (.iface 460 (.pointer (some m))):=b.cell A rn;clear p b d;go_wp2;all_goals exact⟨rfl,rfl,q⟩
theorem readNumber_yes(m:Nat)(s:BY)(i:Nat)(q B r:Fd)(w:AT)(h:PR w m s i q B r)(R:s.size<=1099511627776)(hi:i<=s.size)(d:¬(run aL s (sk s i)=sk s i\/sk s i+6<run aL s (sk s i)\/(sk s i+1<run aL s (sk s i)/\dj s (sk s i)=48))):
 Cw 281 #[Pq m] w λe w'=>e=Rw (.tuple #[Iq (dv s (sk s i) (run aL s (sk s i)-sk s i)),Iq (sk s i:Int)])/\PR w' m s (run aL s (sk s i)) q B r/\w.grownBy w' (some m):=by
 have f:=qH<|digits_any m s i q B r w h R hi;have c:=f_ s i hi;obtain⟨j,D⟩:=af (sk s i);rw[D]at f d c⊢;have a:=gu aL s j c;have l:=io aL s j;have b:=xR s j;obtain⟨k,E⟩:=af (run aL s j);rw[E]at f d a l b⊢;have J:=oZ s j k a;have o:=qH<|atoi_dv s j k dg a dg b;have M:j<k->∀hh,(s.extract j k)[0]'hh=s[j]' dg:=λP hh=>by have:=ext_get s j k 0 dg a;rw[cW rn,BZ]at this;exact this
 have z:∀hh:j<s.size,dj s j=(s[j]'hh).toNat:=λhh=>gY hh;obtain⟨t,G⟩:=af (s.extract j k);rw[G]at f J o;obtain⟨n,F⟩:=af (dv s j (k-j));rw[F]at o⊢;have A:0<t.size/\t.size<=6:=dg;have H:1<t.size->∀hh:0<t.size,(t[0]'hh).toNat≠48:=λg hh X=>rn;have p:=qH<|λw=>EK t n dg o w;have Q:t.toList.isEmpty=false:=by
  cases hh:t.toList.isEmpty with
  |false=>rfl
  |true=>
   exfalso;rw[List.isEmpty_iff,ByteArray.toList_eq]at hh;have O:t.data.toList.length=0:=by rw[hh];rfl
   rw[ep]at O;have V:t.size=t.data.size:=rfl;omega
 clear h D d M z E G J a l c b F o;obtain⟨h0n,W⟩:=A;have N:(0:Int)<(t.size:Int):=dg;have y:¬(6:Int)<(t.size:Int):=dg;have T:=decide_eq_false y;by_cases g:1<t.size;focus
  have v:(1:Int)<(t.size:Int):=dg;obtain⟨x,S⟩:=af ((t[0]'h0n).toNat);have I:x≠48:=by rw[<-S];exact H g h0n
  have U:((x:Int)==48)=false:=by simp;omega
 rotate_left;focus have v:¬(1:Int)<(t.size:Int):=dg
 rotate_left;all_goals clear H;go_enter func281,ntmps281;go_wp2_with fail;refine f.mono ?_;rintro e Y ⟨rfl,g,C⟩;have L:=qH<|g;have K:=qH<|C;clear g C f;go_wp2_with(go_at_call 315;refine(p _).mono ?_;rintro e Z ⟨rfl,u,rfl⟩);go_ret2;exact⟨rfl,L.below (Lib.bytesWorld_below _ _ _),gr_trans K (db (Lib.bytesWorld_below _ _ _))⟩
def Jv(w w':AT)(e:Ending)(rb:Nat)(s:BY)(av nv fv:Fd)(eb:Addr)(r:Except Nat (Nat×List UInt8)):Prop:=
 w.grownBy w' (some rb)/\match r with
  |.ok (p,t)=>e=Rw (.string ⟨t.toArray⟩)/\PR w' rb s p av nv fv
  |.error b=>e=.panicked [{v:=cj (b:Int) (aS eb),recovered:=false}]
theorem me{A B C:AT}{b}(h:A.grownBy B (some b))(k:Below A.heap.size B C):A.grownBy C (some b):=
 ⟨k.os.trans h.os,k.tape.trans h.tape,k.output.trans h.output,az h.size k.size,λi hi a=>(k.block i hi).trans (h.block i hi a)⟩
theorem OM{s}{f p}{a}(h:dj s p=256):qF s (f+1) p a=.error p:=by grind[qF]
theorem Hr{s}{f p}{a}(h:dj s p=34):qF s (f+1) p a=.ok (p+1,a):=by grind[qF]
theorem ON{s}{f p c}{a}(h:dj s p=92)(b:kD (dj s (p+1))=some c):qF s (f+1) p a=qF s f (p+2) (a++[c.toUInt8]):=by
 conv=>lhs;unfold qF
 rw[if_neg dg,if_neg dg,if_pos h];unfold kD at b;by_cases d:dj s (p+1)=34;·grind
 ·rw[if_neg d]at b;by_cases e:dj s (p+1)=92;·grind
  ·rw[if_neg e]at b;by_cases g:dj s (p+1)=110;·rw[if_pos g]at b;cases b;grind
   grind
theorem Hq{s}{f p}{a}(h:dj s p=92)(b:kD (dj s (p+1))=none):qF s (f+1) p a=.error (p+1):=by grind[qF,kD,dj]
theorem LC{s}{f p}{acc}(a:dj s p≠256)(b:dj s p≠34)(c:dj s p≠92):qF s (f+1) p acc=qF s f (p+1) (acc++[(dj s p).toUInt8]):=by grind[qF]
theorem oS acc(c:Nat)(a:c<256):Lib.byteCells (acc++[c.toUInt8])=Lib.byteCells acc++[.int .u8 (c:Int)]:=by simp[Lib.byteCells];omega
theorem iZ(b:Nat)(s:BY)(i:Nat)(o r q:Fd)(I:Addr)(w:AT)(h:PR w b s i o r q)(hs:s.size<=1073741824)(hi:i<=s.size)(hg:7≠b)(he:w.cell? (aq 7 0)=some (aS I)):
 Cw 166 #[Pq b] w λe w'=>Jv w w' e b s o r q I (jJ s i):=by
 have HE:=qH<|he;by_cases g:aR s i 34=true
 ·have P:Hid (Cw 167 #[Pq b,.int .u8 34] w λe w'=>e=Rw (.tuple #[])/\PR w' b s (ao s i 34) o r q/\w.grownBy w' (some b)):=fG b s i o r q 34 w h dg hi dg g;have hq:jJ s i=qF s (s.size+2) (ao s i 34) []:=by unfold jJ;rw[if_pos g]
  have zg:ao s i 34<=s.size:=by
   unfold aR at g;have X:dj s (sk s i)=34:=by simpa using g
   have C:sk s i<s.size:=by
    by_cases hh:sk s i<s.size;·exact hh
    ·grind[fm]
   unfold ao;rw[if_pos X];omega
  rw[hq];obtain⟨j,hj⟩:=af (ao s i 34);rw[hj]at P zg⊢;obtain⟨R,hR⟩:=af (qF s (s.size+2) j []);rw[hR];have zk:=qH<|hR;clear h he g hq hj hR;go_enter func166,ntmps166;go_wp2_with fail;refine P.mono ?_;rintro e B ⟨rfl,X,g1⟩;have m:=X.lt;have HR:=qH<|X;have u:=qH<|g1;clear X g1 P;go_wp2;go_loopw[4] (λ_ wr=>∃(p f:Nat) (a:zzf),p<=s.size/\a.length<=p/\s.size<f+p/\Hid (qF s f p a=R)/\Hid (PR wr b s p o r q)/\Hid (Lib.IsBuilderF 160 5 B.heap.size B.heap.size (Lib.byteCells a) wr)/\Hid (B.grownBy wr (some b))) (λ_ wr=>s.size-prI wr b);case atStart=>exact⟨j,s.size+2,[],zg,aP _,dg,zk,HR.below ((ac _ _).alloc (ad _) _),Lib.IsBuilderF.of (Lib.fresh_isBuilder 160 5 B),db ((ac _ _).alloc (ad _) _)⟩
  case round=>
   obtain⟨p,f0,a,hp,hl,hf,E,HS,HB,T⟩:=hrel;obtain⟨f,rfl⟩:∃f,f0=f+1:=⟨f0-1,dg⟩;have S:=qH<|T.cell (u.cell HE (by simpa using hg)) (by simpa using hg);have W:=qH<|HS.prI;by_cases ze:p=s.size
   ·have CB:=qH<|readByte_no b s p o r q I wr HS ze S;have k:Hid (R=.error p):=by show _=_;rw[<-E.out];exact OM (fm dg)
    go_wp2_with fail;refine CB.mono ?_;rintro e G ⟨rfl,n⟩;refine⟨rfl,?_⟩;rw[k.out];exact⟨gr_trans u (gr_trans T n),rfl⟩
   ·have zi:p<s.size:=dg
    have Z:=EM zi;have CB:=qH<|readByte_yes b s p o r q wr HS dg zi;obtain⟨x,hx⟩:=af (dj s p);have O:=qH<|hx;rw[hx]at CB Z;clear hx;by_cases z:x=34
    ·have k:Hid (R=.ok (p+1,a)):=by show _=_;rw[<-E.out];exact Hr (by rw[O.out,z])
     subst z;go_wp2_with fail;refine CB.mono ?_;rintro e G ⟨rfl,C,n⟩;have HR2:=qH<|C;have d:=qH<|gr_trans T n;have t:=qH<|isBuilt_grown HB n m;clear C n CB;go_wp2_with(go_at_call 70;refine(wZ B.heap.size B.heap.size a G t d.size).mono ?_;rintro e w3 ⟨rfl,zh,A,zm⟩);go_ret;show Jv _ _ _ _ _ _ _ _ _ _;rw[k.out];exact⟨gr_trans u (me d A),rfl,HR2.belowB A m⟩
    ·have zn:((x:Int)==34)=false:=by simp;omega
     by_cases D:x=92
     ·have y:Hid (dj s p=92):=by show _=_;rw[O.out,D]
      subst D;clear z;have K:(Lib.byteCells a).length+1<=140737488355328:=by simp[Lib.byteCells];omega
      go_wp2_with fail;refine CB.mono ?_;rintro e G ⟨rfl,C,n⟩;have HR2:=qH<|C;have d:=qH<|gr_trans T n;have t:=qH<|isBuilt_grown HB n m;have Q:=qH<|n.cell S (by simpa using hg);clear C n CB;by_cases M:p+1=s.size
      ·have k:Hid (R=.error (p+1)):=by show _=_;rw[<-E.out];exact Hq y (by rw[fm dg];rfl)
       go_wp2_with(go_at_call 230;refine(nY b s (p+1) o r q I G HR2 M Q).mono ?_;rintro e w3 ⟨rfl,J⟩);refine⟨rfl,?_⟩;rw[k.out];exact⟨gr_trans u (gr_trans d J),rn⟩
      ·cases l:kD (dj s (p+1))with
       |none=>
        have k:Hid (R=.error (p+1)):=by show _=_;rw[<-E.out];exact Hq y l
        go_wp2_with(go_at_call 230;refine(pS b s (p+1) o r q I G HR2 dg dg l hg Q).mono ?_;rintro e w3 ⟨rfl,J⟩);refine⟨rfl,?_⟩;rw[k.out];exact⟨gr_trans u (gr_trans d J),rfl⟩
       |some c=>
        have L:c<256:=by
         unfold kD at l;split at l;·grind
         ·grind
        have H:Hid (qF s f (p+2) (a++[c.toUInt8])=R):=by show _=_;rw[<-ON y.out l];exact E
        have CE:=qH<|readEscaped_yes b s (p+1) o r q G HR2 dg dg c l;clear l;go_wp2_with fail;refine CE.mono ?_;rintro e w3 ⟨rfl,h3,J⟩;have HR3:Hid (PR w3 b s (p+2) o r q):=h3;have U:=qH<|gr_trans d J;have zj:=qH<|isBuilt_grown t J m;clear h3 J CE;go_wp2_with(go_at_call 229;refine(jW B.heap.size B.heap.size (Lib.byteCells a) (c:Int) w3 zj K U.size).mono ?_;rintro e w4 ⟨rfl,zl,Y,zq⟩);have V:=qH<|HR3.belowB Y m;go_roundw;case rel=>exact⟨p+2,f,a++[c.toUInt8],dg,by simp;omega,dg,H,V,by show Lib.IsBuilderF _ _ _ _ _ _;rw[oS a c L];exact .inr zl,me U Y⟩
        case measure=>rw[V.prI,W.out];omega
     ·have zo:((x:Int)==92)=false:=by simp;omega
      have H:Hid (qF s f (p+1) (a++[x.toUInt8])=R):=by show _=_;have:=LC (s:=s) (f:=f) (p:=p) (acc:=a) (by rw[O.out];omega) (by rw[O.out];exact z) (by rw[O.out];exact D);rw[O.out]at this;rw[<-this];exact E
      have K:(Lib.byteCells a).length+1<=140737488355328:=by simp[Lib.byteCells];omega
      clear z D;go_wp2_with fail;refine CB.mono ?_;rintro e G ⟨rfl,C,n⟩;have HR2:=qH<|C;have d:=qH<|gr_trans T n;have t:=qH<|isBuilt_grown HB n m;clear C n CB;go_wp2_with(go_at_call 229;refine(jW B.heap.size B.heap.size (Lib.byteCells a) (x:Int) G t K d.size).mono ?_;rintro e w3 ⟨rfl,zh,A,zm⟩);have HR3:=qH<|HR2.belowB A m;go_roundw;case rel=>exact⟨p+1,f,a++[x.toUInt8],dg,by simp;omega,dg,H,HR3,by show Lib.IsBuilderF _ _ _ _ _ _;rw[oS a x Z];exact .inr zh,me d A⟩
      case measure=>rw[HR3.prI,W.out];omega
 ·have F:aR s i 34=false:=by simpa using g
  have P:Hid (Cw 167 #[Pq b,.int .u8 34] w λe w'=>e=.panicked [{v:=cj (sk s i:Int) (aS I),recovered:=false}]/\w.grownBy w' (some b)):=gF b s i o r q I 34 w h dg hi dg F hg he;have E:Hid (jJ s i=.error (sk s i)):=by show _=_;unfold jJ;rw[if_neg g]
  clear h he g F;go_enter func166,ntmps166;go_wp2_with fail;refine P.mono ?_;rintro e B ⟨rfl,g1⟩;refine⟨rfl,?_⟩;rw[E.out];exact⟨g1,rfl⟩
