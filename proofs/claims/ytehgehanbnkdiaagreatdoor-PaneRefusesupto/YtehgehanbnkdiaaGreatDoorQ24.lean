import Derived.Test.YtehgehanbnkdiaaGreatDoorQ04
import Derived.Test.YtehgehanbnkdiaaGreatDoorQ23
import Derived.Lib.AtoiErrMem
set_option linter.all false
set_option maxRecDepth 100000
set_option maxHeartbeats 16000000
namespace Go.Proofs.YtehgehanbnkdiaaGreatDoor
open Go.RowKit Go.Proofs.Tryz
def na{T e}{B b q}{p}{l}{w w'}(h:Lib.BuilderAtF T e B b p l w)(n:w.grownBy w' (some q))(y:q<B):Lib.BuilderAtF T e B b p l w':=by
 obtain⟨s,v,m,a,j⟩:=h;have lt:∀{k o},w.heap[k]?=some o->k<w.heap.size:=fun{k o} t=>(aj.1 t).1;refine⟨s,v,(n.block b (lt m) rn).trans m,⟨a.1,?_⟩,j⟩;rcases a.2 with x|⟨g,d,f,r,u,i,c,rest⟩;.grind
 .exact .inr ⟨g,d,f,r,u,i,(n.block g (lt c) rn).trans c,rest⟩
def isBuilt_grown{T e}{B b f}{a}{w w'}(h:Lib.IsBuilderF T e B b a w)(c:w.grownBy w' (some f))(d:f<B):Lib.IsBuilderF T e B b a w':=
 h.elim (λx=>.inl (na x c d)) (λx=>.inr (na x c d))
def PR.belowB{W b}{a B}{s}{i}{d l f}(h:PR W a s i d l f)(c:Below B W b)(g:a<B):PR b a s i d l f:=
 have k:∀j v,W.cell? (aq a j)=some v->b.cell? (aq a j)=some v:=λj v e=>(c.cell (p:=(aq a j)) g).trans e
 ⟨zz006 h.lt c.size,k _ _ h.c0,k _ _ h.c1,k _ _ h.c2,k _ _ h.c3,k _ _ h.c4,λj=>(c.frozen (p:=(aq a j)) g).trans (h.fz j)⟩
def ot(b:Nat)(s:BY)(i:Nat)(d j f:Fd)(c:Addr)(w:AT)(h:PR w b s i d j f)(hi:i=s.size)(g:w.cell? (aq 7 0)=some (aT c)):
 Cw 230 #[Pq b] w λe w'=>e=.panicked [{v:=cB (i:Int) (aT c),recovered:=false}]/\w.grownBy w' (some b):=by have CB:=qH<|readByte_no b s i d j f c w h hi g;clear h g hi;go_enter func230,ntmps230;go_wp2_with fail;refine Ut CB ?_;rintro l k;exact⟨rfl,rfl,k⟩
def ext_get(s:BY)(j k c:Nat)(h:j+c<k)(a:k<=s.size):(s.extract j k).data.toList[c]?=some (s[j+c]' dg):=by have b:k<=s.data.size:=a;rw[ByteArray.data_extract,JR,Array.getElem?_extract];rw[if_pos dg,xO dg];rfl
def po(s:BY)j k(a:k<=s.size):(s.extract j k).size=k-j:=by simp_all
def Gn s j k(b:k<=s.size)(d:k-j<=6)(hd:∀t,j+t<k->48<=cR s (j+t)/\cR s (j+t)<=57):
 ∀c,c<=k-j->Lib.decFrom 0 ((s.extract j k).data.toList.take c)=some (dv s j c).toNat
 |0,_=>by simp[Lib.decFrom,dv]
 |c+1,l=>by have g:=Gn s j k b d hd c dg;have i:=hd c dg;have f:=(rL s j c (λt m=>hd t dg)).1;have a:j+c<s.size:=dg;have h:=dN a;have e:=Lib.decFrom_take (s.extract j k).data.toList c 0 _ _ (cR s (j+c)-48) g (ext_get s j k c dg b) (by unfold Lib.digitVal;grind);grind[dv]
def atoi_dv s j k(o:j<k)(f:k<=s.size)(m:k-j<=6)(hd:∀t,j+t<k->48<=cR s (j+t)/\cR s (j+t)<=57):
 Lib.atoi (s.extract j k).data.toList=some (dv s j (k-j)):=by
 have c:=Gn s j k f m hd (k-j) LE;have e:(s.extract j k).data.toList.length=k-j:=by rw[eK];exact po s j k f
 rw[im dg]at c;have d:=ext_get s j k 0 dg f;have g:=hd 0 dg;have h:=dN (s:=s) (i:=j+0) dg;have n:=(rL s j (k-j) (λt u=>hd t dg)).1;generalize(s.extract j k).data.toList=l at c d e;match l,d with
 |b::r,d=>
  simp only[CZ,CV]at d;have a:b.toNat=cR s (j+0):=by rw[h,d]
  have p:(b==45)=false:=by apply beq_eq_false_iff_ne.mpr;intro hh;rw[hh]at a;simp at a g;omega
  have q:(b==43)=false:=by apply beq_eq_false_iff_ne.mpr;intro hh;rw[hh]at a;simp at a g;omega
  unfold Lib.atoi;dsimp only;rw[p,q];unfold Lib.decNat;grind
def yj s j:∀t,j+t<run aE s j->48<=cR s (j+t)/\cR s (j+t)<=57:=λt a=>by have:=l_ (p:=aE) s (s.size-j) j t a;grind[aE]
def readNumber_no(y:Nat)(s:BY)(i:Nat)(H O J:Fd)(m:Addr)(w:AT)(h:PR w y s i H O J)(Y:s.size<=1099511627776)(hi:i<=s.size)(W:7≠y)(he:w.cell? (aq 7 0)=some (aT m))(a:run aE s (sk s i)=sk s i\/sk s i+6<run aE s (sk s i)\/(sk s i+1<run aE s (sk s i)/\cR s (sk s i)=48)):
 Cw 281 #[Pq y] w λe w'=>e=.panicked [{v:=cB (sk s i:Int) (aT m),recovered:=false}]/\w.grownBy w' (some y):=by
 have d:=qH<|digits_any y s i H O J w h Y hi;have n:=gu s i hi;obtain⟨j,K⟩:=af (sk s i);rw[K]at d a n|-;have P:Hid (∀w,w.cell? (aq 7 0)=some (aT m)->Cw 94 #[Iq (j:Int)] w λe w'=>e=Rw (.iface 186 (.agg #[Iq (j:Int),.iface 460 (.pointer (some m))]))/\w'=w):=λw he=>d_ _ w m he;have A:=qH<|he;have f:=gI aE s j n;have r:=ga aE s j;obtain⟨k,L⟩:=af (run aE s j);rw[L]at d a f r;have N:=po s j k f;have S:j<k->∀hh,(s.extract j k)[0]'hh=s[j]' dg:=λX hh=>by have:=ext_get s j k 0 dg f;rw[da rn,CV]at this;exact this
 have D:∀hh:j<s.size,cR s j=(s[j]'hh).toNat:=λhh=>dN hh;obtain⟨t,M⟩:=af (s.extract j k);rw[M]at d N;have G:t.size=0\/6<t.size\/(1<t.size/\∃hh:0<t.size,(t[0]'hh).toNat=48):=by
  rcases a with h|h|⟨h,U⟩;.omega
  .omega
  .grind
 clear h K he a S D L M N f r n;by_cases g:t.size=0
 .have R:t=⟨#[]⟩:=by apply jx;exact JT g
  subst R;clear G g;go_enter func281,ntmps281;go_wp2_with fail;refine Ut d ?_;rintro z ⟨p,b⟩;have q:=qH<|b;have B:=qH<|b.cell A (by simpa using W);clear p b d;go_wp2_with fail;refine Ut (P _ B) ?_;rintro w2 Z;obtain rfl:=Z.symm;go_wp2;exact⟨rfl,rfl,q⟩
 .have F:t≠⟨#[]⟩:=λhh=>g (by rw[hh];rfl);have Q:=decide_eq_false F;have p:1<t.size:=dg;have C:(1:Int)<(t.size:Int):=dg;have T:(0:Int)<(t.size:Int):=dg;have h0n:0<t.size:=dg;obtain⟨x,hx⟩:=af ((t[0]'h0n).toNat);have u:6<t.size\/x=48:=by
   rcases G with h|h|⟨h,hh,U⟩;.omega
   .omega
   .omega
  clear G g;have ed:=decide_eq_true C;by_cases l:x=48
  .subst l;clear u;by_cases V:6<t.size;focus have c:(6:Int)<(t.size:Int):=dg;have I:=decide_eq_true c
   rotate_left;focus have c:¬(6:Int)<(t.size:Int):=dg;have I:=decide_eq_false c
   rotate_left;all_goals go_enter func281,ntmps281;go_wp2_with fail;refine Ut d ?_;rintro z ⟨p,b⟩;have q:=qH<|b;have E:z.cell? (aq 7 0)=some (.iface 460 (.pointer (some m))):=b.cell A rn;clear p b d;go_wp2;all_goals exact⟨rfl,rfl,q⟩
  .have ex:((x:Int)==48)=false:=by simp;omega
   have V:6<t.size:=dg;have c:(6:Int)<(t.size:Int):=dg;have I:=decide_eq_true c;clear u l;go_enter func281,ntmps281;go_wp2_with fail;refine Ut d ?_;rintro z ⟨p,b⟩;have q:=qH<|b;have E:z.cell? (aq 7 0)=some (.iface 460 (.pointer (some m))):=b.cell A rn;clear p b d;go_wp2;all_goals exact⟨rfl,rfl,q⟩
def readNumber_yes(m:Nat)(s:BY)(i:Nat)(q B r:Fd)(w:AT)(h:PR w m s i q B r)(R:s.size<=1099511627776)(hi:i<=s.size)(d:¬(run aE s (sk s i)=sk s i\/sk s i+6<run aE s (sk s i)\/(sk s i+1<run aE s (sk s i)/\cR s (sk s i)=48))):
 Cw 281 #[Pq m] w λe w'=>e=Rw (.tuple #[Iq (dv s (sk s i) (run aE s (sk s i)-sk s i)),Iq (sk s i:Int)])/\PR w' m s (run aE s (sk s i)) q B r/\w.grownBy w' (some m):=by
 have f:=qH<|digits_any m s i q B r w h R hi;have c:=gu s i hi;obtain⟨j,D⟩:=af (sk s i);rw[D]at f d c|-;have a:=gI aE s j c;have l:=ga aE s j;have b:=yj s j;obtain⟨k,E⟩:=af (run aE s j);rw[E]at f d a l b|-;have J:=po s j k a;have o:=qH<|atoi_dv s j k dg a dg b;have M:j<k->∀hh,(s.extract j k)[0]'hh=s[j]' dg:=λP hh=>by have:=ext_get s j k 0 dg a;rw[da rn,CV]at this;exact this
 have z:∀hh:j<s.size,cR s j=(s[j]'hh).toNat:=λhh=>dN hh;obtain⟨t,G⟩:=af (s.extract j k);rw[G]at f J o;obtain⟨n,F⟩:=af (dv s j (k-j));rw[F]at o|-;have A:0<t.size/\t.size<=6:=dg;have H:1<t.size->∀hh:0<t.size,(t[0]'hh).toNat≠48:=λg hh X=>rn;have p:=qH<|λw=>FH t n dg o w;have Q:t.toList.isEmpty=false:=by
  cases hh:t.toList.isEmpty with
  |false=>rfl
  |true=>
   exfalso;rw[List.isEmpty_iff,ByteArray.toList_eq]at hh;have O:t.data.toList.length=0:=by rw[hh];rfl
   rw[eK]at O;have V:t.size=t.data.size:=rfl;omega
 clear h D d M z E G J a l c b F o;obtain⟨h0n,W⟩:=A;have N:(0:Int)<(t.size:Int):=dg;have y:¬(6:Int)<(t.size:Int):=dg;have T:=decide_eq_false y;by_cases g:1<t.size;focus
  have v:(1:Int)<(t.size:Int):=dg;obtain⟨x,S⟩:=af ((t[0]'h0n).toNat);have I:x≠48:=by rw[<-S];exact H g h0n
  have U:((x:Int)==48)=false:=by simp;omega
 rotate_left;focus have v:¬(1:Int)<(t.size:Int):=dg
 rotate_left;all_goals clear H;go_enter func281,ntmps281;go_wp2_with fail;refine Ut f ?_;rintro Y ⟨g,C⟩;have L:=qH<|g;have K:=qH<|C;clear g C f;go_wp2_with(go_at_call 315;refine Ut (p _) ?_;rintro Z ⟨u,rfl⟩);go_ret2;exact⟨rfl,L.below (Lib.bytesWorld_below _ _ _),gr_trans K (dm (Lib.bytesWorld_below _ _ _))⟩
def Kj(w w':AT)(e:Ending)(rb:Nat)(s:BY)(av nv fv:Fd)(eb:Addr)(r:Except Nat (Nat×List UInt8)):Prop:=
 w.grownBy w' (some rb)/\match r with
  |.ok (p,t)=>e=Rw (.string ⟨t.toArray⟩)/\PR w' rb s p av nv fv
  |.error b=>e=.panicked [{v:=cB (b:Int) (aT eb),recovered:=false}]
def mD{A B C:AT}{b}(h:A.grownBy B (some b))(k:Below A.heap.size B C):A.grownBy C (some b):=
 ⟨k.os.trans h.os,k.tape.trans h.tape,k.output.trans h.output,aA h.size k.size,λi hi a=>(k.block i hi).trans (h.block i hi a)⟩
def Pz{s}{f p}{a}(h:cR s p=256):qF s (f+1) p a=.error p:=by grind[qF]
def I0{s}{f p}{a}(h:cR s p=34):qF s (f+1) p a=.ok (p+1,a):=by grind[qF]
def PB{s}{f p c}{a}(h:cR s p=92)(b:kV (cR s (p+1))=some c):qF s (f+1) p a=qF s f (p+2) (a++[c.toUInt8]):=by
 conv=>lhs;unfold qF
 rw[if_neg dg,if_neg dg,if_pos h];unfold kV at b;by_cases d:cR s (p+1)=34;.grind
 .rw[if_neg d]at b;by_cases e:cR s (p+1)=92;.grind
  .rw[if_neg e]at b;by_cases g:cR s (p+1)=110;.rw[if_pos g]at b;cases b;grind
   grind
def IZ{s}{f p}{a}(h:cR s p=92)(b:kV (cR s (p+1))=none):qF s (f+1) p a=.error (p+1):=by grind[qF,kV,cR]
def MH{s}{f p}{acc}(a:cR s p≠256)(b:cR s p≠34)(c:cR s p≠92):qF s (f+1) p acc=qF s f (p+1) (acc++[(cR s p).toUInt8]):=by grind[qF]
def o9 acc(c:Nat)(a:c<256):Lib.byteCells (acc++[c.toUInt8])=Lib.byteCells acc++[.int .u8 (c:Int)]:=by simp[Lib.byteCells];omega
def jl(b:Nat)(s:BY)(i:Nat)(q t r:Fd)(K:Addr)(w:AT)(h:PR w b s i q t r)(hs:s.size<=1073741824)(hi:i<=s.size)(hg:7≠b)(he:w.cell? (aq 7 0)=some (aT K)):
 Cw 166 #[Pq b] w λe w'=>Kj w w' e b s q t r K (fo s i):=by
 have HE:=qH<|he;by_cases g:aK s i 34=true
 .have S:Hid (Cw 167 #[Pq b,.int .u8 34] w λe w'=>e=Rw (.tuple #[])/\PR w' b s (an s i 34) q t r/\w.grownBy w' (some b)):=fQ b s i q t r 34 w h dg hi dg g;have hq:fo s i=qF s (s.size+2) (an s i 34) []:=by unfold fo;rw[if_pos g]
  have zi:an s i 34<=s.size:=by
   unfold aK at g;have Z:cR s (sk s i)=34:=by simpa using g
   have E:sk s i<s.size:=by
    by_cases hh:sk s i<s.size;.exact hh
    .grind[df]
   unfold an;rw[if_pos Z];omega
  rw[hq];obtain⟨j,hj⟩:=af (an s i 34);rw[hj]at S zi|-;obtain⟨R,hR⟩:=af (qF s (s.size+2) j []);rw[hR];have zm:=qH<|hR;clear h he g hq hj hR;go_enter func166,ntmps166;go_wp2_with fail;refine Ut S ?_;rintro C ⟨Z,g1⟩;have n:=Z.lt;have HR:=qH<|Z;have y:=qH<|g1;clear Z g1 S;go_wp2;go_loopw[4] (λ_ wr=>∃(p f:Nat) (a:zzf),p<=s.size/\a.length<=p/\s.size<f+p/\Hid (qF s f p a=R)/\Hid (PR wr b s p q t r)/\Hid (Lib.IsBuilderF 160 5 C.heap.size C.heap.size (Lib.byteCells a) wr)/\Hid (C.grownBy wr (some b))) (λ_ wr=>s.size-prI wr b);.exact⟨j,s.size+2,[],zi,LT,dg,zm,HR.below No,Lib.IsBuilderF.of (Lib.fresh_isBuilder 160 5 C),dm No⟩
  obtain⟨p,f0,a,hp,hl,hf,G,HS,HB,V⟩:=hrel;obtain⟨f,rfl⟩:∃f,f0=f+1:=⟨f0-1,dg⟩;have U:=qH<|V.cell (y.cell HE (by simpa using hg)) (by simpa using hg);have Y:=qH<|HS.prI;by_cases zh:p=s.size
  .have CB:=qH<|readByte_no b s p q t r K wr HS zh U;have l:Hid (R=.error p):=qH<|by rw[<-G.out];exact Pz (df dg)
   go_wp2_with fail;refine Ut CB ?_;rintro I o;refine⟨rfl,?_⟩;rw[l.out];exact⟨gr_trans y (gr_trans V o),rfl⟩
  .have zk:p<s.size:=dg;have zg:=FK zk;have CB:=qH<|readByte_yes b s p q t r wr HS dg zk;obtain⟨x,hx⟩:=af (cR s p);have Q:=qH<|hx;rw[hx]at CB zg;clear hx;by_cases A:x=34
   .have l:Hid (R=.ok (p+1,a)):=qH<|by rw[<-G.out];exact I0 (by rw[Q.out,A])
    subst A;go_wp2_with fail;refine Ut CB ?_;rintro I ⟨E,o⟩;have k:=qH<|E;have d:=qH<|gr_trans V o;have u:=qH<|isBuilt_grown HB o n;clear E o CB;go_wp2_with(go_at_call 70;refine Ut (xt C.heap.size C.heap.size a I u d.size) ?_;rintro w3 ⟨zj,B,zo⟩);go_ret;show Kj _ _ _ _ _ _ _ _ _ _;rw[l.out];exact⟨gr_trans y (mD d B),rfl,k.belowB B n⟩
   .have zq:((x:Int)==34)=false:=by simp;omega
    by_cases F:x=92
    .have z:Hid (cR s p=92):=qH<|by rw[Q.out,F]
     subst F;clear A;have M:(Lib.byteCells a).length+1<=140737488355328:=by simp[Lib.byteCells];omega
     go_wp2_with fail;refine Ut CB ?_;rintro I ⟨E,o⟩;have k:=qH<|E;have d:=qH<|gr_trans V o;have u:=qH<|isBuilt_grown HB o n;have T:=qH<|o.cell U (by simpa using hg);clear E o CB;by_cases O:p+1=s.size
     .have l:Hid (R=.error (p+1)):=qH<|by rw[<-G.out];exact IZ z (by rw[df dg];rfl)
      go_wp2_with(go_at_call 230;refine Ut (ot b s (p+1) q t r K I k O T) ?_;rintro w3 L);refine⟨rfl,?_⟩;rw[l.out];exact⟨gr_trans y (gr_trans d L),rn⟩
     .cases m:kV (cR s (p+1))with
      |none=>
       have l:Hid (R=.error (p+1)):=qH<|by rw[<-G.out];exact IZ z m
       go_wp2_with(go_at_call 230;refine Ut (qe b s (p+1) q t r K I k dg dg m hg T) ?_;rintro w3 L);refine⟨rfl,?_⟩;rw[l.out];exact⟨gr_trans y (gr_trans d L),rfl⟩
      |some c=>
       have N:c<256:=by
        unfold kV at m;split at m;.grind
        .grind
       have J:Hid (qF s f (p+2) (a++[c.toUInt8])=R):=qH<|by rw[<-PB z.out m];exact G
       have CE:=qH<|readEscaped_yes b s (p+1) q t r I k dg dg c m;clear m;go_wp2_with fail;refine Ut CE ?_;rintro w3 ⟨h3,L⟩;have D:Hid (PR w3 b s (p+2) q t r):=h3;have W:=qH<|gr_trans d L;have zl:=qH<|isBuilt_grown u L n;clear h3 L CE;go_wp2_with(go_at_call 229;refine Ut (kC C.heap.size C.heap.size (Lib.byteCells a) (c:Int) w3 zl M W.size) ?_;rintro w4 ⟨zn,ze,zt⟩);have X:=qH<|D.belowB ze n;go_roundw;.exact⟨p+2,f,a++[c.toUInt8],dg,by simp;omega,dg,J,X,by show Lib.IsBuilderF _ _ _ _ _ _;rw[o9 a c N];exact .inr zn,mD W ze⟩
       .rw[X.prI,Y.out];omega
    .have zr:((x:Int)==92)=false:=by simp;omega
     have J:Hid (qF s f (p+1) (a++[x.toUInt8])=R):=qH<|by have:=MH (s:=s) (f:=f) (p:=p) (acc:=a) (by rw[Q.out];omega) (by rw[Q.out];exact A) (by rw[Q.out];exact F);rw[Q.out]at this;rw[<-this];exact G
     have M:(Lib.byteCells a).length+1<=140737488355328:=by simp[Lib.byteCells];omega
     clear A F;go_wp2_with fail;refine Ut CB ?_;rintro I ⟨E,o⟩;have k:=qH<|E;have d:=qH<|gr_trans V o;have u:=qH<|isBuilt_grown HB o n;clear E o CB;go_wp2_with(go_at_call 229;refine Ut (kC C.heap.size C.heap.size (Lib.byteCells a) (x:Int) I u M d.size) ?_;rintro w3 ⟨zj,B,zo⟩);have D:=qH<|k.belowB B n;go_roundw;.exact⟨p+1,f,a++[x.toUInt8],dg,by simp;omega,dg,J,D,by show Lib.IsBuilderF _ _ _ _ _ _;rw[o9 a x zg];exact .inr zj,mD d B⟩
     .rw[D.prI,Y.out];omega
 .have H:aK s i 34=false:=by simpa using g
  have S:Hid (Cw 167 #[Pq b,.int .u8 34] w λe w'=>e=.panicked [{v:=cB (sk s i:Int) (aT K),recovered:=false}]/\w.grownBy w' (some b)):=gR b s i q t r K 34 w h dg hi dg H hg he;have G:Hid (fo s i=.error (sk s i)):=qH<|by unfold fo;rw[if_neg g]
  clear h he g H;go_enter func166,ntmps166;go_wp2_with fail;refine Ut S ?_;rintro C g1;refine⟨rfl,?_⟩;rw[G.out];exact⟨g1,rfl⟩
