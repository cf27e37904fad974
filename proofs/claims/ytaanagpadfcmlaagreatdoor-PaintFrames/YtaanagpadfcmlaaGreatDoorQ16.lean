import Derived.Test.YtaanagpadfcmlaaGreatDoorQ15
import Derived.Test.YtaanagpadfcmlaaGreatDoorRows
import Derived.WalkSpells
import Derived.WalkLawsBesides
import Derived.Test.YtaanagpadfcmlaaGreatDoorQ00
set_option linter.all false
set_option maxRecDepth 100000
set_option maxHeartbeats 16000000
namespace Go.Proofs.YtaanagpadfcmlaaGreatDoor
open Go.RowKit Go.Proofs.Tryz
theorem Gb(r:Int)(w:World):
 Cw 221 #[.int .i32 r] w λe w'=>e=Rw (.int .i32 (dV r))/\w'=w:=by
 unfold dV;by_cases h1:r<32
 ·by_cases a:r=10;·subst a;go_enter func221,ntmps221;go_wp2;go_ret;simp_all
  ·have b:(r !=10)=true:=by simp[a]
   rw[if_pos (Or.inl ⟨h1,a⟩)];clear a;go_enter func221,ntmps221;go_wp2;go_ret;simp_all
 ·by_cases c:127<=r
  ·by_cases d:r<=159;·rw[if_pos (Or.inr ⟨c,d⟩)];go_enter func221,ntmps221;go_wp2;go_ret;simp_all
   ·rw[if_neg dg];go_enter func221,ntmps221;go_wp2;go_ret;simp_all
  ·rw[if_neg dg];go_enter func221,ntmps221;go_wp2;go_ret;simp_all
def nw(n:Int):Int:=if n<0\/1114111<n\/(55296<=n/\n<=57343)then 65533 else n
theorem JH n:0<=nw n/\nw n<=1114111:=by grind[nw]
theorem uZ n:Lib.encodeRuneZ (nw n)=Lib.encodeRuneZ n:=by
 unfold nw;split;·rename_i h;rw[Lib.encodeRuneZ_bad (r:=n) dg];rfl
 ·rfl
theorem Ck(n:Int)(w:World):
 Cw 244 #[Iq n] w λe w'=>e=Rw (.int .i32 (nw n))/\w'=w:=by
 unfold nw;by_cases h1:n<0;·rw[if_pos (Or.inl h1)];go_enter func244,ntmps244;go_wp2;go_ret;simp_all
 ·by_cases a:1114111<n;·rw[if_pos (Or.inr (Or.inl a))];go_enter func244,ntmps244;go_wp2;go_ret;simp_all
  ·by_cases b:55296<=n
   ·by_cases c:n<=57343;·rw[if_pos (Or.inr (Or.inr ⟨b,c⟩))];go_enter func244,ntmps244;go_wp2;go_ret;simp_all
    ·rw[if_neg dg];go_enter func244,ntmps244;go_wp2;go_ret;simp_all
   ·rw[if_neg dg];go_enter func244,ntmps244;go_wp2;go_ret;simp_all
theorem Ga{r}(a:0<=r)(h1:r<=2147483647):0<=dV r/\dV r<=2147483647:=by grind[dV]
theorem NB:(prog.info? 3).map (λi=>(i.zero,i.size,i.bytes))=some (some (Iq 0),1,8):=ns
theorem gL{w:World}{B i}{e}{size}{v}{n}{j}(h:w.ownsRow B e size v n j)(k:i<=B):w.ownsRow i e size v n j:=by
 refine⟨h.1,?_⟩;rcases h.2 with l|⟨g,d,f,a,b,c⟩;·grind
 ·exact .inr ⟨g,d,f,a,aF k b,c⟩
theorem iy{s:ByteArray}{a}(h:a<s.size):s.data.toList.drop a≠[]:=by simp_all
theorem xd(s:ByteArray)(w:World)(O:s.size<=17592186044416):
 Cw 187 #[.string s] w λe w'=>∃v,e=Rw v/\w'.ownsRow w.heap.size 3 1 v (ak s.data.toList).length ((ak s.data.toList).map (Value.int .i64))/\Bt w w':=by
 obtain⟨M,hi,C,D,E⟩:=info_parts NB;go_enter func187,ntmps187;go_wp2;go_loopw[3] (λv wr=>∃(a:Nat) (b:List Int),wr.ownsRow (w.heap.size+1) 3 1 v b.length (b.map (Value.int .i64))/\wr.heap[w.heap.size]?=some (.stringIter s a)/\Bt w wr/\b++ak (s.data.toList.drop a)=ak s.data.toList/\b.length<=a) (λ_ wr=>s.size-wr.iterPos w.heap.size);case atStart=>refine⟨0,[],eO _ _ _ _,?_,(af _ w).alloc (ae _) _,rfl,ae _⟩;have:=World.iter_heap w s 0;omega
 case round=>
  obtain⟨a,b,g,f,o,d,I⟩:=hrel;have L:=(aD.1 f).1;by_cases hp:a<s.size
  ·obtain⟨r,n,hd⟩:∃r n,Utf8.decode s a=(r,n):=⟨_,_,rfl⟩;have t:∀p,(Instr.next (Pq w.heap.size) true p).run prog wr=.ok (.tuple #[.bool true,Iq a,.int .i32 r]) (wr.iterAt w.heap.size s (a+n)):=λp=>by have:=Lib.run_next_any_at (P:=prog) wr w.heap.size s a p f hp;grind
   have h:qE (s.data.toList.drop a)=(r,n):=by rw[<-AY,hd]
   have J:1<=n:=by have:=mR (s.data.toList.drop a);rw[h]at this;exact this
   have K:r<=2147483647:=by have:=AW (s.data.toList.drop a);rw[h]at this;exact this
   have hy:=Ga (r:=(r:Int)) dg dg;have H:Hid ((b++[dV r])++ak (s.data.toList.drop (a+n))=ak s.data.toList):=by show _=_;rw[<-d,fW (iy hp),h,sG];simp
   have j:=Lib.iterAt_heap wr w.heap.size s a (a+n) f;have i:=Lib.below_iterAt o (k:=w.heap.size) (ae _) s (a+n);have c:=ownsRow_iterAt g (k:=w.heap.size) dg s (a+n);have m:(wr.iterAt w.heap.size s (a+n)).heap.size=wr.heap.size:=Lib.iterAt_size _ _ _ _;have y:=qH<|m;clear hd h d g o m;go_wp2_with(first
    |(go_at_call 221;refine(Gb _ _).mono ?_;rintro e w' ⟨rfl,rfl⟩)
    |(at_builtin;refine wpList_append_own _ rfl _ _ 55 rfl (w.heap.size+1) 3 M (Iq 0) 1 8 underlying55 hi C D E rfl (by decide) _ _ _ rfl (c.alloc _) _ 1 1 [Iq (dV r)] rfl rfl ?c1 ?c2 ?c3 ?c4 ?c5 ?_));case c1=>exact cell_one_new _ _ _
   case c2=>intro u hu;simp at hu;subst hu;rfl
   case c3=>unfold maxLen;omega
   case c4=>omega
   case c5=>rw[au,y.out];omega
   intro Q N B A _;have x:=λq G=>(c.lt q G).1;have z:=(i.alloc rd _).grown A (by rw[au,y.out];omega) (λq G=>rd);have l:N.heap[w.heap.size]?=some (.stringIter s (a+n)):=by rw[A.block w.heap.size (by rw[au,y.out];omega) (λe=>rd)];rw[cK _ _ _ rd];exact j
   clear A x c i t j;go_wp2;go_roundw;case rel=>refine⟨a+n,b++[dV r],?_,l,z,H,rd⟩;grind
   case measure=>rw[iterPos_of l,iterPos_of f];omega
  ·have t:∀p,(Instr.next (Pq w.heap.size) true p).run prog wr=_:=λp=>Lib.run_next_end_at wr w.heap.size s a p f hp;have F:ak (s.data.toList.drop a)=[]:=by rw[ut (by simp_all),jb]
   rw[F,jH]at d;subst d;clear F;go_wp2;go_ret;exact⟨_,rfl,gL g dg,o⟩
theorem qv(s:ByteArray)i h:aY s.data.toList i=(s[i]'h).toNat:=by have:=Dk s 0 i;simp only[aZ,Kt]at this;rw[<-this];have e:=get_at s i h;simp only[nK]at e;rw[e]
theorem ra(s:ByteArray):s.data.toList.length=s.size:=by simp_all
theorem jV l i k:aY (l.drop i) k=aY l (i+k):=by grind[aY]
theorem m4 l i k lo hi:mZ (l.drop i) k lo hi=mZ l (i+k) lo hi:=by grind[mZ,jV]
theorem pZ(s:ByteArray)(i lo hi:Int)(j:0<=i)(k:0<=lo)(p:lo<=255)(h:0<=hi)(o:hi<=255)(b:Bool)(a:mZ s.data.toList i.toNat lo.toNat hi.toNat=b)(w:World):
 Cw 207 #[.string s,Iq i,.int .u8 lo,.int .u8 hi] w λe w'=>e=Rw (.bool b)/\w'=w:=by
 subst a;obtain⟨i,rfl⟩:=Al j;obtain⟨lo,rfl⟩:=Al k;obtain⟨hi,rfl⟩:=Al h;simp only[jG];by_cases h1:i<s.size
 ·have a:=qv s i h1;by_cases d:lo<=(s[i]'h1).toNat
  ·have f:(lo:Int)<=((s[i]'h1).toNat:Int):=dg
   by_cases n:(s[i]'h1).toNat<=hi
   ·have g:((s[i]'h1).toNat:Int)<=(hi:Int):=dg
    rw[(k7 _ _ _ _).2 ⟨by simp_all,dg,dg⟩];clear a d n;go_enter func207,ntmps207;go_wp2;go_ret;simp_all
   ·have g:¬((s[i]'h1).toNat:Int)<=(hi:Int):=dg
    rw[(oi _ _ _ _).2 dg];clear a d n;go_enter func207,ntmps207;go_wp2;go_ret;simp_all
  ·have f:¬(lo:Int)<=((s[i]'h1).toNat:Int):=dg
   rw[(oi _ _ _ _).2 dg];clear a d;go_enter func207,ntmps207;go_wp2;go_ret;simp_all
 ·rw[(oi _ _ _ _).2 (by rw[ra];omega)];have q:¬(i:Int)<(s.size:Int):=dg
  clear h1;go_enter func207,ntmps207;go_wp2;go_ret;simp_all
/-! m 'sequence' c to, l by l. -/
theorem F9{l}(h:aY l 0<0x80):nP l=1:=by simp[nP,h]
theorem My{l}(a:¬aY l 0<0x80)(h:aY l 0<0xC2\/0xF4<aY l 0):nP l=0:=by simp[nP,a,h]
theorem seq_first{l}(a:¬aY l 0<0x80)(b:¬(aY l 0<0xC2\/0xF4<aY l 0))(h:mZ l 1 (fO (aY l 0)) (fN (aY l 0))=false):nP l=0:=by unfold nP;rw[if_neg a,if_neg b,if_pos h]
theorem JK{l}(c:¬aY l 0<0x80)(d:¬(aY l 0<0xC2\/0xF4<aY l 0))k(e:2<=k)(f:k<ib (aY l 0))(h:mZ l k 0x80 0xBF=false):nP l=0:=by
 have g:=BG (aY l 0);unfold nP;rw[if_neg c,if_neg d];by_cases a:mZ l 1 (fO (aY l 0)) (fN (aY l 0))=false;·rw[if_pos a]
 ·rw[if_neg a];obtain rfl|rfl:k=2\/k=3:=dg
  ·rw[if_pos ⟨dg,h⟩]
  ·by_cases b:2<ib (aY l 0)/\mZ l 2 0x80 0xBF=false;all_goals grind
theorem Mz{l}(d:¬aY l 0<0x80)(e:¬(aY l 0<0xC2\/0xF4<aY l 0))(h:mZ l 1 (fO (aY l 0)) (fN (aY l 0))=true)(c:∀k,2<=k->k<ib (aY l 0)->mZ l k 0x80 0xBF=true):nP l=ib (aY l 0):=by
 unfold nP;rw[if_neg d,if_neg e,if_neg (by rw[h];simp)];rw[if_neg,if_neg];·rintro⟨a,b⟩;rw[c 3 dg a]at b;cases b
 ·rintro⟨a,b⟩;rw[c 2 dg a]at b;cases b
def N6(c:Nat)(x0 x1 x2 x3 x4 x5:Bool)(lo hi:Nat)(n:Int):Prop:=(((c:Int)==224)=x0/\((c:Int)==237)=x1/\((c:Int)==240)=x2/\((c:Int)==244)=x3)/\(decide ((224:Int)<=c)=x4/\decide ((240:Int)<=c)=x5)/\fO c=lo/\fN c=hi/\(ib c:Int)=n
theorem JN c:N6 c false false false false false false 128 191 2\/N6 c true false false false true false 160 191 3\/N6 c false false false false true false 128 191 3\/N6 c false true false false true false 128 159 3\/N6 c false false true false true true 144 191 4\/N6 c false false false false true true 128 191 4\/N6 c false false false true true true 128 143 4:=by
 have x:=tX c;have y:=tN c;have z:=BG c;have cl:c<0xE0\/c=0xE0\/(0xE0<c/\c<0xF0/\c≠0xED)\/c=0xED\/c=0xF0\/(0xF0<c/\c≠0xF4)\/c=0xF4:=dg;rcases cl with h|h|h|h|h|h|h;·exact .inl ⟨rd,rd,dg,dg,dg⟩
 ·exact .inr (.inl ⟨rd,rd,dg,dg,dg⟩)
 ·exact .inr (.inr (.inl ⟨rd,rd,dg,dg,dg⟩))
 ·exact .inr (.inr (.inr (.inl ⟨rd,rd,dg,dg,dg⟩)))
 ·exact .inr (.inr (.inr (.inr (.inl ⟨rd,rd,dg,dg,dg⟩))))
 ·exact .inr (.inr (.inr (.inr (.inr (.inl ⟨rd,rd,dg,dg,dg⟩)))))
 ·exact .inr (.inr (.inr (.inr (.inr (.inr ⟨rd,rd,dg,dg,dg⟩)))))
theorem yK(s:ByteArray)(i:Nat)(h:i<s.size)(L:s.size<=70368744177664)(w:World)(B:¬(s[i]'h).toNat<0x80)(C:¬((s[i]'h).toNat<0xC2\/0xF4<(s[i]'h).toNat)):
 Cw 164 #[.string s,Iq i] w λe w'=>e=Rw (Iq (nP (s.data.toList.drop i)))/\w'=w:=by
 have f:aY (s.data.toList.drop i) 0=(s[i]'h).toNat:=by rw[jV];exact qv s i h
 have u:Hid (¬aY (s.data.toList.drop i) 0<0x80):=by rw[f];exact B
 have v:Hid (¬(aY (s.data.toList.drop i) 0<0xC2\/0xF4<aY (s.data.toList.drop i) 0)):=by rw[f];exact C
 have l:=qH<|f;have O:¬((s[i]'h).toNat:Int)<128:=dg
 have P:¬((s[i]'h).toNat:Int)<194:=dg;have Q:¬(244:Int)<((s[i]'h).toNat:Int):=dg;have y:Hid (((i:Int)+1).toNat=i+1):=by show _=_;omega
 have D:=JN (s[i]'h).toNat;clear f B C;obtain⟨M,g⟩:∃b,Hid (mZ s.data.toList (i+1) (fO (s[i]'h).toNat) (fN (s[i]'h).toNat)=b):=⟨_,rfl⟩;cases M;·have E:=qH<|seq_first u v (by rw[l.out,m4];exact g);rcases D with D|D|D|D|D|D|D;all_goals obtain⟨⟨t0,t1,t2,t3⟩,⟨t4,t5⟩,o,p,_⟩:=D;rw[o,p]at g;clear o p;go_enter func164,ntmps164;go_wp2_with(go_at_call 207;refine(pZ s _ _ _ dg dg dg dg dg false (by rw[y.out];exact g) _).mono ?_;rintro e w' ⟨rfl,rfl⟩);go_ret;rw[E.out];simp_all
 ·have z:Hid ((∀j,2<=j->j<ib (s[i]'h).toNat->mZ s.data.toList (i+j) 0x80 0xBF=true)->nP (s.data.toList.drop i)=ib (s[i]'h).toNat):=λr=>by rw[Mz u.out v.out (by rw[l.out,m4];exact g) (λj a b=>by rw[m4];exact r j a (by rw[<-l.out];exact b)),l.out]
  rcases D with D|D|D|D|D|D|D;all_goals
   obtain⟨⟨t0,t1,t2,t3⟩,⟨t4,t5⟩,o,p,q⟩:=D;rw[o,p]at g;clear o p;generalize hN:ib (s[i]'h).toNat=N at q z;have G:=qH<|hN;clear hN;go_enter func164,ntmps164;go_wp2_with(go_at_call 207;refine(pZ s _ _ _ dg dg dg dg dg true (by rw[y.out];exact g) _).mono ?_;rintro e w' ⟨rfl,rfl⟩);go_loop[10] (λt=>∃k:Nat,2<=k/\k<=N/\t=Iq k/\Hid (∀j,2<=j->j<k->mZ s.data.toList (i+j) 0x80 0xBF=true)) (λt=>N-(intOf t).toNat);case atStart=>exact⟨2,ae _,dg,rfl,λj a b=>dg⟩
   case round=>
    obtain⟨k,m,x,rfl,r⟩:=hrel;by_cases n:k<N
    ·have c:(k:Int)<(N:Int):=dg
     have A:Hid (((i:Int)+(k:Int)).toNat=i+k):=by show _=_;omega
     have K:N<=4:=dg;rw[q]at c;obtain⟨I,d⟩:∃b,Hid (mZ s.data.toList (i+k) 0x80 0xBF=b):=⟨_,rfl⟩;cases I;·go_wp2_with(go_at_call 207;refine(pZ s _ _ _ dg dg dg dg dg false (by rw[A.out];exact d) _).mono ?_;rintro e w' ⟨rfl,rfl⟩);go_ret;rw[JK u.out v.out k m (by rw[l.out,G.out];exact n) (by rw[m4];exact d)];exact⟨rfl,rfl⟩
     ·go_wp2_with(go_at_call 207;refine(pZ s _ _ _ dg dg dg dg dg true (by rw[A.out];exact d) _).mono ?_;rintro e w' ⟨rfl,rfl⟩);go_round;case rel=>
       refine⟨k+1,dg,dg,by go_num,λj a b=>?_⟩;by_cases J:j=k;·subst J;exact d
       ·exact r j a dg
      case measure=>simp[intOf];omega
    ·have c:¬(k:Int)<(N:Int):=dg
     rw[q]at c;obtain rfl:k=N:=dg;have H:=qH<|z r;have F:=qH<|q;clear n m x q;go_wp2;go_ret;exact⟨by rw[H.out,F.out];rfl,rfl⟩
theorem vF(s:ByteArray)(i:Nat)(h:i<s.size)(j:s.size<=70368744177664)(w:World):
 Cw 164 #[.string s,Iq i] w λe w'=>e=Rw (Iq (nP (s.data.toList.drop i)))/\w'=w:=by
 have a:aY (s.data.toList.drop i) 0=(s[i]'h).toNat:=by rw[jV];exact qv s i h
 by_cases b:(s[i]'h).toNat<0x80
 ·rw[F9 dg];have f:((s[i]'h).toNat:Int)<128:=dg
  clear a b;go_enter func164,ntmps164;go_wp2;go_ret;simp_all
 ·by_cases c:(s[i]'h).toNat<0xC2\/0xF4<(s[i]'h).toNat
  ·rw[My dg dg];have f:¬((s[i]'h).toNat:Int)<128:=dg
   by_cases d:(s[i]'h).toNat<0xC2
   ·have g:((s[i]'h).toNat:Int)<194:=dg
    clear a b c d;go_enter func164,ntmps164;go_wp2;go_ret;simp_all
   ·have g:¬((s[i]'h).toNat:Int)<194:=dg
    have k:(244:Int)<((s[i]'h).toNat:Int):=dg;clear a b c d;go_enter func164,ntmps164;go_wp2;go_ret;simp_all
  grind[yK]
theorem PO:∀c:Fin 256,bits .and .i64 ((c.val:Nat):Int) 31=((c.val %32:Nat):Int):=by decide+kernel
theorem PJ:∀c:Fin 256,bits .and .i64 ((c.val:Nat):Int) 15=((c.val %16:Nat):Int):=by decide+kernel
theorem Sa:∀c:Fin 256,bits .and .i64 ((c.val:Nat):Int) 7=((c.val %8:Nat):Int):=by decide+kernel
theorem PP:∀c:Fin 256,bits .and .u8 ((c.val:Nat):Int) 63=((c.val %64:Nat):Int):=by decide+kernel
def jD(l:List UInt8)(m:Nat):Nat->Nat
 |0=>m
 |j+1=>jD l m j*64+aY l (j+1) %64
theorem JF l m(e:m<256)j(d:j<=3):jD l m j<67108864:=by
 have h1:jD l m 0=m:=rfl;have a:jD l m 1=m*64+aY l 1 %64:=rfl;have b:jD l m 2=(m*64+aY l 1 %64)*64+aY l 2 %64:=rfl;have c:jD l m 3=((m*64+aY l 1 %64)*64+aY l 2 %64)*64+aY l 3 %64:=rfl;obtain rfl|rfl|rfl|rfl:j=0\/j=1\/j=2\/j=3:=dg
 all_goals omega
theorem rpart_val l n m(a:n=1/\m=aY l 0\/n=2/\m=aY l 0 %32\/n=3/\m=aY l 0 %16\/n=4/\m=aY l 0 %8):jD l m (n-1)=val l n:=by
 rcases a with⟨rfl,rfl⟩|⟨rfl,rfl⟩|⟨rfl,rfl⟩|⟨rfl,rfl⟩;·rfl
 ·rfl
 ·show(aY l 0 %16*64+aY l 1 %64)*64+aY l 2 %64=aY l 0 %16*4096+(aY l 1 %64)*64+aY l 2 %64;omega
 ·show((aY l 0 %8*64+aY l 1 %64)*64+aY l 2 %64)*64+aY l 3 %64=aY l 0 %8*262144+(aY l 1 %64)*4096+(aY l 2 %64)*64+aY l 3 %64;omega
theorem Cn l(a:l≠[]):nP l<=l.length:=by grind[BG,aY,nP,mZ,fO,fN,k7,ib]
theorem step_bad{s:ByteArray}{a}{b}(hp:a<s.size)(h:b++ak (s.data.toList.drop a)=ak s.data.toList)(d:nP (s.data.toList.drop a)=0):
 (b++[65533])++ak (s.data.toList.drop (a+1))=ak s.data.toList:=by
 have c:qE (s.data.toList.drop a)=(65533,1):=by rw[pS,if_pos d]
 rw[<-h,fW (iy hp),c,sG];simp[dV]
theorem step_good{s:ByteArray}{a}{b}(hp:a<s.size)(h:b++ak (s.data.toList.drop a)=ak s.data.toList)n(d:nP (s.data.toList.drop a)=n)(e:n≠0):
 (b++[dV (val (s.data.toList.drop a) n)])++ak (s.data.toList.drop (a+n))=ak s.data.toList:=by
 have c:qE (s.data.toList.drop a)=(val (s.data.toList.drop a) n,n):=by rw[pS,if_neg (by rw[d];exact e),d]
 rw[<-h,fW (iy hp),c,sG];simp
theorem yw(s:ByteArray)(w:World)(hs:s.size<=17592186044416):
 Cw 82 #[.string s] w λe w'=>∃v,e=Rw v/\w'.ownsRow w.heap.size 3 1 v (ak s.data.toList).length ((ak s.data.toList).map (Value.int .i64))/\Bt w w':=by
 obtain⟨i0,hi,C,D,E⟩:=info_parts NB;go_enter func82,ntmps82;go_wp2;go_loopw[3,4] (λv i wr=>∃(a:Nat) (d:List Int),i=Iq a/\a<=s.size/\wr.ownsRow w.heap.size 3 1 v d.length (d.map (Value.int .i64))/\Bt w wr/\d++ak (s.data.toList.drop a)=ak s.data.toList/\d.length<=a) (λ_ i _=>s.size-(intOf i).toNat);case atStart=>exact⟨0,[],rfl,aR _,eO _ _ _ _,af _ _,rfl,ae _⟩
 case round=>
  obtain⟨a,d,rfl,zh,f,l,c,zg⟩:=hrel;have zi:=l.size;by_cases hp:a<s.size
  ·have J:(a:Int)<(s.size:Int):=dg
   have B:=Cn _ (iy hp);rw[cL,ra]at B;have M:=OY (s.data.toList.drop a);obtain⟨n,K⟩:=ad (nP (s.data.toList.drop a));rw[K]at B M;have g:=vF s a hp dg;rw[K]at g;have o:=qH<|g;clear g;have u:aY (s.data.toList.drop a) 0=(s[a]'hp).toNat:=by rw[jV];exact qv s a hp
   have N:=qH<|u;have b:=jX (s.data.toList.drop a) 0;rw[u]at b;clear u;by_cases Z:n=0
   ·have F:=qH<|step_bad hp c dg;subst Z;clear c K B M N b;go_wp2_with(first|(go_at_call 164;refine(o _).mono ?_;rintro e w' ⟨rfl,rfl⟩)|(at_builtin;refine Gn hi C D E f l [Iq 65533] rfl _ _ rfl underlying55 ⟨rfl,by decide,by decide⟩ rfl rfl ⟨rfl,rfl⟩ dg ?_));intro v' w1 p y;clear f l;go_wp2;go_roundw;case rel=>refine⟨a+1,d++[65533],by go_num,dg,?_,y,F,by simp;omega⟩;simp_all
    case measure=>simp[intOf];omega
   ·have F:=qH<|step_good hp c n K Z;clear c K;obtain⟨m,hm,A⟩:∃m:Nat,m<256/\(n=1/\m=(s[a]'hp).toNat\/n=2/\m=(s[a]'hp).toNat %32\/n=3/\m=(s[a]'hp).toNat %16\/n=4/\m=(s[a]'hp).toNat %8):=by
     obtain h|h|h|h:n=1\/n=2\/n=3\/n=4:=dg
     ·simp_all
     ·exact⟨(s[a]'hp).toNat %32,dg,.inr (.inl ⟨h,rfl⟩)⟩
     ·exact⟨(s[a]'hp).toNat %16,dg,.inr (.inr (.inl ⟨h,rfl⟩))⟩
     ·exact⟨(s[a]'hp).toNat %8,dg,.inr (.inr (.inr ⟨h,rfl⟩))⟩
    have T:=qH<|rpart_val _ n m (by rw[N.out];exact A);obtain⟨L,hL⟩:=ad (s.data.toList.drop a);have P:Hid (∀j (h:a+j<s.size),aY L j=(s[a+j]'h).toNat):=by intro j h;rw[<-hL,jV];exact qv s (a+j) h
    rw[hL]at F T N;have H:=PO ⟨(s[a]'hp).toNat,b⟩;have G:=PJ ⟨(s[a]'hp).toNat,b⟩;have a7:=Sa ⟨(s[a]'hp).toNat,b⟩;clear hL N;have e0:((n:Int)==0)=false:=by simp;exact Z
    have za:(((n:Int)==2)=false/\((n:Int)==3)=false/\((n:Int)==4)=false/\m=(s[a]'hp).toNat)\/(((n:Int)==2)=true/\((n:Int)==3)=false/\((n:Int)==4)=false/\m=(s[a]'hp).toNat %32)\/(((n:Int)==2)=false/\((n:Int)==3)=true/\((n:Int)==4)=false/\m=(s[a]'hp).toNat %16)\/(((n:Int)==2)=false/\((n:Int)==3)=false/\((n:Int)==4)=true/\m=(s[a]'hp).toNat %8):=by
     rcases A with⟨rfl,h⟩|⟨rfl,h⟩|⟨rfl,h⟩|⟨rfl,h⟩;·grind
     ·grind
     ·grind
     ·grind
    clear A;rcases za with⟨W,X,Y,hmm⟩|⟨W,X,Y,hmm⟩|⟨W,X,Y,hmm⟩|⟨W,X,Y,hmm⟩;all_goals
     have Q:=qH<|hmm;clear hmm;go_wp2_with(go_at_call 164;refine(o _).mono ?_;rintro e w' ⟨rfl,rfl⟩);go_loop[6,7] (λr k=>∃j:Nat,j+1<=n/\k=Iq (j+1:Nat)/\r=Iq (jD L m j)) (λ_ k=>n-(intOf k).toNat);case atStart=>exact⟨0,dg,rfl,by rw[show jD L m 0=m from rfl,Q.out];try simp⟩
     case round=>
      obtain⟨j,hj,rfl,rfl⟩:=hrel;have zc:=JF L m hm j dg;by_cases zb:j+1<n
      ·have I:((j+1:Nat):Int)<(n:Int):=dg
       have hpj:a+(j+1)<s.size:=dg;have z:=P (j+1) hpj;have t:=jX L (j+1);rw[z]at t;have ze:=PP ⟨(s[a+(j+1)]'hpj).toNat,t⟩;have S:Hid (jD L m (j+1)=jD L m j*64+(s[a+(j+1)]'hpj).toNat %64):=by show _=_;rw[<-z];rfl
       clear z H G a7;go_wp2;go_round;case rel=>exact⟨j+1,dg,by go_num,by rw[S.out];go_num⟩
       case measure=>simp[intOf];omega
      ·have I:¬((j+1:Nat):Int)<(n:Int):=dg
       obtain⟨V,hV⟩:=ad (jD L m j);have U:Hid (V=val L n):=by show _=_;rw[<-hV,show j=n-1 by omega];exact T
       rw[hV]at zc⊢;obtain⟨x,R,hx⟩:∃x:Int,Hid ((d++[x])++ak (s.data.toList.drop (a+n))=ak s.data.toList)/\(((V:Int)<32/\((V:Int)!=10)=true/\x=65533)\/(((V:Int)<32/\¬127<=(V:Int))/\((V:Int)!=10)=false/\x=V)\/((¬(V:Int)<32/\127<=(V:Int))/\(V:Int)<=159/\x=65533)\/((¬(V:Int)<32/\127<=(V:Int))/\¬(V:Int)<=159/\x=V)\/(¬(V:Int)<32/\¬127<=(V:Int)/\x=V)):=by
        refine⟨dV V,by have:=F.out;rw[<-U.out]at this;exact this,?_⟩;unfold dV;by_cases q:((V:Int)<32/\(V:Int)≠10)\/(127<=(V:Int)/\(V:Int)<=159)
        ·rw[if_pos q];rcases q with⟨O,q2⟩|q;·exact .inl ⟨O,by simpa using q2,rfl⟩
         ·exact .inr (.inr (.inl ⟨dg,q.2,rfl⟩))
        ·rw[if_neg q];by_cases O:(V:Int)<32;·exact .inr (.inl ⟨dg,by simp;omega,rfl⟩)
         ·by_cases q3:127<=(V:Int);·exact .inr (.inr (.inr (.inl ⟨⟨O,q3⟩,dg,rfl⟩)))
          ·exact .inr (.inr (.inr (.inr ⟨O,q3,rfl⟩)))
       clear hV T zb H G a7 F;rcases hx with⟨f1,f2,rfl⟩|⟨⟨f1,f3⟩,f2,rfl⟩|⟨⟨f1,f3⟩,f2,rfl⟩|⟨⟨f1,f3⟩,f2,rfl⟩|⟨f1,f2,rfl⟩;all_goals
        go_wp2_with(at_builtin;first|refine Gn hi C D E f l [Iq 65533] rfl _ _ rfl underlying55 ⟨rfl,by decide,by decide⟩ rfl rfl ⟨rfl,rfl⟩ dg ?_|refine Gn hi C D E f l [Iq (V:Int)] rfl _ _ rfl underlying55 ⟨rfl,by decide,by decide⟩ rfl rfl ⟨rfl,rfl⟩ dg ?_);intro v' w1 p y;clear f l;go_wp2;go_roundw;case rel=>refine⟨a+n,d++[_],by go_num,dg,?_,y,R,by simp;omega⟩;rw[aU,kQ];exact p
        case measure=>simp[intOf];omega
  ·have J:¬(a:Int)<(s.size:Int):=dg
   have he:ak (s.data.toList.drop a)=[]:=by rw[ut (by simp_all),jb]
   rw[he,jH]at c;subst c;clear he;go_wp2;go_ret;simp_all
theorem lr(a:List Int)(c:∀x∈a,0<=x/\x<256)(w:World):
 (convert 160 9 (Sq w.heap.size a.length a.length)).run prog (w.alloc (.cells (a.map (Value.int .u8)).toArray 5))=
  .ok (.string ⟨(a.map λx=>x.toNat.toUInt8).toArray⟩) (w.alloc (.cells (a.map (Value.int .u8)).toArray 5)):=by
 have h:=run_convert_bytes_back (P:=prog) (w.alloc (.cells (a.map (Value.int .u8)).toArray 5)) 160 9 5 (aj w.heap.size 0) a.length (a.map λx=>x.toNat.toUInt8) underlying160 underlying5 underlying9 (by
  intro j b;simp only[sD]at b;have e:((aj w.heap.size 0):Addr).add j=(aj w.heap.size j):=by unfold Addr.add;split<;>simp_all
  rw[e,World.cell?_alloc_mark];have d:=c a[j] (iE b);simp[b];omega);grind
theorem O5 a(b:0<=a/\a<256)(w:World):
 (convert 160 9 (Sq w.heap.size 1 1)).run prog (w.alloc (.cells #[.int .u8 a] 5))=.ok (.string ⟨#[a.toNat.toUInt8]⟩) (w.alloc (.cells #[.int .u8 a] 5)):=
 lr [a] rd w
theorem P8 a b(c:0<=a/\a<256)(d:0<=b/\b<256)(w:World):
 (convert 160 9 (Sq w.heap.size 2 2)).run prog (w.alloc (.cells #[.int .u8 a,.int .u8 b] 5))=.ok (.string ⟨#[a.toNat.toUInt8,b.toNat.toUInt8]⟩) (w.alloc (.cells #[.int .u8 a,.int .u8 b] 5)):=
 lr [a,b] rd w
theorem Nn a b c(d:0<=a/\a<256)(e:0<=b/\b<256)(f:0<=c/\c<256)(w:World):
 (convert 160 9 (Sq w.heap.size 3 3)).run prog (w.alloc (.cells #[.int .u8 a,.int .u8 b,.int .u8 c] 5))=.ok (.string ⟨#[a.toNat.toUInt8,b.toNat.toUInt8,c.toNat.toUInt8]⟩) (w.alloc (.cells #[.int .u8 a,.int .u8 b,.int .u8 c] 5)):=
 lr [a,b,c] (by simp;omega) w
theorem P9 a b c d(e:0<=a/\a<256)(f:0<=b/\b<256)(g:0<=c/\c<256)(hd:0<=d/\d<256)(w:World):
 (convert 160 9 (Sq w.heap.size 4 4)).run prog (w.alloc (.cells #[.int .u8 a,.int .u8 b,.int .u8 c,.int .u8 d] 5))=.ok (.string ⟨#[a.toNat.toUInt8,b.toNat.toUInt8,c.toNat.toUInt8,d.toNat.toUInt8]⟩) (w.alloc (.cells #[.int .u8 a,.int .u8 b,.int .u8 c,.int .u8 d] 5)):=
 lr [a,b,c,d] rd w
theorem Ad(r:Int)(a:0<=r)(h1:r<=127)(w:World):
 Cw 42 #[Iq r] w λe w'=>e=Rw (.string ⟨(Lib.encodeRune r).toArray⟩)/\∃o,w'=w.alloc o:=by
 have b:Hid (Lib.encodeRune r=[r.toNat.toUInt8]):=by show _=_;unfold Lib.encodeRune;rw[Lib.encodeRuneZ_one a h1];rfl
 have c:=O5 r dg w;go_enter func42,ntmps42;go_wp2;go_ret;rw[b.out];exact⟨rfl,_,rfl⟩
theorem Ae(r:Int)(a:128<=r)(h1:r<=2047)(w:World):
 Cw 42 #[Iq r] w λe w'=>e=Rw (.string ⟨(Lib.encodeRune r).toArray⟩)/\∃o,w'=w.alloc o:=by
 have b:Hid (Lib.encodeRune r=[(192+r/64).toNat.toUInt8,(128+r %64).toNat.toUInt8]):=by show _=_;unfold Lib.encodeRune;rw[Lib.encodeRuneZ_two a h1];rfl
 have c:=P8 (192+r/64) (128+r %64) dg dg w;go_enter func42,ntmps42;go_wp2;go_ret;rw[b.out];exact⟨rfl,_,rfl⟩
theorem ti(r:Int)(a:(2048<=r/\r<55296)\/(57343<r/\r<=65535))(w:World):
 Cw 42 #[Iq r] w λe w'=>e=Rw (.string ⟨(Lib.encodeRune r).toArray⟩)/\∃o,w'=w.alloc o:=by
 have b:Hid (Lib.encodeRune r=[(224+r/4096).toNat.toUInt8,(128+r/64 %64).toNat.toUInt8,(128+r %64).toNat.toUInt8]):=by show _=_;unfold Lib.encodeRune;rw[Lib.encodeRuneZ_three a];rfl
 have c:=Nn (224+r/4096) (128+r/64 %64) (128+r %64) dg dg dg w;rcases a with⟨a,h1⟩|⟨a,h1⟩;all_goals go_enter func42,ntmps42;go_wp2;go_ret;rw[b.out];exact⟨rfl,_,rfl⟩
theorem vT(r:Int)(a:65536<=r)(h1:r<=1114111)(w:World):
 Cw 42 #[Iq r] w λe w'=>e=Rw (.string ⟨(Lib.encodeRune r).toArray⟩)/\∃o,w'=w.alloc o:=by
 have b:Hid (Lib.encodeRune r=[(240+r/262144).toNat.toUInt8,(128+r/4096 %64).toNat.toUInt8,(128+r/64 %64).toNat.toUInt8,(128+r %64).toNat.toUInt8]):=by show _=_;unfold Lib.encodeRune;rw[Lib.encodeRuneZ_four a h1];rfl
 have c:=P9 (240+r/262144) (128+r/4096 %64) (128+r/64 %64) (128+r %64) dg dg dg dg w;go_enter func42,ntmps42;go_wp2;go_ret;rw[b.out];exact⟨rfl,_,rfl⟩
theorem Ab(r:Int)(h:r<0\/(55296<=r/\r<=57343)\/1114111<r)(w:World):
 Cw 42 #[Iq r] w λe w'=>e=Rw (.string ⟨(Lib.encodeRune r).toArray⟩)/\∃o,w'=w.alloc o:=by
 have a:Hid (Lib.encodeRune r=[239,191,189]):=by show _=_;unfold Lib.encodeRune;rw[Lib.encodeRuneZ_bad h];rfl
 have c:=Nn 239 191 189 dg dg dg w;rcases h with h|⟨h,b⟩|h;all_goals go_enter func42,ntmps42;go_wp2;go_ret;rw[a.out];exact⟨rfl,_,rfl⟩
theorem Ac r w:
 Cw 42 #[Iq r] w λe w'=>e=Rw (.string ⟨(Lib.encodeRune r).toArray⟩)/\∃o,w'=w.alloc o:=by
 by_cases a:0<=r/\r<=127;·exact Ad r a.1 a.2 w
 by_cases b:128<=r/\r<=2047;·exact Ae r b.1 b.2 w
 by_cases c:(2048<=r/\r<55296)\/(57343<r/\r<=65535);·exact ti r c w
 by_cases d:65536<=r/\r<=1114111;·exact vT r d.1 d.2 w
 ·exact Ab r dg w
theorem iC r w:
 Cw 42 #[Iq r] w λe w'=>e=Rw (.string ⟨(Lib.encodeRune r).toArray⟩)/\Bt w w':=
 (Ac r w).mono λe w' q=>⟨q.1,by obtain⟨o,rfl⟩:=q.2;exact(af _ _).alloc (ae _) _⟩
