import Derived.Test.YtbeiapdobffpiaaGreatDoorQ01
import Derived.Test.YtbeiapdobffpiaaGreatDoorRows
import Derived.WalkSpells
import Derived.WalkLawsBesides
import Derived.Test.YtbeiapdobffpiaaGreatDoorQ00
set_option linter.all false
set_option maxRecDepth 100000
set_option maxHeartbeats 16000000
namespace Go.Proofs.YtbeiapdobffpiaaGreatDoor
open Go.RowKit Go.Proofs.Tryz
theorem Ho(r:Int)(w:World):
 Cw 222 #[.int .i32 r] w fun e w'=>e=Rw (.int .i32 (gc r))/\w'=w:=by
 unfold gc;by_cases h1:r<32
 ·by_cases h2:r=10;·subst h2;go_enter func222,ntmps222;go_wp2;go_ret;simp_all
  ·have qX:(r !=10)=true:=by simp[h2]
   rw[if_pos (Or.inl ⟨h1,h2⟩)];clear h2;go_enter func222,ntmps222;go_wp2;go_ret;simp_all
 ·by_cases h3:127<=r
  ·by_cases h4:r<=159;·rw[if_pos (Or.inr ⟨h3,h4⟩)];go_enter func222,ntmps222;go_wp2;go_ret;simp_all
   ·rw[if_neg (by omega)];go_enter func222,ntmps222;go_wp2;go_ret;simp_all
  ·rw[if_neg (by omega)];go_enter func222,ntmps222;go_wp2;go_ret;simp_all
def og(n:Int):Int:=if n<0\/1114111<n\/(55296<=n/\n<=57343)then 65533 else n
theorem LA  n  :0<=og n/\og n<=1114111:=by grind[og]
theorem wA  n  :Lib.encodeRuneZ (og n)=Lib.encodeRuneZ n:=by
 unfold og;split;·rename_i h;rw[Lib.encodeRuneZ_bad (r:=n) (by omega)];rfl
 ·rfl
theorem DD(n:Int)(w:World):
 Cw 247 #[Iq n] w fun e w'=>e=Rw (.int .i32 (og n))/\w'=w:=by
 unfold og;by_cases h1:n<0;·rw[if_pos (Or.inl h1)];go_enter func247,ntmps247;go_wp2;go_ret;simp_all
 ·by_cases h2:1114111<n;·rw[if_pos (Or.inr (Or.inl h2))];go_enter func247,ntmps247;go_wp2;go_ret;simp_all
  ·by_cases h3:55296<=n
   ·by_cases h4:n<=57343;·rw[if_pos (Or.inr (Or.inr ⟨h3,h4⟩))];go_enter func247,ntmps247;go_wp2;go_ret;simp_all
    ·rw[if_neg (by omega)];go_enter func247,ntmps247;go_wp2;go_ret;simp_all
   ·rw[if_neg (by omega)];go_enter func247,ntmps247;go_wp2;go_ret;simp_all
theorem Hn{r}(h0:0<=r)(h1:r<=2147483647):0<=gc r/\gc r<=2147483647:=by grind[gc]
theorem Rf:(prog.info? 3).map (fun i=>(i.zero,i.size,i.bytes))=some (some (Iq 0),1,8):=by kernel_rfl
theorem ij{w:World}{B B'}{e}{size}{v}{n}{xs}(h:w.ownsRow B e size v n xs)(hB:B'<=B):w.ownsRow B' e size v n xs:=by
 refine⟨h.1,?_⟩;rcases h.2 with h2|⟨g,al,iT,a,b,c⟩;·grind
 ·exact .inr ⟨g,al,iT,a,aT hB b,c⟩
theorem ja{s:ByteArray}{pos}(h:pos<s.size):s.data.toList.drop pos≠[]:=by simp_all
theorem yE(s:ByteArray)(w:World)(hs:s.size<=17592186044416):
 Cw 202 #[.string s] w fun e w'=>∃v,e=Rw v/\w'.ownsRow w.heap.size 3 1 v (aZ s.data.toList).length ((aZ s.data.toList).map (Value.int .i64))/\Bt w w':=by
 obtain⟨i0,hi,eK,fZ,iD⟩:=info_parts Rf;go_enter func202,ntmps202;go_wp2;go_loopw[3] (fun v wr=>∃(pos:Nat) (acc:List Int),wr.ownsRow (w.heap.size+1) 3 1 v acc.length (acc.map (Value.int .i64))/\wr.heap[w.heap.size]?=some (.stringIter s pos)/\Bt w wr/\acc++aZ (s.data.toList.drop pos)=aZ s.data.toList/\acc.length<=pos) (fun _ wr=>s.size-wr.iterPos w.heap.size);case atStart=>refine⟨0,[],gM _ _ _ _,?_,(ag _ w).alloc (ai _) _,rfl,ai _⟩;have:=World.iter_heap w s 0;omega
 case round=>
  obtain⟨pos,acc,bi,Xz,hbw,ic,xM⟩:=hrel;have fT:=(aS.1 Xz).1;by_cases hp:pos<s.size
  ·obtain⟨r,n,hd⟩:∃r n,Utf8.decode s pos=(r,n):=⟨_,_,rfl⟩;have zb:∀ty,(Instr.next (Pq w.heap.size) true ty).run prog wr=.ok (.tuple #[.bool true,Iq pos,.int .i32 r]) (wr.iterAt w.heap.size s (pos+n)):=fun ty=>by have:=Lib.run_next_any_at (P:=prog) wr w.heap.size s pos ty Xz hp;grind
   have OD:Br (s.data.toList.drop pos)=(r,n):=by rw[<-B_,hd]
   have ED:1<=n:=by have:=qT (s.data.toList.drop pos);rw[OD]at this;exact this
   have hr1:r<=2147483647:=by have:=B8 (s.data.toList.drop pos);rw[OD]at this;exact this
   have hy:=Hn (r:=(r:Int)) (by omega) (by omega);have HR:Hid ((acc++[gc r])++aZ (s.data.toList.drop (pos+n))=aZ s.data.toList):=by show _=_;rw[<-ic,jX (ja hp),OD,tm];simp
   have XA:=Lib.iterAt_heap wr w.heap.size s pos (pos+n) Xz;have Ox:=Lib.below_iterAt hbw (k:=w.heap.size) (ai _) s (pos+n);have fj:=ownsRow_iterAt bi (k:=w.heap.size) (by omega) s (pos+n);have hsz2:(wr.iterAt w.heap.size s (pos+n)).heap.size=wr.heap.size:=Lib.iterAt_size _ _ _ _;have HS:=qH<|hsz2;clear hd OD ic bi hbw hsz2;go_wp2_with(first
    |(go_at_call 222;refine(Ho _ _).mono ?_;rintro e w' ⟨rfl,rfl⟩)
    |(at_builtin;refine wpList_append_own _ rfl _ _ 98 rfl (w.heap.size+1) 3 i0 (Iq 0) 1 8 underlying98 hi eK fZ iD rfl (by decide) _ _ _ rfl (fj.alloc _) _ 1 1 [Iq (gc r)] rfl rfl ?c1 ?c2 ?c3 ?c4 ?c5 ?_));case c1=>exact cell_one_new _ _ _
   case c2=>intro u hu;simp at hu;subst hu;rfl
   case c3=>unfold maxLen;omega
   case c4=>omega
   case c5=>rw[aO,HS.out];omega
   intro v' w1 bK hg _;have hrow:=fun q hq=>(fj.lt q hq).1;have hb1:=(Ox.alloc (by grind) _).grown hg (by rw[aO,HS.out];omega) (fun q hq=>by grind);have XB:w1.heap[w.heap.size]?=some (.stringIter s (pos+n)):=by rw[hg.block w.heap.size (by rw[aO,HS.out];omega) (fun e=>by grind)];rw[fC _ _ _ (by grind)];exact XA
   clear hg hrow fj Ox zb XA;go_wp2;go_roundw;case rel=>refine⟨pos+n,acc++[gc r],?_,XB,hb1,HR,by grind⟩;grind
   case measure=>rw[iterPos_of XB,iterPos_of Xz];omega
  ·have zb:∀ty,(Instr.next (Pq w.heap.size) true ty).run prog wr=_:=fun ty=>Lib.run_next_end_at wr w.heap.size s pos ty Xz hp;have he:aZ (s.data.toList.drop pos)=[]:=by rw[vr (by simp_all),pA]
   rw[he,j_]at ic;subst ic;clear he;go_wp2;go_ret;exact⟨_,rfl,ij bi (by omega),hbw⟩
theorem rI(s:ByteArray)  i   h  :bF s.data.toList i=(s[i]'h).toNat:=by have:=Eo s 0 i;simp only[bC,Mc]at this;rw[<-this];have e:=get_at s i h;simp only[Fa]at e;rw[e]
theorem sA(s:ByteArray):s.data.toList.length=s.size:=by simp_all
theorem ky  l   i k  :bF (l.drop i) k=bF l (i+k):=by grind[bF]
theorem nJ  l   i k lo hi  :nH (l.drop i) k lo hi=nH l (i+k) lo hi:=by grind[nH,ky]
theorem rc(s:ByteArray)(i lo hi:Int)(Gj:0<=i)(mX:0<=lo)(zjF:lo<=255)(J8:0<=hi)(zjm:hi<=255)(b:Bool)(hb:nH s.data.toList i.toNat lo.toNat hi.toNat=b)(w:World):
 Cw 252 #[.string s,Iq i,.int .u8 lo,.int .u8 hi] w fun e w'=>e=Rw (.bool b)/\w'=w:=by
 subst hb;obtain⟨i,rfl⟩:=Md Gj;obtain⟨lo,rfl⟩:=Md mX;obtain⟨hi,rfl⟩:=Md J8;simp only[oy];by_cases h1:i<s.size
 ·have hb:=rI s i h1;by_cases h2:lo<=(s[i]'h1).toNat
  ·have qX:(lo:Int)<=((s[i]'h1).toNat:Int):=by omega
   by_cases h3:(s[i]'h1).toNat<=hi
   ·have h3':((s[i]'h1).toNat:Int)<=(hi:Int):=by omega
    rw[(lD _ _ _ _).2 ⟨by simp_all,by omega,by omega⟩];clear hb h2 h3;go_enter func252,ntmps252;go_wp2;go_ret;simp_all
   ·have h3':¬((s[i]'h1).toNat:Int)<=(hi:Int):=by omega
    rw[(pf _ _ _ _).2 (by omega)];clear hb h2 h3;go_enter func252,ntmps252;go_wp2;go_ret;simp_all
  ·have qX:¬(lo:Int)<=((s[i]'h1).toNat:Int):=by omega
   rw[(pf _ _ _ _).2 (by omega)];clear hb h2;go_enter func252,ntmps252;go_wp2;go_ret;simp_all
 ·rw[(pf _ _ _ _).2 (by rw[sA];omega)];have tK:¬(i:Int)<(s.size:Int):=by omega
  clear h1;go_enter func252,ntmps252;go_wp2;go_ret;simp_all
/-! NL 'sequence' zex to, way by way. -/
theorem Hk{l}(h:bF l 0<0x80):oG l=1:=by simp[oG,h]
theorem Py{l}(h0:¬bF l 0<0x80)(h:bF l 0<0xC2\/0xF4<bF l 0):oG l=0:=by simp[oG,h0,h]
theorem seq_first{l}(h0:¬bF l 0<0x80)(hA:¬(bF l 0<0xC2\/0xF4<bF l 0))(h:nH l 1 (gq (bF l 0)) (gp (bF l 0))=false):oG l=0:=by unfold oG;rw[if_neg h0,if_neg hA,if_pos h]
theorem LF{l}(h0:¬bF l 0<0x80)(hA:¬(bF l 0<0xC2\/0xF4<bF l 0))  k  (hk:2<=k) (hn:k<iM (bF l 0)) (h:nH l k 0x80 0xBF=false):oG l=0:=by
 have nb:=Df (bF l 0);unfold oG;rw[if_neg h0,if_neg hA];by_cases a:nH l 1 (gq (bF l 0)) (gp (bF l 0))=false;·rw[if_pos a]
 ·rw[if_neg a];obtain rfl|rfl:k=2\/k=3:=by omega
  ·rw[if_pos ⟨by omega,h⟩]
  ·by_cases b:2<iM (bF l 0)/\nH l 2 0x80 0xBF=false;all_goals grind
theorem Pz{l}(h0:¬bF l 0<0x80)(hA:¬(bF l 0<0xC2\/0xF4<bF l 0))(h:nH l 1 (gq (bF l 0)) (gp (bF l 0))=true)(hm:∀k,2<=k->k<iM (bF l 0)->nH l k 0x80 0xBF=true):oG l=iM (bF l 0):=by
 unfold oG;rw[if_neg h0,if_neg hA,if_neg (by rw[h];simp)];rw[if_neg,if_neg];·rintro⟨a,b⟩;rw[hm 3 (by omega) a]at b;cases b
 ·rintro⟨a,b⟩;rw[hm 2 (by omega) a]at b;cases b
def Se(c:Nat)(x0 x1 x2 x3 x4 x5:Bool)(lo hi:Nat)(n:Int):Prop:=(((c:Int)==224)=x0/\((c:Int)==237)=x1/\((c:Int)==240)=x2/\((c:Int)==244)=x3)/\(decide ((224:Int)<=c)=x4/\decide ((240:Int)<=c)=x5)/\gq c=lo/\gp c=hi/\(iM c:Int)=n
theorem LI  c  :Se c false false false false false false 128 191 2\/Se c true false false false true false 160 191 3\/Se c false false false false true false 128 191 3\/Se c false true false false true false 128 159 3\/Se c false false true false true true 144 191 4\/Se c false false false false true true 128 191 4\/Se c false false false true true true 128 143 4:=by
 have x:=uU c;have y:=uI c;have z:=Df c;have cl:c<0xE0\/c=0xE0\/(0xE0<c/\c<0xF0/\c≠0xED)\/c=0xED\/c=0xF0\/(0xF0<c/\c≠0xF4)\/c=0xF4:=by omega
 rcases cl with h|h|h|h|h|h|h;·exact .inl ⟨by grind,by grind,by omega,by omega,by omega⟩
 ·exact .inr (.inl ⟨by grind,by grind,by omega,by omega,by omega⟩)
 ·exact .inr (.inr (.inl ⟨by grind,by grind,by omega,by omega,by omega⟩))
 ·exact .inr (.inr (.inr (.inl ⟨by grind,by grind,by omega,by omega,by omega⟩)))
 ·exact .inr (.inr (.inr (.inr (.inl ⟨by grind,by grind,by omega,by omega,by omega⟩))))
 ·exact .inr (.inr (.inr (.inr (.inr (.inl ⟨by grind,by grind,by omega,by omega,by omega⟩)))))
 ·exact .inr (.inr (.inr (.inr (.inr (.inr ⟨by grind,by grind,by omega,by omega,by omega⟩)))))
theorem Am(s:ByteArray)(i:Nat)(h:i<s.size)(hs:s.size<=70368744177664)(w:World)(h0:¬(s[i]'h).toNat<0x80)(hA:¬((s[i]'h).toNat<0xC2\/0xF4<(s[i]'h).toNat)):
 Cw 233 #[.string s,Iq i] w fun e w'=>e=Rw (Iq (oG (s.data.toList.drop i)))/\w'=w:=by
 have hb0:bF (s.data.toList.drop i) 0=(s[i]'h).toNat:=by rw[ky];exact rI s i h
 have H0:Hid (¬bF (s.data.toList.drop i) 0<0x80):=by rw[hb0];exact h0
 have HA:Hid (¬(bF (s.data.toList.drop i) 0<0xC2\/0xF4<bF (s.data.toList.drop i) 0)):=by rw[hb0];exact hA
 have HB:=qH<|hb0;have q0:¬((s[i]'h).toNat:Int)<128:=by omega
 have q1:¬((s[i]'h).toNat:Int)<194:=by omega
 have q2:¬(244:Int)<((s[i]'h).toNat:Int):=by omega
 have E1:Hid (((i:Int)+1).toNat=i+1):=by show _=_;omega
 have D:=LI (s[i]'h).toNat;clear hb0 h0 hA;obtain⟨M,HM⟩:∃b,Hid (nH s.data.toList (i+1) (gq (s[i]'h).toNat) (gp (s[i]'h).toNat)=b):=⟨_,rfl⟩;cases M;·have HF:=qH<|seq_first H0 HA (by rw[HB.out,nJ];exact HM);rcases D with D|D|D|D|D|D|D;all_goals obtain⟨⟨t0,t1,t2,t3⟩,⟨t4,t5⟩,l1,l2,_⟩:=D;rw[l1,l2]at HM;clear l1 l2;go_enter func233,ntmps233;go_wp2_with(go_at_call 252;refine(rc s _ _ _ (by omega) (by omega) (by omega) (by omega) (by omega) false (by rw[E1.out];exact HM) _).mono ?_;rintro e w' ⟨rfl,rfl⟩);go_ret;rw[HF.out];simp_all
 ·have HY:Hid ((∀j,2<=j->j<iM (s[i]'h).toNat->nH s.data.toList (i+j) 0x80 0xBF=true)->oG (s.data.toList.drop i)=iM (s[i]'h).toNat):=fun hm=>by rw[Pz H0.out HA.out (by rw[HB.out,nJ];exact HM) (fun j a b=>by rw[nJ];exact hm j a (by rw[<-HB.out];exact b)),HB.out]
  rcases D with D|D|D|D|D|D|D;all_goals
   obtain⟨⟨t0,t1,t2,t3⟩,⟨t4,t5⟩,l1,l2,l3⟩:=D;rw[l1,l2]at HM;clear l1 l2;generalize hN:iM (s[i]'h).toNat=N at l3 HY;have HN:=qH<|hN;clear hN;go_enter func233,ntmps233;go_wp2_with(go_at_call 252;refine(rc s _ _ _ (by omega) (by omega) (by omega) (by omega) (by omega) true (by rw[E1.out];exact HM) _).mono ?_;rintro e w' ⟨rfl,rfl⟩);go_loop[10] (fun t=>∃k:Nat,2<=k/\k<=N/\t=Iq k/\Hid (∀j,2<=j->j<k->nH s.data.toList (i+j) 0x80 0xBF=true)) (fun t=>N-(intOf t).toNat);case atStart=>exact⟨2,ai _,by omega,rfl,fun j a b=>by omega⟩
   case round=>
    obtain⟨k,OK,ZL,rfl,hm⟩:=hrel;by_cases hlt:k<N
    ·have aK:(k:Int)<(N:Int):=by omega
     have ek:Hid (((i:Int)+(k:Int)).toNat=i+k):=by show _=_;omega
     have hN4:N<=4:=by omega
     rw[l3]at aK;obtain⟨M2,BL⟩:∃b,Hid (nH s.data.toList (i+k) 0x80 0xBF=b):=⟨_,rfl⟩;cases M2;·go_wp2_with(go_at_call 252;refine(rc s _ _ _ (by omega) (by omega) (by omega) (by omega) (by omega) false (by rw[ek.out];exact BL) _).mono ?_;rintro e w' ⟨rfl,rfl⟩);go_ret;rw[LF H0.out HA.out k OK (by rw[HB.out,HN.out];exact hlt) (by rw[nJ];exact BL)];exact⟨rfl,rfl⟩
     ·go_wp2_with(go_at_call 252;refine(rc s _ _ _ (by omega) (by omega) (by omega) (by omega) (by omega) true (by rw[ek.out];exact BL) _).mono ?_;rintro e w' ⟨rfl,rfl⟩);go_round;case rel=>
       refine⟨k+1,by omega,by omega,by go_num,fun j a b=>?_⟩;by_cases ej:j=k;·subst ej;exact BL
       ·exact hm j a (by omega)
      case measure=>simp[intOf];omega
    ·have aK:¬(k:Int)<(N:Int):=by omega
     rw[l3]at aK;obtain rfl:k=N:=by omega
     have HZ:=qH<|HY hm;have HL:=qH<|l3;clear hlt OK ZL l3;go_wp2;go_ret;exact⟨by rw[HZ.out,HL.out];rfl,rfl⟩
theorem xq(s:ByteArray)(i:Nat)(h:i<s.size)(hs:s.size<=70368744177664)(w:World):
 Cw 233 #[.string s,Iq i] w fun e w'=>e=Rw (Iq (oG (s.data.toList.drop i)))/\w'=w:=by
 have hb0:bF (s.data.toList.drop i) 0=(s[i]'h).toNat:=by rw[ky];exact rI s i h
 by_cases h0:(s[i]'h).toNat<0x80
 ·rw[Hk (by omega)];have q0:((s[i]'h).toNat:Int)<128:=by omega
  clear hb0 h0;go_enter func233,ntmps233;go_wp2;go_ret;simp_all
 ·by_cases hA:(s[i]'h).toNat<0xC2\/0xF4<(s[i]'h).toNat
  ·rw[Py (by omega) (by omega)];have q0:¬((s[i]'h).toNat:Int)<128:=by omega
   by_cases hl:(s[i]'h).toNat<0xC2
   ·have q1:((s[i]'h).toNat:Int)<194:=by omega
    clear hb0 h0 hA hl;go_enter func233,ntmps233;go_wp2;go_ret;simp_all
   ·have q1:¬((s[i]'h).toNat:Int)<194:=by omega
    have q2:(244:Int)<((s[i]'h).toNat:Int):=by omega
    clear hb0 h0 hA hl;go_enter func233,ntmps233;go_wp2;go_ret;simp_all
  grind[Am]
theorem Wm:∀c:Fin 256,bits .and .i64 ((c.val:Nat):Int) 31=((c.val %32:Nat):Int):=by decide+kernel
theorem Wl:∀c:Fin 256,bits .and .i64 ((c.val:Nat):Int) 15=((c.val %16:Nat):Int):=by decide+kernel
theorem zaJ:∀c:Fin 256,bits .and .i64 ((c.val:Nat):Int) 7=((c.val %8:Nat):Int):=by decide+kernel
theorem Wn:∀c:Fin 256,bits .and .u8 ((c.val:Nat):Int) 63=((c.val %64:Nat):Int):=by decide+kernel
def j8(l:List UInt8)(m:Nat):Nat->Nat
 |0=>m
 |j+1=>j8 l m j*64+bF l (j+1) %64
theorem Lw  l   m  (hm:m<256)  j  (hj:j<=3):j8 l m j<67108864:=by
 have h1:j8 l m 0=m:=rfl;have h2:j8 l m 1=m*64+bF l 1 %64:=rfl;have h3:j8 l m 2=(m*64+bF l 1 %64)*64+bF l 2 %64:=rfl;have h4:j8 l m 3=((m*64+bF l 1 %64)*64+bF l 2 %64)*64+bF l 3 %64:=rfl;obtain rfl|rfl|rfl|rfl:j=0\/j=1\/j=2\/j=3:=by omega
 all_goals omega
theorem rpart_val  l   n m  (hn:n=1/\m=bF l 0\/n=2/\m=bF l 0 %32\/n=3/\m=bF l 0 %16\/n=4/\m=bF l 0 %8):j8 l m (n-1)=val l n:=by
 rcases hn with⟨rfl,rfl⟩|⟨rfl,rfl⟩|⟨rfl,rfl⟩|⟨rfl,rfl⟩;·rfl
 ·rfl
 ·show(bF l 0 %16*64+bF l 1 %64)*64+bF l 2 %64=bF l 0 %16*4096+(bF l 1 %64)*64+bF l 2 %64;omega
 ·show((bF l 0 %8*64+bF l 1 %64)*64+bF l 2 %64)*64+bF l 3 %64=bF l 0 %8*262144+(bF l 1 %64)*4096+(bF l 2 %64)*64+bF l 3 %64;omega
theorem DG  l  (hl:l≠[]):oG l<=l.length:=by grind[Df,bF,oG,nH,gq,gp,lD,iM]
theorem step_bad{s:ByteArray}{pos}{acc}(hp:pos<s.size)(h:acc++aZ (s.data.toList.drop pos)=aZ s.data.toList)(hq:oG (s.data.toList.drop pos)=0):
 (acc++[65533])++aZ (s.data.toList.drop (pos+1))=aZ s.data.toList:=by
 have OD:Br (s.data.toList.drop pos)=(65533,1):=by rw[qU,if_pos hq]
 rw[<-h,jX (ja hp),OD,tm];simp[gc]
theorem step_good{s:ByteArray}{pos}{acc}(hp:pos<s.size)(h:acc++aZ (s.data.toList.drop pos)=aZ s.data.toList)  n  (hq:oG (s.data.toList.drop pos)=n) (hn:n≠0):
 (acc++[gc (val (s.data.toList.drop pos) n)])++aZ (s.data.toList.drop (pos+n))=aZ s.data.toList:=by
 have OD:Br (s.data.toList.drop pos)=(val (s.data.toList.drop pos) n,n):=by rw[qU,if_neg (by rw[hq];exact hn),hq]
 rw[<-h,jX (ja hp),OD,tm];simp
theorem Ab(s:ByteArray)(w:World)(hs:s.size<=17592186044416):
 Cw 211 #[.string s] w fun e w'=>∃v,e=Rw v/\w'.ownsRow w.heap.size 3 1 v (aZ s.data.toList).length ((aZ s.data.toList).map (Value.int .i64))/\Bt w w':=by
 obtain⟨i0,hi,eK,fZ,iD⟩:=info_parts Rf;go_enter func211,ntmps211;go_wp2;go_loopw[3,4] (fun v i wr=>∃(pos:Nat) (acc:List Int),i=Iq pos/\pos<=s.size/\wr.ownsRow w.heap.size 3 1 v acc.length (acc.map (Value.int .i64))/\Bt w wr/\acc++aZ (s.data.toList.drop pos)=aZ s.data.toList/\acc.length<=pos) (fun _ i _=>s.size-(intOf i).toNat);case atStart=>exact⟨0,[],rfl,bc _,gM _ _ _ _,ag _ _,rfl,ai _⟩
 case round=>
  obtain⟨pos,acc,rfl,CQ,bi,hbw,ic,xM⟩:=hrel;have fT:=hbw.size;by_cases hp:pos<s.size
  ·have aK:(pos:Int)<(s.size:Int):=by omega
   have Tm:=DG _ (ja hp);rw[cW,sA]at Tm;have ZZ:=T6 (s.data.toList.drop pos);obtain⟨n,hn⟩:=aj (oG (s.data.toList.drop pos));rw[hn]at Tm ZZ;have hcall:=xq s pos hp (by omega);rw[hn]at hcall;have Qg:=qH<|hcall;clear hcall;have hb0:bF (s.data.toList.drop pos) 0=(s[pos]'hp).toNat:=by rw[ky];exact rI s pos hp
   have HB:=qH<|hb0;have rX:=me (s.data.toList.drop pos) 0;rw[hb0]at rX;clear hb0;by_cases h0:n=0
   ·have HR:=qH<|step_bad hp ic (by omega);subst h0;clear ic hn Tm ZZ HB rX;go_wp2_with(first|(go_at_call 233;refine(Qg _).mono ?_;rintro e w' ⟨rfl,rfl⟩)|(at_builtin;refine Jc hi eK fZ iD bi hbw [Iq 65533] rfl _ _ rfl underlying98 ⟨rfl,by decide,by decide⟩ rfl rfl ⟨rfl,rfl⟩ (by omega) ?_));intro v' w1 bK hb1;clear bi hbw;go_wp2;go_roundw;case rel=>refine⟨pos+1,acc++[65533],by go_num,by omega,?_,hb1,HR,by simp;omega⟩;simp_all
    case measure=>simp[intOf];omega
   ·have HR:=qH<|step_good hp ic n hn h0;clear ic hn;obtain⟨m,hm,Vc⟩:∃m:Nat,m<256/\(n=1/\m=(s[pos]'hp).toNat\/n=2/\m=(s[pos]'hp).toNat %32\/n=3/\m=(s[pos]'hp).toNat %16\/n=4/\m=(s[pos]'hp).toNat %8):=by
     obtain h|h|h|h:n=1\/n=2\/n=3\/n=4:=by omega
     ·simp_all
     ·exact⟨(s[pos]'hp).toNat %32,by omega,.inr (.inl ⟨h,rfl⟩)⟩
     ·exact⟨(s[pos]'hp).toNat %16,by omega,.inr (.inr (.inl ⟨h,rfl⟩))⟩
     ·exact⟨(s[pos]'hp).toNat %8,by omega,.inr (.inr (.inr ⟨h,rfl⟩))⟩
    have HV:=qH<|rpart_val _ n m (by rw[HB.out];exact Vc);obtain⟨L,hL⟩:=aj (s.data.toList.drop pos);have HBy:Hid (∀j (h:pos+j<s.size),bF L j=(s[pos+j]'h).toNat):=by intro j h;rw[<-hL,ky];exact rI s (pos+j) h
    rw[hL]at HR HV HB;have a31:=Wm ⟨(s[pos]'hp).toNat,rX⟩;have a15:=Wl ⟨(s[pos]'hp).toNat,rX⟩;have a7:=zaJ ⟨(s[pos]'hp).toNat,rX⟩;clear hL HB;have e0:((n:Int)==0)=false:=by simp;exact h0
    have qB:(((n:Int)==2)=false/\((n:Int)==3)=false/\((n:Int)==4)=false/\m=(s[pos]'hp).toNat)\/(((n:Int)==2)=true/\((n:Int)==3)=false/\((n:Int)==4)=false/\m=(s[pos]'hp).toNat %32)\/(((n:Int)==2)=false/\((n:Int)==3)=true/\((n:Int)==4)=false/\m=(s[pos]'hp).toNat %16)\/(((n:Int)==2)=false/\((n:Int)==3)=false/\((n:Int)==4)=true/\m=(s[pos]'hp).toNat %8):=by
     rcases Vc with⟨rfl,h⟩|⟨rfl,h⟩|⟨rfl,h⟩|⟨rfl,h⟩;·grind
     ·grind
     ·grind
     ·grind
    clear Vc;rcases qB with⟨e2,e3,e4,hmm⟩|⟨e2,e3,e4,hmm⟩|⟨e2,e3,e4,hmm⟩|⟨e2,e3,e4,hmm⟩;all_goals
     have H8:=qH<|hmm;clear hmm;go_wp2_with(go_at_call 233;refine(Qg _).mono ?_;rintro e w' ⟨rfl,rfl⟩);go_loop[6,7] (fun r k=>∃j:Nat,j+1<=n/\k=Iq (j+1:Nat)/\r=Iq (j8 L m j)) (fun _ k=>n-(intOf k).toNat);case atStart=>exact⟨0,by omega,rfl,by rw[show j8 L m 0=m from rfl,H8.out];try simp⟩
     case round=>
      obtain⟨j,hj,rfl,rfl⟩:=hrel;have BF:=Lw L m hm j (by omega);by_cases wP:j+1<n
      ·have S8:((j+1:Nat):Int)<(n:Int):=by omega
       have hpj:pos+(j+1)<s.size:=by omega
       have SI:=HBy (j+1) hpj;have WM:=me L (j+1);rw[SI]at WM;have a63:=Wn ⟨(s[pos+(j+1)]'hpj).toNat,WM⟩;have HST:Hid (j8 L m (j+1)=j8 L m j*64+(s[pos+(j+1)]'hpj).toNat %64):=by show _=_;rw[<-SI];rfl
       clear SI a31 a15 a7;go_wp2;go_round;case rel=>exact⟨j+1,by omega,by go_num,by rw[HST.out];go_num⟩
       case measure=>simp[intOf];omega
      ·have S8:¬((j+1:Nat):Int)<(n:Int):=by omega
       obtain⟨V,hV⟩:=aj (j8 L m j);have HV2:Hid (V=val L n):=by show _=_;rw[<-hV,show j=n-1 by omega];exact HV
       rw[hV]at BF⊢;obtain⟨x,HR2,hx⟩:∃x:Int,Hid ((acc++[x])++aZ (s.data.toList.drop (pos+n))=aZ s.data.toList)/\(((V:Int)<32/\((V:Int)!=10)=true/\x=65533)\/(((V:Int)<32/\¬127<=(V:Int))/\((V:Int)!=10)=false/\x=V)\/((¬(V:Int)<32/\127<=(V:Int))/\(V:Int)<=159/\x=65533)\/((¬(V:Int)<32/\127<=(V:Int))/\¬(V:Int)<=159/\x=V)\/(¬(V:Int)<32/\¬127<=(V:Int)/\x=V)):=by
        refine⟨gc V,by have:=HR.out;rw[<-HV2.out]at this;exact this,?_⟩;unfold gc;by_cases q:((V:Int)<32/\(V:Int)≠10)\/(127<=(V:Int)/\(V:Int)<=159)
        ·rw[if_pos q];rcases q with⟨q1,q2⟩|q;·exact .inl ⟨q1,by simpa using q2,rfl⟩
         ·exact .inr (.inr (.inl ⟨by omega,q.2,rfl⟩))
        ·rw[if_neg q];by_cases q1:(V:Int)<32;·exact .inr (.inl ⟨by omega,by simp;omega,rfl⟩)
         ·by_cases q3:127<=(V:Int);·exact .inr (.inr (.inr (.inl ⟨⟨q1,q3⟩,by omega,rfl⟩)))
          ·exact .inr (.inr (.inr (.inr ⟨q1,q3,rfl⟩)))
       clear hV HV wP a31 a15 a7 HR;rcases hx with⟨f1,f2,rfl⟩|⟨⟨f1,f3⟩,f2,rfl⟩|⟨⟨f1,f3⟩,f2,rfl⟩|⟨⟨f1,f3⟩,f2,rfl⟩|⟨f1,f2,rfl⟩;all_goals
        go_wp2_with(at_builtin;first|refine Jc hi eK fZ iD bi hbw [Iq 65533] rfl _ _ rfl underlying98 ⟨rfl,by decide,by decide⟩ rfl rfl ⟨rfl,rfl⟩ (by omega) ?_|refine Jc hi eK fZ iD bi hbw [Iq (V:Int)] rfl _ _ rfl underlying98 ⟨rfl,by decide,by decide⟩ rfl rfl ⟨rfl,rfl⟩ (by omega) ?_);intro v' w1 bK hb1;clear bi hbw;go_wp2;go_roundw;case rel=>refine⟨pos+n,acc++[_],by go_num,by omega,?_,hb1,HR2,by simp;omega⟩;rw[bf,li];exact bK
        case measure=>simp[intOf];omega
  ·have aK:¬(pos:Int)<(s.size:Int):=by omega
   have he:aZ (s.data.toList.drop pos)=[]:=by rw[vr (by simp_all),pA]
   rw[he,j_]at ic;subst ic;clear he;go_wp2;go_ret;simp_all
theorem jx(xs:List Int)(hx:∀x∈xs,0<=x/\x<256)(w:World):
 (convert 183 9 (Sq w.heap.size xs.length xs.length)).run prog (w.alloc (.cells (xs.map (Value.int .u8)).toArray 5))=
  .ok (.string ⟨(xs.map fun x=>x.toNat.toUInt8).toArray⟩) (w.alloc (.cells (xs.map (Value.int .u8)).toArray 5)):=by
 have h:=run_convert_bytes_back (P:=prog) (w.alloc (.cells (xs.map (Value.int .u8)).toArray 5)) 183 9 5 (az w.heap.size 0) xs.length (xs.map fun x=>x.toNat.toUInt8) underlying183 underlying5 underlying9 (by
  intro j hj;simp only[Me]at hj;have e:((az w.heap.size 0):Addr).add j=(az w.heap.size j):=by unfold Addr.add;split<;>simp_all
  rw[e,World.cell?_alloc_mark];have hb:=hx xs[j] (l6 hj);simp[hj];omega);grind
theorem El  a  (ha:0<=a/\a<256) (w:World):
 (convert 183 9 (Sq w.heap.size 1 1)).run prog (w.alloc (.cells #[.int .u8 a] 5))=.ok (.string ⟨#[a.toNat.toUInt8]⟩) (w.alloc (.cells #[.int .u8 a] 5)):=
 jx [a] (by grind) w
theorem Wx  a b  (ha:0<=a/\a<256) (hb:0<=b/\b<256) (w:World):
 (convert 183 9 (Sq w.heap.size 2 2)).run prog (w.alloc (.cells #[.int .u8 a,.int .u8 b] 5))=.ok (.string ⟨#[a.toNat.toUInt8,b.toNat.toUInt8]⟩) (w.alloc (.cells #[.int .u8 a,.int .u8 b] 5)):=
 jx [a,b] (by grind) w
theorem QF  a b c  (ha:0<=a/\a<256) (hb:0<=b/\b<256) (hc:0<=c/\c<256) (w:World):
 (convert 183 9 (Sq w.heap.size 3 3)).run prog (w.alloc (.cells #[.int .u8 a,.int .u8 b,.int .u8 c] 5))=.ok (.string ⟨#[a.toNat.toUInt8,b.toNat.toUInt8,c.toNat.toUInt8]⟩) (w.alloc (.cells #[.int .u8 a,.int .u8 b,.int .u8 c] 5)):=
 jx [a,b,c] (by simp;omega) w
theorem Wy  a b c d  (ha:0<=a/\a<256) (hb:0<=b/\b<256) (hc:0<=c/\c<256) (hd:0<=d/\d<256) (w:World):
 (convert 183 9 (Sq w.heap.size 4 4)).run prog (w.alloc (.cells #[.int .u8 a,.int .u8 b,.int .u8 c,.int .u8 d] 5))=.ok (.string ⟨#[a.toNat.toUInt8,b.toNat.toUInt8,c.toNat.toUInt8,d.toNat.toUInt8]⟩) (w.alloc (.cells #[.int .u8 a,.int .u8 b,.int .u8 c,.int .u8 d] 5)):=
 jx [a,b,c,d] (by grind) w
theorem A3(r:Int)(h0:0<=r)(h1:r<=127)(w:World):
 Cw 213 #[Iq r] w fun e w'=>e=Rw (.string ⟨(Lib.encodeRune r).toArray⟩)/\∃o,w'=w.alloc o:=by
 have he:Hid (Lib.encodeRune r=[r.toNat.toUInt8]):=by show _=_;unfold Lib.encodeRune;rw[Lib.encodeRuneZ_one h0 h1];rfl
 have hk:=El r (by omega) w;go_enter func213,ntmps213;go_wp2;go_ret;rw[he.out];exact⟨rfl,_,rfl⟩
theorem A_(r:Int)(h0:128<=r)(h1:r<=2047)(w:World):
 Cw 213 #[Iq r] w fun e w'=>e=Rw (.string ⟨(Lib.encodeRune r).toArray⟩)/\∃o,w'=w.alloc o:=by
 have he:Hid (Lib.encodeRune r=[(192+r/64).toNat.toUInt8,(128+r %64).toNat.toUInt8]):=by show _=_;unfold Lib.encodeRune;rw[Lib.encodeRuneZ_two h0 h1];rfl
 have hk:=Wx (192+r/64) (128+r %64) (by omega) (by omega) w;go_enter func213,ntmps213;go_wp2;go_ret;rw[he.out];exact⟨rfl,_,rfl⟩
theorem ui(r:Int)(h0:(2048<=r/\r<55296)\/(57343<r/\r<=65535))(w:World):
 Cw 213 #[Iq r] w fun e w'=>e=Rw (.string ⟨(Lib.encodeRune r).toArray⟩)/\∃o,w'=w.alloc o:=by
 have he:Hid (Lib.encodeRune r=[(224+r/4096).toNat.toUInt8,(128+r/64 %64).toNat.toUInt8,(128+r %64).toNat.toUInt8]):=by show _=_;unfold Lib.encodeRune;rw[Lib.encodeRuneZ_three h0];rfl
 have hk:=QF (224+r/4096) (128+r/64 %64) (128+r %64) (by omega) (by omega) (by omega) w;rcases h0 with⟨h0,h1⟩|⟨h0,h1⟩;all_goals go_enter func213,ntmps213;go_wp2;go_ret;rw[he.out];exact⟨rfl,_,rfl⟩
theorem xG(r:Int)(h0:65536<=r)(h1:r<=1114111)(w:World):
 Cw 213 #[Iq r] w fun e w'=>e=Rw (.string ⟨(Lib.encodeRune r).toArray⟩)/\∃o,w'=w.alloc o:=by
 have he:Hid (Lib.encodeRune r=[(240+r/262144).toNat.toUInt8,(128+r/4096 %64).toNat.toUInt8,(128+r/64 %64).toNat.toUInt8,(128+r %64).toNat.toUInt8]):=by show _=_;unfold Lib.encodeRune;rw[Lib.encodeRuneZ_four h0 h1];rfl
 have hk:=Wy (240+r/262144) (128+r/4096 %64) (128+r/64 %64) (128+r %64) (by omega) (by omega) (by omega) (by omega) w;go_enter func213,ntmps213;go_wp2;go_ret;rw[he.out];exact⟨rfl,_,rfl⟩
theorem AW(r:Int)(h:r<0\/(55296<=r/\r<=57343)\/1114111<r)(w:World):
 Cw 213 #[Iq r] w fun e w'=>e=Rw (.string ⟨(Lib.encodeRune r).toArray⟩)/\∃o,w'=w.alloc o:=by
 have he:Hid (Lib.encodeRune r=[239,191,189]):=by show _=_;unfold Lib.encodeRune;rw[Lib.encodeRuneZ_bad h];rfl
 have hk:=QF 239 191 189 (by omega) (by omega) (by omega) w;rcases h with h|⟨h,h'⟩|h;all_goals go_enter func213,ntmps213;go_wp2;go_ret;rw[he.out];exact⟨rfl,_,rfl⟩
theorem AY  r   w  :
 Cw 213 #[Iq r] w fun e w'=>e=Rw (.string ⟨(Lib.encodeRune r).toArray⟩)/\∃o,w'=w.alloc o:=by
 by_cases a:0<=r/\r<=127;·exact A3 r a.1 a.2 w
 by_cases b:128<=r/\r<=2047;·exact A_ r b.1 b.2 w
 by_cases c:(2048<=r/\r<55296)\/(57343<r/\r<=65535);·exact ui r c w
 by_cases d:65536<=r/\r<=1114111;·exact xG r d.1 d.2 w
 ·exact AW r (by omega) w
theorem qh  r   w  :
 Cw 213 #[Iq r] w fun e w'=>e=Rw (.string ⟨(Lib.encodeRune r).toArray⟩)/\Bt w w':=
 (AY r w).mono fun e w' q=>⟨q.1,by obtain⟨o,rfl⟩:=q.2;exact(ag _ _).alloc (ai _) _⟩
