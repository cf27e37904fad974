import Derived.Test.YtiaimhjebnobnaaGreatDoorQ14
import Derived.Test.YtiaimhjebnobnaaGreatDoorRows
import Derived.WalkSpells
import Derived.WalkLawsBesides
import Derived.Test.YtiaimhjebnobnaaGreatDoorQ00
set_option linter.all false
set_option maxRecDepth 100000
set_option maxHeartbeats 16000000
namespace Go.Proofs.YtiaimhjebnobnaaGreatDoor
open Go.RowKit Go.Proofs.Tryz
theorem Mh(r:Int)(w:World):
 Cw 213 #[.int .i32 r] w fun e w'=>e=Rw (.int .i32 (fj r))/\w'=w:=by
 unfold fj;by_cases h1:r<32
 ·by_cases h2:r=10;·subst h2;go_enter func213,ntmps213;go_wp2;go_ret;simp_all
  ·have ue:(r !=10)=true:=by simp[h2]
   rw[if_pos (Or.inl ⟨h1,h2⟩)];clear h2;go_enter func213,ntmps213;go_wp2;go_ret;simp_all
 ·by_cases h3:127<=r
  ·by_cases h4:r<=159;·rw[if_pos (Or.inr ⟨h3,h4⟩)];go_enter func213,ntmps213;go_wp2;go_ret;simp_all
   ·rw[if_neg (by omega)];go_enter func213,ntmps213;go_wp2;go_ret;simp_all
  ·rw[if_neg (by omega)];go_enter func213,ntmps213;go_wp2;go_ret;simp_all
def qB(n:Int):Int:=if n<0\/1114111<n\/(55296<=n/\n<=57343)then 65533 else n
theorem QQ  n  :0<=qB n/\qB n<=1114111:=by grind[qB]
theorem zY  n  :Lib.encodeRuneZ (qB n)=Lib.encodeRuneZ n:=by
 unfold qB;split;·rename_i h;rw[Lib.encodeRuneZ_bad (r:=n) (by omega)];rfl
 ·rfl
theorem Hq(n:Int)(w:World):
 Cw 235 #[Iq n] w fun e w'=>e=Rw (.int .i32 (qB n))/\w'=w:=by
 unfold qB;by_cases h1:n<0;·rw[if_pos (Or.inl h1)];go_enter func235,ntmps235;go_wp2;go_ret;simp_all
 ·by_cases h2:1114111<n;·rw[if_pos (Or.inr (Or.inl h2))];go_enter func235,ntmps235;go_wp2;go_ret;simp_all
  ·by_cases h3:55296<=n
   ·by_cases h4:n<=57343;·rw[if_pos (Or.inr (Or.inr ⟨h3,h4⟩))];go_enter func235,ntmps235;go_wp2;go_ret;simp_all
    ·rw[if_neg (by omega)];go_enter func235,ntmps235;go_wp2;go_ret;simp_all
   ·rw[if_neg (by omega)];go_enter func235,ntmps235;go_wp2;go_ret;simp_all
theorem Mg{r}(h0:0<=r)(h1:r<=2147483647):0<=fj r/\fj r<=2147483647:=by grind[fj]
theorem Xm:(prog.info? 3).map (fun i=>(i.zero,i.size,i.bytes))=some (some (Iq 0),1,8):=by kernel_rfl
theorem jr{w:World}{B B'}{e}{size}{v}{n}{xs}(h:w.ownsRow B e size v n xs)(hB:B'<=B):w.ownsRow B' e size v n xs:=by
 refine⟨h.1,?_⟩;rcases h.2 with h2|⟨g,cap,ik,a,b,c⟩;·grind
 ·exact .inr ⟨g,cap,ik,a,aO hB b,c⟩
theorem j_{s:ByteArray}{pos}(h:pos<s.size):s.data.toList.drop pos≠[]:=by simp_all
theorem CZ(s:ByteArray)(w:World)(hs:s.size<=17592186044416):
 Cw 186 #[.string s] w fun e w'=>∃v,e=Rw v/\w'.ownsRow w.heap.size 3 1 v (aD s.data.toList).length ((aD s.data.toList).map (Value.int .i64))/\Bt w w':=by
 obtain⟨i0,hi,eG,fs,gd⟩:=info_parts Xm;go_enter func186,ntmps186;go_wp2;go_loopw[3] (fun v wr=>∃(pos:Nat) (acc:List Int),wr.ownsRow (w.heap.size+1) 3 1 v acc.length (acc.map (Value.int .i64))/\wr.heap[w.heap.size]?=some (.stringIter s pos)/\Bt w wr/\acc++aD (s.data.toList.drop pos)=aD s.data.toList/\acc.length<=pos) (fun _ wr=>s.size-wr.iterPos w.heap.size);case atStart=>refine⟨0,[],gF _ _ _ _,?_,(aj _ w).alloc (ai _) _,rfl,ai _⟩;have:=World.iter_heap w s 0;omega
 case round=>
  obtain⟨pos,acc,bu,hit,hbw,jp,tC⟩:=hrel;have f_:=(aM.1 hit).1;by_cases hp:pos<s.size
  ·obtain⟨r,n,hd⟩:∃r n,Utf8.decode s pos=(r,n):=⟨_,_,rfl⟩;have Dq:∀ty,(Instr.next (Pq w.heap.size) true ty).run prog wr=.ok (.tuple #[.bool true,Iq pos,.int .i32 r]) (wr.iterAt w.heap.size s (pos+n)):=fun ty=>by have:=Lib.run_next_any_at (P:=prog) wr w.heap.size s pos ty hit hp;grind
   have Un:uT (s.data.toList.drop pos)=(r,n):=by rw[<-F0,hd]
   have xi:1<=n:=by have:=pQ (s.data.toList.drop pos);rw[Un]at this;exact this
   have hr1:r<=2147483647:=by have:=FZ (s.data.toList.drop pos);rw[Un]at this;exact this
   have hy:=Mg (r:=(r:Int)) (by omega) (by omega);have HR:Hid ((acc++[fj r])++aD (s.data.toList.drop (pos+n))=aD s.data.toList):=by show _=_;rw[<-jp,iH (j_ hp),Un,xd];simp
   have zcG:=Lib.iterAt_heap wr w.heap.size s pos (pos+n) hit;have KZ:=Lib.below_iterAt hbw (k:=w.heap.size) (ai _) s (pos+n);have gq:=ownsRow_iterAt bu (k:=w.heap.size) (by omega) s (pos+n);have hsz2:(wr.iterAt w.heap.size s (pos+n)).heap.size=wr.heap.size:=Lib.iterAt_size _ _ _ _;have HS:=qH<|hsz2;clear hd Un jp bu hbw hsz2;go_wp2_with(first
    |(go_at_call 213;refine(Mh _ _).mono ?_;rintro e w' ⟨rfl,rfl⟩)
    |(at_builtin;refine wpList_append_own _ rfl _ _ 61 rfl (w.heap.size+1) 3 i0 (Iq 0) 1 8 underlying61 hi eG fs gd rfl (by decide) _ _ _ rfl (gq.alloc _) _ 1 1 [Iq (fj r)] rfl rfl ?c1 ?c2 ?c3 ?c4 ?c5 ?_));case c1=>exact cell_one_new _ _ _
   case c2=>intro u hu;simp at hu;subst hu;rfl
   case c3=>unfold maxLen;omega
   case c4=>omega
   case c5=>rw[aI,HS.out];omega
   intro v' w1 bD hg _;have hrow:=fun q hq=>(gq.lt q hq).1;have hb1:=(KZ.alloc (by grind) _).grown hg (by rw[aI,HS.out];omega) (fun q hq=>by grind);have zcH:w1.heap[w.heap.size]?=some (.stringIter s (pos+n)):=by rw[hg.block w.heap.size (by rw[aI,HS.out];omega) (fun e=>by grind)];rw[du _ _ _ (by grind)];exact zcG
   clear hg hrow gq KZ Dq zcG;go_wp2;go_roundw;case rel=>refine⟨pos+n,acc++[fj r],?_,zcH,hb1,HR,by grind⟩;grind
   case measure=>rw[iterPos_of zcH,iterPos_of hit];omega
  ·have Dq:∀ty,(Instr.next (Pq w.heap.size) true ty).run prog wr=_:=fun ty=>Lib.run_next_end_at wr w.heap.size s pos ty hit hp;have he:aD (s.data.toList.drop pos)=[]:=by rw[zg (by simp_all),ld]
   rw[he,lZ]at jp;subst jp;clear he;go_wp2;go_ret;exact⟨_,rfl,jr bu (by omega),hbw⟩
theorem uM(s:ByteArray)  i   h  :bB s.data.toList i=(s[i]'h).toNat:=by have:=II s 0 i;simp only[bM,RJ]at this;rw[<-this];have e:=get_at s i h;simp only[w_]at e;rw[e]
theorem vC(s:ByteArray):s.data.toList.length=s.size:=by simp_all
theorem mC  l   i k  :bB (l.drop i) k=bB l (i+k):=by grind[bB]
theorem qg  l   i k lo hi  :qe (l.drop i) k lo hi=qe l (i+k) lo hi:=by grind[qe,mC]
theorem uj(s:ByteArray)(i lo hi:Int)(O7:0<=i)(pE:0<=lo)(zpR:lo<=255)(O6:0<=hi)(zpx:hi<=255)(b:Bool)(hb:qe s.data.toList i.toNat lo.toNat hi.toNat=b)(w:World):
 Cw 223 #[.string s,Iq i,.int .u8 lo,.int .u8 hi] w fun e w'=>e=Rw (.bool b)/\w'=w:=by
 subst hb;obtain⟨i,rfl⟩:=Fa O7;obtain⟨lo,rfl⟩:=Fa pE;obtain⟨hi,rfl⟩:=Fa O6;simp only[lY];by_cases h1:i<s.size
 ·have hb:=uM s i h1;by_cases h2:lo<=(s[i]'h1).toNat
  ·have ue:(lo:Int)<=((s[i]'h1).toNat:Int):=by omega
   by_cases h3:(s[i]'h1).toNat<=hi
   ·have h3':((s[i]'h1).toNat:Int)<=(hi:Int):=by omega
    rw[(nK _ _ _ _).2 ⟨by simp_all,by omega,by omega⟩];clear hb h2 h3;go_enter func223,ntmps223;go_wp2;go_ret;simp_all
   ·have h3':¬((s[i]'h1).toNat:Int)<=(hi:Int):=by omega
    rw[(rF _ _ _ _).2 (by omega)];clear hb h2 h3;go_enter func223,ntmps223;go_wp2;go_ret;simp_all
  ·have ue:¬(lo:Int)<=((s[i]'h1).toNat:Int):=by omega
   rw[(rF _ _ _ _).2 (by omega)];clear hb h2;go_enter func223,ntmps223;go_wp2;go_ret;simp_all
 ·rw[(rF _ _ _ _).2 (by rw[vC];omega)];have xE:¬(i:Int)<(s.size:Int):=by omega
  clear h1;go_enter func223,ntmps223;go_wp2;go_ret;simp_all
/-! J7 'sequence' zkL to, way by way. -/
theorem Md{l}(h:bB l 0<0x80):qW l=1:=by simp[qW,h]
theorem Vy{l}(h0:¬bB l 0<0x80)(h:bB l 0<0xC2\/0xF4<bB l 0):qW l=0:=by simp[qW,h0,h]
theorem seq_first{l}(h0:¬bB l 0<0x80)(hA:¬(bB l 0<0xC2\/0xF4<bB l 0))(h:qe l 1 (iy (bB l 0)) (iw (bB l 0))=false):qW l=0:=by unfold qW;rw[if_neg h0,if_neg hA,if_pos h]
theorem QT{l}(h0:¬bB l 0<0x80)(hA:¬(bB l 0<0xC2\/0xF4<bB l 0))  k  (hk:2<=k) (hn:k<jQ (bB l 0)) (h:qe l k 0x80 0xBF=false):qW l=0:=by
 have nb:=GU (bB l 0);unfold qW;rw[if_neg h0,if_neg hA];by_cases a:qe l 1 (iy (bB l 0)) (iw (bB l 0))=false;·rw[if_pos a]
 ·rw[if_neg a];obtain rfl|rfl:k=2\/k=3:=by omega
  ·rw[if_pos ⟨by omega,h⟩]
  ·by_cases b:2<jQ (bB l 0)/\qe l 2 0x80 0xBF=false;all_goals grind
theorem Vz{l}(h0:¬bB l 0<0x80)(hA:¬(bB l 0<0xC2\/0xF4<bB l 0))(h:qe l 1 (iy (bB l 0)) (iw (bB l 0))=true)(hm:∀k,2<=k->k<jQ (bB l 0)->qe l k 0x80 0xBF=true):qW l=jQ (bB l 0):=by
 unfold qW;rw[if_neg h0,if_neg hA,if_neg (by rw[h];simp)];rw[if_neg,if_neg];·rintro⟨a,b⟩;rw[hm 3 (by omega) a]at b;cases b
 ·rintro⟨a,b⟩;rw[hm 2 (by omega) a]at b;cases b
def Yn(c:Nat)(x0 x1 x2 x3 x4 x5:Bool)(lo hi:Nat)(n:Int):Prop:=(((c:Int)==224)=x0/\((c:Int)==237)=x1/\((c:Int)==240)=x2/\((c:Int)==244)=x3)/\(decide ((224:Int)<=c)=x4/\decide ((240:Int)<=c)=x5)/\iy c=lo/\iw c=hi/\(jQ c:Int)=n
theorem QW  c  :Yn c false false false false false false 128 191 2\/Yn c true false false false true false 160 191 3\/Yn c false false false false true false 128 191 3\/Yn c false true false false true false 128 159 3\/Yn c false false true false true true 144 191 4\/Yn c false false false false true true 128 191 4\/Yn c false false false true true true 128 143 4:=by
 have x:=yL c;have y:=yz c;have z:=GU c;have cl:c<0xE0\/c=0xE0\/(0xE0<c/\c<0xF0/\c≠0xED)\/c=0xED\/c=0xF0\/(0xF0<c/\c≠0xF4)\/c=0xF4:=by omega
 rcases cl with h|h|h|h|h|h|h;·exact .inl ⟨by grind,by grind,by omega,by omega,by omega⟩
 ·exact .inr (.inl ⟨by grind,by grind,by omega,by omega,by omega⟩)
 ·exact .inr (.inr (.inl ⟨by grind,by grind,by omega,by omega,by omega⟩))
 ·exact .inr (.inr (.inr (.inl ⟨by grind,by grind,by omega,by omega,by omega⟩)))
 ·exact .inr (.inr (.inr (.inr (.inl ⟨by grind,by grind,by omega,by omega,by omega⟩))))
 ·exact .inr (.inr (.inr (.inr (.inr (.inl ⟨by grind,by grind,by omega,by omega,by omega⟩)))))
 ·exact .inr (.inr (.inr (.inr (.inr (.inr ⟨by grind,by grind,by omega,by omega,by omega⟩)))))
theorem Ez(s:ByteArray)(i:Nat)(h:i<s.size)(hs:s.size<=70368744177664)(w:World)(h0:¬(s[i]'h).toNat<0x80)(hA:¬((s[i]'h).toNat<0xC2\/0xF4<(s[i]'h).toNat)):
 Cw 196 #[.string s,Iq i] w fun e w'=>e=Rw (Iq (qW (s.data.toList.drop i)))/\w'=w:=by
 have hb0:bB (s.data.toList.drop i) 0=(s[i]'h).toNat:=by rw[mC];exact uM s i h
 have H0:Hid (¬bB (s.data.toList.drop i) 0<0x80):=by rw[hb0];exact h0
 have HA:Hid (¬(bB (s.data.toList.drop i) 0<0xC2\/0xF4<bB (s.data.toList.drop i) 0)):=by rw[hb0];exact hA
 have HB:=qH<|hb0;have q0:¬((s[i]'h).toNat:Int)<128:=by omega
 have q1:¬((s[i]'h).toNat:Int)<194:=by omega
 have q2:¬(244:Int)<((s[i]'h).toNat:Int):=by omega
 have E1:Hid (((i:Int)+1).toNat=i+1):=by show _=_;omega
 have D:=QW (s[i]'h).toNat;clear hb0 h0 hA;obtain⟨M,HM⟩:∃b,Hid (qe s.data.toList (i+1) (iy (s[i]'h).toNat) (iw (s[i]'h).toNat)=b):=⟨_,rfl⟩;cases M;·have HF:=qH<|seq_first H0 HA (by rw[HB.out,qg];exact HM);rcases D with D|D|D|D|D|D|D;all_goals obtain⟨⟨t0,t1,t2,t3⟩,⟨t4,t5⟩,l1,l2,_⟩:=D;rw[l1,l2]at HM;clear l1 l2;go_enter func196,ntmps196;go_wp2_with(go_at_call 223;refine(uj s _ _ _ (by omega) (by omega) (by omega) (by omega) (by omega) false (by rw[E1.out];exact HM) _).mono ?_;rintro e w' ⟨rfl,rfl⟩);go_ret;rw[HF.out];simp_all
 ·have HY:Hid ((∀j,2<=j->j<jQ (s[i]'h).toNat->qe s.data.toList (i+j) 0x80 0xBF=true)->qW (s.data.toList.drop i)=jQ (s[i]'h).toNat):=fun hm=>by rw[Vz H0.out HA.out (by rw[HB.out,qg];exact HM) (fun j a b=>by rw[qg];exact hm j a (by rw[<-HB.out];exact b)),HB.out]
  rcases D with D|D|D|D|D|D|D;all_goals
   obtain⟨⟨t0,t1,t2,t3⟩,⟨t4,t5⟩,l1,l2,l3⟩:=D;rw[l1,l2]at HM;clear l1 l2;generalize hN:jQ (s[i]'h).toNat=N at l3 HY;have HN:=qH<|hN;clear hN;go_enter func196,ntmps196;go_wp2_with(go_at_call 223;refine(uj s _ _ _ (by omega) (by omega) (by omega) (by omega) (by omega) true (by rw[E1.out];exact HM) _).mono ?_;rintro e w' ⟨rfl,rfl⟩);go_loop[10] (fun t=>∃k:Nat,2<=k/\k<=N/\t=Iq k/\Hid (∀j,2<=j->j<k->qe s.data.toList (i+j) 0x80 0xBF=true)) (fun t=>N-(intOf t).toNat);case atStart=>exact⟨2,ai _,by omega,rfl,fun j a b=>by omega⟩
   case round=>
    obtain⟨k,I2,hkn,rfl,hm⟩:=hrel;by_cases hlt:k<N
    ·have aN:(k:Int)<(N:Int):=by omega
     have ek:Hid (((i:Int)+(k:Int)).toNat=i+k):=by show _=_;omega
     have hN4:N<=4:=by omega
     rw[l3]at aN;obtain⟨M2,Nh⟩:∃b,Hid (qe s.data.toList (i+k) 0x80 0xBF=b):=⟨_,rfl⟩;cases M2;·go_wp2_with(go_at_call 223;refine(uj s _ _ _ (by omega) (by omega) (by omega) (by omega) (by omega) false (by rw[ek.out];exact Nh) _).mono ?_;rintro e w' ⟨rfl,rfl⟩);go_ret;rw[QT H0.out HA.out k I2 (by rw[HB.out,HN.out];exact hlt) (by rw[qg];exact Nh)];exact⟨rfl,rfl⟩
     ·go_wp2_with(go_at_call 223;refine(uj s _ _ _ (by omega) (by omega) (by omega) (by omega) (by omega) true (by rw[ek.out];exact Nh) _).mono ?_;rintro e w' ⟨rfl,rfl⟩);go_round;case rel=>
       refine⟨k+1,by omega,by omega,by go_num,fun j a b=>?_⟩;by_cases ej:j=k;·subst ej;exact Nh
       ·exact hm j a (by omega)
      case measure=>simp[intOf];omega
    ·have aN:¬(k:Int)<(N:Int):=by omega
     rw[l3]at aN;obtain rfl:k=N:=by omega
     have HZ:=qH<|HY hm;have HL:=qH<|l3;clear hlt I2 hkn l3;go_wp2;go_ret;exact⟨by rw[HZ.out,HL.out];rfl,rfl⟩
theorem AY(s:ByteArray)(i:Nat)(h:i<s.size)(hs:s.size<=70368744177664)(w:World):
 Cw 196 #[.string s,Iq i] w fun e w'=>e=Rw (Iq (qW (s.data.toList.drop i)))/\w'=w:=by
 have hb0:bB (s.data.toList.drop i) 0=(s[i]'h).toNat:=by rw[mC];exact uM s i h
 by_cases h0:(s[i]'h).toNat<0x80
 ·rw[Md (by omega)];have q0:((s[i]'h).toNat:Int)<128:=by omega
  clear hb0 h0;go_enter func196,ntmps196;go_wp2;go_ret;simp_all
 ·by_cases hA:(s[i]'h).toNat<0xC2\/0xF4<(s[i]'h).toNat
  ·rw[Vy (by omega) (by omega)];have q0:¬((s[i]'h).toNat:Int)<128:=by omega
   by_cases hl:(s[i]'h).toNat<0xC2
   ·have q1:((s[i]'h).toNat:Int)<194:=by omega
    clear hb0 h0 hA hl;go_enter func196,ntmps196;go_wp2;go_ret;simp_all
   ·have q1:¬((s[i]'h).toNat:Int)<194:=by omega
    have q2:(244:Int)<((s[i]'h).toNat:Int):=by omega
    clear hb0 h0 hA hl;go_enter func196,ntmps196;go_wp2;go_ret;simp_all
  grind[Ez]
theorem zbu:∀c:Fin 256,bits .and .i64 ((c.val:Nat):Int) 31=((c.val %32:Nat):Int):=by decide+kernel
theorem zbt:∀c:Fin 256,bits .and .i64 ((c.val:Nat):Int) 15=((c.val %16:Nat):Int):=by decide+kernel
theorem zgR:∀c:Fin 256,bits .and .i64 ((c.val:Nat):Int) 7=((c.val %8:Nat):Int):=by decide+kernel
theorem zbv:∀c:Fin 256,bits .and .u8 ((c.val:Nat):Int) 63=((c.val %64:Nat):Int):=by decide+kernel
def lT(l:List UInt8)(m:Nat):Nat->Nat
 |0=>m
 |j+1=>lT l m j*64+bB l (j+1) %64
theorem QP  l   m  (hm:m<256)  j  (hj:j<=3):lT l m j<67108864:=by
 have h1:lT l m 0=m:=rfl;have h2:lT l m 1=m*64+bB l 1 %64:=rfl;have h3:lT l m 2=(m*64+bB l 1 %64)*64+bB l 2 %64:=rfl;have h4:lT l m 3=((m*64+bB l 1 %64)*64+bB l 2 %64)*64+bB l 3 %64:=rfl;obtain rfl|rfl|rfl|rfl:j=0\/j=1\/j=2\/j=3:=by omega
 all_goals omega
theorem rpart_val  l   n m  (hn:n=1/\m=bB l 0\/n=2/\m=bB l 0 %32\/n=3/\m=bB l 0 %16\/n=4/\m=bB l 0 %8):lT l m (n-1)=val l n:=by
 rcases hn with⟨rfl,rfl⟩|⟨rfl,rfl⟩|⟨rfl,rfl⟩|⟨rfl,rfl⟩;·rfl
 ·rfl
 ·show(bB l 0 %16*64+bB l 1 %64)*64+bB l 2 %64=bB l 0 %16*4096+(bB l 1 %64)*64+bB l 2 %64;omega
 ·show((bB l 0 %8*64+bB l 1 %64)*64+bB l 2 %64)*64+bB l 3 %64=bB l 0 %8*262144+(bB l 1 %64)*4096+(bB l 2 %64)*64+bB l 3 %64;omega
theorem Hu  l  (hl:l≠[]):qW l<=l.length:=by grind[GU,bB,qW,qe,iy,iw,nK,jQ]
theorem step_bad{s:ByteArray}{pos}{acc}(hp:pos<s.size)(h:acc++aD (s.data.toList.drop pos)=aD s.data.toList)(hq:qW (s.data.toList.drop pos)=0):
 (acc++[65533])++aD (s.data.toList.drop (pos+1))=aD s.data.toList:=by
 have Un:uT (s.data.toList.drop pos)=(65533,1):=by rw[ub,if_pos hq]
 rw[<-h,iH (j_ hp),Un,xd];simp[fj]
theorem step_good{s:ByteArray}{pos}{acc}(hp:pos<s.size)(h:acc++aD (s.data.toList.drop pos)=aD s.data.toList)  n  (hq:qW (s.data.toList.drop pos)=n) (hn:n≠0):
 (acc++[fj (val (s.data.toList.drop pos) n)])++aD (s.data.toList.drop (pos+n))=aD s.data.toList:=by
 have Un:uT (s.data.toList.drop pos)=(val (s.data.toList.drop pos) n,n):=by rw[ub,if_neg (by rw[hq];exact hn),hq]
 rw[<-h,iH (j_ hp),Un,xd];simp
theorem El(s:ByteArray)(w:World)(hs:s.size<=17592186044416):
 Cw 164 #[.string s] w fun e w'=>∃v,e=Rw v/\w'.ownsRow w.heap.size 3 1 v (aD s.data.toList).length ((aD s.data.toList).map (Value.int .i64))/\Bt w w':=by
 obtain⟨i0,hi,eG,fs,gd⟩:=info_parts Xm;go_enter func164,ntmps164;go_wp2;go_loopw[3,4] (fun v i wr=>∃(pos:Nat) (acc:List Int),i=Iq pos/\pos<=s.size/\wr.ownsRow w.heap.size 3 1 v acc.length (acc.map (Value.int .i64))/\Bt w wr/\acc++aD (s.data.toList.drop pos)=aD s.data.toList/\acc.length<=pos) (fun _ i _=>s.size-(intOf i).toNat);case atStart=>exact⟨0,[],rfl,aZ _,gF _ _ _ _,aj _ _,rfl,ai _⟩
 case round=>
  obtain⟨pos,acc,rfl,Gt,bu,hbw,jp,tC⟩:=hrel;have f_:=hbw.size;by_cases hp:pos<s.size
  ·have aN:(pos:Int)<(s.size:Int):=by omega
   have Zm:=Hu _ (j_ hp);rw[dq,vC]at Zm;have hs4:=_a (s.data.toList.drop pos);obtain⟨n,hn⟩:=ag (qW (s.data.toList.drop pos));rw[hn]at Zm hs4;have hcall:=AY s pos hp (by omega);rw[hn]at hcall;have V_:=qH<|hcall;clear hcall;have hb0:bB (s.data.toList.drop pos) 0=(s[pos]'hp).toNat:=by rw[mC];exact uM s pos hp
   have HB:=qH<|hb0;have vh:=mD (s.data.toList.drop pos) 0;rw[hb0]at vh;clear hb0;by_cases h0:n=0
   ·have HR:=qH<|step_bad hp jp (by omega);subst h0;clear jp hn Zm hs4 HB vh;go_wp2_with(first|(go_at_call 196;refine(V_ _).mono ?_;rintro e w' ⟨rfl,rfl⟩)|(at_builtin;refine MB hi eG fs gd bu hbw [Iq 65533] rfl _ _ rfl underlying61 ⟨rfl,by decide,by decide⟩ rfl rfl ⟨rfl,rfl⟩ (by omega) ?_));intro v' w1 bD hb1;clear bu hbw;go_wp2;go_roundw;case rel=>refine⟨pos+1,acc++[65533],by go_num,by omega,?_,hb1,HR,by simp;omega⟩;simp_all
    case measure=>simp[intOf];omega
   ·have HR:=qH<|step_good hp jp n hn h0;clear jp hn;obtain⟨m,hm,hmv⟩:∃m:Nat,m<256/\(n=1/\m=(s[pos]'hp).toNat\/n=2/\m=(s[pos]'hp).toNat %32\/n=3/\m=(s[pos]'hp).toNat %16\/n=4/\m=(s[pos]'hp).toNat %8):=by
     obtain h|h|h|h:n=1\/n=2\/n=3\/n=4:=by omega
     ·simp_all
     ·exact⟨(s[pos]'hp).toNat %32,by omega,.inr (.inl ⟨h,rfl⟩)⟩
     ·exact⟨(s[pos]'hp).toNat %16,by omega,.inr (.inr (.inl ⟨h,rfl⟩))⟩
     ·exact⟨(s[pos]'hp).toNat %8,by omega,.inr (.inr (.inr ⟨h,rfl⟩))⟩
    have HV:=qH<|rpart_val _ n m (by rw[HB.out];exact hmv);obtain⟨L,hL⟩:=ag (s.data.toList.drop pos);have HBy:Hid (∀j (h:pos+j<s.size),bB L j=(s[pos+j]'h).toNat):=by intro j h;rw[<-hL,mC];exact uM s (pos+j) h
    rw[hL]at HR HV HB;have a31:=zbu ⟨(s[pos]'hp).toNat,vh⟩;have a15:=zbt ⟨(s[pos]'hp).toNat,vh⟩;have a7:=zgR ⟨(s[pos]'hp).toNat,vh⟩;clear hL HB;have e0:((n:Int)==0)=false:=by simp;exact h0
    have pB:(((n:Int)==2)=false/\((n:Int)==3)=false/\((n:Int)==4)=false/\m=(s[pos]'hp).toNat)\/(((n:Int)==2)=true/\((n:Int)==3)=false/\((n:Int)==4)=false/\m=(s[pos]'hp).toNat %32)\/(((n:Int)==2)=false/\((n:Int)==3)=true/\((n:Int)==4)=false/\m=(s[pos]'hp).toNat %16)\/(((n:Int)==2)=false/\((n:Int)==3)=false/\((n:Int)==4)=true/\m=(s[pos]'hp).toNat %8):=by
     rcases hmv with⟨rfl,h⟩|⟨rfl,h⟩|⟨rfl,h⟩|⟨rfl,h⟩;·grind
     ·grind
     ·grind
     ·grind
    clear hmv;rcases pB with⟨e2,e3,e4,hmm⟩|⟨e2,e3,e4,hmm⟩|⟨e2,e3,e4,hmm⟩|⟨e2,e3,e4,hmm⟩;all_goals
     have Sh:=qH<|hmm;clear hmm;go_wp2_with(go_at_call 196;refine(V_ _).mono ?_;rintro e w' ⟨rfl,rfl⟩);go_loop[6,7] (fun r k=>∃j:Nat,j+1<=n/\k=Iq (j+1:Nat)/\r=Iq (lT L m j)) (fun _ k=>n-(intOf k).toNat);case atStart=>exact⟨0,by omega,rfl,by rw[show lT L m 0=m from rfl,Sh.out];try simp⟩
     case round=>
      obtain⟨j,hj,rfl,rfl⟩:=hrel;have BI:=QP L m hm j (by omega);by_cases Af:j+1<n
      ·have Y_:((j+1:Nat):Int)<(n:Int):=by omega
       have hpj:pos+(j+1)<s.size:=by omega
       have YT:=HBy (j+1) hpj;have zbX:=mD L (j+1);rw[YT]at zbX;have a63:=zbv ⟨(s[pos+(j+1)]'hpj).toNat,zbX⟩;have HST:Hid (lT L m (j+1)=lT L m j*64+(s[pos+(j+1)]'hpj).toNat %64):=by show _=_;rw[<-YT];rfl
       clear YT a31 a15 a7;go_wp2;go_round;case rel=>exact⟨j+1,by omega,by go_num,by rw[HST.out];go_num⟩
       case measure=>simp[intOf];omega
      ·have Y_:¬((j+1:Nat):Int)<(n:Int):=by omega
       obtain⟨V,hV⟩:=ag (lT L m j);have J0:Hid (V=val L n):=by show _=_;rw[<-hV,show j=n-1 by omega];exact HV
       rw[hV]at BI⊢;obtain⟨x,HR2,hx⟩:∃x:Int,Hid ((acc++[x])++aD (s.data.toList.drop (pos+n))=aD s.data.toList)/\(((V:Int)<32/\((V:Int)!=10)=true/\x=65533)\/(((V:Int)<32/\¬127<=(V:Int))/\((V:Int)!=10)=false/\x=V)\/((¬(V:Int)<32/\127<=(V:Int))/\(V:Int)<=159/\x=65533)\/((¬(V:Int)<32/\127<=(V:Int))/\¬(V:Int)<=159/\x=V)\/(¬(V:Int)<32/\¬127<=(V:Int)/\x=V)):=by
        refine⟨fj V,by have:=HR.out;rw[<-J0.out]at this;exact this,?_⟩;unfold fj;by_cases q:((V:Int)<32/\(V:Int)≠10)\/(127<=(V:Int)/\(V:Int)<=159)
        ·rw[if_pos q];rcases q with⟨q1,q2⟩|q;·exact .inl ⟨q1,by simpa using q2,rfl⟩
         ·exact .inr (.inr (.inl ⟨by omega,q.2,rfl⟩))
        ·rw[if_neg q];by_cases q1:(V:Int)<32;·exact .inr (.inl ⟨by omega,by simp;omega,rfl⟩)
         ·by_cases q3:127<=(V:Int);·exact .inr (.inr (.inr (.inl ⟨⟨q1,q3⟩,by omega,rfl⟩)))
          ·exact .inr (.inr (.inr (.inr ⟨q1,q3,rfl⟩)))
       clear hV HV Af a31 a15 a7 HR;rcases hx with⟨f1,f2,rfl⟩|⟨⟨f1,f3⟩,f2,rfl⟩|⟨⟨f1,f3⟩,f2,rfl⟩|⟨⟨f1,f3⟩,f2,rfl⟩|⟨f1,f2,rfl⟩;all_goals
        go_wp2_with(at_builtin;first|refine MB hi eG fs gd bu hbw [Iq 65533] rfl _ _ rfl underlying61 ⟨rfl,by decide,by decide⟩ rfl rfl ⟨rfl,rfl⟩ (by omega) ?_|refine MB hi eG fs gd bu hbw [Iq (V:Int)] rfl _ _ rfl underlying61 ⟨rfl,by decide,by decide⟩ rfl rfl ⟨rfl,rfl⟩ (by omega) ?_);intro v' w1 bD hb1;clear bu hbw;go_wp2;go_roundw;case rel=>refine⟨pos+n,acc++[_],by go_num,by omega,?_,hb1,HR2,by simp;omega⟩;rw[bm,np];exact bD
        case measure=>simp[intOf];omega
  ·have aN:¬(pos:Int)<(s.size:Int):=by omega
   have he:aD (s.data.toList.drop pos)=[]:=by rw[zg (by simp_all),ld]
   rw[he,lZ]at jp;subst jp;clear he;go_wp2;go_ret;simp_all
theorem oa(xs:List Int)(hx:∀x∈xs,0<=x/\x<256)(w:World):
 (convert 174 9 (Sq w.heap.size xs.length xs.length)).run prog (w.alloc (.cells (xs.map (Value.int .u8)).toArray 5))=
  .ok (.string ⟨(xs.map fun x=>x.toNat.toUInt8).toArray⟩) (w.alloc (.cells (xs.map (Value.int .u8)).toArray 5)):=by
 have h:=run_convert_bytes_back (P:=prog) (w.alloc (.cells (xs.map (Value.int .u8)).toArray 5)) 174 9 5 (az w.heap.size 0) xs.length (xs.map fun x=>x.toNat.toUInt8) underlying174 underlying5 underlying9 (by
  intro j hj;simp only[zh]at hj;have e:((az w.heap.size 0):Addr).add j=(az w.heap.size j):=by unfold Addr.add;split<;>simp_all
  rw[e,World.cell?_alloc_mark];have hb:=hx xs[j] (lX hj);simp[hj];omega);grind
theorem _h  a  (ha:0<=a/\a<256) (w:World):
 (convert 174 9 (Sq w.heap.size 1 1)).run prog (w.alloc (.cells #[.int .u8 a] 5))=.ok (.string ⟨#[a.toNat.toUInt8]⟩) (w.alloc (.cells #[.int .u8 a] 5)):=
 oa [a] (by grind) w
theorem zbJ  a b  (ha:0<=a/\a<256) (hb:0<=b/\b<256) (w:World):
 (convert 174 9 (Sq w.heap.size 2 2)).run prog (w.alloc (.cells #[.int .u8 a,.int .u8 b] 5))=.ok (.string ⟨#[a.toNat.toUInt8,b.toNat.toUInt8]⟩) (w.alloc (.cells #[.int .u8 a,.int .u8 b] 5)):=
 oa [a,b] (by grind) w
theorem WE  a b c  (ha:0<=a/\a<256) (hb:0<=b/\b<256) (hc:0<=c/\c<256) (w:World):
 (convert 174 9 (Sq w.heap.size 3 3)).run prog (w.alloc (.cells #[.int .u8 a,.int .u8 b,.int .u8 c] 5))=.ok (.string ⟨#[a.toNat.toUInt8,b.toNat.toUInt8,c.toNat.toUInt8]⟩) (w.alloc (.cells #[.int .u8 a,.int .u8 b,.int .u8 c] 5)):=
 oa [a,b,c] (by simp;omega) w
theorem zbK  a b c d  (ha:0<=a/\a<256) (hb:0<=b/\b<256) (hc:0<=c/\c<256) (hd:0<=d/\d<256) (w:World):
 (convert 174 9 (Sq w.heap.size 4 4)).run prog (w.alloc (.cells #[.int .u8 a,.int .u8 b,.int .u8 c,.int .u8 d] 5))=.ok (.string ⟨#[a.toNat.toUInt8,b.toNat.toUInt8,c.toNat.toUInt8,d.toNat.toUInt8]⟩) (w.alloc (.cells #[.int .u8 a,.int .u8 b,.int .u8 c,.int .u8 d] 5)):=
 oa [a,b,c,d] (by grind) w
theorem E5(r:Int)(h0:0<=r)(h1:r<=127)(w:World):
 Cw 94 #[Iq r] w fun e w'=>e=Rw (.string ⟨(Lib.encodeRune r).toArray⟩)/\∃o,w'=w.alloc o:=by
 have he:Hid (Lib.encodeRune r=[r.toNat.toUInt8]):=by show _=_;unfold Lib.encodeRune;rw[Lib.encodeRuneZ_one h0 h1];rfl
 have hk:=_h r (by omega) w;go_enter func94,ntmps94;go_wp2;go_ret;rw[he.out];exact⟨rfl,_,rfl⟩
theorem E6(r:Int)(h0:128<=r)(h1:r<=2047)(w:World):
 Cw 94 #[Iq r] w fun e w'=>e=Rw (.string ⟨(Lib.encodeRune r).toArray⟩)/\∃o,w'=w.alloc o:=by
 have he:Hid (Lib.encodeRune r=[(192+r/64).toNat.toUInt8,(128+r %64).toNat.toUInt8]):=by show _=_;unfold Lib.encodeRune;rw[Lib.encodeRuneZ_two h0 h1];rfl
 have hk:=zbJ (192+r/64) (128+r %64) (by omega) (by omega) w;go_enter func94,ntmps94;go_wp2;go_ret;rw[he.out];exact⟨rfl,_,rfl⟩
theorem x_(r:Int)(h0:(2048<=r/\r<55296)\/(57343<r/\r<=65535))(w:World):
 Cw 94 #[Iq r] w fun e w'=>e=Rw (.string ⟨(Lib.encodeRune r).toArray⟩)/\∃o,w'=w.alloc o:=by
 have he:Hid (Lib.encodeRune r=[(224+r/4096).toNat.toUInt8,(128+r/64 %64).toNat.toUInt8,(128+r %64).toNat.toUInt8]):=by show _=_;unfold Lib.encodeRune;rw[Lib.encodeRuneZ_three h0];rfl
 have hk:=WE (224+r/4096) (128+r/64 %64) (128+r %64) (by omega) (by omega) (by omega) w;rcases h0 with⟨h0,h1⟩|⟨h0,h1⟩;all_goals go_enter func94,ntmps94;go_wp2;go_ret;rw[he.out];exact⟨rfl,_,rfl⟩
theorem Bl(r:Int)(h0:65536<=r)(h1:r<=1114111)(w:World):
 Cw 94 #[Iq r] w fun e w'=>e=Rw (.string ⟨(Lib.encodeRune r).toArray⟩)/\∃o,w'=w.alloc o:=by
 have he:Hid (Lib.encodeRune r=[(240+r/262144).toNat.toUInt8,(128+r/4096 %64).toNat.toUInt8,(128+r/64 %64).toNat.toUInt8,(128+r %64).toNat.toUInt8]):=by show _=_;unfold Lib.encodeRune;rw[Lib.encodeRuneZ_four h0 h1];rfl
 have hk:=zbK (240+r/262144) (128+r/4096 %64) (128+r/64 %64) (128+r %64) (by omega) (by omega) (by omega) (by omega) w;go_enter func94,ntmps94;go_wp2;go_ret;rw[he.out];exact⟨rfl,_,rfl⟩
theorem EZ(r:Int)(h:r<0\/(55296<=r/\r<=57343)\/1114111<r)(w:World):
 Cw 94 #[Iq r] w fun e w'=>e=Rw (.string ⟨(Lib.encodeRune r).toArray⟩)/\∃o,w'=w.alloc o:=by
 have he:Hid (Lib.encodeRune r=[239,191,189]):=by show _=_;unfold Lib.encodeRune;rw[Lib.encodeRuneZ_bad h];rfl
 have hk:=WE 239 191 189 (by omega) (by omega) (by omega) w;rcases h with h|⟨h,h'⟩|h;all_goals go_enter func94,ntmps94;go_wp2;go_ret;rw[he.out];exact⟨rfl,_,rfl⟩
theorem E4  r   w  :
 Cw 94 #[Iq r] w fun e w'=>e=Rw (.string ⟨(Lib.encodeRune r).toArray⟩)/\∃o,w'=w.alloc o:=by
 by_cases a:0<=r/\r<=127;·exact E5 r a.1 a.2 w
 by_cases b:128<=r/\r<=2047;·exact E6 r b.1 b.2 w
 by_cases c:(2048<=r/\r<55296)\/(57343<r/\r<=65535);·exact x_ r c w
 by_cases d:65536<=r/\r<=1114111;·exact Bl r d.1 d.2 w
 ·exact EZ r (by omega) w
theorem nf  r   w  :
 Cw 94 #[Iq r] w fun e w'=>e=Rw (.string ⟨(Lib.encodeRune r).toArray⟩)/\Bt w w':=
 (E4 r w).mono fun e w' q=>⟨q.1,by obtain⟨o,rfl⟩:=q.2;exact(aj _ _).alloc (ai _) _⟩
