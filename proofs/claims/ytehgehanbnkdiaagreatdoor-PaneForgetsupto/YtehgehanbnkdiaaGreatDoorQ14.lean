import Derived.Lib.RuneBytes
import Derived.Laws.RangeAny
import Derived.Test.YtehgehanbnkdiaaGreatDoorQ00
set_option linter.all false
set_option maxRecDepth 100000
set_option maxHeartbeats 16000000
namespace Go.Proofs.YtehgehanbnkdiaaGreatDoor
def bD(l:zzf)(k:Nat):Nat:=(l.getD k 0).toNat
theorem l_ l k:bD l k<256:=by unfold bD;exact UInt8.toNat_lt _
def cnt(l:zzf)(k:Nat):Bool:=decide (k<l.length)&&(bD l k/64==2)
def qK(l:zzf):Nat×Nat:=
 if bD l 0<0x80 then(bD l 0,1)
 else if bD l 0/32==6&&cnt l 1 then
  (if(bD l 0 %32)*64+bD l 1 %64>=0x80 then((bD l 0 %32)*64+bD l 1 %64,2)else(65533,1))
 else if bD l 0/16==14&&cnt l 1&&cnt l 2 then
  (if(bD l 0 %16)*4096+(bD l 1 %64)*64+bD l 2 %64>=0x800&&Utf8.valid ((bD l 0 %16)*4096+(bD l 1 %64)*64+bD l 2 %64:Nat)then((bD l 0 %16)*4096+(bD l 1 %64)*64+bD l 2 %64,3)else(65533,1))
 else if bD l 0/8==30&&cnt l 1&&cnt l 2&&cnt l 3 then
  (if(bD l 0 %8)*262144+(bD l 1 %64)*4096+(bD l 2 %64)*64+bD l 3 %64>=0x10000&&Utf8.valid ((bD l 0 %8)*262144+(bD l 1 %64)*4096+(bD l 2 %64)*64+bD l 3 %64:Nat)then((bD l 0 %8)*262144+(bD l 1 %64)*4096+(bD l 2 %64)*64+bD l 3 %64,4)else(65533,1))
 else(65533,1)
theorem JV(s:BY)i k:(s.get! (i+k)).toNat=bD (s.data.toList.drop i) k:=by unfold bD;congr 1;rw[sC,B0,I5];show s.data[i+k]! =_;rw[getElem!_def];cases s.data[i+k]?<;>rfl
theorem Fg(s:BY)i k:(decide (i+k<s.size)&&(bD (s.data.toList.drop i) k/64==2))=cnt (s.data.toList.drop i) k:=by
 unfold cnt;have e:(s.data.toList.drop i).length=s.size-i:=by rw[de,ep];rfl
 rw[e,decide_eq_decide.2 (show i+k<s.size↔k<s.size-i by omega)]
theorem xQ s i:Utf8.decode s i=qK (s.data.toList.drop i):=by unfold Utf8.decode qK;simp only[JV,Fg,Utf8.runeError]
def GV(l:zzf)(k lo hi:Nat):Bool:=decide (k<l.length)&&decide (lo<=bD l k)&&decide (bD l k<=hi)
def lN(c:Nat):Nat:=if 0xF0<=c then 4 else if 0xE0<=c then 3 else 2
def jb(c:Nat):Nat:=if c=0xE0 then 0xA0 else if c=0xF0 then 0x90 else 0x80
def ja(c:Nat):Nat:=if c=0xED then 0x9F else if c=0xF4 then 0x8F else 0xBF
def Nf(l:zzf):Nat:=
 if bD l 0<0x80 then 1
 else if bD l 0<0xC2\/0xF4<bD l 0 then 0
 else if GV l 1 (jb (bD l 0)) (ja (bD l 0))=false then 0
 else if 2<lN (bD l 0)/\GV l 2 0x80 0xBF=false then 0
 else if 3<lN (bD l 0)/\GV l 3 0x80 0xBF=false then 0
 else lN (bD l 0)
theorem vB c:(c=0xE0/\jb c=0xA0)\/(c=0xF0/\jb c=0x90)\/(c≠0xE0/\c≠0xF0/\jb c=0x80):=by grind[jb]
theorem uT c:(c=0xED/\ja c=0x9F)\/(c=0xF4/\ja c=0x8F)\/(c≠0xED/\c≠0xF4/\ja c=0xBF):=by grind[ja]
theorem OA c:(c<0xE0/\lN c=2)\/(0xE0<=c/\c<0xF0/\lN c=3)\/(0xF0<=c/\lN c=4):=by grind[lN]
theorem Ie{c}(h:c<0xE0):lN c=2:=by grind[OA]
theorem yU{c}(h:0xE0<=c)(a:c<0xF0):lN c=3:=by have:=OA c;omega
theorem DT{c}(h:0xF0<=c):lN c=4:=by have:=OA c;omega
theorem DR{c}(h:c<0xE0):jb c=0x80:=by grind[vB]
theorem DM{c}(h:c<0xE0):ja c=0xBF:=by grind[uT]
theorem tH l k lo hi:GV l k lo hi=true↔k<l.length/\lo<=bD l k/\bD l k<=hi:=by grind[GV]
theorem fo l k:cnt l k=true↔k<l.length/\0x80<=bD l k/\bD l k<=0xBF:=by unfold cnt;simp;omega
theorem dX(n:Nat):Utf8.valid (n:Int)=true↔n<0xD800\/(0xE000<=n/\n<=0x10FFFF):=by unfold Utf8.valid;simp;omega
def OT(l:zzf)(n:Nat):Nat:=
 if n=1 then bD l 0
 else if n=2 then(bD l 0 %32)*64+bD l 1 %64
 else if n=3 then(bD l 0 %16)*4096+(bD l 1 %64)*64+bD l 2 %64
 else(bD l 0 %8)*262144+(bD l 1 %64)*4096+(bD l 2 %64)*64+bD l 3 %64
theorem AN l(h:bD l 0<0x80):qK l=(bD l 0,1):=by simp[qK,h]
theorem AO l:qK l=if Nf l=0 then(65533,1)else(OT l (Nf l),Nf l):=by
 by_cases w:bD l 0<0x80;·grind[Nf,AN,OT]
 ·have K:=l_ l 0;have E:=l_ l 1;have F:=l_ l 2;have G:=l_ l 3;have c1:=λ_:Unit=>fo l 1;have c2:=λ_:Unit=>fo l 2;have c3:=λ_:Unit=>fo l 3;unfold qK;rw[if_neg w];by_cases B:bD l 0<0xC2\/0xF4<bD l 0;·grind[Nf,bD,cnt,dX]
  ·have lo:=λ_:Unit=>tH l 1 (jb (bD l 0)) (ja (bD l 0));have x:=λ_:Unit=>tH l 2 0x80 0xBF;have H:=λ_:Unit=>tH l 3 0x80 0xBF;have g:Nf l=if GV l 1 (jb (bD l 0)) (ja (bD l 0))=false then 0 else if 2<lN (bD l 0)/\GV l 2 0x80 0xBF=false then 0 else if 3<lN (bD l 0)/\GV l 3 0x80 0xBF=false then 0 else lN (bD l 0):=by simp only[Nf,if_neg w,if_neg B]
   rw[g];clear g;generalize GV l 1 (jb (bD l 0)) (ja (bD l 0))=m at*;generalize GV l 2 0x80 0xBF=v at*;generalize GV l 3 0x80 0xBF=y at*;generalize cnt l 1=d at*;generalize cnt l 2=c at*;generalize cnt l 3=k at*;by_cases u:bD l 0<0xE0
   ·have e:=Ie u;have A:=DR u;have z:=DM u;have i:=lo ();rw[A,z]at i;rw[e];have j:d=m:=by rw[xp,c1 (),i]
    grind[bD,OT]
   ·by_cases J:bD l 0<0xF0
    ·have e:=yU dg J;rw[e];have t:¬(bD l 0/32==6&&d)=true:=by simp;omega
     rw[if_neg t];have j:c=v:=by rw[xp,c2 (),x ()]
     subst j;have r:(bD l 0/8==30)=false:=by simp;omega
     have q:(bD l 0/16==14)=true:=by simp;omega
     simp only[r,q,Bool.true_and,Bool.false_and];cases f:m
     ·subst f;simp only[if_true,if_false,B3];by_cases a:(d&&c)=true
      ·rw[if_pos a];rw[if_neg];simp only[xq,decide_eq_true_eq,dX];simp only[xq]at a;have n:=(c1 ()).1 a.1;have s:=vB (bD l 0);have b:=uT (bD l 0);have I:¬(1<l.length/\jb (bD l 0)<=bD l 1/\bD l 1<=ja (bD l 0)):=λh=>by simp_all
       omega
      grind
     ·subst f;have n:=(lo ()).1 rfl;have s:=vB (bD l 0);have b:=uT (bD l 0);have o:=(c1 ()).2 dg;rw[o];cases C:c;all_goals grind[OT,dX]
    ·have e:lN (bD l 0)=4:=DT dg;rw[e];have t:¬(bD l 0/32==6&&d)=true:=by simp;omega
     rw[if_neg t];have j:c=v:=by rw[xp,c2 (),x ()]
     subst j;have p:k=y:=by rw[xp,c3 (),H ()]
     subst p;have r:(bD l 0/8==30)=true:=by simp;omega
     have q:(bD l 0/16==14)=false:=by simp;omega
     simp only[r,q,Bool.true_and,Bool.false_and,B3,if_false];cases f:m
     ·subst f;simp only[if_true];by_cases a:(d&&c&&k)=true
      ·rw[if_pos a];rw[if_neg];simp only[xq,decide_eq_true_eq,dX];simp only[xq]at a;have n:=(c1 ()).1 a.1.1;have s:=vB (bD l 0);have b:=uT (bD l 0);have I:¬(1<l.length/\jb (bD l 0)<=bD l 1/\bD l 1<=ja (bD l 0)):=λh=>by simp_all
       omega
      grind
     ·subst f;have n:=(lo ()).1 rfl;have s:=vB (bD l 0);have b:=uT (bD l 0);have o:=(c1 ()).2 dg;rw[o];cases C:c;·simp
      ·cases D:k;all_goals grind[OT,dX]
theorem li l:1<=(qK l).2:=by grind[AO]
def ek(r:Int):Int:=if(r<32/\r≠10)\/(127<=r/\r<=159)then 65533 else r
def mG:Nat->List UInt8->List Int
 |0,_=>[]
 |_+1,[]=>[]
 |f+1,b::t=>ek (qK (b::t)).1::mG f ((b::t).drop (qK (b::t)).2)
theorem jU:∀  f g   l,l.length<=f->l.length<=g->mG f l=mG g l
 |0,0,_,_,_=>rfl
 |0,g+1,l,h,_=>by have:l=[]:=iG.1 dg;subst this;rfl
 |f+1,0,l,_,h=>by have:l=[]:=iG.1 dg;subst this;rfl
 |f+1,g+1,[],_,_=>rfl
 |f+1,g+1,b::t,a,c=>by have d:=li (b::t);simp only[cN]at a c;simp only[mG];rw[jU f g _ rn rn]
def aA(l:zzf):List Int:=mG l.length l
theorem jF:aA []=[]:=rfl
theorem ip{l}(h:l≠[]):aA l=ek (qK l).1::aA (l.drop (qK l).2):=by
 cases l with
 |nil=>grind
 |cons b t=>grind[li,mG,aA,jU]
theorem bm l:(aA l).length<=l.length:=by
 generalize c:l.length=n;induction n using Nat.strongRecOn generalizing l with
 |_ n a=>
  by_cases h:l=[];·subst h;rw[jF];simp
  ·rw[ip h];have d:=li l;have b:=iF.2 h;have:=a (l.drop (qK l).2).length (by rw[de];omega) _ rfl;rw[de]at this;simp only[cN];omega
theorem xP l:(qK l).1<=2147483647:=by have a:=l_ l 0;rw[AO];by_cases h:Nf l=0;all_goals grind[OT]
def eQ:List (Int×Int):=[(10,10),(0x300,0x36F),(0x483,0x489),(0x591,0x5BD),(0x610,0x61A),(0x64B,0x65F),(0x1AB0,0x1AFF),(0x1DC0,0x1DFF),(0x200B,0x200F),(0x20D0,0x20FF),(0xFE00,0xFE0F),(0xFE20,0xFE2F),(0xE0100,0xE01EF)]
def fS:List (Int×Int):=[(0x1100,0x115F),(0x2E80,0x303E),(0x3041,0x33FF),(0x3400,0x4DBF),(0x4E00,0x9FFF),(0xA000,0xA4CF),(0xAC00,0xD7A3),(0xF900,0xFAFF),(0xFE30,0xFE6F),(0xFF00,0xFF60),(0xFFE0,0xFFE6),(0x1F300,0x1F64F),(0x1F900,0x1F9FF),(0x20000,0x3FFFD)]
def eO:List (Int×Int×Int):=[(0x300,0x36F,0),(0x483,0x489,0),(0x591,0x5BD,0),(0x610,0x61A,0),(0x64B,0x65F,0),(0x1100,0x115F,2),(0x1AB0,0x1AFF,0),(0x1DC0,0x1DFF,0),(0x200B,0x200F,0),(0x20D0,0x20FF,0),(0x2E80,0x303E,2),(0x3041,0x33FF,2),(0x3400,0x4DBF,2),(0x4E00,0x9FFF,2),(0xA000,0xA4CF,2),(0xAC00,0xD7A3,2),(0xF900,0xFAFF,2),(0xFE00,0xFE0F,0),(0xFE20,0xFE2F,0),(0xFE30,0xFE6F,2),(0xFF00,0xFF60,2),(0xFFE0,0xFFE6,2),(0x1F300,0x1F64F,2),(0x1F900,0x1F9FF,2),(0x20000,0x3FFFD,2),(0xE0100,0xE01EF,0)]
def FP(r:Int)(l:List (Int×Int)):Bool:=l.any λp=>decide (p.1<=r/\r<=p.2)
theorem ia r l:FP r l=true↔∃p∈l,p.1<=r/\r<=p.2:=by simp[FP]
def mM(r:Int):Int:=if FP r eQ=true then 0 else if FP r fS=true then 2 else 1
theorem Iy r:0<=mM r/\mM r<=2:=by grind[mM]
theorem IF:∀z∈eQ,∀q∈fS,z.2<q.1\/q.2<z.1:=by decide+kernel
theorem y_:∀s∈eO,(s.2.2=0/\(s.1,s.2.1)∈eQ)\/(s.2.2=2/\(s.1,s.2.1)∈fS):=by decide+kernel
theorem IE:∀z∈eQ,z=(10,10)\/(z.1,z.2,0)∈eO:=by decide+kernel
theorem IB:∀z∈fS,(z.1,z.2,2)∈eO:=by decide+kernel
theorem IA r s(i:s∈eO)(d:s.1<=r)(f:r<=s.2.1):mM r=s.2.2:=by
 unfold mM;rcases y_ s i with⟨e,c⟩|⟨e,c⟩;·grind[ia,eQ]
 ·rw[if_neg,if_pos ((ia r fS).2 ⟨_,c,d,f⟩),e];intro h;obtain⟨p,g,a,b⟩:=(ia r eQ).1 h;have:=IF p g _ c;omega
theorem Iz r(d:r≠10)(h:∀s∈eO,¬(s.1<=r/\r<=s.2.1)):mM r=1:=by
 unfold mM;rw[if_neg,if_neg];·intro k;obtain⟨p,c,a,b⟩:=(ia r fS).1 k;exact h _ (IB p c) ⟨a,b⟩
 ·intro k;obtain⟨p,c,a,b⟩:=(ia r eQ).1 k;rcases IE p c with e|e;all_goals grind
theorem Mj:mM 10=0:=by decide+kernel
def cA(i:Nat):Int×Int×Int:=eO.getD i (0,0,0)
theorem yY{i}(h:i<26):cA i∈eO:=by have a:i<eO.length:=h;grind[cA]
theorem yx{s}(h:s∈eO):∃i,i<26/\cA i=s:=by obtain⟨i,hi,e⟩:=lT.1 h;refine⟨i,hi,?_⟩;grind[cA]
theorem zW:∀i:Fin 26,∀j,i<j->(cA i).2.1<(cA j).1:=by decide+kernel
theorem DY:∀i:Fin 26,(cA i).1<=(cA i).2.1:=by decide+kernel
theorem rise{i j}(hi:i<j)(a:j<26):(cA i).2.1<(cA j).1:=zW ⟨i,dg⟩ ⟨j,a⟩ hi
theorem Uc{i}(hi:i<26):(cA i).1<=(cA i).2.1:=DY ⟨i,hi⟩
def sH(r:Int)(lo hi:Nat):Prop:=(∀i,i<lo->(cA i).2.1<r)/\∀i,hi<=i->i<26->r<(cA i).1
theorem half_start r:sH r 0 26:=⟨λi h=>dg,λi h k=>dg⟩
theorem FJ{r}{lo hi a}(h:sH r lo hi)(b:a<26)(c:(cA a).2.1<r):sH r (a+1) hi:=by
 refine⟨λi hi=>?_,h.2⟩;by_cases e:i=a;·grind
 ·have:=rise (i:=i) (j:=a) dg b;have:=Uc (i:=a) b;omega
theorem Df{r}{lo hi a}(h:sH r lo hi)(c:a<26)(d:r<(cA a).1):sH r lo a:=by
 refine⟨h.1,λi hi b=>?_⟩;by_cases e:i=a;·subst e;exact d
 ·have:=rise (i:=a) (j:=i) dg b;have:=Uc (i:=a) c;omega
theorem half_end{r}{lo hi}(h:sH r lo hi)(f:hi<=lo)(c:r≠10):mM r=1:=by
 refine Iz r c λs d=>?_;obtain⟨i,hi,rfl⟩:=yx d;rintro⟨a,b⟩;by_cases e:i<lo;·have:=h.1 i e;omega
 ·have:=h.2 i dg hi;omega
def iT(l:List (Int×Int)):List Int:=l.flatMap λp=>[p.1,p.2]
theorem mV l:(iT l).length=2*l.length:=by
 induction l with
 |nil=>rfl
 |cons p l a=>grind[iT]
theorem JS l k:(iT l)[2*k]?.getD 0=(l.getD k (0,0)).1/\(iT l)[2*k+1]?.getD 0=(l.getD k (0,0)).2:=by
 induction l generalizing k with
 |nil=>simp[iT]
 |cons p l a=>
  cases k with
  |zero=>simp[iT]
  |succ k=>have:=a k;have e:iT (p::l)=p.1::p.2::iT l:=rfl;rw[e,show 2*(k+1)=2*k+1+1 by omega];simpa using this
