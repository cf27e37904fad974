import Derived.Lib.RuneBytes
import Derived.Laws.RangeAny
import Derived.Test.YtaanagpadfcmlaaGreatDoorQ00
set_option linter.all false
set_option maxRecDepth 100000
set_option maxHeartbeats 16000000
namespace Go.Proofs.YtaanagpadfcmlaaGreatDoor
def aY(l:List UInt8)(k:Nat):Nat:=(l.getD k 0).toNat
theorem jX l k:aY l k<256:=by unfold aY;exact UInt8.toNat_lt _
def cnt(l:List UInt8)(k:Nat):Bool:=decide (k<l.length)&&(aY l k/64==2)
def qE(l:List UInt8):Nat×Nat:=
 if aY l 0<0x80 then(aY l 0,1)
 else if aY l 0/32==6&&cnt l 1 then
  (if(aY l 0 %32)*64+aY l 1 %64>=0x80 then((aY l 0 %32)*64+aY l 1 %64,2)else(65533,1))
 else if aY l 0/16==14&&cnt l 1&&cnt l 2 then
  (if(aY l 0 %16)*4096+(aY l 1 %64)*64+aY l 2 %64>=0x800&&Utf8.valid ((aY l 0 %16)*4096+(aY l 1 %64)*64+aY l 2 %64:Nat)then((aY l 0 %16)*4096+(aY l 1 %64)*64+aY l 2 %64,3)else(65533,1))
 else if aY l 0/8==30&&cnt l 1&&cnt l 2&&cnt l 3 then
  (if(aY l 0 %8)*262144+(aY l 1 %64)*4096+(aY l 2 %64)*64+aY l 3 %64>=0x10000&&Utf8.valid ((aY l 0 %8)*262144+(aY l 1 %64)*4096+(aY l 2 %64)*64+aY l 3 %64:Nat)then((aY l 0 %8)*262144+(aY l 1 %64)*4096+(aY l 2 %64)*64+aY l 3 %64,4)else(65533,1))
 else(65533,1)
theorem Dk(s:ByteArray)i k:(s.get! (i+k)).toNat=aY (s.data.toList.drop i) k:=by unfold aY;congr 1;rw[Ee,Ao,Ks];show s.data[i+k]! =_;rw[getElem!_def];cases s.data[i+k]?<;>rfl
theorem Ho(s:ByteArray)i k:(decide (i+k<s.size)&&(aY (s.data.toList.drop i) k/64==2))=cnt (s.data.toList.drop i) k:=by
 unfold cnt;have e:(s.data.toList.drop i).length=s.size-i:=by rw[cL,dZ];rfl
 rw[e,decide_eq_decide.2 (show i+k<s.size↔k<s.size-i by omega)]
theorem AY s i:Utf8.decode s i=qE (s.data.toList.drop i):=by unfold Utf8.decode qE;simp only[Dk,Ho,Utf8.runeError]
def mZ(l:List UInt8)(k lo hi:Nat):Bool:=decide (k<l.length)&&decide (lo<=aY l k)&&decide (aY l k<=hi)
def ib(c:Nat):Nat:=if 0xF0<=c then 4 else if 0xE0<=c then 3 else 2
def fO(c:Nat):Nat:=if c=0xE0 then 0xA0 else if c=0xF0 then 0x90 else 0x80
def fN(c:Nat):Nat:=if c=0xED then 0x9F else if c=0xF4 then 0x8F else 0xBF
def nP(l:List UInt8):Nat:=
 if aY l 0<0x80 then 1
 else if aY l 0<0xC2\/0xF4<aY l 0 then 0
 else if mZ l 1 (fO (aY l 0)) (fN (aY l 0))=false then 0
 else if 2<ib (aY l 0)/\mZ l 2 0x80 0xBF=false then 0
 else if 3<ib (aY l 0)/\mZ l 3 0x80 0xBF=false then 0
 else ib (aY l 0)
theorem tX c:(c=0xE0/\fO c=0xA0)\/(c=0xF0/\fO c=0x90)\/(c≠0xE0/\c≠0xF0/\fO c=0x80):=by grind[fO]
theorem tN c:(c=0xED/\fN c=0x9F)\/(c=0xF4/\fN c=0x8F)\/(c≠0xED/\c≠0xF4/\fN c=0xBF):=by grind[fN]
theorem BG c:(c<0xE0/\ib c=2)\/(0xE0<=c/\c<0xF0/\ib c=3)\/(0xF0<=c/\ib c=4):=by grind[ib]
theorem JJ{c}(h:c<0xE0):ib c=2:=by grind[BG]
theorem Cm{c}(h:0xE0<=c)(h1:c<0xF0):ib c=3:=by have:=BG c;omega
theorem F7{c}(h:0xF0<=c):ib c=4:=by have:=BG c;omega
theorem F6{c}(h:c<0xE0):fO c=0x80:=by grind[tX]
theorem F5{c}(h:c<0xE0):fN c=0xBF:=by grind[tN]
theorem k7 l k lo hi:mZ l k lo hi=true↔k<l.length/\lo<=aY l k/\aY l k<=hi:=by grind[mZ]
theorem oi l k lo hi:mZ l k lo hi=false↔¬(k<l.length/\lo<=aY l k/\aY l k<=hi):=by grind[k7,mZ]
theorem gJ l k:cnt l k=true↔k<l.length/\0x80<=aY l k/\aY l k<=0xBF:=by unfold cnt;simp;omega
theorem fw(n:Nat):Utf8.valid (n:Int)=true↔n<0xD800\/(0xE000<=n/\n<=0x10FFFF):=by unfold Utf8.valid;simp;omega
def val(l:List UInt8)(n:Nat):Nat:=
 if n=1 then aY l 0
 else if n=2 then(aY l 0 %32)*64+aY l 1 %64
 else if n=3 then(aY l 0 %16)*4096+(aY l 1 %64)*64+aY l 2 %64
 else(aY l 0 %8)*262144+(aY l 1 %64)*4096+(aY l 2 %64)*64+aY l 3 %64
theorem Di l(h:aY l 0<0x80):qE l=(aY l 0,1):=by simp[qE,h]
theorem pS l:qE l=if nP l=0 then(65533,1)else(val l (nP l),nP l):=by
 by_cases w:aY l 0<0x80;·grind[nP,Di,val]
 ·have K:=jX l 0;have E:=jX l 1;have F:=jX l 2;have G:=jX l 3;have c1:=λ_:Unit=>gJ l 1;have c2:=λ_:Unit=>gJ l 2;have c3:=λ_:Unit=>gJ l 3;unfold qE;rw[if_neg w];by_cases B:aY l 0<0xC2\/0xF4<aY l 0;·grind[nP,aY,cnt,fw]
  ·have lo:=λ_:Unit=>k7 l 1 (fO (aY l 0)) (fN (aY l 0));have x:=λ_:Unit=>k7 l 2 0x80 0xBF;have H:=λ_:Unit=>k7 l 3 0x80 0xBF;have g:nP l=if mZ l 1 (fO (aY l 0)) (fN (aY l 0))=false then 0 else if 2<ib (aY l 0)/\mZ l 2 0x80 0xBF=false then 0 else if 3<ib (aY l 0)/\mZ l 3 0x80 0xBF=false then 0 else ib (aY l 0):=by simp only[nP,if_neg w,if_neg B]
   rw[g];clear g;generalize mZ l 1 (fO (aY l 0)) (fN (aY l 0))=m at*;generalize mZ l 2 0x80 0xBF=v at*;generalize mZ l 3 0x80 0xBF=y at*;generalize cnt l 1=d at*;generalize cnt l 2=c at*;generalize cnt l 3=k at*;by_cases u:aY l 0<0xE0
   ·have e:=JJ u;have A:=F6 u;have z:=F5 u;have i:=lo ();rw[A,z]at i;rw[e];have j:d=m:=by rw[Ap,c1 (),i]
    grind[aY,val]
   ·by_cases J:aY l 0<0xF0
    ·have e:=Cm dg J;rw[e];have t:¬(aY l 0/32==6&&d)=true:=by simp;omega
     rw[if_neg t];have j:c=v:=by rw[Ap,c2 (),x ()]
     subst j;have r:(aY l 0/8==30)=false:=by simp;omega
     have q:(aY l 0/16==14)=true:=by simp;omega
     simp only[r,q,Bool.true_and,Bool.false_and];cases f:m
     ·subst f;simp only[if_true,if_false,Aq];by_cases a:(d&&c)=true
      ·rw[if_pos a];rw[if_neg];simp only[nG,decide_eq_true_eq,fw];simp only[nG]at a;have n:=(c1 ()).1 a.1;have s:=tX (aY l 0);have b:=tN (aY l 0);have I:¬(1<l.length/\fO (aY l 0)<=aY l 1/\aY l 1<=fN (aY l 0)):=λh=>by simp_all
       omega
      grind
     ·subst f;have n:=(lo ()).1 rfl;have s:=tX (aY l 0);have b:=tN (aY l 0);have o:=(c1 ()).2 dg;rw[o];cases C:c;all_goals grind[val,fw]
    ·have e:ib (aY l 0)=4:=F7 dg;rw[e];have t:¬(aY l 0/32==6&&d)=true:=by simp;omega
     rw[if_neg t];have j:c=v:=by rw[Ap,c2 (),x ()]
     subst j;have p:k=y:=by rw[Ap,c3 (),H ()]
     subst p;have r:(aY l 0/8==30)=true:=by simp;omega
     have q:(aY l 0/16==14)=false:=by simp;omega
     simp only[r,q,Bool.true_and,Bool.false_and,Aq,if_false];cases f:m
     ·subst f;simp only[if_true];by_cases a:(d&&c&&k)=true
      ·rw[if_pos a];rw[if_neg];simp only[nG,decide_eq_true_eq,fw];simp only[nG]at a;have n:=(c1 ()).1 a.1.1;have s:=tX (aY l 0);have b:=tN (aY l 0);have I:¬(1<l.length/\fO (aY l 0)<=aY l 1/\aY l 1<=fN (aY l 0)):=λh=>by simp_all
       omega
      grind
     ·subst f;have n:=(lo ()).1 rfl;have s:=tX (aY l 0);have b:=tN (aY l 0);have o:=(c1 ()).2 dg;rw[o];cases C:c;·simp
      ·cases D:k;all_goals grind[val,fw]
theorem OY l:nP l<=4:=by have:=BG (aY l 0);grind[nP,aY,mZ,fO,fN]
theorem mR l:1<=(qE l).2:=by grind[pS]
def dV(r:Int):Int:=if(r<32/\r≠10)\/(127<=r/\r<=159)then 65533 else r
def oB:Nat->List UInt8->List Int
 |0,_=>[]
 |_+1,[]=>[]
 |f+1,b::t=>dV (qE (b::t)).1::oB f ((b::t).drop (qE (b::t)).2)
theorem lM:∀  f g   l,l.length<=f->l.length<=g->oB f l=oB g l
 |0,0,_,_,_=>rfl
 |0,g+1,l,h,_=>by have:l=[]:=jg.1 dg;subst this;rfl
 |f+1,0,l,_,h=>by have:l=[]:=jg.1 dg;subst this;rfl
 |f+1,g+1,[],_,_=>rfl
 |f+1,g+1,b::t,a,c=>by have hp:=mR (b::t);simp only[dP]at a c;simp only[oB];rw[lM f g _ rd rd]
def ak(l:List UInt8):List Int:=oB l.length l
theorem jb:ak []=[]:=rfl
theorem fW{l}(h:l≠[]):ak l=dV (qE l).1::ak (l.drop (qE l).2):=by
 cases l with
 |nil=>grind
 |cons b t=>grind[mR,oB,ak,lM]
theorem aX l:(ak l).length<=l.length:=by
 generalize c:l.length=n;induction n using Nat.strongRecOn generalizing l with
 |_ n a=>
  by_cases h:l=[];·subst h;rw[jb];simp
  ·rw[fW h];have hp:=mR l;have b:=jI.2 h;have:=a (l.drop (qE l).2).length (by rw[cL];omega) _ rfl;rw[cL]at this;simp only[dP];omega
theorem AW l:(qE l).1<=2147483647:=by have a:=jX l 0;rw[pS];by_cases h:nP l=0;all_goals grind[val]
def fZ:List (Int×Int):=[(10,10),(0x300,0x36F),(0x483,0x489),(0x591,0x5BD),(0x610,0x61A),(0x64B,0x65F),(0x1AB0,0x1AFF),(0x1DC0,0x1DFF),(0x200B,0x200F),(0x20D0,0x20FF),(0xFE00,0xFE0F),(0xFE20,0xFE2F),(0xE0100,0xE01EF)]
def ij:List (Int×Int):=[(0x1100,0x115F),(0x2E80,0x303E),(0x3041,0x33FF),(0x3400,0x4DBF),(0x4E00,0x9FFF),(0xA000,0xA4CF),(0xAC00,0xD7A3),(0xF900,0xFAFF),(0xFE30,0xFE6F),(0xFF00,0xFF60),(0xFFE0,0xFFE6),(0x1F300,0x1F64F),(0x1F900,0x1F9FF),(0x20000,0x3FFFD)]
def fX:List (Int×Int×Int):=[(0x300,0x36F,0),(0x483,0x489,0),(0x591,0x5BD,0),(0x610,0x61A,0),(0x64B,0x65F,0),(0x1100,0x115F,2),(0x1AB0,0x1AFF,0),(0x1DC0,0x1DFF,0),(0x200B,0x200F,0),(0x20D0,0x20FF,0),(0x2E80,0x303E,2),(0x3041,0x33FF,2),(0x3400,0x4DBF,2),(0x4E00,0x9FFF,2),(0xA000,0xA4CF,2),(0xAC00,0xD7A3,2),(0xF900,0xFAFF,2),(0xFE00,0xFE0F,0),(0xFE20,0xFE2F,0),(0xFE30,0xFE6F,2),(0xFF00,0xFF60,2),(0xFFE0,0xFFE6,2),(0x1F300,0x1F64F,2),(0x1F900,0x1F9FF,2),(0x20000,0x3FFFD,2),(0xE0100,0xE01EF,0)]
def It(r:Int)(l:List (Int×Int)):Bool:=l.any λp=>decide (p.1<=r/\r<=p.2)
theorem jm r l:It r l=true↔∃p∈l,p.1<=r/\r<=p.2:=by simp[It]
def jF(r:Int):Int:=if It r fZ=true then 0 else if It r ij=true then 2 else 1
theorem O6 r:0<=jF r/\jF r<=2:=by grind[jF]
theorem Ka:∀z∈fZ,∀q∈ij,z.2<q.1\/q.2<z.1:=by decide+kernel
theorem Cs:∀s∈fX,(s.2.2=0/\(s.1,s.2.1)∈fZ)\/(s.2.2=2/\(s.1,s.2.1)∈ij):=by decide+kernel
theorem J':∀z∈fZ,z=(10,10)\/(z.1,z.2,0)∈fX:=by decide+kernel
theorem J8:∀z∈ij,(z.1,z.2,2)∈fX:=by decide+kernel
theorem J7 r s(f:s∈fX)(d:s.1<=r)(h1:r<=s.2.1):jF r=s.2.2:=by
 unfold jF;rcases Cs s f with⟨e,c⟩|⟨e,c⟩;·grind[jm,fZ]
 ·rw[if_neg,if_pos ((jm r ij).2 ⟨_,c,d,h1⟩),e];intro h;obtain⟨p,hp,a,b⟩:=(jm r fZ).1 h;have:=Ka p hp _ c;omega
theorem J6 r(c:r≠10)(h:∀s∈fX,¬(s.1<=r/\r<=s.2.1)):jF r=1:=by
 unfold jF;rw[if_neg,if_neg];·intro k;obtain⟨p,hp,a,b⟩:=(jm r ij).1 k;exact h _ (J8 p hp) ⟨a,b⟩
 ·intro k;obtain⟨p,hp,a,b⟩:=(jm r fZ).1 k;rcases J' p hp with e|e;all_goals grind
theorem MV:jF 10=0:=by decide+kernel
def cQ(i:Nat):Int×Int×Int:=fX.getD i (0,0,0)
theorem Cq{i}(h:i<26):cQ i∈fX:=by have a:i<fX.length:=h;grind[cQ]
theorem BE{s}(h:s∈fX):∃i,i<26/\cQ i=s:=by obtain⟨i,hi,e⟩:=o_.1 h;refine⟨i,hi,?_⟩;grind[cQ]
theorem Ct:∀i:Fin 26,∀j,i<j->(cQ i).2.1<(cQ j).1:=by decide+kernel
theorem Gc:∀i:Fin 26,(cQ i).1<=(cQ i).2.1:=by decide+kernel
theorem rise{i j}(hi:i<j)(a:j<26):(cQ i).2.1<(cQ j).1:=Ct ⟨i,dg⟩ ⟨j,a⟩ hi
theorem Ut{i}(hi:i<26):(cQ i).1<=(cQ i).2.1:=Gc ⟨i,hi⟩
def uF(r:Int)(lo hi:Nat):Prop:=(∀i,i<lo->(cQ i).2.1<r)/\∀i,hi<=i->i<26->r<(cQ i).1
theorem half_start r:uF r 0 26:=⟨λi h=>dg,λi h k=>dg⟩
theorem Il{r}{lo hi a}(h:uF r lo hi)(b:a<26)(c:(cQ a).2.1<r):uF r (a+1) hi:=by
 refine⟨λi hi=>?_,h.2⟩;by_cases e:i=a;·grind
 ·have:=rise (i:=i) (j:=a) dg b;have:=Ut (i:=a) b;omega
theorem Fe{r}{lo hi a}(h:uF r lo hi)(c:a<26)(d:r<(cQ a).1):uF r lo a:=by
 refine⟨h.1,λi hi b=>?_⟩;by_cases e:i=a;·subst e;exact d
 ·have:=rise (i:=a) (j:=i) dg b;have:=Ut (i:=a) c;omega
theorem half_end{r}{lo hi}(h:uF r lo hi)(f:hi<=lo)(c:r≠10):jF r=1:=by
 refine J6 r c λs d=>?_;obtain⟨i,hi,rfl⟩:=BE d;rintro⟨a,b⟩;by_cases e:i<lo;·have:=h.1 i e;omega
 ·have:=h.2 i dg hi;omega
def ka(l:List (Int×Int)):List Int:=l.flatMap λp=>[p.1,p.2]
theorem oN l:(ka l).length=2*l.length:=by
 induction l with
 |nil=>rfl
 |cons p l a=>grind[ka]
theorem Lt l k:(ka l)[2*k]?.getD 0=(l.getD k (0,0)).1/\(ka l)[2*k+1]?.getD 0=(l.getD k (0,0)).2:=by
 induction l generalizing k with
 |nil=>simp[ka]
 |cons p l a=>
  cases k with
  |zero=>simp[ka]
  |succ k=>have:=a k;have e:ka (p::l)=p.1::p.2::ka l:=rfl;rw[e,show 2*(k+1)=2*k+1+1 by omega];simpa using this
