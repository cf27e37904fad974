import Derived.Lib.RuneBytes
import Derived.Laws.RangeAny
import Derived.Test.YtehgehanbnkdiaaGreatDoorQ00
set_option linter.all false
set_option maxRecDepth 100000
set_option maxHeartbeats 16000000
namespace Go.Proofs.YtehgehanbnkdiaaGreatDoor
def bH(l:zzf)(k:Nat):Nat:=(l.getD k 0).toNat
theorem my l k:bH l k<256:=by unfold bH;exact UInt8.toNat_lt _
def cnt(l:zzf)(k:Nat):Bool:=decide (k<l.length)&&(bH l k/64==2)
def qU(l:zzf):Nat×Nat:=
 if bH l 0<0x80 then(bH l 0,1)
 else if bH l 0/32==6&&cnt l 1 then
  (if(bH l 0 %32)*64+bH l 1 %64>=0x80 then((bH l 0 %32)*64+bH l 1 %64,2)else(65533,1))
 else if bH l 0/16==14&&cnt l 1&&cnt l 2 then
  (if(bH l 0 %16)*4096+(bH l 1 %64)*64+bH l 2 %64>=0x800&&Utf8.valid ((bH l 0 %16)*4096+(bH l 1 %64)*64+bH l 2 %64:Nat)then((bH l 0 %16)*4096+(bH l 1 %64)*64+bH l 2 %64,3)else(65533,1))
 else if bH l 0/8==30&&cnt l 1&&cnt l 2&&cnt l 3 then
  (if(bH l 0 %8)*262144+(bH l 1 %64)*4096+(bH l 2 %64)*64+bH l 3 %64>=0x10000&&Utf8.valid ((bH l 0 %8)*262144+(bH l 1 %64)*4096+(bH l 2 %64)*64+bH l 3 %64:Nat)then((bH l 0 %8)*262144+(bH l 1 %64)*4096+(bH l 2 %64)*64+bH l 3 %64,4)else(65533,1))
 else(65533,1)
theorem Lo(s:BY)i k:(s.get! (i+k)).toNat=bH (s.data.toList.drop i) k:=by unfold bH;congr 1;rw[sP,CY,JR];show s.data[i+k]! =_;rw[getElem!_def];cases s.data[i+k]?<;>rfl
theorem Gf(s:BY)i k:(decide (i+k<s.size)&&(bH (s.data.toList.drop i) k/64==2))=cnt (s.data.toList.drop i) k:=by
 unfold cnt;have e:(s.data.toList.drop i).length=s.size-i:=by rw[dq,eK];rfl
 rw[e,decide_eq_decide.2 (show i+k<s.size↔k<s.size-i by omega)]
def yi s i:Utf8.decode s i=qU (s.data.toList.drop i):=by unfold Utf8.decode qU;simp only[Lo,Gf,Utf8.runeError]
def It(l:zzf)(k lo hi:Nat):Bool:=decide (k<l.length)&&decide (lo<=bH l k)&&decide (bH l k<=hi)
def mc(c:Nat):Nat:=if 0xF0<=c then 4 else if 0xE0<=c then 3 else 2
def jp(c:Nat):Nat:=if c=0xE0 then 0xA0 else if c=0xF0 then 0x90 else 0x80
def jo(c:Nat):Nat:=if c=0xED then 0x9F else if c=0xF4 then 0x8F else 0xBF
def N9(l:zzf):Nat:=
 if bH l 0<0x80 then 1
 else if bH l 0<0xC2\/0xF4<bH l 0 then 0
 else if It l 1 (jp (bH l 0)) (jo (bH l 0))=false then 0
 else if 2<mc (bH l 0)/\It l 2 0x80 0xBF=false then 0
 else if 3<mc (bH l 0)/\It l 3 0x80 0xBF=false then 0
 else mc (bH l 0)
theorem vU c:(c=0xE0/\jp c=0xA0)\/(c=0xF0/\jp c=0x90)\/(c≠0xE0/\c≠0xF0/\jp c=0x80):=by grind[jp]
theorem vk c:(c=0xED/\jo c=0x9F)\/(c=0xF4/\jo c=0x8F)\/(c≠0xED/\c≠0xF4/\jo c=0xBF):=by grind[jo]
theorem Pm c:(c<0xE0/\mc c=2)\/(0xE0<=c/\c<0xF0/\mc c=3)\/(0xF0<=c/\mc c=4):=by grind[mc]
def Jc{c}(h:c<0xE0):mc c=2:=by grind[Pm]
def Aj{c}(h:0xE0<=c)(a:c<0xF0):mc c=3:=by have:=Pm c;omega
def Ex{c}(h:0xF0<=c):mc c=4:=by have:=Pm c;omega
def Ew{c}(h:c<0xE0):jp c=0x80:=by grind[vU]
def Ev{c}(h:c<0xE0):jo c=0xBF:=by grind[vk]
def tS l k lo hi:It l k lo hi=true↔k<l.length/\lo<=bH l k/\bH l k<=hi:=by grind[It]
def fH l k:cnt l k=true↔k<l.length/\0x80<=bH l k/\bH l k<=0xBF:=by unfold cnt;simp;omega
theorem en(n:Nat):Utf8.valid (n:Int)=true↔n<0xD800\/(0xE000<=n/\n<=0x10FFFF):=by unfold Utf8.valid;simp;omega
def PI(l:zzf)(n:Nat):Nat:=
 if n=1 then bH l 0
 else if n=2 then(bH l 0 %32)*64+bH l 1 %64
 else if n=3 then(bH l 0 %16)*4096+(bH l 1 %64)*64+bH l 2 %64
 else(bH l 0 %8)*262144+(bH l 1 %64)*4096+(bH l 2 %64)*64+bH l 3 %64
theorem Bg l(h:bH l 0<0x80):qU l=(bH l 0,1):=by simp[qU,h]
theorem Bh l:qU l=if N9 l=0 then(65533,1)else(PI l (N9 l),N9 l):=by
 by_cases w:bH l 0<0x80;.grind[N9,Bg,PI]
 .have K:=my l 0;have E:=my l 1;have F:=my l 2;have G:=my l 3;have c1:=λ_:Unit=>fH l 1;have c2:=λ_:Unit=>fH l 2;have c3:=λ_:Unit=>fH l 3;unfold qU;rw[if_neg w];by_cases B:bH l 0<0xC2\/0xF4<bH l 0;.grind[N9,bH,cnt,en]
  .have lo:=λ_:Unit=>tS l 1 (jp (bH l 0)) (jo (bH l 0));have x:=λ_:Unit=>tS l 2 0x80 0xBF;have H:=λ_:Unit=>tS l 3 0x80 0xBF;have g:N9 l=if It l 1 (jp (bH l 0)) (jo (bH l 0))=false then 0 else if 2<mc (bH l 0)/\It l 2 0x80 0xBF=false then 0 else if 3<mc (bH l 0)/\It l 3 0x80 0xBF=false then 0 else mc (bH l 0):=by simp only[N9,if_neg w,if_neg B]
   rw[g];clear g;generalize It l 1 (jp (bH l 0)) (jo (bH l 0))=m at*;generalize It l 2 0x80 0xBF=v at*;generalize It l 3 0x80 0xBF=y at*;generalize cnt l 1=d at*;generalize cnt l 2=c at*;generalize cnt l 3=k at*;by_cases u:bH l 0<0xE0
   .have e:=Jc u;have A:=Ew u;have z:=Ev u;have i:=lo ();rw[A,z]at i;rw[e];have j:d=m:=by rw[sM,c1 (),i]
    grind[bH,PI]
   .by_cases J:bH l 0<0xF0
    .have e:=Aj dg J;rw[e];have t:¬(bH l 0/32==6&&d)=true:=by simp;omega
     rw[if_neg t];have j:c=v:=by rw[sM,c2 (),x ()]
     subst j;have r:(bH l 0/8==30)=false:=by simp;omega
     have q:(bH l 0/16==14)=true:=by simp;omega
     simp only[r,q,Bool.true_and,Bool.false_and];cases f:m
     .subst f;simp only[if_true,if_false,qD];by_cases a:(d&&c)=true
      .rw[if_pos a];rw[if_neg];simp only[xN,decide_eq_true_eq,en];simp only[xN]at a;have n:=(c1 ()).1 a.1;have s:=vU (bH l 0);have b:=vk (bH l 0);have I:¬(1<l.length/\jp (bH l 0)<=bH l 1/\bH l 1<=jo (bH l 0)):=λh=>by simp_all
       omega
      grind
     .subst f;have n:=(lo ()).1 rfl;have s:=vU (bH l 0);have b:=vk (bH l 0);have o:=(c1 ()).2 dg;rw[o];cases C:c;all_goals grind[PI,en]
    .have e:mc (bH l 0)=4:=Ex dg;rw[e];have t:¬(bH l 0/32==6&&d)=true:=by simp;omega
     rw[if_neg t];have j:c=v:=by rw[sM,c2 (),x ()]
     subst j;have p:k=y:=by rw[sM,c3 (),H ()]
     subst p;have r:(bH l 0/8==30)=true:=by simp;omega
     have q:(bH l 0/16==14)=false:=by simp;omega
     simp only[r,q,Bool.true_and,Bool.false_and,qD,if_false];cases f:m
     .subst f;simp only[if_true];by_cases a:(d&&c&&k)=true
      .rw[if_pos a];rw[if_neg];simp only[xN,decide_eq_true_eq,en];simp only[xN]at a;have n:=(c1 ()).1 a.1.1;have s:=vU (bH l 0);have b:=vk (bH l 0);have I:¬(1<l.length/\jp (bH l 0)<=bH l 1/\bH l 1<=jo (bH l 0)):=λh=>by simp_all
       omega
      grind
     .subst f;have n:=(lo ()).1 rfl;have s:=vU (bH l 0);have b:=vk (bH l 0);have o:=(c1 ()).2 dg;rw[o];cases C:c;.simp
      .cases D:k;all_goals grind[PI,en]
theorem lG l:1<=(qU l).2:=by grind[Bh]
def eG(r:Int):Int:=if(r<32/\r≠10)\/(127<=r/\r<=159)then 65533 else r
def mU:Nat->List UInt8->List Int
 |0,_=>[]
 |_+1,[]=>[]
 |f+1,b::t=>eG (qU (b::t)).1::mU f ((b::t).drop (qU (b::t)).2)
theorem kz:∀  f g   l,l.length<=f->l.length<=g->mU f l=mU g l
 |0,0,_,_,_=>rfl
 |0,g+1,l,h,_=>by have:l=[]:=iR.1 dg;subst this;rfl
 |f+1,0,l,_,h=>by have:l=[]:=iR.1 dg;subst this;rfl
 |f+1,g+1,[],_,_=>rfl
 |f+1,g+1,b::t,a,c=>by have d:=lG (b::t);simp only[cV]at a c;simp only[mU];rw[kz f g _ rn rn]
def az(l:zzf):List Int:=mU l.length l
theorem jV:az []=[]:=rfl
def iG{l}(h:l≠[]):az l=eG (qU l).1::az (l.drop (qU l).2):=by
 cases l with
 |nil=>grind
 |cons b t=>grind[lG,mU,az,kz]
theorem bC l:(az l).length<=l.length:=by
 generalize c:l.length=n;induction n using Nat.strongRecOn generalizing l with
 |_ n a=>
  by_cases h:l=[];.subst h;rw[jV];simp
  .rw[iG h];have d:=lG l;have b:=iQ.2 h;have:=a (l.drop (qU l).2).length (by rw[dq];omega) _ rfl;rw[dq]at this;simp only[cV];omega
def yh l:(qU l).1<=2147483647:=by have a:=my l 0;rw[Bh];by_cases h:N9 l=0;all_goals grind[PI]
def fc:List (Int×Int):=[(10,10),(0x300,0x36F),(0x483,0x489),(0x591,0x5BD),(0x610,0x61A),(0x64B,0x65F),(0x1AB0,0x1AFF),(0x1DC0,0x1DFF),(0x200B,0x200F),(0x20D0,0x20FF),(0xFE00,0xFE0F),(0xFE20,0xFE2F),(0xE0100,0xE01EF)]
def gh:List (Int×Int):=[(0x1100,0x115F),(0x2E80,0x303E),(0x3041,0x33FF),(0x3400,0x4DBF),(0x4E00,0x9FFF),(0xA000,0xA4CF),(0xAC00,0xD7A3),(0xF900,0xFAFF),(0xFE30,0xFE6F),(0xFF00,0xFF60),(0xFFE0,0xFFE6),(0x1F300,0x1F64F),(0x1F900,0x1F9FF),(0x20000,0x3FFFD)]
def eZ:List (Int×Int×Int):=[(0x300,0x36F,0),(0x483,0x489,0),(0x591,0x5BD,0),(0x610,0x61A,0),(0x64B,0x65F,0),(0x1100,0x115F,2),(0x1AB0,0x1AFF,0),(0x1DC0,0x1DFF,0),(0x200B,0x200F,0),(0x20D0,0x20FF,0),(0x2E80,0x303E,2),(0x3041,0x33FF,2),(0x3400,0x4DBF,2),(0x4E00,0x9FFF,2),(0xA000,0xA4CF,2),(0xAC00,0xD7A3,2),(0xF900,0xFAFF,2),(0xFE00,0xFE0F,0),(0xFE20,0xFE2F,0),(0xFE30,0xFE6F,2),(0xFF00,0xFF60,2),(0xFFE0,0xFFE6,2),(0x1F300,0x1F64F,2),(0x1F900,0x1F9FF,2),(0x20000,0x3FFFD,2),(0xE0100,0xE01EF,0)]
def GP(r:Int)(l:List (Int×Int)):Bool:=l.any λp=>decide (p.1<=r/\r<=p.2)
theorem iz r l:GP r l=true↔∃p∈l,p.1<=r/\r<=p.2:=by simp[GP]
def mY(r:Int):Int:=if GP r fc=true then 0 else if GP r gh=true then 2 else 1
def Ju r:0<=mY r/\mY r<=2:=by grind[mY]
def JC:∀z∈fc,∀q∈gh,z.2<q.1\/q.2<z.1:=by decide+kernel
def Ap:∀s∈eZ,(s.2.2=0/\(s.1,s.2.1)∈fc)\/(s.2.2=2/\(s.1,s.2.1)∈gh):=by decide+kernel
def JB:∀z∈fc,z=(10,10)\/(z.1,z.2,0)∈eZ:=by decide+kernel
def Jy:∀z∈gh,(z.1,z.2,2)∈eZ:=by decide+kernel
def Jw r s(i:s∈eZ)(d:s.1<=r)(f:r<=s.2.1):mY r=s.2.2:=by
 unfold mY;rcases Ap s i with⟨e,c⟩|⟨e,c⟩;.grind[iz,fc]
 .rw[if_neg,if_pos ((iz r gh).2 ⟨_,c,d,f⟩),e];intro h;obtain⟨p,g,a,b⟩:=(iz r fc).1 h;have:=JC p g _ c;omega
def Jv r(d:r≠10)(h:∀s∈eZ,¬(s.1<=r/\r<=s.2.1)):mY r=1:=by
 unfold mY;rw[if_neg,if_neg];.intro k;obtain⟨p,c,a,b⟩:=(iz r gh).1 k;exact h _ (Jy p c) ⟨a,b⟩
 .intro k;obtain⟨p,c,a,b⟩:=(iz r fc).1 k;rcases JB p c with e|e;all_goals grind
def Nj:mY 10=0:=by decide+kernel
def cD(i:Nat):Int×Int×Int:=eZ.getD i (0,0,0)
def An{i}(h:i<26):cD i∈eZ:=by have a:i<eZ.length:=h;grind[cD]
def yQ{s}(h:s∈eZ):∃i,i<26/\cD i=s:=by obtain⟨i,hi,e⟩:=mh.1 h;refine⟨i,hi,?_⟩;grind[cD]
def Aq:∀i:Fin 26,∀j,i<j->(cD i).2.1<(cD j).1:=by decide+kernel
def EI:∀i:Fin 26,(cD i).1<=(cD i).2.1:=by decide+kernel
def rise{i j}(hi:i<j)(a:j<26):(cD i).2.1<(cD j).1:=Aq ⟨i,dg⟩ ⟨j,a⟩ hi
def Vb{i}(hi:i<26):(cD i).1<=(cD i).2.1:=EI ⟨i,hi⟩
def sV(r:Int)(lo hi:Nat):Prop:=(∀i,i<lo->(cD i).2.1<r)/\∀i,hi<=i->i<26->r<(cD i).1
def half_start r:sV r 0 26:=⟨λi h=>dg,λi h k=>dg⟩
def GK{r}{lo hi a}(h:sV r lo hi)(b:a<26)(c:(cD a).2.1<r):sV r (a+1) hi:=by
 refine⟨λi hi=>?_,h.2⟩;by_cases e:i=a;.grind
 .have:=rise (i:=i) (j:=a) dg b;have:=Vb (i:=a) b;omega
def DV{r}{lo hi a}(h:sV r lo hi)(c:a<26)(d:r<(cD a).1):sV r lo a:=by
 refine⟨h.1,λi hi b=>?_⟩;by_cases e:i=a;.subst e;exact d
 .have:=rise (i:=a) (j:=i) dg b;have:=Vb (i:=a) c;omega
def half_end{r}{lo hi}(h:sV r lo hi)(f:hi<=lo)(c:r≠10):mY r=1:=by
 refine Jv r c λs d=>?_;obtain⟨i,hi,rfl⟩:=yQ d;rintro⟨a,b⟩;by_cases e:i<lo;.have:=h.1 i e;omega
 .have:=h.2 i dg hi;omega
def je(l:List (Int×Int)):List Int:=l.flatMap λp=>[p.1,p.2]
theorem ng l:(je l).length=2*l.length:=by
 induction l with
 |nil=>rfl
 |cons p l a=>grind[je]
def Lk l k:(je l)[2*k]?.getD 0=(l.getD k (0,0)).1/\(je l)[2*k+1]?.getD 0=(l.getD k (0,0)).2:=by
 induction l generalizing k with
 |nil=>simp[je]
 |cons p l a=>
  cases k with
  |zero=>simp[je]
  |succ k=>have:=a k;have e:je (p::l)=p.1::p.2::je l:=rfl;rw[e,show 2*(k+1)=2*k+1+1 by omega];simpa using this
