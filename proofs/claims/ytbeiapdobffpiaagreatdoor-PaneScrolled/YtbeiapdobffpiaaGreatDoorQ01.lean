import Derived.Lib.RuneBytes
import Derived.Laws.RangeAny
import Derived.Test.YtbeiapdobffpiaaGreatDoorQ00
set_option linter.all false
set_option maxRecDepth 100000
set_option maxHeartbeats 16000000
namespace Go.Proofs.YtbeiapdobffpiaaGreatDoor
def bF(l:List UInt8)(k:Nat):Nat:=(l.getD k 0).toNat
theorem me  l   k  :bF l k<256:=by unfold bF;exact UInt8.toNat_lt _
def cnt(l:List UInt8)(k:Nat):Bool:=decide (k<l.length)&&(bF l k/64==2)
def Br(l:List UInt8):Nat×Nat:=
 if bF l 0<0x80 then(bF l 0,1)
 else if bF l 0/32==6&&cnt l 1 then
  (if(bF l 0 %32)*64+bF l 1 %64>=0x80 then((bF l 0 %32)*64+bF l 1 %64,2)else(65533,1))
 else if bF l 0/16==14&&cnt l 1&&cnt l 2 then
  (if(bF l 0 %16)*4096+(bF l 1 %64)*64+bF l 2 %64>=0x800&&Utf8.valid ((bF l 0 %16)*4096+(bF l 1 %64)*64+bF l 2 %64:Nat)then((bF l 0 %16)*4096+(bF l 1 %64)*64+bF l 2 %64,3)else(65533,1))
 else if bF l 0/8==30&&cnt l 1&&cnt l 2&&cnt l 3 then
  (if(bF l 0 %8)*262144+(bF l 1 %64)*4096+(bF l 2 %64)*64+bF l 3 %64>=0x10000&&Utf8.valid ((bF l 0 %8)*262144+(bF l 1 %64)*4096+(bF l 2 %64)*64+bF l 3 %64:Nat)then((bF l 0 %8)*262144+(bF l 1 %64)*4096+(bF l 2 %64)*64+bF l 3 %64,4)else(65533,1))
 else(65533,1)
theorem Eo(s:ByteArray)  i k  :(s.get! (i+k)).toNat=bF (s.data.toList.drop i) k:=by unfold bF;congr 1;rw[E_,Bb,Mb];show s.data[i+k]! =_;rw[getElem!_def];cases s.data[i+k]?<;>rfl
theorem JB(s:ByteArray)  i k  :(decide (i+k<s.size)&&(bF (s.data.toList.drop i) k/64==2))=cnt (s.data.toList.drop i) k:=by
 unfold cnt;have e:(s.data.toList.drop i).length=s.size-i:=by rw[cW,j9];rfl
 rw[e,decide_eq_decide.2 (show i+k<s.size↔k<s.size-i by omega)]
theorem B_  s   i  :Utf8.decode s i=Br (s.data.toList.drop i):=by unfold Utf8.decode Br;simp only[Eo,JB,Utf8.runeError]
def nH(l:List UInt8)(k lo hi:Nat):Bool:=decide (k<l.length)&&decide (lo<=bF l k)&&decide (bF l k<=hi)
def iM(c:Nat):Nat:=if 0xF0<=c then 4 else if 0xE0<=c then 3 else 2
def gq(c:Nat):Nat:=if c=0xE0 then 0xA0 else if c=0xF0 then 0x90 else 0x80
def gp(c:Nat):Nat:=if c=0xED then 0x9F else if c=0xF4 then 0x8F else 0xBF
def oG(l:List UInt8):Nat:=
 if bF l 0<0x80 then 1
 else if bF l 0<0xC2\/0xF4<bF l 0 then 0
 else if nH l 1 (gq (bF l 0)) (gp (bF l 0))=false then 0
 else if 2<iM (bF l 0)/\nH l 2 0x80 0xBF=false then 0
 else if 3<iM (bF l 0)/\nH l 3 0x80 0xBF=false then 0
 else iM (bF l 0)
theorem uU  c  :(c=0xE0/\gq c=0xA0)\/(c=0xF0/\gq c=0x90)\/(c≠0xE0/\c≠0xF0/\gq c=0x80):=by grind[gq]
theorem uI  c  :(c=0xED/\gp c=0x9F)\/(c=0xF4/\gp c=0x8F)\/(c≠0xED/\c≠0xF4/\gp c=0xBF):=by grind[gp]
theorem Df  c  :(c<0xE0/\iM c=2)\/(0xE0<=c/\c<0xF0/\iM c=3)\/(0xF0<=c/\iM c=4):=by grind[iM]
theorem LD{c}(h:c<0xE0):iM c=2:=by grind[Df]
theorem DF{c}(h:0xE0<=c)(h1:c<0xF0):iM c=3:=by have:=Df c;omega
theorem Hj{c}(h:0xF0<=c):iM c=4:=by have:=Df c;omega
theorem Hi{c}(h:c<0xE0):gq c=0x80:=by grind[uU]
theorem Hh{c}(h:c<0xE0):gp c=0xBF:=by grind[uI]
theorem lD  l   k lo hi  :nH l k lo hi=true↔k<l.length/\lo<=bF l k/\bF l k<=hi:=by grind[nH]
theorem pf  l   k lo hi  :nH l k lo hi=false↔¬(k<l.length/\lo<=bF l k/\bF l k<=hi):=by grind[lD,nH]
theorem wu  l   k  :cnt l k=true↔k<l.length/\0x80<=bF l k/\bF l k<=0xBF:=by unfold cnt;simp;omega
theorem jK(n:Nat):Utf8.valid (n:Int)=true↔n<0xD800\/(0xE000<=n/\n<=0x10FFFF):=by unfold Utf8.valid;simp;omega
def val(l:List UInt8)(n:Nat):Nat:=
 if n=1 then bF l 0
 else if n=2 then(bF l 0 %32)*64+bF l 1 %64
 else if n=3 then(bF l 0 %16)*4096+(bF l 1 %64)*64+bF l 2 %64
 else(bF l 0 %8)*262144+(bF l 1 %64)*4096+(bF l 2 %64)*64+bF l 3 %64
theorem N6  l  (h:bF l 0<0x80):Br l=(bF l 0,1):=by simp[Br,h]
theorem qU  l  :Br l=if oG l=0 then(65533,1)else(val l (oG l),oG l):=by
 by_cases h0:bF l 0<0x80;·grind[oG,N6,val]
 ·have hb:=me l 0;have hb1:=me l 1;have hb2:=me l 2;have uG:=me l 3;have c1:=fun _:Unit=>wu l 1;have c2:=fun _:Unit=>wu l 2;have c3:=fun _:Unit=>wu l 3;unfold Br;rw[if_neg h0];by_cases hA:bF l 0<0xC2\/0xF4<bF l 0;·grind[oG,bF,cnt,jK]
  ·have lo:=fun _:Unit=>lD l 1 (gq (bF l 0)) (gp (bF l 0));have m2:=fun _:Unit=>lD l 2 0x80 0xBF;have m3:=fun _:Unit=>lD l 3 0x80 0xBF;have key:oG l=if nH l 1 (gq (bF l 0)) (gp (bF l 0))=false then 0 else if 2<iM (bF l 0)/\nH l 2 0x80 0xBF=false then 0 else if 3<iM (bF l 0)/\nH l 3 0x80 0xBF=false then 0 else iM (bF l 0):=by simp only[oG,if_neg h0,if_neg hA]
   rw[key];clear key;generalize nH l 1 (gq (bF l 0)) (gp (bF l 0))=M1 at*;generalize nH l 2 0x80 0xBF=M2 at*;generalize nH l 3 0x80 0xBF=M3 at*;generalize cnt l 1=C1 at*;generalize cnt l 2=C2 at*;generalize cnt l 3=C3 at*;by_cases r2:bF l 0<0xE0
   ·have eN:=LD r2;have eL:=Hi r2;have eH:=Hh r2;have lo':=lo ();rw[eL,eH]at lo';rw[eN];have eC:C1=M1:=by rw[Bc,c1 (),lo']
    grind[bF,val]
   ·by_cases r3:bF l 0<0xF0
    ·have eN:=DF (by omega) r3;rw[eN];have n2:¬(bF l 0/32==6&&C1)=true:=by simp;omega
     rw[if_neg n2];have eC:C2=M2:=by rw[Bc,c2 (),m2 ()]
     subst eC;have g4:(bF l 0/8==30)=false:=by simp;omega
     have g3:(bF l 0/16==14)=true:=by simp;omega
     simp only[g4,g3,Bool.true_and,Bool.false_and];cases hM:M1
     ·subst hM;simp only[if_true,if_false,E'];by_cases h3:(C1&&C2)=true
      ·rw[if_pos h3];rw[if_neg];simp only[qi,decide_eq_true_eq,jK];simp only[qi]at h3;have a1:=(c1 ()).1 h3.1;have lb:=uU (bF l 0);have j4:=uI (bF l 0);have nl:¬(1<l.length/\gq (bF l 0)<=bF l 1/\bF l 1<=gp (bF l 0)):=fun h=>by simp_all
       omega
      grind
     ·subst hM;have a1:=(lo ()).1 rfl;have lb:=uU (bF l 0);have j4:=uI (bF l 0);have b1:=(c1 ()).2 (by omega);rw[b1];cases hC:C2;all_goals grind[val,jK]
    ·have eN:iM (bF l 0)=4:=Hj (by omega);rw[eN];have n2:¬(bF l 0/32==6&&C1)=true:=by simp;omega
     rw[if_neg n2];have eC:C2=M2:=by rw[Bc,c2 (),m2 ()]
     subst eC;have eC3:C3=M3:=by rw[Bc,c3 (),m3 ()]
     subst eC3;have g4:(bF l 0/8==30)=true:=by simp;omega
     have g3:(bF l 0/16==14)=false:=by simp;omega
     simp only[g4,g3,Bool.true_and,Bool.false_and,E',if_false];cases hM:M1
     ·subst hM;simp only[if_true];by_cases h3:(C1&&C2&&C3)=true
      ·rw[if_pos h3];rw[if_neg];simp only[qi,decide_eq_true_eq,jK];simp only[qi]at h3;have a1:=(c1 ()).1 h3.1.1;have lb:=uU (bF l 0);have j4:=uI (bF l 0);have nl:¬(1<l.length/\gq (bF l 0)<=bF l 1/\bF l 1<=gp (bF l 0)):=fun h=>by simp_all
       omega
      grind
     ·subst hM;have a1:=(lo ()).1 rfl;have lb:=uU (bF l 0);have j4:=uI (bF l 0);have b1:=(c1 ()).2 (by omega);rw[b1];cases hC:C2;·simp
      ·cases hC3:C3;all_goals grind[val,jK]
theorem T6  l  :oG l<=4:=by have:=Df (bF l 0);grind[oG,bF,nH,gq,gp]
theorem qT  l  :1<=(Br l).2:=by grind[qU]
def gc(r:Int):Int:=if(r<32/\r≠10)\/(127<=r/\r<=159)then 65533 else r
def pw:Nat->List UInt8->List Int
 |0,_=>[]
 |_+1,[]=>[]
 |f+1,b::t=>gc (Br (b::t)).1::pw f ((b::t).drop (Br (b::t)).2)
theorem lZ:∀  f g   l,l.length<=f->l.length<=g->pw f l=pw g l
 |0,0,_,_,_=>rfl
 |0,g+1,l,h,_=>by have:l=[]:=ot.1 (by omega);subst this;rfl
 |f+1,0,l,_,h=>by have:l=[]:=ot.1 (by omega);subst this;rfl
 |f+1,g+1,[],_,_=>rfl
 |f+1,g+1,b::t,hf,hg=>by have hp:=qT (b::t);simp only[fB]at hf hg;simp only[pw];rw[lZ f g _ (by grind) (by grind)]
def aZ(l:List UInt8):List Int:=pw l.length l
theorem pA:aZ []=[]:=rfl
theorem jX{l}(h:l≠[]):aZ l=gc (Br l).1::aZ (l.drop (Br l).2):=by
 cases l with
 |nil=>grind
 |cons b t=>grind[qT,pw,aZ,lZ]
theorem du  l  :(aZ l).length<=l.length:=by
 generalize hn:l.length=n;induction n using Nat.strongRecOn generalizing l with
 |_ n ih=>
  by_cases h:l=[];·subst h;rw[pA];simp
  ·rw[jX h];have hp:=qT l;have hl:=ou.2 h;have:=ih (l.drop (Br l).2).length (by rw[cW];omega) _ rfl;rw[cW]at this;simp only[fB];omega
theorem B8  l  :(Br l).1<=2147483647:=by have hb:=me l 0;rw[qU];by_cases h:oG l=0;all_goals grind[val]
def gD:List (Int×Int):=[(10,10),(0x300,0x36F),(0x483,0x489),(0x591,0x5BD),(0x610,0x61A),(0x64B,0x65F),(0x1AB0,0x1AFF),(0x1DC0,0x1DFF),(0x200B,0x200F),(0x20D0,0x20FF),(0xFE00,0xFE0F),(0xFE20,0xFE2F),(0xE0100,0xE01EF)]
def iP:List (Int×Int):=[(0x1100,0x115F),(0x2E80,0x303E),(0x3041,0x33FF),(0x3400,0x4DBF),(0x4E00,0x9FFF),(0xA000,0xA4CF),(0xAC00,0xD7A3),(0xF900,0xFAFF),(0xFE30,0xFE6F),(0xFF00,0xFF60),(0xFFE0,0xFFE6),(0x1F300,0x1F64F),(0x1F900,0x1F9FF),(0x20000,0x3FFFD)]
def gA:List (Int×Int×Int):=[(0x300,0x36F,0),(0x483,0x489,0),(0x591,0x5BD,0),(0x610,0x61A,0),(0x64B,0x65F,0),(0x1100,0x115F,2),(0x1AB0,0x1AFF,0),(0x1DC0,0x1DFF,0),(0x200B,0x200F,0),(0x20D0,0x20FF,0),(0x2E80,0x303E,2),(0x3041,0x33FF,2),(0x3400,0x4DBF,2),(0x4E00,0x9FFF,2),(0xA000,0xA4CF,2),(0xAC00,0xD7A3,2),(0xF900,0xFAFF,2),(0xFE00,0xFE0F,0),(0xFE20,0xFE2F,0),(0xFE30,0xFE6F,2),(0xFF00,0xFF60,2),(0xFFE0,0xFFE6,2),(0x1F300,0x1F64F,2),(0x1F900,0x1F9FF,2),(0x20000,0x3FFFD,2),(0xE0100,0xE01EF,0)]
def Ks(r:Int)(l:List (Int×Int)):Bool:=l.any fun p=>decide (p.1<=r/\r<=p.2)
theorem jP  r   l  :Ks r l=true↔∃p∈l,p.1<=r/\r<=p.2:=by simp[Ks]
def oI(r:Int):Int:=if Ks r gD=true then 0 else if Ks r iP=true then 2 else 1
theorem Ua  r  :0<=oI r/\oI r<=2:=by grind[oI]
theorem L_:∀z∈gD,∀q∈iP,z.2<q.1\/q.2<z.1:=by decide+kernel
theorem DM:∀s∈gA,(s.2.2=0/\(s.1,s.2.1)∈gD)\/(s.2.2=2/\(s.1,s.2.1)∈iP):=by decide+kernel
theorem L9:∀z∈gD,z=(10,10)\/(z.1,z.2,0)∈gA:=by decide+kernel
theorem L7:∀z∈iP,(z.1,z.2,2)∈gA:=by decide+kernel
theorem L6  r   s  (hs:s∈gA) (h0:s.1<=r) (h1:r<=s.2.1):oI r=s.2.2:=by
 unfold oI;rcases DM s hs with⟨e,hz⟩|⟨e,hz⟩;·grind[jP,gD]
 ·rw[if_neg,if_pos ((jP r iP).2 ⟨_,hz,h0,h1⟩),e];intro h;obtain⟨p,hp,a,b⟩:=(jP r gD).1 h;have:=L_ p hp _ hz;omega
theorem L5  r  (eq:r≠10) (h:∀s∈gA,¬(s.1<=r/\r<=s.2.1)):oI r=1:=by
 unfold oI;rw[if_neg,if_neg];·intro k;obtain⟨p,hp,a,b⟩:=(jP r iP).1 k;exact h _ (L7 p hp) ⟨a,b⟩
 ·intro k;obtain⟨p,hp,a,b⟩:=(jP r gD).1 k;rcases L9 p hp with e|e;all_goals grind
theorem PY:oI 10=0:=by decide+kernel
def cU(i:Nat):Int×Int×Int:=gA.getD i (0,0,0)
theorem DJ{i}(h:i<26):cU i∈gA:=by have hl:i<gA.length:=h;grind[cU]
theorem De{s}(h:s∈gA):∃i,i<26/\cU i=s:=by obtain⟨i,hi,e⟩:=ox.1 h;refine⟨i,hi,?_⟩;grind[cU]
theorem DN:∀i:Fin 26,∀j,i<j->(cU i).2.1<(cU j).1:=by decide+kernel
theorem Hp:∀i:Fin 26,(cU i).1<=(cU i).2.1:=by decide+kernel
theorem rise{i j}(hi:i<j)(hj:j<26):(cU i).2.1<(cU j).1:=DN ⟨i,by omega⟩ ⟨j,hj⟩ hi
theorem fit{i}(hi:i<26):(cU i).1<=(cU i).2.1:=Hp ⟨i,hi⟩
def vQ(r:Int)(lo hi:Nat):Prop:=(∀i,i<lo->(cU i).2.1<r)/\∀i,hi<=i->i<26->r<(cU i).1
theorem half_start  r  :vQ r 0 26:=⟨fun i h=>by omega,fun i h k=>by omega⟩
theorem JY{r}{lo hi dZ}(h:vQ r lo hi)(hm:dZ<26)(hr:(cU dZ).2.1<r):vQ r (dZ+1) hi:=by
 refine⟨fun i hi=>?_,h.2⟩;by_cases e:i=dZ;·grind
 ·have:=rise (i:=i) (j:=dZ) (by omega) hm;have:=fit (i:=dZ) hm;omega
theorem Ga{r}{lo hi dZ}(h:vQ r lo hi)(hm:dZ<26)(hr:r<(cU dZ).1):vQ r lo dZ:=by
 refine⟨h.1,fun i hi hk=>?_⟩;by_cases e:i=dZ;·subst e;exact hr
 ·have:=rise (i:=dZ) (j:=i) (by omega) hk;have:=fit (i:=dZ) hm;omega
theorem half_end{r}{lo hi}(h:vQ r lo hi)(hl:hi<=lo)(eq:r≠10):oI r=1:=by
 refine L5 r eq fun s hs=>?_;obtain⟨i,hi,rfl⟩:=De hs;rintro⟨a,b⟩;by_cases e:i<lo;·have:=h.1 i e;omega
 ·have:=h.2 i (by omega) hi;omega
def kF(l:List (Int×Int)):List Int:=l.flatMap fun p=>[p.1,p.2]
theorem pN  l  :(kF l).length=2*l.length:=by
 induction l with
 |nil=>rfl
 |cons p l ih=>grind[kF]
theorem Ob  l   k  :(kF l)[2*k]?.getD 0=(l.getD k (0,0)).1/\(kF l)[2*k+1]?.getD 0=(l.getD k (0,0)).2:=by
 induction l generalizing k with
 |nil=>simp[kF]
 |cons p l ih=>
  cases k with
  |zero=>simp[kF]
  |succ k=>have:=ih k;have e:kF (p::l)=p.1::p.2::kF l:=rfl;rw[e,show 2*(k+1)=2*k+1+1 by omega];simpa using this
