import Derived.Lib.RuneBytes
import Derived.Laws.RangeAny
import Derived.Test.YtadhgppeafpdgaaGreatDoorQ00
set_option linter.all false
set_option maxRecDepth 100000
set_option maxHeartbeats 16000000
namespace Go.Proofs.YtadhgppeafpdgaaGreatDoor
def aQ(l:List UInt8)(k:Nat):Nat:=(l.getD k 0).toNat
theorem pW  l   k  :aQ l k<256:=by unfold aQ;exact UInt8.toNat_lt _
def cnt(l:List UInt8)(k:Nat):Bool:=decide (k<l.length)&&(aQ l k/64==2)
def ub(l:List UInt8):Nat×Nat:=
 if aQ l 0<0x80 then(aQ l 0,1)
 else if aQ l 0/32==6&&cnt l 1 then
  (if(aQ l 0 %32)*64+aQ l 1 %64>=0x80 then((aQ l 0 %32)*64+aQ l 1 %64,2)else(65533,1))
 else if aQ l 0/16==14&&cnt l 1&&cnt l 2 then
  (if(aQ l 0 %16)*4096+(aQ l 1 %64)*64+aQ l 2 %64>=0x800&&Utf8.valid ((aQ l 0 %16)*4096+(aQ l 1 %64)*64+aQ l 2 %64:Nat)then((aQ l 0 %16)*4096+(aQ l 1 %64)*64+aQ l 2 %64,3)else(65533,1))
 else if aQ l 0/8==30&&cnt l 1&&cnt l 2&&cnt l 3 then
  (if(aQ l 0 %8)*262144+(aQ l 1 %64)*4096+(aQ l 2 %64)*64+aQ l 3 %64>=0x10000&&Utf8.valid ((aQ l 0 %8)*262144+(aQ l 1 %64)*4096+(aQ l 2 %64)*64+aQ l 3 %64:Nat)then((aQ l 0 %8)*262144+(aQ l 1 %64)*4096+(aQ l 2 %64)*64+aQ l 3 %64,4)else(65533,1))
 else(65533,1)
theorem Hj(s:ByteArray)  i k  :(s.get! (i+k)).toNat=aQ (s.data.toList.drop i) k:=by unfold aQ;congr 1;rw[ia,yn,D8];show s.data[i+k]! =_;rw[getElem!_def];cases s.data[i+k]?<;>rfl
theorem NL(s:ByteArray)  i k  :(decide (i+k<s.size)&&(aQ (s.data.toList.drop i) k/64==2))=cnt (s.data.toList.drop i) k:=by
 unfold cnt;have e:(s.data.toList.drop i).length=s.size-i:=by rw[dL,gc];rfl
 rw[e,decide_eq_decide.2 (show i+k<s.size↔k<s.size-i by omega)]
theorem EM  s   i  :Utf8.decode s i=ub (s.data.toList.drop i):=by unfold Utf8.decode ub;simp only[Hj,NL,Utf8.runeError]
def Es(l:List UInt8)(k lo hi:Nat):Bool:=decide (k<l.length)&&decide (lo<=aQ l k)&&decide (aQ l k<=hi)
def gW(c:Nat):Nat:=if 0xF0<=c then 4 else if 0xE0<=c then 3 else 2
def gx(c:Nat):Nat:=if c=0xE0 then 0xA0 else if c=0xF0 then 0x90 else 0x80
def gw(c:Nat):Nat:=if c=0xED then 0x9F else if c=0xF4 then 0x8F else 0xBF
def Az(l:List UInt8):Nat:=
 if aQ l 0<0x80 then 1
 else if aQ l 0<0xC2\/0xF4<aQ l 0 then 0
 else if Es l 1 (gx (aQ l 0)) (gw (aQ l 0))=false then 0
 else if 2<gW (aQ l 0)/\Es l 2 0x80 0xBF=false then 0
 else if 3<gW (aQ l 0)/\Es l 3 0x80 0xBF=false then 0
 else gW (aQ l 0)
theorem Cr  c  :(c=0xE0/\gx c=0xA0)\/(c=0xF0/\gx c=0x90)\/(c≠0xE0/\c≠0xF0/\gx c=0x80):=by grind[gx]
theorem BS  c  :(c=0xED/\gw c=0x9F)\/(c=0xF4/\gw c=0x8F)\/(c≠0xED/\c≠0xF4/\gw c=0xBF):=by grind[gw]
theorem Uu  c  :(c<0xE0/\gW c=2)\/(0xE0<=c/\c<0xF0/\gW c=3)\/(0xF0<=c/\gW c=4):=by grind[gW]
theorem Qr{c}(h:c<0xE0):gW c=2:=by grind[Uu]
theorem F8{c}(h:0xE0<=c)(h1:c<0xF0):gW c=3:=by have:=Uu c;omega
theorem Lo{c}(h:0xF0<=c):gW c=4:=by have:=Uu c;omega
theorem Lm{c}(h:c<0xE0):gx c=0x80:=by grind[Cr]
theorem Ll{c}(h:c<0xE0):gw c=0xBF:=by grind[BS]
theorem kC  l   k lo hi  :Es l k lo hi=true↔k<l.length/\lo<=aQ l k/\aQ l k<=hi:=by grind[Es]
theorem qv  l   k lo hi  :Es l k lo hi=false↔¬(k<l.length/\lo<=aQ l k/\aQ l k<=hi):=by grind[kC,Es]
theorem iw  l   k  :cnt l k=true↔k<l.length/\0x80<=aQ l k/\aQ l k<=0xBF:=by unfold cnt;simp;omega
theorem fK(n:Nat):Utf8.valid (n:Int)=true↔n<0xD800\/(0xE000<=n/\n<=0x10FFFF):=by unfold Utf8.valid;simp;omega
def val(l:List UInt8)(n:Nat):Nat:=
 if n=1 then aQ l 0
 else if n=2 then(aQ l 0 %32)*64+aQ l 1 %64
 else if n=3 then(aQ l 0 %16)*4096+(aQ l 1 %64)*64+aQ l 2 %64
 else(aQ l 0 %8)*262144+(aQ l 1 %64)*4096+(aQ l 2 %64)*64+aQ l 3 %64
theorem yZ  l  (h:aQ l 0<0x80):ub l=(aQ l 0,1):=by simp[ub,h]
theorem y_  l  :ub l=if Az l=0 then(65533,1)else(val l (Az l),Az l):=by
 by_cases h0:aQ l 0<0x80;·grind[Az,yZ,val]
 ·have hb:=pW l 0;have hb1:=pW l 1;have dE:=pW l 2;have xF:=pW l 3;have c1:=fun _:Unit=>iw l 1;have c2:=fun _:Unit=>iw l 2;have c3:=fun _:Unit=>iw l 3;unfold ub;rw[if_neg h0];by_cases hA:aQ l 0<0xC2\/0xF4<aQ l 0;·grind[Az,aQ,cnt,fK]
  ·have lo:=fun _:Unit=>kC l 1 (gx (aQ l 0)) (gw (aQ l 0));have m2:=fun _:Unit=>kC l 2 0x80 0xBF;have m3:=fun _:Unit=>kC l 3 0x80 0xBF;have key:Az l=if Es l 1 (gx (aQ l 0)) (gw (aQ l 0))=false then 0 else if 2<gW (aQ l 0)/\Es l 2 0x80 0xBF=false then 0 else if 3<gW (aQ l 0)/\Es l 3 0x80 0xBF=false then 0 else gW (aQ l 0):=by simp only[Az,if_neg h0,if_neg hA]
   rw[key];clear key;generalize Es l 1 (gx (aQ l 0)) (gw (aQ l 0))=M1 at*;generalize Es l 2 0x80 0xBF=M2 at*;generalize Es l 3 0x80 0xBF=M3 at*;generalize cnt l 1=C1 at*;generalize cnt l 2=C2 at*;generalize cnt l 3=C3 at*;by_cases r2:aQ l 0<0xE0
   ·have eN:=Qr r2;have eL:=Lm r2;have eH:=Ll r2;have lo':=lo ();rw[eL,eH]at lo';rw[eN];have eC:C1=M1:=by rw[D9,c1 (),lo']
    grind[aQ,val]
   ·by_cases r3:aQ l 0<0xF0
    ·have eN:=F8 (by omega) r3;rw[eN];have n2:¬(aQ l 0/32==6&&C1)=true:=by simp;omega
     rw[if_neg n2];have eC:C2=M2:=by rw[D9,c2 (),m2 ()]
     subst eC;have g4:(aQ l 0/8==30)=false:=by simp;omega
     have g3:(aQ l 0/16==14)=true:=by simp;omega
     simp only[g4,g3,Bool.true_and,Bool.false_and];cases hM:M1
     ·subst hM;simp only[if_true,if_false,I6];by_cases h3:(C1&&C2)=true
      ·rw[if_pos h3];rw[if_neg];simp only[D_,decide_eq_true_eq,fK];simp only[D_]at h3;have a1:=(c1 ()).1 h3.1;have lb:=Cr (aQ l 0);have sr:=BS (aQ l 0);have nl:¬(1<l.length/\gx (aQ l 0)<=aQ l 1/\aQ l 1<=gw (aQ l 0)):=fun h=>by simp_all
       omega
      grind
     ·subst hM;have a1:=(lo ()).1 rfl;have lb:=Cr (aQ l 0);have sr:=BS (aQ l 0);have b1:=(c1 ()).2 (by omega);rw[b1];cases hC:C2;all_goals grind[val,fK]
    ·have eN:gW (aQ l 0)=4:=Lo (by omega);rw[eN];have n2:¬(aQ l 0/32==6&&C1)=true:=by simp;omega
     rw[if_neg n2];have eC:C2=M2:=by rw[D9,c2 (),m2 ()]
     subst eC;have eC3:C3=M3:=by rw[D9,c3 (),m3 ()]
     subst eC3;have g4:(aQ l 0/8==30)=true:=by simp;omega
     have g3:(aQ l 0/16==14)=false:=by simp;omega
     simp only[g4,g3,Bool.true_and,Bool.false_and,I6,if_false];cases hM:M1
     ·subst hM;simp only[if_true];by_cases h3:(C1&&C2&&C3)=true
      ·rw[if_pos h3];rw[if_neg];simp only[D_,decide_eq_true_eq,fK];simp only[D_]at h3;have a1:=(c1 ()).1 h3.1.1;have lb:=Cr (aQ l 0);have sr:=BS (aQ l 0);have nl:¬(1<l.length/\gx (aQ l 0)<=aQ l 1/\aQ l 1<=gw (aQ l 0)):=fun h=>by simp_all
       omega
      grind
     ·subst hM;have a1:=(lo ()).1 rfl;have lb:=Cr (aQ l 0);have sr:=BS (aQ l 0);have b1:=(c1 ()).2 (by omega);rw[b1];cases hC:C2;·simp
      ·cases hC3:C3;all_goals grind[val,fK]
theorem me  l  :1<=(ub l).2:=by grind[y_]
def fF(r:Int):Int:=if(r<32/\r≠10)\/(127<=r/\r<=159)then 65533 else r
def qN:Nat->List UInt8->List Int
 |0,_=>[]
 |_+1,[]=>[]
 |f+1,b::t=>fF (ub (b::t)).1::qN f ((b::t).drop (ub (b::t)).2)
theorem nf:∀  f g   l,l.length<=f->l.length<=g->qN f l=qN g l
 |0,0,_,_,_=>rfl
 |0,g+1,l,h,_=>by have:l=[]:=jy.1 (by omega);subst this;rfl
 |f+1,0,l,_,h=>by have:l=[]:=jy.1 (by omega);subst this;rfl
 |f+1,g+1,[],_,_=>rfl
 |f+1,g+1,b::t,hf,hg=>by have hp:=me (b::t);simp only[cP]at hf hg;simp only[qN];rw[nf f g _ (by grind) (by grind)]
def ap(l:List UInt8):List Int:=qN l.length l
theorem mJ:ap []=[]:=rfl
theorem iZ{l}(h:l≠[]):ap l=fF (ub l).1::ap (l.drop (ub l).2):=by
 cases l with
 |nil=>grind
 |cons b t=>grind[me,qN,ap,nf]
theorem bp  l  :(ap l).length<=l.length:=by
 generalize hn:l.length=n;induction n using Nat.strongRecOn generalizing l with
 |_ n ih=>
  by_cases h:l=[];·subst h;rw[mJ];simp
  ·rw[iZ h];have hp:=me l;have hl:=io.2 h;have:=ih (l.drop (ub l).2).length (by rw[dL];omega) _ rfl;rw[dL]at this;simp only[cP];omega
theorem EL  l  :(ub l).1<=2147483647:=by have hb:=pW l 0;rw[y_];by_cases h:Az l=0;all_goals grind[val]
def oh:List (Int×Int):=[(10,10),(0x300,0x36F),(0x483,0x489),(0x591,0x5BD),(0x610,0x61A),(0x64B,0x65F),(0x1AB0,0x1AFF),(0x1DC0,0x1DFF),(0x200B,0x200F),(0x20D0,0x20FF),(0xFE00,0xFE0F),(0xFE20,0xFE2F),(0xE0100,0xE01EF)]
def qS:List (Int×Int):=[(0x1100,0x115F),(0x2E80,0x303E),(0x3041,0x33FF),(0x3400,0x4DBF),(0x4E00,0x9FFF),(0xA000,0xA4CF),(0xAC00,0xD7A3),(0xF900,0xFAFF),(0xFE30,0xFE6F),(0xFF00,0xFF60),(0xFFE0,0xFFE6),(0x1F300,0x1F64F),(0x1F900,0x1F9FF),(0x20000,0x3FFFD)]
def gG:List (Int×Int×Int):=[(0x300,0x36F,0),(0x483,0x489,0),(0x591,0x5BD,0),(0x610,0x61A,0),(0x64B,0x65F,0),(0x1100,0x115F,2),(0x1AB0,0x1AFF,0),(0x1DC0,0x1DFF,0),(0x200B,0x200F,0),(0x20D0,0x20FF,0),(0x2E80,0x303E,2),(0x3041,0x33FF,2),(0x3400,0x4DBF,2),(0x4E00,0x9FFF,2),(0xA000,0xA4CF,2),(0xAC00,0xD7A3,2),(0xF900,0xFAFF,2),(0xFE00,0xFE0F,0),(0xFE20,0xFE2F,0),(0xFE30,0xFE6F,2),(0xFF00,0xFF60,2),(0xFFE0,0xFFE6,2),(0x1F300,0x1F64F,2),(0x1F900,0x1F9FF,2),(0x20000,0x3FFFD,2),(0xE0100,0xE01EF,0)]
def inL(r:Int)(l:List (Int×Int)):Bool:=l.any fun p=>decide (p.1<=r/\r<=p.2)
theorem oP  r   l  :inL r l=true↔∃p∈l,p.1<=r/\r<=p.2:=by simp[inL]
def kY(r:Int):Int:=if inL r oh=true then 0 else if inL r qS=true then 2 else 1
theorem Gq  r  :0<=kY r/\kY r<=2:=by grind[kY]
theorem QU:∀z∈oh,∀q∈qS,z.2<q.1\/q.2<z.1:=by decide+kernel
theorem Gc:∀s∈gG,(s.2.2=0/\(s.1,s.2.1)∈oh)\/(s.2.2=2/\(s.1,s.2.1)∈qS):=by decide+kernel
theorem QT:∀z∈oh,z=(10,10)\/(z.1,z.2,0)∈gG:=by decide+kernel
theorem QO:∀z∈qS,(z.1,z.2,2)∈gG:=by decide+kernel
theorem QN  r   s  (hs:s∈gG) (h0:s.1<=r) (h1:r<=s.2.1):kY r=s.2.2:=by
 unfold kY;rcases Gc s hs with⟨e,hz⟩|⟨e,hz⟩;·grind[oP,oh]
 ·rw[if_neg,if_pos ((oP r qS).2 ⟨_,hz,h0,h1⟩),e];intro h;obtain⟨p,hp,a,b⟩:=(oP r oh).1 h;have:=QU p hp _ hz;omega
theorem QM  r  (fM:r≠10) (h:∀s∈gG,¬(s.1<=r/\r<=s.2.1)):kY r=1:=by
 unfold kY;rw[if_neg,if_neg];·intro k;obtain⟨p,hp,a,b⟩:=(oP r qS).1 k;exact h _ (QO p hp) ⟨a,b⟩
 ·intro k;obtain⟨p,hp,a,b⟩:=(oP r oh).1 k;rcases QT p hp with e|e;all_goals grind
theorem Vt:kY 10=0:=by decide+kernel
def cF(i:Nat):Int×Int×Int:=gG.getD i (0,0,0)
theorem Ga{i}(h:i<26):cF i∈gG:=by have hl:i<gG.length:=h;grind[cF]
theorem Fy{s}(h:s∈gG):∃i,i<26/\cF i=s:=by obtain⟨i,hi,e⟩:=rP.1 h;refine⟨i,hi,?_⟩;grind[cF]
theorem Gd:∀i:Fin 26,∀j,i<j->(cF i).2.1<(cF j).1:=by decide+kernel
theorem Lv:∀i:Fin 26,(cF i).1<=(cF i).2.1:=by decide+kernel
theorem rise{i j}(hi:i<j)(hj:j<26):(cF i).2.1<(cF j).1:=Gd ⟨i,by omega⟩ ⟨j,hj⟩ hi
theorem fit{i}(hi:i<26):(cF i).1<=(cF i).2.1:=Lv ⟨i,hi⟩
def yE(r:Int)(lo hi:Nat):Prop:=(∀i,i<lo->(cF i).2.1<r)/\∀i,hi<=i->i<26->r<(cF i).1
theorem half_start  r  :yE r 0 26:=⟨fun i h=>by omega,fun i h k=>by omega⟩
theorem Oo{r}{lo hi dM}(h:yE r lo hi)(hm:dM<26)(hr:(cF dM).2.1<r):yE r (dM+1) hi:=by
 refine⟨fun i hi=>?_,h.2⟩;by_cases e:i=dM;·grind
 ·have:=rise (i:=i) (j:=dM) (by omega) hm;have:=fit (i:=dM) hm;omega
theorem Kq{r}{lo hi dM}(h:yE r lo hi)(hm:dM<26)(hr:r<(cF dM).1):yE r lo dM:=by
 refine⟨h.1,fun i hi hk=>?_⟩;by_cases e:i=dM;·subst e;exact hr
 ·have:=rise (i:=dM) (j:=i) (by omega) hk;have:=fit (i:=dM) hm;omega
theorem half_end{r}{lo hi}(h:yE r lo hi)(hl:hi<=lo)(fM:r≠10):kY r=1:=by
 refine QM r fM fun s hs=>?_;obtain⟨i,hi,rfl⟩:=Fy hs;rintro⟨a,b⟩;by_cases e:i<lo;·have:=h.1 i e;omega
 ·have:=h.2 i (by omega) hi;omega
