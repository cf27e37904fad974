import Derived.Lib.RuneBytes
import Derived.Laws.RangeAny
import Derived.Test.YtiaimhjebnobnaaGreatDoorQ00
set_option linter.all false
set_option maxRecDepth 100000
set_option maxHeartbeats 16000000
namespace Go.Proofs.YtiaimhjebnobnaaGreatDoor
def bB(l:List UInt8)(k:Nat):Nat:=(l.getD k 0).toNat
theorem mD  l   k  :bB l k<256:=by unfold bB;exact UInt8.toNat_lt _
def cnt(l:List UInt8)(k:Nat):Bool:=decide (k<l.length)&&(bB l k/64==2)
def uT(l:List UInt8):Nat×Nat:=
 if bB l 0<0x80 then(bB l 0,1)
 else if bB l 0/32==6&&cnt l 1 then
  (if(bB l 0 %32)*64+bB l 1 %64>=0x80 then((bB l 0 %32)*64+bB l 1 %64,2)else(65533,1))
 else if bB l 0/16==14&&cnt l 1&&cnt l 2 then
  (if(bB l 0 %16)*4096+(bB l 1 %64)*64+bB l 2 %64>=0x800&&Utf8.valid ((bB l 0 %16)*4096+(bB l 1 %64)*64+bB l 2 %64:Nat)then((bB l 0 %16)*4096+(bB l 1 %64)*64+bB l 2 %64,3)else(65533,1))
 else if bB l 0/8==30&&cnt l 1&&cnt l 2&&cnt l 3 then
  (if(bB l 0 %8)*262144+(bB l 1 %64)*4096+(bB l 2 %64)*64+bB l 3 %64>=0x10000&&Utf8.valid ((bB l 0 %8)*262144+(bB l 1 %64)*4096+(bB l 2 %64)*64+bB l 3 %64:Nat)then((bB l 0 %8)*262144+(bB l 1 %64)*4096+(bB l 2 %64)*64+bB l 3 %64,4)else(65533,1))
 else(65533,1)
theorem II(s:ByteArray)  i k  :(s.get! (i+k)).toNat=bB (s.data.toList.drop i) k:=by unfold bB;congr 1;rw[JM,Fc,RG];show s.data[i+k]! =_;rw[getElem!_def];cases s.data[i+k]?<;>rfl
theorem Og(s:ByteArray)  i k  :(decide (i+k<s.size)&&(bB (s.data.toList.drop i) k/64==2))=cnt (s.data.toList.drop i) k:=by
 unfold cnt;have e:(s.data.toList.drop i).length=s.size-i:=by rw[dq,fV];rfl
 rw[e,decide_eq_decide.2 (show i+k<s.size↔k<s.size-i by omega)]
theorem F0  s   i  :Utf8.decode s i=uT (s.data.toList.drop i):=by unfold Utf8.decode uT;simp only[II,Og,Utf8.runeError]
def qe(l:List UInt8)(k lo hi:Nat):Bool:=decide (k<l.length)&&decide (lo<=bB l k)&&decide (bB l k<=hi)
def jQ(c:Nat):Nat:=if 0xF0<=c then 4 else if 0xE0<=c then 3 else 2
def iy(c:Nat):Nat:=if c=0xE0 then 0xA0 else if c=0xF0 then 0x90 else 0x80
def iw(c:Nat):Nat:=if c=0xED then 0x9F else if c=0xF4 then 0x8F else 0xBF
def qW(l:List UInt8):Nat:=
 if bB l 0<0x80 then 1
 else if bB l 0<0xC2\/0xF4<bB l 0 then 0
 else if qe l 1 (iy (bB l 0)) (iw (bB l 0))=false then 0
 else if 2<jQ (bB l 0)/\qe l 2 0x80 0xBF=false then 0
 else if 3<jQ (bB l 0)/\qe l 3 0x80 0xBF=false then 0
 else jQ (bB l 0)
theorem yL  c  :(c=0xE0/\iy c=0xA0)\/(c=0xF0/\iy c=0x90)\/(c≠0xE0/\c≠0xF0/\iy c=0x80):=by grind[iy]
theorem yz  c  :(c=0xED/\iw c=0x9F)\/(c=0xF4/\iw c=0x8F)\/(c≠0xED/\c≠0xF4/\iw c=0xBF):=by grind[iw]
theorem GU  c  :(c<0xE0/\jQ c=2)\/(0xE0<=c/\c<0xF0/\jQ c=3)\/(0xF0<=c/\jQ c=4):=by grind[jQ]
theorem QS{c}(h:c<0xE0):jQ c=2:=by grind[GU]
theorem Ht{c}(h:0xE0<=c)(h1:c<0xF0):jQ c=3:=by have:=GU c;omega
theorem Mc{c}(h:0xF0<=c):jQ c=4:=by have:=GU c;omega
theorem Mb{c}(h:c<0xE0):iy c=0x80:=by grind[yL]
theorem Ma{c}(h:c<0xE0):iw c=0xBF:=by grind[yz]
theorem nK  l   k lo hi  :qe l k lo hi=true↔k<l.length/\lo<=bB l k/\bB l k<=hi:=by grind[qe]
theorem rF  l   k lo hi  :qe l k lo hi=false↔¬(k<l.length/\lo<=bB l k/\bB l k<=hi):=by grind[nK,qe]
theorem jo  l   k  :cnt l k=true↔k<l.length/\0x80<=bB l k/\bB l k<=0xBF:=by unfold cnt;simp;omega
theorem gT(n:Nat):Utf8.valid (n:Int)=true↔n<0xD800\/(0xE000<=n/\n<=0x10FFFF):=by unfold Utf8.valid;simp;omega
def val(l:List UInt8)(n:Nat):Nat:=
 if n=1 then bB l 0
 else if n=2 then(bB l 0 %32)*64+bB l 1 %64
 else if n=3 then(bB l 0 %16)*4096+(bB l 1 %64)*64+bB l 2 %64
 else(bB l 0 %8)*262144+(bB l 1 %64)*4096+(bB l 2 %64)*64+bB l 3 %64
theorem IE  l  (h:bB l 0<0x80):uT l=(bB l 0,1):=by simp[uT,h]
theorem ub  l  :uT l=if qW l=0 then(65533,1)else(val l (qW l),qW l):=by
 by_cases h0:bB l 0<0x80;·grind[qW,IE,val]
 ·have hb:=mD l 0;have hb1:=mD l 1;have hb2:=mD l 2;have qR:=mD l 3;have c1:=fun _:Unit=>jo l 1;have c2:=fun _:Unit=>jo l 2;have c3:=fun _:Unit=>jo l 3;unfold uT;rw[if_neg h0];by_cases hA:bB l 0<0xC2\/0xF4<bB l 0;·grind[qW,bB,cnt,gT]
  ·have lo:=fun _:Unit=>nK l 1 (iy (bB l 0)) (iw (bB l 0));have m2:=fun _:Unit=>nK l 2 0x80 0xBF;have m3:=fun _:Unit=>nK l 3 0x80 0xBF;have key:qW l=if qe l 1 (iy (bB l 0)) (iw (bB l 0))=false then 0 else if 2<jQ (bB l 0)/\qe l 2 0x80 0xBF=false then 0 else if 3<jQ (bB l 0)/\qe l 3 0x80 0xBF=false then 0 else jQ (bB l 0):=by simp only[qW,if_neg h0,if_neg hA]
   rw[key];clear key;generalize qe l 1 (iy (bB l 0)) (iw (bB l 0))=M1 at*;generalize qe l 2 0x80 0xBF=M2 at*;generalize qe l 3 0x80 0xBF=M3 at*;generalize cnt l 1=C1 at*;generalize cnt l 2=C2 at*;generalize cnt l 3=C3 at*;by_cases r2:bB l 0<0xE0
   ·have eN:=QS r2;have eL:=Mb r2;have eH:=Ma r2;have lo':=lo ();rw[eL,eH]at lo';rw[eN];have eC:C1=M1:=by rw[Fe,c1 (),lo']
    grind[bB,val]
   ·by_cases r3:bB l 0<0xF0
    ·have eN:=Ht (by omega) r3;rw[eN];have n2:¬(bB l 0/32==6&&C1)=true:=by simp;omega
     rw[if_neg n2];have eC:C2=M2:=by rw[Fe,c2 (),m2 ()]
     subst eC;have g4:(bB l 0/8==30)=false:=by simp;omega
     have g3:(bB l 0/16==14)=true:=by simp;omega
     simp only[g4,g3,RH,RI];cases hM:M1
     ·subst hM;simp only[if_true,if_false,JN];by_cases h3:(C1&&C2)=true
      ·rw[if_pos h3];rw[if_neg];simp only[qL,decide_eq_true_eq,gT];simp only[qL]at h3;have a1:=(c1 ()).1 h3.1;have lb:=yL (bB l 0);have jF:=yz (bB l 0);have nl:¬(1<l.length/\iy (bB l 0)<=bB l 1/\bB l 1<=iw (bB l 0)):=fun h=>by simp_all
       omega
      grind
     ·subst hM;have a1:=(lo ()).1 rfl;have lb:=yL (bB l 0);have jF:=yz (bB l 0);have b1:=(c1 ()).2 (by omega);rw[b1];cases hC:C2;all_goals grind[val,gT]
    ·have eN:jQ (bB l 0)=4:=Mc (by omega);rw[eN];have n2:¬(bB l 0/32==6&&C1)=true:=by simp;omega
     rw[if_neg n2];have eC:C2=M2:=by rw[Fe,c2 (),m2 ()]
     subst eC;have eC3:C3=M3:=by rw[Fe,c3 (),m3 ()]
     subst eC3;have g4:(bB l 0/8==30)=true:=by simp;omega
     have g3:(bB l 0/16==14)=false:=by simp;omega
     simp only[g4,g3,RH,RI,JN,if_false];cases hM:M1
     ·subst hM;simp only[if_true];by_cases h3:(C1&&C2&&C3)=true
      ·rw[if_pos h3];rw[if_neg];simp only[qL,decide_eq_true_eq,gT];simp only[qL]at h3;have a1:=(c1 ()).1 h3.1.1;have lb:=yL (bB l 0);have jF:=yz (bB l 0);have nl:¬(1<l.length/\iy (bB l 0)<=bB l 1/\bB l 1<=iw (bB l 0)):=fun h=>by simp_all
       omega
      grind
     ·subst hM;have a1:=(lo ()).1 rfl;have lb:=yL (bB l 0);have jF:=yz (bB l 0);have b1:=(c1 ()).2 (by omega);rw[b1];cases hC:C2;·simp
      ·cases hC3:C3;all_goals grind[val,gT]
theorem _a  l  :qW l<=4:=by have:=GU (bB l 0);grind[qW,bB,qe,iy,iw]
theorem pQ  l  :1<=(uT l).2:=by grind[ub]
def fj(r:Int):Int:=if(r<32/\r≠10)\/(127<=r/\r<=159)then 65533 else r
def rT:Nat->List UInt8->List Int
 |0,_=>[]
 |_+1,[]=>[]
 |f+1,b::t=>fj (uT (b::t)).1::rT f ((b::t).drop (uT (b::t)).2)
theorem oG:∀  f g   l,l.length<=f->l.length<=g->rT f l=rT g l
 |0,0,_,_,_=>rfl
 |0,g+1,l,h,_=>by have:l=[]:=ln.1 (by omega);subst this;rfl
 |f+1,0,l,_,h=>by have:l=[]:=ln.1 (by omega);subst this;rfl
 |f+1,g+1,[],_,_=>rfl
 |f+1,g+1,b::t,hf,hg=>by have hp:=pQ (b::t);simp only[e_]at hf hg;simp only[rT];rw[oG f g _ (by grind) (by grind)]
def aD(l:List UInt8):List Int:=rT l.length l
theorem ld:aD []=[]:=rfl
theorem iH{l}(h:l≠[]):aD l=fj (uT l).1::aD (l.drop (uT l).2):=by
 cases l with
 |nil=>grind
 |cons b t=>grind[pQ,rT,aD,oG]
theorem bK  l  :(aD l).length<=l.length:=by
 generalize hn:l.length=n;induction n using Nat.strongRecOn generalizing l with
 |_ n ih=>
  by_cases h:l=[];·subst h;rw[ld];simp
  ·rw[iH h];have hp:=pQ l;have hl:=l6.2 h;have:=ih (l.drop (uT l).2).length (by rw[dq];omega) _ rfl;rw[dq]at this;simp only[e_];omega
theorem FZ  l  :(uT l).1<=2147483647:=by have hb:=mD l 0;rw[ub];by_cases h:qW l=0;all_goals grind[val]
def iL:List (Int×Int):=[(10,10),(0x300,0x36F),(0x483,0x489),(0x591,0x5BD),(0x610,0x61A),(0x64B,0x65F),(0x1AB0,0x1AFF),(0x1DC0,0x1DFF),(0x200B,0x200F),(0x20D0,0x20FF),(0xFE00,0xFE0F),(0xFE20,0xFE2F),(0xE0100,0xE01EF)]
def jT:List (Int×Int):=[(0x1100,0x115F),(0x2E80,0x303E),(0x3041,0x33FF),(0x3400,0x4DBF),(0x4E00,0x9FFF),(0xA000,0xA4CF),(0xAC00,0xD7A3),(0xF900,0xFAFF),(0xFE30,0xFE6F),(0xFF00,0xFF60),(0xFFE0,0xFFE6),(0x1F300,0x1F64F),(0x1F900,0x1F9FF),(0x20000,0x3FFFD)]
def iI:List (Int×Int×Int):=[(0x300,0x36F,0),(0x483,0x489,0),(0x591,0x5BD,0),(0x610,0x61A,0),(0x64B,0x65F,0),(0x1100,0x115F,2),(0x1AB0,0x1AFF,0),(0x1DC0,0x1DFF,0),(0x200B,0x200F,0),(0x20D0,0x20FF,0),(0x2E80,0x303E,2),(0x3041,0x33FF,2),(0x3400,0x4DBF,2),(0x4E00,0x9FFF,2),(0xA000,0xA4CF,2),(0xAC00,0xD7A3,2),(0xF900,0xFAFF,2),(0xFE00,0xFE0F,0),(0xFE20,0xFE2F,0),(0xFE30,0xFE6F,2),(0xFF00,0xFF60,2),(0xFFE0,0xFFE6,2),(0x1F300,0x1F64F,2),(0x1F900,0x1F9FF,2),(0x20000,0x3FFFD,2),(0xE0100,0xE01EF,0)]
def Px(r:Int)(l:List (Int×Int)):Bool:=l.any fun p=>decide (p.1<=r/\r<=p.2)
theorem lC  r   l  :Px r l=true↔∃p∈l,p.1<=r/\r<=p.2:=by simp[Px]
def lW(r:Int):Int:=if Px r iL=true then 0 else if Px r jT=true then 2 else 1
theorem _i  r  :0<=lW r/\lW r<=2:=by grind[lW]
theorem Rl:∀z∈iL,∀q∈jT,z.2<q.1\/q.2<z.1:=by decide+kernel
theorem Hz:∀s∈iI,(s.2.2=0/\(s.1,s.2.1)∈iL)\/(s.2.2=2/\(s.1,s.2.1)∈jT):=by decide+kernel
theorem Rk:∀z∈iL,z=(10,10)\/(z.1,z.2,0)∈iI:=by decide+kernel
theorem Rh:∀z∈jT,(z.1,z.2,2)∈iI:=by decide+kernel
theorem Rg  r   s  (hs:s∈iI) (h0:s.1<=r) (h1:r<=s.2.1):lW r=s.2.2:=by
 unfold lW;rcases Hz s hs with⟨e,hz⟩|⟨e,hz⟩;·grind[lC,iL]
 ·rw[if_neg,if_pos ((lC r jT).2 ⟨_,hz,h0,h1⟩),e];intro h;obtain⟨p,hp,a,b⟩:=(lC r iL).1 h;have:=Rl p hp _ hz;omega
theorem Rf  r  (dI:r≠10) (h:∀s∈iI,¬(s.1<=r/\r<=s.2.1)):lW r=1:=by
 unfold lW;rw[if_neg,if_neg];·intro k;obtain⟨p,hp,a,b⟩:=(lC r jT).1 k;exact h _ (Rh p hp) ⟨a,b⟩
 ·intro k;obtain⟨p,hp,a,b⟩:=(lC r iL).1 k;rcases Rk p hp with e|e;all_goals grind
theorem VV:lW 10=0:=by decide+kernel
def dx(i:Nat):Int×Int×Int:=iI.getD i (0,0,0)
theorem Hx{i}(h:i<26):dx i∈iI:=by have hl:i<iI.length:=h;grind[dx]
theorem GR{s}(h:s∈iI):∃i,i<26/\dx i=s:=by obtain⟨i,hi,e⟩:=sY.1 h;refine⟨i,hi,?_⟩;grind[dx]
theorem H6:∀i:Fin 26,∀j,i<j->(dx i).2.1<(dx j).1:=by decide+kernel
theorem Mj:∀i:Fin 26,(dx i).1<=(dx i).2.1:=by decide+kernel
theorem rise{i j}(hi:i<j)(hj:j<26):(dx i).2.1<(dx j).1:=H6 ⟨i,by omega⟩ ⟨j,hj⟩ hi
theorem fit{i}(hi:i<26):(dx i).1<=(dx i).2.1:=Mj ⟨i,hi⟩
def zB(r:Int)(lo hi:Nat):Prop:=(∀i,i<lo->(dx i).2.1<r)/\∀i,hi<=i->i<26->r<(dx i).1
theorem half_start  r  :zB r 0 26:=⟨fun i h=>by omega,fun i h k=>by omega⟩
theorem OQ{r}{lo hi ff}(h:zB r lo hi)(hm:ff<26)(hr:(dx ff).2.1<r):zB r (ff+1) hi:=by
 refine⟨fun i hi=>?_,h.2⟩;by_cases e:i=ff;·grind
 ·have:=rise (i:=i) (j:=ff) (by omega) hm;have:=fit (i:=ff) hm;omega
theorem KX{r}{lo hi ff}(h:zB r lo hi)(hm:ff<26)(hr:r<(dx ff).1):zB r lo ff:=by
 refine⟨h.1,fun i hi hk=>?_⟩;by_cases e:i=ff;·subst e;exact hr
 ·have:=rise (i:=ff) (j:=i) (by omega) hk;have:=fit (i:=ff) hm;omega
theorem half_end{r}{lo hi}(h:zB r lo hi)(hl:hi<=lo)(dI:r≠10):lW r=1:=by
 refine Rf r dI fun s hs=>?_;obtain⟨i,hi,rfl⟩:=GR hs;rintro⟨a,b⟩;by_cases e:i<lo;·have:=h.1 i e;omega
 ·have:=h.2 i (by omega) hi;omega
def mL(l:List (Int×Int)):List Int:=l.flatMap fun p=>[p.1,p.2]
theorem sj  l  :(mL l).length=2*l.length:=by
 induction l with
 |nil=>rfl
 |cons p l ih=>grind[mL]
theorem TW  l   k  :(mL l)[2*k]?.getD 0=(l.getD k (0,0)).1/\(mL l)[2*k+1]?.getD 0=(l.getD k (0,0)).2:=by
 induction l generalizing k with
 |nil=>simp[mL]
 |cons p l ih=>
  cases k with
  |zero=>simp[mL]
  |succ k=>have:=ih k;have e:mL (p::l)=p.1::p.2::mL l:=rfl;rw[e,show 2*(k+1)=2*k+1+1 by omega];simpa using this
