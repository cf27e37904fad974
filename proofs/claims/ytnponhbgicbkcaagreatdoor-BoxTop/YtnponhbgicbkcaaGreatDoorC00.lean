import Derived.Lib.RuneBytes
import Derived.Laws.RangeAny
set_option linter.unusedVariables false
set_option maxRecDepth 100000
set_option maxHeartbeats 16000000
namespace Go.Proofs.YtnponhbgicbkcaaGreatDoor
section
def byt(l:List UInt8)(k:Nat):Nat:=(l.getD k 0).toNat
theorem z6b(l:List UInt8)(k:Nat):byt l k<256:=by unfold byt;exact UInt8.toNat_lt _
def cnt(l:List UInt8)(k:Nat):Bool:=decide (k<l.length)&&(byt l k / 64==2)
def dec(l:List UInt8):Nat×Nat :=
 if byt l 0<0x80 then (byt l 0,1)
 else if byt l 0 / 32==6&&cnt l 1 then
  (if (byt l 0 % 32)*64+byt l 1 % 64≥0x80 then ((byt l 0 % 32)*64+byt l 1 % 64,2) else (65533,1))
 else if byt l 0 / 16==14&&cnt l 1&&cnt l 2 then
  (if (byt l 0 % 16)*4096+(byt l 1 % 64)*64+byt l 2 % 64≥0x800&&Utf8.valid ((byt l 0 % 16)*4096+(byt l 1 % 64)*64+byt l 2 % 64:Nat) then ((byt l 0 % 16)*4096+(byt l 1 % 64)*64+byt l 2 % 64,3) else (65533,1))
 else if byt l 0 / 8==30&&cnt l 1&&cnt l 2&&cnt l 3 then
  (if (byt l 0 % 8)*262144+(byt l 1 % 64)*4096+(byt l 2 % 64)*64+byt l 3 % 64≥0x10000&&Utf8.valid ((byt l 0 % 8)*262144+(byt l 1 % 64)*4096+(byt l 2 % 64)*64+byt l 3 % 64:Nat) then ((byt l 0 % 8)*262144+(byt l 1 % 64)*4096+(byt l 2 % 64)*64+byt l 3 % 64,4) else (65533,1))
 else (65533,1)
theorem zrz(s : ByteArray)(i k : Nat) : (s.get! (i + k)).toNat = byt (s.data.toList.drop i) k := by
  unfold byt
  congr 1
  rw [List.getD_eq_getElem?_getD, List.getElem?_drop, Array.getElem?_toList]
  show s.data[i + k]! = _
  rw [getElem!_def]
  cases s.data[i + k]? <;> rfl
theorem zoh(s:ByteArray)(i k:Nat):(decide (i+k<s.size)&&(byt (s.data.toList.drop i) k / 64==2))=cnt (s.data.toList.drop i) k:=by
 unfold cnt
 have e:(s.data.toList.drop i).length=s.size - i:=by rw[List.length_drop,Array.length_toList];rfl
 rw[e,decide_eq_decide.2 (show i+k<s.size↔k<s.size - i by omega)]
theorem zi0(s:ByteArray)(i:Nat):Utf8.decode s i=dec (s.data.toList.drop i):=by
 unfold Utf8.decode dec
 simp only[zrz,zoh,Utf8.runeError]
def mor(l:List UInt8)(k lo hi:Nat):Bool:=decide (k<l.length)&&decide (lo≤byt l k)&&decide (byt l k≤hi)
def seqN(c:Nat):Nat:=if 0xF0≤c then 4 else if 0xE0≤c then 3 else 2
def z7w(c:Nat):Nat:=if c=0xE0 then 0xA0 else if c=0xF0 then 0x90 else 0x80
def z7v(c:Nat):Nat:=if c=0xED then 0x9F else if c=0xF4 then 0x8F else 0xBF
def seq(l:List UInt8):Nat :=
 if byt l 0<0x80 then 1
 else if byt l 0<0xC2∨0xF4<byt l 0 then 0
 else if mor l 1 (z7w (byt l 0)) (z7v (byt l 0))=false then 0
 else if 2<seqN (byt l 0)∧mor l 2 0x80 0xBF=false then 0
 else if 3<seqN (byt l 0)∧mor l 3 0x80 0xBF=false then 0
 else seqN (byt l 0)
theorem zm3(c:Nat):(c=0xE0∧z7w c=0xA0)∨(c=0xF0∧z7w c=0x90)∨(c≠0xE0∧c≠0xF0∧z7w c=0x80):=by
 unfold z7w;by_cases a:c=0xE0
 ·simp[a]
 ·by_cases b:c=0xF0 <;> simp[a,b]
theorem zle(c:Nat):(c=0xED∧z7v c=0x9F)∨(c=0xF4∧z7v c=0x8F)∨(c≠0xED∧c≠0xF4∧z7v c=0xBF):=by
 unfold z7v;by_cases a:c=0xED
 ·simp[a]
 ·by_cases b:c=0xF4 <;> simp[a,b]
theorem n_bd(c:Nat):(c<0xE0∧seqN c=2)∨(0xE0≤c∧c<0xF0∧seqN c=3)∨(0xF0≤c∧seqN c=4):=by
 unfold seqN;by_cases a:0xF0≤c
 ·simp[a]
 ·by_cases b:0xE0≤c <;> simp[a,b] <;> omega
theorem zq1{c:Nat}(h:c<0xE0):seqN c=2:=by have:=n_bd c;omega
theorem zjb{c:Nat}(h:0xE0≤c)(h1:c<0xF0):seqN c=3:=by have:=n_bd c;omega
theorem zmz{c:Nat}(h:0xF0≤c):seqN c=4:=by have:=n_bd c;omega
theorem zmy{c:Nat}(h:c<0xE0):z7w c=0x80:=by have:=zm3 c;omega
theorem zmx{c:Nat}(h:c<0xE0):z7v c=0xBF:=by have:=zle c;omega
theorem zc0(l:List UInt8)(k lo hi:Nat):mor l k lo hi=true↔k<l.length∧lo≤byt l k∧byt l k≤hi:=by
 simp[mor,and_assoc]
theorem z49(l:List UInt8)(k:Nat):cnt l k=true↔k<l.length∧0x80≤byt l k∧byt l k≤0xBF:=by
 unfold cnt;simp;omega
theorem z2e(n:Nat):Utf8.valid (n:Int)=true↔n<0xD800∨(0xE000≤n∧n≤0x10FFFF):=by
 unfold Utf8.valid;simp;omega
def val(l:List UInt8)(n:Nat):Nat :=
 if n=1 then byt l 0
 else if n=2 then (byt l 0 % 32)*64+byt l 1 % 64
 else if n=3 then (byt l 0 % 16)*4096+(byt l 1 % 64)*64+byt l 2 % 64
 else (byt l 0 % 8)*262144+(byt l 1 % 64)*4096+(byt l 2 % 64)*64+byt l 3 % 64
theorem zkj(l:List UInt8)(h:byt l 0<0x80):dec l=(byt l 0,1):=by simp[dec,h]
theorem zkk(l:List UInt8):dec l=if seq l=0 then (65533,1) else (val l (seq l),seq l):=by
 by_cases h0:byt l 0<0x80
 ·have e:seq l=1:=by simp[seq,h0]
  rw[e,zkj l h0];simp[val]
 ·have hb:=z6b l 0
  have hb1:=z6b l 1
  have hb2:=z6b l 2
  have hb3:=z6b l 3
  have c1:=fun _:Unit=>z49 l 1
  have c2:=fun _:Unit=>z49 l 2
  have c3:=fun _:Unit=>z49 l 3
  unfold dec
  rw[if_neg h0]
  by_cases hA:byt l 0<0xC2∨0xF4<byt l 0
  ·have e:seq l=0:=by simp[seq,h0,hA]
   rw[e,if_pos rfl]
   by_cases h2:(byt l 0 / 32==6&&cnt l 1)=true
   ·rw[if_pos h2]
    simp at h2
    rw[if_neg (by omega)]
   ·rw[if_neg h2]
    by_cases h3:(byt l 0 / 16==14&&cnt l 1&&cnt l 2)=true
    ·simp at h3;omega
    ·rw[if_neg h3]
     by_cases h4:(byt l 0 / 8==30&&cnt l 1&&cnt l 2&&cnt l 3)=true
     ·rw[if_pos h4]
      simp at h4
      rw[if_neg]
      simp only[Bool.and_eq_true,decide_eq_true_eq,z2e]
      omega
     ·rw[if_neg h4]
  ·have lo:=fun _:Unit=>zc0 l 1 (z7w (byt l 0)) (z7v (byt l 0))
   have m2:=fun _:Unit=>zc0 l 2 0x80 0xBF
   have m3:=fun _:Unit=>zc0 l 3 0x80 0xBF
   have key:seq l=if mor l 1 (z7w (byt l 0)) (z7v (byt l 0))=false then 0 else if 2<seqN (byt l 0)∧mor l 2 0x80 0xBF=false then 0 else if 3<seqN (byt l 0)∧mor l 3 0x80 0xBF=false then 0 else seqN (byt l 0):=by
    simp only[seq,if_neg h0,if_neg hA]
   rw[key]
   clear key
   generalize mor l 1 (z7w (byt l 0)) (z7v (byt l 0))=M1 at *
   generalize mor l 2 0x80 0xBF=M2 at *
   generalize mor l 3 0x80 0xBF=M3 at *
   generalize cnt l 1=C1 at *
   generalize cnt l 2=C2 at *
   generalize cnt l 3=C3 at *
   by_cases r2:byt l 0<0xE0
   ·have eN:seqN (byt l 0)=2:=zq1 r2
    have eL:z7w (byt l 0)=0x80:=zmy r2
    have eH:z7v (byt l 0)=0xBF:=zmx r2
    have lo':=lo ()
    rw[eL,eH] at lo'
    rw[eN]
    have eC:C1=M1:=by rw[Bool.eq_iff_iff,c1 (),lo']
    subst eC
    have g2:(byt l 0 / 32==6)=true:=by simp;omega
    have g3:(byt l 0 / 16==14)=false:=by simp;omega
    have g4:(byt l 0 / 8==30)=false:=by simp;omega
    cases C1
    ·simp[g3,g4]
    ·have a1:=(c1 ()).1 rfl
     simp only[g2,Bool.and_self,if_true]
     rw[if_pos (by omega)];simp[val]
   ·by_cases r3:byt l 0<0xF0
    ·have eN:seqN (byt l 0)=3:=zjb (by omega) r3
     rw[eN]
     have n2:¬(byt l 0 / 32==6&&C1)=true:=by simp;omega
     rw[if_neg n2]
     have eC:C2=M2:=by rw[Bool.eq_iff_iff,c2 (),m2 ()]
     subst eC
     have g4:(byt l 0 / 8==30)=false:=by simp;omega
     have g3:(byt l 0 / 16==14)=true:=by simp;omega
     simp only[g4,g3,Bool.true_and,Bool.false_and]
     cases hM:M1
     ·subst hM
      simp only[if_true,if_false,Bool.false_eq_true]
      by_cases h3:(C1&&C2)=true
      ·rw[if_pos h3]
       rw[if_neg]
       simp only[Bool.and_eq_true,decide_eq_true_eq,z2e]
       simp only[Bool.and_eq_true] at h3
       have a1:=(c1 ()).1 h3.1
       have lb:=zm3 (byt l 0)
       have hb':=zle (byt l 0)
       have nl:¬(1<l.length∧z7w (byt l 0)≤byt l 1∧byt l 1≤z7v (byt l 0)):=fun h=>by have:=(lo ()).2 h;cases this
       omega
      ·rw[if_neg h3]
     ·subst hM
      have a1:=(lo ()).1 rfl
      have lb:=zm3 (byt l 0)
      have hb':=zle (byt l 0)
      have b1:C1=true:=(c1 ()).2 (by omega)
      rw[b1]
      cases hC:C2
      ·simp
      ·subst hC
       have a2:=(c2 ()).1 rfl
       simp only[Bool.and_self,if_true]
       rw[if_pos]
       ·simp[val]
       ·simp only[Bool.and_eq_true,decide_eq_true_eq,z2e]
        omega
    ·have eN:seqN (byt l 0)=4:=zmz (by omega)
     rw[eN]
     have n2:¬(byt l 0 / 32==6&&C1)=true:=by simp;omega
     rw[if_neg n2]
     have eC:C2=M2:=by rw[Bool.eq_iff_iff,c2 (),m2 ()]
     subst eC
     have eC3:C3=M3:=by rw[Bool.eq_iff_iff,c3 (),m3 ()]
     subst eC3
     have g4:(byt l 0 / 8==30)=true:=by simp;omega
     have g3:(byt l 0 / 16==14)=false:=by simp;omega
     simp only[g4,g3,Bool.true_and,Bool.false_and,Bool.false_eq_true,if_false]
     cases hM:M1
     ·subst hM
      simp only[if_true]
      by_cases h3:(C1&&C2&&C3)=true
      ·rw[if_pos h3]
       rw[if_neg]
       simp only[Bool.and_eq_true,decide_eq_true_eq,z2e]
       simp only[Bool.and_eq_true] at h3
       have a1:=(c1 ()).1 h3.1.1
       have lb:=zm3 (byt l 0)
       have hb':=zle (byt l 0)
       have nl:¬(1<l.length∧z7w (byt l 0)≤byt l 1∧byt l 1≤z7v (byt l 0)):=fun h=>by have:=(lo ()).2 h;cases this
       omega
      ·rw[if_neg h3]
     ·subst hM
      have a1:=(lo ()).1 rfl
      have lb:=zm3 (byt l 0)
      have hb':=zle (byt l 0)
      have b1:C1=true:=(c1 ()).2 (by omega)
      rw[b1]
      cases hC:C2
      ·simp
      ·cases hC3:C3
       ·simp
       ·subst hC;subst hC3
        simp only[Bool.and_self,if_true]
        rw[if_pos]
        ·simp[val]
        ·simp only[Bool.and_eq_true,decide_eq_true_eq,z2e]
         omega
theorem z8z(l:List UInt8):1≤(dec l).2:=by
 rw[zkk];split
 ·exact Nat.le_refl _
 ·simp;omega
def z2v(r:Int):Int:=if (r<32∧r≠10)∨(127≤r∧r≤159) then 65533 else r
def z9x:Nat->List UInt8->List Int
 | 0,_=>[]
 | _+1,[]=>[]
 | f+1,b::t=>z2v (dec (b::t)).1::z9x f ((b::t).drop (dec (b::t)).2)
theorem z71:∀ (f g:Nat) (l:List UInt8),l.length≤f->l.length≤g->z9x f l=z9x g l
 | 0,0,_,_,_=>rfl
 | 0,g+1,l,h,_=>by
  have:l=[]:=List.length_eq_zero_iff.1 (by omega)
  subst this;rfl
 | f+1,0,l,_,h=>by
  have:l=[]:=List.length_eq_zero_iff.1 (by omega)
  subst this;rfl
 | f+1,g+1,[],_,_=>rfl
 | f+1,g+1,b::t,hf,hg=>by
  have hp:=z8z (b::t)
  simp only[List.length_cons] at hf hg
  simp only[z9x]
  rw[z71 f g _ (by rw[List.length_drop,List.length_cons];omega) (by rw[List.length_drop,List.length_cons];omega)]
def z0p(l:List UInt8):List Int:=z9x l.length l
theorem z73:z0p []=[]:=rfl
theorem z42{l:List UInt8}(h:l≠[]):z0p l=z2v (dec l).1::z0p (l.drop (dec l).2):=by
 cases l with
 | nil=>exact absurd rfl h
 | cons b t =>
  have hp:=z8z (b::t)
  show z9x (t.length+1) (b::t)=_
  simp only[z9x,z0p]
  rw[z71 t.length _ _ (by rw[List.length_drop,List.length_cons];omega) (Nat.le_refl _)]
theorem z26(l:List UInt8):(z0p l).length≤l.length:=by
 generalize hn:l.length=n
 induction n using Nat.strongRecOn generalizing l with
 | _ n ih =>
  by_cases h:l=[]
  ·subst h;rw[z73];simp
  ·rw[z42 h]
   have hp:=z8z l
   have hl:0<l.length:=List.length_pos_iff.2 h
   have:=ih (l.drop (dec l).2).length (by rw[List.length_drop];omega) _ rfl
   rw[List.length_drop] at this
   simp only[List.length_cons];omega
theorem zhz(l:List UInt8):(dec l).1≤2147483647:=by
 have hb:=z6b l 0
 rw[zkk]
 by_cases h:seq l=0
 ·rw[if_pos h];simp
 ·rw[if_neg h]
  simp only[val]
  split
  ·omega
  ·split
   ·omega
   ·split <;> omega
end
section
def za9:List (Int×Int):=[(10,10),(0x300,0x36F),(0x483,0x489),(0x591,0x5BD),(0x610,0x61A),(0x64B,0x65F),(0x1AB0,0x1AFF),(0x1DC0,0x1DFF),(0x200B,0x200F),(0x20D0,0x20FF),(0xFE00,0xFE0F),(0xFE20,0xFE2F),(0xE0100,0xE01EF)]
def zbb:List (Int×Int):=[(0x1100,0x115F),(0x2E80,0x303E),(0x3041,0x33FF),(0x3400,0x4DBF),(0x4E00,0x9FFF),(0xA000,0xA4CF),(0xAC00,0xD7A3),(0xF900,0xFAFF),(0xFE30,0xFE6F),(0xFF00,0xFF60),(0xFFE0,0xFFE6),(0x1F300,0x1F64F),(0x1F900,0x1F9FF),(0x20000,0x3FFFD)]
def z2x:List (Int×Int×Int):=[(0x300,0x36F,0),(0x483,0x489,0),(0x591,0x5BD,0),(0x610,0x61A,0),(0x64B,0x65F,0),(0x1100,0x115F,2),(0x1AB0,0x1AFF,0),(0x1DC0,0x1DFF,0),(0x200B,0x200F,0),(0x20D0,0x20FF,0),(0x2E80,0x303E,2),(0x3041,0x33FF,2),(0x3400,0x4DBF,2),(0x4E00,0x9FFF,2),(0xA000,0xA4CF,2),(0xAC00,0xD7A3,2),(0xF900,0xFAFF,2),(0xFE00,0xFE0F,0),(0xFE20,0xFE2F,0),(0xFE30,0xFE6F,2),(0xFF00,0xFF60,2),(0xFFE0,0xFFE6,2),(0x1F300,0x1F64F,2),(0x1F900,0x1F9FF,2),(0x20000,0x3FFFD,2),(0xE0100,0xE01EF,0)]
def inL(r:Int)(l:List (Int×Int)):Bool:=l.any fun p=>decide (p.1≤r∧r≤p.2)
theorem z97(r:Int)(l:List (Int×Int)):inL r l=true↔∃p∈l,p.1≤r∧r≤p.2:=by simp[inL]
def wid(r:Int):Int:=if inL r za9=true then 0 else if inL r zbb=true then 2 else 1
theorem zv3(r:Int):0≤wid r∧wid r≤2:=by
 unfold wid;split
 ·omega
 ·split <;> omega
theorem zqj:∀z∈za9,∀q∈zbb,z.2<q.1∨q.2<z.1:=by decide +kernel
theorem zje:∀s∈z2x,(s.2.2=0∧(s.1,s.2.1)∈za9)∨(s.2.2=2∧(s.1,s.2.1)∈zbb):=by decide +kernel
theorem zqi:∀z∈za9,z=(10,10)∨(z.1,z.2,0)∈z2x:=by decide +kernel
theorem zqg:∀z∈zbb,(z.1,z.2,2)∈z2x:=by decide +kernel
theorem zqf(r:Int)(s:Int×Int×Int)(hs:s∈z2x)(h0:s.1≤r)(h1:r≤s.2.1):wid r=s.2.2:=by
 unfold wid
 rcases zje s hs with ⟨e,hz⟩|⟨e,hz⟩
 ·rw[if_pos ((z97 r za9).2 ⟨_,hz,h0,h1⟩),e]
 ·rw[if_neg,if_pos ((z97 r zbb).2 ⟨_,hz,h0,h1⟩),e]
  intro h
  obtain⟨p,hp,a,b⟩:=(z97 r za9).1 h
  have:=zqj p hp _ hz
  simp only at this
  omega
theorem zqe(r:Int)(h10:r≠10)(h:∀s∈z2x,¬(s.1≤r∧r≤s.2.1)):wid r=1:=by
 unfold wid
 rw[if_neg,if_neg]
 ·intro k
  obtain⟨p,hp,a,b⟩:=(z97 r zbb).1 k
  exact h _ (zqg p hp) ⟨a,b⟩
 ·intro k
  obtain⟨p,hp,a,b⟩:=(z97 r za9).1 k
  rcases zqi p hp with e|e
  ·subst e;simp only at a b;omega
  ·exact h _ e ⟨a,b⟩
theorem ztd:wid 10=0:=by decide +kernel
def z17(i:Nat):Int×Int×Int:=z2x.getD i (0,0,0)
theorem zjd{i:Nat}(h:i<26):z17 i∈z2x:=by
 have hl:i<z2x.length:=h
 unfold z17
 rw[List.getD_eq_getElem?_getD,List.getElem?_eq_getElem hl]
 exact List.getElem_mem hl
theorem zin{s:Int×Int×Int}(h:s∈z2x):∃i,i<26∧z17 i=s:=by
 obtain⟨i,hi,e⟩:=List.mem_iff_getElem.1 h
 refine⟨i,hi,?_⟩
 unfold z17
 rw[List.getD_eq_getElem?_getD,List.getElem?_eq_getElem hi]
 exact e
theorem zjf:∀i:Fin 26,∀j:Fin 26,i<j->(z17 i).2.1<(z17 j).1:=by decide +kernel
theorem zn7:∀i:Fin 26,(z17 i).1≤(z17 i).2.1:=by decide +kernel
theorem rise{i j:Nat}(hi:i<j)(hj:j<26):(z17 i).2.1<(z17 j).1:=zjf ⟨i,by omega⟩ ⟨j,hj⟩ hi
theorem fit{i:Nat}(hi:i<26):(z17 i).1≤(z17 i).2.1:=zn7 ⟨i,hi⟩
def Half(r:Int)(lo hi:Nat):Prop:=(∀i,i<lo->(z17 i).2.1<r)∧∀i,hi≤i->i<26->r<(z17 i).1
theorem zi9(r:Int):Half r 0 26:=⟨fun i h=>by omega,fun i h k=>by omega⟩
theorem zox{r:Int}{lo hi mid:Nat}(h:Half r lo hi)(hm:mid<26)(hr:(z17 mid).2.1<r):Half r (mid+1) hi:=by
 refine⟨fun i hi=>?_,h.2⟩
 by_cases e:i=mid
 ·subst e;exact hr
 ·have:=rise (i:=i) (j:=mid) (by omega) hm
  have:=fit (i:=mid) hm
  omega
theorem zla{r:Int}{lo hi mid:Nat}(h:Half r lo hi)(hm:mid<26)(hr:r<(z17 mid).1):Half r lo mid:=by
 refine⟨h.1,fun i hi hk=>?_⟩
 by_cases e:i=mid
 ·subst e;exact hr
 ·have:=rise (i:=mid) (j:=i) (by omega) hk
  have:=fit (i:=mid) hm
  omega
theorem zow{r:Int}{lo hi:Nat}(h:Half r lo hi)(hl:hi≤lo)(h10:r≠10):wid r=1:=by
 refine zqe r h10 fun s hs=>?_
 obtain⟨i,hi,rfl⟩:=zin hs
 rintro ⟨a,b⟩
 by_cases e:i<lo
 ·have:=h.1 i e;omega
 ·have:=h.2 i (by omega) hi;omega
end
end Go.Proofs.YtnponhbgicbkcaaGreatDoor
