import Derived.Lib.RuneBytes
import Derived.Laws.RangeAny
set_option linter.unusedVariables false
set_option maxRecDepth 100000
set_option maxHeartbeats 16000000
namespace Go.Proofs.YtmbefonnkkhfgaaGreatDoor
section
def byt(l:List UInt8)(k:Nat):Nat:=(l.getD k 0).toNat
theorem byt_lt(l:List UInt8)(k:Nat):byt l k<256:=by unfold byt;exact UInt8.toNat_lt _
def cnt(l:List UInt8)(k:Nat):Bool:=decide (k<l.length)&&(byt l k/64==2)
def dec(l:List UInt8):Nat×Nat:=
 if byt l 0<0x80 then(byt l 0,1)
 else if byt l 0/32==6&&cnt l 1 then
  (if(byt l 0 %32)*64+byt l 1 %64≥0x80 then((byt l 0 %32)*64+byt l 1 %64,2)else(65533,1))
 else if byt l 0/16==14&&cnt l 1&&cnt l 2 then
  (if(byt l 0 %16)*4096+(byt l 1 %64)*64+byt l 2 %64≥0x800&&Utf8.valid ((byt l 0 %16)*4096+(byt l 1 %64)*64+byt l 2 %64:Nat)then((byt l 0 %16)*4096+(byt l 1 %64)*64+byt l 2 %64,3)else(65533,1))
 else if byt l 0/8==30&&cnt l 1&&cnt l 2&&cnt l 3 then
  (if(byt l 0 %8)*262144+(byt l 1 %64)*4096+(byt l 2 %64)*64+byt l 3 %64≥0x10000&&Utf8.valid ((byt l 0 %8)*262144+(byt l 1 %64)*4096+(byt l 2 %64)*64+byt l 3 %64:Nat)then((byt l 0 %8)*262144+(byt l 1 %64)*4096+(byt l 2 %64)*64+byt l 3 %64,4)else(65533,1))
 else(65533,1)
theorem get_byt(s:ByteArray)(i k:Nat):(s.get! (i+k)).toNat=byt (s.data.toList.drop i) k:=by unfold byt;congr 1;rw[List.getD_eq_getElem?_getD,List.getElem?_drop,Array.getElem?_toList];show s.data[i+k]! =_;rw[getElem!_def];cases s.data[i+k]?<;>rfl
theorem cont_cnt(s:ByteArray)(i k:Nat):(decide (i+k<s.size)&&(byt (s.data.toList.drop i) k/64==2))=cnt (s.data.toList.drop i) k:=by
 unfold cnt;have e:(s.data.toList.drop i).length=s.size-i:=by rw[List.length_drop,Array.length_toList];rfl
 rw[e,decide_eq_decide.2 (show i+k<s.size↔k<s.size-i by omega)]
theorem decode_dec(s:ByteArray)(i:Nat):Utf8.decode s i=dec (s.data.toList.drop i):=by unfold Utf8.decode dec;simp only[get_byt,cont_cnt,Utf8.runeError]
def mor(l:List UInt8)(k lo hi:Nat):Bool:=decide (k<l.length)&&decide (lo≤byt l k)&&decide (byt l k≤hi)
def seqN(c:Nat):Nat:=if 0xF0≤c then 4 else if 0xE0≤c then 3 else 2
def seqLo(c:Nat):Nat:=if c=0xE0 then 0xA0 else if c=0xF0 then 0x90 else 0x80
def seqHi(c:Nat):Nat:=if c=0xED then 0x9F else if c=0xF4 then 0x8F else 0xBF
def seq(l:List UInt8):Nat:=
 if byt l 0<0x80 then 1
 else if byt l 0<0xC2∨0xF4<byt l 0 then 0
 else if mor l 1 (seqLo (byt l 0)) (seqHi (byt l 0))=false then 0
 else if 2<seqN (byt l 0)∧mor l 2 0x80 0xBF=false then 0
 else if 3<seqN (byt l 0)∧mor l 3 0x80 0xBF=false then 0
 else seqN (byt l 0)
theorem lo_bd(c:Nat):(c=0xE0∧seqLo c=0xA0)∨(c=0xF0∧seqLo c=0x90)∨(c≠0xE0∧c≠0xF0∧seqLo c=0x80):=by
 unfold seqLo;by_cases a:c=0xE0;·simp[a]
 ·by_cases b:c=0xF0<;>simp[a,b]
theorem hi_bd(c:Nat):(c=0xED∧seqHi c=0x9F)∨(c=0xF4∧seqHi c=0x8F)∨(c≠0xED∧c≠0xF4∧seqHi c=0xBF):=by
 unfold seqHi;by_cases a:c=0xED;·simp[a]
 ·by_cases b:c=0xF4<;>simp[a,b]
theorem n_bd(c:Nat):(c<0xE0∧seqN c=2)∨(0xE0≤c∧c<0xF0∧seqN c=3)∨(0xF0≤c∧seqN c=4):=by
 unfold seqN;by_cases a:0xF0≤c;·simp[a]
 ·by_cases b:0xE0≤c<;>simp[a,b]<;>omega
theorem seqN_two{c:Nat}(h:c<0xE0):seqN c=2:=by have:=n_bd c;omega
theorem seqN_three{c:Nat}(h:0xE0≤c)(h1:c<0xF0):seqN c=3:=by have:=n_bd c;omega
theorem seqN_four{c:Nat}(h:0xF0≤c):seqN c=4:=by have:=n_bd c;omega
theorem seqLo_two{c:Nat}(h:c<0xE0):seqLo c=0x80:=by have:=lo_bd c;omega
theorem seqHi_two{c:Nat}(h:c<0xE0):seqHi c=0xBF:=by have:=hi_bd c;omega
theorem mor_iff(l:List UInt8)(k lo hi:Nat):mor l k lo hi=true↔k<l.length∧lo≤byt l k∧byt l k≤hi:=by simp[mor,and_assoc]
theorem cnt_iff(l:List UInt8)(k:Nat):cnt l k=true↔k<l.length∧0x80≤byt l k∧byt l k≤0xBF:=by unfold cnt;simp;omega
theorem valid_nat(n:Nat):Utf8.valid (n:Int)=true↔n<0xD800∨(0xE000≤n∧n≤0x10FFFF):=by unfold Utf8.valid;simp;omega
def val(l:List UInt8)(n:Nat):Nat:=
 if n=1 then byt l 0
 else if n=2 then(byt l 0 %32)*64+byt l 1 %64
 else if n=3 then(byt l 0 %16)*4096+(byt l 1 %64)*64+byt l 2 %64
 else(byt l 0 %8)*262144+(byt l 1 %64)*4096+(byt l 2 %64)*64+byt l 3 %64
theorem dec_one(l:List UInt8)(h:byt l 0<0x80):dec l=(byt l 0,1):=by simp[dec,h]
theorem dec_seq(l:List UInt8):dec l=if seq l=0 then(65533,1)else(val l (seq l),seq l):=by
 by_cases h0:byt l 0<0x80
 ·have e:seq l=1:=by simp[seq,h0]
  rw[e,dec_one l h0];simp[val]
 ·have hb:=byt_lt l 0;have hb1:=byt_lt l 1;have hb2:=byt_lt l 2;have hb3:=byt_lt l 3;have c1:=fun _:Unit=>cnt_iff l 1;have c2:=fun _:Unit=>cnt_iff l 2;have c3:=fun _:Unit=>cnt_iff l 3;unfold dec;rw[if_neg h0];by_cases hA:byt l 0<0xC2∨0xF4<byt l 0
  ·have e:seq l=0:=by simp[seq,h0,hA]
   rw[e,if_pos rfl];by_cases h2:(byt l 0/32==6&&cnt l 1)=true;·rw[if_pos h2];simp at h2;rw[if_neg (by omega)]
   ·rw[if_neg h2];by_cases h3:(byt l 0/16==14&&cnt l 1&&cnt l 2)=true;·simp at h3;omega
    ·rw[if_neg h3];by_cases h4:(byt l 0/8==30&&cnt l 1&&cnt l 2&&cnt l 3)=true;·rw[if_pos h4];simp at h4;rw[if_neg];simp only[Bool.and_eq_true,decide_eq_true_eq,valid_nat];omega
     ·rw[if_neg h4]
  ·have lo:=fun _:Unit=>mor_iff l 1 (seqLo (byt l 0)) (seqHi (byt l 0));have m2:=fun _:Unit=>mor_iff l 2 0x80 0xBF;have m3:=fun _:Unit=>mor_iff l 3 0x80 0xBF;have key:seq l=if mor l 1 (seqLo (byt l 0)) (seqHi (byt l 0))=false then 0 else if 2<seqN (byt l 0)∧mor l 2 0x80 0xBF=false then 0 else if 3<seqN (byt l 0)∧mor l 3 0x80 0xBF=false then 0 else seqN (byt l 0):=by simp only[seq,if_neg h0,if_neg hA]
   rw[key];clear key;generalize mor l 1 (seqLo (byt l 0)) (seqHi (byt l 0))=M1 at*;generalize mor l 2 0x80 0xBF=M2 at*;generalize mor l 3 0x80 0xBF=M3 at*;generalize cnt l 1=C1 at*;generalize cnt l 2=C2 at*;generalize cnt l 3=C3 at*;by_cases r2:byt l 0<0xE0
   ·have eN:=seqN_two r2;have eL:=seqLo_two r2;have eH:=seqHi_two r2;have lo':=lo ();rw[eL,eH]at lo';rw[eN];have eC:C1=M1:=by rw[Bool.eq_iff_iff,c1 (),lo']
    subst eC;have g2:(byt l 0/32==6)=true:=by simp;omega
    have g3:(byt l 0/16==14)=false:=by simp;omega
    have g4:(byt l 0/8==30)=false:=by simp;omega
    cases C1;·simp[g3,g4]
    ·have a1:=(c1 ()).1 rfl;simp only[g2,Bool.and_self,if_true];rw[if_pos (by omega)];simp[val]
   ·by_cases r3:byt l 0<0xF0
    ·have eN:=seqN_three (by omega) r3;rw[eN];have n2:¬(byt l 0/32==6&&C1)=true:=by simp;omega
     rw[if_neg n2];have eC:C2=M2:=by rw[Bool.eq_iff_iff,c2 (),m2 ()]
     subst eC;have g4:(byt l 0/8==30)=false:=by simp;omega
     have g3:(byt l 0/16==14)=true:=by simp;omega
     simp only[g4,g3,Bool.true_and,Bool.false_and];cases hM:M1
     ·subst hM;simp only[if_true,if_false,Bool.false_eq_true];by_cases h3:(C1&&C2)=true
      ·rw[if_pos h3];rw[if_neg];simp only[Bool.and_eq_true,decide_eq_true_eq,valid_nat];simp only[Bool.and_eq_true]at h3;have a1:=(c1 ()).1 h3.1;have lb:=lo_bd (byt l 0);have hb':=hi_bd (byt l 0);have nl:¬(1<l.length∧seqLo (byt l 0)≤byt l 1∧byt l 1≤seqHi (byt l 0)):=fun h=>by have:=(lo ()).2 h;cases this
       omega
      ·rw[if_neg h3]
     ·subst hM;have a1:=(lo ()).1 rfl;have lb:=lo_bd (byt l 0);have hb':=hi_bd (byt l 0);have b1:=(c1 ()).2 (by omega);rw[b1];cases hC:C2;·simp
      ·subst hC;have a2:=(c2 ()).1 rfl;simp only[Bool.and_self,if_true];rw[if_pos];·simp[val]
       ·simp only[Bool.and_eq_true,decide_eq_true_eq,valid_nat];omega
    ·have eN:seqN (byt l 0)=4:=seqN_four (by omega);rw[eN];have n2:¬(byt l 0/32==6&&C1)=true:=by simp;omega
     rw[if_neg n2];have eC:C2=M2:=by rw[Bool.eq_iff_iff,c2 (),m2 ()]
     subst eC;have eC3:C3=M3:=by rw[Bool.eq_iff_iff,c3 (),m3 ()]
     subst eC3;have g4:(byt l 0/8==30)=true:=by simp;omega
     have g3:(byt l 0/16==14)=false:=by simp;omega
     simp only[g4,g3,Bool.true_and,Bool.false_and,Bool.false_eq_true,if_false];cases hM:M1
     ·subst hM;simp only[if_true];by_cases h3:(C1&&C2&&C3)=true
      ·rw[if_pos h3];rw[if_neg];simp only[Bool.and_eq_true,decide_eq_true_eq,valid_nat];simp only[Bool.and_eq_true]at h3;have a1:=(c1 ()).1 h3.1.1;have lb:=lo_bd (byt l 0);have hb':=hi_bd (byt l 0);have nl:¬(1<l.length∧seqLo (byt l 0)≤byt l 1∧byt l 1≤seqHi (byt l 0)):=fun h=>by have:=(lo ()).2 h;cases this
       omega
      ·rw[if_neg h3]
     ·subst hM;have a1:=(lo ()).1 rfl;have lb:=lo_bd (byt l 0);have hb':=hi_bd (byt l 0);have b1:=(c1 ()).2 (by omega);rw[b1];cases hC:C2;·simp
      ·cases hC3:C3;·simp
       ·subst hC;subst hC3;simp only[Bool.and_self,if_true];rw[if_pos];·simp[val]
        ·simp only[Bool.and_eq_true,decide_eq_true_eq,valid_nat];omega
theorem dec_pos(l:List UInt8):1≤(dec l).2:=by
 rw[dec_seq];split;·exact Nat.le_refl _
 ·simp;omega
def shownI(r:Int):Int:=if(r<32∧r≠10)∨(127≤r∧r≤159)then 65533 else r
def runesF:Nat->List UInt8->List Int
 |0,_=>[]
 |_+1,[]=>[]
 |f+1,b::t=>shownI (dec (b::t)).1::runesF f ((b::t).drop (dec (b::t)).2)
theorem runesF_enough:∀(f g:Nat) (l:List UInt8),l.length≤f->l.length≤g->runesF f l=runesF g l
 |0,0,_,_,_=>rfl
 |0,g+1,l,h,_=>by have:l=[]:=List.length_eq_zero_iff.1 (by omega);subst this;rfl
 |f+1,0,l,_,h=>by have:l=[]:=List.length_eq_zero_iff.1 (by omega);subst this;rfl
 |f+1,g+1,[],_,_=>rfl
 |f+1,g+1,b::t,hf,hg=>by have hp:=dec_pos (b::t);simp only[List.length_cons]at hf hg;simp only[runesF];rw[runesF_enough f g _ (by rw[List.length_drop,List.length_cons];omega) (by rw[List.length_drop,List.length_cons];omega)]
def runes(l:List UInt8):List Int:=runesF l.length l
theorem runes_nil:runes []=[]:=rfl
theorem runes_step{l:List UInt8}(h:l≠[]):runes l=shownI (dec l).1::runes (l.drop (dec l).2):=by
 cases l with
 |nil=>exact absurd rfl h
 |cons b t=>have hp:=dec_pos (b::t);show runesF (t.length+1) (b::t)=_;simp only[runesF,runes];rw[runesF_enough t.length _ _ (by rw[List.length_drop,List.length_cons];omega) (Nat.le_refl _)]
theorem runes_length(l:List UInt8):(runes l).length≤l.length:=by
 generalize hn:l.length=n;induction n using Nat.strongRecOn generalizing l with
 |_ n ih=>
  by_cases h:l=[];·subst h;rw[runes_nil];simp
  ·rw[runes_step h];have hp:=dec_pos l;have hl:=List.length_pos_iff.2 h;have:=ih (l.drop (dec l).2).length (by rw[List.length_drop];omega) _ rfl;rw[List.length_drop]at this;simp only[List.length_cons];omega
theorem dec_val_le(l:List UInt8):(dec l).1≤2147483647:=by
 have hb:=byt_lt l 0;rw[dec_seq];by_cases h:seq l=0;·rw[if_pos h];simp
 ·rw[if_neg h];simp only[val];split;·omega
  ·split;·omega
   ·split<;>omega
end
section
def zerosL:List (Int×Int):=[(10,10),(0x300,0x36F),(0x483,0x489),(0x591,0x5BD),(0x610,0x61A),(0x64B,0x65F),(0x1AB0,0x1AFF),(0x1DC0,0x1DFF),(0x200B,0x200F),(0x20D0,0x20FF),(0xFE00,0xFE0F),(0xFE20,0xFE2F),(0xE0100,0xE01EF)]
def widesL:List (Int×Int):=[(0x1100,0x115F),(0x2E80,0x303E),(0x3041,0x33FF),(0x3400,0x4DBF),(0x4E00,0x9FFF),(0xA000,0xA4CF),(0xAC00,0xD7A3),(0xF900,0xFAFF),(0xFE30,0xFE6F),(0xFF00,0xFF60),(0xFFE0,0xFFE6),(0x1F300,0x1F64F),(0x1F900,0x1F9FF),(0x20000,0x3FFFD)]
def spansL:List (Int×Int×Int):=[(0x300,0x36F,0),(0x483,0x489,0),(0x591,0x5BD,0),(0x610,0x61A,0),(0x64B,0x65F,0),(0x1100,0x115F,2),(0x1AB0,0x1AFF,0),(0x1DC0,0x1DFF,0),(0x200B,0x200F,0),(0x20D0,0x20FF,0),(0x2E80,0x303E,2),(0x3041,0x33FF,2),(0x3400,0x4DBF,2),(0x4E00,0x9FFF,2),(0xA000,0xA4CF,2),(0xAC00,0xD7A3,2),(0xF900,0xFAFF,2),(0xFE00,0xFE0F,0),(0xFE20,0xFE2F,0),(0xFE30,0xFE6F,2),(0xFF00,0xFF60,2),(0xFFE0,0xFFE6,2),(0x1F300,0x1F64F,2),(0x1F900,0x1F9FF,2),(0x20000,0x3FFFD,2),(0xE0100,0xE01EF,0)]
def inL(r:Int)(l:List (Int×Int)):Bool:=l.any fun p=>decide (p.1≤r∧r≤p.2)
theorem inL_iff(r:Int)(l:List (Int×Int)):inL r l=true↔∃p∈l,p.1≤r∧r≤p.2:=by simp[inL]
def wid(r:Int):Int:=if inL r zerosL=true then 0 else if inL r widesL=true then 2 else 1
theorem wid_bd(r:Int):0≤wid r∧wid r≤2:=by
 unfold wid;split;·omega
 ·split<;>omega
theorem zw_apart:∀z∈zerosL,∀q∈widesL,z.2<q.1∨q.2<z.1:=by decide+kernel
theorem spans_kind:∀s∈spansL,(s.2.2=0∧(s.1,s.2.1)∈zerosL)∨(s.2.2=2∧(s.1,s.2.1)∈widesL):=by decide+kernel
theorem zeros_in:∀z∈zerosL,z=(10,10)∨(z.1,z.2,0)∈spansL:=by decide+kernel
theorem wides_in:∀z∈widesL,(z.1,z.2,2)∈spansL:=by decide+kernel
theorem wid_span(r:Int)(s:Int×Int×Int)(hs:s∈spansL)(h0:s.1≤r)(h1:r≤s.2.1):wid r=s.2.2:=by
 unfold wid;rcases spans_kind s hs with⟨e,hz⟩|⟨e,hz⟩;·rw[if_pos ((inL_iff r zerosL).2 ⟨_,hz,h0,h1⟩),e]
 ·rw[if_neg,if_pos ((inL_iff r widesL).2 ⟨_,hz,h0,h1⟩),e];intro h;obtain⟨p,hp,a,b⟩:=(inL_iff r zerosL).1 h;have:=zw_apart p hp _ hz;simp only at this;omega
theorem wid_none(r:Int)(h10:r≠10)(h:∀s∈spansL,¬(s.1≤r∧r≤s.2.1)):wid r=1:=by
 unfold wid;rw[if_neg,if_neg];·intro k;obtain⟨p,hp,a,b⟩:=(inL_iff r widesL).1 k;exact h _ (wides_in p hp) ⟨a,b⟩
 ·intro k;obtain⟨p,hp,a,b⟩:=(inL_iff r zerosL).1 k;rcases zeros_in p hp with e|e;·subst e;simp only at a b;omega
  ·exact h _ e ⟨a,b⟩
theorem wid_ten:wid 10=0:=by decide+kernel
def spanAt(i:Nat):Int×Int×Int:=spansL.getD i (0,0,0)
theorem spanAt_mem{i:Nat}(h:i<26):spanAt i∈spansL:=by have hl:i<spansL.length:=h;unfold spanAt;rw[List.getD_eq_getElem?_getD,List.getElem?_eq_getElem hl];exact List.getElem_mem hl
theorem mem_spanAt{s:Int×Int×Int}(h:s∈spansL):∃i,i<26∧spanAt i=s:=by obtain⟨i,hi,e⟩:=List.mem_iff_getElem.1 h;refine⟨i,hi,?_⟩;unfold spanAt;rw[List.getD_eq_getElem?_getD,List.getElem?_eq_getElem hi];exact e
theorem spans_rise:∀i:Fin 26,∀j:Fin 26,i<j->(spanAt i).2.1<(spanAt j).1:=by decide+kernel
theorem spans_fit:∀i:Fin 26,(spanAt i).1≤(spanAt i).2.1:=by decide+kernel
theorem rise{i j:Nat}(hi:i<j)(hj:j<26):(spanAt i).2.1<(spanAt j).1:=spans_rise ⟨i,by omega⟩ ⟨j,hj⟩ hi
theorem fit{i:Nat}(hi:i<26):(spanAt i).1≤(spanAt i).2.1:=spans_fit ⟨i,hi⟩
def Half(r:Int)(lo hi:Nat):Prop:=(∀i,i<lo->(spanAt i).2.1<r)∧∀i,hi≤i->i<26->r<(spanAt i).1
theorem half_start(r:Int):Half r 0 26:=⟨fun i h=>by omega,fun i h k=>by omega⟩
theorem half_low{r:Int}{lo hi mid:Nat}(h:Half r lo hi)(hm:mid<26)(hr:(spanAt mid).2.1<r):Half r (mid+1) hi:=by
 refine⟨fun i hi=>?_,h.2⟩;by_cases e:i=mid;·subst e;exact hr
 ·have:=rise (i:=i) (j:=mid) (by omega) hm;have:=fit (i:=mid) hm;omega
theorem half_high{r:Int}{lo hi mid:Nat}(h:Half r lo hi)(hm:mid<26)(hr:r<(spanAt mid).1):Half r lo mid:=by
 refine⟨h.1,fun i hi hk=>?_⟩;by_cases e:i=mid;·subst e;exact hr
 ·have:=rise (i:=mid) (j:=i) (by omega) hk;have:=fit (i:=mid) hm;omega
theorem half_end{r:Int}{lo hi:Nat}(h:Half r lo hi)(hl:hi≤lo)(h10:r≠10):wid r=1:=by
 refine wid_none r h10 fun s hs=>?_;obtain⟨i,hi,rfl⟩:=mem_spanAt hs;rintro⟨a,b⟩;by_cases e:i<lo;·have:=h.1 i e;omega
 ·have:=h.2 i (by omega) hi;omega
end
end Go.Proofs.YtmbefonnkkhfgaaGreatDoor
