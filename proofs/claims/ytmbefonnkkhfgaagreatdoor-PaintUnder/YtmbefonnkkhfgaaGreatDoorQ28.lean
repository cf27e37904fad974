import Derived.Test.YtmbefonnkkhfgaaGreatDoorQ27
import Derived.Test.YtmbefonnkkhfgaaGreatDoorQ26
import Derived.Test.YtmbefonnkkhfgaaGreatDoorQ08
import Derived.Test.YtmbefonnkkhfgaaGreatDoorQ10
import Derived.Test.YtmbefonnkkhfgaaGreatDoorQ00
import Derived.Test.YtmbefonnkkhfgaaGreatDoorQ25
import Derived.Test.YtmbefonnkkhfgaaGreatDoorQ14
set_option linter.unusedVariables false
set_option maxRecDepth 100000
set_option maxHeartbeats 16000000
namespace Go.Proofs.YtmbefonnkkhfgaaGreatDoor
section
open Go.RowKit Go.Proofs.Tryz
def fltV(E:Nat->Addr):Flt->Value
 |none=>.nilIface
 |some (c,p)=>faultV (p:Int) (errV (E c))
structure Env(W:World)(rb ab B:Nat)(E:Nat->Addr):Prop where
 tab:Tab W ab
 lo:10≤rb
 rbB:rb<B
 abB:ab<B
 ne:ab≠rb
 le:B≤W.heap.size
 g2:W.cell? ⟨8,0,none⟩=some (errV (E 2))
 g3:W.cell? ⟨1,0,none⟩=some (errV (E 3))
 g4:W.cell? ⟨2,0,none⟩=some (errV (E 4))
 g5:W.cell? ⟨3,0,none⟩=some (errV (E 5))
 g6:W.cell? ⟨4,0,none⟩=some (errV (E 6))
 g7:W.cell? ⟨5,0,none⟩=some (errV (E 7))
theorem Env.fr{W W':World}{rb ab B:Nat}{E:Nat->Addr}(h:Env W rb ab B E)(f:Fr B rb W W'):Env W' rb ab B E:=by have lo:=h.lo;have rB:=h.rbB;exact⟨h.tab.fr f h.abB h.ne,h.lo,h.rbB,h.abB,h.ne,Nat.le_trans h.le f.size,f.cell h.g2 (by show 8<B;omega) (by show 8≠rb;omega),f.cell h.g3 (by show 1<B;omega) (by show 1≠rb;omega),f.cell h.g4 (by show 2<B;omega) (by show 2≠rb;omega),f.cell h.g5 (by show 3<B;omega) (by show 3≠rb;omega),f.cell h.g6 (by show 4<B;omega) (by show 4≠rb;omega),f.cell h.g7 (by show 5<B;omega) (by show 5≠rb;omega)⟩
def keepF(er:Flt)(eo:Option Nat)(p:Nat):Flt:=match eo with
 |none=>er
 |some c=>addF er c p
def eoV(E:Nat->Addr):Option Nat->Value
 |none=>.nilIface
 |some c=>errV (E c)
theorem keep_all(rb:Nat)(s:ByteArray)(i:Nat)(av nv:Value)(E:Nat->Addr)(er:Flt)(eo:Option Nat)(p:Nat)(w:World)(h:PR w rb s i av nv (fltV E er)):
 Calls prog 110 #[Pq rb,eoV E eo,Iq (p:Int)] w fun e w'=>e=.returned (.tuple #[])∧PR w' rb s i av nv (fltV E (keepF er eo p))∧w.grownBy w' (some rb):=by
 cases eo with
 |none=>exact keep_nil rb s i av nv _ p w h
 |some c=>
  cases er with
  |none=>exact keep_first rb s i av nv (E c) p w h
  |some f=>obtain⟨c2,p2⟩:=f;exact keep_later rb s i av nv (E c) (E c2) p p2 w h
structure F2(r b:Nat)(W W':World):Prop where
 os:W'.os=W.os
 tape:W'.tape=W.tape
 output:W'.output=W.output
 size:W.heap.size≤W'.heap.size
 block:∀k,k<W.heap.size->k≠r->k≠b->W'.heap[k]?=W.heap[k]?
theorem F2.trans{r b:Nat}{W W1 W2:World}(h:F2 r b W W1)(k:F2 r b W1 W2):F2 r b W W2:=
 ⟨k.os.trans h.os,k.tape.trans h.tape,k.output.trans h.output,Nat.le_trans h.size k.size,fun q h1 h2 h3=>(k.block q (Nat.lt_of_lt_of_le h1 h.size) h2 h3).trans (h.block q h1 h2 h3)⟩
theorem F2.left{r b:Nat}{W W':World}(h:W.grownBy W' (some r)):F2 r b W W':=⟨h.os,h.tape,h.output,h.size,fun k h1 h2 h3=>h.block k h1 (by simpa using h2)⟩
theorem F2.right{r b:Nat}{W W':World}(h:W.grownBy W' (some b)):F2 r b W W':=⟨h.os,h.tape,h.output,h.size,fun k h1 h2 h3=>h.block k h1 (by simpa using h3)⟩
theorem F2.below{r b:Nat}{W W':World}(h:Below W.heap.size W W'):F2 r b W W':=⟨h.os,h.tape,h.output,h.size,fun k h1 h2 h3=>h.block k h1⟩
theorem F2.fr{r b B:Nat}{W W':World}(h:F2 r b W W')(hB:B≤W.heap.size)(hb:B≤b):Fr B r W W':=⟨h.os,h.tape,h.output,h.size,fun k h1 h2=>h.block k (by omega) h2 (by omega)⟩
def aofO(name:ByteArray)(kind:Nat)(ws:List ByteArray):Option Nat:=match srchF name kind 12 0 with
 |none=>some 7
 |some _=>if 0≤findF ws name 0 then some 5 else none
def aofR(name:ByteArray)(kind:Nat):Nat:=(srchF name kind 12 0).getD 0
def setO(L:List Nd)(k:Nat)(n:Int):Option Nat:=if moAt k<n then some 6 else if setB L k n=true then some 5 else none
def pSet(L:List Nd)(j:Nat)(er:Flt)(at_:Nat)(t:ByteArray)(e j2 ix:Nat)(n:Int):Option Nat->Except Nat (Nat×Flt×List Nd×ByteArray)
 |some c=>.ok (e,keepF er (some c) at_,L,t)
 |none=>.ok (e,keepF er (setO L ix n) j2,setL L j ix n,t)
def pNum(s:ByteArray)(kind:Nat)(ws:List ByteArray)(L:List Nd)(j:Nat)(er:Flt)(at_:Nat)(t:ByteArray)(i2:Nat):Except Nat (Nat×Flt×List Nd×ByteArray):=
 if numBad s (sk s i2) (run digit s (sk s i2))=true then .error (sk s i2)else pSet L j er at_ t (run digit s (sk s i2)) (sk s i2) (aofR t kind) (dv s (sk s i2) (run digit s (sk s i2)-sk s i2)) (aofO t kind ws)
def pAttr(s:ByteArray)(kind:Nat)(ws:List ByteArray)(L:List Nd)(j i:Nat)(er:Flt):Except Nat (Nat×Flt×List Nd×ByteArray):=
 if run letter s (sk s i)=sk s i then .error (sk s i)
 else if isAt s (run letter s (sk s i)) 61=true then pNum s kind ws L j er (sk s i) (s.extract (sk s i) (run letter s (sk s i))) (gotI s (run letter s (sk s i)) 61)
 else .error (sk s (run letter s (sk s i)))
def RaOut(w w':World)(e:Ending)(rb B bl:Nat)(E:Nat->Addr)(s:ByteArray)(av nv:Value)(KV:Nat->Value)(r:Except Nat (Nat×Flt×List Nd×ByteArray)):Prop:=
 F2 rb bl w w'∧match r with
 |.error b=>e=.panicked [{v:=faultV (b:Int) (errV (E 2)),recovered:=false}]
 |.ok (i,er,L,name)=>e=.returned (.string name)∧PR w' rb s i av nv (fltV E er)∧PN w' B nv L KV
theorem srchF_lt(name:ByteArray)(kind:Nat):∀f j k,srchF name kind f j=some k->j≤k∧k<j+f
 |0,j,k,h=>by cases h
 |f+1,j,k,h=>by
  unfold srchF at h;split at h;·cases h;omega
  ·have:=srchF_lt name kind f (j+1) k h;omega
theorem setE_eo(L:List Nd)(k:Nat)(n:Int)(E:Nat->Addr):setE L k n (E 6) (E 5)=eoV E (setO L k n):=by
 unfold setE setO;split;·rfl
 ·split<;>rfl
end
section
open Go.RowKit Go.Proofs.Tryz
theorem aof_some{t:ByteArray}{kind c:Nat}{ws:List ByteArray}(E:Nat->Addr)(h:aofO t kind ws=some c):aofV t kind ws (E 7) (E 5)=.tuple #[zeroA,errV (E c)]:=by
 unfold aofO at h;unfold aofV;cases hs:srchF t kind 12 0 with
 |none=>rw[hs]at h;injection h with h;subst h;rfl
 |some q=>
  rw[hs]at h;by_cases hf:0≤findF ws t 0;·simp only[if_pos hf]at h⊢;injection h with h;subst h;rfl
  ·simp only[if_neg hf]at h;cases h
theorem aof_none{t:ByteArray}{kind:Nat}{ws:List ByteArray}(E:Nat->Addr)(h:aofO t kind ws=none):aofR t kind<12∧aofV t kind ws (E 7) (E 5)=.tuple #[rowA (aofR t kind),.nilIface]:=by
 unfold aofO at h;unfold aofV aofR;cases hs:srchF t kind 12 0 with
 |none=>rw[hs]at h;cases h
 |some q=>
  rw[hs]at h;by_cases hf:0≤findF ws t 0;·simp only[if_pos hf]at h;cases h
  ·have:=srchF_lt t kind 12 0 q hs;refine⟨by show q<12;omega,?_⟩;simp only[if_neg hf];rfl
theorem Txts.f2{W W':World}{v:Value}{ws:List ByteArray}{r b:Nat}(h:Txts W v ws)(f:F2 r b W W')(hr:∀q,v.ownBlock=some q->q≠r∧q≠b):Txts W' v ws:=by
 obtain⟨p,c,rfl,rfl|⟨blk,rfl,h1,h2⟩⟩:=h;·exact⟨p,c,rfl,.inl rfl⟩
 ·have:=hr blk rfl;exact⟨_,c,rfl,.inr ⟨blk,rfl,Nat.lt_of_lt_of_le h1 f.size,fun j hj=>(World.cell?_of_block (f.block blk h1 this.1 this.2)).trans (h2 j hj)⟩⟩
theorem readAttribute_any(rb ab B:Nat)(E:Nat->Addr)(s:ByteArray)(i:Nat)(er:Flt)(L:List Nd)(KV:Nat->Value)(bl cap j kind:Nat)(v:Value)(ws:List ByteArray)(w:World)(env:Env w rb ab B E)
 (h:PR w rb s i (Sq ab 12 12) (Sq bl L.length cap) (fltV E er)) (hn:PN w B (Sq bl L.length cap) L KV) (hL:L.length≤100000) (hj:j<L.length) (hkd:(nth L j).kind=kind) (hk7:kind<7)
 (hv:Txts w v ws) (hvr:∀q,v.ownBlock=some q->q≠rb∧q≠bl) (hwn:ws.length≤1099511627776) (hs:s.size≤1073741824) (hi:i≤s.size):
 Calls prog 146 #[Pq rb,.pointer (some ⟨bl,j*16,none⟩),v] w fun e w'=>RaOut w w' e rb B bl E s (Sq ab 12 12) (Sq bl L.length cap) KV (pAttr s kind ws L j i er):=by
 obtain⟨av,hav⟩:=nmd (Sq ab 12 12);obtain⟨nv,hnv⟩:=nmd (Sq bl L.length cap);have hrB:=env.rbB;have hlo:=env.lo;have CW:=readWord_any rb s i (Sq ab 12 12) (Sq bl L.length cap) (fltV E er) w h (by omega) hi;obtain⟨at_,hat⟩:=nmd (sk s i);have hatl:at_≤s.size:=by rw[<-hat];exact sk_le s i hi
 obtain⟨k,hk⟩:=nmd (run letter s at_);have hkl:k≤s.size:=by rw[<-hk];exact run_le _ _ _ hatl
 have hkg:at_≤k:=by rw[<-hk];exact run_ge _ _ _
 obtain⟨t,ht⟩:=nmd (s.extract at_ k);rw[hat,hk,ht]at CW;have HP:Hid (pAttr s kind ws L j i er=if k=at_ then .error at_ else if isAt s k 61=true then pNum s kind ws L j er at_ t (gotI s k 61)else .error (sk s k)):=by show _=_;unfold pAttr;rw[hat,hk,ht]
 have HCW:=qH<|CW;have HEV:=qH<|env;have HN:=qH<|hn;have HX:=qH<|hv;have hsz:t.size=k-at_:=by rw[<-ht];simp;omega
 have HKD:=qH<|hkd;obtain⟨pv,cv,hpv⟩:∃p c,v=.slice p ws.length c:=by obtain⟨p,c,e,_⟩:=hv;exact⟨p,c,e⟩
 subst hpv;by_cases hka:k=at_
 ·have HPE:Hid (pAttr s kind ws L j i er=.error at_):=by show _=_;rw[HP.out,if_pos hka]
  have et:t.toList.isEmpty=true:=by
   rw[ByteArray.toList_eq];have:t.data.size=0:=by show t.size=0;omega
   simp[Array.eq_empty_of_size_eq_zero this]
  have HT:Hid (∀W,W.cell? ⟨8,0,none⟩=some (errV (E 2))->Calls prog 60 #[Iq (at_:Int)] W fun e w'=>e=.returned (.iface 117 (.agg #[Iq (at_:Int),.iface 311 (.pointer (some (E 2)))]))∧w'=W):=fun W he=>noTree_any _ W (E 2) he;go_enter func146,ntmps146;go_wp2_with fail;refine HCW.mono ?_;rintro e w1 ⟨rfl,h1,g1⟩;have HG1:=qH<|g1;have HE1:=qH<|HEV.fr (Fr.grown g1 HEV.le);go_wp2_with fail;refine(HT _ HE1.g2).mono ?_;rintro e w2 ⟨rfl,hw⟩;obtain rfl:=hw.symm;go_wp2;refine⟨rfl,?_⟩;rw[HPE.out];exact⟨F2.left HG1,rfl⟩
 ·have HP2:Hid (pAttr s kind ws L j i er=if isAt s k 61=true then pNum s kind ws L j er at_ t (gotI s k 61)else .error (sk s k)):=by show _=_;rw[HP.out,if_neg hka]
  have et:t.toList.isEmpty=false:=by
   rw[ByteArray.toList_eq];have:t.data.size≠0:=by show t.size≠0;omega
   cases hd:t.data.toList with
   |nil=>exact absurd (by rw[<-Array.length_toList,hd];rfl) this
   |cons a r=>rfl
  go_enter func146,ntmps146;go_wp2_with fail;refine HCW.mono ?_;rintro e w1 ⟨rfl,h1,g1⟩;have HG1:=qH<|g1;have HE1:=qH<|HEV.fr (Fr.grown g1 HEV.le);have HN1:=qH<|HN.up (Up.grown g1 hrB);have HR1:=qH<|h1;have HX1:=qH<|HX.f2 (F2.left (b:=bl) g1) hvr;have ck:w1.cell? ⟨bl,j*16,none⟩=some (Iq (kind:Int)):=by have:=HN1.nr.cells bl rfl j hj 0 _ (pn_kind _ _);rw[HKD.out]at this;exact this
  have CA:=qH<|attributeOf_any rb ab s k _ _ kind t _ ws (E 7) (E 5) w1 h1 HE1.tab hk7 HX1 hwn HE1.g7 HE1.g5;go_wp2_with fail;refine CA.mono ?_;rintro e w2 ⟨rfl,hb2⟩;have HF2:Hid (F2 rb bl w w2):=(F2.left HG1).trans (F2.below hb2);have HE2:=qH<|HE1.fr (Fr.below hb2 HE1.le);have HN2:=qH<|HN1.up (Up.below hb2);have HR2:=qH<|HR1.below hb2;cases hao:aofO t kind ws with
  |some c=>
   have HAO:=qH<|hao;have HAV:Hid (aofV t kind ws (E 7) (E 5)=.tuple #[.agg #[.string ⟨#[]⟩,.int .u64 0,Iq 0,Iq 0,.bool false,.nilFunc],.iface 311 (.pointer (some (E c)))]):=aof_some E hao;rw[HAV.out];have HW3:Hid (Below w2.heap.size w2 (w2.alloc (.cells #[.string ⟨#[]⟩,.int .u64 0,Iq 0,Iq 0,.bool false,.nilFunc] 175))):=(Below.refl _ _).alloc (Nat.le_refl _) _;have CK:Hid (Calls prog 110 #[Pq rb,.iface 311 (.pointer (some (E c))),Iq (at_:Int)] (w2.alloc (.cells #[.string ⟨#[]⟩,.int .u64 0,Iq 0,Iq 0,.bool false,.nilFunc] 175)) fun e w'=>e=.returned (.tuple #[])∧PR w' rb s k (Sq ab 12 12) (Sq bl L.length cap) (fltV E (keepF er (some c) at_))∧(w2.alloc (.cells #[.string ⟨#[]⟩,.int .u64 0,Iq 0,Iq 0,.bool false,.nilFunc] 175)).grownBy w' (some rb)):=keep_all rb s k _ _ E er (some c) at_ _ (HR2.below HW3);go_wp2_with fail;refine CK.mono ?_;rintro e w4 ⟨rfl,h4,g4⟩;have HR4:=qH<|h4;have HF4:=qH<|HF2.trans ((F2.below HW3).trans (F2.left g4));have HE4:=qH<|(HE2.fr (Fr.below HW3 HE2.le)).fr (Fr.grown g4 (Nat.le_trans HE2.le HW3.size));have HN4:=qH<|(HN2.up (Up.below HW3)).up (Up.grown g4 hrB);by_cases hq:isAt s k 61=true
   ·have hi2:gotI s k 61≤s.size:=gotI_le (by omega) hkl;have CX:Hid (Calls prog 116 #[Pq rb,.int .u8 61] w4 fun e w'=>e=.returned (.tuple #[])∧PR w' rb s (gotI s k 61) (Sq ab 12 12) (Sq bl L.length cap) (fltV E (keepF er (some c) at_))∧w4.grownBy w' (some rb)):=expect_yes rb s k _ _ _ 61 w4 HR4 (by omega) hkl (by omega) hq;have HP3:Hid (pAttr s kind ws L j i er=pNum s kind ws L j er at_ t (gotI s k 61)):=by show _=_;rw[HP2.out,if_pos hq]
    obtain⟨i2,hi2e⟩:=nmd (gotI s k 61);rw[hi2e]at CX HP3 hi2;go_wp2_with fail;refine CX.mono ?_;rintro e w5 ⟨rfl,h5,g5⟩;have HF5:=qH<|HF4.trans (F2.left g5);have HE5:=qH<|HE4.fr (Fr.grown g5 HE4.le);have HN5:=qH<|HN4.up (Up.grown g5 hrB);have HR5:=qH<|h5;by_cases hb:run digit s (sk s i2)=sk s i2∨sk s i2+6<run digit s (sk s i2)∨(sk s i2+1<run digit s (sk s i2)∧bat s (sk s i2)=48)
    ·have CN:=qH<|readNumber_no rb s i2 _ _ _ (E 2) w5 HR5 (by omega) hi2 (by omega) HE5.g2 hb;have HP4:Hid (pAttr s kind ws L j i er=.error (sk s i2)):=by show _=_;rw[HP3.out];unfold pNum numBad;rw[if_pos (decide_eq_true hb)]
     go_wp2_with fail;refine CN.mono ?_;rintro e w6 ⟨rfl,g6⟩;refine⟨rfl,?_⟩;rw[HP4.out];exact⟨HF5.trans (F2.left g6),rfl⟩
    ·have CN:=qH<|readNumber_yes rb s i2 _ _ _ w5 HR5 (by omega) hi2 hb;have HP4:Hid (pAttr s kind ws L j i er=pSet L j er at_ t (run digit s (sk s i2)) (sk s i2) (aofR t kind) (dv s (sk s i2) (run digit s (sk s i2)-sk s i2)) ((some c))):=by show _=_;rw[HP3.out];unfold pNum numBad;rw[if_neg (by simpa using hb),HAO.out]
     obtain⟨n,hn⟩:=nmd (dv s (sk s i2) (run digit s (sk s i2)-sk s i2));obtain⟨j2,hj2⟩:=nmd (sk s i2);obtain⟨e2,he2⟩:=nmd (run digit s j2);rw[hn,hj2,he2]at CN HP4;go_wp2_with fail;refine CN.mono ?_;rintro e w6 ⟨rfl,h6,g6⟩;have HF6:=qH<|HF5.trans (F2.left g6);have HN6:=qH<|HN5.up (Up.grown g6 hrB);have HR6:=qH<|h6;go_wp2;go_ret;show RaOut _ _ _ _ _ _ _ _ _ _ _ _;rw[HP4.out];exact⟨HF6,rfl,HR6,HN6⟩
   ·have hq':isAt s k 61=false:=by simpa using hq
    have CX:Hid (Calls prog 116 #[Pq rb,.int .u8 61] w4 fun e w'=>e=.panicked [{v:=faultV (sk s k:Int) (errV (E 2)),recovered:=false}]∧w4.grownBy w' (some rb)):=expect_no rb s k _ _ _ (E 2) 61 w4 HR4 (by omega) hkl (by omega) hq' (by omega) HE4.g2;have HP3:Hid (pAttr s kind ws L j i er=.error (sk s k)):=by show _=_;rw[HP2.out,if_neg hq]
    go_wp2_with fail;refine CX.mono ?_;rintro e w5 ⟨rfl,g5⟩;refine⟨rfl,?_⟩;rw[HP3.out];exact⟨HF4.trans (F2.left g5),rfl⟩
  |none=>
   have HAO:=qH<|hao;obtain⟨hix,hav⟩:=aof_none E hao;obtain⟨ix,hixe⟩:=nmd (aofR t kind);have HIX:=qH<|hixe;rw[hixe]at hix hav;obtain⟨a0,a1,a2,a3,a4,g,hrow⟩:∃a0 a1 a2 a3 a4 g,rowA ix=.agg #[.string a0,.int .u64 ((a1:Nat):Int),Iq a2,Iq a3,.bool a4,.func (.func g) #[] #[]]:=⟨_,_,_,_,_,_,rfl⟩;have HROW:=qH<|hrow;rw[hrow]at hav;rw[hav];have HW3:Hid (Below w2.heap.size w2 (w2.alloc (.cells #[.string a0,.int .u64 (a1:Int),Iq a2,Iq a3,.bool a4,.func (.func g) #[] #[]] 175))):=(Below.refl _ _).alloc (Nat.le_refl _) _;have CK:Hid (Calls prog 110 #[Pq rb,.nilIface,Iq (at_:Int)] (w2.alloc (.cells #[.string a0,.int .u64 (a1:Int),Iq a2,Iq a3,.bool a4,.func (.func g) #[] #[]] 175)) fun e w'=>e=.returned (.tuple #[])∧PR w' rb s k (Sq ab 12 12) (Sq bl L.length cap) (fltV E (er))∧(w2.alloc (.cells #[.string a0,.int .u64 (a1:Int),Iq a2,Iq a3,.bool a4,.func (.func g) #[] #[]] 175)).grownBy w' (some rb)):=keep_all rb s k _ _ E er none at_ _ (HR2.below HW3);go_wp2_with fail;refine CK.mono ?_;rintro e w4 ⟨rfl,h4,g4⟩;have HR4:=qH<|h4;have HF4:=qH<|HF2.trans ((F2.below HW3).trans (F2.left g4));have HE4:=qH<|(HE2.fr (Fr.below HW3 HE2.le)).fr (Fr.grown g4 (Nat.le_trans HE2.le HW3.size));have HN4:=qH<|(HN2.up (Up.below HW3)).up (Up.grown g4 hrB);have HB4:=qH<|(g4.block _ (by simp) (by simp;have:=HR2.lt;omega)).trans (heap_alloc_new _ _);have hw2r:=HR2.lt;obtain⟨P3,hP3⟩:=nmd w2.heap.size;rw[hP3]at HB4;rw[hP3];have hP3r:P3≠rb:=by omega
   by_cases hq:isAt s k 61=true
   ·have hi2:gotI s k 61≤s.size:=gotI_le (by omega) hkl;have CX:Hid (Calls prog 116 #[Pq rb,.int .u8 61] w4 fun e w'=>e=.returned (.tuple #[])∧PR w' rb s (gotI s k 61) (Sq ab 12 12) (Sq bl L.length cap) (fltV E (er))∧w4.grownBy w' (some rb)):=expect_yes rb s k _ _ _ 61 w4 HR4 (by omega) hkl (by omega) hq;have HP3:Hid (pAttr s kind ws L j i er=pNum s kind ws L j er at_ t (gotI s k 61)):=by show _=_;rw[HP2.out,if_pos hq]
    obtain⟨i2,hi2e⟩:=nmd (gotI s k 61);rw[hi2e]at CX HP3 hi2;go_wp2_with fail;refine CX.mono ?_;rintro e w5 ⟨rfl,h5,g5⟩;have HF5:=qH<|HF4.trans (F2.left g5);have HE5:=qH<|HE4.fr (Fr.grown g5 HE4.le);have HN5:=qH<|HN4.up (Up.grown g5 hrB);have HR5:=qH<|h5;have HB5:=qH<|(g5.block _ (Array.getElem?_eq_some_iff.1 HB4).1 (by simp;omega)).trans HB4;by_cases hb:run digit s (sk s i2)=sk s i2∨sk s i2+6<run digit s (sk s i2)∨(sk s i2+1<run digit s (sk s i2)∧bat s (sk s i2)=48)
    ·have CN:=qH<|readNumber_no rb s i2 _ _ _ (E 2) w5 HR5 (by omega) hi2 (by omega) HE5.g2 hb;have HP4:Hid (pAttr s kind ws L j i er=.error (sk s i2)):=by show _=_;rw[HP3.out];unfold pNum numBad;rw[if_pos (decide_eq_true hb)]
     go_wp2_with fail;refine CN.mono ?_;rintro e w6 ⟨rfl,g6⟩;refine⟨rfl,?_⟩;rw[HP4.out];exact⟨HF5.trans (F2.left g6),rfl⟩
    ·have CN:=qH<|readNumber_yes rb s i2 _ _ _ w5 HR5 (by omega) hi2 hb;have HP4:Hid (pAttr s kind ws L j i er=pSet L j er at_ t (run digit s (sk s i2)) (sk s i2) (aofR t kind) (dv s (sk s i2) (run digit s (sk s i2)-sk s i2)) (none)):=by show _=_;rw[HP3.out];unfold pNum numBad;rw[if_neg (by simpa using hb),HAO.out]
     obtain⟨n,hn⟩:=nmd (dv s (sk s i2) (run digit s (sk s i2)-sk s i2));obtain⟨j2,hj2⟩:=nmd (sk s i2);obtain⟨e2,he2⟩:=nmd (run digit s j2);rw[hn,hj2,he2]at CN HP4;go_wp2_with fail;refine CN.mono ?_;rintro e w6 ⟨rfl,h6,g6⟩;have HF6:=qH<|HF5.trans (F2.left g6);have HE6:=qH<|HE5.fr (Fr.grown g6 HE5.le);have HN6:=qH<|HN5.up (Up.grown g6 hrB);have HR6:=qH<|h6;have HB6:=qH<|(g6.block _ (Array.getElem?_eq_some_iff.1 HB5).1 (by simp;omega)).trans HB5;have hb6:=HB6.out;have y0:w6.cell? ⟨P3,0,none⟩=some (.string a0):=by simp[World.cell?,hb6]
     have y1:w6.cell? ⟨P3,1,none⟩=some (.int .u64 (a1:Int)):=by simp[World.cell?,hb6]
     have y2:w6.cell? ⟨P3,2,none⟩=some (Iq a2):=by simp[World.cell?,hb6]
     have y3:w6.cell? ⟨P3,3,none⟩=some (Iq a3):=by simp[World.cell?,hb6]
     have y4:w6.cell? ⟨P3,4,none⟩=some (.bool a4):=by simp[World.cell?,hb6]
     have y5:w6.cell? ⟨P3,5,none⟩=some (.func (.func g) #[] #[]):=by simp[World.cell?,hb6]
     clear hb6;have CS:Hid (Calls prog 168 #[Pq rb,.pointer (some ⟨bl,j*16,none⟩),.agg #[.string a0,.int .u64 (a1:Int),Iq a2,Iq a3,.bool a4,.func (.func g) #[] #[]],Iq n] w6 fun e w'=>w6.grownBy w' (some bl)∧e=.returned (eoV E (setO L ix n))∧PR w' rb s e2 (Sq ab 12 12) (Sq bl L.length cap) (fltV E (er))∧PN w' B (Sq bl L.length cap) (setL L j ix n) KV):=by have hset:=set_any rb B s e2 (Sq ab 12 12) (fltV E (er)) L KV bl cap j ix hix n (E 6) (E 5) w6 HR6 HN6 hL hj hrB HE6.le (by omega) (by omega) (by omega) (by omega) HE6.g6 HE6.g5;rw[HROW.out]at hset;exact hset.mono fun e w' ⟨q1,q2,q3,q4,_⟩=>⟨q1,by rw[q2,setE_eo],q3,q4⟩
     go_wp2_with fail;refine CS.mono ?_;rintro e w7 ⟨g7,rfl,h7,n7⟩;have HF7:=qH<|HF6.trans (F2.right g7);have HN7:=qH<|n7;have CK2:=qH<|keep_all rb s e2 _ _ E (er) (setO L ix n) j2 w7 h7;clear g7 h7 n7 CS y0 y1 y2 y3 y4 y5;go_wp2_with fail;refine CK2.mono ?_;rintro e w8 ⟨rfl,h8,g8⟩;have HR8:=qH<|h8;have HF8:=qH<|HF7.trans (F2.left g8);have HN8:=qH<|HN7.up (Up.grown g8 hrB);clear h8 g8 CK2;go_wp2;go_ret;show RaOut _ _ _ _ _ _ _ _ _ _ _ _;rw[HP4.out,HIX.out];exact⟨HF8,rfl,HR8,HN8⟩
   ·have hq':isAt s k 61=false:=by simpa using hq
    have CX:Hid (Calls prog 116 #[Pq rb,.int .u8 61] w4 fun e w'=>e=.panicked [{v:=faultV (sk s k:Int) (errV (E 2)),recovered:=false}]∧w4.grownBy w' (some rb)):=expect_no rb s k _ _ _ (E 2) 61 w4 HR4 (by omega) hkl (by omega) hq' (by omega) HE4.g2;have HP3:Hid (pAttr s kind ws L j i er=.error (sk s k)):=by show _=_;rw[HP2.out,if_neg hq]
    clear hq hq' HP2;go_wp2_with fail;refine CX.mono ?_;rintro e w5 ⟨rfl,g5⟩;refine⟨rfl,?_⟩;rw[HP3.out];exact⟨HF4.trans (F2.left g5),rfl⟩
end
section
open Go.RowKit Go.Proofs.Tryz
def pClose(s:ByteArray)(i:Nat)(er:Flt)(L:List Nd):Except Nat (Nat×Flt×List Nd):=if isAt s i 125=true then .ok (gotI s i 125,er,L)else .error (sk s i)
def pAttrsF(s:ByteArray)(kind j:Nat):Nat->Nat->Flt->List Nd->List ByteArray->Except Nat (Nat×Flt×List Nd)
 |0,i,_,_,_=>.error i
 |f+1,i,er,L,ws=>match pAttr s kind ws L j i er with
  |.error b=>.error b
  |.ok (i2,er2,L2,t)=>if isAt s i2 59=true then pAttrsF s kind j f (gotI s i2 59) er2 L2 (ws++[t])else pClose s (gotI s i2 59) er2 L2
theorem setL_length(L:List Nd)(j k:Nat)(n:Int):(setL L j k n).length=L.length:=by unfold setL;split<;>simp
theorem setL_kind(L:List Nd)(j k q:Nat)(n:Int):(nth (setL L j k n) q).kind=(nth L q).kind:=by
 unfold setL;split;·rfl
 ·by_cases e:q=j
  ·subst e;by_cases h:q<L.length;·rw[nth_mod_same _ h]
   ·unfold nth;rw[List.getElem?_modify];simp[h]
  ·rw[nth_mod_other _ e]
theorem gotI_at{s:ByteArray}{i c:Nat}(h:isAt s i c=true):gotI s i c=sk s i+1:=by unfold isAt at h;unfold gotI;rw[if_pos (by simpa using h)]
theorem pAttr_bd{s:ByteArray}{kind:Nat}{ws:List ByteArray}{L:List Nd}{j i:Nat}{er:Flt}{i2:Nat}{er2:Flt}{L2:List Nd}{t:ByteArray}(hi:i≤s.size)(h:pAttr s kind ws L j i er=.ok (i2,er2,L2,t)):i<i2∧i2≤s.size∧L2.length=L.length∧∀q,(nth L2 q).kind=(nth L q).kind:=by
 unfold pAttr at h;have h1:=sk_ge s i;have h2:=sk_le s i hi;have h3:=run_ge letter s (sk s i);have h4:=run_le letter s (sk s i) h2;split at h;·cases h
 ·split at h
  ·rename_i hq;have h5:=gotI_at hq;have h6:=sk_ge s (run letter s (sk s i));have h7:=gotI_le (s:=s) (i:=run letter s (sk s i)) (c:=61) (by omega) h4;unfold pNum at h;have h8:=sk_ge s (gotI s (run letter s (sk s i)) 61);have h9:=sk_le s _ h7;have h10:=run_ge digit s (sk s (gotI s (run letter s (sk s i)) 61));have h11:=run_le digit s _ h9;split at h;·cases h
   ·unfold pSet at h;split at h;·injection h with h;injection h with e1 h;injection h with e2 h;injection h with e3 e4;subst e1 e3;exact⟨by omega,h11,rfl,fun _=>rfl⟩
    ·injection h with h;injection h with e1 h;injection h with e2 h;injection h with e3 e4;subst e1 e3;exact⟨by omega,h11,setL_length _ _ _ _,fun q=>setL_kind _ _ _ _ _⟩
  ·cases h
theorem infoStr:(prog.info? 9).map (fun i=>(i.zero,i.size,i.bytes))=some (some (.string ⟨#[]⟩),1,16):=by kernel_rfl
theorem txts_own{W:World}{B:Nat}{v:Value}{ws:List ByteArray}(h:W.ownsRow B 9 1 v ws.length (ws.map Value.string)):Txts W v ws:=by
 rcases own_form h with⟨rfl,h0⟩|⟨g,cap,rfl,h1,h2,_⟩;·have:ws=[]:=List.eq_nil_of_length_eq_zero h0;subst this;exact⟨_,_,rfl,.inl rfl⟩
 ·refine⟨_,_,rfl,.inr ⟨g,rfl,h2,fun j hj=>?_⟩⟩;rw[Nat.zero_add,h.cellAt j (by omega)];simp[hj]
theorem own_f2{W W':World}{B n size r b:Nat}{e:TypeId}{v:Value}{xs:List Value}(h:W.ownsRow B e size v n xs)(f:F2 r b W W')(hr:∀q,v.ownBlock=some q->q≠r∧q≠b):W'.ownsRow B e size v n xs:=by
 refine⟨h.1,?_⟩;rcases h.2 with h2|⟨g,cap,cur,rfl,b,c,d⟩;·exact .inl h2
 ·have:=hr g rfl;refine .inr ⟨g,cap,cur,rfl,b,?_,d⟩;rw[f.block g (Array.getElem?_eq_some_iff.1 c).1 this.1 this.2];exact c
structure F2'(N:Nat)(W W':World):Prop where
 os:W'.os=W.os
 tape:W'.tape=W.tape
 output:W'.output=W.output
 size:W.heap.size≤W'.heap.size
 block:∀k,k<N->k<W.heap.size->W'.heap[k]?=W.heap[k]?
theorem F2.plus{r b:Nat}{W0 W W':World}(h:F2 r b W0 W)(k:F2' W0.heap.size W W'):F2 r b W0 W':=
 ⟨k.os.trans h.os,k.tape.trans h.tape,k.output.trans h.output,Nat.le_trans h.size k.size,fun q h1 h2 h3=>(k.block q h1 (Nat.lt_of_lt_of_le h1 h.size)).trans (h.block q h1 h2 h3)⟩
theorem F2.other{W0 W W':World}{o:Option Nat}(h:W.grownBy W' o)(ho:∀q,o=some q->W0.heap.size≤q):F2' W0.heap.size W W':=⟨h.os,h.tape,h.output,h.size,fun k h1 h2=>h.block k h2 (fun e=>by have:=ho k e.symm;omega)⟩
theorem PN.beside{W W':World}{B:Nat}{nv:Value}{L:List Nd}{KV:Nat->Value}{v:Value}{N m sz:Nat}{xs:List Value}(h:PN W B nv L KV)(hv:W.ownsRow N 9 sz v m xs)(hg:W.grownBy W' v.ownBlock):PN W' B nv L KV:=by
 refine⟨?_,h.len⟩;obtain⟨ys,hx⟩:=h.nr.row;refine⟨⟨ys,hx.kept hg (own_apart hx hv (by decide))⟩,fun g hgg j hj t u htu=>?_,h.nr.len,fun j hj=>(h.nr.kids j hj).kept hg (own_apart (h.nr.kids j hj) hv (by decide)),h.nr.sep⟩;have hl:=hx.lt g hgg;rw[World.cell?_of_block (hg.block g hl.2 (by
  rcases own_apart hx hv (by decide)with e|e;·rw[hgg]at e;cases e
  ·rw[hgg]at e;exact e))];exact h.nr.cells g hgg j hj t u htu
def RsOut(w w':World)(e:Ending)(rb B bl:Nat)(E:Nat->Addr)(s:ByteArray)(av nv:Value)(KV:Nat->Value)(n:Nat)(r:Except Nat (Nat×Flt×List Nd)):Prop:=
 F2 rb bl w w'∧match r with
 |.error b=>e=.panicked [{v:=faultV (b:Int) (errV (E 2)),recovered:=false}]
 |.ok (i,er,L)=>e=.returned (.tuple #[])∧PR w' rb s i av nv (fltV E er)∧PN w' B nv L KV∧L.length=n
structure Ras(W0 W:World)(rb ab B bl n0 cap j kind:Nat)(E:Nat->Addr)(s:ByteArray)(i:Nat)(er:Flt)(L:List Nd)(KV:Nat->Value)(v:Value)(ws:List ByteArray):Prop where
 env:Env W rb ab B E
 pr:PR W rb s i (Sq ab 12 12) (Sq bl n0 cap) (fltV E er)
 pn:PN W B (Sq bl n0 cap) L KV
 len:L.length=n0
 kind:(nth L j).kind=kind
 row:W.ownsRow W0.heap.size 9 1 v ws.length (ws.map Value.string)
 wl:ws.length≤i
 il:i≤s.size
 fr:F2 rb bl W0 W
theorem readAttributes_any(rb ab B:Nat)(E:Nat->Addr)(s:ByteArray)(i:Nat)(er:Flt)(L:List Nd)(KV:Nat->Value)(bl cap j kind:Nat)(w:World)(env:Env w rb ab B E)
 (h:PR w rb s i (Sq ab 12 12) (Sq bl L.length cap) (fltV E er)) (hn:PN w B (Sq bl L.length cap) L KV) (hL:L.length≤100000) (hj:j<L.length) (hkd:(nth L j).kind=kind) (hk7:kind<7) (hs:s.size≤1073741824) (hi:i≤s.size):
 Calls prog 114 #[Pq rb,.pointer (some ⟨bl,j*16,none⟩)] w fun e w'=>RsOut w w' e rb B bl E s (Sq ab 12 12) (Sq bl L.length cap) KV L.length (pAttrsF s kind j (s.size+1) i er L []):=by
 obtain⟨R,hR⟩:=nmd (pAttrsF s kind j (s.size+1) i er L []);rw[hR];have hbl:=hn.nr.row.choose_spec.lt bl rfl;have hrl:=h.lt;obtain⟨n0,hn0⟩:=nmd L.length;rw[hn0]at h hn hL hj⊢;have H0:Hid (Ras w w rb ab B bl n0 cap j kind E s i er L KV (.slice none 0 0) []):=⟨env,h,hn,hn0,hkd,World.ownsRow_nil _ _ _ _,Nat.zero_le _,hi,F2.below (Below.refl _ _)⟩;have HR:=qH<|hR;obtain⟨i0,hi0,hz0,hz1,hz2⟩:=info_parts infoStr;have hrB:=env.rbB;have hlo:=env.lo;go_enter func114,ntmps114;go_wp2;go_loopw[4,5] (fun v b wr=>∃(i:Nat) (er:Flt) (L:List Nd) (ws:List ByteArray) (f:Nat) (m:Bool),b=.bool m∧Hid (Ras w wr rb ab B bl n0 cap j kind E s i er L KV v ws)∧s.size<f+i∧Hid ((if m=true then pAttrsF s kind j f i er L ws else pClose s i er L)=R)) (fun _ b wr=>2*(s.size-prI wr rb)+(match b with|.bool true=>1|_=>0));case atStart=>exact⟨i,er,L,[],s.size+1,true,rfl,H0,by omega,HR⟩
 case round=>
  obtain⟨i,er,L,ws,f,m,rfl,HS,hf,HRR⟩:=hrel;have hil:=HS.il;have hwl:=HS.wl;cases m with
  |true=>
   obtain⟨f,rfl⟩:∃q,f=q+1:=⟨f-1,by omega⟩;have hl:=HS.len;subst hl;have hor:∀q,u4.ownBlock=some q->q≠rb∧q≠bl:=fun q hq=>by have:=(HS.row.lt q hq).1;omega
   have CR:=qH<|readAttribute_any rb ab B E s i er L KV bl cap j kind u4 ws wr HS.env HS.pr HS.pn hL hj HS.kind hk7 (txts_own HS.row) hor (by omega) hs hil;cases hp:pAttr s kind ws L j i er with
   |error b=>
    have HRE:Hid (R=.error b):=by show _=_;rw[<-HRR.out];simp only[if_true];unfold pAttrsF;rw[hp]
    rw[hp]at CR;go_wp2_with fail;refine CR.mono ?_;rintro e w2 ⟨f2,rfl⟩;refine⟨rfl,?_⟩;rw[HRE.out];exact⟨HS.fr.trans f2,rfl⟩
   |ok r=>
    obtain⟨i2,er2,L2,t⟩:=r;obtain⟨b1,b2,b3,b4⟩:=pAttr_bd hil hp;have HRE:Hid ((if isAt s i2 59=true then pAttrsF s kind j f (gotI s i2 59) er2 L2 (ws++[t])else pClose s (gotI s i2 59) er2 L2)=R):=by
     show _=_;rw[<-HRR.out];simp only[if_true];conv=>rhs;unfold pAttrsF
     rw[hp]
    have HB4:Hid ((nth L2 j).kind=kind):=by show _=_;rw[b4];exact HS.kind
    have HB3:=qH<|b3;rw[hp]at CR;go_wp2_with fail;refine CR.mono ?_;rintro e w2 ⟨f2,rfl,h2,n2⟩;have HR2:=qH<|h2;have HN2:=qH<|n2;have HF2:=qH<|f2;have HO2:=qH<|own_f2 HS.row f2 hor;have hown2:=HO2.out;have hw2:=Nat.le_trans HS.fr.size f2.size;go_wp2_with(at_builtin;refine wpList_append_own _ rfl _ _ 99 rfl w.heap.size 9 i0 (.string ⟨#[]⟩) 1 16 underlying99 hi0 hz0 hz1 hz2 rfl (by decide) _ _ _ rfl (hown2.alloc _) _ 1 1 [.string t] rfl rfl ?c1 ?c2 ?c3 ?c4 ?c5 ?_);case c1=>exact cells_new _ _ _ _ rfl
    case c2=>intro u hu;simp at hu;subst hu;rfl
    case c3=>unfold maxLen;omega
    case c4=>omega
    case c5=>simp;omega
    intro v' w3 hown' hg _;have HA3:Hid (Below w2.heap.size w2 (w2.alloc (.cells #[.string t] 9))):=(Below.refl _ _).alloc (Nat.le_refl _) _;have hge:=fun q hq=>(hown2.lt q hq).1;have HR3:=qH<|PR.far (HR2.below HA3) hg hge hrl;have HN3:=qH<|(HN2.up (Up.below HA3)).beside (hown2.alloc _) hg;have HE3:=qH<|((HS.env.fr (HF2.fr HS.env.le hbl.1)).fr (Fr.below HA3 (Nat.le_trans HS.env.le HF2.size))).fr (Fr.own hg (by have:=HS.env.le;have:=HF2.size;simp;omega) (fun q hq=>by have:=hge q hq;have:=hbl.2;have:=HS.env.le;omega));have HF3:=qH<|(HS.fr.trans (HF2.trans (F2.below HA3))).plus (F2.other hg hge);have HO3:Hid (w3.ownsRow w.heap.size 9 1 v' (ws++[t]).length ((ws++[t]).map Value.string)):=by rw[List.length_append,List.map_append];exact hown'
    have CT:Hid (Calls prog 113 #[Pq rb,.int .u8 59] w3 fun e w'=>e=.returned (.bool (isAt s i2 59))∧PR w' rb s (gotI s i2 59) (Sq ab 12 12) (Sq bl L.length cap) (fltV E er2)∧w3.grownBy w' (some rb)):=takes_any rb s i2 _ _ _ 59 w3 HR3 (by omega) b2 (by omega);have hgl:gotI s i2 59≤s.size:=gotI_le (by omega) b2;have hgg:i2≤gotI s i2 59:=by unfold gotI;have:=sk_ge s i2;split<;>omega
    obtain⟨m',hm'⟩:=nmd (isAt s i2 59);obtain⟨i3,hi3⟩:=nmd (gotI s i2 59);rw[hm',hi3]at CT HRE;rw[hi3]at hgl hgg;go_wp2_with fail;refine CT.mono ?_;rintro e w4 ⟨rfl,h4,g4⟩;have HRD:=qH<|h4.prI;have HRD0:=qH<|HS.pr.prI;have HSN:Hid (Ras w w4 rb ab B bl L.length cap j kind E s i3 er2 L2 KV v' (ws++[t])):=⟨HE3.fr (Fr.grown g4 HE3.le),h4,HN3.up (Up.grown g4 hrB),HB3,HB4,own_f2 HO3 (F2.left (b:=bl) g4) (fun q hq=>by have:=(HO3.lt q hq).1;omega),by rw[List.length_append];simp;omega,hgl,HF3.trans (F2.left g4)⟩;go_wp2;go_roundw;case rel=>exact⟨i3,er2,L2,ws++[t],f,m',rfl,HSN,by omega,HRE⟩
    case measure=>rw[HRD.out,HRD0.out];cases m'<;>simp<;>omega
  |false=>
   have hl:=HS.len;subst hl;by_cases hq:isAt s i 125=true
   ·have CX:Hid (Calls prog 116 #[Pq rb,.int .u8 125] wr fun e w'=>e=.returned (.tuple #[])∧PR w' rb s (gotI s i 125) (Sq ab 12 12) (Sq bl L.length cap) (fltV E er)∧wr.grownBy w' (some rb)):=expect_yes rb s i _ _ _ 125 wr HS.pr (by omega) hil (by omega) hq;have HRE:Hid (R=.ok (gotI s i 125,er,L)):=by show _=_;rw[<-HRR.out];simp only[Bool.false_eq_true,if_false];unfold pClose;rw[if_pos hq]
    go_wp2_with fail;refine CX.mono ?_;rintro e w2 ⟨rfl,h2,g2⟩;have HO:Hid (RsOut w w2 (.returned (.tuple #[])) rb B bl E s (Sq ab 12 12) (Sq bl L.length cap) KV L.length R):=by show RsOut _ _ _ _ _ _ _ _ _ _ _ _ _;rw[HRE.out];exact⟨HS.fr.trans (F2.left g2),rfl,h2,HS.pn.up (Up.grown g2 hrB),rfl⟩
    go_wp2;go_end0;exact HO
   ·have hq':isAt s i 125=false:=by simpa using hq
    have CX:Hid (Calls prog 116 #[Pq rb,.int .u8 125] wr fun e w'=>e=.panicked [{v:=faultV (sk s i:Int) (errV (E 2)),recovered:=false}]∧wr.grownBy w' (some rb)):=expect_no rb s i _ _ _ (E 2) 125 wr HS.pr (by omega) hil (by omega) hq' (by omega) HS.env.g2;have HRE:Hid (R=.error (sk s i)):=by show _=_;rw[<-HRR.out];simp only[Bool.false_eq_true,if_false];unfold pClose;rw[if_neg hq]
    go_wp2_with fail;refine CX.mono ?_;rintro e w2 ⟨rfl,g2⟩;refine⟨rfl,?_⟩;rw[HRE.out];exact⟨HS.fr.trans (F2.left g2),rfl⟩
end
section
open Go.RowKit
def roomO(n depth:Nat):Option Nat:=if 100≤n then some 3 else if 12≤depth then some 4 else none
theorem room_eo(n depth:Nat)(E:Nat->Addr):roomV n depth (E 3) (E 4)=eoV E (roomO n depth):=by
 unfold roomV roomO;split;·rfl
 ·split<;>rfl
def pEnd(s:ByteArray)(st:PS)(c:Nat):Except Nat PS:=if isAt s st.i c=true then .ok {st with i:=gotI s st.i c}else .error (sk s st.i)
def pKidsF(s:ByteArray)(node:PS->Except Nat PS):Nat->PS->Except Nat PS
 |0,st=>.error st.i
 |f+1,st=>match node st with
  |.error b=>.error b
  |.ok st2=>if isAt s st2.i 44=true then pKidsF s node f {st2 with i:=gotI s st2.i 44}else pEnd s {st2 with i:=gotI s st2.i 44} 93
def pList(s:ByteArray)(node:PS->Except Nat PS)(st:PS):Except Nat PS:=
 if isAt s st.i 91=true then(if isAt s (gotI s st.i 91) 93=true then .ok {st with i:=gotI s (gotI s st.i 91) 93}else pKidsF s node (s.size+1) {st with i:=gotI s (gotI s st.i 91) 93})else .error (sk s st.i)
def pThen(r:Except Nat PS)(g:PS->Except Nat PS):Except Nat PS:=match r with
 |.error b=>.error b
 |.ok st=>g st
def pOne(s:ByteArray)(node:PS->Except Nat PS)(st:PS):Except Nat PS:=
 if isAt s st.i 91=true then pThen (node {st with i:=gotI s st.i 91}) fun st2=>pEnd s st2 93 else .error (sk s st.i)
def pText(s:ByteArray)(idx:Nat)(st:PS):Except Nat PS:=match quoR s st.i with
 |.error b=>.error b
 |.ok (i2,t)=>.ok {st with i:=i2,L:=withText st.L idx t}
def pBody(s:ByteArray)(kind idx:Nat)(node:PS->Except Nat PS)(st:PS):Except Nat PS:=
 if kind=5 then pText s idx st else if kind=6 then .ok st else if kind=3∨kind=4 then pOne s node st else pList s node st
def pBr(s:ByteArray)(kind idx i:Nat)(er:Flt)(L:List Nd):Except Nat PS:=
 if isAt s i 123=true then(match pAttrsF s kind idx (s.size+1) (gotI s i 123) er L []with
  |.error b=>.error b
  |.ok (i2,er2,L2)=>.ok ⟨i2,L2,er2⟩)else .ok ⟨gotI s i 123,L,er⟩
def wordAt(s:ByteArray)(i:Nat):ByteArray:=s.extract (sk s i) (run letter s (sk s i))
def kindAt(s:ByteArray)(i:Nat):Int:=findF kindsL (wordAt s i) 0
def pNodeF(s:ByteArray):Nat->Int->Nat->PS->Except Nat PS
 |0,_,_,st=>.error st.i
 |f+1,up,depth,st=>
  if kindAt s st.i<0 then .error (sk s st.i)else
  pThen (pBr s (kindAt s st.i).toNat st.L.length (run letter s (sk s st.i)) (keepF st.er (roomO st.L.length depth) (sk s st.i)) (grown st.L ⟨(kindAt s st.i).toNat,withoutL,[],[],up⟩)) fun st1=>pBody s (kindAt s st.i).toNat st.L.length (pNodeF s f (st.L.length:Int) (depth+1)) st1
structure TGood(s:ByteArray)(st:PS):Prop where
 il:st.i≤s.size
 ll:st.L.length≤st.i
 kl:∀j,(nth st.L j).kids.length≤st.L.length
structure Fwd(s:ByteArray)(st st':PS):Prop where
 good:TGood s st'
 ge:st.i≤st'.i
 lg:st.L.length≤st'.L.length
theorem gotI_ge(s:ByteArray)(i c:Nat):i≤gotI s i c:=by unfold gotI;have:=sk_ge s i;split<;>omega
theorem TGood.at{s:ByteArray}{st:PS}(h:TGood s st){c:Nat}(hc:c<256):TGood s {st with i:=gotI s st.i c}:=
 ⟨gotI_le hc h.il,Nat.le_trans h.ll (gotI_ge _ _ _),h.kl⟩
theorem pEnd_fwd{s:ByteArray}{st st':PS}{c:Nat}(hc:c<256)(h:TGood s st)(e:pEnd s st c=.ok st'):Fwd s st st'∧st.i<st'.i:=by
 unfold pEnd at e;split at e;·rename_i hq;injection e with e;subst e;have:=gotI_at hq;have:=sk_ge s st.i;exact⟨⟨h.at hc,gotI_ge _ _ _,Nat.le_refl _⟩,by show st.i<gotI s st.i c;omega⟩
 ·cases e
theorem Fwd.trans{s:ByteArray}{a b c:PS}(h:Fwd s a b)(k:Fwd s b c):Fwd s a c:=⟨k.good,Nat.le_trans h.ge k.ge,Nat.le_trans h.lg k.lg⟩
theorem kids_fwd{s:ByteArray}{N:Nat}{node:PS->Except Nat PS}(hnode:∀a b,TGood s a->N≤a.L.length->node a=.ok b->Fwd s a b∧a.i<b.i):∀f st st',TGood s st->N≤st.L.length->pKidsF s node f st=.ok st'->Fwd s st st'∧st.i<st'.i
 |0,st,st',h,hN,e=>by cases e
 |f+1,st,st',h,hN,e=>by
  unfold pKidsF at e;split at e;·cases e
  ·rename_i st2 he;obtain⟨h2,l2⟩:=hnode _ _ h hN he;have hg:=h2.good.at (c:=44) (by omega);have h3:Fwd s st {st2 with i:=gotI s st2.i 44}:=⟨hg,Nat.le_trans h2.ge (gotI_ge _ _ _),h2.lg⟩;have l3:st.i<gotI s st2.i 44:=Nat.lt_of_lt_of_le l2 (gotI_ge _ _ _);split at e;·obtain⟨h4,l4⟩:=kids_fwd hnode f _ _ hg (Nat.le_trans hN h2.lg) e;exact⟨h3.trans h4,Nat.lt_trans l3 l4⟩
   ·obtain⟨h4,l4⟩:=pEnd_fwd (by omega) hg e;exact⟨h3.trans h4,Nat.lt_trans l3 l4⟩
end
section
open Go.RowKit
section
variable{s:ByteArray} {N:Nat} {node:PS->Except Nat PS}
theorem list_fwd(hnode:∀a b,TGood s a->N≤a.L.length->node a=.ok b->Fwd s a b∧a.i<b.i){st st':PS}(h:TGood s st)(hN:N≤st.L.length)(e:pList s node st=.ok st'):Fwd s st st':=by
 unfold pList at e;have h1:=h.at (c:=91) (by omega);have h2:=h1.at (c:=93) (by omega);have g1:=gotI_ge s st.i 91;have g2:=gotI_ge s (gotI s st.i 91) 93;have f2:Fwd s st {st with i:=gotI s (gotI s st.i 91) 93}:=⟨h2,Nat.le_trans g1 g2,Nat.le_refl _⟩;split at e
 ·split at e;·injection e with e;subst e;exact f2
  ·exact f2.trans (kids_fwd hnode _ _ _ h2 hN e).1
 ·cases e
theorem one_fwd(hnode:∀a b,TGood s a->N≤a.L.length->node a=.ok b->Fwd s a b∧a.i<b.i){st st':PS}(h:TGood s st)(hN:N≤st.L.length)(e:pOne s node st=.ok st'):Fwd s st st':=by
 unfold pOne at e;have h1:=h.at (c:=91) (by omega);have f1:Fwd s st {st with i:=gotI s st.i 91}:=⟨h1,gotI_ge _ _ _,Nat.le_refl _⟩;split at e
 ·unfold pThen at e;split at e;·cases e
  ·rename_i st2 he;obtain⟨h2,_⟩:=hnode _ _ h1 hN he;exact f1.trans (h2.trans (pEnd_fwd (by omega) h2.good e).1)
 ·cases e
theorem qF_bd:∀f p acc i t,p≤s.size->qF s f p acc=.ok (i,t)->p<i∧i≤s.size
 |0,p,acc,i,t,hp,h=>by cases h
 |f+1,p,acc,i,t,hp,h=>by
  have hin:∀q,bat s q≠256->q<s.size:=fun q hq=>by
   by_cases hh:q<s.size;·exact hh
   ·exact absurd (bat_out hh) hq
  unfold qF at h;split at h;·cases h
  ·rename_i h0;have:=hin p h0;split at h;·injection h with h;injection h with h1 h2;omega
   ·split at h
    ·split at h;·rename_i hq;have:=hin (p+1) (by omega);have:=qF_bd f (p+2) _ i t (by omega) h;omega
     ·split at h;·rename_i hq;have:=hin (p+1) (by omega);have:=qF_bd f (p+2) _ i t (by omega) h;omega
      ·cases h
    ·have:=qF_bd f (p+1) _ i t (by omega) h;omega
theorem nth_text_kids(L:List Nd)(k j:Nat)(t:List UInt8):(nth (withText L k t) j).kids=(nth L j).kids:=by
 unfold withText;by_cases e:j=k
 ·subst e;by_cases h:j<L.length;·rw[nth_mod_same _ h]
  ·unfold nth;rw[List.getElem?_modify];simp[h]
 ·rw[nth_mod_other _ e]
theorem text_fwd{idx:Nat}{st st':PS}(h:TGood s st)(e:pText s idx st=.ok st'):Fwd s st st':=by
 unfold pText quoR at e;split at e;·cases e
 ·rename_i i2 t he;injection e with e;subst e;split at he
  ·have g:=qF_bd _ _ _ _ _ (gotI_le (by omega) h.il) he;have g2:=gotI_ge s st.i 34;refine⟨⟨g.2,?_,fun j=>?_⟩,by show st.i≤i2;omega,by show st.L.length≤(withText st.L idx t).length;unfold withText;simp⟩;·show(withText st.L idx t).length≤i2;unfold withText;have:=h.ll;simp;omega
   ·show(nth (withText st.L idx t) j).kids.length≤(withText st.L idx t).length;rw[nth_text_kids];unfold withText;simpa using h.kl j
  ·cases he
theorem body_fwd(hnode:∀a b,TGood s a->N≤a.L.length->node a=.ok b->Fwd s a b∧a.i<b.i){kind idx:Nat}{st st':PS}(h:TGood s st)(hN:N≤st.L.length)(e:pBody s kind idx node st=.ok st'):Fwd s st st':=by
 unfold pBody at e;split at e;·exact text_fwd h e
 ·split at e;·injection e with e;subst e;exact⟨h,Nat.le_refl _,Nat.le_refl _⟩
  ·split at e;·exact one_fwd hnode h hN e
   ·exact list_fwd hnode h hN e
end
theorem setL_kids(L:List Nd)(j k q:Nat)(n:Int):(nth (setL L j k n) q).kids=(nth L q).kids:=by
 unfold setL;split;·rfl
 ·by_cases e:q=j
  ·subst e;by_cases h:q<L.length;·rw[nth_mod_same _ h]
   ·unfold nth;rw[List.getElem?_modify];simp[h]
  ·rw[nth_mod_other _ e]
theorem pAttr_kids{s:ByteArray}{kind:Nat}{ws:List ByteArray}{L:List Nd}{j i:Nat}{er:Flt}{i2:Nat}{er2:Flt}{L2:List Nd}{t:ByteArray}(h:pAttr s kind ws L j i er=.ok (i2,er2,L2,t)):∀q,(nth L2 q).kids=(nth L q).kids:=by
 unfold pAttr at h;split at h;·cases h
 ·split at h
  ·unfold pNum at h;split at h;·cases h
   ·unfold pSet at h;split at h;·injection h with h;injection h with e1 h;injection h with e2 h;injection h with e3 e4;subst e3;exact fun _=>rfl
    ·injection h with h;injection h with e1 h;injection h with e2 h;injection h with e3 e4;subst e3;exact fun q=>setL_kids _ _ _ _ _
  ·cases h
theorem attrs_bd{s:ByteArray}{kind j:Nat}:∀f i er L ws i2 er2 L2,i≤s.size->pAttrsF s kind j f i er L ws=.ok (i2,er2,L2)->i<i2∧i2≤s.size∧L2.length=L.length∧∀q,(nth L2 q).kids=(nth L q).kids
 |0,i,er,L,ws,i2,er2,L2,hi,h=>by cases h
 |f+1,i,er,L,ws,i2,er2,L2,hi,h=>by
  unfold pAttrsF at h;split at h;·cases h
  ·rename_i i3 er3 L3 t he;obtain⟨b1,b2,b3,_⟩:=pAttr_bd hi he;have b5:=pAttr_kids he;have g1:=gotI_ge s i3 59;have g2:=gotI_le (s:=s) (i:=i3) (c:=59) (by omega) b2;split at h;·obtain⟨c1,c2,c3,c4⟩:=attrs_bd f _ _ _ _ _ _ _ g2 h;exact⟨by omega,c2,c3.trans b3,fun q=>(c4 q).trans (b5 q)⟩
   ·unfold pClose at h;split at h;·injection h with h;injection h with e1 h;injection h with e2 e3;subst e1 e3;have g3:=gotI_ge s (gotI s i3 59) 125;exact⟨by omega,gotI_le (by omega) g2,b3,b5⟩
    ·cases h
theorem grown_len(L:List Nd)(d:Nd):(grown L d).length=L.length+1:=by unfold grown;split<;>simp
theorem grown_kids(L:List Nd)(d:Nd)(hd:d.kids=[])(hup:d.up<L.length)(h:∀j,(nth L j).kids.length≤L.length)(j:Nat):(nth (grown L d) j).kids.length≤L.length+1:=by
 have hap:∀q,(nth (L++[d]) q).kids.length≤L.length:=fun q=>by
  by_cases e:q<L.length;·rw[nth_app_old e];exact h q
  ·by_cases e2:q=L.length;·subst e2;rw[nth_app_new,hd];exact Nat.zero_le _
   ·unfold nth;rw[List.getElem?_eq_none (by simp;omega)];exact Nat.zero_le _
 by_cases hu:d.up<0;·unfold grown;rw[if_pos hu];have:=hap j;omega
 ·rw[grown_eq L d d.up.toNat (by omega) (by omega)];by_cases e:j=d.up.toNat;·subst e;rw[nth_mod_same _ (by simp;omega)];have:=hap d.up.toNat;simp;omega
  ·rw[nth_mod_other _ e];have:=hap j;omega
theorem br_fwd{s:ByteArray}{kind idx i:Nat}{er:Flt}{L:List Nd}{st:PS}(hi:i≤s.size)(e:pBr s kind idx i er L=.ok st):i≤st.i∧st.i≤s.size∧st.L.length=L.length∧∀q,(nth st.L q).kids=(nth L q).kids:=by
 unfold pBr at e;have g1:=gotI_ge s i 123;have g2:=gotI_le (s:=s) (i:=i) (c:=123) (by omega) hi;split at e
 ·split at e;·cases e
  ·rename_i i2 er2 L2 he;obtain⟨b1,b2,b3,b4⟩:=attrs_bd _ _ _ _ _ _ _ _ g2 he;injection e with e;subst e;exact⟨by show i≤i2;omega,b2,b3,b4⟩
 ·injection e with e;subst e;exact⟨g1,g2,rfl,fun _=>rfl⟩
theorem kindAt_word{s:ByteArray}{i:Nat}(h:¬kindAt s i<0)(hi:i≤s.size):sk s i<run letter s (sk s i):=by
 by_cases e:sk s i<run letter s (sk s i);·exact e
 ·exfalso;have h3:=run_ge letter s (sk s i);have:wordAt s i=ByteArray.empty:=by unfold wordAt;rw[show run letter s (sk s i)=sk s i by omega];apply ByteArray.ext;simp
  unfold kindAt at h;rw[this]at h;exact h (by decide)
theorem node_fwd{s:ByteArray}:∀f (up:Int) depth st st',(up<st.L.length)->TGood s st->pNodeF s f up depth st=.ok st'->Fwd s st st'∧st.i<st'.i∧st.L.length<st'.L.length
 |0,up,depth,st,st',hup,h,e=>by cases e
 |f+1,up,depth,st,st',hup,h,e=>by
  unfold pNodeF at e;split at e;·cases e
  ·rename_i hk;have hw:=kindAt_word hk h.il;have s1:=sk_ge s st.i;have s2:=run_le letter s _ (sk_le s st.i h.il);unfold pThen at e;split at e;·cases e
   ·rename_i st1 he;obtain⟨b1,b2,b3,b4⟩:=br_fwd s2 he;rw[grown_len]at b3;have g1:TGood s st1:=⟨b2,by have:=h.ll;omega,fun j=>by rw[b4,b3];exact grown_kids _ _ rfl hup h.kl j⟩;have f1:Fwd s st st1:=⟨g1,by omega,by omega⟩;have f2:=body_fwd (N:=st.L.length+1) (fun a b ga hN hab=>by obtain⟨q1,q2,_⟩:=node_fwd f (st.L.length:Int) (depth+1) a b (by omega) ga hab;exact⟨q1,q2⟩) g1 (by omega) e;exact⟨f1.trans f2,by have:=f2.ge;omega,by have:=f2.lg;omega⟩
end
section
def kS(L:List Nd):Nat->Nat
 |0=>0
 |n+1=>kS L n+(nth L n).kids.length
theorem kS_same{L L':List Nd}:∀n,(∀j,j<n->(nth L' j).kids=(nth L j).kids)->kS L' n=kS L n
 |0,_=>rfl
 |n+1,h=>by show kS L' n+(nth L' n).kids.length=kS L n+(nth L n).kids.length;rw[kS_same n (fun j hj=>h j (by omega)),h n (by omega)]
theorem kS_one{L L':List Nd}{u:Nat}(hu:(nth L' u).kids.length=(nth L u).kids.length+1):∀n,u<n->(∀j,j<n->j≠u->(nth L' j).kids=(nth L j).kids)->kS L' n=kS L n+1
 |0,h,_=>by omega
 |n+1,h,hk=>by
  show kS L' n+(nth L' n).kids.length=kS L n+(nth L n).kids.length+1;by_cases e:u=n;·subst e;rw[kS_same u (fun j hj=>hk j (by omega) (by omega)),hu];omega
  ·rw[kS_one hu n (by omega) (fun j hj hj2=>hk j (by omega) hj2),hk n (by omega) (fun e2=>e e2.symm)];omega
structure Gr1(L:List Nd):Prop where
 up0:∀i:Nat,i<L.length->((nth L i).up<0↔i=0)
 upl:∀i:Nat,i<L.length->(nth L i).up<i
 kid:∀i k c:Nat,i<L.length->(nth L i).kids[k]?=some c->i<c∧c<L.length∧(nth L c).up=i
 rise:∀i k c d:Nat,i<L.length->(nth L i).kids[k]?=some c->(nth L i).kids[k+1]?=some d->c<d
 first:∀i c:Nat,i<L.length->(nth L i).kids[0]?=some c->c=i+1
 cnt:0<L.length->kS L L.length+1=L.length
theorem Gr1.empty:Gr1 []:=⟨fun i h=>absurd h (by simp),fun i h=>absurd h (by simp),fun i _ _ h=>absurd h (by simp),fun i _ _ _ h=>absurd h (by simp),fun i _ h=>absurd h (by simp),fun h=>absurd h (by simp)⟩
theorem Gr1.congr{L L':List Nd}(h:Gr1 L)(hl:L'.length=L.length)(hk:∀j,(nth L' j).kids=(nth L j).kids)(hu:∀j,(nth L' j).up=(nth L j).up):Gr1 L':=by
 refine⟨fun i hi=>?_,fun i hi=>?_,fun i k c hi hc=>?_,fun i k c d hi hc hd=>?_,fun i c hi hc=>?_,fun hp=>?_⟩;·rw[hu];exact h.up0 i (by omega)
 ·rw[hu];exact h.upl i (by omega)
 ·rw[hk]at hc;rw[hu,hl];exact h.kid i k c (by omega) hc
 ·rw[hk]at hc hd;exact h.rise i k c d (by omega) hc hd
 ·rw[hk]at hc;exact h.first i c (by omega) hc
 ·rw[hl,kS_same _ (fun j _=>hk j)];exact h.cnt (by omega)
def Pre1(L:List Nd)(up:Int):Prop:=(up=-1∧L=[])∨∃u:Nat,up=(u:Int)∧u<L.length∧((nth L u).kids=[]->L.length=u+1)
theorem Gr1.grow{L:List Nd}{d:Nd}(h:Gr1 L)(hd:d.kids=[])(hp:Pre1 L d.up):Gr1 (grown L d)∧(∀j,j<L.length->(nth L j).kids.length≤(nth (grown L d) j).kids.length)∧(0≤d.up->(nth (grown L d) d.up.toNat).kids≠[])∧(nth (grown L d) L.length).kids=[]:=by
 rcases hp with⟨hu,rfl⟩|⟨u,hu,hul,hf⟩
 ·have e:grown [] d=[d]:=by unfold grown;rw[if_pos (by omega)];rfl
  rw[e];have n0:nth [d] 0=d:=rfl;refine⟨⟨fun i hi=>?_,fun i hi=>?_,fun i k c hi hc=>?_,fun i k c q hi hc=>?_,fun i c hi hc=>?_,fun _=>?_⟩,fun j hj=>absurd hj (by simp),fun h0=>by omega,by show(nth [d] 0).kids=[];rw[n0,hd]⟩
  ·have:i=0:=by simpa using hi
   subst this;rw[n0];constructor;·intro _;rfl
   ·intro _;omega
  ·have:i=0:=by simpa using hi
   subst this;rw[n0];omega
  ·have:i=0:=by simpa using hi
   subst this;rw[n0,hd]at hc;simp at hc
  ·have:i=0:=by simpa using hi
   subst this;rw[n0,hd]at hc;simp at hc
  ·have:i=0:=by simpa using hi
   subst this;rw[n0,hd]at hc;simp at hc
  ·show 0+(nth [d] 0).kids.length+1=1;rw[n0,hd];rfl
 ·have hL:=grown_len L d;have e:=grown_eq L d u (by omega) (by omega);have a1:nth (grown L d) u={nth L u with kids:=(nth L u).kids++[L.length]}:=by rw[e,nth_mod_same _ (by simp;omega),nth_app_old hul]
  have a2:nth (grown L d) L.length=d:=by rw[e,nth_mod_other _ (by omega),nth_app_new]
  have a3:∀j,j<L.length->j≠u->nth (grown L d) j=nth L j:=fun j hj hju=>by rw[e,nth_mod_other _ hju,nth_app_old hj]
  have au:∀j,j<L.length->(nth (grown L d) j).up=(nth L j).up:=fun j hj=>by
   by_cases hju:j=u;·subst hju;rw[a1]
   ·rw[a3 j hj hju]
  -- a kid of a node: an old one,or the new one
  have ak:∀i k c:Nat,i<L.length+1->(nth (grown L d) i).kids[k]?=some c->(i<L.length∧(nth L i).kids[k]?=some c)∨(i=u∧k=(nth L u).kids.length∧c=L.length):=fun i k c hi hc=>by
   by_cases hin:i=L.length;·subst hin;rw[a2,hd]at hc;simp at hc
   ·by_cases hiu:i=u
    ·subst hiu;rw[a1]at hc;have hc:((nth L i).kids++[L.length])[k]?=some c:=hc;by_cases hk:k<(nth L i).kids.length;·rw[List.getElem?_append_left hk]at hc;exact .inl ⟨hul,hc⟩
     ·rw[List.getElem?_append_right (by omega)]at hc;right;have hlt:=(List.getElem?_eq_some_iff.1 hc).1;have hz:k-(nth L i).kids.length=0:=by simp at hlt;omega
      rw[hz]at hc;exact⟨rfl,by omega,by simpa using hc.symm⟩
    ·rw[a3 i (by omega) hiu]at hc;exact .inl ⟨by omega,hc⟩
  refine⟨⟨fun i hi=>?_,fun i hi=>?_,fun i k c hi hc=>?_,fun i k c q hi hc hq=>?_,fun i c hi hc=>?_,fun _=>?_⟩,fun j hj=>?_,fun _=>?_,?_⟩
  ·rw[hL]at hi;by_cases hin:i=L.length
   ·subst hin;rw[a2];constructor;·intro hx;omega
    ·intro hx;omega
   ·rw[au i (by omega)];exact h.up0 i (by omega)
  ·rw[hL]at hi;by_cases hin:i=L.length;·subst hin;rw[a2];omega
   ·rw[au i (by omega)];exact h.upl i (by omega)
  ·rw[hL]at hi;rcases ak i k c hi hc with⟨hi2,hc2⟩|⟨rfl,_,rfl⟩;·obtain⟨q1,q2,q3⟩:=h.kid i k c hi2 hc2;exact⟨q1,by rw[hL];omega,by rw[au c q2];exact q3⟩
   ·exact⟨hul,by rw[hL];omega,by rw[a2];exact hu⟩
  ·rw[hL]at hi;rcases ak i k c hi hc with⟨hi2,hc2⟩|⟨rfl,hk,rfl⟩
   ·rcases ak i (k+1) q hi hq with⟨_,hq2⟩|⟨rfl,hk,rfl⟩;·exact h.rise i k c q hi2 hc2 hq2
    ·exact(h.kid i k c hi2 hc2).2.1
   ·rcases ak i (k+1) q hi hq with⟨_,hq2⟩|⟨_,hk2,_⟩;·have:=(List.getElem?_eq_some_iff.1 hq2).1;omega
    ·omega
  ·rw[hL]at hi;rcases ak i 0 c hi hc with⟨hi2,hc2⟩|⟨rfl,hk,rfl⟩;·exact h.first i c hi2 hc2
   ·exact hf (List.eq_nil_of_length_eq_zero hk.symm)
  ·rw[hL];show kS (grown L d) L.length+(nth (grown L d) L.length).kids.length+1=L.length+1;rw[a2,hd,kS_one (L:=L) (u:=u) (by rw[a1];simp) L.length hul (fun j hj hju=>by rw[a3 j hj hju])];have:=h.cnt (by omega);simp;omega
  ·by_cases hju:j=u;·subst hju;rw[a1];simp
   ·rw[a3 j hj hju];exact Nat.le_refl _
  ·rw[show d.up.toNat=u by omega,a1];simp
  ·rw[a2,hd]
structure Fw1(L L':List Nd):Prop where
 gr:Gr1 L'
 len:L.length≤L'.length
 kids:∀j,j<L.length->(nth L j).kids.length≤(nth L' j).kids.length
theorem Fw1.refl{L:List Nd}(h:Gr1 L):Fw1 L L:=⟨h,Nat.le_refl _,fun _ _=>Nat.le_refl _⟩
theorem Fw1.trans{L L1 L2:List Nd}(h:Fw1 L L1)(k:Fw1 L1 L2):Fw1 L L2:=⟨k.gr,Nat.le_trans h.len k.len,fun j hj=>Nat.le_trans (h.kids j hj) (k.kids j (Nat.lt_of_lt_of_le hj h.len))⟩
def NodeOk(u:Nat)(node:PS->Except Nat PS):Prop:=∀a b,Gr1 a.L->Pre1 a.L (u:Int)->node a=.ok b->Fw1 a.L b.L∧(nth b.L u).kids≠[]
theorem kids_ok{s:ByteArray}{u:Nat}{node:PS->Except Nat PS}(hn:NodeOk u node):∀f st st',Gr1 st.L->Pre1 st.L (u:Int)->kidsF s node f st=.ok st'->Fw1 st.L st'.L
 |0,st,st',h,hp,e=>by cases e
 |f+1,st,st',h,hp,e=>by
  unfold kidsF at e;split at e;·cases e
  ·rename_i st2 he;obtain⟨h2,k2⟩:=hn _ _ h hp he;split at e
   ·have hul:u<st2.L.length:=by
     rcases hp with⟨hx,_⟩|⟨u',hx,hul,_⟩;·omega
     ·have:u=u':=by omega
      subst this;exact Nat.lt_of_lt_of_le hul h2.len
    exact h2.trans (kids_ok hn f {st2 with i:=gotI s st2.i 44} _ h2.gr (.inr ⟨u,rfl,hul,fun e=>absurd e k2⟩) e)
   ·split at e;·cases e
    ·injection e with e;subst e;exact h2
theorem body_ok{s:ByteArray}{kind u:Nat}{node:PS->Except Nat PS}(hn:NodeOk u node){st st':PS}(h:Gr1 st.L)(hp:Pre1 st.L (u:Int))(e:bodyR s kind u node st=.ok st'):Fw1 st.L st'.L:=by
 unfold bodyR at e;split at e
 ·split at e;·cases e
  ·split at e;·injection e with e;subst e;exact Fw1.refl h
   ·rename_i i2 _ _;exact kids_ok hn _ {st with i:=sk s i2} _ h hp e
 ·split at e
  ·split at e;·cases e
   ·split at e;·cases e
    ·rename_i i2 _ _ st3 he;obtain⟨h3,_⟩:=hn {st with i:=i2} st3 h hp he;split at e;·cases e
     ·injection e with e;rw[<-e];exact h3
  ·split at e
   ·split at e;·cases e
    ·rename_i i2 t he;injection e with e;subst e;have hl:(withText st.L u t).length=st.L.length:=by unfold withText;simp
     have hk:=nth_text_kids st.L u;refine⟨h.congr hl (fun j=>hk j t) (fun j=>?_),by show st.L.length≤(withText st.L u t).length;omega,fun j _=>by show _≤(nth (withText st.L u t) j).kids.length;rw[hk];exact Nat.le_refl _⟩;show(nth (withText st.L u t) j).up=_;unfold withText;by_cases e:j=u
     ·subst e;by_cases h:j<st.L.length;·rw[nth_mod_same _ h]
      ·unfold nth;rw[List.getElem?_modify];simp[h]
     ·rw[nth_mod_other _ e]
   ·injection e with e;subst e;exact Fw1.refl h
theorem node_ok{s:ByteArray}:∀f (up:Int) depth st st',Gr1 st.L->Pre1 st.L up->nodeF s f up depth st=.ok st'->Fw1 st.L st'.L∧st.L.length<st'.L.length∧(0≤up->(nth st'.L up.toNat).kids≠[])
 |0,up,depth,st,st',h,hp,e=>by cases e
 |f+1,up,depth,st,st',h,hp,e=>by
  unfold nodeF at e;dsimp only at e;split at e;·cases e
  ·split at e;·cases e
   ·rename_i i2 er2 a he;obtain⟨d,hd⟩:∃d:Nd,(⟨(findF kindsL (s.extract (sk s st.i) (run letter s (sk s st.i))) 0).toNat,a,[],[],up⟩:Nd)=d:=⟨_,rfl⟩;have hdk:d.kids=[]:=by rw[<-hd]
    have hdu:d.up=up:=by rw[<-hd]
    rw[hd]at e;obtain⟨g1,g2,g3,g4⟩:=h.grow hdk (by rw[hdu];exact hp);have hl:=grown_len st.L d;have hb:=body_ok (u:=st.L.length) (fun a b ga pa hab=>by obtain⟨q1,_,q3⟩:=node_ok f (st.L.length:Int) (depth+1) a b ga pa hab;exact⟨q1,by have:=q3 (by omega);simpa using this⟩) (st:={i:=i2,L:=grown st.L d,er:=er2}) g1 (.inr ⟨st.L.length,rfl,by show st.L.length<(grown st.L d).length;omega,fun _=>hl⟩) e;have hlen:(grown st.L d).length≤st'.L.length:=hb.len;refine⟨Fw1.trans ⟨g1,by omega,g2⟩ hb,by omega,fun h0=>?_⟩;have h3:=g3 (by omega);rw[hdu]at h3;have hlt:up.toNat<(grown st.L d).length:=by
     rcases hp with⟨hx,_⟩|⟨u',hx,hul,_⟩;·omega
     ·omega
    have h4:(nth (grown st.L d) up.toNat).kids.length≤(nth st'.L up.toNat).kids.length:=hb.kids up.toNat hlt;intro h5;rw[h5]at h4;exact h3 (List.eq_nil_of_length_eq_zero (by simpa using h4))
theorem parse_grown{s:ByteArray}{L:List Nd}(h:parse s=.ok L):Gr1 L∧0<L.length:=by
 unfold parse at h;split at h;·cases h
 ·split at h;·cases h
  ·rename_i st he;split at h;·cases h
   ·split at h;·cases h
    ·injection h with h;subst h;obtain⟨q1,q2,_⟩:=node_ok _ _ _ _ _ Gr1.empty (.inl ⟨rfl,rfl⟩) he;exact⟨q1.gr,Nat.lt_of_le_of_lt (Nat.zero_le _) q2⟩
end
section
structure Nv(d:Nd):Prop where
 kind:d.kind<7
 len:d.attr.length=12
 att:∀k,k<12->d.attr[k]?.getD 0=withoutL[k]?.getD 0∨(ownsB d.kind k=true∧0≤d.attr[k]?.getD 0∧d.attr[k]?.getD 0≤mostL[k]?.getD 0)
 text:d.text=[]∨d.kind=5
structure Vl(s:ByteArray)(L:List Nd):Prop where
 nv:∀j,j<L.length->Nv (nth L j)
 tl:∀j,j<L.length->(nth L j).text.length≤s.size
 id:∀i j,i<j->j<L.length->(0:Int)<(nth L j).attr[0]?.getD 0->(nth L i).attr[0]?.getD 0≠(nth L j).attr[0]?.getD 0
 cnt:L.length≤100
def KidOk(d:Nd):Prop:=d.kind<3∨(3≤d.kind∧d.kind<5∧d.kids.length=1)∨(5≤d.kind∧d.kids=[])
inductive Ch(L:Nat->Nd):Nat->List Nat->Nat->Nat->Prop
 |nil (d a:Nat):Ch L d [] a a
 |cons {d c:Nat} {r:List Nat} {e1 e:Nat}:d<12->KidOk (L c)->Ch L (d+1) (L c).kids (c+1) e1->Ch L d r e1 e->Ch L d (c::r) c e
theorem Ch.le{L:Nat->Nd}{d:Nat}{ks:List Nat}{a e:Nat}(h:Ch L d ks a e):a≤e:=by
 induction h with
 |nil=>exact Nat.le_refl _
 |cons _ _ _ _ i1 i2=>omega
theorem Ch.congr{L L':Nat->Nd}{d:Nat}{ks:List Nat}{a e:Nat}(h:Ch L d ks a e):(∀j,a≤j->j<e->L' j=L j)->Ch L' d ks a e:=by
 induction h with
 |nil d a=>intro _;exact .nil d a
 |@cons d c r e1 e h1 h2 h3 h4 i1 i2=>intro hj;have l3:=h3.le;have l4:=h4.le;have ec:=hj c (Nat.le_refl _) (by omega);refine .cons (e1:=e1) h1 (by rw[ec];exact h2) ?_ (i2 (fun j h1 h2=>hj j (by omega) h2));rw[ec];exact i1 (fun j h1 h2=>hj j (by omega) (by omega))
theorem Ch.app{L:Nat->Nd}{d:Nat}{ks:List Nat}{a b:Nat}(h:Ch L d ks a b){ks':List Nat}{e:Nat}(k:Ch L d ks' b e):Ch L d (ks++ks') a e:=by
 induction h with
 |nil d a=>exact k
 |cons h1 h2 h3 h4 i1 i2=>exact .cons h1 h2 h3 (i2 k)
structure Av(kind:Nat)(L:List Nd)(a:List Int):Prop where
 len:a.length=12
 att:∀k,k<12->a[k]?.getD 0=withoutL[k]?.getD 0∨(ownsB kind k=true∧0≤a[k]?.getD 0∧a[k]?.getD 0≤mostL[k]?.getD 0)
 id:(0:Int)<a[0]?.getD 0->hasId L (a[0]?.getD 0)=false
theorem addIf_none{b:Bool}{f:Flt}{c p:Nat}(h:addIf b f c p=none):b=false∧f=none:=by
 unfold addIf at h;cases b with
 |false=>exact⟨rfl,by simpa using h⟩
 |true=>unfold addF at h;cases f<;>simp at h
theorem addF_none{f:Flt}{c p:Nat}(h:addF f c p=none):False:=by unfold addF at h;cases f<;>simp at h
theorem dv_run(s:ByteArray)(j:Nat):0≤dv s j (run digit s j-j):=(dv_bd s j _ (fun t ht=>by have:=run_all (p:=digit) s (s.size-j) j t (by unfold run at ht;omega);unfold digit at this;simpa using this)).1
theorem attr1_val{s:ByteArray}{kind:Nat}{L:List Nd}{i:Nat}{er:Flt}{a:List Int}{seen:List Nat}{i2:Nat}{er2:Flt}{a2:List Int}{seen2:List Nat}(h:attr1 s kind L i er a seen=.ok (i2,er2,a2,seen2))(h0:er2=none)(hv:Av kind L a):er=none∧Av kind L a2:=by
 unfold attr1 at h;dsimp only at h;split at h;·cases h
 ·split at h;·cases h
  ·split at h;·cases h
   ·rename_i j2 _ _;split at h;·injection h with h;injection h with e1 h;injection h with e2 h;rw[<-e2]at h0;exact(addF_none h0).elim
    ·rename_i hix;have hn:=dv_run s (sk s j2);obtain⟨n,hnn⟩:=nmd (dv s (sk s j2) (run digit s (sk s j2)-sk s j2));obtain⟨ix,hxx⟩:=nmd (findF namesL (s.extract (sk s i) (run letter s (sk s i))) 0);have hfb:=findF_bd (s.extract (sk s i) (run letter s (sk s i))) namesL 0;rw[hxx]at hfb;rw[hxx,hnn]at h;rw[hnn]at hn;rw[hxx]at hix;injection h with h;injection h with e1 h;injection h with e2 h;injection h with e3 e4;rw[h0]at e2;obtain⟨q1,e2⟩:=addIf_none e2;obtain⟨q2,e2⟩:=addIf_none e2;obtain⟨q3,e2⟩:=addIf_none e2;have hx0:0≤ix∧ownsB kind ix.toNat=true:=by
      constructor;·exact Int.not_lt.1 (fun e=>hix (.inl e))
      ·cases ho:ownsB kind ix.toNat with
       |true=>rfl
       |false=>exact absurd (.inr ho) hix
     have hx12:ix.toNat<12:=by have:namesL.length=12:=rfl;rw[this]at hfb;rcases hfb with e|e<;>omega
     refine⟨e2,?_⟩;subst e3;have hm:n≤mostL[ix.toNat]?.getD 0:=by simpa using q2
     have hl:ix.toNat<a.length:=by rw[hv.len];exact hx12
     refine⟨by rw[List.length_set];exact hv.len,fun k hk=>?_,fun hp=>?_⟩
     ·by_cases e:ix.toNat=k;·subst e;rw[List.getElem?_set_self hl];exact .inr ⟨hx0.2,hn,hm⟩
      ·rw[List.getElem?_set_ne e];exact hv.att k hk
     ·by_cases e:ix.toNat=0
      ·rw[e]at hp⊢;rw[List.getElem?_set_self (by omega)]at hp⊢;have hp:0<n:=hp;show hasId L n=false;have:ix=0:=by omega
       rw[Bool.and_eq_false_iff]at q1;rcases q1 with q1|q1;·exact absurd ⟨this,hp⟩ (of_decide_eq_false q1)
       ·exact q1
      ·rw[List.getElem?_set_ne e]at hp⊢;exact hv.id hp
theorem attrsF_val{s:ByteArray}{kind:Nat}{L:List Nd}:∀f i er a seen i2 er2 a2,attrsF s kind L f i er a seen=.ok (i2,er2,a2)->er2=none->Av kind L a->er=none∧Av kind L a2
 |0,i,er,a,seen,i2,er2,a2,h,h0,hv=>by cases h
 |f+1,i,er,a,seen,i2,er2,a2,h,h0,hv=>by
  unfold attrsF at h;split at h;·cases h
  ·rename_i j er1 a1 seen1 he;split at h
   ·obtain⟨q1,q2⟩:=attrsF_val f _ _ _ _ _ _ _ h h0
     (by
      -- the attribute ahead has no fault either,seen from behind
      have:∀f i er a seen i2 er2 a2,attrsF s kind L f i er a seen=.ok (i2,er2,a2)->er2=none->er=none:=by
       intro f;induction f with
       |zero=>intro i er a seen i2 er2 a2 h;cases h
       |succ f ih=>
        intro i er a seen i2 er2 a2 h h0;unfold attrsF at h;split at h;·cases h
        ·rename_i j er1 a1 seen1 he;have back:er1=none->er=none:=fun e=>by
          unfold attr1 at he;dsimp only at he;split at he;·cases he
          ·split at he;·cases he
           ·split at he;·cases he
            ·split at he;·injection he with he;injection he with e1 he;injection he with e2 he;rw[<-e2]at e;exact(addF_none e).elim
             ·injection he with he;injection he with e1 he;injection he with e2 he;rw[e]at e2;exact(addIf_none (addIf_none (addIf_none e2).2).2).2
         split at h;·exact back (ih _ _ _ _ _ _ _ h h0)
         ·split at h;·cases h
          ·injection h with h;injection h with e1 h;injection h with e2 e3;exact back (e2.trans h0)
      exact(attr1_val he (this _ _ _ _ _ _ _ _ h h0) hv).2);exact⟨(attr1_val he q1 hv).1,q2⟩
   ·split at h;·cases h
    ·injection h with h;injection h with e1 h;injection h with e2 e3;subst e3;exact attr1_val he (e2.trans h0) hv
theorem av_none(kind:Nat)(L:List Nd):Av kind L withoutL:=⟨rfl,fun k hk=>.inl rfl,fun h=>absurd h (by decide)⟩
theorem attrsR_val{s:ByteArray}{kind:Nat}{L:List Nd}{i:Nat}{er:Flt}{i2:Nat}{er2:Flt}{a2:List Int}(h:attrsR s kind L i er=.ok (i2,er2,a2))(h0:er2=none):er=none∧Av kind L a2:=by
 unfold attrsR at h;split at h;·exact attrsF_val _ _ _ _ _ _ _ _ h h0 (av_none kind L)
 ·injection h with h;injection h with e1 h;injection h with e2 e3;subst e3;exact⟨e2.trans h0,av_none kind L⟩
theorem qF_len{s:ByteArray}:∀f p acc i t,qF s f p acc=.ok (i,t)->t.length+p≤i+acc.length∧(p≤s.size->i≤s.size)
 |0,p,acc,i,t,h=>by cases h
 |f+1,p,acc,i,t,h=>by
  have hin:∀q,bat s q≠256->q<s.size:=fun q hq=>by
   by_cases hh:q<s.size;·exact hh
   ·exact absurd (bat_out hh) hq
  unfold qF at h;split at h;·cases h
  ·rename_i h0;have:=hin p h0;split at h;·injection h with h;injection h with h1 h2;subst h1 h2;exact⟨by omega,fun _=>this⟩
   ·split at h
    ·split at h;·rename_i hq;have h3:=hin (p+1) (by omega);have h4:=qF_len f (p+2) _ i t h;rw[List.length_append]at h4;simp only[List.length_cons,List.length_nil]at h4;exact⟨by omega,fun _=>h4.2 (by omega)⟩
     ·split at h;·rename_i hq;have h3:=hin (p+1) (by omega);have h4:=qF_len f (p+2) _ i t h;rw[List.length_append]at h4;simp only[List.length_cons,List.length_nil]at h4;exact⟨by omega,fun _=>h4.2 (by omega)⟩
      ·cases h
    ·have h4:=qF_len f (p+1) _ i t h;rw[List.length_append]at h4;simp only[List.length_cons,List.length_nil]at h4;exact⟨by omega,fun _=>h4.2 (by omega)⟩
theorem quo_len{s:ByteArray}{i j:Nat}{t:List UInt8}(h:quoR s i=.ok (j,t)):t.length≤s.size:=by
 unfold quoR at h;split at h
 ·rename_i hq;have h1:=qF_len _ _ _ _ _ h;have h2:gotI s i 34=sk s i+1:=by unfold isAt at hq;unfold gotI;rw[if_pos (by simpa using hq)]
  have h3:sk s i<s.size:=by
   by_cases hh:sk s i<s.size;·exact hh
   ·unfold isAt at hq;rw[bat_out hh]at hq;exact absurd hq (by decide)
  have h5:=h1.1;simp only[List.length_nil]at h5;omega
 ·cases h
theorem grown_same(L:List Nd)(d:Nd)(j:Nat)(hj:j<L.length):(nth (grown L d) j).kind=(nth L j).kind∧(nth (grown L d) j).attr=(nth L j).attr∧(nth (grown L d) j).text=(nth L j).text∧(nth (grown L d) j).up=(nth L j).up∧((j:Int)≠d.up->nth (grown L d) j=nth L j)∧((j:Int)=d.up->nth (grown L d) j={nth L j with kids:=(nth L j).kids++[L.length]}):=by
 unfold grown;split;·rename_i h0;rw[nth_app_old hj];exact⟨rfl,rfl,rfl,rfl,fun _=>rfl,fun e=>absurd e (by omega)⟩
 ·rename_i h0;rw[nth_app_old (by rw[List.length_modify];exact hj)];by_cases e:j=d.up.toNat;·rw[<-e,nth_mod_same _ hj];exact⟨rfl,rfl,rfl,rfl,fun e2=>absurd (by omega) e2,fun _=>rfl⟩
  ·rw[nth_mod_other _ e];exact⟨rfl,rfl,rfl,rfl,fun _=>rfl,fun e2=>absurd (by omega) e⟩
theorem grown_new(L:List Nd)(d:Nd):nth (grown L d) L.length=d:=by
 unfold grown;split;·exact nth_app_new L d
 ·have:=nth_app_new (L.modify d.up.toNat fun u=>{u with kids:=u.kids++[L.length]}) d;rw[List.length_modify]at this;exact this
theorem hasId_no{L:List Nd}{n:Int}(h:hasId L n=false)(i:Nat)(hi:i<L.length):(nth L i).attr[0]?.getD 0≠n:=by
 unfold hasId at h;rw[List.any_eq_false]at h;have hm:nth L i∈L:=by unfold nth;rw[List.getElem?_eq_getElem hi];exact List.getElem_mem hi
 have:=h _ hm;simpa using this
theorem Vl.grown{s:ByteArray}{L:List Nd}{d:Nd}(h:Vl s L)(hd:Nv d)(ht:d.text.length≤s.size)(hid:(0:Int)<d.attr[0]?.getD 0->hasId L (d.attr[0]?.getD 0)=false)(hc:L.length<100):Vl s (grown L d):=by
 have hl:=grown_len L d;refine⟨fun j hj=>?_,fun j hj=>?_,fun i j hij hj h0=>?_,by omega⟩
 ·by_cases e:j=L.length;·rw[e,grown_new];exact hd
  ·obtain⟨a1,a2,a3,_⟩:=grown_same L d j (by omega);have:=h.nv j (by omega);exact⟨by rw[a1];exact this.kind,by rw[a2];exact this.len,by rw[a1,a2];exact this.att,by rw[a1,a3];exact this.text⟩
 ·by_cases e:j=L.length;·rw[e,grown_new];exact ht
  ·obtain⟨a1,a2,a3,_⟩:=grown_same L d j (by omega);rw[a3];exact h.tl j (by omega)
 ·have ei:=(grown_same L d i (by omega)).2.1;by_cases e:j=L.length;·rw[e,grown_new]at h0⊢;rw[ei];exact hasId_no (hid h0) i (by omega)
  ·have ej:=(grown_same L d j (by omega)).2.1;rw[ej]at h0⊢;rw[ei];exact h.id i j hij (by omega) h0
theorem text_same(L:List Nd)(k:Nat)(t:List UInt8)(j:Nat):(nth (withText L k t) j).kind=(nth L j).kind∧(nth (withText L k t) j).attr=(nth L j).attr∧(nth (withText L k t) j).kids=(nth L j).kids∧(nth (withText L k t) j).up=(nth L j).up∧(j≠k->nth (withText L k t) j=nth L j)∧(j=k->j<L.length->nth (withText L k t) j={nth L j with text:=t}):=by
 unfold withText;by_cases e:j=k
 ·subst e;by_cases h:j<L.length;·rw[nth_mod_same _ h];exact⟨rfl,rfl,rfl,rfl,fun e=>absurd rfl e,fun _ _=>rfl⟩
  ·have:nth (L.modify j fun u=>{u with text:=t}) j=nth L j:=by unfold nth;rw[List.getElem?_modify];simp[h]
   rw[this];exact⟨rfl,rfl,rfl,rfl,fun _=>rfl,fun _ h2=>absurd h2 h⟩
 ·rw[nth_mod_other _ e];exact⟨rfl,rfl,rfl,rfl,fun _=>rfl,fun e2=>absurd e2 e⟩
theorem Vl.texted{s:ByteArray}{L:List Nd}{k:Nat}{t:List UInt8}(h:Vl s L)(hk:k<L.length)(h5:(nth L k).kind=5)(ht:t.length≤s.size):Vl s (withText L k t):=by
 have hl:(withText L k t).length=L.length:=by unfold withText;simp
 refine⟨fun j hj=>?_,fun j hj=>?_,fun i j hij hj h0=>?_,by rw[hl];exact h.cnt⟩
 ·obtain⟨a1,a2,a3,_,a5,a6⟩:=text_same L k t j;have:=h.nv j (by omega);refine⟨by rw[a1];exact this.kind,by rw[a2];exact this.len,by rw[a1,a2];exact this.att,?_⟩;by_cases e:j=k;·right;rw[a1,e];exact h5
  ·rw[a5 e];exact this.text
 ·obtain⟨a1,a2,a3,_,a5,a6⟩:=text_same L k t j;by_cases e:j=k;·rw[a6 e (by omega)];exact ht
  ·rw[a5 e];exact h.tl j (by omega)
 ·rw[(text_same L k t j).2.1]at h0⊢;rw[(text_same L k t i).2.1];exact h.id i j hij (by omega) h0
structure NOk(s:ByteArray)(L L':List Nd)(up:Int)(depth:Nat):Prop where
 vl:Vl s L'
 lt:L.length<L'.length
 ch:Ch (nth L') depth [L.length] L.length L'.length
 upE:(nth L' L.length).up=up
 old:∀j:Nat,j<L.length->(j:Int)≠up->nth L' j=nth L j
 par:∀j:Nat,j<L.length->(j:Int)=up->nth L' j={nth L j with kids:=(nth L j).kids++[L.length]}
structure KOk(s:ByteArray)(L L':List Nd)(u d:Nat)(ks:List Nat):Prop where
 vl:Vl s L'
 le:L.length≤L'.length
 ch:Ch (nth L') d ks L.length L'.length
 old:∀j:Nat,j<L.length->j≠u->nth L' j=nth L j
 par:nth L' u={nth L u with kids:=(nth L u).kids++ks}
theorem NOk.kids{s:ByteArray}{L L1:List Nd}{u d:Nat}(hu:u<L.length)(h:NOk s L L1 (u:Int) d):KOk s L L1 u d [L.length]:=
 ⟨h.vl,Nat.le_of_lt h.lt,h.ch,fun j hj hju=>h.old j hj (fun e=>hju (Int.ofNat.inj e)),h.par u hu rfl⟩
theorem KOk.trans{s:ByteArray}{L L1 L2:List Nd}{u d:Nat}{ks ks':List Nat}(hu:u<L.length)(h:KOk s L L1 u d ks)(k:KOk s L1 L2 u d ks'):KOk s L L2 u d (ks++ks'):=by
 refine⟨k.vl,Nat.le_trans h.le k.le,?_,fun j hj hju=>(k.old j (Nat.lt_of_lt_of_le hj h.le) hju).trans (h.old j hj hju),?_⟩;·exact(h.ch.congr (fun j h1 h2=>k.old j h2 (by omega))).app k.ch
 ·rw[k.par,h.par,List.append_assoc]
def NodeV(s:ByteArray)(u d:Nat)(node:PS->Except Nat PS):Prop:=∀a b,Vl s a.L->u<a.L.length->node a=.ok b->b.er=none->a.er=none∧NOk s a.L b.L (u:Int) d
theorem kids_val{s:ByteArray}{u d:Nat}{node:PS->Except Nat PS}(back:∀a b,node a=.ok b->b.er=none->a.er=none)(hn:NodeV s u d node):∀f st st',Vl s st.L->u<st.L.length->kidsF s node f st=.ok st'->st'.er=none->st.er=none∧∃ks,KOk s st.L st'.L u d ks
 |0,st,st',h,hu,e,h0=>by cases e
 |f+1,st,st',h,hu,e,h0=>by
  have bk:∀f st st',kidsF s node f st=.ok st'->st'.er=none->st.er=none:=by
   intro f;induction f with
   |zero=>intro st st' e;cases e
   |succ f ih=>
    intro st st' e h0;unfold kidsF at e;split at e;·cases e
    ·rename_i st2 he;split at e;·exact back _ _ he (ih {st2 with i:=gotI s st2.i 44} _ e h0)
     ·split at e;·cases e
      ·injection e with e;subst e;exact back _ _ he h0
  unfold kidsF at e;split at e;·cases e
  ·rename_i st2 he;split at e;·have h2:st2.er=none:=bk _ {st2 with i:=gotI s st2.i 44} _ e h0;obtain⟨q1,q2⟩:=hn _ _ h hu he h2;obtain⟨_,ks,q3⟩:=kids_val back hn f {st2 with i:=gotI s st2.i 44} _ q2.vl (Nat.lt_trans hu q2.lt) e h0;exact⟨q1,_,(q2.kids hu).trans hu q3⟩
   ·split at e;·cases e
    ·injection e with e;subst e;obtain⟨q1,q2⟩:=hn _ _ h hu he h0;exact⟨q1,_,q2.kids hu⟩
structure BOk(s:ByteArray)(L L':List Nd)(u d:Nat):Prop where
 vl:Vl s L'
 le:L.length≤L'.length
 ch:Ch (nth L') d (nth L' u).kids L.length L'.length
 ok:KidOk (nth L' u)
 upE:(nth L' u).up=(nth L u).up
 old:∀j:Nat,j<L.length->j≠u->nth L' j=nth L j
theorem body_val{s:ByteArray}{kind u d:Nat}{node:PS->Except Nat PS}(back:∀a b,node a=.ok b->b.er=none->a.er=none)(hn:NodeV s u d node){st st':PS}(h:Vl s st.L)(hu:u<st.L.length)(hk:(nth st.L u).kind=kind)(hkids:(nth st.L u).kids=[])(e:bodyR s kind u node st=.ok st')(h0:st'.er=none):st.er=none∧BOk s st.L st'.L u d:=by
 have fin:∀{L':List Nd} {ks:List Nat},KOk s st.L L' u d ks->(kind<3∨(3≤kind∧kind<5∧ks.length=1))->BOk s st.L L' u d:=fun{L' ks} q hq=>by
  have ek:(nth L' u).kids=ks:=by rw[q.par,hkids];rfl
  have ekd:(nth L' u).kind=kind:=by rw[q.par];exact hk
  refine⟨q.vl,q.le,by rw[ek];exact q.ch,?_,by rw[q.par],q.old⟩;unfold KidOk;rw[ekd,ek];rcases hq with a|a;·exact .inl a
  ·exact .inr (.inl a)
 have same:5≤kind∨kind<3->BOk s st.L st.L u d:=fun hq=>by
  refine⟨h,Nat.le_refl _,by rw[hkids];exact .nil _ _,?_,rfl,fun _ _ _=>rfl⟩;unfold KidOk;rw[hk];rcases hq with a|a;·exact .inr (.inr ⟨a,hkids⟩)
  ·exact .inl a
 unfold bodyR at e;split at e
 ·rename_i h3;split at e;·cases e
  ·split at e;·injection e with e;subst e;exact⟨h0,same (.inr h3)⟩
   ·rename_i i2 _ _;obtain⟨q1,ks,q2⟩:=kids_val back hn _ {st with i:=sk s i2} _ h hu e h0;exact⟨q1,fin q2 (.inl h3)⟩
 ·rename_i h3;split at e
  ·rename_i h5;split at e;·cases e
   ·split at e;·cases e
    ·rename_i i2 _ _ st3 he;split at e;·cases e
     ·injection e with e;have h0':st3.er=none:=by rw[<-e]at h0;exact h0
      obtain⟨q1,q2⟩:=hn {st with i:=i2} st3 h hu he h0';refine⟨q1,?_⟩;rw[<-e];exact fin (q2.kids hu) (.inr ⟨by omega,h5,rfl⟩)
  ·rename_i h5;split at e
   ·rename_i h6;split at e;·cases e
    ·rename_i i2 t he;injection e with e;subst e;refine⟨h0,h.texted hu (by rw[hk,h6]) (quo_len he),?_,?_,?_,?_,fun j hj hju=>(text_same st.L u t j).2.2.2.2.1 hju⟩;·show st.L.length≤(withText st.L u t).length;unfold withText;simp
     ·show Ch (nth (withText st.L u t)) d (nth (withText st.L u t) u).kids st.L.length (withText st.L u t).length;rw[(text_same st.L u t u).2.2.1,hkids];have:(withText st.L u t).length=st.L.length:=by unfold withText;simp
      rw[this];exact .nil _ _
     ·unfold KidOk;rw[(text_same st.L u t u).1,(text_same st.L u t u).2.2.1,hk];exact .inr (.inr ⟨by omega,hkids⟩)
     ·exact(text_same st.L u t u).2.2.2.1
   ·injection e with e;subst e;exact⟨h0,same (.inl (by omega))⟩
theorem kids_back{s:ByteArray}{node:PS->Except Nat PS}(back:∀a b,node a=.ok b->b.er=none->a.er=none):∀f st st',kidsF s node f st=.ok st'->st'.er=none->st.er=none
 |0,st,st',e,h0=>by cases e
 |f+1,st,st',e,h0=>by
  unfold kidsF at e;split at e;·cases e
  ·rename_i st2 he;split at e;·exact back _ _ he (kids_back back f {st2 with i:=gotI s st2.i 44} _ e h0)
   ·split at e;·cases e
    ·injection e with e;subst e;exact back _ _ he h0
theorem body_back{s:ByteArray}{kind u:Nat}{node:PS->Except Nat PS}(back:∀a b,node a=.ok b->b.er=none->a.er=none){st st':PS}(e:bodyR s kind u node st=.ok st')(h0:st'.er=none):st.er=none:=by
 unfold bodyR at e;split at e
 ·split at e;·cases e
  ·split at e;·injection e with e;subst e;exact h0
   ·rename_i i2 _ _;exact kids_back back _ {st with i:=sk s i2} _ e h0
 ·split at e
  ·split at e;·cases e
   ·split at e;·cases e
    ·rename_i i2 _ _ st3 he;split at e;·cases e
     ·injection e with e;exact back {st with i:=i2} _ he (by rw[<-e]at h0;exact h0)
  ·split at e
   ·split at e;·cases e
    ·injection e with e;subst e;exact h0
   ·injection e with e;subst e;exact h0
theorem node_back{s:ByteArray}:∀f (up:Int) depth st st',nodeF s f up depth st=.ok st'->st'.er=none->st.er=none
 |0,up,depth,st,st',e,h0=>by cases e
 |f+1,up,depth,st,st',e,h0=>by
  unfold nodeF at e;dsimp only at e;split at e;·cases e
  ·split at e;·cases e
   ·rename_i i2 er2 a he;have h1:=body_back (node_back f _ _) e h0;exact(addIf_none (addIf_none (attrsR_val he h1).1).2).2
theorem node_val{s:ByteArray}:∀f (up:Int) depth st st',Vl s st.L->up<(st.L.length:Int)->nodeF s f up depth st=.ok st'->st'.er=none->NOk s st.L st'.L up depth
  |0,up,depth,st,st',h,hp,e,h0=>by cases e
  |f+1,up,depth,st,st',h,hp,e,h0=>by
    unfold nodeF at e;dsimp only at e;split at e;·cases e
    · rename_i hkd;split at e;·cases e
      · rename_i i2 er2 a he;have h1:=body_back (node_back f _ _) e h0;obtain⟨h2,hav⟩:=attrsR_val he h1;obtain⟨g1,h3⟩:=addIf_none h2;obtain⟨g2,h4⟩:=addIf_none h3
        have g1 : depth < 12 := by have :¬12≤depth:=by simpa using g1
                                   omega
        have g2 : st.L.length < 100 := by have :¬100≤st.L.length:=by simpa using g2
                                          omega
        have hfb:=findF_bd (s.extract (sk s st.i) (run letter s (sk s st.i))) kindsL 0;obtain⟨kd,hkk⟩:=nmd (findF kindsL (s.extract (sk s st.i) (run letter s (sk s st.i))) 0);rw[hkk]at e hfb hkd hav;have hk7:kd.toNat<7:=by have:kindsL.length=7:=rfl;rw[this]at hfb;rcases hfb with e|e<;>omega
        obtain⟨d,hd⟩:∃d:Nd,(⟨kd.toNat,a,[],[],up⟩:Nd)=d:=⟨_,rfl⟩;rw[hd]at e;have hnv:Nv d:=by rw[<-hd];exact⟨hk7,hav.len,hav.att,.inl rfl⟩
        have hg:=h.grown hnv (by rw[<-hd];exact Nat.zero_le _) (by rw[<-hd];exact hav.id) g2;have hl:=grown_len st.L d;have hn:=grown_new st.L d;obtain⟨_,hb⟩:=body_val (d:=depth+1) (node_back f _ _) (fun a b ga pa hab hb0=>⟨node_back f _ _ _ _ hab hb0,node_val f (st.L.length:Int) (depth+1) a b ga (by omega) hab hb0⟩) (st:={i:=i2,L:=grown st.L d,er:=er2}) hg (by show st.L.length<(grown st.L d).length;omega) (by show(nth (grown st.L d) st.L.length).kind=_;rw[hn,<-hd]) (by show(nth (grown st.L d) st.L.length).kids=_;rw[hn,<-hd]) e h0;have hbl:(grown st.L d).length≤st'.L.length:=hb.le;have hdu:d.up=up:=by rw[<-hd]
        have hbc:Ch (nth st'.L) (depth+1) (nth st'.L st.L.length).kids (grown st.L d).length st'.L.length:=hb.ch;have hbu:(nth st'.L st.L.length).up=(nth (grown st.L d) st.L.length).up:=hb.upE;have hbo:∀j:Nat,j<(grown st.L d).length->j≠st.L.length->nth st'.L j=nth (grown st.L d) j:=hb.old;refine⟨hb.vl,by omega,.cons g1 hb.ok (by rw[hl]at hbc;exact hbc) (.nil _ _),by rw[hbu,hn,hdu],fun j hj hju=>?_,fun j hj hju=>?_⟩;·rw[hbo j (by omega) (by omega)];exact(grown_same st.L d j hj).2.2.2.2.1 (by rw[hdu];exact hju)
        ·rw[hbo j (by omega) (by omega)];exact(grown_same st.L d j hj).2.2.2.2.2 (by rw[hdu];exact hju)
structure Tree(s:ByteArray)(L:List Nd):Prop where
 sz:s.size≤4000
 gr:Gr1 L
 pos:0<L.length
 vl:Vl s L
 ch:Ch (nth L) 0 [0] 0 L.length
 up0:(nth L 0).up=-1
theorem parse_tree{s:ByteArray}{L:List Nd}(h:parse s=.ok L):Tree s L:=by
 obtain⟨q1,q2⟩:=parse_grown h;unfold parse at h;split at h;·cases h
 ·rename_i hs;split at h;·cases h
  ·rename_i st he;split at h;·cases h
   ·split at h;·cases h
    ·rename_i her;injection h with h;subst h;have:=node_val _ _ _ _ _ ⟨fun j hj=>absurd hj (by simp),fun j hj=>absurd hj (by simp),fun i j _ hj=>absurd hj (by simp),by simp⟩ (by show(-1:Int)<0;decide) he her;exact⟨by omega,q1,q2,this.vl,this.ch,this.upE⟩
end
section
open Go.RowKit Go.Proofs.Tryz
def Kn(W:World):Prop:=∀j,j<7->W.cell? ⟨9,j,none⟩=some (.string (kindsL[j]?.getD ByteArray.empty))
theorem Kn.fr{W W':World}{B r:Nat}(h:Kn W)(f:Fr B r W W')(hB:r<B)(hr:10≤r):Kn W':=fun j hj=>f.cell (h j hj) (by show 9<B;omega) (by show 9≠r;omega)
def Mem(W0 W:World)(rb ab B:Nat)(E:Nat->Addr)(s:ByteArray)(st:PS):Prop:=Env W rb ab B E∧Kn W∧TGood s st∧Fr B rb W0 W∧∃nv KV,PR W rb s st.i (Sq ab 12 12) nv (fltV E st.er)∧PN W B nv st.L KV
def NdOut(w w':World)(e:Ending)(rb ab B:Nat)(E:Nat->Addr)(s:ByteArray)(r:Except Nat PS):Prop:=match r with
 |.error b=>e=.panicked [{v:=faultV (b:Int) (errV (E 2)),recovered:=false}]∧Fr B rb w w'
 |.ok st=>e=.returned (.tuple #[])∧Mem w w' rb ab B E s st
def NodeC(rb ab B:Nat)(E:Nat->Addr)(s:ByteArray)(f:Nat):Prop:=∀(up:Int) (depth:Nat) (st:PS) (w0 w:World),Mem w0 w rb ab B E s st->(up=-1∨(0≤up∧up<st.L.length))->depth≤st.i->s.size<f+st.i->
 Calls prog 58 #[Pq rb,Iq up,Iq (depth:Int)] w fun e w'=>NdOut w0 w' e rb ab B E s (pNodeF s f up depth st)
theorem Mem.grown{W0 W W':World}{rb ab B:Nat}{E:Nat->Addr}{s:ByteArray}{st:PS}{i:Nat}(h:Mem W0 W rb ab B E s st)(g:W.grownBy W' (some rb))(hg:TGood s {st with i:=i})(hp:∀nv KV,PR W rb s st.i (Sq ab 12 12) nv (fltV E st.er)->PN W B nv st.L KV->PR W' rb s i (Sq ab 12 12) nv (fltV E st.er)):Mem W0 W' rb ab B E s {st with i:=i}:=by obtain⟨e,k,_,f,nv,KV,p,n⟩:=h;have fr:=Fr.grown (r:=rb) g e.le;exact⟨e.fr fr,k.fr fr e.rbB e.lo,hg,f.trans fr,nv,KV,hp nv KV p n,n.up (Up.grown g e.rbB)⟩
theorem mem_takes{W0 W:World}{rb ab B:Nat}{E:Nat->Addr}{s:ByteArray}{st:PS}(c:Nat)(h:Mem W0 W rb ab B E s st)(hs:s.size≤1073741824)(hc:c<256):
 Calls prog 113 #[Pq rb,.int .u8 (c:Int)] W fun e w'=>e=.returned (.bool (isAt s st.i c))∧Mem W0 w' rb ab B E s {st with i:=gotI s st.i c}:=by obtain⟨e,k,g,f,nv,KV,p,n⟩:=h;refine(takes_any rb s st.i _ nv _ c W p (by omega) g.il hc).mono ?_;rintro e' w' ⟨rfl,h1,g1⟩;have fr:=Fr.grown (r:=rb) g1 e.le;exact⟨rfl,e.fr fr,k.fr fr e.rbB e.lo,g.at hc,f.trans fr,nv,KV,h1,n.up (Up.grown g1 e.rbB)⟩
theorem mem_expect{W0 W:World}{rb ab B:Nat}{E:Nat->Addr}{s:ByteArray}{st:PS}(c:Nat)(h:Mem W0 W rb ab B E s st)(hs:s.size≤1073741824)(hc:c<256):
 Calls prog 116 #[Pq rb,.int .u8 (c:Int)] W fun e w'=>NdOut W0 w' e rb ab B E s (pEnd s st c):=by
 obtain⟨e,k,g,f,nv,KV,p,n⟩:=h;unfold pEnd;by_cases hq:isAt s st.i c=true;·rw[if_pos hq];refine(expect_yes rb s st.i _ nv _ c W p (by omega) g.il hc hq).mono ?_;rintro e' w' ⟨rfl,h1,g1⟩;have fr:=Fr.grown (r:=rb) g1 e.le;exact⟨rfl,e.fr fr,k.fr fr e.rbB e.lo,g.at hc,f.trans fr,nv,KV,h1,n.up (Up.grown g1 e.rbB)⟩
 ·rw[if_neg hq];have lo:=e.lo;refine(expect_no rb s st.i _ nv _ (E 2) c W p (by omega) g.il hc (by simpa using hq) (by omega) e.g2).mono ?_;rintro e' w' ⟨rfl,g1⟩;exact⟨rfl,f.trans (Fr.grown g1 e.le)⟩
theorem Mem.prI{W0 W:World}{rb ab B:Nat}{E:Nat->Addr}{s:ByteArray}{st:PS}(h:Mem W0 W rb ab B E s st):prI W rb=st.i:=by obtain⟨e,k,g,f,nv,KV,p,n⟩:=h;exact p.prI
theorem readList_of(rb ab B:Nat)(E:Nat->Addr)(s:ByteArray)(f:Nat)(hnode:NodeC rb ab B E s f)(hs:s.size≤1073741824)(up:Nat)(depth:Nat)(st:PS)(w0 w:World)(h:Mem w0 w rb ab B E s st)(hup:up<st.L.length)(hd:depth≤st.i)(hf:s.size<f+st.i):
 Calls prog 117 #[Pq rb,Iq (up:Int),Iq (depth:Int)] w fun e w'=>NdOut w0 w' e rb ab B E s (pList s (pNodeF s f (up:Int) depth) st):=by
 have HN:=qH<|hnode;have CX:Hid (Calls prog 116 #[Pq rb,.int .u8 91] w fun e w'=>NdOut w0 w' e rb ab B E s (pEnd s st 91)):=mem_expect 91 h hs (by omega);by_cases hq:isAt s st.i 91=true
 ·have e1:pEnd s st 91=.ok {st with i:=gotI s st.i 91}:=by unfold pEnd;rw[if_pos hq]
  rw[e1]at CX;have HP:Hid (pList s (pNodeF s f (up:Int) depth) st=if isAt s (gotI s st.i 91) 93=true then .ok {st with i:=gotI s (gotI s st.i 91) 93}else pKidsF s (pNodeF s f (up:Int) depth) (s.size+1) {st with i:=gotI s (gotI s st.i 91) 93}):=by show _=_;unfold pList;rw[if_pos hq]
  have hg1:=gotI_ge s st.i 91;have hg2:=gotI_ge s (gotI s st.i 91) 93;obtain⟨R,hR⟩:=nmd (pList s (pNodeF s f (up:Int) depth) st);rw[hR]at HP⊢;clear h hnode hR e1 hq;go_enter func117,ntmps117;go_wp2_with fail;refine CX.mono ?_;rintro e w1 ⟨rfl,h1⟩;have CT:Hid (Calls prog 113 #[Pq rb,.int .u8 93] w1 fun e w'=>e=.returned (.bool (isAt s (gotI s st.i 91) 93))∧Mem w0 w' rb ab B E s {st with i:=gotI s (gotI s st.i 91) 93}):=mem_takes 93 h1 hs (by omega);clear h1 CX;by_cases hq2:isAt s (gotI s st.i 91) 93=true
  ·have HRE:Hid (R=.ok {st with i:=gotI s (gotI s st.i 91) 93}):=by show _=_;rw[HP.out,if_pos hq2]
   rw[hq2]at CT;clear HP hq2;go_wp2_with fail;refine CT.mono ?_;rintro e w2 ⟨rfl,h2⟩;have HM:=qH<|h2;clear h2 CT;go_wp2;try simp only[Exit.inBlock,Exit.then]
   refine bodyPost_ret (results_none rfl _ _ _) rfl ?_;show NdOut _ _ _ _ _ _ _ _ _;rw[HRE.out];exact⟨rfl,HM⟩
  ·have HRE:Hid (pKidsF s (pNodeF s f (up:Int) depth) (s.size+1) {st with i:=gotI s (gotI s st.i 91) 93}=R):=by show _=_;rw[HP.out,if_neg hq2]
   rw[show isAt s (gotI s st.i 91) 93=false by simpa using hq2]at CT;clear HP hq2;obtain⟨st1,hst1⟩:∃z:PS,{st with i:=gotI s (gotI s st.i 91) 93}=z:=⟨_,rfl⟩;have k1:st.i≤st1.i:=by rw[<-hst1];exact Nat.le_trans hg1 hg2
   have k2:st1.L.length=st.L.length:=by rw[<-hst1]
   rw[hst1]at CT HRE;clear hst1 hg1 hg2;go_wp2_with fail;refine CT.mono ?_;rintro e w2 ⟨rfl,h2⟩;have HM:=qH<|h2;clear h2 CT;go_wp2;go_loopw[6] (fun b wr=>∃(st2:PS) (g:Nat) (m:Bool),b=.bool m∧Hid (Mem w0 wr rb ab B E s st2)∧st.i≤st2.i∧st.L.length≤st2.L.length∧s.size<g+st2.i∧Hid ((if m=true then pKidsF s (pNodeF s f (up:Int) depth) g st2 else pEnd s st2 93)=R)) (fun b wr=>2*(s.size-prI wr rb)+(match b with|.bool true=>1|_=>0));case atStart=>exact⟨st1,s.size+1,true,rfl,HM,k1,by omega,by omega,HRE⟩
   case round=>
    clear HM HRE k1 k2;obtain⟨st2,g,m,rfl,HS,hi2,hl2,hg,HRR⟩:=hrel;have HI:=qH<|HS.prI;have hil2:=HS.2.2.1.il;cases m with
    |true=>
     obtain⟨g,rfl⟩:∃q,g=q+1:=⟨g-1,by omega⟩;have CN:=qH<|HN (up:Int) depth st2 w0 wr HS (.inr ⟨by omega,by omega⟩) (by omega) (by omega);cases hp:pNodeF s f (up:Int) depth st2 with
     |error b=>
      have HRE:Hid (R=.error b):=by show _=_;rw[<-HRR.out];simp only[if_true];unfold pKidsF;rw[hp]
      rw[hp]at CN;clear hp HRR;go_wp2_with fail;refine CN.mono ?_;rintro e w3 ⟨rfl,f3⟩;refine⟨rfl,?_⟩;rw[HRE.out];exact⟨rfl,f3⟩
     |ok st3=>
      obtain⟨q1,q2,q3⟩:=node_fwd f (up:Int) depth st2 st3 (by omega) HS.2.2.1 hp;have q4:=q1.good.il;have HRE:Hid ((if isAt s st3.i 44=true then pKidsF s (pNodeF s f (up:Int) depth) g {st3 with i:=gotI s st3.i 44}else pEnd s {st3 with i:=gotI s st3.i 44} 93)=R):=by
       show _=_;rw[<-HRR.out];simp only[if_true];conv=>rhs;unfold pKidsF
       rw[hp]
      rw[hp]at CN;clear hp HRR q1;go_wp2_with fail;refine CN.mono ?_;rintro e w3 ⟨rfl,h3⟩;have CT:Hid (Calls prog 113 #[Pq rb,.int .u8 44] w3 fun e w'=>e=.returned (.bool (isAt s st3.i 44))∧Mem w0 w' rb ab B E s {st3 with i:=gotI s st3.i 44}):=mem_takes 44 h3 hs (by omega);have hg3:=gotI_ge s st3.i 44;have hg4:=gotI_le (s:=s) (i:=st3.i) (c:=44) (by omega) q4;obtain⟨m',hm'⟩:=nmd (isAt s st3.i 44);obtain⟨st4,hst4⟩:∃z:PS,{st3 with i:=gotI s st3.i 44}=z:=⟨_,rfl⟩;have k1:st4.i=gotI s st3.i 44:=by rw[<-hst4]
      have k2:st4.L.length=st3.L.length:=by rw[<-hst4]
      rw[hm',hst4]at CT HRE;clear h3 CN hst4 hm';go_wp2_with fail;refine CT.mono ?_;rintro e w4 ⟨rfl,h4⟩;have HM4:=qH<|h4;have HI4:=qH<|h4.prI;clear h4 CT;go_wp2;go_roundw;case rel=>exact⟨st4,g,m',rfl,HM4,by omega,by omega,by omega,HRE⟩
      case measure=>rw[HI4.out,HI.out];cases m'<;>simp<;>omega
    |false=>
     have CX:Hid (Calls prog 116 #[Pq rb,.int .u8 93] wr fun e w'=>NdOut w0 w' e rb ab B E s (pEnd s st2 93)):=mem_expect 93 HS hs (by omega);have HRE:Hid (pEnd s st2 93=R):=by show _=_;have:=HRR.out;simpa using this
     rw[HRE.out]at CX;clear HRR HRE;cases R with
     |error b=>go_wp2_with fail;refine CX.mono ?_;rintro e w3 ⟨rfl,f3⟩;exact⟨rfl,rfl,f3⟩
     |ok st3=>go_wp2_with fail;refine CX.mono ?_;rintro e w3 ⟨rfl,h3⟩;have HM3:=qH<|h3;clear h3 CX;go_wp2;go_end0;exact⟨rfl,HM3⟩
 ·have e1:pEnd s st 91=.error (sk s st.i):=by unfold pEnd;rw[if_neg hq]
  have HP:Hid (pList s (pNodeF s f (up:Int) depth) st=.error (sk s st.i)):=by show _=_;unfold pList;rw[if_neg hq]
  rw[e1]at CX;clear h hnode e1 hq;go_enter func117,ntmps117;go_wp2_with fail;refine CX.mono ?_;rintro e w1 ⟨rfl,f1⟩;refine⟨rfl,?_⟩;rw[HP.out];exact⟨rfl,f1⟩
end
section
open Go.RowKit
def avV(ab:Nat):Value:=Sq ab 12 12
theorem nd_len(d:Nd)(a k:Value):(ndCells d a k).length=5:=rfl
structure RD(W:World)(B:Nat)(nv:Value)(L:List Nd)(AV:Nat->Nat)(KV:Nat->Value):Prop where
 nr:NR W B 104 5 nv L.length (fun j=>ndCells (nth L j) (avV (AV j)) (KV j)) KV (fun j=>(nth L j).kids)
 len:∀j,j<L.length->(nth L j).attr.length=12
 att:∀j,j<L.length->B≤AV j∧Row12 W (AV j) (fun k=>Iq ((nth L j).attr[k]?.getD 0))
 sepK:∀i j,i<L.length->j<L.length->(KV j).ownBlock≠some (AV i)
 sepN:∀i,i<L.length->nv.ownBlock≠some (AV i)
section
variable{W W':World} {B:Nat} {nv:Value} {L:List Nd} {AV:Nat->Nat} {KV:Nat->Value}
theorem RD.nothing(W:World)(B:Nat)(AV:Nat->Nat)(KV:Nat->Value):RD W B (.slice none 0 0) [] AV KV:=
 ⟨NR.nothing _ _ _ _ _ _ _,fun j h=>absurd h (by show¬j<0;omega),fun j h=>absurd h (by show¬j<0;omega),fun i j h=>absurd h (by show¬i<0;omega),fun i h=>absurd h (by show¬i<0;omega)⟩
theorem RD.up(h:RD W B nv L AV KV)(hu:Up B W W'):RD W' B nv L AV KV:=
 ⟨h.nr.up hu,h.len,fun j hj=>⟨(h.att j hj).1,(h.att j hj).2.keep hu.size (hu.block _ (h.att j hj).1 (h.att j hj).2.1)⟩,h.sepK,h.sepN⟩
theorem RD.ids(h:RD W B nv L AV KV){rb:Nat}(hr:rb<B):IdsAt W rb nv L:=by
 by_cases hL:L=[]
 ·subst hL;obtain⟨xs,hx⟩:=h.nr.row;rcases own_form hx with⟨rfl,_⟩|⟨g,cap,rfl,h1,h2,h3,h4⟩;·exact .inl ⟨rfl,rfl⟩
  ·exact .inr ⟨g,cap,AV,rfl,h2,by omega,fun k hk=>absurd hk (by show¬k<0;omega)⟩
 ·have hn:=List.length_pos_iff.2 hL;obtain⟨g,cap,rfl,h1,h2,h3,h4⟩:=h.nr.form hn;refine .inr ⟨g,cap,AV,rfl,h2,by omega,fun k hk=>⟨h.nr.cell hk rfl,(h.att k hk).2.1,by have:=(h.att k hk).1;omega,?_⟩⟩;have:=((h.att k hk).2.2 0 (by omega)).1;rw[this];have e:(L.map (fun d=>d.attr[0]?.getD 0))[k]?.getD 0=(nth L k).attr[0]?.getD 0:=by unfold nth;rw[List.getElem?_map,List.getElem?_eq_getElem hk];rfl
  rw[e]
theorem RD.app{nv':Value}{xs:List Value}{d:Nd}{ab:Nat}(h:RD W B nv L AV KV)(hx:W.ownsRow B 104 5 nv L.length xs)(hx':W'.ownsRow B 104 5 nv' (L.length+1) (xs++ndCells d (avV ab) (.slice none 0 0)))(hg:W.grownBy W' nv.ownBlock)(hat:nv'.ownBlock=nv.ownBlock∨nv'.ownBlock=some W.heap.size)
 (hl:d.attr.length=12) (hk:d.kids=[]) (hB:B≤ab) (ha:Row12 W ab (fun k=>Iq (d.attr[k]?.getD 0))) (haK:∀j,j<L.length->(KV j).ownBlock≠some ab) (haN:nv.ownBlock≠some ab):
 RD W' B nv' (L++[d]) (fun j=>if j=L.length then ab else AV j) (fun j=>if j=L.length then .slice none 0 0 else KV j):=by
 have hl2:(L++[d]).length=L.length+1:=by simp
 have keepA:=fun j hj=>(h.att j hj).2.keep hg.size (hg.block _ (h.att j hj).2.1 (fun e=>h.sepN j hj e.symm));refine⟨?_,fun j hj=>?_,fun j hj=>?_,fun i j hi hj=>?_,fun i hi=>?_⟩
 ·rw[hl2];refine(h.nr.app (by decide) hx hx' hg (nd_len _ _ _)).congr (fun j hj=>?_) (fun j hj=>rfl) (fun j hj=>?_)
  ·by_cases e:j=L.length;·subst e;simp only[if_true];rw[nth_app_new]
   ·rw[if_neg e,if_neg e,if_neg e,nth_app_old (by omega)]
  ·by_cases e:j=L.length;·subst e;rw[if_pos rfl,nth_app_new,hk]
   ·rw[if_neg e,nth_app_old (by omega)]
 ·by_cases e:j=L.length;·subst e;rw[nth_app_new];exact hl
  ·rw[nth_app_old (by omega)];exact h.len j (by omega)
 ·by_cases e:j=L.length;·subst e;rw[if_pos rfl,nth_app_new];exact⟨hB,ha.keep hg.size (hg.block _ ha.1 (fun e=>haN e.symm))⟩
  ·rw[if_neg e,nth_app_old (by omega)];exact⟨(h.att j (by omega)).1,keepA j (by omega)⟩
 ·by_cases e:j=L.length;·subst e;simp[Value.ownBlock]
  ·rw[if_neg e];by_cases e2:i=L.length;·subst e2;rw[if_pos rfl];exact haK j (by omega)
   ·rw[if_neg e2];exact h.sepK i j (by omega) (by omega)
 ·have hlt:(if i=L.length then ab else AV i)<W.heap.size:=by
   by_cases e:i=L.length;·rw[if_pos e];exact ha.1
   ·rw[if_neg e];exact(h.att i (by omega)).2.1
  rcases hat with e|e
  ·rw[e];by_cases e2:i=L.length;·rw[if_pos e2];exact haN
   ·rw[if_neg e2];exact h.sepN i (by omega)
  ·rw[e];intro q;injection q with q;omega
theorem RD.setText{g cap k:Nat}(h:RD W B (Sq g L.length cap) L AV KV)(hk:k<L.length)(x:List UInt8):
 RD (W.setCell ⟨g,k*5+2,none⟩ (.string ⟨x.toArray⟩)) B (Sq g L.length cap) (withText L k x) AV KV:=by
 have hl2:(withText L k x).length=L.length:=by unfold withText;simp
 have hne:∀j,j<L.length->AV j≠g:=fun j hj e=>h.sepN j hj (by rw[e];rfl);have hat:∀j,(nth (withText L k x) j).attr=(nth L j).attr∧(nth (withText L k x) j).kids=(nth L j).kids:=fun j=>by
  unfold withText;by_cases e:j=k;·subst e;rw[nth_mod_same _ hk];exact⟨rfl,rfl⟩
  ·rw[nth_mod_other _ e];exact⟨rfl,rfl⟩
 refine⟨?_,fun j hj=>?_,fun j hj=>?_,fun i j hi hj=>h.sepK i j (by omega) (by omega),fun i hi=>h.sepN i (by omega)⟩
 ·rw[hl2];refine(h.nr.set (by decide) hk (by omega) (.string ⟨x.toArray⟩)).congr (fun j hj=>?_) (fun j hj=>rfl) (fun j hj=>(hat j).2);by_cases e:j=k;·subst e;rw[if_pos rfl];unfold withText;rw[nth_mod_same _ hk];rfl
  ·rw[if_neg e];unfold withText;rw[nth_mod_other _ e]
 ·rw[(hat j).1];exact h.len j (by omega)
 ·rw[(hat j).1];exact⟨(h.att j (by omega)).1,(h.att j (by omega)).2.other (hne j (by omega)) _⟩
theorem RD.kid{g cap:Nat}{kv':Value}{k c:Nat}(h:RD W B (Sq g L.length cap) L AV KV)(hk:k<L.length)
 (hr:W'.ownsRow B 3 1 kv' ((nth L k).kids.length+1) (kInts ((nth L k).kids++[c]))) (hg:W.grownBy W' (KV k).ownBlock) (hat:kv'.ownBlock=(KV k).ownBlock∨kv'.ownBlock=some W.heap.size):
 RD (W'.setCell ⟨g,k*5+3,none⟩ kv') B (Sq g L.length cap) (L.modify k fun u=>{u with kids:=u.kids++[c]}) AV (fun j=>if j=k then kv' else KV j):=by
 have hl2:(L.modify k fun u=>{u with kids:=u.kids++[c]}).length=L.length:=by simp
 have hne:∀j,j<L.length->AV j≠g:=fun j hj e=>h.sepN j hj (by rw[e];rfl);have ha:∀j,(nth (L.modify k fun u=>{u with kids:=u.kids++[c]}) j).attr=(nth L j).attr:=fun j=>by
  by_cases e:j=k;·subst e;rw[nth_mod_same _ hk]
  ·rw[nth_mod_other _ e]
 refine⟨?_,fun j hj=>?_,fun j hj=>?_,fun i j hi hj=>?_,fun i hi=>h.sepN i (by omega)⟩
 ·rw[hl2];refine(h.nr.kid (t:=3) (by decide) hk (by omega) hr hg hat).congr (fun j hj=>?_) (fun j hj=>rfl) (fun j hj=>?_)
  ·by_cases e:j=k;·subst e;simp only[if_true];rw[nth_mod_same _ hk];rfl
   ·rw[if_neg e,if_neg e,nth_mod_other _ e]
  ·by_cases e:j=k;·subst e;rw[if_pos rfl,nth_mod_same _ hk]
   ·rw[if_neg e,nth_mod_other _ e]
 ·rw[ha j];exact h.len j (by omega)
 ·rw[ha j];exact⟨(h.att j (by omega)).1,((h.att j (by omega)).2.keep hg.size (hg.block _ (h.att j (by omega)).2.1 (fun e=>h.sepK j k (by omega) hk e.symm))).other (hne j (by omega)) _⟩
 ·by_cases e:j=k
  ·rw[if_pos e];rcases hat with q|q;·rw[q];exact h.sepK i k (by omega) hk
   ·rw[q];intro e2;injection e2 with e2;have:=(h.att i (by omega)).2.1;omega
  ·rw[if_neg e];exact h.sepK i j (by omega) (by omega)
end
end
section
open Go.RowKit Go.Proofs.Tryz
structure RW(W0 W:World)(rb B:Nat)(s:ByteArray)(i:Nat)(L:List Nd)(f:Flt)(bad dep:Int):Prop where
 il:i≤s.size
 ll:bad<0->L.length≤i
 kl:∀j,(nth L j).kids.length≤L.length
 rbB:rb<B
 le:B≤W.heap.size
 fr:Fr B rb W0 W
 mem:∃nv AV KV er at_,RS W rb s i nv bad er at_ dep∧(bad<0->FL er at_ f i)∧RD W B nv L AV KV
section
variable{W0 W W':World} {rb B i i':Nat} {s:ByteArray} {L:List Nd} {f:Flt} {bad bad' dep:Int}
theorem RW.step(h:RW W0 W rb B s i L f bad dep)(hi:i≤i')(hl:i'≤s.size)(hbb:bad'<0->bad<0)(g:W.grownBy W' (some rb))(hr:∀nv er at_,RS W rb s i nv bad er at_ dep->RS W' rb s i' nv bad' er at_ dep):RW W0 W' rb B s i' L f bad' dep:=by obtain⟨nv,AV,KV,er,at_,h1,h2,h3⟩:=h.mem;exact⟨hl,fun e=>Nat.le_trans (h.ll (hbb e)) hi,h.kl,h.rbB,Nat.le_trans h.le g.size,h.fr.trans (Fr.grown g h.le),nv,AV,KV,er,at_,hr nv er at_ h1,fun e=>(h2 (hbb e)).on hi,h3.up (Up.grown g h.rbB)⟩
theorem RW.below(h:RW W0 W rb B s i L f bad dep)(hb:Below W.heap.size W W'):RW W0 W' rb B s i L f bad dep:=
 h.step (Nat.le_refl _) h.il id (gr_below hb) (fun nv er at_ r=>r.below hb)
theorem mI_ge(s:ByteArray)(i c:Nat)(bad:Int):i≤mI s i c bad:=by
 unfold mI;split;·exact gotI_ge s i c
 ·exact sk_ge s i
theorem mB_neg{s:ByteArray}{i c:Nat}{bad:Int}(h:mB s i c bad<0):bad<0:=by
 unfold mB at h;split at h;·assumption
 ·exact h
theorem rw_skip(h:RW W0 W rb B s i L f bad dep)(hs:s.size≤1073741824):Calls prog 21 #[Pq rb] W fun e w'=>e=.returned (.tuple #[])∧RW W0 w' rb B s (sk s i) L f bad dep:=by obtain⟨nv,AV,KV,er,at_,h1,h2,h3⟩:=h.mem;refine(skip_any rb s i nv bad er at_ dep W h1 (by omega) h.il).mono ?_;rintro e w' ⟨rfl,r,g⟩;exact⟨rfl,sk_le s i h.il,fun e=>Nat.le_trans (h.ll e) (sk_ge s i),h.kl,h.rbB,Nat.le_trans h.le g.size,h.fr.trans (Fr.grown g h.le),nv,AV,KV,er,at_,r,fun e=>(h2 e).on (sk_ge s i),h3.up (Up.grown g h.rbB)⟩
theorem rw_must(c:Nat)(hc:c<256)(h:RW W0 W rb B s i L f bad dep)(hs:s.size≤1073741824):Calls prog 48 #[Pq rb,.int .u8 (c:Int)] W fun e w'=>e=.returned (.tuple #[])∧RW W0 w' rb B s (mI s i c bad) L f (mB s i c bad) dep:=by obtain⟨nv,AV,KV,er,at_,h1,h2,h3⟩:=h.mem;refine(must_all rb s i nv bad er at_ dep c W h1 (by omega) h.il hc).mono ?_;rintro e w' ⟨rfl,r,g⟩;have hi:=mI_ge s i c bad;have hbb:=mB_neg (s:=s) (i:=i) (c:=c) (bad:=bad);exact⟨rfl,mI_le bad hc h.il,fun e=>Nat.le_trans (h.ll (hbb e)) hi,h.kl,h.rbB,Nat.le_trans h.le g.size,h.fr.trans (Fr.grown g h.le),nv,AV,KV,er,at_,r,fun e=>(h2 (hbb e)).on hi,h3.up (Up.grown g h.rbB)⟩
theorem rw_got(c:Nat)(hc:c<256)(h:RW W0 W rb B s i L f bad dep)(hs:s.size≤1073741824):Calls prog 73 #[Pq rb,.int .u8 (c:Int)] W fun e w'=>e=.returned (.bool (gB s i c bad))∧RW W0 w' rb B s (mI s i c bad) L f bad dep:=by obtain⟨nv,AV,KV,er,at_,h1,h2,h3⟩:=h.mem;refine(got_all rb s i nv bad er at_ dep c W h1 (by omega) h.il hc).mono ?_;rintro e w' ⟨rfl,r,g⟩;have hi:=mI_ge s i c bad;exact⟨rfl,mI_le bad hc h.il,fun e=>Nat.le_trans (h.ll e) hi,h.kl,h.rbB,Nat.le_trans h.le g.size,h.fr.trans (Fr.grown g h.le),nv,AV,KV,er,at_,r,fun e=>(h2 e).on hi,h3.up (Up.grown g h.rbB)⟩
theorem RW.c3(h:RW W0 W rb B s i L f bad dep):W.cell? ⟨rb,3,none⟩=some (Iq bad):=by obtain⟨nv,AV,KV,er,at_,h1,h2,h3⟩:=h.mem;exact h1.c3
theorem RW.rdI(h:RW W0 W rb B s i L f bad dep):rdI W rb=i:=by obtain⟨nv,AV,KV,er,at_,h1,h2,h3⟩:=h.mem;exact h1.rdI
end
def NOut(W0 W':World)(rb B:Nat)(s:ByteArray)(dep:Int)(st:PS)(r:Except Nat PS):Prop:=match r with
 |.error b=>∃i L g,RW W0 W' rb B s i L g (b:Int) dep
 |.ok st'=>RW W0 W' rb B s st'.i st'.L st'.er (-1) dep∧st.i<st'.i∧st.L.length≤st'.L.length
def NodeR(rb B:Nat)(s:ByteArray)(f:Nat):Prop:=∀(up:Int) (depth:Nat) (st:PS) (w0 w:World),RW w0 w rb B s st.i st.L st.er (-1) (depth:Int)->(up=-1∨(0≤up∧up<st.L.length))->depth≤st.i->s.size<f+st.i->
 Calls prog 20 #[Pq rb,Iq up] w fun e w'=>e=.returned (.tuple #[])∧NOut w0 w' rb B s (depth:Int) st (nodeF s f up depth st)
theorem find_empty:findF kindsL ByteArray.empty 0=-1:=by kernel_rfl
theorem node_bad(rb B:Nat)(s:ByteArray)(i:Nat)(L:List Nd)(f:Flt)(bad dep:Int)(up:Int)(w0 w:World)(h:RW w0 w rb B s i L f bad dep)(hb:0≤bad)(hs:s.size≤1073741824):
 Calls prog 20 #[Pq rb,Iq up] w fun e w'=>e=.returned (.tuple #[])∧RW w0 w' rb B s (sk s i) L f bad dep:=by
 have SK:=qH<|rw_skip h hs;have hge:=decide_eq_true hb;clear h;go_enter func20,ntmps20;go_wp2_with fail;refine Calls.mono SK ?_;rintro e w1 ⟨rfl,h1⟩;obtain⟨nv,AV,KV,er,at_,r1,f1,d1⟩:=h1.mem;have c1:=r1.c1;have H1:=qH<|h1;have WO:Hid (Calls prog 42 #[Pq rb] w1 fun e w'=>e=.returned (.string ByteArray.empty)∧RS w' rb s (sk s i) nv bad er at_ dep∧w1.grownBy w' (some rb)):=by have:=word_bad rb s (sk s i) nv bad er at_ dep w1 r1 (by omega) h1.il hb;rw[sk_sk]at this;exact this
 have HF1:Hid ((bad<0->FL er at_ f (sk s i))∧RD w1 B nv L AV KV):=⟨f1,d1⟩;clear r1 f1 d1 h1 SK;go_wp2_with fail;clear c1;refine Calls.mono WO ?_;rintro e w2 ⟨rfl,r2,g2⟩;have H2:Hid (RW w0 w2 rb B s (sk s i) L f bad dep):=⟨H1.il,H1.ll,H1.kl,H1.rbB,Nat.le_trans H1.le g2.size,H1.fr.trans (Fr.grown g2 H1.le),nv,AV,KV,er,at_,r2,HF1.1,HF1.2.up (Up.grown g2 H1.rbB)⟩;clear r2 g2 WO H1 HF1;go_wp2_with fail;refine Calls.mono (kinds_any w2) ?_;rintro e w3 ⟨rfl,hn3,hl3,b3⟩;have H3:=qH<|H2.below b3;have FI:Hid (Calls prog 43 #[Sq w2.heap.size 7 7,.string ByteArray.empty] w3 fun e w'=>e=.returned (Iq (-1))∧w'=w3):=by have:=find_any kindsL ByteArray.empty w2.heap.size 0 7 7 w3 hl3 hn3 rfl (by omega);rw[find_empty]at this;exact this
 clear hn3 hl3 b3 H2;go_wp2_with fail;refine Calls.mono FI ?_;rintro e w4 ⟨rfl,hw4⟩;obtain rfl:=hw4.symm;obtain⟨nv,AV,KV,er,at_,r3,f3,d3⟩:=H3.mem;have FA:Hid (Calls prog 22 #[Pq rb,Iq (sk s i:Int)] w3 fun e w'=>e=.returned (.tuple #[])∧RS w' rb s (sk s i) nv bad er at_ dep∧w3.grownBy w' (some rb)):=by
  have:=fail_any rb s (sk s i) nv bad er at_ dep (sk s i:Int) w3 r3;have e:badI bad (sk s i:Int)=bad:=by unfold badI;rw[if_neg (by omega)]
  rw[e]at this;exact this
 have HF3:Hid ((bad<0->FL er at_ f (sk s i))∧RD w3 B nv L AV KV):=⟨f3,d3⟩;clear r3 f3 d3 FI;go_wp2_with fail;refine Calls.mono FA ?_;rintro e w5 ⟨rfl,r5,g5⟩;have H5:Hid (RW w0 w5 rb B s (sk s i) L f bad dep):=⟨H3.il,H3.ll,H3.kl,H3.rbB,Nat.le_trans H3.le g5.size,H3.fr.trans (Fr.grown g5 H3.le),nv,AV,KV,er,at_,r5,HF3.1,HF3.2.up (Up.grown g5 H3.rbB)⟩;have c3:=r5.c3;clear r5 g5 FA;go_wp2;refine bodyPost_ret (results_none rfl _ _ _) rfl ?_;exact⟨rfl,H5⟩
end
section
open Go.RowKit Go.Proofs.Tryz
def kidsR(s:ByteArray)(node:PS->Except Nat PS)(st:PS):Except Nat PS:=match mustR s st.i 91 with
 |.error b=>.error b
 |.ok i2=>if isAt s i2 93 then .ok {st with i:=gotI s i2 93}else kidsF s node (s.size+1) {st with i:=sk s i2}
def endR(s:ByteArray)(st:PS):Except Nat PS:=match mustR s st.i 93 with
 |.error b=>.error b
 |.ok i3=>.ok {st with i:=i3}
theorem mustR_sk(s:ByteArray)(i c:Nat):mustR s (sk s i) c=mustR s i c:=by unfold mustR;rw[isAt_sk,gotI_sk,sk_sk]
theorem endR_sk(s:ByteArray)(st:PS):endR s {st with i:=sk s st.i}=endR s st:=by unfold endR;simp only;rw[mustR_sk]
theorem kidsF_err{s:ByteArray}{node:PS->Except Nat PS}{g:Nat}{st:PS}{b:Nat}(h:node st=.error b):kidsF s node (g+1) st=.error b:=by rw[kidsF,h]
theorem kidsF_more{s:ByteArray}{node:PS->Except Nat PS}{g:Nat}{st st2:PS}(h:node st=.ok st2)(hm:isAt s st2.i 44=true):kidsF s node (g+1) st=kidsF s node g {st2 with i:=gotI s st2.i 44}:=by rw[kidsF,h];simp only;rw[if_pos hm]
theorem kidsF_last{s:ByteArray}{node:PS->Except Nat PS}{g:Nat}{st st2:PS}(h:node st=.ok st2)(hm:¬isAt s st2.i 44=true):kidsF s node (g+1) st=endR s st2:=by rw[kidsF,h];simp only;rw[if_neg hm];rfl
def KI(s:ByteArray)(node:PS->Except Nat PS)(R:Except Nat PS)(m:Bool)(i:Nat)(L:List Nd)(f:Flt)(bad:Int):Prop:=
 (bad=-1∧m=true∧∃g,s.size<g+i∧kidsF s node g ⟨i,L,f⟩=R)∨(bad=-1∧m=false∧endR s ⟨i,L,f⟩=R)∨(∃b:Nat,bad=b∧m=false∧R=.error b)
section
variable{s:ByteArray} {i c:Nat} {b:Nat}
theorem gB_ok:gB s i c (-1)=isAt s i c:=by unfold gB;rw[if_pos (by omega)]
theorem mI_ok:mI s i c (-1)=gotI s i c:=by unfold mI;rw[if_pos (by omega)]
theorem mB_ok:mB s i c (-1)=if isAt s i c then-1 else(sk s i:Int):=by unfold mB;rw[if_pos (by omega)];rfl
theorem gB_bad:gB s i c (b:Int)=false:=by unfold gB;rw[if_neg (by omega)]
theorem mB_bad:mB s i c (b:Int)=b:=by unfold mB;rw[if_neg (by omega)]
theorem gI_at(h:isAt s i c=true):gotI s i c=sk s i+1:=by unfold gotI;rw[if_pos (by unfold isAt at h;simpa using h)]
theorem gotI_not(h:¬isAt s i c=true):gotI s i c=sk s i:=by unfold gotI;rw[if_neg (by unfold isAt at h;simpa using h)]
end
theorem kids_bad(rb B:Nat)(s:ByteArray)(i:Nat)(L:List Nd)(f:Flt)(b:Nat)(dep up:Int)(w0 w:World)(h:RW w0 w rb B s i L f (b:Int) dep)(hs:s.size≤1073741824):
 Calls prog 47 #[Pq rb,Iq up] w fun e w'=>e=.returned (.tuple #[])∧∃i',RW w0 w' rb B s i' L f (b:Int) dep:=by
 have MU:Hid (∀(c i:Nat) (w:World),c<256->RW w0 w rb B s i L f (b:Int) dep->Calls prog 48 #[Pq rb,.int .u8 (c:Int)] w fun e w'=>e=.returned (.tuple #[])∧RW w0 w' rb B s (mI s i c b) L f (b:Int) dep):=fun c i w hc h=>by have:=rw_must c hc h hs;rw[mB_bad]at this;exact this
 have GO:Hid (∀(c i:Nat) (w:World),c<256->RW w0 w rb B s i L f (b:Int) dep->Calls prog 73 #[Pq rb,.int .u8 (c:Int)] w fun e w'=>e=.returned (.bool false)∧RW w0 w' rb B s (mI s i c b) L f (b:Int) dep):=fun c i w hc h=>by have:=rw_got c hc h hs;rw[gB_bad]at this;exact this
 have M91:Hid (Calls prog 48 #[Pq rb,.int .u8 91] w fun e w'=>e=.returned (.tuple #[])∧RW w0 w' rb B s (mI s i 91 b) L f (b:Int) dep):=MU 91 i w (by omega) h;go_enter func47,ntmps47;go_wp2_with fail;refine Calls.mono M91 ?_;rintro e w1 ⟨rfl,h1⟩;have G93:Hid (Calls prog 73 #[Pq rb,.int .u8 93] w1 fun e w'=>e=.returned (.bool false)∧RW w0 w' rb B s (mI s (mI s i 91 b) 93 b) L f (b:Int) dep):=GO 93 _ w1 (by omega) h1;go_wp2_with fail;refine Calls.mono G93 ?_;rintro e w2 ⟨rfl,h2⟩;have H2:=qH<|h2;have E93:Hid (Calls prog 48 #[Pq rb,.int .u8 93] w2 fun e w'=>e=.returned (.tuple #[])∧RW w0 w' rb B s (mI s (mI s (mI s i 91 b) 93 b) 93 b) L f (b:Int) dep):=MU 93 _ w2 (by omega) h2;go_wp2_with fail;go_loopw[4] (fun mv wr=>mv=.bool true∧wr=w2) (fun _ _=>0);case atStart=>exact⟨rfl,rfl⟩
 case round=>obtain⟨rfl,rfl⟩:=hrel;have c3:=H2.c3;go_wp2_with fail;refine Calls.mono E93 ?_;rintro e w3 ⟨rfl,h3⟩;have H3:=qH<|h3;go_wp2;go_end0;exact⟨rfl,_,H3⟩
theorem kids_of(rb B:Nat)(s:ByteArray)(f:Nat)(hN:NodeR rb B s f)(hs:s.size≤1073741824)(up:Nat)(depth:Nat)(st:PS)(w0 w:World)(h:RW w0 w rb B s st.i st.L st.er (-1) (depth:Int))(hup:up<st.L.length)(hd:depth≤st.i)(hf:s.size<f+st.i):
 Calls prog 47 #[Pq rb,Iq (up:Int)] w fun e w'=>e=.returned (.tuple #[])∧NOut w0 w' rb B s (depth:Int) st (kidsR s (nodeF s f (up:Int) depth) st):=by
 by_cases hq:isAt s st.i 91=true
 ·have M91:Hid (Calls prog 48 #[Pq rb,.int .u8 91] w fun e w'=>e=.returned (.tuple #[])∧RW w0 w' rb B s (gotI s st.i 91) st.L st.er (-1) (depth:Int)):=by have:=rw_must 91 (by omega) h hs;rw[mB_ok,if_pos hq,mI_ok]at this;exact this
  have hi2:st.i<gotI s st.i 91:=by rw[gI_at hq];have:=sk_ge s st.i;omega
  have HK:Hid (kidsR s (nodeF s f (up:Int) depth) st=if isAt s (gotI s st.i 91) 93 then .ok {st with i:=gotI s (gotI s st.i 91) 93}else kidsF s (nodeF s f (up:Int) depth) (s.size+1) {st with i:=sk s (gotI s st.i 91)}):=by show _=_;unfold kidsR mustR;rw[if_pos hq]
  obtain⟨R,hR⟩:=nmd (kidsR s (nodeF s f (up:Int) depth) st);rw[hR]at HK⊢;have HN:=qH<|hN;obtain⟨i2,hi2e⟩:=nmd (gotI s st.i 91);rw[hi2e]at M91 hi2 HK;go_enter func47,ntmps47;go_wp2_with fail;refine Calls.mono M91 ?_;rintro e w1 ⟨rfl,h1⟩;have G93:Hid (Calls prog 73 #[Pq rb,.int .u8 93] w1 fun e w'=>e=.returned (.bool (isAt s i2 93))∧RW w0 w' rb B s (gotI s i2 93) st.L st.er (-1) (depth:Int)):=by have:=rw_got 93 (by omega) h1 hs;rw[gB_ok,mI_ok]at this;exact this
  have hg93:=gotI_ge s i2 93;by_cases hq2:isAt s i2 93=true
  ·have HRE:Hid (R=.ok {st with i:=gotI s i2 93}):=by show _=_;rw[HK.out,if_pos hq2]
   rw[hq2]at G93;go_wp2_with fail;refine Calls.mono G93 ?_;rintro e w2 ⟨rfl,h2⟩;have H2:=qH<|h2;go_wp2;try simp only[Exit.inBlock,Exit.then]
   refine bodyPost_ret (results_none rfl _ _ _) rfl ?_;refine⟨rfl,?_⟩;show NOut _ _ _ _ _ _ _ _;rw[HRE.out];exact⟨H2,by show st.i<gotI s i2 93;omega,Nat.le_refl _⟩
  ·have hsk:=gotI_not hq2;have HKF:Hid (kidsF s (nodeF s f (up:Int) depth) (s.size+1) ⟨sk s i2,st.L,st.er⟩=R):=by show _=_;rw[HK.out,if_neg hq2]
   rw[show isAt s i2 93=false by simpa using hq2,hsk]at G93;rw[hsk]at hg93;go_wp2_with fail;refine Calls.mono G93 ?_;rintro e w2 ⟨rfl,h2⟩;have H2:=qH<|h2;have hsl:=h2.il;go_wp2_with fail;go_loopw[4] (fun mv wr=>∃(m:Bool) (i:Nat) (L:List Nd) (g:Flt) (bad:Int),mv=.bool m∧i≤s.size∧(bad=-1->st.i<i∧st.L.length≤L.length)∧Hid (KI s (nodeF s f (up:Int) depth) R m i L g bad)∧Hid (RW w0 wr rb B s i L g bad (depth:Int))) (fun mv wr=>if moreOf mv then s.size+1-rdI wr rb else 0);case atStart=>exact⟨true,sk s i2,st.L,st.er,-1,rfl,hsl,fun _=>⟨by omega,Nat.le_refl _⟩,.inl ⟨rfl,rfl,s.size+1,by omega,HKF⟩,H2⟩
   case round=>
    obtain⟨m,i,L,g,bad,rfl,hil,hLL,HI,HS⟩:=hrel;have c3:=HS.c3;have HRd:=qH<|HS.rdI;rcases HI.out with⟨rfl,rfl,fu,hfu,hkf⟩|⟨rfl,rfl,hen⟩|⟨b,rfl,rfl,hre⟩;·obtain⟨fu,rfl⟩:∃q,fu=q+1:=⟨fu-1,by omega⟩;obtain⟨hii,hLs⟩:=hLL rfl;have CN:=qH<|HN (up:Int) depth ⟨i,L,g⟩ w0 wr HS (.inr ⟨by omega,by show(up:Int)<(L.length:Int);omega⟩) (by show depth≤i;omega) (by show s.size<f+i;omega);have HKF:=qH<|hkf;cases hp:nodeF s f (up:Int) depth ⟨i,L,g⟩with
     |error b=>
      have HRE:Hid (R=.error b):=by show _=_;rw[<-HKF.out];exact kidsF_err hp
      rw[hp]at CN;go_wp2_with fail;refine Calls.mono CN ?_;rintro e w3 ⟨rfl,i3,L3,g3,h3⟩;have G44:Hid (Calls prog 73 #[Pq rb,.int .u8 44] w3 fun e w'=>e=.returned (.bool false)∧RW w0 w' rb B s (mI s i3 44 b) L3 g3 (b:Int) (depth:Int)):=by have:=rw_got 44 (by omega) h3 hs;rw[gB_bad]at this;exact this
      go_wp2_with fail;refine Calls.mono G44 ?_;rintro e w4 ⟨rfl,h4⟩;have H4:=qH<|h4;go_wp2_with fail;go_roundw;case rel=>exact⟨false,_,L3,g3,(b:Int),rfl,H4.il,fun e=>by omega,.inr (.inr ⟨b,rfl,rfl,HRE⟩),H4⟩
      case measure=>rw[HRd.out];show 0<s.size+1-i;omega
     |ok st3=>
      rw[hp]at CN;have HP:=qH<|hp;go_wp2_with fail;refine Calls.mono CN ?_;rintro e w3 ⟨rfl,h3,p3,l3⟩;have hp3:i<st3.i:=p3;have hl3:L.length≤st3.L.length:=l3;have G44:Hid (Calls prog 73 #[Pq rb,.int .u8 44] w3 fun e w'=>e=.returned (.bool (isAt s st3.i 44))∧RW w0 w' rb B s (gotI s st3.i 44) st3.L st3.er (-1) (depth:Int)):=by have:=rw_got 44 (by omega) h3 hs;rw[gB_ok,mI_ok]at this;exact this
      have hgg:=gotI_ge s st3.i 44;go_wp2_with fail;refine Calls.mono G44 ?_;rintro e w4 ⟨rfl,h4⟩;have H4:=qH<|h4;have HR4:=qH<|h4.rdI;have hil4:=h4.il;by_cases hm:isAt s st3.i 44=true
      ·have HK2:Hid (kidsF s (nodeF s f (up:Int) depth) fu ⟨gotI s st3.i 44,st3.L,st3.er⟩=R):=by show _=_;rw[<-HKF.out];exact(kidsF_more HP hm).symm
       rw[hm];go_wp2_with fail;go_roundw;case rel=>exact⟨true,gotI s st3.i 44,st3.L,st3.er,-1,rfl,hil4,fun _=>⟨by omega,by omega⟩,.inl ⟨rfl,rfl,fu,by omega,HK2⟩,H4⟩
       case measure=>rw[HRd.out,HR4.out];show s.size+1-gotI s st3.i 44<s.size+1-i;omega
      ·have hsk:=gotI_not hm;have HK2:Hid (endR s ⟨gotI s st3.i 44,st3.L,st3.er⟩=R):=by show _=_;rw[<-HKF.out,kidsF_last HP.out hm,hsk];exact endR_sk s st3
       rw[show isAt s st3.i 44=false by simpa using hm];go_wp2_with fail;go_roundw;case rel=>exact⟨false,gotI s st3.i 44,st3.L,st3.er,-1,rfl,hil4,fun _=>⟨by omega,by omega⟩,.inr (.inl ⟨rfl,rfl,HK2⟩),H4⟩
       case measure=>rw[HRd.out];show 0<s.size+1-i;omega
    ·obtain⟨hii,hLs⟩:=hLL rfl;have HEN:=qH<|hen;have M93:Hid (Calls prog 48 #[Pq rb,.int .u8 93] wr fun e w'=>e=.returned (.tuple #[])∧RW w0 w' rb B s (gotI s i 93) L g (if isAt s i 93 then-1 else(sk s i:Int)) (depth:Int)):=by have:=rw_must 93 (by omega) HS hs;rw[mB_ok,mI_ok]at this;exact this
     have hgg:=gotI_ge s i 93;go_wp2_with fail;refine Calls.mono M93 ?_;rintro e w3 ⟨rfl,h3⟩;have H3:=qH<|h3;clear h3 M93 c3;go_wp2;go_end0;refine⟨rfl,?_⟩;show NOut _ _ _ _ _ _ _ _;rw[<-HEN.out];unfold endR mustR;have hh:=H3.out;by_cases hm:isAt s i 93=true;·rw[if_pos hm]at hh;simp only[hm,if_true];exact⟨hh,by show st.i<gotI s i 93;omega,hLs⟩
     ·rw[if_neg hm]at hh;simp only[hm];exact⟨_,_,_,hh⟩
    ·have HRE:=qH<|hre;have hbf:decide ((b:Int)<0)=false:=decide_eq_false (by omega);have M93:Hid (Calls prog 48 #[Pq rb,.int .u8 93] wr fun e w'=>e=.returned (.tuple #[])∧RW w0 w' rb B s (mI s i 93 b) L g (b:Int) (depth:Int)):=by have:=rw_must 93 (by omega) HS hs;rw[mB_bad]at this;exact this
     clear hre HI hLL;go_wp2_with fail;refine Calls.mono M93 ?_;rintro e w3 ⟨rfl,h3⟩;have H3:=qH<|h3;clear h3 M93 c3;go_wp2;go_end0;refine⟨rfl,?_⟩;show NOut _ _ _ _ _ _ _ _;rw[HRE.out];exact⟨_,_,_,H3⟩
 ·have hR:kidsR s (nodeF s f (up:Int) depth) st=.error (sk s st.i):=by unfold kidsR mustR;rw[if_neg hq]
  have HR:=qH<|hR;have M91:Hid (Calls prog 48 #[Pq rb,.int .u8 91] w fun e w'=>e=.returned (.tuple #[])∧RW w0 w' rb B s (gotI s st.i 91) st.L st.er (sk s st.i:Int) (depth:Int)):=by have:=rw_must 91 (by omega) h hs;rw[mB_ok,if_neg hq,mI_ok]at this;exact this
  have hbf:decide ((sk s st.i:Int)<0)=false:=decide_eq_false (by omega);rw[hR];clear hN hR h;go_enter func47,ntmps47;go_wp2_with fail;refine Calls.mono M91 ?_;rintro e w1 ⟨rfl,h1⟩;have G93:Hid (Calls prog 73 #[Pq rb,.int .u8 93] w1 fun e w'=>e=.returned (.bool false)∧RW w0 w' rb B s (mI s (gotI s st.i 91) 93 (sk s st.i:Int)) st.L st.er (sk s st.i:Int) (depth:Int)):=by have:=rw_got 93 (by omega) h1 hs;rw[gB_bad]at this;exact this
  clear h1 M91;go_wp2_with fail;refine Calls.mono G93 ?_;rintro e w2 ⟨rfl,h2⟩;have H2:=qH<|h2;have E93:Hid (Calls prog 48 #[Pq rb,.int .u8 93] w2 fun e w'=>e=.returned (.tuple #[])∧RW w0 w' rb B s (mI s (mI s (gotI s st.i 91) 93 (sk s st.i:Int)) 93 (sk s st.i:Int)) st.L st.er (sk s st.i:Int) (depth:Int)):=by have:=rw_must 93 (by omega) h2 hs;rw[mB_bad]at this;exact this
  clear h2 G93;go_wp2_with fail;go_loopw[4] (fun mv wr=>mv=.bool true∧wr=w2) (fun _ _=>0);case atStart=>exact⟨rfl,rfl⟩
  case round=>obtain⟨rfl,rfl⟩:=hrel;have c3:=H2.c3;go_wp2_with fail;refine Calls.mono E93 ?_;rintro e w3 ⟨rfl,h3⟩;have H3:=qH<|h3;clear h3 E93 c3;go_wp2;go_end0;exact⟨rfl,_,_,_,H3⟩
end
section
open Go.RowKit Go.Proofs.Tryz
theorem rw_quoted_bad(rb B:Nat)(s:ByteArray)(i:Nat)(L:List Nd)(f:Flt)(b:Nat)(dep:Int)(w0 w:World)(h:RW w0 w rb B s i L f (b:Int) dep)(hs:s.size≤1073741824):
 Calls prog 49 #[Pq rb] w fun e w'=>e=.returned (.string ByteArray.empty)∧∃p,RW w0 w' rb B s p L f (b:Int) dep:=by
 have MU:Hid (Calls prog 48 #[Pq rb,.int .u8 34] w fun e w'=>e=.returned (.tuple #[])∧RW w0 w' rb B s (mI s i 34 b) L f (b:Int) dep):=by have:=rw_must 34 (by omega) h hs;rw[mB_bad]at this;exact this
 have hbf:decide ((b:Int)<0)=false:=decide_eq_false (by omega);clear h;go_enter func49,ntmps49;go_wp2_with fail;refine Calls.mono MU ?_;rintro e w1 ⟨rfl,h1⟩;have H1:=qH<|h1;clear h1 MU;go_wp2_with fail;go_loopw[3] (fun v wr=>wr=w1) (fun _ _=>0);case atStart=>exact rfl
 case round=>obtain rfl:=hrel;have c3:=H1.c3;go_wp2;go_ret;exact⟨rfl,_,H1⟩
theorem quoR_bd{s:ByteArray}{i p:Nat}{t:List UInt8}(hi:i≤s.size)(h:quoR s i=.ok (p,t)):i≤p∧p≤s.size:=by
 unfold quoR at h;split at h;·have g:=qF_bd _ _ _ _ _ (gotI_le (by omega) hi) h;have:=gotI_ge s i 34;omega
 ·cases h
theorem rw_quoted{rb B:Nat}{s:ByteArray}{i:Nat}{L:List Nd}{f:Flt}{dep:Int}{w0 w:World}(h:RW w0 w rb B s i L f (-1) dep)(hs:s.size≤1073741824):
 Calls prog 49 #[Pq rb] w fun e w'=>match quoR s i with
  |.ok (p,t)=>e=.returned (.string ⟨t.toArray⟩)∧RW w0 w' rb B s p L f (-1) dep
  |.error b=>e=.returned (.string ByteArray.empty)∧∃p,RW w0 w' rb B s p L f (b:Int) dep:=by
 obtain⟨nv,AV,KV,er,at_,h1,h2,h3⟩:=h.mem;refine(quoted_any rb s i nv (-1) er at_ dep w h1 hs h.il (by omega)).mono ?_;rintro e w' ⟨g,hq⟩;have hfr:=h.fr.trans (Fr.grown g h.le);have hrd:=h3.up (Up.grown g h.rbB);have hle:=Nat.le_trans h.le g.size;cases hR:quoR s i with
 |error b=>rw[hR]at hq;obtain⟨rfl,p,hp,r⟩:=hq;exact⟨rfl,p,hp,fun e=>by omega,h.kl,h.rbB,hle,hfr,nv,AV,KV,er,at_,r,fun e=>by omega,hrd⟩
 |ok q=>obtain⟨p,t⟩:=q;rw[hR]at hq;obtain⟨rfl,r⟩:=hq;have hb:=quoR_bd h.il hR;exact⟨rfl,hb.2,fun e=>Nat.le_trans (h.ll e) hb.1,h.kl,h.rbB,hle,hfr,nv,AV,KV,er,at_,r,fun e=>(h2 e).on hb.1,hrd⟩
theorem withText_len(L:List Nd)(k:Nat)(x:List UInt8):(withText L k x).length=L.length:=by unfold withText;simp
theorem withText_kids{L:List Nd}{k:Nat}(hk:k<L.length)(x:List UInt8)(j:Nat):(nth (withText L k x) j).kids=(nth L j).kids:=by
 unfold withText;by_cases e:j=k;·subst e;rw[nth_mod_same _ hk]
 ·rw[nth_mod_other _ e]
theorem RW.text{W0 W:World}{rb B i:Nat}{s:ByteArray}{L:List Nd}{f:Flt}{bad dep:Int}(h:RW W0 W rb B s i L f bad dep){k:Nat}(hk:k<L.length):
 ∃g cap,W.cell? ⟨rb,2,none⟩=some (Sq g L.length cap)∧(∃u,W.cell? ⟨g,k*5+2,none⟩=some u)∧W.frozen? ⟨g,k*5+2,none⟩=false∧L.length≤cap∧g≠rb∧∀x:List UInt8,RW W0 (W.setCell ⟨g,k*5+2,none⟩ (.string ⟨x.toArray⟩)) rb B s i (withText L k x) f bad dep:=by obtain⟨nv,AV,KV,er,at_,h1,h2,h3⟩:=h.mem;obtain⟨g,cap,rfl,hBg,hgl,hc,_⟩:=h3.nr.form (by omega);have hrb:=h.rbB;refine⟨g,cap,h1.c2,⟨_,h3.nr.cell hk rfl⟩,h3.nr.frozen _,hc,by omega,fun x=>?_⟩;have hgs:=gr_set W g (k*5+2) (.string ⟨x.toArray⟩);refine⟨h.il,fun e=>by rw[withText_len];exact h.ll e,fun j=>by rw[withText_kids hk,withText_len];exact h.kl j,h.rbB,by simpa[World.setCell]using h.le,h.fr.trans (Fr.own hgs h.le (fun q e=>by injection e with e;omega)),_,AV,KV,er,at_,RS.other h1 (by omega) _,h2,h3.setText hk x⟩
end
end Go.Proofs.YtmbefonnkkhfgaaGreatDoor
