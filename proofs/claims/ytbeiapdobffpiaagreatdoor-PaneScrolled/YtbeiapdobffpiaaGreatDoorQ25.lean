import Derived.Test.YtbeiapdobffpiaaGreatDoorQ24
import Derived.Test.YtbeiapdobffpiaaGreatDoorQ23
import Derived.Test.YtbeiapdobffpiaaGreatDoorQ13
set_option linter.all false
set_option maxRecDepth 100000
set_option maxHeartbeats 16000000
namespace Go.Proofs.YtbeiapdobffpiaaGreatDoor
open Go.RowKit Go.Proofs.Tryz
def fF(E:Nat->Addr):fP->Value
 |none=>.nilIface
 |some (c,p)=>cR (p:Int) (bp (E c))
structure Qb(W:World)(rb ab B:Nat)(E:Nat->Addr):Prop where
 tab:I8 W ab
 lo:9<=rb
 rbB:rb<B
 abB:ab<B
 ne:ab≠rb
 le:B<=W.heap.size
 g2:W.cell? (az 7 0)=some (bp (E 2))
 g3:W.cell? (az 1 0)=some (bp (E 3))
 g4:W.cell? (az 2 0)=some (bp (E 4))
 g5:W.cell? (az 3 0)=some (bp (E 5))
 g6:W.cell? (az 4 0)=some (bp (E 6))
 g7:W.cell? (az 5 0)=some (bp (E 7))
theorem Qb.fr{W W'}{rb ab B}{E}(h:Qb W rb ab B E)(f:Fr B rb W W'):Qb W' rb ab B E:=by have lo:=h.lo;have rB:=h.rbB;exact⟨h.tab.fr f h.abB h.ne,h.lo,h.rbB,h.abB,h.ne,aT h.le f.size,f.cell h.g2 (by grind) (by grind),f.cell h.g3 (by grind) (by grind),f.cell h.g4 (by grind) (by grind),f.cell h.g5 (by grind) (by grind),f.cell h.g6 (by grind) (by grind),f.cell h.g7 (by grind) (by grind)⟩
def jE(er:fP)(eo:Option Nat)(p:Nat):fP:=match eo with
 |none=>er
 |some c=>ib er c p
def UL(E:Nat->Addr):Option Nat->Value
 |none=>.nilIface
 |some c=>bp (E c)
theorem keep_all  rb   s   i   av nv   E   er   eo  (p:Nat)  w  (h:PR w rb s i av nv (fF E er)):
 Cw 84 #[Pq rb,UL E eo,Iq (p:Int)] w fun e w'=>e=Rw (.tuple #[])/\PR w' rb s i av nv (fF E (jE er eo p))/\w.grownBy w' (some rb):=by
 cases eo with
 |none=>exact KF rb s i av nv _ p w h
 |some c=>
  cases er with
  |none=>exact C_ rb s i av nv (E c) p w h
  |some f=>obtain⟨c2,p2⟩:=f;exact Da rb s i av nv (E c) (E c2) p p2 w h
structure F2(r b:Nat)(W W':World):Prop where
 os:W'.os=W.os
 tape:W'.tape=W.tape
 output:W'.output=W.output
 size:W.heap.size<=W'.heap.size
 block:∀k,k<W.heap.size->k≠r->k≠b->W'.heap[k]?=W.heap[k]?
theorem F2.trans{r b}{W W1 W2}(h:F2 r b W W1)(k:F2 r b W1 W2):F2 r b W W2:=
 ⟨k.os.trans h.os,k.tape.trans h.tape,k.output.trans h.output,aT h.size k.size,fun q h1 h2 h3=>(k.block q (bn h1 h.size) h2 h3).trans (h.block q h1 h2 h3)⟩
theorem F2.left{r b}{W W'}(h:W.grownBy W' (some r)):F2 r b W W':=⟨h.os,h.tape,h.output,h.size,fun k h1 h2 h3=>h.block k h1 (by grind)⟩
theorem F2.right{r b}{W W'}(h:W.grownBy W' (some b)):F2 r b W W':=⟨h.os,h.tape,h.output,h.size,fun k h1 h2 h3=>h.block k h1 (by grind)⟩
theorem F2.below{r b}{W W'}(h:Bt W W'):F2 r b W W':=⟨h.os,h.tape,h.output,h.size,fun k h1 h2 h3=>h.block k h1⟩
theorem F2.fr{r b B}{W W'}(h:F2 r b W W')(hB:B<=W.heap.size)(hb:B<=b):Fr B r W W':=⟨h.os,h.tape,h.output,h.size,fun k h1 h2=>h.block k (by omega) h2 (by omega)⟩
def qu(name:ByteArray)(kind:Nat)(ws:List ByteArray):Option Nat:=match ep name kind 12 0 with
 |none=>some 7
 |some _=>if 0<=aJ ws name 0 then some 5 else none
def vW(name:ByteArray)(kind:Nat):Nat:=(ep name kind 12 0).getD 0
def xr(L:List Nd)(k:Nat)(n:Int):Option Nat:=if mG k<n then some 6 else if uc L k n=true then some 5 else none
def Ld(L:List Nd)(j:Nat)(er:fP)(at_:Nat)(t:ByteArray)(e j2 ix:Nat)(n:Int):Option Nat->Except Nat (Nat×fP×List Nd×ByteArray)
 |some c=>.ok (e,jE er (some c) at_,L,t)
 |none=>.ok (e,jE er (xr L ix n) j2,setL L j ix n,t)
def qK(s:ByteArray)(kind:Nat)(ws:List ByteArray)(L:List Nd)(j:Nat)(er:fP)(at_:Nat)(t:ByteArray)(i2:Nat):Except Nat (Nat×fP×List Nd×ByteArray):=
 if jV s (sk s i2) (run aU s (sk s i2))=true then .error (sk s i2)else Ld L j er at_ t (run aU s (sk s i2)) (sk s i2) (vW t kind) (dv s (sk s i2) (run aU s (sk s i2)-sk s i2)) (qu t kind ws)
def eP(s:ByteArray)(kind:Nat)(ws:List ByteArray)(L:List Nd)(j i:Nat)(er:fP):Except Nat (Nat×fP×List Nd×ByteArray):=
 if run ap s (sk s i)=sk s i then .error (sk s i)
 else if aM s (run ap s (sk s i)) 61=true then qK s kind ws L j er (sk s i) (s.extract (sk s i) (run ap s (sk s i))) (ao s (run ap s (sk s i)) 61)
 else .error (sk s (run ap s (sk s i)))
def I4(w w':World)(e:Ending)(rb B bl:Nat)(E:Nat->Addr)(s:ByteArray)(av nv:Value)(KV:Nat->Value)(r:Except Nat (Nat×fP×List Nd×ByteArray)):Prop:=
 F2 rb bl w w'/\match r with
 |.error b=>e=.panicked [{v:=cR (b:Int) (bp (E 2)),recovered:=false}]
 |.ok (i,er,L,name)=>e=Rw (.string name)/\PR w' rb s i av nv (fF E er)/\PN w' B nv L KV
theorem Az  name   kind  :∀f j k,ep name kind f j=some k->j<=k/\k<j+f
 |0,j,k,h=>by cases h
 |f+1,j,k,h=>by
  unfold ep at h;split at h;·grind
  ·have:=Az name kind f (j+1) k h;omega
theorem PB  L   k   n   E  :DH L k n (E 6) (E 5)=UL E (xr L k n):=by
 unfold DH xr;split;·rfl
 ·split<;>rfl
theorem Jb{t}{kind c}{ws}(E:Nat->Addr)(h:qu t kind ws=some c):rA t kind ws (E 7) (E 5)=.tuple #[tj,bp (E c)]:=by grind[qu,rA,ep,aJ]
theorem Ja{t}{kind}{ws}(E:Nat->Addr)(h:qu t kind ws=none):vW t kind<12/\rA t kind ws (E 7) (E 5)=.tuple #[sR (vW t kind),.nilIface]:=by
 unfold qu at h;unfold rA vW;cases hs:ep t kind 12 0 with
 |none=>grind
 |some q=>
  rw[hs]at h;by_cases hf:0<=aJ ws t 0;·grind
  ·have:=Az t kind 12 0 q hs;grind
theorem ru.f2{W W'}{v}{ws}{r b}(h:ru W v ws)(f:F2 r b W W')(hr:∀q,v.ownBlock=some q->q≠r/\q≠b):ru W' v ws:=by
 obtain⟨p,c,rfl,rfl|⟨blk,rfl,h1,h2⟩⟩:=h;·exact⟨p,c,rfl,.inl rfl⟩
 ·have:=hr blk rfl;exact⟨_,c,rfl,.inr ⟨blk,rfl,bn h1 f.size,fun j hj=>(bU (f.block blk h1 this.1 this.2)).trans (h2 j hj)⟩⟩
theorem readAttribute_any(rb ab B:Nat)(E:Nat->Addr)(s:ByteArray)(i:Nat)(er:fP)(L:List Nd)(KV:Nat->Value)(bl al j kind:Nat)(v:Value)(ws:List ByteArray)(w:World)(env:Qb w rb ab B E)
 (h:PR w rb s i (Sq ab 12 12) (Sq bl L.length al) (fF E er)) (hn:PN w B (Sq bl L.length al) L KV) (hL:L.length<=100000) (hj:j<L.length) (hkd:(ae L j).kind=kind) (M7:kind<7)
 (hv:ru w v ws) (hvr:∀q,v.ownBlock=some q->q≠rb/\q≠bl) (hwn:ws.length<=1099511627776) (hs:s.size<=1073741824) (hi:i<=s.size):
 Cw 128 #[Pq rb,.pointer (some (az bl (j*16))),v] w fun e w'=>I4 w w' e rb B bl E s (Sq ab 12 12) (Sq bl L.length al) KV (eP s kind ws L j i er):=by
 obtain⟨av,MT⟩:=aj (Sq ab 12 12);obtain⟨nv,kJ⟩:=aj (Sq bl L.length al);have oY:=env.rbB;have mX:=env.lo;have CW:=nY rb s i (Sq ab 12 12) (Sq bl L.length al) (fF E er) w h (by omega) hi;obtain⟨at_,bY⟩:=aj (sk s i);have Ot:at_<=s.size:=by rw[<-bY];exact eh s i hi
 obtain⟨k,hk⟩:=aj (run ap s at_);have dD:k<=s.size:=by rw[<-hk];exact iK _ _ _ Ot
 have OL:at_<=k:=by rw[<-hk];exact iJ _ _ _
 obtain⟨t,ht⟩:=aj (s.extract at_ k);rw[bY,hk,ht]at CW;have HP:Hid (eP s kind ws L j i er=if k=at_ then .error at_ else if aM s k 61=true then qK s kind ws L j er at_ t (ao s k 61)else .error (sk s k)):=by show _=_;unfold eP;rw[bY,hk,ht]
 have Uf:=qH<|CW;have HEV:=qH<|env;have HN:=qH<|hn;have HX:=qH<|hv;have fT:t.size=k-at_:=by rw[<-ht];simp;omega
 have RL:=qH<|hkd;obtain⟨pv,cv,Vf⟩:∃p c,v=.slice p ws.length c:=by obtain⟨p,c,e,_⟩:=hv;grind
 subst Vf;by_cases Ii:k=at_
 ·have vP:Hid (eP s kind ws L j i er=.error at_):=by show _=_;rw[HP.out,if_pos Ii]
  have et:t.toList.isEmpty=true:=by
   rw[ByteArray.toList_eq];have:t.data.size=0:=by show t.size=0;omega
   simp[Rx this]
  have HT:Hid (∀W,W.cell? (az 7 0)=some (bp (E 2))->Cw 46 #[Iq (at_:Int)] W fun e w'=>e=Rw (.iface 124 (.agg #[Iq (at_:Int),.iface 365 (.pointer (some (E 2)))]))/\w'=W):=fun W he=>fI _ W (E 2) he;go_enter func128,ntmps128;go_wp2_with fail;refine Uf.mono ?_;rintro e w1 ⟨rfl,h1,g1⟩;have HG1:=qH<|g1;have HE1:=qH<|HEV.fr (Fr.grown g1 HEV.le);go_wp2_with fail;refine(HT _ HE1.g2).mono ?_;rintro e w2 ⟨rfl,hw⟩;obtain rfl:=hw.symm;go_wp2;refine⟨rfl,?_⟩;rw[vP.out];exact⟨F2.left HG1,rfl⟩
 ·have tF:Hid (eP s kind ws L j i er=if aM s k 61=true then qK s kind ws L j er at_ t (ao s k 61)else .error (sk s k)):=by show _=_;rw[HP.out,if_neg Ii]
  have et:t.toList.isEmpty=false:=by
   rw[ByteArray.toList_eq];have:t.data.size≠0:=by show t.size≠0;omega
   cases hd:t.data.toList with
   |nil=>grind
   |cons a r=>rfl
  go_enter func128,ntmps128;go_wp2_with fail;refine Uf.mono ?_;rintro e w1 ⟨rfl,h1,g1⟩;have HG1:=qH<|g1;have HE1:=qH<|HEV.fr (Fr.grown g1 HEV.le);have HN1:=qH<|HN.up (Up.grown g1 oY);have HR1:=qH<|h1;have Uz:=qH<|HX.f2 (F2.left (b:=bl) g1) hvr;have ck:w1.cell? (az bl (j*16))=some (Iq (kind:Int)):=by have:=HN1.nr.cells bl rfl j hj 0 _ (Pn _ _);rw[RL.out]at this;exact this
  have CA:=qH<|attributeOf_any rb ab s k _ _ kind t _ ws (E 7) (E 5) w1 h1 HE1.tab M7 Uz hwn HE1.g7 HE1.g5;go_wp2_with fail;refine CA.mono ?_;rintro e w2 ⟨rfl,hb2⟩;have HF2:Hid (F2 rb bl w w2):=(F2.left HG1).trans (F2.below hb2);have HE2:=qH<|HE1.fr (Fr.below hb2 HE1.le);have oC:=qH<|HN1.up (Up.below hb2);have HR2:=qH<|HR1.below hb2;cases hao:qu t kind ws with
  |some c=>
   have _l:=qH<|hao;have HAV:Hid (rA t kind ws (E 7) (E 5)=.tuple #[.agg #[.string ⟨#[]⟩,.int .u64 0,Iq 0,Iq 0,.bool false,.nilFunc],.iface 365 (.pointer (some (E c)))]):=Jb E hao;rw[HAV.out];have IP:Hid (Bt w2 (w2.alloc (.cells #[.string ⟨#[]⟩,.int .u64 0,Iq 0,Iq 0,.bool false,.nilFunc] 171))):=(ag _ _).alloc (ai _) _;have CK:Hid (Cw 84 #[Pq rb,.iface 365 (.pointer (some (E c))),Iq (at_:Int)] (w2.alloc (.cells #[.string ⟨#[]⟩,.int .u64 0,Iq 0,Iq 0,.bool false,.nilFunc] 171)) fun e w'=>e=Rw (.tuple #[])/\PR w' rb s k (Sq ab 12 12) (Sq bl L.length al) (fF E (jE er (some c) at_))/\(w2.alloc (.cells #[.string ⟨#[]⟩,.int .u64 0,Iq 0,Iq 0,.bool false,.nilFunc] 171)).grownBy w' (some rb)):=keep_all rb s k _ _ E er (some c) at_ _ (HR2.below IP);go_wp2_with fail;refine CK.mono ?_;rintro e w4 ⟨rfl,h4,g4⟩;have HR4:=qH<|h4;have HF4:=qH<|HF2.trans ((F2.below IP).trans (F2.left g4));have HE4:=qH<|(HE2.fr (Fr.below IP HE2.le)).fr (Fr.grown g4 (aT HE2.le IP.size));have HN4:=qH<|(oC.up (Up.below IP)).up (Up.grown g4 oY);by_cases hq:aM s k 61=true
   ·have nt:ao s k 61<=s.size:=dP (by omega) dD;have CX:Hid (Cw 90 #[Pq rb,.int .u8 61] w4 fun e w'=>e=Rw (.tuple #[])/\PR w' rb s (ao s k 61) (Sq ab 12 12) (Sq bl L.length al) (fF E (jE er (some c) at_))/\w4.grownBy w' (some rb)):=iw rb s k _ _ _ 61 w4 HR4 (by omega) dD (by omega) hq;have h_:Hid (eP s kind ws L j i er=qK s kind ws L j er at_ t (ao s k 61)):=by show _=_;rw[tF.out,if_pos hq]
    obtain⟨i2,J9⟩:=aj (ao s k 61);rw[J9]at CX h_ nt;go_wp2_with fail;refine CX.mono ?_;rintro e w5 ⟨rfl,h5,g5⟩;have HF5:=qH<|HF4.trans (F2.left g5);have HE5:=qH<|HE4.fr (Fr.grown g5 HE4.le);have HN5:=qH<|HN4.up (Up.grown g5 oY);have xI:=qH<|h5;by_cases hb:run aU s (sk s i2)=sk s i2\/sk s i2+6<run aU s (sk s i2)\/(sk s i2+1<run aU s (sk s i2)/\dh s (sk s i2)=48)
    ·have CN:=qH<|readNumber_no rb s i2 _ _ _ (E 2) w5 xI (by omega) nt (by omega) HE5.g2 hb;have IG:Hid (eP s kind ws L j i er=.error (sk s i2)):=by show _=_;rw[h_.out];unfold qK jV;rw[if_pos (decide_eq_true hb)]
     go_wp2_with fail;refine CN.mono ?_;rintro e w6 ⟨rfl,g6⟩;refine⟨rfl,?_⟩;rw[IG.out];exact⟨HF5.trans (F2.left g6),rfl⟩
    ·have CN:=qH<|readNumber_yes rb s i2 _ _ _ w5 xI (by omega) nt hb;have IG:Hid (eP s kind ws L j i er=Ld L j er at_ t (run aU s (sk s i2)) (sk s i2) (vW t kind) (dv s (sk s i2) (run aU s (sk s i2)-sk s i2)) ((some c))):=by show _=_;rw[h_.out];unfold qK jV;rw[if_neg (by simpa using hb),_l.out]
     obtain⟨n,hn⟩:=aj (dv s (sk s i2) (run aU s (sk s i2)-sk s i2));obtain⟨j2,EC⟩:=aj (sk s i2);obtain⟨e2,SX⟩:=aj (run aU s j2);rw[hn,EC,SX]at CN IG;go_wp2_with fail;refine CN.mono ?_;rintro e w6 ⟨rfl,h6,g6⟩;have HF6:=qH<|HF5.trans (F2.left g6);have _0:=qH<|HN5.up (Up.grown g6 oY);have H_:=qH<|h6;go_wp2;go_ret;show I4 _ _ _ _ _ _ _ _ _ _ _ _;rw[IG.out];exact⟨HF6,rfl,H_,_0⟩
   ·have Th:aM s k 61=false:=by simpa using hq
    have CX:Hid (Cw 90 #[Pq rb,.int .u8 61] w4 fun e w'=>e=.panicked [{v:=cR (sk s k:Int) (bp (E 2)),recovered:=false}]/\w4.grownBy w' (some rb)):=jA rb s k _ _ _ (E 2) 61 w4 HR4 (by omega) dD (by omega) Th (by omega) HE4.g2;have h_:Hid (eP s kind ws L j i er=.error (sk s k)):=by show _=_;rw[tF.out,if_neg hq]
    go_wp2_with fail;refine CX.mono ?_;rintro e w5 ⟨rfl,g5⟩;refine⟨rfl,?_⟩;rw[h_.out];exact⟨HF4.trans (F2.left g5),rfl⟩
  |none=>
   have _l:=qH<|hao;obtain⟨yX,MT⟩:=Ja E hao;obtain⟨ix,hixe⟩:=aj (vW t kind);have HIX:=qH<|hixe;rw[hixe]at yX MT;obtain⟨a0,a1,a2,a3,a4,g,hrow⟩:∃a0 a1 a2 a3 a4 g,sR ix=.agg #[.string a0,.int .u64 ((a1:Nat):Int),Iq a2,Iq a3,.bool a4,.func (.func g) #[] #[]]:=⟨_,_,_,_,_,_,rfl⟩;have HROW:=qH<|hrow;rw[hrow]at MT;rw[MT];have IP:Hid (Bt w2 (w2.alloc (.cells #[.string a0,.int .u64 (a1:Int),Iq a2,Iq a3,.bool a4,.func (.func g) #[] #[]] 171))):=(ag _ _).alloc (ai _) _;have CK:Hid (Cw 84 #[Pq rb,.nilIface,Iq (at_:Int)] (w2.alloc (.cells #[.string a0,.int .u64 (a1:Int),Iq a2,Iq a3,.bool a4,.func (.func g) #[] #[]] 171)) fun e w'=>e=Rw (.tuple #[])/\PR w' rb s k (Sq ab 12 12) (Sq bl L.length al) (fF E (er))/\(w2.alloc (.cells #[.string a0,.int .u64 (a1:Int),Iq a2,Iq a3,.bool a4,.func (.func g) #[] #[]] 171)).grownBy w' (some rb)):=keep_all rb s k _ _ E er none at_ _ (HR2.below IP);go_wp2_with fail;refine CK.mono ?_;rintro e w4 ⟨rfl,h4,g4⟩;have HR4:=qH<|h4;have HF4:=qH<|HF2.trans ((F2.below IP).trans (F2.left g4));have HE4:=qH<|(HE2.fr (Fr.below IP HE2.le)).fr (Fr.grown g4 (aT HE2.le IP.size));have HN4:=qH<|(oC.up (Up.below IP)).up (Up.grown g4 oY);have DZ:=qH<|(g4.block _ (by simp) (by simp;have:=HR2.lt;omega)).trans (heap_alloc_new _ _);have zkv:=HR2.lt;obtain⟨P3,hP3⟩:=aj w2.heap.size;rw[hP3]at DZ;rw[hP3];have ziE:P3≠rb:=by omega
   by_cases hq:aM s k 61=true
   ·have nt:ao s k 61<=s.size:=dP (by omega) dD;have CX:Hid (Cw 90 #[Pq rb,.int .u8 61] w4 fun e w'=>e=Rw (.tuple #[])/\PR w' rb s (ao s k 61) (Sq ab 12 12) (Sq bl L.length al) (fF E (er))/\w4.grownBy w' (some rb)):=iw rb s k _ _ _ 61 w4 HR4 (by omega) dD (by omega) hq;have h_:Hid (eP s kind ws L j i er=qK s kind ws L j er at_ t (ao s k 61)):=by show _=_;rw[tF.out,if_pos hq]
    obtain⟨i2,J9⟩:=aj (ao s k 61);rw[J9]at CX h_ nt;go_wp2_with fail;refine CX.mono ?_;rintro e w5 ⟨rfl,h5,g5⟩;have HF5:=qH<|HF4.trans (F2.left g5);have HE5:=qH<|HE4.fr (Fr.grown g5 HE4.le);have HN5:=qH<|HN4.up (Up.grown g5 oY);have xI:=qH<|h5;have kg:=qH<|(g5.block _ (aS.1 DZ).1 (by simp;omega)).trans DZ;by_cases hb:run aU s (sk s i2)=sk s i2\/sk s i2+6<run aU s (sk s i2)\/(sk s i2+1<run aU s (sk s i2)/\dh s (sk s i2)=48)
    ·have CN:=qH<|readNumber_no rb s i2 _ _ _ (E 2) w5 xI (by omega) nt (by omega) HE5.g2 hb;have IG:Hid (eP s kind ws L j i er=.error (sk s i2)):=by show _=_;rw[h_.out];unfold qK jV;rw[if_pos (decide_eq_true hb)]
     go_wp2_with fail;refine CN.mono ?_;rintro e w6 ⟨rfl,g6⟩;refine⟨rfl,?_⟩;rw[IG.out];exact⟨HF5.trans (F2.left g6),rfl⟩
    ·have CN:=qH<|readNumber_yes rb s i2 _ _ _ w5 xI (by omega) nt hb;have IG:Hid (eP s kind ws L j i er=Ld L j er at_ t (run aU s (sk s i2)) (sk s i2) (vW t kind) (dv s (sk s i2) (run aU s (sk s i2)-sk s i2)) (none)):=by show _=_;rw[h_.out];unfold qK jV;rw[if_neg (by simpa using hb),_l.out]
     obtain⟨n,hn⟩:=aj (dv s (sk s i2) (run aU s (sk s i2)-sk s i2));obtain⟨j2,EC⟩:=aj (sk s i2);obtain⟨e2,SX⟩:=aj (run aU s j2);rw[hn,EC,SX]at CN IG;go_wp2_with fail;refine CN.mono ?_;rintro e w6 ⟨rfl,h6,g6⟩;have HF6:=qH<|HF5.trans (F2.left g6);have HE6:=qH<|HE5.fr (Fr.grown g6 HE5.le);have _0:=qH<|HN5.up (Up.grown g6 oY);have H_:=qH<|h6;have rk:=qH<|(g6.block _ (aS.1 kg).1 (by simp;omega)).trans kg;have oP:=rk.out;have y0:w6.cell? (az P3 0)=some (.string a0):=by simp[World.cell?,oP]
     have y1:w6.cell? (az P3 1)=some (.int .u64 (a1:Int)):=by simp[World.cell?,oP]
     have y2:w6.cell? (az P3 2)=some (Iq a2):=by simp[World.cell?,oP]
     have y3:w6.cell? (az P3 3)=some (Iq a3):=by simp[World.cell?,oP]
     have y4:w6.cell? (az P3 4)=some (.bool a4):=by simp[World.cell?,oP]
     have y5:w6.cell? (az P3 5)=some (.func (.func g) #[] #[]):=by simp[World.cell?,oP]
     clear oP;have CS:Hid (Cw 168 #[Pq rb,.pointer (some (az bl (j*16))),.agg #[.string a0,.int .u64 (a1:Int),Iq a2,Iq a3,.bool a4,.func (.func g) #[] #[]],Iq n] w6 fun e w'=>w6.grownBy w' (some bl)/\e=Rw (UL E (xr L ix n))/\PR w' rb s e2 (Sq ab 12 12) (Sq bl L.length al) (fF E (er))/\PN w' B (Sq bl L.length al) (setL L j ix n) KV):=by have Gz:=PD rb B s e2 (Sq ab 12 12) (fF E (er)) L KV bl al j ix yX n (E 6) (E 5) w6 H_ _0 hL hj oY HE6.le (by omega) (by omega) (by omega) (by omega) HE6.g6 HE6.g5;rw[HROW.out]at Gz;exact Gz.mono fun e w' ⟨q1,q2,q3,q4,_⟩=>⟨q1,by rw[q2,PB],q3,q4⟩
     go_wp2_with fail;refine CS.mono ?_;rintro e w7 ⟨g7,rfl,h7,n7⟩;have HF7:=qH<|HF6.trans (F2.right g7);have HN7:=qH<|n7;have CK2:=qH<|keep_all rb s e2 _ _ E (er) (xr L ix n) j2 w7 h7;clear g7 h7 n7 CS y0 y1 y2 y3 y4 y5;go_wp2_with fail;refine CK2.mono ?_;rintro e w8 ⟨rfl,h8,g8⟩;have HR8:=qH<|h8;have Bm:=qH<|HF7.trans (F2.left g8);have _1:=qH<|HN7.up (Up.grown g8 oY);clear h8 g8 CK2;go_wp2;go_ret;show I4 _ _ _ _ _ _ _ _ _ _ _ _;rw[IG.out,HIX.out];exact⟨Bm,rfl,HR8,_1⟩
   ·have Th:aM s k 61=false:=by simpa using hq
    have CX:Hid (Cw 90 #[Pq rb,.int .u8 61] w4 fun e w'=>e=.panicked [{v:=cR (sk s k:Int) (bp (E 2)),recovered:=false}]/\w4.grownBy w' (some rb)):=jA rb s k _ _ _ (E 2) 61 w4 HR4 (by omega) dD (by omega) Th (by omega) HE4.g2;have h_:Hid (eP s kind ws L j i er=.error (sk s k)):=by show _=_;rw[tF.out,if_neg hq]
    clear hq Th tF;go_wp2_with fail;refine CX.mono ?_;rintro e w5 ⟨rfl,g5⟩;refine⟨rfl,?_⟩;rw[h_.out];exact⟨HF4.trans (F2.left g5),rfl⟩
def mL(s:ByteArray)(i:Nat)(er:fP)(L:List Nd):Except Nat (Nat×fP×List Nd):=if aM s i 125=true then .ok (ao s i 125,er,L)else .error (sk s i)
def dQ(s:ByteArray)(kind j:Nat):Nat->Nat->fP->List Nd->List ByteArray->Except Nat (Nat×fP×List Nd)
 |0,i,_,_,_=>.error i
 |f+1,i,er,L,ws=>match eP s kind ws L j i er with
  |.error b=>.error b
  |.ok (i2,dY,L2,t)=>if aM s i2 59=true then dQ s kind j f (ao s i2 59) dY L2 (ws++[t])else mL s (ao s i2 59) dY L2
theorem qg  L   j k   n  :(setL L j k n).length=L.length:=by grind[setL]
theorem Hm  L   j k q   n  :(ae (setL L j k n) q).kind=(ae L q).kind:=by grind[setL,aY,ae,aR]
theorem Er{s}{i c}(h:aM s i c=true):ao s i c=sk s i+1:=by grind[aM,ao]
theorem zT{s}{kind}{ws}{L}{j i}{er}{i2}{dY}{L2}{t}(hi:i<=s.size)(h:eP s kind ws L j i er=.ok (i2,dY,L2,t)):i<i2/\i2<=s.size/\L2.length=L.length/\∀q,(ae L2 q).kind=(ae L q).kind:=by
 unfold eP at h;have h1:=dx s i;have h2:=eh s i hi;have h3:=iJ ap s (sk s i);have h4:=iK ap s (sk s i) h2;split at h;·cases h
 ·split at h
  ·rename_i hq;have h5:=Er hq;have h6:=dx s (run ap s (sk s i));have h7:=dP (s:=s) (i:=run ap s (sk s i)) (c:=61) (by omega) h4;unfold qK at h;have h8:=dx s (ao s (run ap s (sk s i)) 61);have h9:=eh s _ h7;have eq:=iJ aU s (sk s (ao s (run ap s (sk s i)) 61));have h11:=iK aU s _ h9;split at h;·cases h
   ·unfold Ld at h;grind[qg,Hm]
  grind
theorem wV:(prog.info? 9).map (fun i=>(i.zero,i.size,i.bytes))=some (some (.string ⟨#[]⟩),1,16):=by kernel_rfl
theorem LW{W}{B}{v}{ws}(h:W.ownsRow B 9 1 v ws.length (ws.map Value.string)):ru W v ws:=by
 rcases cD h with⟨rfl,h0⟩|⟨g,al,rfl,h1,h2,_⟩;·have:=lk h0;subst this;exact⟨_,_,rfl,.inl rfl⟩
 ·refine⟨_,_,rfl,.inr ⟨g,rfl,h2,fun j hj=>?_⟩⟩;rw[bC,h.cellAt j (by omega)];simp[hj]
theorem own_f2{W W'}{B n size r b}{e}{v}{xs}(h:W.ownsRow B e size v n xs)(f:F2 r b W W')(hr:∀q,v.ownBlock=some q->q≠r/\q≠b):W'.ownsRow B e size v n xs:=by
 refine⟨h.1,?_⟩;rcases h.2 with h2|⟨g,al,iT,rfl,b,c,d⟩;·grind
 ·have:=hr g rfl;refine .inr ⟨g,al,iT,rfl,b,?_,d⟩;rw[f.block g (aS.1 c).1 this.1 this.2];exact c
structure F2'(N:Nat)(W W':World):Prop where
 os:W'.os=W.os
 tape:W'.tape=W.tape
 output:W'.output=W.output
 size:W.heap.size<=W'.heap.size
 block:∀k,k<N->k<W.heap.size->W'.heap[k]?=W.heap[k]?
theorem F2.plus{r b}{W0 W W'}(h:F2 r b W0 W)(k:F2' W0.heap.size W W'):F2 r b W0 W':=
 ⟨k.os.trans h.os,k.tape.trans h.tape,k.output.trans h.output,aT h.size k.size,fun q h1 h2 h3=>(k.block q h1 (bn h1 h.size)).trans (h.block q h1 h2 h3)⟩
theorem F2.other{W0 W W':World}{o}(h:W.grownBy W' o)(ho:∀q,o=some q->W0.heap.size<=q):F2' W0.heap.size W W':=⟨h.os,h.tape,h.output,h.size,fun k h1 h2=>h.block k h2 (fun e=>by grind)⟩
theorem PN.beside{W W'}{B}{nv}{L}{KV}{v}{N m sz}{xs}(h:PN W B nv L KV)(hv:W.ownsRow N 9 sz v m xs)(hg:W.grownBy W' v.ownBlock):PN W' B nv L KV:=by refine⟨?_,h.len⟩;obtain⟨ys,hx⟩:=h.nr.row;refine⟨⟨ys,hx.kept hg (ff hx hv (by decide))⟩,fun g mw j hj t u xQ=>?_,h.nr.len,fun j hj=>(h.nr.kids j hj).kept hg (ff (h.nr.kids j hj) hv (by decide)),h.nr.sep⟩;have hl:=hx.lt g mw;rw[bU (hg.block g hl.2 (by grind[ff]))];exact h.nr.cells g mw j hj t u xQ
def I5(w w':World)(e:Ending)(rb B bl:Nat)(E:Nat->Addr)(s:ByteArray)(av nv:Value)(KV:Nat->Value)(n:Nat)(r:Except Nat (Nat×fP×List Nd)):Prop:=
 F2 rb bl w w'/\match r with
 |.error b=>e=.panicked [{v:=cR (b:Int) (bp (E 2)),recovered:=false}]
 |.ok (i,er,L)=>e=Rw (.tuple #[])/\PR w' rb s i av nv (fF E er)/\PN w' B nv L KV/\L.length=n
structure Ras(W0 W:World)(rb ab B bl n0 al j kind:Nat)(E:Nat->Addr)(s:ByteArray)(i:Nat)(er:fP)(L:List Nd)(KV:Nat->Value)(v:Value)(ws:List ByteArray):Prop where
 env:Qb W rb ab B E
 pr:PR W rb s i (Sq ab 12 12) (Sq bl n0 al) (fF E er)
 pn:PN W B (Sq bl n0 al) L KV
 len:L.length=n0
 kind:(ae L j).kind=kind
 row:W.ownsRow W0.heap.size 9 1 v ws.length (ws.map Value.string)
 wl:ws.length<=i
 il:i<=s.size
 fr:F2 rb bl W0 W
theorem readAttributes_any(rb ab B:Nat)(E:Nat->Addr)(s:ByteArray)(i:Nat)(er:fP)(L:List Nd)(KV:Nat->Value)(bl al j kind:Nat)(w:World)(env:Qb w rb ab B E)
 (h:PR w rb s i (Sq ab 12 12) (Sq bl L.length al) (fF E er)) (hn:PN w B (Sq bl L.length al) L KV) (hL:L.length<=100000) (hj:j<L.length) (hkd:(ae L j).kind=kind) (M7:kind<7) (hs:s.size<=1073741824) (hi:i<=s.size):
 Cw 88 #[Pq rb,.pointer (some (az bl (j*16)))] w fun e w'=>I5 w w' e rb B bl E s (Sq ab 12 12) (Sq bl L.length al) KV L.length (dQ s kind j (s.size+1) i er L []):=by
 obtain⟨R,hR⟩:=aj (dQ s kind j (s.size+1) i er L []);rw[hR];have tN:=hn.nr.row.choose_spec.lt bl rfl;have nx:=h.lt;obtain⟨n0,y_⟩:=aj L.length;rw[y_]at h hn hL hj⊢;have H0:Hid (Ras w w rb ab B bl n0 al j kind E s i er L KV (.slice none 0 0) []):=⟨env,h,hn,y_,hkd,gM _ _ _ _,bc _,hi,F2.below (ag _ _)⟩;have HR:=qH<|hR;obtain⟨i0,Gj,eK,fZ,iD⟩:=info_parts wV;have oY:=env.rbB;have mX:=env.lo;go_enter func88,ntmps88;go_wp2;go_loopw[4,5] (fun v b wr=>∃(i:Nat) (er:fP) (L:List Nd) (ws:List ByteArray) (f:Nat) (m:Bool),b=.bool m/\Hid (Ras w wr rb ab B bl n0 al j kind E s i er L KV v ws)/\s.size<f+i/\Hid ((if m=true then dQ s kind j f i er L ws else mL s i er L)=R)) (fun _ b wr=>2*(s.size-prI wr rb)+(match b with|.bool true=>1|_=>0));case atStart=>grind
 case round=>
  obtain⟨i,er,L,ws,f,m,rfl,HS,hf,lL⟩:=hrel;have Gk:=HS.il;have Z4:=HS.wl;cases m with
  |true=>
   obtain⟨f,rfl⟩:∃q,f=q+1:=⟨f-1,by omega⟩;have hl:=HS.len;subst hl;have zc:∀q,u4.ownBlock=some q->q≠rb/\q≠bl:=fun q hq=>by have:=(HS.row.lt q hq).1;omega
   have CR:=qH<|readAttribute_any rb ab B E s i er L KV bl al j kind u4 ws wr HS.env HS.pr HS.pn hL hj HS.kind M7 (LW HS.row) zc (by omega) hs Gk;cases hp:eP s kind ws L j i er with
   |error b=>
    have eZ:Hid (R=.error b):=by show _=_;rw[<-lL.out];simp only[if_true];unfold dQ;rw[hp]
    rw[hp]at CR;go_wp2_with fail;refine CR.mono ?_;rintro e w2 ⟨f2,rfl⟩;refine⟨rfl,?_⟩;rw[eZ.out];exact⟨HS.fr.trans f2,rfl⟩
   |ok r=>
    obtain⟨i2,dY,L2,t⟩:=r;obtain⟨b1,b2,b3,b4⟩:=zT Gk hp;have eZ:Hid ((if aM s i2 59=true then dQ s kind j f (ao s i2 59) dY L2 (ws++[t])else mL s (ao s i2 59) dY L2)=R):=by
     show _=_;rw[<-lL.out];simp only[if_true];conv=>rhs;unfold dQ
     rw[hp]
    have DZ:Hid ((ae L2 j).kind=kind):=by show _=_;rw[b4];exact HS.kind
    have pF:=qH<|b3;rw[hp]at CR;go_wp2_with fail;refine CR.mono ?_;rintro e w2 ⟨f2,rfl,h2,n2⟩;have HR2:=qH<|h2;have oC:=qH<|n2;have HF2:=qH<|f2;have HO2:=qH<|own_f2 HS.row f2 zc;have fj:=HO2.out;have xR:=aT HS.fr.size f2.size;go_wp2_with(at_builtin;refine wpList_append_own _ rfl _ _ 135 rfl w.heap.size 9 i0 (.string ⟨#[]⟩) 1 16 underlying135 Gj eK fZ iD rfl (by decide) _ _ _ rfl (fj.alloc _) _ 1 1 [.string t] rfl rfl ?c1 ?c2 ?c3 ?c4 ?c5 ?_);case c1=>grind[ju]
    case c2=>intro u hu;simp at hu;subst hu;rfl
    case c3=>unfold maxLen;omega
    case c4=>omega
    case c5=>simp;omega
    intro v' w3 bK hg _;have Fp:Hid (Bt w2 (w2.alloc (.cells #[.string t] 9))):=(ag _ _).alloc (ai _) _;have qC:=fun q hq=>(fj.lt q hq).1;have HR3:=qH<|PR.far (HR2.below Fp) hg qC nx;have HN3:=qH<|(oC.up (Up.below Fp)).beside (fj.alloc _) hg;have HE3:=qH<|((HS.env.fr (HF2.fr HS.env.le tN.1)).fr (Fr.below Fp (aT HS.env.le HF2.size))).fr (Fr.own hg (by have:=HS.env.le;have:=HF2.size;simp;omega) (fun q hq=>by grind));have HF3:=qH<|(HS.fr.trans (HF2.trans (F2.below Fp))).plus (F2.other hg qC);have HO3:Hid (w3.ownsRow w.heap.size 9 1 v' (ws++[t]).length ((ws++[t]).map Value.string)):=by rw[bf,li];exact bK
    have CT:Hid (Cw 87 #[Pq rb,.int .u8 59] w3 fun e w'=>e=Rw (.bool (aM s i2 59))/\PR w' rb s (ao s i2 59) (Sq ab 12 12) (Sq bl L.length al) (fF E dY)/\w3.grownBy w' (some rb)):=lK rb s i2 _ _ _ 59 w3 HR3 (by omega) b2 (by omega);have iU:ao s i2 59<=s.size:=dP (by omega) b2;have mw:i2<=ao s i2 59:=by unfold ao;have:=dx s i2;split<;>omega
    obtain⟨m',OM⟩:=aj (aM s i2 59);obtain⟨i3,xO⟩:=aj (ao s i2 59);rw[OM,xO]at CT eZ;rw[xO]at iU mw;go_wp2_with fail;refine CT.mono ?_;rintro e w4 ⟨rfl,h4,g4⟩;have qq:=qH<|h4.prI;have zac:=qH<|HS.pr.prI;have HSN:Hid (Ras w w4 rb ab B bl L.length al j kind E s i3 dY L2 KV v' (ws++[t])):=⟨HE3.fr (Fr.grown g4 HE3.le),h4,HN3.up (Up.grown g4 oY),pF,DZ,own_f2 HO3 (F2.left (b:=bl) g4) (fun q hq=>by have:=(HO3.lt q hq).1;omega),by grind,iU,HF3.trans (F2.left g4)⟩;go_wp2;go_roundw;case rel=>grind
    case measure=>rw[qq.out,zac.out];grind
  |false=>
   have hl:=HS.len;subst hl;by_cases hq:aM s i 125=true
   ·have CX:Hid (Cw 90 #[Pq rb,.int .u8 125] wr fun e w'=>e=Rw (.tuple #[])/\PR w' rb s (ao s i 125) (Sq ab 12 12) (Sq bl L.length al) (fF E er)/\wr.grownBy w' (some rb)):=iw rb s i _ _ _ 125 wr HS.pr (by omega) Gk (by omega) hq;have eZ:Hid (R=.ok (ao s i 125,er,L)):=by show _=_;rw[<-lL.out];simp only[E',if_false];unfold mL;rw[if_pos hq]
    go_wp2_with fail;refine CX.mono ?_;rintro e w2 ⟨rfl,h2,g2⟩;have HO:Hid (I5 w w2 (.returned (.tuple #[])) rb B bl E s (Sq ab 12 12) (Sq bl L.length al) KV L.length R):=by show I5 _ _ _ _ _ _ _ _ _ _ _ _ _;rw[eZ.out];exact⟨HS.fr.trans (F2.left g2),rfl,h2,HS.pn.up (Up.grown g2 oY),rfl⟩
    go_wp2;go_end0;exact HO
   ·have Th:aM s i 125=false:=by simpa using hq
    have CX:Hid (Cw 90 #[Pq rb,.int .u8 125] wr fun e w'=>e=.panicked [{v:=cR (sk s i:Int) (bp (E 2)),recovered:=false}]/\wr.grownBy w' (some rb)):=jA rb s i _ _ _ (E 2) 125 wr HS.pr (by omega) Gk (by omega) Th (by omega) HS.env.g2;have eZ:Hid (R=.error (sk s i)):=by show _=_;rw[<-lL.out];simp only[E',if_false];unfold mL;rw[if_neg hq]
    go_wp2_with fail;refine CX.mono ?_;rintro e w2 ⟨rfl,g2⟩;refine⟨rfl,?_⟩;rw[eZ.out];exact⟨HS.fr.trans (F2.left g2),rfl⟩
def j7(n af:Nat):Option Nat:=if 100<=n then some 3 else if 12<=af then some 4 else none
theorem Pu  n af   E  :n_ n af (E 3) (E 4)=UL E (j7 n af):=by
 unfold n_ j7;split;·rfl
 ·split<;>rfl
def dM(s:ByteArray)(st:PS)(c:Nat):Except Nat PS:=if aM s st.i c=true then .ok {st with i:=ao s st.i c}else .error (sk s st.i)
def gW(s:ByteArray)(bB:PS->Except Nat PS):Nat->PS->Except Nat PS
 |0,st=>.error st.i
 |f+1,st=>match bB st with
  |.error b=>.error b
  |.ok eR=>if aM s eR.i 44=true then gW s bB f {eR with i:=ao s eR.i 44}else dM s {eR with i:=ao s eR.i 44} 93
def gJ(s:ByteArray)(bB:PS->Except Nat PS)(st:PS):Except Nat PS:=
 if aM s st.i 91=true then(if aM s (ao s st.i 91) 93=true then .ok {st with i:=ao s (ao s st.i 91) 93}else gW s bB (s.size+1) {st with i:=ao s (ao s st.i 91) 93})else .error (sk s st.i)
def nT(r:Except Nat PS)(g:PS->Except Nat PS):Except Nat PS:=match r with
 |.error b=>.error b
 |.ok st=>g st
def pj(s:ByteArray)(bB:PS->Except Nat PS)(st:PS):Except Nat PS:=
 if aM s st.i 91=true then nT (bB {st with i:=ao s st.i 91}) fun eR=>dM s eR 93 else .error (sk s st.i)
def iH(s:ByteArray)(idx:Nat)(st:PS):Except Nat PS:=match ee s st.i with
 |.error b=>.error b
 |.ok (i2,t)=>.ok {st with i:=i2,L:=aB st.L idx t}
def nR(s:ByteArray)(kind idx:Nat)(bB:PS->Except Nat PS)(st:PS):Except Nat PS:=
 if kind=5 then iH s idx st else if kind=6 then .ok st else if kind=3\/kind=4 then pj s bB st else gJ s bB st
def Pl(s:ByteArray)(kind idx i:Nat)(er:fP)(L:List Nd):Except Nat PS:=
 if aM s i 123=true then(match dQ s kind idx (s.size+1) (ao s i 123) er L []with
  |.error b=>.error b
  |.ok (i2,dY,L2)=>.ok ⟨i2,L2,dY⟩)else .ok ⟨ao s i 123,L,er⟩
def mV(s:ByteArray)(i:Nat):ByteArray:=s.extract (sk s i) (run ap s (sk s i))
def dI(s:ByteArray)(i:Nat):Int:=aJ b_ (mV s i) 0
def aL(s:ByteArray):Nat->Int->Nat->PS->Except Nat PS
 |0,_,_,st=>.error st.i
 |f+1,up,af,st=>
  if dI s st.i<0 then .error (sk s st.i)else
  nT (Pl s (dI s st.i).toNat st.L.length (run ap s (sk s st.i)) (jE st.er (j7 st.L.length af) (sk s st.i)) (grown st.L ⟨(dI s st.i).toNat,aV,[],[],up⟩)) fun cQ=>nR s (dI s st.i).toNat st.L.length (aL s f (st.L.length:Int) (af+1)) cQ
structure fK(s:ByteArray)(st:PS):Prop where
 il:st.i<=s.size
 ll:st.L.length<=st.i
 kl:∀j,(ae st.L j).kids.length<=st.L.length
structure vK(s:ByteArray)(st ct:PS):Prop where
 good:fK s ct
 ge:st.i<=ct.i
 lg:st.L.length<=ct.L.length
theorem bS  s   i c  :i<=ao s i c:=by grind[ao,dx]
theorem fK.at{s}{st}(h:fK s st){c}(hc:c<256):fK s {st with i:=ao s st.i c}:=
 ⟨dP hc h.il,aT h.ll (bS _ _ _),h.kl⟩
theorem zU{s}{st ct}{c}(hc:c<256)(h:fK s st)(e:dM s st c=.ok ct):vK s st ct/\st.i<ct.i:=by
 unfold dM at e;split at e;·rename_i hq;injection e with e;subst e;have:=Er hq;have:=dx s st.i;exact⟨⟨h.at hc,bS _ _ _,ai _⟩,by grind⟩
 grind
theorem vK.trans{s}{a b c}(h:vK s a b)(k:vK s b c):vK s a c:=⟨k.good,aT h.ge k.ge,aT h.lg k.lg⟩
theorem zy{s}{N}{bB}(hnode:∀a b,fK s a->N<=a.L.length->bB a=.ok b->vK s a b/\a.i<b.i):∀f st ct,fK s st->N<=st.L.length->gW s bB f st=.ok ct->vK s st ct/\st.i<ct.i
 |0,st,ct,h,hN,e=>by cases e
 |f+1,st,ct,h,hN,e=>by
  unfold gW at e;split at e;·cases e
  ·rename_i eR he;obtain⟨h2,l2⟩:=hnode _ _ h hN he;have hg:=h2.good.at (c:=44) (by omega);have h3:vK s st {eR with i:=ao s eR.i 44}:=⟨hg,aT h2.ge (bS _ _ _),h2.lg⟩;have l3:st.i<ao s eR.i 44:=bn l2 (bS _ _ _);split at e;·obtain⟨h4,l4⟩:=zy hnode f _ _ hg (aT hN h2.lg) e;exact⟨h3.trans h4,Nat.lt_trans l3 l4⟩
   ·obtain⟨h4,l4⟩:=zU (by omega) hg e;exact⟨h3.trans h4,Nat.lt_trans l3 l4⟩
section
variable{s:ByteArray} {N:Nat} {bB:PS->Except Nat PS}
theorem KO(hnode:∀a b,fK s a->N<=a.L.length->bB a=.ok b->vK s a b/\a.i<b.i){st ct}(h:fK s st)(hN:N<=st.L.length)(e:gJ s bB st=.ok ct):vK s st ct:=by
 unfold gJ at e;have h1:=h.at (c:=91) (by omega);have h2:=h1.at (c:=93) (by omega);have g1:=bS s st.i 91;have g2:=bS s (ao s st.i 91) 93;have f2:vK s st {st with i:=ao s (ao s st.i 91) 93}:=⟨h2,aT g1 g2,ai _⟩;split at e
 ·split at e;·grind
  ·exact f2.trans (zy hnode _ _ _ h2 hN e).1
 grind
theorem Pk(hnode:∀a b,fK s a->N<=a.L.length->bB a=.ok b->vK s a b/\a.i<b.i){st ct}(h:fK s st)(hN:N<=st.L.length)(e:pj s bB st=.ok ct):vK s st ct:=by
 unfold pj at e;have h1:=h.at (c:=91) (by omega);have f1:vK s st {st with i:=ao s st.i 91}:=⟨h1,bS _ _ _,ai _⟩;split at e
 ·unfold nT at e;split at e;·cases e
  ·rename_i eR he;obtain⟨h2,_⟩:=hnode _ _ h1 hN he;exact f1.trans (h2.trans (zU (by omega) h2.good e).1)
 grind
theorem Aa:∀f p acc i t,p<=s.size->qF s f p acc=.ok (i,t)->p<i/\i<=s.size
 |0,p,acc,i,t,hp,h=>by cases h
 |f+1,p,acc,i,t,hp,h=>by
  have iV:∀q,dh s q≠256->q<s.size:=fun q hq=>by grind[dO]
  unfold qF at h;split at h;·cases h
  ·rename_i h0;have:=iV p h0;split at h;·grind
   ·split at h
    ·split at h;·rename_i hq;have:=iV (p+1) (by omega);have:=Aa f (p+2) _ i t (by omega) h;omega
     ·split at h;·rename_i hq;have:=iV (p+1) (by omega);have:=Aa f (p+2) _ i t (by omega) h;omega
      grind
    ·have:=Aa f (p+1) _ i t (by omega) h;omega
theorem lY  L   k j   t  :(ae (aB L k t) j).kids=(ae L j).kids:=by grind[aB,aY,ae,aR]
theorem tc{idx}{st ct}(h:fK s st)(e:iH s idx st=.ok ct):vK s st ct:=by
 unfold iH ee at e;split at e;·cases e
 ·rename_i i2 t he;injection e with e;subst e;split at he
  ·have g:=Aa _ _ _ _ _ (dP (by omega) h.il) he;have g2:=bS s st.i 34;refine⟨⟨g.2,?_,fun j=>?_⟩,by grind,by grind[aB]⟩;·show(aB st.L idx t).length<=i2;unfold aB;have:=h.ll;grind
   ·show(ae (aB st.L idx t) j).kids.length<=(aB st.L idx t).length;rw[lY];unfold aB;simpa using h.kl j
  grind
theorem Jn(hnode:∀a b,fK s a->N<=a.L.length->bB a=.ok b->vK s a b/\a.i<b.i){kind idx}{st ct}(h:fK s st)(hN:N<=st.L.length)(e:nR s kind idx bB st=.ok ct):vK s st ct:=by
 unfold nR at e;split at e;·exact tc h e
 ·split at e;·injection e with e;subst e;exact⟨h,ai _,ai _⟩
  grind[Pk,KO]
end
theorem Hl  L   j k q   n  :(ae (setL L j k n) q).kids=(ae L q).kids:=by grind[setL,aY,ae,aR]
theorem Do{s}{kind}{ws}{L}{j i}{er}{i2}{dY}{L2}{t}(h:eP s kind ws L j i er=.ok (i2,dY,L2,t)):∀q,(ae L2 q).kids=(ae L q).kids:=by
 unfold eP at h;split at h;·cases h
 ·split at h
  ·unfold qK at h;split at h;·cases h
   ·unfold Ld at h;grind[Hl]
  grind
theorem rG{s}{kind j}:∀f i er L ws i2 dY L2,i<=s.size->dQ s kind j f i er L ws=.ok (i2,dY,L2)->i<i2/\i2<=s.size/\L2.length=L.length/\∀q,(ae L2 q).kids=(ae L q).kids
 |0,i,er,L,ws,i2,dY,L2,hi,h=>by cases h
 |f+1,i,er,L,ws,i2,dY,L2,hi,h=>by
  unfold dQ at h;split at h;·cases h
  ·rename_i i3 Zo L3 t he;obtain⟨b1,b2,b3,_⟩:=zT hi he;have b5:=Do he;have g1:=bS s i3 59;have g2:=dP (s:=s) (i:=i3) (c:=59) (by omega) b2;split at h;·obtain⟨c1,c2,c3,c4⟩:=rG f _ _ _ _ _ _ _ g2 h;grind
   grind[mL,bS,ao,dP]
theorem di  L   d  :(grown L d).length=L.length+1:=by grind[grown]
theorem rS  L   d  (hd:d.kids=[]) (q_:d.up<L.length) (h:∀j,(ae L j).kids.length<=L.length)  j  :(ae (grown L d) j).kids.length<=L.length+1:=by grind[ae,cu,cN,grown,jC,aY,aR]
theorem Sg{s}{kind idx i}{er}{L}{st}(hi:i<=s.size)(e:Pl s kind idx i er L=.ok st):i<=st.i/\st.i<=s.size/\st.L.length=L.length/\∀q,(ae st.L q).kids=(ae L q).kids:=by
 unfold Pl at e;have g1:=bS s i 123;have g2:=dP (s:=s) (i:=i) (c:=123) (by omega) hi;split at e
 ·split at e;·cases e
  ·rename_i i2 dY L2 he;obtain⟨b1,b2,b3,b4⟩:=rG _ _ _ _ _ _ _ _ g2 he;grind
 grind
theorem pV{s}{i}(h:¬dI s i<0)(hi:i<=s.size):sk s i<run ap s (sk s i):=by
 by_cases e:sk s i<run ap s (sk s i);·exact e
 ·exfalso;have h3:=iJ ap s (sk s i);have:mV s i=ByteArray.empty:=by unfold mV;rw[show run ap s (sk s i)=sk s i by omega];apply l8;simp
  unfold dI at h;rw[this]at h;exact h (by decide)
theorem zL{s}:∀f  up  af st ct,(up<st.L.length)->fK s st->aL s f up af st=.ok ct->vK s st ct/\st.i<ct.i/\st.L.length<ct.L.length
 |0,up,af,st,ct,q_,h,e=>by cases e
 |f+1,up,af,st,ct,q_,h,e=>by
  unfold aL at e;split at e;·cases e
  ·rename_i hk;have hw:=pV hk h.il;have s1:=dx s st.i;have s2:=iK ap s _ (eh s st.i h.il);unfold nT at e;split at e;·cases e
   ·rename_i cQ he;obtain⟨b1,b2,b3,b4⟩:=Sg s2 he;rw[di]at b3;have g1:fK s cQ:=⟨b2,by have:=h.ll;omega,fun j=>by rw[b4,b3];exact rS _ _ rfl q_ h.kl j⟩;have f1:vK s st cQ:=⟨g1,by omega,by omega⟩;have f2:=Jn (N:=st.L.length+1) (fun a b ga hN hab=>by obtain⟨q1,q2,_⟩:=zL f (st.L.length:Int) (af+1) a b (by omega) ga hab;grind) g1 (by omega) e;exact⟨f1.trans f2,by have:=f2.ge;omega,by have:=f2.lg;omega⟩
def kS(L:List Nd):Nat->Nat
 |0=>0
 |n+1=>kS L n+(ae L n).kids.length
theorem wY{L L'}:∀n,(∀j,j<n->(ae L' j).kids=(ae L j).kids)->kS L' n=kS L n
 |0,_=>rfl
 |n+1,h=>by show kS L' n+(ae L' n).kids.length=kS L n+(ae L n).kids.length;rw[wY n (fun j hj=>h j (by omega)),h n (by omega)]
theorem KB{L L'}{u}(hu:(ae L' u).kids.length=(ae L u).kids.length+1):∀n,u<n->(∀j,j<n->j≠u->(ae L' j).kids=(ae L j).kids)->kS L' n=kS L n+1
 |0,h,_=>by omega
 |n+1,h,hk=>by
  show kS L' n+(ae L' n).kids.length=kS L n+(ae L n).kids.length+1;by_cases e:u=n;·grind[wY]
  ·rw[KB hu n (by omega) (fun j hj EC=>hk j (by omega) EC),hk n (by omega) (fun e2=>e e2.symm)];omega
structure xY(L:List Nd):Prop where
 up0:∀i:Nat,i<L.length->((ae L i).up<0↔i=0)
 upl:∀i:Nat,i<L.length->(ae L i).up<i
 kid:∀i k c:Nat,i<L.length->(ae L i).kids[k]?=some c->i<c/\c<L.length/\(ae L c).up=i
 rise:∀i k c d:Nat,i<L.length->(ae L i).kids[k]?=some c->(ae L i).kids[k+1]?=some d->c<d
 first:∀i c:Nat,i<L.length->(ae L i).kids[0]?=some c->c=i+1
 cnt:0<L.length->kS L L.length+1=L.length
theorem xY.empty:xY []:=⟨fun i h=>absurd h (by simp),fun i h=>absurd h (by simp),fun i _ _ h=>absurd h (by simp),fun i _ _ _ h=>absurd h (by simp),fun i _ h=>absurd h (by simp),fun h=>absurd h (by simp)⟩
theorem xY.congr{L L'}(h:xY L)(hl:L'.length=L.length)(hk:∀j,(ae L' j).kids=(ae L j).kids)(hu:∀j,(ae L' j).up=(ae L j).up):xY L':=by
 refine⟨fun i hi=>?_,fun i hi=>?_,fun i k c hi hc=>?_,fun i k c d hi hc hd=>?_,fun i c hi hc=>?_,fun hp=>?_⟩;·rw[hu];exact h.up0 i (by omega)
 ·rw[hu];exact h.upl i (by omega)
 ·rw[hk]at hc;rw[hu,hl];exact h.kid i k c (by omega) hc
 ·rw[hk]at hc hd;exact h.rise i k c d (by omega) hc hd
 ·rw[hk]at hc;exact h.first i c (by omega) hc
 ·rw[hl,wY _ (fun j _=>hk j)];exact h.cnt (by omega)
def IZ(L:List Nd)(up:Int):Prop:=(up=-1/\L=[])\/∃u:Nat,up=(u:Int)/\u<L.length/\((ae L u).kids=[]->L.length=u+1)
theorem xY.grow{L}{d}(h:xY L)(hd:d.kids=[])(hp:IZ L d.up):xY (grown L d)/\(∀j,j<L.length->(ae L j).kids.length<=(ae (grown L d) j).kids.length)/\(0<=d.up->(ae (grown L d) d.up.toNat).kids≠[])/\(ae (grown L d) L.length).kids=[]:=by
 rcases hp with⟨hu,rfl⟩|⟨u,hu,To,hf⟩
 ·have e:grown [] d=[d]:=by unfold grown;rw[if_pos (by omega)];rfl
  rw[e];have n0:ae [d] 0=d:=rfl;refine⟨⟨fun i hi=>?_,fun i hi=>?_,fun i k c hi hc=>?_,fun i k c q hi hc=>?_,fun i c hi hc=>?_,fun _=>?_⟩,fun j hj=>absurd hj (by simp),fun h0=>by omega,by grind⟩;·grind
  ·grind
  ·grind
  ·grind
  ·grind
  ·show 0+(ae [d] 0).kids.length+1=1;grind
 ·have hL:=di L d;have e:=jC L d u (by omega) (by omega);have a1:ae (grown L d) u={ae L u with kids:=(ae L u).kids++[L.length]}:=by rw[e,aY _ (by grind),cu To]
  have a2:ae (grown L d) L.length=d:=by rw[e,aR _ (by omega),cN]
  have a3:∀j,j<L.length->j≠u->ae (grown L d) j=ae L j:=fun j hj M4=>by grind[aR,cu]
  have au:∀j,j<L.length->(ae (grown L d) j).up=(ae L j).up:=fun j hj=>by grind
  -- a kid of a bB: an old one,or the new one
  have ak:∀i k c:Nat,i<L.length+1->(ae (grown L d) i).kids[k]?=some c->(i<L.length/\(ae L i).kids[k]?=some c)\/(i=u/\k=(ae L u).kids.length/\c=L.length):=fun i k c hi hc=>by grind
  refine⟨⟨fun i hi=>?_,fun i hi=>?_,fun i k c hi hc=>?_,fun i k c q hi hc hq=>?_,fun i c hi hc=>?_,fun _=>?_⟩,fun j hj=>?_,fun _=>?_,?_⟩
  ·rw[hL]at hi;by_cases iV:i=L.length;·grind
   ·rw[au i (by omega)];exact h.up0 i (by omega)
  ·rw[hL]at hi;by_cases iV:i=L.length;·grind
   ·rw[au i (by omega)];exact h.upl i (by omega)
  ·rw[hL]at hi;rcases ak i k c hi hc with⟨nt,Oz⟩|⟨rfl,_,rfl⟩;·obtain⟨q1,q2,q3⟩:=h.kid i k c nt Oz;grind
   grind
  ·rw[hL]at hi;rcases ak i k c hi hc with⟨nt,Oz⟩|⟨rfl,hk,rfl⟩
   ·rcases ak i (k+1) q hi hq with⟨_,wQ⟩|⟨rfl,hk,rfl⟩;·exact h.rise i k c q nt Oz wQ
    ·exact(h.kid i k c nt Oz).2.1
   grind
  ·rw[hL]at hi;rcases ak i 0 c hi hc with⟨nt,Oz⟩|⟨rfl,hk,rfl⟩;·exact h.first i c nt Oz
   grind
  ·rw[hL];show kS (grown L d) L.length+(ae (grown L d) L.length).kids.length+1=L.length+1;rw[a2,hd,KB (L:=L) (u:=u) (by grind) L.length To (fun j hj M4=>by grind)];have:=h.cnt (by omega);grind
  ·grind
  all_goals simp_all
structure Fo(L L':List Nd):Prop where
 gr:xY L'
 len:L.length<=L'.length
 kids:∀j,j<L.length->(ae L j).kids.length<=(ae L' j).kids.length
theorem Fo.refl{L}(h:xY L):Fo L L:=⟨h,ai _,fun _ _=>ai _⟩
theorem Fo.trans{L L1 L2}(h:Fo L L1)(k:Fo L1 L2):Fo L L2:=⟨k.gr,aT h.len k.len,fun j hj=>aT (h.kids j hj) (k.kids j (bn hj h.len))⟩
def IW(u:Nat)(bB:PS->Except Nat PS):Prop:=∀a b,xY a.L->IZ a.L (u:Int)->bB a=.ok b->Fo a.L b.L/\(ae b.L u).kids≠[]
theorem EK{s}{u}{bB}(hn:IW u bB):∀f st ct,xY st.L->IZ st.L (u:Int)->dH s bB f st=.ok ct->Fo st.L ct.L
 |0,st,ct,h,hp,e=>by cases e
 |f+1,st,ct,h,hp,e=>by
  unfold dH at e;split at e;·cases e
  ·rename_i eR he;obtain⟨h2,k2⟩:=hn _ _ h hp he;split at e
   ·have To:u<eR.L.length:=by
     rcases hp with⟨hx,_⟩|⟨u',hx,To,_⟩;·omega
     ·have:u=u':=by omega
      subst this;exact bn To h2.len
    exact h2.trans (EK hn f {eR with i:=ao s eR.i 44} _ h2.gr (.inr ⟨u,rfl,To,fun e=>absurd e k2⟩) e)
   grind
theorem NX{s}{kind u}{bB}(hn:IW u bB){st ct}(h:xY st.L)(hp:IZ st.L (u:Int))(e:i_ s kind u bB st=.ok ct):Fo st.L ct.L:=by
 unfold i_ at e;split at e
 ·split at e;·cases e
  ·split at e;·grind[Fo.refl]
   ·rename_i i2 _ _;exact EK hn _ {st with i:=sk s i2} _ h hp e
 ·split at e
  ·split at e;·cases e
   ·split at e;·cases e
    ·rename_i i2 _ _ dE he;obtain⟨h3,_⟩:=hn {st with i:=i2} dE h hp he;grind
  ·split at e
   ·split at e;·cases e
    ·rename_i i2 t he;injection e with e;subst e;have hl:(aB st.L u t).length=st.L.length:=by unfold aB;simp
     have hk:=lY st.L u;refine⟨h.congr hl (fun j=>hk j t) (fun j=>?_),by grind,fun j _=>by grind⟩;grind[ae,aB,aY,aR]
   grind[Fo.refl]
theorem EP{s}:∀f  up  af st ct,xY st.L->IZ st.L up->cC s f up af st=.ok ct->Fo st.L ct.L/\st.L.length<ct.L.length/\(0<=up->(ae ct.L up.toNat).kids≠[])
 |0,up,af,st,ct,h,hp,e=>by cases e
 |f+1,up,af,st,ct,h,hp,e=>by
  unfold cC at e;dsimp only at e;split at e;·cases e
  ·split at e;·cases e
   ·rename_i i2 dY a he;obtain⟨d,hd⟩:∃d:Nd,(⟨(aJ b_ (s.extract (sk s st.i) (run ap s (sk s st.i))) 0).toNat,a,[],[],up⟩:Nd)=d:=⟨_,rfl⟩;have hdk:d.kids=[]:=by rw[<-hd]
    have hdu:d.up=up:=by rw[<-hd]
    rw[hd]at e;obtain⟨g1,g2,g3,g4⟩:=h.grow hdk (by grind);have hl:=di st.L d;have hb:=NX (u:=st.L.length) (fun a b ga pa hab=>by obtain⟨q1,_,q3⟩:=EP f (st.L.length:Int) (af+1) a b ga pa hab;grind) (st:={i:=i2,L:=grown st.L d,er:=dY}) g1 (.inr ⟨st.L.length,rfl,by grind,fun _=>hl⟩) e;have bH:(grown st.L d).length<=ct.L.length:=hb.len;refine⟨Fo.trans ⟨g1,by omega,g2⟩ hb,by omega,fun h0=>?_⟩;have h3:=g3 (by omega);rw[hdu]at h3;have hlt:up.toNat<(grown st.L d).length:=by
     rcases hp with⟨hx,_⟩|⟨u',hx,To,_⟩;·omega
     ·omega
    have h4:(ae (grown st.L d) up.toNat).kids.length<=(ae ct.L up.toNat).kids.length:=hb.kids up.toNat hlt;intro h5;simp_all
theorem zW{s}{L}(h:fO s=.ok L):xY L/\0<L.length:=by
 unfold fO at h;split at h;·cases h
 ·split at h;·cases h
  ·rename_i st he;split at h;·cases h
   ·split at h;·cases h
    ·injection h with h;subst h;obtain⟨q1,q2,_⟩:=EP _ _ _ _ _ xY.empty (.inl ⟨rfl,rfl⟩) he;exact⟨q1.gr,Nat.lt_of_le_of_lt (bc _) q2⟩
structure Nv(d:Nd):Prop where
 kind:d.kind<7
 len:d.attr.length=12
 att:∀k,k<12->d.attr[k]?.getD 0=aV[k]?.getD 0\/(gn d.kind k=true/\0<=d.attr[k]?.getD 0/\d.attr[k]?.getD 0<=iE[k]?.getD 0)
 text:d.text=[]\/d.kind=5
structure Vl(s:ByteArray)(L:List Nd):Prop where
 nv:∀j,j<L.length->Nv (ae L j)
 tl:∀j,j<L.length->(ae L j).text.length<=s.size
 id:∀i j,i<j->j<L.length->(0:Int)<(ae L j).attr[0]?.getD 0->(ae L i).attr[0]?.getD 0≠(ae L j).attr[0]?.getD 0
 cnt:L.length<=100
def rl(d:Nd):Prop:=d.kind<3\/(3<=d.kind/\d.kind<5/\d.kids.length=1)\/(5<=d.kind/\d.kids=[])
inductive Ch(L:Nat->Nd):Nat->List Nat->Nat->Nat->Prop
 |nil (d a:Nat):Ch L d [] a a
 |cons {d c:Nat} {r:List Nat} {e1 e:Nat}:d<12->rl (L c)->Ch L (d+1) (L c).kids (c+1) e1->Ch L d r e1 e->Ch L d (c::r) c e
theorem Ch.le{L}{d}{ks}{a e}(h:Ch L d ks a e):a<=e:=by
 induction h with
 |nil=>omega
 |cons _ _ _ _ i1 i2=>omega
theorem Ch.congr{L L'}{d}{ks}{a e}(h:Ch L d ks a e):(∀j,a<=j->j<e->L' j=L j)->Ch L' d ks a e:=by
 induction h with
 |nil d a=>intro _;exact .nil d a
 |@cons d c r e1 e h1 h2 h3 h4 i1 i2=>intro hj;have l3:=h3.le;have l4:=h4.le;have ec:=hj c (ai _) (by omega);refine .cons (e1:=e1) h1 (by grind) ?_ (i2 (fun j h1 h2=>hj j (by omega) h2));grind
theorem Ch.app{L}{d}{ks}{a b}(h:Ch L d ks a b){Yg}{e}(k:Ch L d Yg b e):Ch L d (ks++Yg) a e:=by
 induction h with
 |nil d a=>exact k
 |cons h1 h2 h3 h4 i1 i2=>exact .cons h1 h2 h3 (i2 k)
structure Av(kind:Nat)(L:List Nd)(a:List Int):Prop where
 len:a.length=12
 att:∀k,k<12->a[k]?.getD 0=aV[k]?.getD 0\/(gn kind k=true/\0<=a[k]?.getD 0/\a[k]?.getD 0<=iE[k]?.getD 0)
 id:(0:Int)<a[0]?.getD 0->eJ L (a[0]?.getD 0)=false
theorem eE{b}{f}{c p}(h:bD b f c p=none):b=false/\f=none:=by
 unfold bD at h;cases b with
 |false=>grind
 |true=>unfold ib at h;grind
theorem uq{f}{c p}(h:ib f c p=none):False:=by unfold ib at h;grind
theorem Si  s   j  :0<=dv s j (run aU s j-j):=(rO s j _ (fun t ht=>by grind[oe,aU,run])).1
theorem oK{s}{kind}{L}{i}{er}{a}{seen}{i2}{dY}{a2}{oh}(h:iu s kind L i er a seen=.ok (i2,dY,a2,oh))(h0:dY=none)(hv:Av kind L a):er=none/\Av kind L a2:=by
 unfold iu at h;dsimp only at h;split at h;·cases h
 ·split at h;·cases h
  ·split at h;·cases h
   ·rename_i j2 _ _;split at h;·grind[uq]
    ·rename_i yX;have hn:=Si s (sk s j2);obtain⟨n,Td⟩:=aj (dv s (sk s j2) (run aU s (sk s j2)-sk s j2));obtain⟨ix,Rc⟩:=aj (aJ bZ (s.extract (sk s i) (run ap s (sk s i))) 0);have oS:=jB (s.extract (sk s i) (run ap s (sk s i))) bZ 0;rw[Rc]at oS;rw[Rc,Td]at h;rw[Td]at hn;rw[Rc]at yX;injection h with h;injection h with e1 h;injection h with e2 h;injection h with e3 e4;rw[h0]at e2;obtain⟨q1,e2⟩:=eE e2;obtain⟨q2,e2⟩:=eE e2;obtain⟨q3,e2⟩:=eE e2;have xS:0<=ix/\gn kind ix.toNat=true:=by
      constructor;·omega
      ·grind
     have o7:ix.toNat<12:=by have:bZ.length=12:=rfl;rw[this]at oS;rcases oS with e|e<;>omega
     refine⟨e2,?_⟩;subst e3;have hm:n<=iE[ix.toNat]?.getD 0:=by simpa using q2
     have hl:ix.toNat<a.length:=by rw[hv.len];exact o7
     refine⟨by rw[Mh];exact hv.len,fun k hk=>?_,fun hp=>?_⟩
     ·by_cases e:ix.toNat=k;·grind
      ·rw[vt e];exact hv.att k hk
     ·by_cases e:ix.toNat=0;·grind
      ·rw[vt e]at hp⊢;exact hv.id hp
theorem rE{s}{kind}{L}:∀f i er a seen i2 dY a2,dy s kind L f i er a seen=.ok (i2,dY,a2)->dY=none->Av kind L a->er=none/\Av kind L a2
 |0,i,er,a,seen,i2,dY,a2,h,h0,hv=>by cases h
 |f+1,i,er,a,seen,i2,dY,a2,h,h0,hv=>by
  unfold dy at h;split at h;·cases h
  ·rename_i j kD a1 dJ he;split at h
   ·obtain⟨q1,q2⟩:=rE f _ _ _ _ _ _ _ h h0
     (by
      -- the attribute ahead has no zeA zaV,seen from behind
      have:∀f i er a seen i2 dY a2,dy s kind L f i er a seen=.ok (i2,dY,a2)->dY=none->er=none:=by
       intro f;induction f with
       |zero=>intro i er a seen i2 dY a2 h;cases h
       |succ f ih=>intro i er a seen i2 dY a2 h h0;unfold dy at h;grind[iu,uq,eE]
      grind[oK]);exact⟨(oK he q1 hv).1,q2⟩
   grind[oK]
theorem NS  kind   L  :Av kind L aV:=⟨rfl,fun k hk=>.inl rfl,fun h=>absurd h (by decide)⟩
theorem rF{s}{kind}{L}{i}{er}{i2}{dY}{a2}(h:cY s kind L i er=.ok (i2,dY,a2))(h0:dY=none):er=none/\Av kind L a2:=by grind[cY,rE,NS]
theorem xg{s}:∀f p acc i t,qF s f p acc=.ok (i,t)->t.length+p<=i+acc.length/\(p<=s.size->i<=s.size)
 |0,p,acc,i,t,h=>by cases h
 |f+1,p,acc,i,t,h=>by
  have iV:∀q,dh s q≠256->q<s.size:=fun q hq=>by grind[dO]
  unfold qF at h;split at h;·cases h
  ·rename_i h0;have:=iV p h0;split at h;·grind
   ·split at h
    ·split at h;·rename_i hq;have h3:=iV (p+1) (by omega);have h4:=xg f (p+2) _ i t h;grind
     ·split at h;·rename_i hq;have h3:=iV (p+1) (by omega);have h4:=xg f (p+2) _ i t h;grind
      grind
    ·have h4:=xg f (p+1) _ i t h;grind
theorem Pp{s}{i j}{t}(h:ee s i=.ok (j,t)):t.length<=s.size:=by
 unfold ee at h;split at h;·rename_i hq;have h1:=xg _ _ _ _ _ h;grind[ao,sk,aM,dO]
 grind
theorem iC  L   d   j  (hj:j<L.length):(ae (grown L d) j).kind=(ae L j).kind/\(ae (grown L d) j).attr=(ae L j).attr/\(ae (grown L d) j).text=(ae L j).text/\(ae (grown L d) j).up=(ae L j).up/\((j:Int)≠d.up->ae (grown L d) j=ae L j)/\((j:Int)=d.up->ae (grown L d) j={ae L j with kids:=(ae L j).kids++[L.length]}):=by grind[grown,cu,aY,aR]
theorem ly  L   d  :ae (grown L d) L.length=d:=by grind[grown,cN]
theorem JZ{L}{n}(h:eJ L n=false)  i  (hi:i<L.length):(ae L i).attr[0]?.getD 0≠n:=by grind[eJ,ae]
theorem Vl.grown{s:ByteArray}{L:List Nd}{d:Nd}(h:Vl s L)(hd:Nv d)(ht:d.text.length<=s.size)(hid:(0:Int)<d.attr[0]?.getD 0->eJ L (d.attr[0]?.getD 0)=false)(hc:L.length<100):Vl s (grown L d):=by
 have hl:=di L d;refine⟨fun j hj=>?_,fun j hj=>?_,fun i j Ez hj h0=>?_,by omega⟩
 ·by_cases e:j=L.length;·grind[ly]
  ·obtain⟨a1,a2,a3,_⟩:=iC L d j (by omega);have:=h.nv j (by omega);exact⟨by rw[a1];exact this.kind,by rw[a2];exact this.len,by rw[a1,a2];exact this.att,by rw[a1,a3];exact this.text⟩
 ·by_cases e:j=L.length;·grind[ly]
  ·obtain⟨a1,a2,a3,_⟩:=iC L d j (by omega);rw[a3];exact h.tl j (by omega)
 ·have ei:=(iC L d i (by omega)).2.1;by_cases e:j=L.length;·grind[ly,JZ]
  ·have ej:=(iC L d j (by omega)).2.1;rw[ej]at h0⊢;rw[ei];exact h.id i j Ez (by omega) h0
theorem gC  L   k   t   j  :(ae (aB L k t) j).kind=(ae L j).kind/\(ae (aB L k t) j).attr=(ae L j).attr/\(ae (aB L k t) j).kids=(ae L j).kids/\(ae (aB L k t) j).up=(ae L j).up/\(j≠k->ae (aB L k t) j=ae L j)/\(j=k->j<L.length->ae (aB L k t) j={ae L j with text:=t}):=by grind[aB,aY,ae,aR]
theorem Vl.texted{s}{L}{k}{t}(h:Vl s L)(hk:k<L.length)(h5:(ae L k).kind=5)(ht:t.length<=s.size):Vl s (aB L k t):=by
 have hl:(aB L k t).length=L.length:=by unfold aB;simp
 refine⟨fun j hj=>?_,fun j hj=>?_,fun i j Ez hj h0=>?_,by rw[hl];exact h.cnt⟩
 ·obtain⟨a1,a2,a3,_,a5,a6⟩:=gC L k t j;have:=h.nv j (by omega);refine⟨by rw[a1];exact this.kind,by rw[a2];exact this.len,by rw[a1,a2];exact this.att,?_⟩;by_cases e:j=k;·grind
  ·rw[a5 e];exact this.text
 ·obtain⟨a1,a2,a3,_,a5,a6⟩:=gC L k t j;by_cases e:j=k;·grind
  ·rw[a5 e];exact h.tl j (by omega)
 ·rw[(gC L k t j).2.1]at h0⊢;rw[(gC L k t i).2.1];exact h.id i j Ez (by omega) h0
structure Y8(s:ByteArray)(L L':List Nd)(up:Int)(af:Nat):Prop where
 vl:Vl s L'
 lt:L.length<L'.length
 ch:Ch (ae L') af [L.length] L.length L'.length
 upE:(ae L' L.length).up=up
 old:∀j:Nat,j<L.length->(j:Int)≠up->ae L' j=ae L j
 par:∀j:Nat,j<L.length->(j:Int)=up->ae L' j={ae L j with kids:=(ae L j).kids++[L.length]}
structure R_(s:ByteArray)(L L':List Nd)(u d:Nat)(ks:List Nat):Prop where
 vl:Vl s L'
 le:L.length<=L'.length
 ch:Ch (ae L') d ks L.length L'.length
 old:∀j:Nat,j<L.length->j≠u->ae L' j=ae L j
 par:ae L' u={ae L u with kids:=(ae L u).kids++ks}
theorem Y8.kids{s}{L L1:List Nd}{u d}(hu:u<L.length)(h:Y8 s L L1 (u:Int) d):R_ s L L1 u d [L.length]:=
 ⟨h.vl,Nat.le_of_lt h.lt,h.ch,fun j hj M4=>h.old j hj (fun e=>M4 (Int.ofNat.inj e)),h.par u hu rfl⟩
theorem R_.trans{s}{L L1 L2}{u d}{ks Yg}(hu:u<L.length)(h:R_ s L L1 u d ks)(k:R_ s L1 L2 u d Yg):R_ s L L2 u d (ks++Yg):=by
 refine⟨k.vl,aT h.le k.le,?_,fun j hj M4=>(k.old j (bn hj h.le) M4).trans (h.old j hj M4),?_⟩;·exact(h.ch.congr (fun j h1 h2=>k.old j h2 (by omega))).app k.ch
 ·rw[k.par,h.par,cO]
def Qt(s:ByteArray)(u d:Nat)(bB:PS->Except Nat PS):Prop:=∀a b,Vl s a.L->u<a.L.length->bB a=.ok b->b.er=none->a.er=none/\Y8 s a.L b.L (u:Int) d
theorem zz{s}{u d}{bB:PS->Except Nat PS}(back:∀a b,bB a=.ok b->b.er=none->a.er=none)(hn:Qt s u d bB):∀f st ct,Vl s st.L->u<st.L.length->dH s bB f st=.ok ct->ct.er=none->st.er=none/\∃ks,R_ s st.L ct.L u d ks
 |0,st,ct,h,hu,e,h0=>by cases e
 |f+1,st,ct,h,hu,e,h0=>by
  have bk:∀f st ct,dH s bB f st=.ok ct->ct.er=none->st.er=none:=by
   intro f;induction f with
   |zero=>intro st ct e;cases e
   |succ f ih=>grind[dH,ao]
  unfold dH at e;split at e;·cases e
  ·rename_i eR he;split at e;·have h2:eR.er=none:=bk _ {eR with i:=ao s eR.i 44} _ e h0;obtain⟨q1,q2⟩:=hn _ _ h hu he h2;obtain⟨_,ks,q3⟩:=zz back hn f {eR with i:=ao s eR.i 44} _ q2.vl (Nat.lt_trans hu q2.lt) e h0;exact⟨q1,_,(q2.kids hu).trans hu q3⟩
   ·split at e;·cases e
    ·injection e with e;subst e;obtain⟨q1,q2⟩:=hn _ _ h hu he h0;exact⟨q1,_,q2.kids hu⟩
structure _i(s:ByteArray)(L L':List Nd)(u d:Nat):Prop where
 vl:Vl s L'
 le:L.length<=L'.length
 ch:Ch (ae L') d (ae L' u).kids L.length L'.length
 ok:rl (ae L' u)
 upE:(ae L' u).up=(ae L u).up
 old:∀j:Nat,j<L.length->j≠u->ae L' j=ae L j
theorem Jo{s}{kind u d}{bB:PS->Except Nat PS}(back:∀a b,bB a=.ok b->b.er=none->a.er=none)(hn:Qt s u d bB){st ct}(h:Vl s st.L)(hu:u<st.L.length)(hk:(ae st.L u).kind=kind)(J_:(ae st.L u).kids=[])(e:i_ s kind u bB st=.ok ct)(h0:ct.er=none):st.er=none/\_i s st.L ct.L u d:=by
 have fin:∀{L':List Nd} {ks:List Nat},R_ s st.L L' u d ks->(kind<3\/(3<=kind/\kind<5/\ks.length=1))->_i s st.L L' u d:=fun{L' ks} q hq=>by
  have ek:(ae L' u).kids=ks:=by rw[q.par,J_];rfl
  have ekd:(ae L' u).kind=kind:=by rw[q.par];exact hk
  refine⟨q.vl,q.le,by rw[ek];exact q.ch,?_,by rw[q.par],q.old⟩;grind[rl]
 have same:5<=kind\/kind<3->_i s st.L st.L u d:=fun hq=>by refine⟨h,ai _,by rw[J_];exact .nil _ _,?_,rfl,fun _ _ _=>rfl⟩;grind[rl]
 unfold i_ at e;split at e
 ·rename_i h3;split at e;·cases e
  ·split at e;·grind
   ·rename_i i2 _ _;obtain⟨q1,ks,q2⟩:=zz back hn _ {st with i:=sk s i2} _ h hu e h0;grind
 ·rename_i h3;split at e
  ·rename_i h5;split at e;·cases e
   ·split at e;·cases e
    ·rename_i i2 _ _ dE he;split at e;·cases e
     ·injection e with e;have Zp:dE.er=none:=by rw[<-e]at h0;exact h0
      obtain⟨q1,q2⟩:=hn {st with i:=i2} dE h hu he Zp;refine⟨q1,?_⟩;rw[<-e];exact fin (q2.kids hu) (.inr ⟨by omega,h5,rfl⟩)
  ·rename_i h5;split at e
   ·rename_i h6;split at e;·cases e
    ·rename_i i2 t he;injection e with e;subst e;refine⟨h0,h.texted hu (by omega) (Pp he),?_,?_,?_,?_,fun j hj M4=>(gC st.L u t j).2.2.2.2.1 M4⟩;·grind[aB]
     ·show Ch (ae (aB st.L u t)) d (ae (aB st.L u t) u).kids st.L.length (aB st.L u t).length;rw[(gC st.L u t u).2.2.1,J_];have:(aB st.L u t).length=st.L.length:=by unfold aB;simp
      rw[this];exact .nil _ _
     all_goals grind[rl,gC]
   grind
theorem uP{s}{bB:PS->Except Nat PS}(back:∀a b,bB a=.ok b->b.er=none->a.er=none):∀f st ct,dH s bB f st=.ok ct->ct.er=none->st.er=none
 |0,st,ct,e,h0=>by cases e
 |f+1,st,ct,e,h0=>by
  unfold dH at e;split at e;·cases e
  ·rename_i eR he;split at e;·exact back _ _ he (uP back f {eR with i:=ao s eR.i 44} _ e h0)
   grind
theorem uy{s}{kind u}{bB:PS->Except Nat PS}(back:∀a b,bB a=.ok b->b.er=none->a.er=none){st ct}(e:i_ s kind u bB st=.ok ct)(h0:ct.er=none):st.er=none:=by
 unfold i_ at e;split at e
 ·split at e;·cases e
  ·split at e;·grind
   ·rename_i i2 _ _;exact uP back _ {st with i:=sk s i2} _ e h0
 grind
theorem lE{s}:∀f  up  af st ct,cC s f up af st=.ok ct->ct.er=none->st.er=none
 |0,up,af,st,ct,e,h0=>by cases e
 |f+1,up,af,st,ct,e,h0=>by
  unfold cC at e;dsimp only at e;split at e;·cases e
  ·split at e;·cases e
   ·rename_i i2 dY a he;have h1:=uy (lE f _ _) e h0;exact(eE (eE (rF he h1).1).2).2
theorem zM{s}:∀f  up  af st ct,Vl s st.L->up<(st.L.length:Int)->cC s f up af st=.ok ct->ct.er=none->Y8 s st.L ct.L up af
 |0,up,af,st,ct,h,hp,e,h0=>by cases e
 |f+1,up,af,st,ct,h,hp,e,h0=>by
  unfold cC at e;dsimp only at e;split at e;·cases e
  ·rename_i hkd;split at e;·cases e
   ·rename_i i2 dY a he;have h1:=uy (lE f _ _) e h0;obtain⟨h2,MT⟩:=rF he h1;obtain⟨g1,h3⟩:=eE h2;obtain⟨g2,h4⟩:=eE h3;have g1:af<12:=by
     have:¬12<=af:=by simpa using g1
     omega
    have g2:st.L.length<100:=by
     have:¬100<=st.L.length:=by simpa using g2
     omega
    have oS:=jB (s.extract (sk s st.i) (run ap s (sk s st.i))) b_ 0;obtain⟨kd,oE⟩:=aj (aJ b_ (s.extract (sk s st.i) (run ap s (sk s st.i))) 0);rw[oE]at e oS hkd MT;have M7:kd.toNat<7:=by have:b_.length=7:=rfl;rw[this]at oS;rcases oS with e|e<;>omega
    obtain⟨d,hd⟩:∃d:Nd,(⟨kd.toNat,a,[],[],up⟩:Nd)=d:=⟨_,rfl⟩;rw[hd]at e;have kJ:Nv d:=by rw[<-hd];exact⟨M7,MT.len,MT.att,.inl rfl⟩
    have hg:=h.grown kJ (by grind) (by rw[<-hd];exact MT.id) g2;have hl:=di st.L d;have hn:=ly st.L d;obtain⟨_,hb⟩:=Jo (d:=af+1) (lE f _ _) (fun a b ga pa hab hb0=>⟨lE f _ _ _ _ hab hb0,zM f (st.L.length:Int) (af+1) a b ga (by omega) hab hb0⟩) (st:={i:=i2,L:=grown st.L d,er:=dY}) hg (by grind) (by grind) (by grind) e h0;have tN:(grown st.L d).length<=ct.L.length:=hb.le;have hdu:d.up=up:=by rw[<-hd]
    have hbc:Ch (ae ct.L) (af+1) (ae ct.L st.L.length).kids (grown st.L d).length ct.L.length:=hb.ch;have iY:(ae ct.L st.L.length).up=(ae (grown st.L d) st.L.length).up:=hb.upE;have SN:∀j:Nat,j<(grown st.L d).length->j≠st.L.length->ae ct.L j=ae (grown st.L d) j:=hb.old;refine⟨hb.vl,by omega,.cons g1 hb.ok (by grind) (.nil _ _),by grind,fun j hj M4=>?_,fun j hj M4=>?_⟩;all_goals grind[iC]
structure dk(s:ByteArray)(L:List Nd):Prop where
 sz:s.size<=4000
 gr:xY L
 pos:0<L.length
 vl:Vl s L
 ch:Ch (ae L) 0 [0] 0 L.length
 up0:(ae L 0).up=-1
theorem eQ{s}{L}(h:fO s=.ok L):dk s L:=by
 obtain⟨q1,q2⟩:=zW h;unfold fO at h;split at h;·cases h
 ·rename_i hs;split at h;·cases h
  ·rename_i st he;split at h;·cases h
   ·split at h;·cases h
    ·rename_i wL;injection h with h;subst h;have:=zM _ _ _ _ _ ⟨fun j hj=>absurd hj (by simp),fun j hj=>absurd hj (by simp),fun i j _ hj=>absurd hj (by simp),by simp⟩ (by omega) he wL;exact⟨by omega,q1,q2,this.vl,this.ch,this.upE⟩
def Kn(W:World):Prop:=∀j,j<7->W.cell? (az 8 j)=some (.string (b_[j]?.getD ByteArray.empty))
theorem Kn.fr{W W'}{B r}(h:Kn W)(f:Fr B r W W')(hB:r<B)(hr:9<=r):Kn W':=fun j hj=>f.cell (h j hj) (by grind) (by grind)
def Mem(W0 W:World)(rb ab B:Nat)(E:Nat->Addr)(s:ByteArray)(st:PS):Prop:=Qb W rb ab B E/\Kn W/\fK s st/\Fr B rb W0 W/\∃nv KV,PR W rb s st.i (Sq ab 12 12) nv (fF E st.er)/\PN W B nv st.L KV
def dU(w w':World)(e:Ending)(rb ab B:Nat)(E:Nat->Addr)(s:ByteArray)(r:Except Nat PS):Prop:=match r with
 |.error b=>e=.panicked [{v:=cR (b:Int) (bp (E 2)),recovered:=false}]/\Fr B rb w w'
 |.ok st=>e=Rw (.tuple #[])/\Mem w w' rb ab B E s st
def D5(rb ab B:Nat)(E:Nat->Addr)(s:ByteArray)(f:Nat):Prop:=∀(up:Int) (af:Nat) (st:PS) (w0 w:World),Mem w0 w rb ab B E s st->(up=-1\/(0<=up/\up<st.L.length))->af<=st.i->s.size<f+st.i->
 Cw 44 #[Pq rb,Iq up,Iq (af:Int)] w fun e w'=>dU w0 w' e rb ab B E s (aL s f up af st)
theorem Mem.grown{W0 W W'}{rb ab B}{E}{s}{st}{i}(h:Mem W0 W rb ab B E s st)(g:W.grownBy W' (some rb))(hg:fK s {st with i:=i})(hp:∀nv KV,PR W rb s st.i (Sq ab 12 12) nv (fF E st.er)->PN W B nv st.L KV->PR W' rb s i (Sq ab 12 12) nv (fF E st.er)):Mem W0 W' rb ab B E s {st with i:=i}:=by obtain⟨e,k,_,f,nv,KV,p,n⟩:=h;have fr:=Fr.grown (r:=rb) g e.le;exact⟨e.fr fr,k.fr fr e.rbB e.lo,hg,f.trans fr,nv,KV,hp nv KV p n,n.up (Up.grown g e.rbB)⟩
theorem pd{W0 W}{rb ab B}{E}{s}{st}(c:Nat)(h:Mem W0 W rb ab B E s st)(hs:s.size<=1073741824)(hc:c<256):
 Cw 87 #[Pq rb,.int .u8 (c:Int)] W fun e w'=>e=Rw (.bool (aM s st.i c))/\Mem W0 w' rb ab B E s {st with i:=ao s st.i c}:=by obtain⟨e,k,g,f,nv,KV,p,n⟩:=h;refine(lK rb s st.i _ nv _ c W p (by omega) g.il hc).mono ?_;rintro e' w' ⟨rfl,h1,g1⟩;have fr:=Fr.grown (r:=rb) g1 e.le;exact⟨rfl,e.fr fr,k.fr fr e.rbB e.lo,g.at hc,f.trans fr,nv,KV,h1,n.up (Up.grown g1 e.rbB)⟩
theorem eM{W0 W}{rb ab B}{E}{s}{st}(c:Nat)(h:Mem W0 W rb ab B E s st)(hs:s.size<=1073741824)(hc:c<256):
 Cw 90 #[Pq rb,.int .u8 (c:Int)] W fun e w'=>dU W0 w' e rb ab B E s (dM s st c):=by
 obtain⟨e,k,g,f,nv,KV,p,n⟩:=h;unfold dM;by_cases hq:aM s st.i c=true;·rw[if_pos hq];refine(iw rb s st.i _ nv _ c W p (by omega) g.il hc hq).mono ?_;rintro e' w' ⟨rfl,h1,g1⟩;have fr:=Fr.grown (r:=rb) g1 e.le;exact⟨rfl,e.fr fr,k.fr fr e.rbB e.lo,g.at hc,f.trans fr,nv,KV,h1,n.up (Up.grown g1 e.rbB)⟩
 ·rw[if_neg hq];have lo:=e.lo;refine(jA rb s st.i _ nv _ (E 2) c W p (by omega) g.il hc (by grind) (by omega) e.g2).mono ?_;rintro e' w' ⟨rfl,g1⟩;exact⟨rfl,f.trans (Fr.grown g1 e.le)⟩
theorem Mem.prI{W0 W:World}{rb ab B:Nat}{E:Nat->Addr}{s:ByteArray}{st:PS}(h:Mem W0 W rb ab B E s st):prI W rb=st.i:=by obtain⟨e,k,g,f,nv,KV,p,n⟩:=h;exact p.prI
theorem qd(rb ab B:Nat)(E:Nat->Addr)(s:ByteArray)(f:Nat)(hnode:D5 rb ab B E s f)(hs:s.size<=1073741824)(up:Nat)(af:Nat)(st:PS)(w0 w:World)(h:Mem w0 w rb ab B E s st)(q_:up<st.L.length)(hd:af<=st.i)(hf:s.size<f+st.i):
 Cw 91 #[Pq rb,Iq (up:Int),Iq (af:Int)] w fun e w'=>dU w0 w' e rb ab B E s (gJ s (aL s f (up:Int) af) st):=by
 have HN:=qH<|hnode;have CX:Hid (Cw 90 #[Pq rb,.int .u8 91] w fun e w'=>dU w0 w' e rb ab B E s (dM s st 91)):=eM 91 h hs (by omega);by_cases hq:aM s st.i 91=true
 ·have e1:dM s st 91=.ok {st with i:=ao s st.i 91}:=by unfold dM;rw[if_pos hq]
  rw[e1]at CX;have HP:Hid (gJ s (aL s f (up:Int) af) st=if aM s (ao s st.i 91) 93=true then .ok {st with i:=ao s (ao s st.i 91) 93}else gW s (aL s f (up:Int) af) (s.size+1) {st with i:=ao s (ao s st.i 91) 93}):=by show _=_;unfold gJ;rw[if_pos hq]
  have wN:=bS s st.i 91;have lN:=bS s (ao s st.i 91) 93;obtain⟨R,hR⟩:=aj (gJ s (aL s f (up:Int) af) st);rw[hR]at HP⊢;clear h hnode hR e1 hq;go_enter func91,ntmps91;go_wp2_with fail;refine CX.mono ?_;rintro e w1 ⟨rfl,h1⟩;have CT:Hid (Cw 87 #[Pq rb,.int .u8 93] w1 fun e w'=>e=Rw (.bool (aM s (ao s st.i 91) 93))/\Mem w0 w' rb ab B E s {st with i:=ao s (ao s st.i 91) 93}):=pd 93 h1 hs (by omega);clear h1 CX;by_cases wQ:aM s (ao s st.i 91) 93=true
  ·have eZ:Hid (R=.ok {st with i:=ao s (ao s st.i 91) 93}):=by show _=_;rw[HP.out,if_pos wQ]
   rw[wQ]at CT;clear HP wQ;go_wp2_with fail;refine CT.mono ?_;rintro e w2 ⟨rfl,h2⟩;have HM:=qH<|h2;clear h2 CT;go_wp2;try simp only[Exit.inBlock,Exit.then]
   refine bodyPost_ret (results_none rfl _ _ _) rfl ?_;show dU _ _ _ _ _ _ _ _ _;rw[eZ.out];exact⟨rfl,HM⟩
  ·have eZ:Hid (gW s (aL s f (up:Int) af) (s.size+1) {st with i:=ao s (ao s st.i 91) 93}=R):=by show _=_;rw[HP.out,if_neg wQ]
   rw[show aM s (ao s st.i 91) 93=false by grind]at CT;clear HP wQ;obtain⟨cQ,kK⟩:∃z:PS,{st with i:=ao s (ao s st.i 91) 93}=z:=⟨_,rfl⟩;have k1:st.i<=cQ.i:=by rw[<-kK];exact aT wN lN
   have k2:cQ.L.length=st.L.length:=by rw[<-kK]
   rw[kK]at CT eZ;clear kK wN lN;go_wp2_with fail;refine CT.mono ?_;rintro e w2 ⟨rfl,h2⟩;have HM:=qH<|h2;clear h2 CT;go_wp2;go_loopw[6] (fun b wr=>∃(eR:PS) (g:Nat) (m:Bool),b=.bool m/\Hid (Mem w0 wr rb ab B E s eR)/\st.i<=eR.i/\st.L.length<=eR.L.length/\s.size<g+eR.i/\Hid ((if m=true then gW s (aL s f (up:Int) af) g eR else dM s eR 93)=R)) (fun b wr=>2*(s.size-prI wr rb)+(match b with|.bool true=>1|_=>0));case atStart=>grind
   case round=>
    clear HM eZ k1 k2;obtain⟨eR,g,m,rfl,HS,nt,uK,hg,lL⟩:=hrel;have HI:=qH<|HS.prI;have zjt:=HS.2.2.1.il;cases m with
    |true=>
     obtain⟨g,rfl⟩:∃q,g=q+1:=⟨g-1,by omega⟩;have CN:=qH<|HN (up:Int) af eR w0 wr HS (.inr ⟨by omega,by omega⟩) (by omega) (by omega);cases hp:aL s f (up:Int) af eR with
     |error b=>
      have eZ:Hid (R=.error b):=by show _=_;rw[<-lL.out];simp only[if_true];unfold gW;rw[hp]
      rw[hp]at CN;clear hp lL;go_wp2_with fail;refine CN.mono ?_;rintro e w3 ⟨rfl,f3⟩;refine⟨rfl,?_⟩;rw[eZ.out];exact⟨rfl,f3⟩
     |ok dE=>
      obtain⟨q1,q2,q3⟩:=zL f (up:Int) af eR dE (by omega) HS.2.2.1 hp;have q4:=q1.good.il;have eZ:Hid ((if aM s dE.i 44=true then gW s (aL s f (up:Int) af) g {dE with i:=ao s dE.i 44}else dM s {dE with i:=ao s dE.i 44} 93)=R):=by
       show _=_;rw[<-lL.out];simp only[if_true];conv=>rhs;unfold gW
       rw[hp]
      rw[hp]at CN;clear hp lL q1;go_wp2_with fail;refine CN.mono ?_;rintro e w3 ⟨rfl,h3⟩;have CT:Hid (Cw 87 #[Pq rb,.int .u8 44] w3 fun e w'=>e=Rw (.bool (aM s dE.i 44))/\Mem w0 w' rb ab B E s {dE with i:=ao s dE.i 44}):=pd 44 h3 hs (by omega);have ZH:=bS s dE.i 44;have OG:=dP (s:=s) (i:=dE.i) (c:=44) (by omega) q4;obtain⟨m',OM⟩:=aj (aM s dE.i 44);obtain⟨_g,OV⟩:∃z:PS,{dE with i:=ao s dE.i 44}=z:=⟨_,rfl⟩;have k1:_g.i=ao s dE.i 44:=by rw[<-OV]
      have k2:_g.L.length=dE.L.length:=by rw[<-OV]
      rw[OM,OV]at CT eZ;clear h3 CN OV OM;go_wp2_with fail;refine CT.mono ?_;rintro e w4 ⟨rfl,h4⟩;have _U:=qH<|h4;have Uj:=qH<|h4.prI;clear h4 CT;go_wp2;go_roundw;case rel=>grind
      case measure=>rw[Uj.out,HI.out];grind
    |false=>
     have CX:Hid (Cw 90 #[Pq rb,.int .u8 93] wr fun e w'=>dU w0 w' e rb ab B E s (dM s eR 93)):=eM 93 HS hs (by omega);have eZ:Hid (dM s eR 93=R):=by show _=_;have:=lL.out;simpa using this
     rw[eZ.out]at CX;clear lL eZ;cases R with
     |error b=>go_wp2_with fail;refine CX.mono ?_;rintro e w3 ⟨rfl,f3⟩;exact⟨rfl,rfl,f3⟩
     |ok dE=>go_wp2_with fail;refine CX.mono ?_;rintro e w3 ⟨rfl,h3⟩;have IE:=qH<|h3;clear h3 CX;go_wp2;go_end0;exact⟨rfl,IE⟩
 ·have e1:dM s st 91=.error (sk s st.i):=by unfold dM;rw[if_neg hq]
  have HP:Hid (gJ s (aL s f (up:Int) af) st=.error (sk s st.i)):=by show _=_;unfold gJ;rw[if_neg hq]
  rw[e1]at CX;clear h hnode e1 hq;go_enter func91,ntmps91;go_wp2_with fail;refine CX.mono ?_;rintro e w1 ⟨rfl,f1⟩;refine⟨rfl,?_⟩;rw[HP.out];exact⟨rfl,f1⟩
def Wu(ab:Nat):Value:=Sq ab 12 12
theorem TN  d   a k  :(jT d a k).length=5:=rfl
structure RD(W:World)(B:Nat)(nv:Value)(L:List Nd)(AV:Nat->Nat)(KV:Nat->Value):Prop where
 nr:NR W B 107 5 nv L.length (fun j=>jT (ae L j) (Wu (AV j)) (KV j)) KV (fun j=>(ae L j).kids)
 len:∀j,j<L.length->(ae L j).attr.length=12
 att:∀j,j<L.length->B<=AV j/\ew W (AV j) (fun k=>Iq ((ae L j).attr[k]?.getD 0))
 sepK:∀i j,i<L.length->j<L.length->(KV j).ownBlock≠some (AV i)
 sepN:∀i,i<L.length->nv.ownBlock≠some (AV i)
section
variable{W W':World} {B:Nat} {nv:Value} {L:List Nd} {AV:Nat->Nat} {KV:Nat->Value}
theorem RD.nothing  W   B   AV   KV  :RD W B (.slice none 0 0) [] AV KV:=
 ⟨NR.nothing _ _ _ _ _ _ _,fun j h=>absurd h (by grind),fun j h=>absurd h (by grind),fun i j h=>absurd h (by grind),fun i h=>absurd h (by grind)⟩
theorem RD.up(h:RD W B nv L AV KV)(hu:Up B W W'):RD W' B nv L AV KV:=
 ⟨h.nr.up hu,h.len,fun j hj=>⟨(h.att j hj).1,(h.att j hj).2.keep hu.size (hu.block _ (h.att j hj).1 (h.att j hj).2.1)⟩,h.sepK,h.sepN⟩
theorem RD.ids(h:RD W B nv L AV KV){rb}(hr:rb<B):Qs W rb nv L:=by
 by_cases hL:L=[]
 ·subst hL;obtain⟨xs,hx⟩:=h.nr.row;rcases cD hx with⟨rfl,_⟩|⟨g,al,rfl,h1,h2,h3,h4⟩;·exact .inl ⟨rfl,rfl⟩
  ·exact .inr ⟨g,al,AV,rfl,h2,by omega,fun k hk=>absurd hk (by grind)⟩
 ·have hn:=ou.2 hL;obtain⟨g,al,rfl,h1,h2,h3,h4⟩:=h.nr.form hn;refine .inr ⟨g,al,AV,rfl,h2,by omega,fun k hk=>⟨h.nr.cell hk rfl,(h.att k hk).2.1,by have:=(h.att k hk).1;omega,?_⟩⟩;have:=((h.att k hk).2.2 0 (by omega)).1;grind[ae]
theorem RD.app{G3}{xs}{d}{ab}(h:RD W B nv L AV KV)(hx:W.ownsRow B 107 5 nv L.length xs)(hx':W'.ownsRow B 107 5 G3 (L.length+1) (xs++jT d (Wu ab) (.slice none 0 0)))(hg:W.grownBy W' nv.ownBlock)(bY:G3.ownBlock=nv.ownBlock\/G3.ownBlock=some W.heap.size)
 (hl:d.attr.length=12) (hk:d.kids=[]) (hB:B<=ab) (ha:ew W ab (fun k=>Iq (d.attr[k]?.getD 0))) (haK:∀j,j<L.length->(KV j).ownBlock≠some ab) (haN:nv.ownBlock≠some ab):
 RD W' B G3 (L++[d]) (fun j=>if j=L.length then ab else AV j) (fun j=>if j=L.length then .slice none 0 0 else KV j):=by
 have uK:(L++[d]).length=L.length+1:=by simp
 have Ye:=fun j hj=>(h.att j hj).2.keep hg.size (hg.block _ (h.att j hj).2.1 (fun e=>h.sepN j hj e.symm));refine⟨?_,fun j hj=>?_,fun j hj=>?_,fun i j hi hj=>?_,fun i hi=>?_⟩;·rw[uK];refine(h.nr.app (by decide) hx hx' hg (TN _ _ _)).congr (fun j hj=>?_) (fun j hj=>rfl) (fun j hj=>?_);all_goals grind[cN,cu]
 ·by_cases e:j=L.length;·grind[cN]
  ·rw[cu (by omega)];exact h.len j (by omega)
 ·by_cases e:j=L.length;·subst e;rw[if_pos rfl,cN];exact⟨hB,ha.keep hg.size (hg.block _ ha.1 (fun e=>haN e.symm))⟩
  ·rw[if_neg e,cu (by omega)];exact⟨(h.att j (by omega)).1,Ye j (by omega)⟩
 ·by_cases e:j=L.length;·subst e;simp[Value.ownBlock]
  ·rw[if_neg e];by_cases e2:i=L.length;·grind
   ·rw[if_neg e2];exact h.sepK i j (by omega) (by omega)
 ·have hlt:(if i=L.length then ab else AV i)<W.heap.size:=by
   by_cases e:i=L.length;·rw[if_pos e];exact ha.1
   ·rw[if_neg e];exact(h.att i (by omega)).2.1
  rcases bY with e|e
  ·rw[e];by_cases e2:i=L.length;·grind
   ·rw[if_neg e2];exact h.sepN i (by omega)
  grind
theorem RD.setText{g al k}(h:RD W B (Sq g L.length al) L AV KV)(hk:k<L.length)  x  :
 RD (W.setCell (az g (k*5+2)) (.string ⟨x.toArray⟩)) B (Sq g L.length al) (aB L k x) AV KV:=by
 have uK:(aB L k x).length=L.length:=by unfold aB;simp
 have bG:∀j,j<L.length->AV j≠g:=fun j hj e=>h.sepN j hj (by rw[e];rfl);have bY:∀j,(ae (aB L k x) j).attr=(ae L j).attr/\(ae (aB L k x) j).kids=(ae L j).kids:=fun j=>by grind[aB,aY,aR]
 refine⟨?_,fun j hj=>?_,fun j hj=>?_,fun i j hi hj=>h.sepK i j (by omega) (by omega),fun i hi=>h.sepN i (by omega)⟩
 ·rw[uK];refine(h.nr.set (by decide) hk (by omega) (.string ⟨x.toArray⟩)).congr (fun j hj=>?_) (fun j hj=>rfl) (fun j hj=>(bY j).2);by_cases e:j=k;·subst e;rw[if_pos rfl];unfold aB;rw[aY _ hk];rfl
  grind[aB,aR]
 ·rw[(bY j).1];exact h.len j (by omega)
 ·rw[(bY j).1];exact⟨(h.att j (by omega)).1,(h.att j (by omega)).2.other (bG j (by omega)) _⟩
theorem RD.kid{g al}{kv'}{k c}(h:RD W B (Sq g L.length al) L AV KV)(hk:k<L.length)
 (hr:W'.ownsRow B 3 1 kv' ((ae L k).kids.length+1) (jD ((ae L k).kids++[c]))) (hg:W.grownBy W' (KV k).ownBlock) (bY:kv'.ownBlock=(KV k).ownBlock\/kv'.ownBlock=some W.heap.size):
 RD (W'.setCell (az g (k*5+3)) kv') B (Sq g L.length al) (L.modify k fun u=>{u with kids:=u.kids++[c]}) AV (fun j=>if j=k then kv' else KV j):=by
 have uK:(L.modify k fun u=>{u with kids:=u.kids++[c]}).length=L.length:=by simp
 have bG:∀j,j<L.length->AV j≠g:=fun j hj e=>h.sepN j hj (by rw[e];rfl);have ha:∀j,(ae (L.modify k fun u=>{u with kids:=u.kids++[c]}) j).attr=(ae L j).attr:=fun j=>by grind[aY,aR]
 refine⟨?_,fun j hj=>?_,fun j hj=>?_,fun i j hi hj=>?_,fun i hi=>h.sepN i (by omega)⟩
 ·rw[uK];refine(h.nr.kid (t:=3) (by decide) hk (by omega) hr hg bY).congr (fun j hj=>?_) (fun j hj=>rfl) (fun j hj=>?_)
  ·by_cases e:j=k;·subst e;simp only[if_true];rw[aY _ hk];rfl
   grind[aR]
  grind[aY,aR]
 ·rw[ha j];exact h.len j (by omega)
 ·rw[ha j];exact⟨(h.att j (by omega)).1,((h.att j (by omega)).2.keep hg.size (hg.block _ (h.att j (by omega)).2.1 (fun e=>h.sepK j k (by omega) hk e.symm))).other (bG j (by omega)) _⟩
 ·by_cases e:j=k
  ·rw[if_pos e];rcases bY with q|q;·rw[q];exact h.sepK i k (by omega) hk
   ·rw[q];intro e2;injection e2 with e2;have:=(h.att i (by omega)).2.1;omega
  ·rw[if_neg e];exact h.sepK i j (by omega) (by omega)
end
structure RW(W0 W:World)(rb B:Nat)(s:ByteArray)(i:Nat)(L:List Nd)(f:fP)(bad aI:Int):Prop where
 il:i<=s.size
 ll:bad<0->L.length<=i
 kl:∀j,(ae L j).kids.length<=L.length
 rbB:rb<B
 le:B<=W.heap.size
 fr:Fr B rb W0 W
 mem:∃nv AV KV er at_,RS W rb s i nv bad er at_ aI/\(bad<0->FL er at_ f i)/\RD W B nv L AV KV
section
variable{W0 W W':World} {rb B i i':Nat} {s:ByteArray} {L:List Nd} {f:fP} {bad FJ aI:Int}
theorem RW.step(h:RW W0 W rb B s i L f bad aI)(hi:i<=i')(hl:i'<=s.size)(qZ:FJ<0->bad<0)(g:W.grownBy W' (some rb))(hr:∀nv er at_,RS W rb s i nv bad er at_ aI->RS W' rb s i' nv FJ er at_ aI):RW W0 W' rb B s i' L f FJ aI:=by obtain⟨nv,AV,KV,er,at_,h1,h2,h3⟩:=h.mem;exact⟨hl,fun e=>aT (h.ll (qZ e)) hi,h.kl,h.rbB,aT h.le g.size,h.fr.trans (Fr.grown g h.le),nv,AV,KV,er,at_,hr nv er at_ h1,fun e=>(h2 (qZ e)).on hi,h3.up (Up.grown g h.rbB)⟩
theorem RW.below(h:RW W0 W rb B s i L f bad aI)(hb:Bt W W'):RW W0 W' rb B s i L f bad aI:=
 h.step (ai _) h.il id (eF hb) (fun nv er at_ r=>r.below hb)
theorem Rg  s   i c   bad  :i<=mI s i c bad:=by grind[mI,bS,dx]
theorem TJ{s}{i c}{bad}(h:mB s i c bad<0):bad<0:=by grind[mB]
theorem rw_skip(h:RW W0 W rb B s i L f bad aI)(hs:s.size<=1073741824):Cw 32 #[Pq rb] W fun e w'=>e=Rw (.tuple #[])/\RW W0 w' rb B s (sk s i) L f bad aI:=by obtain⟨nv,AV,KV,er,at_,h1,h2,h3⟩:=h.mem;refine(skip_any rb s i nv bad er at_ aI W h1 (by omega) h.il).mono ?_;rintro e w' ⟨rfl,r,g⟩;exact⟨rfl,eh s i h.il,fun e=>aT (h.ll e) (dx s i),h.kl,h.rbB,aT h.le g.size,h.fr.trans (Fr.grown g h.le),nv,AV,KV,er,at_,r,fun e=>(h2 e).on (dx s i),h3.up (Up.grown g h.rbB)⟩
theorem fg(c:Nat)(hc:c<256)(h:RW W0 W rb B s i L f bad aI)(hs:s.size<=1073741824):Cw 53 #[Pq rb,.int .u8 (c:Int)] W fun e w'=>e=Rw (.tuple #[])/\RW W0 w' rb B s (mI s i c bad) L f (mB s i c bad) aI:=by obtain⟨nv,AV,KV,er,at_,h1,h2,h3⟩:=h.mem;refine(nM rb s i nv bad er at_ aI c W h1 (by omega) h.il hc).mono ?_;rintro e w' ⟨rfl,r,g⟩;have hi:=Rg s i c bad;have qZ:=TJ (s:=s) (i:=i) (c:=c) (bad:=bad);exact⟨rfl,pY bad hc h.il,fun e=>aT (h.ll (qZ e)) hi,h.kl,h.rbB,aT h.le g.size,h.fr.trans (Fr.grown g h.le),nv,AV,KV,er,at_,r,fun e=>(h2 (qZ e)).on hi,h3.up (Up.grown g h.rbB)⟩
theorem sU(c:Nat)(hc:c<256)(h:RW W0 W rb B s i L f bad aI)(hs:s.size<=1073741824):Cw 93 #[Pq rb,.int .u8 (c:Int)] W fun e w'=>e=Rw (.bool (gB s i c bad))/\RW W0 w' rb B s (mI s i c bad) L f bad aI:=by obtain⟨nv,AV,KV,er,at_,h1,h2,h3⟩:=h.mem;refine(qW rb s i nv bad er at_ aI c W h1 (by omega) h.il hc).mono ?_;rintro e w' ⟨rfl,r,g⟩;have hi:=Rg s i c bad;exact⟨rfl,pY bad hc h.il,fun e=>aT (h.ll e) hi,h.kl,h.rbB,aT h.le g.size,h.fr.trans (Fr.grown g h.le),nv,AV,KV,er,at_,r,fun e=>(h2 e).on hi,h3.up (Up.grown g h.rbB)⟩
theorem RW.c3(h:RW W0 W rb B s i L f bad aI):W.cell? (az rb 3)=some (Iq bad):=by obtain⟨nv,AV,KV,er,at_,h1,h2,h3⟩:=h.mem;exact h1.c3
theorem RW.rdI(h:RW W0 W rb B s i L f bad aI):rdI W rb=i:=by obtain⟨nv,AV,KV,er,at_,h1,h2,h3⟩:=h.mem;exact h1.rdI
end
def gh(W0 W':World)(rb B:Nat)(s:ByteArray)(aI:Int)(st:PS)(r:Except Nat PS):Prop:=match r with
 |.error b=>∃i L g,RW W0 W' rb B s i L g (b:Int) aI
 |.ok ct=>RW W0 W' rb B s ct.i ct.L ct.er (-1) aI/\st.i<ct.i/\st.L.length<=ct.L.length
def D9(rb B:Nat)(s:ByteArray)(f:Nat):Prop:=∀(up:Int) (af:Nat) (st:PS) (w0 w:World),RW w0 w rb B s st.i st.L st.er (-1) (af:Int)->(up=-1\/(0<=up/\up<st.L.length))->af<=st.i->s.size<f+st.i->
 Cw 31 #[Pq rb,Iq up] w fun e w'=>e=Rw (.tuple #[])/\gh w0 w' rb B s (af:Int) st (cC s f up af st)
theorem rR:aJ b_ ByteArray.empty 0=-1:=by kernel_rfl
theorem zK(rb B:Nat)(s:ByteArray)(i:Nat)(L:List Nd)(f:fP)(bad aI:Int)(up:Int)(w0 w:World)(h:RW w0 w rb B s i L f bad aI)(hb:0<=bad)(hs:s.size<=1073741824):
 Cw 31 #[Pq rb,Iq up] w fun e w'=>e=Rw (.tuple #[])/\RW w0 w' rb B s (sk s i) L f bad aI:=by
 have SK:=qH<|rw_skip h hs;have qC:=decide_eq_true hb;clear h;go_enter func31,ntmps31;go_wp2_with fail;refine am SK ?_;rintro e w1 ⟨rfl,h1⟩;obtain⟨nv,AV,KV,er,at_,r1,f1,d1⟩:=h1.mem;have c1:=r1.c1;have H1:=qH<|h1;have WO:Hid (Cw 47 #[Pq rb] w1 fun e w'=>e=Rw (.string ByteArray.empty)/\RS w' rb s (sk s i) nv bad er at_ aI/\w1.grownBy w' (some rb)):=by have:=AU rb s (sk s i) nv bad er at_ aI w1 r1 (by omega) h1.il hb;rw[kZ]at this;exact this
 have HF1:Hid ((bad<0->FL er at_ f (sk s i))/\RD w1 B nv L AV KV):=⟨f1,d1⟩;clear r1 f1 d1 h1 SK;go_wp2_with fail;clear c1;refine am WO ?_;rintro e w2 ⟨rfl,r2,g2⟩;have H2:Hid (RW w0 w2 rb B s (sk s i) L f bad aI):=⟨H1.il,H1.ll,H1.kl,H1.rbB,aT H1.le g2.size,H1.fr.trans (Fr.grown g2 H1.le),nv,AV,KV,er,at_,r2,HF1.1,HF1.2.up (Up.grown g2 H1.rbB)⟩;clear r2 g2 WO H1 HF1;go_wp2_with fail;refine am (uS w2) ?_;rintro e w3 ⟨rfl,hn3,BE,b3⟩;have H3:=qH<|H2.below b3;have FI:Hid (Cw 48 #[Sq w2.heap.size 7 7,.string ByteArray.empty] w3 fun e w'=>e=Rw (Iq (-1))/\w'=w3):=by have:=find_any b_ ByteArray.empty w2.heap.size 0 7 7 w3 BE hn3 rfl (by omega);rw[rR]at this;exact this
 clear hn3 BE b3 H2;go_wp2_with fail;refine am FI ?_;rintro e w4 ⟨rfl,Im⟩;obtain rfl:=Im.symm;obtain⟨nv,AV,KV,er,at_,r3,f3,d3⟩:=H3.mem;have FA:Hid (Cw 33 #[Pq rb,Iq (sk s i:Int)] w3 fun e w'=>e=Rw (.tuple #[])/\RS w' rb s (sk s i) nv bad er at_ aI/\w3.grownBy w' (some rb)):=by
  have:=fail_any rb s (sk s i) nv bad er at_ aI (sk s i:Int) w3 r3;have e:fD bad (sk s i:Int)=bad:=by unfold fD;rw[if_neg (by omega)]
  rw[e]at this;exact this
 have HF3:Hid ((bad<0->FL er at_ f (sk s i))/\RD w3 B nv L AV KV):=⟨f3,d3⟩;clear r3 f3 d3 FI;go_wp2_with fail;refine am FA ?_;rintro e w5 ⟨rfl,r5,g5⟩;have H5:Hid (RW w0 w5 rb B s (sk s i) L f bad aI):=⟨H3.il,H3.ll,H3.kl,H3.rbB,aT H3.le g5.size,H3.fr.trans (Fr.grown g5 H3.le),nv,AV,KV,er,at_,r5,HF3.1,HF3.2.up (Up.grown g5 H3.rbB)⟩;have c3:=r5.c3;clear r5 g5 FA;go_wp2;refine bodyPost_ret (results_none rfl _ _ _) rfl ?_;exact⟨rfl,H5⟩
def pU(s:ByteArray)(bB:PS->Except Nat PS)(st:PS):Except Nat PS:=match cz s st.i 91 with
 |.error b=>.error b
 |.ok i2=>if aM s i2 93 then .ok {st with i:=ao s i2 93}else dH s bB (s.size+1) {st with i:=sk s i2}
def Cd(s:ByteArray)(st:PS):Except Nat PS:=match cz s st.i 93 with
 |.error b=>.error b
 |.ok i3=>.ok {st with i:=i3}
theorem KY  s   i c  :cz s (sk s i) c=cz s i c:=by grind[cz,EH,Es,kZ]
theorem N9  s   st  :Cd s {st with i:=sk s st.i}=Cd s st:=by grind[Cd,KY]
theorem GN{s}{bB}{g}{st}{b}(h:bB st=.error b):dH s bB (g+1) st=.error b:=by rw[dH,h]
theorem Dc{s}{bB}{g}{st eR}(h:bB st=.ok eR)(hm:aM s eR.i 44=true):dH s bB (g+1) st=dH s bB g {eR with i:=ao s eR.i 44}:=by grind[dH]
theorem Db{s}{bB}{g}{st eR}(h:bB st=.ok eR)(hm:¬aM s eR.i 44=true):dH s bB (g+1) st=Cd s eR:=by rw[dH,h];simp only;rw[if_neg hm];rfl
def KI(s:ByteArray)(bB:PS->Except Nat PS)(R:Except Nat PS)(m:Bool)(i:Nat)(L:List Nd)(f:fP)(bad:Int):Prop:=
 (bad=-1/\m=true/\∃g,s.size<g+i/\dH s bB g ⟨i,L,f⟩=R)\/(bad=-1/\m=false/\Cd s ⟨i,L,f⟩=R)\/(∃b:Nat,bad=b/\m=false/\R=.error b)
section
variable{s:ByteArray} {i c:Nat} {b:Nat}
theorem QI:gB s i c (-1)=aM s i c:=by grind[gB]
theorem sD:mI s i c (-1)=ao s i c:=by grind[mI]
theorem zC:mB s i c (-1)=if aM s i c then-1 else(sk s i:Int):=by unfold mB;rw[if_pos (by omega)];rfl
theorem Cj:gB s i c (b:Int)=false:=by grind[gB]
theorem kR:mB s i c (b:Int)=b:=by unfold mB;rw[if_neg (by omega)]
theorem QJ(h:aM s i c=true):ao s i c=sk s i+1:=by unfold ao;rw[if_pos (by unfold aM at h;simpa using h)]
theorem yL(h:¬aM s i c=true):ao s i c=sk s i:=by grind[ao,aM]
end
theorem KJ(rb B:Nat)(s:ByteArray)(i:Nat)(L:List Nd)(f:fP)(b:Nat)(aI up:Int)(w0 w:World)(h:RW w0 w rb B s i L f (b:Int) aI)(hs:s.size<=1073741824):
 Cw 52 #[Pq rb,Iq up] w fun e w'=>e=Rw (.tuple #[])/\∃i',RW w0 w' rb B s i' L f (b:Int) aI:=by
 have MU:Hid (∀(c i:Nat) (w:World),c<256->RW w0 w rb B s i L f (b:Int) aI->Cw 53 #[Pq rb,.int .u8 (c:Int)] w fun e w'=>e=Rw (.tuple #[])/\RW w0 w' rb B s (mI s i c b) L f (b:Int) aI):=fun c i w hc h=>by have:=fg c hc h hs;grind[kR]
 have GO:Hid (∀(c i:Nat) (w:World),c<256->RW w0 w rb B s i L f (b:Int) aI->Cw 93 #[Pq rb,.int .u8 (c:Int)] w fun e w'=>e=Rw (.bool false)/\RW w0 w' rb B s (mI s i c b) L f (b:Int) aI):=fun c i w hc h=>by have:=sU c hc h hs;grind[Cj]
 have yc:Hid (Cw 53 #[Pq rb,.int .u8 91] w fun e w'=>e=Rw (.tuple #[])/\RW w0 w' rb B s (mI s i 91 b) L f (b:Int) aI):=MU 91 i w (by omega) h;go_enter func52,ntmps52;go_wp2_with fail;refine am yc ?_;rintro e w1 ⟨rfl,h1⟩;have Nc:Hid (Cw 93 #[Pq rb,.int .u8 93] w1 fun e w'=>e=Rw (.bool false)/\RW w0 w' rb B s (mI s (mI s i 91 b) 93 b) L f (b:Int) aI):=GO 93 _ w1 (by omega) h1;go_wp2_with fail;refine am Nc ?_;rintro e w2 ⟨rfl,h2⟩;have H2:=qH<|h2;have YD:Hid (Cw 53 #[Pq rb,.int .u8 93] w2 fun e w'=>e=Rw (.tuple #[])/\RW w0 w' rb B s (mI s (mI s (mI s i 91 b) 93 b) 93 b) L f (b:Int) aI):=MU 93 _ w2 (by omega) h2;go_wp2_with fail;go_loopw[4] (fun mv wr=>mv=.bool true/\wr=w2) (fun _ _=>0);case atStart=>grind
 case round=>obtain⟨rfl,rfl⟩:=hrel;have c3:=H2.c3;go_wp2_with fail;refine am YD ?_;rintro e w3 ⟨rfl,h3⟩;have H3:=qH<|h3;go_wp2;go_end0;grind
theorem O8(rb B:Nat)(s:ByteArray)(f:Nat)(hN:D9 rb B s f)(hs:s.size<=1073741824)(up:Nat)(af:Nat)(st:PS)(w0 w:World)(h:RW w0 w rb B s st.i st.L st.er (-1) (af:Int))(q_:up<st.L.length)(hd:af<=st.i)(hf:s.size<f+st.i):
 Cw 52 #[Pq rb,Iq (up:Int)] w fun e w'=>e=Rw (.tuple #[])/\gh w0 w' rb B s (af:Int) st (pU s (cC s f (up:Int) af) st):=by
 by_cases hq:aM s st.i 91=true
 ·have yc:Hid (Cw 53 #[Pq rb,.int .u8 91] w fun e w'=>e=Rw (.tuple #[])/\RW w0 w' rb B s (ao s st.i 91) st.L st.er (-1) (af:Int)):=by have:=fg 91 (by omega) h hs;rw[zC,if_pos hq,sD]at this;exact this
  have nt:st.i<ao s st.i 91:=by rw[QJ hq];have:=dx s st.i;omega
  have HK:Hid (pU s (cC s f (up:Int) af) st=if aM s (ao s st.i 91) 93 then .ok {st with i:=ao s (ao s st.i 91) 93}else dH s (cC s f (up:Int) af) (s.size+1) {st with i:=sk s (ao s st.i 91)}):=by show _=_;unfold pU cz;rw[if_pos hq]
  obtain⟨R,hR⟩:=aj (pU s (cC s f (up:Int) af) st);rw[hR]at HK⊢;have HN:=qH<|hN;obtain⟨i2,J9⟩:=aj (ao s st.i 91);rw[J9]at yc nt HK;go_enter func52,ntmps52;go_wp2_with fail;refine am yc ?_;rintro e w1 ⟨rfl,h1⟩;have Nc:Hid (Cw 93 #[Pq rb,.int .u8 93] w1 fun e w'=>e=Rw (.bool (aM s i2 93))/\RW w0 w' rb B s (ao s i2 93) st.L st.er (-1) (af:Int)):=by have:=sU 93 (by omega) h1 hs;rw[QI,sD]at this;exact this
  have zbU:=bS s i2 93;by_cases wQ:aM s i2 93=true
  ·have eZ:Hid (R=.ok {st with i:=ao s i2 93}):=by show _=_;rw[HK.out,if_pos wQ]
   rw[wQ]at Nc;go_wp2_with fail;refine am Nc ?_;rintro e w2 ⟨rfl,h2⟩;have H2:=qH<|h2;go_wp2;try simp only[Exit.inBlock,Exit.then]
   refine bodyPost_ret (results_none rfl _ _ _) rfl ?_;refine⟨rfl,?_⟩;show gh _ _ _ _ _ _ _ _;rw[eZ.out];exact⟨H2,by show st.i<ao s i2 93;omega,ai _⟩
  ·have Z1:=yL wQ;have Ng:Hid (dH s (cC s f (up:Int) af) (s.size+1) ⟨sk s i2,st.L,st.er⟩=R):=by show _=_;rw[HK.out,if_neg wQ]
   rw[show aM s i2 93=false by simpa using wQ,Z1]at Nc;rw[Z1]at zbU;go_wp2_with fail;refine am Nc ?_;rintro e w2 ⟨rfl,h2⟩;have H2:=qH<|h2;have uM:=h2.il;go_wp2_with fail;go_loopw[4] (fun mv wr=>∃(m:Bool) (i:Nat) (L:List Nd) (g:fP) (bad:Int),mv=.bool m/\i<=s.size/\(bad=-1->st.i<i/\st.L.length<=L.length)/\Hid (KI s (cC s f (up:Int) af) R m i L g bad)/\Hid (RW w0 wr rb B s i L g bad (af:Int))) (fun mv wr=>if KU mv then s.size+1-rdI wr rb else 0);case atStart=>exact⟨true,sk s i2,st.L,st.er,-1,rfl,uM,fun _=>⟨by omega,ai _⟩,.inl ⟨rfl,rfl,s.size+1,by omega,Ng⟩,H2⟩
   case round=>
    obtain⟨m,i,L,g,bad,rfl,Gk,hLL,HI,HS⟩:=hrel;have c3:=HS.c3;have Uu:=qH<|HS.rdI;rcases HI.out with⟨rfl,rfl,fu,hfu,hkf⟩|⟨rfl,rfl,hen⟩|⟨b,rfl,rfl,hre⟩;·obtain⟨fu,rfl⟩:∃q,fu=q+1:=⟨fu-1,by omega⟩;obtain⟨U7,hLs⟩:=hLL rfl;have CN:=qH<|HN (up:Int) af ⟨i,L,g⟩ w0 wr HS (.inr ⟨by omega,by grind⟩) (by grind) (by grind);have Ng:=qH<|hkf;cases hp:cC s f (up:Int) af ⟨i,L,g⟩with
     |error b=>
      have eZ:Hid (R=.error b):=by show _=_;rw[<-Ng.out];exact GN hp
      rw[hp]at CN;go_wp2_with fail;refine am CN ?_;rintro e w3 ⟨rfl,i3,L3,g3,h3⟩;have _k:Hid (Cw 93 #[Pq rb,.int .u8 44] w3 fun e w'=>e=Rw (.bool false)/\RW w0 w' rb B s (mI s i3 44 b) L3 g3 (b:Int) (af:Int)):=by have:=sU 44 (by omega) h3 hs;rw[Cj]at this;exact this
      go_wp2_with fail;refine am _k ?_;rintro e w4 ⟨rfl,h4⟩;have H4:=qH<|h4;go_wp2_with fail;go_roundw;case rel=>exact⟨false,_,L3,g3,(b:Int),rfl,H4.il,fun e=>by omega,.inr (.inr ⟨b,rfl,rfl,eZ⟩),H4⟩
      case measure=>rw[Uu.out];show 0<s.size+1-i;omega
     |ok dE=>
      rw[hp]at CN;have HP:=qH<|hp;go_wp2_with fail;refine am CN ?_;rintro e w3 ⟨rfl,h3,p3,l3⟩;have CJ:i<dE.i:=p3;have BE:L.length<=dE.L.length:=l3;have _k:Hid (Cw 93 #[Pq rb,.int .u8 44] w3 fun e w'=>e=Rw (.bool (aM s dE.i 44))/\RW w0 w' rb B s (ao s dE.i 44) dE.L dE.er (-1) (af:Int)):=by have:=sU 44 (by omega) h3 hs;rw[QI,sD]at this;exact this
      have mw:=bS s dE.i 44;go_wp2_with fail;refine am _k ?_;rintro e w4 ⟨rfl,h4⟩;have H4:=qH<|h4;have HR4:=qH<|h4.rdI;have Xx:=h4.il;by_cases hm:aM s dE.i 44=true
      ·have km:Hid (dH s (cC s f (up:Int) af) fu ⟨ao s dE.i 44,dE.L,dE.er⟩=R):=by show _=_;rw[<-Ng.out];exact(Dc HP hm).symm
       rw[hm];go_wp2_with fail;go_roundw;case rel=>exact⟨true,ao s dE.i 44,dE.L,dE.er,-1,rfl,Xx,fun _=>⟨by omega,by omega⟩,.inl ⟨rfl,rfl,fu,by omega,km⟩,H4⟩
       case measure=>rw[Uu.out,HR4.out];show s.size+1-ao s dE.i 44<s.size+1-i;omega
      ·have Z1:=yL hm;have km:Hid (Cd s ⟨ao s dE.i 44,dE.L,dE.er⟩=R):=by show _=_;rw[<-Ng.out,Db HP.out hm,Z1];exact N9 s dE
       rw[show aM s dE.i 44=false by simpa using hm];go_wp2_with fail;go_roundw;case rel=>exact⟨false,ao s dE.i 44,dE.L,dE.er,-1,rfl,Xx,fun _=>⟨by omega,by omega⟩,.inr (.inl ⟨rfl,rfl,km⟩),H4⟩
       case measure=>rw[Uu.out];show 0<s.size+1-i;omega
    ·obtain⟨U7,hLs⟩:=hLL rfl;have HEN:=qH<|hen;have ye:Hid (Cw 53 #[Pq rb,.int .u8 93] wr fun e w'=>e=Rw (.tuple #[])/\RW w0 w' rb B s (ao s i 93) L g (if aM s i 93 then-1 else(sk s i:Int)) (af:Int)):=by have:=fg 93 (by omega) HS hs;rw[zC,sD]at this;exact this
     have mw:=bS s i 93;go_wp2_with fail;refine am ye ?_;rintro e w3 ⟨rfl,h3⟩;have H3:=qH<|h3;clear h3 ye c3;go_wp2;go_end0;refine⟨rfl,?_⟩;show gh _ _ _ _ _ _ _ _;rw[<-HEN.out];unfold Cd cz;have hh:=H3.out;by_cases hm:aM s i 93=true;·rw[if_pos hm]at hh;simp only[hm,if_true];exact⟨hh,by grind,hLs⟩
     ·rw[if_neg hm]at hh;simp only[hm];exact⟨_,_,_,hh⟩
    ·have eZ:=qH<|hre;have ZB:decide ((b:Int)<0)=false:=decide_eq_false (by omega);have ye:Hid (Cw 53 #[Pq rb,.int .u8 93] wr fun e w'=>e=Rw (.tuple #[])/\RW w0 w' rb B s (mI s i 93 b) L g (b:Int) (af:Int)):=by have:=fg 93 (by omega) HS hs;rw[kR]at this;exact this
     clear hre HI hLL;go_wp2_with fail;refine am ye ?_;rintro e w3 ⟨rfl,h3⟩;have H3:=qH<|h3;clear h3 ye c3;go_wp2;go_end0;refine⟨rfl,?_⟩;show gh _ _ _ _ _ _ _ _;rw[eZ.out];exact⟨_,_,_,H3⟩
 ·have hR:pU s (cC s f (up:Int) af) st=.error (sk s st.i):=by unfold pU cz;rw[if_neg hq]
  have HR:=qH<|hR;have yc:Hid (Cw 53 #[Pq rb,.int .u8 91] w fun e w'=>e=Rw (.tuple #[])/\RW w0 w' rb B s (ao s st.i 91) st.L st.er (sk s st.i:Int) (af:Int)):=by have:=fg 91 (by omega) h hs;rw[zC,if_neg hq,sD]at this;exact this
  have ZB:decide ((sk s st.i:Int)<0)=false:=decide_eq_false (by omega);rw[hR];clear hN hR h;go_enter func52,ntmps52;go_wp2_with fail;refine am yc ?_;rintro e w1 ⟨rfl,h1⟩;have Nc:Hid (Cw 93 #[Pq rb,.int .u8 93] w1 fun e w'=>e=Rw (.bool false)/\RW w0 w' rb B s (mI s (ao s st.i 91) 93 (sk s st.i:Int)) st.L st.er (sk s st.i:Int) (af:Int)):=by have:=sU 93 (by omega) h1 hs;rw[Cj]at this;exact this
  clear h1 yc;go_wp2_with fail;refine am Nc ?_;rintro e w2 ⟨rfl,h2⟩;have H2:=qH<|h2;have YD:Hid (Cw 53 #[Pq rb,.int .u8 93] w2 fun e w'=>e=Rw (.tuple #[])/\RW w0 w' rb B s (mI s (mI s (ao s st.i 91) 93 (sk s st.i:Int)) 93 (sk s st.i:Int)) st.L st.er (sk s st.i:Int) (af:Int)):=by have:=fg 93 (by omega) h2 hs;rw[kR]at this;exact this
  clear h2 Nc;go_wp2_with fail;go_loopw[4] (fun mv wr=>mv=.bool true/\wr=w2) (fun _ _=>0);case atStart=>grind
  case round=>obtain⟨rfl,rfl⟩:=hrel;have c3:=H2.c3;go_wp2_with fail;refine am YD ?_;rintro e w3 ⟨rfl,h3⟩;have H3:=qH<|h3;clear h3 YD c3;go_wp2;go_end0;exact⟨rfl,_,_,_,H3⟩
theorem ua(rb B:Nat)(s:ByteArray)(i:Nat)(L:List Nd)(f:fP)(b:Nat)(aI:Int)(w0 w:World)(h:RW w0 w rb B s i L f (b:Int) aI)(hs:s.size<=1073741824):
 Cw 54 #[Pq rb] w fun e w'=>e=Rw (.string ByteArray.empty)/\∃p,RW w0 w' rb B s p L f (b:Int) aI:=by
 have MU:Hid (Cw 53 #[Pq rb,.int .u8 34] w fun e w'=>e=Rw (.tuple #[])/\RW w0 w' rb B s (mI s i 34 b) L f (b:Int) aI):=by have:=fg 34 (by omega) h hs;rw[kR]at this;exact this
 have ZB:decide ((b:Int)<0)=false:=decide_eq_false (by omega);clear h;go_enter func54,ntmps54;go_wp2_with fail;refine am MU ?_;rintro e w1 ⟨rfl,h1⟩;have H1:=qH<|h1;clear h1 MU;go_wp2_with fail;go_loopw[3] (fun v wr=>wr=w1) (fun _ _=>0);case atStart=>exact rfl
 case round=>obtain rfl:=hrel;have c3:=H1.c3;go_wp2;go_ret;exact⟨rfl,_,H1⟩
theorem EX{s}{i p}{t}(hi:i<=s.size)(h:ee s i=.ok (p,t)):i<=p/\p<=s.size:=by
 unfold ee at h;split at h;·have g:=Aa _ _ _ _ _ (dP (by omega) hi) h;grind[bS]
 grind
theorem Hf{rb B:Nat}{s:ByteArray}{i:Nat}{L:List Nd}{f:fP}{aI:Int}{w0 w:World}(h:RW w0 w rb B s i L f (-1) aI)(hs:s.size<=1073741824):
 Cw 54 #[Pq rb] w fun e w'=>match ee s i with
  |.ok (p,t)=>e=Rw (.string ⟨t.toArray⟩)/\RW w0 w' rb B s p L f (-1) aI
  |.error b=>e=Rw (.string ByteArray.empty)/\∃p,RW w0 w' rb B s p L f (b:Int) aI:=by
 obtain⟨nv,AV,KV,er,at_,h1,h2,h3⟩:=h.mem;refine(Dt rb s i nv (-1) er at_ aI w h1 hs h.il (by omega)).mono ?_;rintro e w' ⟨g,hq⟩;have MW:=h.fr.trans (Fr.grown g h.le);have hrd:=h3.up (Up.grown g h.rbB);have hle:=aT h.le g.size;cases hR:ee s i with
 |error b=>rw[hR]at hq;obtain⟨rfl,p,hp,r⟩:=hq;exact⟨rfl,p,hp,fun e=>by omega,h.kl,h.rbB,hle,MW,nv,AV,KV,er,at_,r,fun e=>by omega,hrd⟩
 |ok q=>obtain⟨p,t⟩:=q;rw[hR]at hq;obtain⟨rfl,r⟩:=hq;have hb:=EX h.il hR;exact⟨rfl,hb.2,fun e=>aT (h.ll e) hb.1,h.kl,h.rbB,hle,MW,nv,AV,KV,er,at_,r,fun e=>(h2 e).on hb.1,hrd⟩
theorem j0  L   k   x  :(aB L k x).length=L.length:=by unfold aB;simp
theorem ug{L}{k}(hk:k<L.length)  x   j  :(ae (aB L k x) j).kids=(ae L j).kids:=by grind[aB,aY,aR]
theorem RW.text{W0 W}{rb B i}{s}{L}{f}{bad aI}(h:RW W0 W rb B s i L f bad aI){k}(hk:k<L.length):
 ∃g al,W.cell? (az rb 2)=some (Sq g L.length al)/\(∃u,W.cell? (az g (k*5+2))=some u)/\W.frozen? (az g (k*5+2))=false/\L.length<=al/\g≠rb/\∀x,RW W0 (W.setCell (az g (k*5+2)) (.string ⟨x.toArray⟩)) rb B s i (aB L k x) f bad aI:=by obtain⟨nv,AV,KV,er,at_,h1,h2,h3⟩:=h.mem;obtain⟨g,al,rfl,Oh,iU,hc,_⟩:=h3.nr.form (by omega);have hrb:=h.rbB;refine⟨g,al,h1.c2,⟨_,h3.nr.cell hk rfl⟩,h3.nr.frozen _,hc,by omega,fun x=>?_⟩;have UU:=bP W g (k*5+2) (.string ⟨x.toArray⟩);refine⟨h.il,fun e=>by rw[j0];exact h.ll e,fun j=>by rw[ug hk,j0];exact h.kl j,h.rbB,by simpa[World.setCell]using h.le,h.fr.trans (Fr.own UU h.le (fun q e=>by grind)),_,AV,KV,er,at_,RS.other h1 (by omega) _,h2,h3.setText hk x⟩
