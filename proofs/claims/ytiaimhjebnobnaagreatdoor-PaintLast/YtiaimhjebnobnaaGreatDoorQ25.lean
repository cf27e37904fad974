import Derived.Test.YtiaimhjebnobnaaGreatDoorQ21
import Derived.Test.YtiaimhjebnobnaaGreatDoorQ20
import Derived.Test.YtiaimhjebnobnaaGreatDoorQ09
set_option linter.all false
set_option maxRecDepth 100000
set_option maxHeartbeats 16000000
namespace Go.Proofs.YtiaimhjebnobnaaGreatDoor
open Go.RowKit Go.Proofs.Tryz
def gJ(E:Nat->Addr):gW->Value
 |none=>.nilIface
 |some (c,p)=>dw (p:Int) (bH (E c))
structure VZ(W:World)(rb ab B:Nat)(E:Nat->Addr):Prop where
 tab:NJ W ab
 lo:9<=rb
 rbB:rb<B
 abB:ab<B
 ne:ab≠rb
 le:B<=W.heap.size
 g2:W.cell? (az 7 0)=some (bH (E 2))
 g3:W.cell? (az 1 0)=some (bH (E 3))
 g4:W.cell? (az 2 0)=some (bH (E 4))
 g5:W.cell? (az 3 0)=some (bH (E 5))
 g6:W.cell? (az 4 0)=some (bH (E 6))
 g7:W.cell? (az 5 0)=some (bH (E 7))
theorem VZ.fr{W W'}{rb ab B}{E}(h:VZ W rb ab B E)(f:Fr B rb W W'):VZ W' rb ab B E:=by have lo:=h.lo;have rB:=h.rbB;exact⟨h.tab.fr f h.abB h.ne,h.lo,h.rbB,h.abB,h.ne,aO h.le f.size,f.cell h.g2 (by grind) (by grind),f.cell h.g3 (by grind) (by grind),f.cell h.g4 (by grind) (by grind),f.cell h.g5 (by grind) (by grind),f.cell h.g6 (by grind) (by grind),f.cell h.g7 (by grind) (by grind)⟩
def kY(er:gW)(eo:Option Nat)(p:Nat):gW:=match eo with
 |none=>er
 |some c=>jn er c p
def _U(E:Nat->Addr):Option Nat->Value
 |none=>.nilIface
 |some c=>bH (E c)
theorem keep_all  rb   s   i   av nv   E   er   eo  (p:Nat)  w  (h:PR w rb s i av nv (gJ E er)):
 Cw 134 #[Pq rb,_U E eo,Iq (p:Int)] w fun e w'=>e=Rw (.tuple #[])/\PR w' rb s i av nv (gJ E (kY er eo p))/\w.grownBy w' (some rb):=by
 cases eo with
 |none=>exact PQ rb s i av nv _ p w h
 |some c=>
  cases er with
  |none=>exact GK rb s i av nv (E c) p w h
  |some f=>obtain⟨c2,p2⟩:=f;exact GL rb s i av nv (E c) (E c2) p p2 w h
structure F2(r b:Nat)(W W':World):Prop where
 os:W'.os=W.os
 tape:W'.tape=W.tape
 output:W'.output=W.output
 size:W.heap.size<=W'.heap.size
 block:∀k,k<W.heap.size->k≠r->k≠b->W'.heap[k]?=W.heap[k]?
theorem F2.trans{r b}{W W1 W2}(h:F2 r b W W1)(k:F2 r b W1 W2):F2 r b W W2:=
 ⟨k.os.trans h.os,k.tape.trans h.tape,k.output.trans h.output,aO h.size k.size,fun q h1 h2 h3=>(k.block q (zz008 h1 h.size) h2 h3).trans (h.block q h1 h2 h3)⟩
theorem F2.left{r b}{W W'}(h:W.grownBy W' (some r)):F2 r b W W':=⟨h.os,h.tape,h.output,h.size,fun k h1 h2 h3=>h.block k h1 (by grind)⟩
theorem F2.right{r b}{W W'}(h:W.grownBy W' (some b)):F2 r b W W':=⟨h.os,h.tape,h.output,h.size,fun k h1 h2 h3=>h.block k h1 (by grind)⟩
theorem F2.below{r b}{W W'}(h:Bt W W'):F2 r b W W':=⟨h.os,h.tape,h.output,h.size,fun k h1 h2 h3=>h.block k h1⟩
theorem F2.fr{r b B}{W W'}(h:F2 r b W W')(hB:B<=W.heap.size)(hb:B<=b):Fr B r W W':=⟨h.os,h.tape,h.output,h.size,fun k h1 h2=>h.block k (by omega) h2 (by omega)⟩
def tr(name:ByteArray)(kind:Nat)(ws:List ByteArray):Option Nat:=match fx name kind 12 0 with
 |none=>some 7
 |some _=>if 0<=aR ws name 0 then some 5 else none
def zJ(name:ByteArray)(kind:Nat):Nat:=(fx name kind 12 0).getD 0
def A3(L:List Nd)(k:Nat)(n:Int):Option Nat:=if o6 k<n then some 6 else if xV L k n=true then some 5 else none
def Qu(L:List Nd)(j:Nat)(er:gW)(at_:Nat)(t:ByteArray)(e j2 ix:Nat)(n:Int):Option Nat->Except Nat (Nat×gW×List Nd×ByteArray)
 |some c=>.ok (e,kY er (some c) at_,L,t)
 |none=>.ok (e,kY er (A3 L ix n) j2,setL L j ix n,t)
def tK(s:ByteArray)(kind:Nat)(ws:List ByteArray)(L:List Nd)(j:Nat)(er:gW)(at_:Nat)(t:ByteArray)(i2:Nat):Except Nat (Nat×gW×List Nd×ByteArray):=
 if lG s (sk s i2) (run aW s (sk s i2))=true then .error (sk s i2)else Qu L j er at_ t (run aW s (sk s i2)) (sk s i2) (zJ t kind) (dv s (sk s i2) (run aW s (sk s i2)-sk s i2)) (tr t kind ws)
def fN(s:ByteArray)(kind:Nat)(ws:List ByteArray)(L:List Nd)(j i:Nat)(er:gW):Except Nat (Nat×gW×List Nd×ByteArray):=
 if run aB s (sk s i)=sk s i then .error (sk s i)
 else if aT s (run aB s (sk s i)) 61=true then tK s kind ws L j er (sk s i) (s.extract (sk s i) (run aB s (sk s i))) (aA s (run aB s (sk s i)) 61)
 else .error (sk s (run aB s (sk s i)))
def NF(w w':World)(e:Ending)(rb B bl:Nat)(E:Nat->Addr)(s:ByteArray)(av nv:Value)(KV:Nat->Value)(r:Except Nat (Nat×gW×List Nd×ByteArray)):Prop:=
 F2 rb bl w w'/\match r with
 |.error b=>e=.panicked [{v:=dw (b:Int) (bH (E 2)),recovered:=false}]
 |.ok (i,er,L,name)=>e=Rw (.string name)/\PR w' rb s i av nv (gJ E er)/\PN w' B nv L KV
theorem EG  name   kind  :∀f j k,fx name kind f j=some k->j<=k/\k<j+f
 |0,j,k,h=>by cases h
 |f+1,j,k,h=>by
  unfold fx at h;split at h;·grind
  ·have:=EG name kind f (j+1) k h;omega
theorem VA  L   k   n   E  :Hv L k n (E 6) (E 5)=_U E (A3 L k n):=by
 unfold Hv A3;split;·rfl
 ·split<;>rfl
theorem NQ{t}{kind c}{ws}(E:Nat->Addr)(h:tr t kind ws=some c):uC t kind ws (E 7) (E 5)=.tuple #[wW,bH (E c)]:=by grind[tr,uC,fx,aR]
theorem NP{t}{kind}{ws}(E:Nat->Addr)(h:tr t kind ws=none):zJ t kind<12/\uC t kind ws (E 7) (E 5)=.tuple #[wa (zJ t kind),.nilIface]:=by
 unfold tr at h;unfold uC zJ;cases hs:fx t kind 12 0 with
 |none=>grind
 |some q=>
  rw[hs]at h;by_cases hf:0<=aR ws t 0;·grind
  ·have:=EG t kind 12 0 q hs;grind
theorem uz.f2{W W'}{v}{ws}{r b}(h:uz W v ws)(f:F2 r b W W')(hr:∀q,v.ownBlock=some q->q≠r/\q≠b):uz W' v ws:=by
 obtain⟨p,c,rfl,rfl|⟨blk,rfl,h1,h2⟩⟩:=h;·exact⟨p,c,rfl,.inl rfl⟩
 ·have:=hr blk rfl;exact⟨_,c,rfl,.inr ⟨blk,rfl,zz008 h1 f.size,fun j hj=>(bU (f.block blk h1 this.1 this.2)).trans (h2 j hj)⟩⟩
theorem readAttribute_any(rb ab B:Nat)(E:Nat->Addr)(s:ByteArray)(i:Nat)(er:gW)(L:List Nd)(KV:Nat->Value)(bl cap j kind:Nat)(v:Value)(ws:List ByteArray)(w:World)(env:VZ w rb ab B E)
 (h:PR w rb s i (Sq ab 12 12) (Sq bl L.length cap) (gJ E er)) (hn:PN w B (Sq bl L.length cap) L KV) (hL:L.length<=100000) (hj:j<L.length) (hkd:(ae L j).kind=kind) (SI:kind<7)
 (hv:uz w v ws) (hvr:∀q,v.ownBlock=some q->q≠rb/\q≠bl) (hwn:ws.length<=1099511627776) (hs:s.size<=1073741824) (hi:i<=s.size):
 Cw 179 #[Pq rb,.pointer (some (az bl (j*16))),v] w fun e w'=>NF w w' e rb B bl E s (Sq ab 12 12) (Sq bl L.length cap) KV (fN s kind ws L j i er):=by
 obtain⟨av,Sv⟩:=ag (Sq ab 12 12);obtain⟨nv,mN⟩:=ag (Sq bl L.length cap);have ry:=env.rbB;have pE:=env.lo;have CW:=qu rb s i (Sq ab 12 12) (Sq bl L.length cap) (gJ E er) w h (by omega) hi;obtain⟨at_,b9⟩:=ag (sk s i);have Ue:at_<=s.size:=by rw[<-b9];exact fw s i hi
 obtain⟨k,hk⟩:=ag (run aB s at_);have dj:k<=s.size:=by rw[<-hk];exact jN _ _ _ Ue
 have Fw:at_<=k:=by rw[<-hk];exact jM _ _ _
 obtain⟨t,ht⟩:=ag (s.extract at_ k);rw[b9,hk,ht]at CW;have HP:Hid (fN s kind ws L j i er=if k=at_ then .error at_ else if aT s k 61=true then tK s kind ws L j er at_ t (aA s k 61)else .error (sk s k)):=by show _=_;unfold fN;rw[b9,hk,ht]
 have Wb:=qH<|CW;have HEV:=qH<|env;have HN:=qH<|hn;have HX:=qH<|hv;have f_:t.size=k-at_:=by rw[<-ht];simp;omega
 have XW:=qH<|hkd;obtain⟨pv,cv,hpv⟩:∃p c,v=.slice p ws.length c:=by obtain⟨p,c,e,_⟩:=hv;grind
 subst hpv;by_cases I4:k=at_
 ·have zz:Hid (fN s kind ws L j i er=.error at_):=by show _=_;rw[HP.out,if_pos I4]
  have et:t.toList.isEmpty=true:=by
   rw[ByteArray.toList_eq];have:t.data.size=0:=by show t.size=0;omega
   simp[XL this]
  have HT:Hid (∀W,W.cell? (az 7 0)=some (bH (E 2))->Cw 67 #[Iq (at_:Int)] W fun e w'=>e=Rw (.iface 132 (.agg #[Iq (at_:Int),.iface 362 (.pointer (some (E 2)))]))/\w'=W):=fun W he=>gM _ W (E 2) he;go_enter func179,ntmps179;go_wp2_with fail;refine Wb.mono ?_;rintro e w1 ⟨rfl,h1,g1⟩;have HG1:=qH<|g1;have HE1:=qH<|HEV.fr (Fr.grown g1 HEV.le);go_wp2_with fail;refine(HT _ HE1.g2).mono ?_;rintro e w2 ⟨rfl,hw⟩;obtain rfl:=hw.symm;go_wp2;refine⟨rfl,?_⟩;rw[zz.out];exact⟨F2.left HG1,rfl⟩
 ·have xt:Hid (fN s kind ws L j i er=if aT s k 61=true then tK s kind ws L j er at_ t (aA s k 61)else .error (sk s k)):=by show _=_;rw[HP.out,if_neg I4]
  have et:t.toList.isEmpty=false:=by
   rw[ByteArray.toList_eq];have:t.data.size≠0:=by show t.size≠0;omega
   cases hd:t.data.toList with
   |nil=>grind
   |cons a r=>rfl
  go_enter func179,ntmps179;go_wp2_with fail;refine Wb.mono ?_;rintro e w1 ⟨rfl,h1,g1⟩;have HG1:=qH<|g1;have HE1:=qH<|HEV.fr (Fr.grown g1 HEV.le);have HN1:=qH<|HN.up (Up.grown g1 ry);have HR1:=qH<|h1;have HX1:=qH<|HX.f2 (F2.left (b:=bl) g1) hvr;have ck:w1.cell? (az bl (j*16))=some (Iq (kind:Int)):=by have:=HN1.nr.cells bl rfl j hj 0 _ (Vm _ _);rw[XW.out]at this;exact this
  have CA:=qH<|attributeOf_any rb ab s k _ _ kind t _ ws (E 7) (E 5) w1 h1 HE1.tab SI HX1 hwn HE1.g7 HE1.g5;go_wp2_with fail;refine CA.mono ?_;rintro e w2 ⟨rfl,hb2⟩;have HF2:Hid (F2 rb bl w w2):=(F2.left HG1).trans (F2.below hb2);have HE2:=qH<|HE1.fr (Fr.below hb2 HE1.le);have HN2:=qH<|HN1.up (Up.below hb2);have HR2:=qH<|HR1.below hb2;cases hao:tr t kind ws with
  |some c=>
   have HAO:=qH<|hao;have HAV:Hid (uC t kind ws (E 7) (E 5)=.tuple #[.agg #[.string ⟨#[]⟩,.int .u64 0,Iq 0,Iq 0,.bool false,.nilFunc],.iface 362 (.pointer (some (E c)))]):=NQ E hao;rw[HAV.out];have Ns:Hid (Bt w2 (w2.alloc (.cells #[.string ⟨#[]⟩,.int .u64 0,Iq 0,Iq 0,.bool false,.nilFunc] 203))):=(aj _ _).alloc (ai _) _;have CK:Hid (Cw 134 #[Pq rb,.iface 362 (.pointer (some (E c))),Iq (at_:Int)] (w2.alloc (.cells #[.string ⟨#[]⟩,.int .u64 0,Iq 0,Iq 0,.bool false,.nilFunc] 203)) fun e w'=>e=Rw (.tuple #[])/\PR w' rb s k (Sq ab 12 12) (Sq bl L.length cap) (gJ E (kY er (some c) at_))/\(w2.alloc (.cells #[.string ⟨#[]⟩,.int .u64 0,Iq 0,Iq 0,.bool false,.nilFunc] 203)).grownBy w' (some rb)):=keep_all rb s k _ _ E er (some c) at_ _ (HR2.below Ns);go_wp2_with fail;refine CK.mono ?_;rintro e w4 ⟨rfl,h4,g4⟩;have HR4:=qH<|h4;have HF4:=qH<|HF2.trans ((F2.below Ns).trans (F2.left g4));have HE4:=qH<|(HE2.fr (Fr.below Ns HE2.le)).fr (Fr.grown g4 (aO HE2.le Ns.size));have HN4:=qH<|(HN2.up (Up.below Ns)).up (Up.grown g4 ry);by_cases hq:aT s k 61=true
   ·have pW:aA s k 61<=s.size:=eU (by omega) dj;have CX:Hid (Cw 140 #[Pq rb,.int .u8 61] w4 fun e w'=>e=Rw (.tuple #[])/\PR w' rb s (aA s k 61) (Sq ab 12 12) (Sq bl L.length cap) (gJ E (kY er (some c) at_))/\w4.grownBy w' (some rb)):=jB rb s k _ _ _ 61 w4 HR4 (by omega) dj (by omega) hq;have jm:Hid (fN s kind ws L j i er=tK s kind ws L j er at_ t (aA s k 61)):=by show _=_;rw[xt.out,if_pos hq]
    obtain⟨i2,O8⟩:=ag (aA s k 61);rw[O8]at CX jm pW;go_wp2_with fail;refine CX.mono ?_;rintro e w5 ⟨rfl,h5,g5⟩;have HF5:=qH<|HF4.trans (F2.left g5);have HE5:=qH<|HE4.fr (Fr.grown g5 HE4.le);have HN5:=qH<|HN4.up (Up.grown g5 ry);have tU:=qH<|h5;by_cases hb:run aW s (sk s i2)=sk s i2\/sk s i2+6<run aW s (sk s i2)\/(sk s i2+1<run aW s (sk s i2)/\dL s (sk s i2)=48)
    ·have CN:=qH<|readNumber_no rb s i2 _ _ _ (E 2) w5 tU (by omega) pW (by omega) HE5.g2 hb;have Nk:Hid (fN s kind ws L j i er=.error (sk s i2)):=by show _=_;rw[jm.out];unfold tK lG;rw[if_pos (decide_eq_true hb)]
     go_wp2_with fail;refine CN.mono ?_;rintro e w6 ⟨rfl,g6⟩;refine⟨rfl,?_⟩;rw[Nk.out];exact⟨HF5.trans (F2.left g6),rfl⟩
    ·have CN:=qH<|readNumber_yes rb s i2 _ _ _ w5 tU (by omega) pW hb;have Nk:Hid (fN s kind ws L j i er=Qu L j er at_ t (run aW s (sk s i2)) (sk s i2) (zJ t kind) (dv s (sk s i2) (run aW s (sk s i2)-sk s i2)) ((some c))):=by show _=_;rw[jm.out];unfold tK lG;rw[if_neg (by simpa using hb),HAO.out]
     obtain⟨n,hn⟩:=ag (dv s (sk s i2) (run aW s (sk s i2)-sk s i2));obtain⟨j2,IZ⟩:=ag (sk s i2);obtain⟨e2,Y3⟩:=ag (run aW s j2);rw[hn,IZ,Y3]at CN Nk;go_wp2_with fail;refine CN.mono ?_;rintro e w6 ⟨rfl,h6,g6⟩;have HF6:=qH<|HF5.trans (F2.left g6);have HN6:=qH<|HN5.up (Up.grown g6 ry);have Ij:=qH<|h6;go_wp2;go_ret;show NF _ _ _ _ _ _ _ _ _ _ _ _;rw[Nk.out];exact⟨HF6,rfl,Ij,HN6⟩
   ·have Zi:aT s k 61=false:=by simpa using hq
    have CX:Hid (Cw 140 #[Pq rb,.int .u8 61] w4 fun e w'=>e=.panicked [{v:=dw (sk s k:Int) (bH (E 2)),recovered:=false}]/\w4.grownBy w' (some rb)):=kO rb s k _ _ _ (E 2) 61 w4 HR4 (by omega) dj (by omega) Zi (by omega) HE4.g2;have jm:Hid (fN s kind ws L j i er=.error (sk s k)):=by show _=_;rw[xt.out,if_neg hq]
    go_wp2_with fail;refine CX.mono ?_;rintro e w5 ⟨rfl,g5⟩;refine⟨rfl,?_⟩;rw[jm.out];exact⟨HF4.trans (F2.left g5),rfl⟩
  |none=>
   have HAO:=qH<|hao;obtain⟨Dl,Sv⟩:=NP E hao;obtain⟨ix,hixe⟩:=ag (zJ t kind);have HIX:=qH<|hixe;rw[hixe]at Dl Sv;obtain⟨a0,a1,a2,a3,a4,g,hrow⟩:∃a0 a1 a2 a3 a4 g,wa ix=.agg #[.string a0,.int .u64 ((a1:Nat):Int),Iq a2,Iq a3,.bool a4,.func (.func g) #[] #[]]:=⟨_,_,_,_,_,_,rfl⟩;have HROW:=qH<|hrow;rw[hrow]at Sv;rw[Sv];have Ns:Hid (Bt w2 (w2.alloc (.cells #[.string a0,.int .u64 (a1:Int),Iq a2,Iq a3,.bool a4,.func (.func g) #[] #[]] 203))):=(aj _ _).alloc (ai _) _;have CK:Hid (Cw 134 #[Pq rb,.nilIface,Iq (at_:Int)] (w2.alloc (.cells #[.string a0,.int .u64 (a1:Int),Iq a2,Iq a3,.bool a4,.func (.func g) #[] #[]] 203)) fun e w'=>e=Rw (.tuple #[])/\PR w' rb s k (Sq ab 12 12) (Sq bl L.length cap) (gJ E (er))/\(w2.alloc (.cells #[.string a0,.int .u64 (a1:Int),Iq a2,Iq a3,.bool a4,.func (.func g) #[] #[]] 203)).grownBy w' (some rb)):=keep_all rb s k _ _ E er none at_ _ (HR2.below Ns);go_wp2_with fail;refine CK.mono ?_;rintro e w4 ⟨rfl,h4,g4⟩;have HR4:=qH<|h4;have HF4:=qH<|HF2.trans ((F2.below Ns).trans (F2.left g4));have HE4:=qH<|(HE2.fr (Fr.below Ns HE2.le)).fr (Fr.grown g4 (aO HE2.le Ns.size));have HN4:=qH<|(HN2.up (Up.below Ns)).up (Up.grown g4 ry);have HB4:=qH<|(g4.block _ (by simp) (by simp;have:=HR2.lt;omega)).trans (heap_alloc_new _ _);have zqJ:=HR2.lt;obtain⟨P3,hP3⟩:=ag w2.heap.size;rw[hP3]at HB4;rw[hP3];have zoR:P3≠rb:=by omega
   by_cases hq:aT s k 61=true
   ·have pW:aA s k 61<=s.size:=eU (by omega) dj;have CX:Hid (Cw 140 #[Pq rb,.int .u8 61] w4 fun e w'=>e=Rw (.tuple #[])/\PR w' rb s (aA s k 61) (Sq ab 12 12) (Sq bl L.length cap) (gJ E (er))/\w4.grownBy w' (some rb)):=jB rb s k _ _ _ 61 w4 HR4 (by omega) dj (by omega) hq;have jm:Hid (fN s kind ws L j i er=tK s kind ws L j er at_ t (aA s k 61)):=by show _=_;rw[xt.out,if_pos hq]
    obtain⟨i2,O8⟩:=ag (aA s k 61);rw[O8]at CX jm pW;go_wp2_with fail;refine CX.mono ?_;rintro e w5 ⟨rfl,h5,g5⟩;have HF5:=qH<|HF4.trans (F2.left g5);have HE5:=qH<|HE4.fr (Fr.grown g5 HE4.le);have HN5:=qH<|HN4.up (Up.grown g5 ry);have tU:=qH<|h5;have io:=qH<|(g5.block _ (aM.1 HB4).1 (by simp;omega)).trans HB4;by_cases hb:run aW s (sk s i2)=sk s i2\/sk s i2+6<run aW s (sk s i2)\/(sk s i2+1<run aW s (sk s i2)/\dL s (sk s i2)=48)
    ·have CN:=qH<|readNumber_no rb s i2 _ _ _ (E 2) w5 tU (by omega) pW (by omega) HE5.g2 hb;have Nk:Hid (fN s kind ws L j i er=.error (sk s i2)):=by show _=_;rw[jm.out];unfold tK lG;rw[if_pos (decide_eq_true hb)]
     go_wp2_with fail;refine CN.mono ?_;rintro e w6 ⟨rfl,g6⟩;refine⟨rfl,?_⟩;rw[Nk.out];exact⟨HF5.trans (F2.left g6),rfl⟩
    ·have CN:=qH<|readNumber_yes rb s i2 _ _ _ w5 tU (by omega) pW hb;have Nk:Hid (fN s kind ws L j i er=Qu L j er at_ t (run aW s (sk s i2)) (sk s i2) (zJ t kind) (dv s (sk s i2) (run aW s (sk s i2)-sk s i2)) (none)):=by show _=_;rw[jm.out];unfold tK lG;rw[if_neg (by simpa using hb),HAO.out]
     obtain⟨n,hn⟩:=ag (dv s (sk s i2) (run aW s (sk s i2)-sk s i2));obtain⟨j2,IZ⟩:=ag (sk s i2);obtain⟨e2,Y3⟩:=ag (run aW s j2);rw[hn,IZ,Y3]at CN Nk;go_wp2_with fail;refine CN.mono ?_;rintro e w6 ⟨rfl,h6,g6⟩;have HF6:=qH<|HF5.trans (F2.left g6);have HE6:=qH<|HE5.fr (Fr.grown g6 HE5.le);have HN6:=qH<|HN5.up (Up.grown g6 ry);have Ij:=qH<|h6;have kw:=qH<|(g6.block _ (aM.1 io).1 (by simp;omega)).trans io;have ri:=kw.out;have y0:w6.cell? (az P3 0)=some (.string a0):=by simp[World.cell?,ri]
     have y1:w6.cell? (az P3 1)=some (.int .u64 (a1:Int)):=by simp[World.cell?,ri]
     have y2:w6.cell? (az P3 2)=some (Iq a2):=by simp[World.cell?,ri]
     have y3:w6.cell? (az P3 3)=some (Iq a3):=by simp[World.cell?,ri]
     have y4:w6.cell? (az P3 4)=some (.bool a4):=by simp[World.cell?,ri]
     have y5:w6.cell? (az P3 5)=some (.func (.func g) #[] #[]):=by simp[World.cell?,ri]
     clear ri;have CS:Hid (Cw 210 #[Pq rb,.pointer (some (az bl (j*16))),.agg #[.string a0,.int .u64 (a1:Int),Iq a2,Iq a3,.bool a4,.func (.func g) #[] #[]],Iq n] w6 fun e w'=>w6.grownBy w' (some bl)/\e=Rw (_U E (A3 L ix n))/\PR w' rb s e2 (Sq ab 12 12) (Sq bl L.length cap) (gJ E (er))/\PN w' B (Sq bl L.length cap) (setL L j ix n) KV):=by have Lj:=VB rb B s e2 (Sq ab 12 12) (gJ E (er)) L KV bl cap j ix Dl n (E 6) (E 5) w6 Ij HN6 hL hj ry HE6.le (by omega) (by omega) (by omega) (by omega) HE6.g6 HE6.g5;rw[HROW.out]at Lj;exact Lj.mono fun e w' ⟨q1,q2,q3,q4,_⟩=>⟨q1,by rw[q2,VA],q3,q4⟩
     go_wp2_with fail;refine CS.mono ?_;rintro e w7 ⟨g7,rfl,h7,n7⟩;have HF7:=qH<|HF6.trans (F2.right g7);have HN7:=qH<|n7;have CK2:=qH<|keep_all rb s e2 _ _ E (er) (A3 L ix n) j2 w7 h7;clear g7 h7 n7 CS y0 y1 y2 y3 y4 y5;go_wp2_with fail;refine CK2.mono ?_;rintro e w8 ⟨rfl,h8,g8⟩;have HR8:=qH<|h8;have Fi:=qH<|HF7.trans (F2.left g8);have HN8:=qH<|HN7.up (Up.grown g8 ry);clear h8 g8 CK2;go_wp2;go_ret;show NF _ _ _ _ _ _ _ _ _ _ _ _;rw[Nk.out,HIX.out];exact⟨Fi,rfl,HR8,HN8⟩
   ·have Zi:aT s k 61=false:=by simpa using hq
    have CX:Hid (Cw 140 #[Pq rb,.int .u8 61] w4 fun e w'=>e=.panicked [{v:=dw (sk s k:Int) (bH (E 2)),recovered:=false}]/\w4.grownBy w' (some rb)):=kO rb s k _ _ _ (E 2) 61 w4 HR4 (by omega) dj (by omega) Zi (by omega) HE4.g2;have jm:Hid (fN s kind ws L j i er=.error (sk s k)):=by show _=_;rw[xt.out,if_neg hq]
    clear hq Zi xt;go_wp2_with fail;refine CX.mono ?_;rintro e w5 ⟨rfl,g5⟩;refine⟨rfl,?_⟩;rw[jm.out];exact⟨HF4.trans (F2.left g5),rfl⟩
def pd(s:ByteArray)(i:Nat)(er:gW)(L:List Nd):Except Nat (Nat×gW×List Nd):=if aT s i 125=true then .ok (aA s i 125,er,L)else .error (sk s i)
def eV(s:ByteArray)(kind j:Nat):Nat->Nat->gW->List Nd->List ByteArray->Except Nat (Nat×gW×List Nd)
 |0,i,_,_,_=>.error i
 |f+1,i,er,L,ws=>match fN s kind ws L j i er with
  |.error b=>.error b
  |.ok (i2,fd,L2,t)=>if aT s i2 59=true then eV s kind j f (aA s i2 59) fd L2 (ws++[t])else pd s (aA s i2 59) fd L2
theorem sS  L   j k   n  :(setL L j k n).length=L.length:=by grind[setL]
theorem Mf  L   j k q   n  :(ae (setL L j k n) q).kind=(ae L q).kind:=by grind[setL,bj,ae,aV]
theorem IK{s}{i c}(h:aT s i c=true):aA s i c=sk s i+1:=by grind[aT,aA]
theorem D'{s}{kind}{ws}{L}{j i}{er}{i2}{fd}{L2}{t}(hi:i<=s.size)(h:fN s kind ws L j i er=.ok (i2,fd,L2,t)):i<i2/\i2<=s.size/\L2.length=L.length/\∀q,(ae L2 q).kind=(ae L q).kind:=by
 unfold fN at h;have h1:=dX s i;have h2:=fw s i hi;have h3:=jM aB s (sk s i);have h4:=jN aB s (sk s i) h2;split at h;·cases h
 ·split at h
  ·rename_i hq;have h5:=IK hq;have h6:=dX s (run aB s (sk s i));have h7:=eU (s:=s) (i:=run aB s (sk s i)) (c:=61) (by omega) h4;unfold tK at h;have h8:=dX s (aA s (run aB s (sk s i)) 61);have h9:=fw s _ h7;have dI:=jM aW s (sk s (aA s (run aB s (sk s i)) 61));have h11:=jN aW s _ h9;split at h;·cases h
   ·unfold Qu at h;grind[sS,Mf]
  grind
theorem ug:(prog.info? 9).map (fun i=>(i.zero,i.size,i.bytes))=some (some (.string ⟨#[]⟩),1,16):=by kernel_rfl
theorem Q_{W}{B}{v}{ws}(h:W.ownsRow B 9 1 v ws.length (ws.map Value.string)):uz W v ws:=by
 rcases dK h with⟨rfl,h0⟩|⟨g,cap,rfl,h1,h2,_⟩;·have:=ni h0;subst this;exact⟨_,_,rfl,.inl rfl⟩
 ·refine⟨_,_,rfl,.inr ⟨g,rfl,h2,fun j hj=>?_⟩⟩;rw[bM,h.cellAt j (by omega)];simp[hj]
theorem own_f2{W W'}{B n size r b}{e}{v}{xs}(h:W.ownsRow B e size v n xs)(f:F2 r b W W')(hr:∀q,v.ownBlock=some q->q≠r/\q≠b):W'.ownsRow B e size v n xs:=by
 refine⟨h.1,?_⟩;rcases h.2 with h2|⟨g,cap,ik,rfl,b,c,d⟩;·grind
 ·have:=hr g rfl;refine .inr ⟨g,cap,ik,rfl,b,?_,d⟩;rw[f.block g (aM.1 c).1 this.1 this.2];exact c
structure F2'(N:Nat)(W W':World):Prop where
 os:W'.os=W.os
 tape:W'.tape=W.tape
 output:W'.output=W.output
 size:W.heap.size<=W'.heap.size
 block:∀k,k<N->k<W.heap.size->W'.heap[k]?=W.heap[k]?
theorem F2.plus{r b}{W0 W W'}(h:F2 r b W0 W)(k:F2' W0.heap.size W W'):F2 r b W0 W':=
 ⟨k.os.trans h.os,k.tape.trans h.tape,k.output.trans h.output,aO h.size k.size,fun q h1 h2 h3=>(k.block q h1 (zz008 h1 h.size)).trans (h.block q h1 h2 h3)⟩
theorem F2.other{W0 W W':World}{o}(h:W.grownBy W' o)(ho:∀q,o=some q->W0.heap.size<=q):F2' W0.heap.size W W':=⟨h.os,h.tape,h.output,h.size,fun k h1 h2=>h.block k h2 (fun e=>by grind)⟩
theorem PN.beside{W W'}{B}{nv}{L}{KV}{v}{N m sz}{xs}(h:PN W B nv L KV)(hv:W.ownsRow N 9 sz v m xs)(hg:W.grownBy W' v.ownBlock):PN W' B nv L KV:=by refine⟨?_,h.len⟩;obtain⟨ys,hx⟩:=h.nr.row;refine⟨⟨ys,hx.kept hg (gm hx hv (by decide))⟩,fun g oW j hj t u BK=>?_,h.nr.len,fun j hj=>(h.nr.kids j hj).kept hg (gm (h.nr.kids j hj) hv (by decide)),h.nr.sep⟩;have hl:=hx.lt g oW;rw[bU (hg.block g hl.2 (by grind[gm]))];exact h.nr.cells g oW j hj t u BK
def NG(w w':World)(e:Ending)(rb B bl:Nat)(E:Nat->Addr)(s:ByteArray)(av nv:Value)(KV:Nat->Value)(n:Nat)(r:Except Nat (Nat×gW×List Nd)):Prop:=
 F2 rb bl w w'/\match r with
 |.error b=>e=.panicked [{v:=dw (b:Int) (bH (E 2)),recovered:=false}]
 |.ok (i,er,L)=>e=Rw (.tuple #[])/\PR w' rb s i av nv (gJ E er)/\PN w' B nv L KV/\L.length=n
structure Ras(W0 W:World)(rb ab B bl n0 cap j kind:Nat)(E:Nat->Addr)(s:ByteArray)(i:Nat)(er:gW)(L:List Nd)(KV:Nat->Value)(v:Value)(ws:List ByteArray):Prop where
 env:VZ W rb ab B E
 pr:PR W rb s i (Sq ab 12 12) (Sq bl n0 cap) (gJ E er)
 pn:PN W B (Sq bl n0 cap) L KV
 len:L.length=n0
 kind:(ae L j).kind=kind
 row:W.ownsRow W0.heap.size 9 1 v ws.length (ws.map Value.string)
 wl:ws.length<=i
 il:i<=s.size
 fr:F2 rb bl W0 W
theorem readAttributes_any(rb ab B:Nat)(E:Nat->Addr)(s:ByteArray)(i:Nat)(er:gW)(L:List Nd)(KV:Nat->Value)(bl cap j kind:Nat)(w:World)(env:VZ w rb ab B E)
 (h:PR w rb s i (Sq ab 12 12) (Sq bl L.length cap) (gJ E er)) (hn:PN w B (Sq bl L.length cap) L KV) (hL:L.length<=100000) (hj:j<L.length) (hkd:(ae L j).kind=kind) (SI:kind<7) (hs:s.size<=1073741824) (hi:i<=s.size):
 Cw 138 #[Pq rb,.pointer (some (az bl (j*16)))] w fun e w'=>NG w w' e rb B bl E s (Sq ab 12 12) (Sq bl L.length cap) KV L.length (eV s kind j (s.size+1) i er L []):=by
 obtain⟨R,hR⟩:=ag (eV s kind j (s.size+1) i er L []);rw[hR];have hbl:=hn.nr.row.choose_spec.lt bl rfl;have tG:=h.lt;obtain⟨n0,Do⟩:=ag L.length;rw[Do]at h hn hL hj⊢;have H0:Hid (Ras w w rb ab B bl n0 cap j kind E s i er L KV (.slice none 0 0) []):=⟨env,h,hn,Do,hkd,gF _ _ _ _,aZ _,hi,F2.below (aj _ _)⟩;have HR:=qH<|hR;obtain⟨i0,O7,eG,fs,gd⟩:=info_parts ug;have ry:=env.rbB;have pE:=env.lo;go_enter func138,ntmps138;go_wp2;go_loopw[4,5] (fun v b wr=>∃(i:Nat) (er:gW) (L:List Nd) (ws:List ByteArray) (f:Nat) (m:Bool),b=.bool m/\Hid (Ras w wr rb ab B bl n0 cap j kind E s i er L KV v ws)/\s.size<f+i/\Hid ((if m=true then eV s kind j f i er L ws else pd s i er L)=R)) (fun _ b wr=>2*(s.size-prI wr rb)+(match b with|.bool true=>1|_=>0));case atStart=>grind
 case round=>
  obtain⟨i,er,L,ws,f,m,rfl,HS,hf,lO⟩:=hrel;have K8:=HS.il;have hwl:=HS.wl;cases m with
  |true=>
   obtain⟨f,rfl⟩:∃q,f=q+1:=⟨f-1,by omega⟩;have hl:=HS.len;subst hl;have Dr:∀q,u4.ownBlock=some q->q≠rb/\q≠bl:=fun q hq=>by have:=(HS.row.lt q hq).1;omega
   have CR:=qH<|readAttribute_any rb ab B E s i er L KV bl cap j kind u4 ws wr HS.env HS.pr HS.pn hL hj HS.kind SI (Q_ HS.row) Dr (by omega) hs K8;cases hp:fN s kind ws L j i er with
   |error b=>
    have fW:Hid (R=.error b):=by show _=_;rw[<-lO.out];simp only[if_true];unfold eV;rw[hp]
    rw[hp]at CR;go_wp2_with fail;refine CR.mono ?_;rintro e w2 ⟨f2,rfl⟩;refine⟨rfl,?_⟩;rw[fW.out];exact⟨HS.fr.trans f2,rfl⟩
   |ok r=>
    obtain⟨i2,fd,L2,t⟩:=r;obtain⟨b1,b2,b3,b4⟩:=D' K8 hp;have fW:Hid ((if aT s i2 59=true then eV s kind j f (aA s i2 59) fd L2 (ws++[t])else pd s (aA s i2 59) fd L2)=R):=by
     show _=_;rw[<-lO.out];simp only[if_true];conv=>rhs;unfold eV
     rw[hp]
    have HB4:Hid ((ae L2 j).kind=kind):=by show _=_;rw[b4];exact HS.kind
    have HB3:=qH<|b3;rw[hp]at CR;go_wp2_with fail;refine CR.mono ?_;rintro e w2 ⟨f2,rfl,h2,n2⟩;have HR2:=qH<|h2;have HN2:=qH<|n2;have HF2:=qH<|f2;have HO2:=qH<|own_f2 HS.row f2 Dr;have gq:=HO2.out;have vt:=aO HS.fr.size f2.size;go_wp2_with(at_builtin;refine wpList_append_own _ rfl _ _ 78 rfl w.heap.size 9 i0 (.string ⟨#[]⟩) 1 16 underlying78 O7 eG fs gd rfl (by decide) _ _ _ rfl (gq.alloc _) _ 1 1 [.string t] rfl rfl ?c1 ?c2 ?c3 ?c4 ?c5 ?_);case c1=>grind[kM]
    case c2=>intro u hu;simp at hu;subst hu;rfl
    case c3=>unfold maxLen;omega
    case c4=>omega
    case c5=>simp;omega
    intro v' w3 bD hg _;have JS:Hid (Bt w2 (w2.alloc (.cells #[.string t] 9))):=(aj _ _).alloc (ai _) _;have tD:=fun q hq=>(gq.lt q hq).1;have HR3:=qH<|PR.far (HR2.below JS) hg tD tG;have HN3:=qH<|(HN2.up (Up.below JS)).beside (gq.alloc _) hg;have HE3:=qH<|((HS.env.fr (HF2.fr HS.env.le hbl.1)).fr (Fr.below JS (aO HS.env.le HF2.size))).fr (Fr.own hg (by have:=HS.env.le;have:=HF2.size;simp;omega) (fun q hq=>by grind));have HF3:=qH<|(HS.fr.trans (HF2.trans (F2.below JS))).plus (F2.other hg tD);have HO3:Hid (w3.ownsRow w.heap.size 9 1 v' (ws++[t]).length ((ws++[t]).map Value.string)):=by rw[bm,np];exact bD
    have CT:Hid (Cw 137 #[Pq rb,.int .u8 59] w3 fun e w'=>e=Rw (.bool (aT s i2 59))/\PR w' rb s (aA s i2 59) (Sq ab 12 12) (Sq bl L.length cap) (gJ E fd)/\w3.grownBy w' (some rb)):=n_ rb s i2 _ _ _ 59 w3 HR3 (by omega) b2 (by omega);have kV:aA s i2 59<=s.size:=eU (by omega) b2;have oW:i2<=aA s i2 59:=by unfold aA;have:=dX s i2;split<;>omega
    obtain⟨m',MK⟩:=ag (aT s i2 59);obtain⟨i3,BF⟩:=ag (aA s i2 59);rw[MK,BF]at CT fW;rw[BF]at kV oW;go_wp2_with fail;refine CT.mono ?_;rintro e w4 ⟨rfl,h4,g4⟩;have xe:=qH<|h4.prI;have zgn:=qH<|HS.pr.prI;have HSN:Hid (Ras w w4 rb ab B bl L.length cap j kind E s i3 fd L2 KV v' (ws++[t])):=⟨HE3.fr (Fr.grown g4 HE3.le),h4,HN3.up (Up.grown g4 ry),HB3,HB4,own_f2 HO3 (F2.left (b:=bl) g4) (fun q hq=>by have:=(HO3.lt q hq).1;omega),by grind,kV,HF3.trans (F2.left g4)⟩;go_wp2;go_roundw;case rel=>grind
    case measure=>rw[xe.out,zgn.out];grind
  |false=>
   have hl:=HS.len;subst hl;by_cases hq:aT s i 125=true
   ·have CX:Hid (Cw 140 #[Pq rb,.int .u8 125] wr fun e w'=>e=Rw (.tuple #[])/\PR w' rb s (aA s i 125) (Sq ab 12 12) (Sq bl L.length cap) (gJ E er)/\wr.grownBy w' (some rb)):=jB rb s i _ _ _ 125 wr HS.pr (by omega) K8 (by omega) hq;have fW:Hid (R=.ok (aA s i 125,er,L)):=by show _=_;rw[<-lO.out];simp only[JN,if_false];unfold pd;rw[if_pos hq]
    go_wp2_with fail;refine CX.mono ?_;rintro e w2 ⟨rfl,h2,g2⟩;have HO:Hid (NG w w2 (.returned (.tuple #[])) rb B bl E s (Sq ab 12 12) (Sq bl L.length cap) KV L.length R):=by show NG _ _ _ _ _ _ _ _ _ _ _ _ _;rw[fW.out];exact⟨HS.fr.trans (F2.left g2),rfl,h2,HS.pn.up (Up.grown g2 ry),rfl⟩
    go_wp2;go_end0;exact HO
   ·have Zi:aT s i 125=false:=by simpa using hq
    have CX:Hid (Cw 140 #[Pq rb,.int .u8 125] wr fun e w'=>e=.panicked [{v:=dw (sk s i:Int) (bH (E 2)),recovered:=false}]/\wr.grownBy w' (some rb)):=kO rb s i _ _ _ (E 2) 125 wr HS.pr (by omega) K8 (by omega) Zi (by omega) HS.env.g2;have fW:Hid (R=.error (sk s i)):=by show _=_;rw[<-lO.out];simp only[JN,if_false];unfold pd;rw[if_neg hq]
    go_wp2_with fail;refine CX.mono ?_;rintro e w2 ⟨rfl,g2⟩;refine⟨rfl,?_⟩;rw[fW.out];exact⟨HS.fr.trans (F2.left g2),rfl⟩
def lS(n af:Nat):Option Nat:=if 100<=n then some 3 else if 12<=af then some 4 else none
theorem Vv  n af   E  :qv n af (E 3) (E 4)=_U E (lS n af):=by
 unfold qv lS;split;·rfl
 ·split<;>rfl
def eP(s:ByteArray)(st:PS)(c:Nat):Except Nat PS:=if aT s st.i c=true then .ok {st with i:=aA s st.i c}else .error (sk s st.i)
def ji(s:ByteArray)(bJ:PS->Except Nat PS):Nat->PS->Except Nat PS
 |0,st=>.error st.i
 |f+1,st=>match bJ st with
  |.error b=>.error b
  |.ok fk=>if aT s fk.i 44=true then ji s bJ f {fk with i:=aA s fk.i 44}else eP s {fk with i:=aA s fk.i 44} 93
def iW(s:ByteArray)(bJ:PS->Except Nat PS)(st:PS):Except Nat PS:=
 if aT s st.i 91=true then(if aT s (aA s st.i 91) 93=true then .ok {st with i:=aA s (aA s st.i 91) 93}else ji s bJ (s.size+1) {st with i:=aA s (aA s st.i 91) 93})else .error (sk s st.i)
def qq(r:Except Nat PS)(g:PS->Except Nat PS):Except Nat PS:=match r with
 |.error b=>.error b
 |.ok st=>g st
def rL(s:ByteArray)(bJ:PS->Except Nat PS)(st:PS):Except Nat PS:=
 if aT s st.i 91=true then qq (bJ {st with i:=aA s st.i 91}) fun fk=>eP s fk 93 else .error (sk s st.i)
def jJ(s:ByteArray)(idx:Nat)(st:PS):Except Nat PS:=match fi s st.i with
 |.error b=>.error b
 |.ok (i2,t)=>.ok {st with i:=i2,L:=aH st.L idx t}
def qp(s:ByteArray)(kind idx:Nat)(bJ:PS->Except Nat PS)(st:PS):Except Nat PS:=
 if kind=5 then jJ s idx st else if kind=6 then .ok st else if kind=3\/kind=4 then rL s bJ st else iW s bJ st
def Vj(s:ByteArray)(kind idx i:Nat)(er:gW)(L:List Nd):Except Nat PS:=
 if aT s i 123=true then(match eV s kind idx (s.size+1) (aA s i 123) er L []with
  |.error b=>.error b
  |.ok (i2,fd,L2)=>.ok ⟨i2,L2,fd⟩)else .ok ⟨aA s i 123,L,er⟩
def pA(s:ByteArray)(i:Nat):ByteArray:=s.extract (sk s i) (run aB s (sk s i))
def eJ(s:ByteArray)(i:Nat):Int:=aR cM (pA s i) 0
def aS(s:ByteArray):Nat->Int->Nat->PS->Except Nat PS
 |0,_,_,st=>.error st.i
 |f+1,up,af,st=>
  if eJ s st.i<0 then .error (sk s st.i)else
  qq (Vj s (eJ s st.i).toNat st.L.length (run aB s (sk s st.i)) (kY st.er (lS st.L.length af) (sk s st.i)) (grown st.L ⟨(eJ s st.i).toNat,aX,[],[],up⟩)) fun dk=>qp s (eJ s st.i).toNat st.L.length (aS s f (st.L.length:Int) (af+1)) dk
structure gP(s:ByteArray)(st:PS):Prop where
 il:st.i<=s.size
 ll:st.L.length<=st.i
 kl:∀j,(ae st.L j).kids.length<=st.L.length
structure zr(s:ByteArray)(st cU:PS):Prop where
 good:gP s cU
 ge:st.i<=cU.i
 lg:st.L.length<=cU.L.length
theorem cu  s   i c  :i<=aA s i c:=by grind[aA,dX]
theorem gP.at{s}{st}(h:gP s st){c}(hc:c<256):gP s {st with i:=aA s st.i c}:=
 ⟨eU hc h.il,aO h.ll (cu _ _ _),h.kl⟩
theorem Ea{s}{st cU}{c}(hc:c<256)(h:gP s st)(e:eP s st c=.ok cU):zr s st cU/\st.i<cU.i:=by
 unfold eP at e;split at e;·rename_i hq;injection e with e;subst e;have:=IK hq;have:=dX s st.i;exact⟨⟨h.at hc,cu _ _ _,ai _⟩,by grind⟩
 grind
theorem zr.trans{s}{a b c}(h:zr s a b)(k:zr s b c):zr s a c:=⟨k.good,aO h.ge k.ge,aO h.lg k.lg⟩
theorem DF{s}{N}{bJ}(hnode:∀a b,gP s a->N<=a.L.length->bJ a=.ok b->zr s a b/\a.i<b.i):∀f st cU,gP s st->N<=st.L.length->ji s bJ f st=.ok cU->zr s st cU/\st.i<cU.i
 |0,st,cU,h,hN,e=>by cases e
 |f+1,st,cU,h,hN,e=>by
  unfold ji at e;split at e;·cases e
  ·rename_i fk he;obtain⟨h2,l2⟩:=hnode _ _ h hN he;have hg:=h2.good.at (c:=44) (by omega);have h3:zr s st {fk with i:=aA s fk.i 44}:=⟨hg,aO h2.ge (cu _ _ _),h2.lg⟩;have l3:st.i<aA s fk.i 44:=zz008 l2 (cu _ _ _);split at e;·obtain⟨h4,l4⟩:=DF hnode f _ _ hg (aO hN h2.lg) e;exact⟨h3.trans h4,zz106 l3 l4⟩
   ·obtain⟨h4,l4⟩:=Ea (by omega) hg e;exact⟨h3.trans h4,zz106 l3 l4⟩
section
variable{s:ByteArray} {N:Nat} {bJ:PS->Except Nat PS}
theorem P7(hnode:∀a b,gP s a->N<=a.L.length->bJ a=.ok b->zr s a b/\a.i<b.i){st cU}(h:gP s st)(hN:N<=st.L.length)(e:iW s bJ st=.ok cU):zr s st cU:=by
 unfold iW at e;have h1:=h.at (c:=91) (by omega);have h2:=h1.at (c:=93) (by omega);have g1:=cu s st.i 91;have g2:=cu s (aA s st.i 91) 93;have f2:zr s st {st with i:=aA s (aA s st.i 91) 93}:=⟨h2,aO g1 g2,ai _⟩;split at e
 ·split at e;·grind
  ·exact f2.trans (DF hnode _ _ _ h2 hN e).1
 grind
theorem Vh(hnode:∀a b,gP s a->N<=a.L.length->bJ a=.ok b->zr s a b/\a.i<b.i){st cU}(h:gP s st)(hN:N<=st.L.length)(e:rL s bJ st=.ok cU):zr s st cU:=by
 unfold rL at e;have h1:=h.at (c:=91) (by omega);have f1:zr s st {st with i:=aA s st.i 91}:=⟨h1,cu _ _ _,ai _⟩;split at e
 ·unfold qq at e;split at e;·cases e
  ·rename_i fk he;obtain⟨h2,_⟩:=hnode _ _ h1 hN he;exact f1.trans (h2.trans (Ea (by omega) h2.good e).1)
 grind
theorem Ek:∀f p acc i t,p<=s.size->qF s f p acc=.ok (i,t)->p<i/\i<=s.size
 |0,p,acc,i,t,hp,h=>by cases h
 |f+1,p,acc,i,t,hp,h=>by
  have gA:∀q,dL s q≠256->q<s.size:=fun q hq=>by grind[eT]
  unfold qF at h;split at h;·cases h
  ·rename_i h0;have:=gA p h0;split at h;·grind
   ·split at h
    ·split at h;·rename_i hq;have:=gA (p+1) (by omega);have:=Ek f (p+2) _ i t (by omega) h;omega
     ·split at h;·rename_i hq;have:=gA (p+1) (by omega);have:=Ek f (p+2) _ i t (by omega) h;omega
      grind
    ·have:=Ek f (p+1) _ i t (by omega) h;omega
theorem oF  L   k j   t  :(ae (aH L k t) j).kids=(ae L j).kids:=by grind[aH,bj,ae,aV]
theorem wN{idx}{st cU}(h:gP s st)(e:jJ s idx st=.ok cU):zr s st cU:=by
 unfold jJ fi at e;split at e;·cases e
 ·rename_i i2 t he;injection e with e;subst e;split at he
  ·have g:=Ek _ _ _ _ _ (eU (by omega) h.il) he;have g2:=cu s st.i 34;refine⟨⟨g.2,?_,fun j=>?_⟩,by grind,by grind[aH]⟩;·show(aH st.L idx t).length<=i2;unfold aH;have:=h.ll;grind
   ·show(ae (aH st.L idx t) j).kids.length<=(aH st.L idx t).length;rw[oF];unfold aH;simpa using h.kl j
  grind
theorem N6(hnode:∀a b,gP s a->N<=a.L.length->bJ a=.ok b->zr s a b/\a.i<b.i){kind idx}{st cU}(h:gP s st)(hN:N<=st.L.length)(e:qp s kind idx bJ st=.ok cU):zr s st cU:=by
 unfold qp at e;split at e;·exact wN h e
 ·split at e;·injection e with e;subst e;exact⟨h,ai _,ai _⟩
  grind[Vh,P7]
end
theorem Me  L   j k q   n  :(ae (setL L j k n) q).kids=(ae L q).kids:=by grind[setL,bj,ae,aV]
theorem G9{s}{kind}{ws}{L}{j i}{er}{i2}{fd}{L2}{t}(h:fN s kind ws L j i er=.ok (i2,fd,L2,t)):∀q,(ae L2 q).kids=(ae L q).kids:=by
 unfold fN at h;split at h;·cases h
 ·split at h
  ·unfold tK at h;split at h;·cases h
   ·unfold Qu at h;grind[Me]
  grind
theorem uJ{s}{kind j}:∀f i er L ws i2 fd L2,i<=s.size->eV s kind j f i er L ws=.ok (i2,fd,L2)->i<i2/\i2<=s.size/\L2.length=L.length/\∀q,(ae L2 q).kids=(ae L q).kids
 |0,i,er,L,ws,i2,fd,L2,hi,h=>by cases h
 |f+1,i,er,L,ws,i2,fd,L2,hi,h=>by
  unfold eV at h;split at h;·cases h
  ·rename_i i3 er3 L3 t he;obtain⟨b1,b2,b3,_⟩:=D' hi he;have b5:=G9 he;have g1:=cu s i3 59;have g2:=eU (s:=s) (i:=i3) (c:=59) (by omega) b2;split at h;·obtain⟨c1,c2,c3,c4⟩:=uJ f _ _ _ _ _ _ _ g2 h;grind
   grind[pd,cu,aA,eU]
theorem dP  L   d  :(grown L d).length=L.length+1:=by grind[grown]
theorem vc  L   d  (hd:d.kids=[]) (hup:d.up<L.length) (h:∀j,(ae L j).kids.length<=L.length)  j  :(ae (grown L d) j).kids.length<=L.length+1:=by grind[ae,cV,dp,grown,kR,bj,aV]
theorem Yq{s}{kind idx i}{er}{L}{st}(hi:i<=s.size)(e:Vj s kind idx i er L=.ok st):i<=st.i/\st.i<=s.size/\st.L.length=L.length/\∀q,(ae st.L q).kids=(ae L q).kids:=by
 unfold Vj at e;have g1:=cu s i 123;have g2:=eU (s:=s) (i:=i) (c:=123) (by omega) hi;split at e
 ·split at e;·cases e
  ·rename_i i2 fd L2 he;obtain⟨b1,b2,b3,b4⟩:=uJ _ _ _ _ _ _ _ _ g2 he;grind
 grind
theorem sG{s}{i}(h:¬eJ s i<0)(hi:i<=s.size):sk s i<run aB s (sk s i):=by
 by_cases e:sk s i<run aB s (sk s i);·exact e
 ·exfalso;have h3:=jM aB s (sk s i);have:pA s i=ByteArray.empty:=by unfold pA;rw[show run aB s (sk s i)=sk s i by omega];apply nh;simp
  unfold eJ at h;rw[this]at h;exact h (by decide)
theorem DV{s}:∀f  up  af st cU,(up<st.L.length)->gP s st->aS s f up af st=.ok cU->zr s st cU/\st.i<cU.i/\st.L.length<cU.L.length
 |0,up,af,st,cU,hup,h,e=>by cases e
 |f+1,up,af,st,cU,hup,h,e=>by
  unfold aS at e;split at e;·cases e
  ·rename_i hk;have hw:=sG hk h.il;have s1:=dX s st.i;have s2:=jN aB s _ (fw s st.i h.il);unfold qq at e;split at e;·cases e
   ·rename_i dk he;obtain⟨b1,b2,b3,b4⟩:=Yq s2 he;rw[dP]at b3;have g1:gP s dk:=⟨b2,by have:=h.ll;omega,fun j=>by rw[b4,b3];exact vc _ _ rfl hup h.kl j⟩;have f1:zr s st dk:=⟨g1,by omega,by omega⟩;have f2:=N6 (N:=st.L.length+1) (fun a b ga hN hab=>by obtain⟨q1,q2,_⟩:=DV f (st.L.length:Int) (af+1) a b (by omega) ga hab;grind) g1 (by omega) e;exact⟨f1.trans f2,by have:=f2.ge;omega,by have:=f2.lg;omega⟩
def kS(L:List Nd):Nat->Nat
 |0=>0
 |n+1=>kS L n+(ae L n).kids.length
theorem Al{L L'}:∀n,(∀j,j<n->(ae L' j).kids=(ae L j).kids)->kS L' n=kS L n
 |0,_=>rfl
 |n+1,h=>by show kS L' n+(ae L' n).kids.length=kS L n+(ae L n).kids.length;rw[Al n (fun j hj=>h j (by omega)),h n (by omega)]
theorem PO{L L'}{u}(hu:(ae L' u).kids.length=(ae L u).kids.length+1):∀n,u<n->(∀j,j<n->j≠u->(ae L' j).kids=(ae L j).kids)->kS L' n=kS L n+1
 |0,h,_=>by omega
 |n+1,h,hk=>by
  show kS L' n+(ae L' n).kids.length=kS L n+(ae L n).kids.length+1;by_cases e:u=n;·grind[Al]
  ·rw[PO hu n (by omega) (fun j hj IZ=>hk j (by omega) IZ),hk n (by omega) (fun e2=>e e2.symm)];omega
structure BR(L:List Nd):Prop where
 up0:∀i:Nat,i<L.length->((ae L i).up<0↔i=0)
 upl:∀i:Nat,i<L.length->(ae L i).up<i
 kid:∀i k c:Nat,i<L.length->(ae L i).kids[k]?=some c->i<c/\c<L.length/\(ae L c).up=i
 rise:∀i k c d:Nat,i<L.length->(ae L i).kids[k]?=some c->(ae L i).kids[k+1]?=some d->c<d
 first:∀i c:Nat,i<L.length->(ae L i).kids[0]?=some c->c=i+1
 cnt:0<L.length->kS L L.length+1=L.length
theorem BR.empty:BR []:=⟨fun i h=>absurd h (by simp),fun i h=>absurd h (by simp),fun i _ _ h=>absurd h (by simp),fun i _ _ _ h=>absurd h (by simp),fun i _ h=>absurd h (by simp),fun h=>absurd h (by simp)⟩
theorem BR.congr{L L'}(h:BR L)(hl:L'.length=L.length)(hk:∀j,(ae L' j).kids=(ae L j).kids)(hu:∀j,(ae L' j).up=(ae L j).up):BR L':=by
 refine⟨fun i hi=>?_,fun i hi=>?_,fun i k c hi hc=>?_,fun i k c d hi hc hd=>?_,fun i c hi hc=>?_,fun hp=>?_⟩;·rw[hu];exact h.up0 i (by omega)
 ·rw[hu];exact h.upl i (by omega)
 ·rw[hk]at hc;rw[hu,hl];exact h.kid i k c (by omega) hc
 ·rw[hk]at hc hd;exact h.rise i k c d (by omega) hc hd
 ·rw[hk]at hc;exact h.first i c (by omega) hc
 ·rw[hl,Al _ (fun j _=>hk j)];exact h.cnt (by omega)
def ND(L:List Nd)(up:Int):Prop:=(up=-1/\L=[])\/∃u:Nat,up=(u:Int)/\u<L.length/\((ae L u).kids=[]->L.length=u+1)
theorem BR.grow{L}{d}(h:BR L)(hd:d.kids=[])(hp:ND L d.up):BR (grown L d)/\(∀j,j<L.length->(ae L j).kids.length<=(ae (grown L d) j).kids.length)/\(0<=d.up->(ae (grown L d) d.up.toNat).kids≠[])/\(ae (grown L d) L.length).kids=[]:=by
 rcases hp with⟨hu,rfl⟩|⟨u,hu,Zn,hf⟩
 ·have e:grown [] d=[d]:=by unfold grown;rw[if_pos (by omega)];rfl
  rw[e];have n0:ae [d] 0=d:=rfl;refine⟨⟨fun i hi=>?_,fun i hi=>?_,fun i k c hi hc=>?_,fun i k c q hi hc=>?_,fun i c hi hc=>?_,fun _=>?_⟩,fun j hj=>absurd hj (by simp),fun h0=>by omega,by grind⟩;·grind
  ·grind
  ·grind
  ·grind
  ·grind
  ·show 0+(ae [d] 0).kids.length+1=1;grind
 ·have hL:=dP L d;have e:=kR L d u (by omega) (by omega);have a1:ae (grown L d) u={ae L u with kids:=(ae L u).kids++[L.length]}:=by rw[e,bj _ (by grind),cV Zn]
  have a2:ae (grown L d) L.length=d:=by rw[e,aV _ (by omega),dp]
  have a3:∀j,j<L.length->j≠u->ae (grown L d) j=ae L j:=fun j hj SH=>by grind[aV,cV]
  have au:∀j,j<L.length->(ae (grown L d) j).up=(ae L j).up:=fun j hj=>by grind
  -- a kid of a bJ: an old one,or the new one
  have ak:∀i k c:Nat,i<L.length+1->(ae (grown L d) i).kids[k]?=some c->(i<L.length/\(ae L i).kids[k]?=some c)\/(i=u/\k=(ae L u).kids.length/\c=L.length):=fun i k c hi hc=>by grind
  refine⟨⟨fun i hi=>?_,fun i hi=>?_,fun i k c hi hc=>?_,fun i k c q hi hc hq=>?_,fun i c hi hc=>?_,fun _=>?_⟩,fun j hj=>?_,fun _=>?_,?_⟩
  ·rw[hL]at hi;by_cases gA:i=L.length;·grind
   ·rw[au i (by omega)];exact h.up0 i (by omega)
  ·rw[hL]at hi;by_cases gA:i=L.length;·grind
   ·rw[au i (by omega)];exact h.upl i (by omega)
  ·rw[hL]at hi;rcases ak i k c hi hc with⟨pW,Uj⟩|⟨rfl,_,rfl⟩;·obtain⟨q1,q2,q3⟩:=h.kid i k c pW Uj;grind
   grind
  ·rw[hL]at hi;rcases ak i k c hi hc with⟨pW,Uj⟩|⟨rfl,hk,rfl⟩
   ·rcases ak i (k+1) q hi hq with⟨_,vq⟩|⟨rfl,hk,rfl⟩;·exact h.rise i k c q pW Uj vq
    ·exact(h.kid i k c pW Uj).2.1
   grind
  ·rw[hL]at hi;rcases ak i 0 c hi hc with⟨pW,Uj⟩|⟨rfl,hk,rfl⟩;·exact h.first i c pW Uj
   grind
  ·rw[hL];show kS (grown L d) L.length+(ae (grown L d) L.length).kids.length+1=L.length+1;rw[a2,hd,PO (L:=L) (u:=u) (by grind) L.length Zn (fun j hj SH=>by grind)];have:=h.cnt (by omega);grind
  ·grind
  all_goals simp_all
structure JR(L L':List Nd):Prop where
 gr:BR L'
 len:L.length<=L'.length
 kids:∀j,j<L.length->(ae L j).kids.length<=(ae L' j).kids.length
theorem JR.refl{L}(h:BR L):JR L L:=⟨h,ai _,fun _ _=>ai _⟩
theorem JR.trans{L L1 L2}(h:JR L L1)(k:JR L1 L2):JR L L2:=⟨k.gr,aO h.len k.len,fun j hj=>aO (h.kids j hj) (k.kids j (zz008 hj h.len))⟩
def Nz(u:Nat)(bJ:PS->Except Nat PS):Prop:=∀a b,BR a.L->ND a.L (u:Int)->bJ a=.ok b->JR a.L b.L/\(ae b.L u).kids≠[]
theorem Jb{s}{u}{bJ}(hn:Nz u bJ):∀f st cU,BR st.L->ND st.L (u:Int)->eI s bJ f st=.ok cU->JR st.L cU.L
 |0,st,cU,h,hp,e=>by cases e
 |f+1,st,cU,h,hp,e=>by
  unfold eI at e;split at e;·cases e
  ·rename_i fk he;obtain⟨h2,k2⟩:=hn _ _ h hp he;split at e
   ·have Zn:u<fk.L.length:=by
     rcases hp with⟨hx,_⟩|⟨u',hx,Zn,_⟩;·omega
     ·have:u=u':=by omega
      subst this;exact zz008 Zn h2.len
    exact h2.trans (Jb hn f {fk with i:=aA s fk.i 44} _ h2.gr (.inr ⟨u,rfl,Zn,fun e=>absurd e k2⟩) e)
   grind
theorem TD{s}{kind u}{bJ}(hn:Nz u bJ){st cU}(h:BR st.L)(hp:ND st.L (u:Int))(e:jZ s kind u bJ st=.ok cU):JR st.L cU.L:=by
 unfold jZ at e;split at e
 ·split at e;·cases e
  ·split at e;·grind[JR.refl]
   ·rename_i i2 _ _;exact Jb hn _ {st with i:=sk s i2} _ h hp e
 ·split at e
  ·split at e;·cases e
   ·split at e;·cases e
    ·rename_i i2 _ _ eD he;obtain⟨h3,_⟩:=hn {st with i:=i2} eD h hp he;grind
  ·split at e
   ·split at e;·cases e
    ·rename_i i2 t he;injection e with e;subst e;have hl:(aH st.L u t).length=st.L.length:=by unfold aH;simp
     have hk:=oF st.L u;refine⟨h.congr hl (fun j=>hk j t) (fun j=>?_),by grind,fun j _=>by grind⟩;grind[ae,aH,bj,aV]
   grind[JR.refl]
theorem Jg{s}:∀f  up  af st cU,BR st.L->ND st.L up->de s f up af st=.ok cU->JR st.L cU.L/\st.L.length<cU.L.length/\(0<=up->(ae cU.L up.toNat).kids≠[])
 |0,up,af,st,cU,h,hp,e=>by cases e
 |f+1,up,af,st,cU,h,hp,e=>by
  unfold de at e;dsimp only at e;split at e;·cases e
  ·split at e;·cases e
   ·rename_i i2 fd a he;obtain⟨d,hd⟩:∃d:Nd,(⟨(aR cM (s.extract (sk s st.i) (run aB s (sk s st.i))) 0).toNat,a,[],[],up⟩:Nd)=d:=⟨_,rfl⟩;have hdk:d.kids=[]:=by rw[<-hd]
    have hdu:d.up=up:=by rw[<-hd]
    rw[hd]at e;obtain⟨g1,g2,g3,g4⟩:=h.grow hdk (by grind);have hl:=dP st.L d;have hb:=TD (u:=st.L.length) (fun a b ga pa hab=>by obtain⟨q1,_,q3⟩:=Jg f (st.L.length:Int) (af+1) a b ga pa hab;grind) (st:={i:=i2,L:=grown st.L d,er:=fd}) g1 (.inr ⟨st.L.length,rfl,by grind,fun _=>hl⟩) e;have bY:(grown st.L d).length<=cU.L.length:=hb.len;refine⟨JR.trans ⟨g1,by omega,g2⟩ hb,by omega,fun h0=>?_⟩;have h3:=g3 (by omega);rw[hdu]at h3;have hlt:up.toNat<(grown st.L d).length:=by
     rcases hp with⟨hx,_⟩|⟨u',hx,Zn,_⟩;·omega
     ·omega
    have h4:(ae (grown st.L d) up.toNat).kids.length<=(ae cU.L up.toNat).kids.length:=hb.kids up.toNat hlt;intro h5;simp_all
theorem Ed{s}{L}(h:gC s=.ok L):BR L/\0<L.length:=by
 unfold gC at h;split at h;·cases h
 ·split at h;·cases h
  ·rename_i st he;split at h;·cases h
   ·split at h;·cases h
    ·injection h with h;subst h;obtain⟨q1,q2,_⟩:=Jg _ _ _ _ _ BR.empty (.inl ⟨rfl,rfl⟩) he;exact⟨q1.gr,Nat.lt_of_le_of_lt (aZ _) q2⟩
structure Nv(d:Nd):Prop where
 kind:d.kind<7
 len:d.attr.length=12
 att:∀k,k<12->d.attr[k]?.getD 0=aX[k]?.getD 0\/(iu d.kind k=true/\0<=d.attr[k]?.getD 0/\d.attr[k]?.getD 0<=jH[k]?.getD 0)
 text:d.text=[]\/d.kind=5
structure Vl(s:ByteArray)(L:List Nd):Prop where
 nv:∀j,j<L.length->Nv (ae L j)
 tl:∀j,j<L.length->(ae L j).text.length<=s.size
 id:∀i j,i<j->j<L.length->(0:Int)<(ae L j).attr[0]?.getD 0->(ae L i).attr[0]?.getD 0≠(ae L j).attr[0]?.getD 0
 cnt:L.length<=100
def ut(d:Nd):Prop:=d.kind<3\/(3<=d.kind/\d.kind<5/\d.kids.length=1)\/(5<=d.kind/\d.kids=[])
inductive Ch(L:Nat->Nd):Nat->List Nat->Nat->Nat->Prop
 |nil (d a:Nat):Ch L d [] a a
 |cons {d c:Nat} {r:List Nat} {e1 e:Nat}:d<12->ut (L c)->Ch L (d+1) (L c).kids (c+1) e1->Ch L d r e1 e->Ch L d (c::r) c e
theorem Ch.le{L}{d}{ks}{a e}(h:Ch L d ks a e):a<=e:=by
 induction h with
 |nil=>omega
 |cons _ _ _ _ i1 i2=>omega
theorem Ch.congr{L L'}{d}{ks}{a e}(h:Ch L d ks a e):(∀j,a<=j->j<e->L' j=L j)->Ch L' d ks a e:=by
 induction h with
 |nil d a=>intro _;exact .nil d a
 |@cons d c r e1 e h1 h2 h3 h4 i1 i2=>intro hj;have l3:=h3.le;have l4:=h4.le;have ec:=hj c (ai _) (by omega);refine .cons (e1:=e1) h1 (by grind) ?_ (i2 (fun j h1 h2=>hj j (by omega) h2));grind
theorem Ch.app{L}{d}{ks}{a b}(h:Ch L d ks a b){ks'}{e}(k:Ch L d ks' b e):Ch L d (ks++ks') a e:=by
 induction h with
 |nil d a=>exact k
 |cons h1 h2 h3 h4 i1 i2=>exact .cons h1 h2 h3 (i2 k)
structure Av(kind:Nat)(L:List Nd)(a:List Int):Prop where
 len:a.length=12
 att:∀k,k<12->a[k]?.getD 0=aX[k]?.getD 0\/(iu kind k=true/\0<=a[k]?.getD 0/\a[k]?.getD 0<=jH[k]?.getD 0)
 id:(0:Int)<a[0]?.getD 0->fI L (a[0]?.getD 0)=false
theorem fC{b}{f}{c p}(h:bS b f c p=none):b=false/\f=none:=by
 unfold bS at h;cases b with
 |false=>grind
 |true=>unfold jn at h;grind
theorem yf{f}{c p}(h:jn f c p=none):False:=by unfold jn at h;grind
theorem Yy  s   j  :0<=dv s j (run aW s j-j):=(uU s j _ (fun t ht=>by grind[qA,aW,run])).1
theorem ra{s}{kind}{L}{i}{er}{a}{seen}{i2}{fd}{a2}{qC}(h:jx s kind L i er a seen=.ok (i2,fd,a2,qC))(h0:fd=none)(hv:Av kind L a):er=none/\Av kind L a2:=by
 unfold jx at h;dsimp only at h;split at h;·cases h
 ·split at h;·cases h
  ·split at h;·cases h
   ·rename_i j2 _ _;split at h;·grind[yf]
    ·rename_i Dl;have hn:=Yy s (sk s j2);obtain⟨n,hnn⟩:=ag (dv s (sk s j2) (run aW s (sk s j2)-sk s j2));obtain⟨ix,Xj⟩:=ag (aR cI (s.extract (sk s i) (run aB s (sk s i))) 0);have rl:=kP (s.extract (sk s i) (run aB s (sk s i))) cI 0;rw[Xj]at rl;rw[Xj,hnn]at h;rw[hnn]at hn;rw[Xj]at Dl;injection h with h;injection h with e1 h;injection h with e2 h;injection h with e3 e4;rw[h0]at e2;obtain⟨q1,e2⟩:=fC e2;obtain⟨q2,e2⟩:=fC e2;obtain⟨q3,e2⟩:=fC e2;have BM:0<=ix/\iu kind ix.toNat=true:=by
      constructor;·omega
      ·grind
     have rC:ix.toNat<12:=by have:cI.length=12:=rfl;rw[this]at rl;rcases rl with e|e<;>omega
     refine⟨e2,?_⟩;subst e3;have hm:n<=jH[ix.toNat]?.getD 0:=by simpa using q2
     have hl:ix.toNat<a.length:=by rw[hv.len];exact rC
     refine⟨by rw[Rs];exact hv.len,fun k hk=>?_,fun hp=>?_⟩
     ·by_cases e:ix.toNat=k;·grind
      ·rw[wZ e];exact hv.att k hk
     ·by_cases e:ix.toNat=0;·grind
      ·rw[wZ e]at hp⊢;exact hv.id hp
theorem uH{s}{kind}{L}:∀f i er a seen i2 fd a2,d_ s kind L f i er a seen=.ok (i2,fd,a2)->fd=none->Av kind L a->er=none/\Av kind L a2
 |0,i,er,a,seen,i2,fd,a2,h,h0,hv=>by cases h
 |f+1,i,er,a,seen,i2,fd,a2,h,h0,hv=>by
  unfold d_ at h;split at h;·cases h
  ·rename_i j mH a1 eM he;split at h
   ·obtain⟨q1,q2⟩:=uH f _ _ _ _ _ _ _ h h0
     (by
      -- the attribute ahead has no zkP zg3,seen from behind
      have:∀f i er a seen i2 fd a2,d_ s kind L f i er a seen=.ok (i2,fd,a2)->fd=none->er=none:=by
       intro f;induction f with
       |zero=>intro i er a seen i2 fd a2 h;cases h
       |succ f ih=>intro i er a seen i2 fd a2 h h0;unfold d_ at h;grind[jx,yf,fC]
      grind[ra]);exact⟨(ra he q1 hv).1,q2⟩
   grind[ra]
theorem TB  kind   L  :Av kind L aX:=⟨rfl,fun k hk=>.inl rfl,fun h=>absurd h (by decide)⟩
theorem uI{s}{kind}{L}{i}{er}{i2}{fd}{a2}(h:dC s kind L i er=.ok (i2,fd,a2))(h0:fd=none):er=none/\Av kind L a2:=by grind[dC,uH,TB]
theorem AN{s}:∀f p acc i t,qF s f p acc=.ok (i,t)->t.length+p<=i+acc.length/\(p<=s.size->i<=s.size)
 |0,p,acc,i,t,h=>by cases h
 |f+1,p,acc,i,t,h=>by
  have gA:∀q,dL s q≠256->q<s.size:=fun q hq=>by grind[eT]
  unfold qF at h;split at h;·cases h
  ·rename_i h0;have:=gA p h0;split at h;·grind
   ·split at h
    ·split at h;·rename_i hq;have h3:=gA (p+1) (by omega);have h4:=AN f (p+2) _ i t h;grind
     ·split at h;·rename_i hq;have h3:=gA (p+1) (by omega);have h4:=AN f (p+2) _ i t h;grind
      grind
    ·have h4:=AN f (p+1) _ i t h;grind
theorem Vr{s}{i j}{t}(h:fi s i=.ok (j,t)):t.length<=s.size:=by
 unfold fi at h;split at h;·rename_i hq;have h1:=AN _ _ _ _ _ h;grind[aA,sk,aT,eT]
 grind
theorem jE  L   d   j  (hj:j<L.length):(ae (grown L d) j).kind=(ae L j).kind/\(ae (grown L d) j).attr=(ae L j).attr/\(ae (grown L d) j).text=(ae L j).text/\(ae (grown L d) j).up=(ae L j).up/\((j:Int)≠d.up->ae (grown L d) j=ae L j)/\((j:Int)=d.up->ae (grown L d) j={ae L j with kids:=(ae L j).kids++[L.length]}):=by grind[grown,cV,bj,aV]
theorem ny  L   d  :ae (grown L d) L.length=d:=by grind[grown,dp]
theorem OR{L}{n}(h:fI L n=false)  i  (hi:i<L.length):(ae L i).attr[0]?.getD 0≠n:=by grind[fI,ae]
theorem Vl.grown{s:ByteArray}{L:List Nd}{d:Nd}(h:Vl s L)(hd:Nv d)(ht:d.text.length<=s.size)(hid:(0:Int)<d.attr[0]?.getD 0->fI L (d.attr[0]?.getD 0)=false)(hc:L.length<100):Vl s (grown L d):=by
 have hl:=dP L d;refine⟨fun j hj=>?_,fun j hj=>?_,fun i j IY hj h0=>?_,by omega⟩
 ·by_cases e:j=L.length;·grind[ny]
  ·obtain⟨a1,a2,a3,_⟩:=jE L d j (by omega);have:=h.nv j (by omega);exact⟨by rw[a1];exact this.kind,by rw[a2];exact this.len,by rw[a1,a2];exact this.att,by rw[a1,a3];exact this.text⟩
 ·by_cases e:j=L.length;·grind[ny]
  ·obtain⟨a1,a2,a3,_⟩:=jE L d j (by omega);rw[a3];exact h.tl j (by omega)
 ·have ei:=(jE L d i (by omega)).2.1;by_cases e:j=L.length;·grind[ny,OR]
  ·have ej:=(jE L d j (by omega)).2.1;rw[ej]at h0⊢;rw[ei];exact h.id i j IY (by omega) h0
theorem iJ  L   k   t   j  :(ae (aH L k t) j).kind=(ae L j).kind/\(ae (aH L k t) j).attr=(ae L j).attr/\(ae (aH L k t) j).kids=(ae L j).kids/\(ae (aH L k t) j).up=(ae L j).up/\(j≠k->ae (aH L k t) j=ae L j)/\(j=k->j<L.length->ae (aH L k t) j={ae L j with text:=t}):=by grind[aH,bj,ae,aV]
theorem Vl.texted{s}{L}{k}{t}(h:Vl s L)(hk:k<L.length)(h5:(ae L k).kind=5)(ht:t.length<=s.size):Vl s (aH L k t):=by
 have hl:(aH L k t).length=L.length:=by unfold aH;simp
 refine⟨fun j hj=>?_,fun j hj=>?_,fun i j IY hj h0=>?_,by rw[hl];exact h.cnt⟩
 ·obtain⟨a1,a2,a3,_,a5,a6⟩:=iJ L k t j;have:=h.nv j (by omega);refine⟨by rw[a1];exact this.kind,by rw[a2];exact this.len,by rw[a1,a2];exact this.att,?_⟩;by_cases e:j=k;·grind
  ·rw[a5 e];exact this.text
 ·obtain⟨a1,a2,a3,_,a5,a6⟩:=iJ L k t j;by_cases e:j=k;·grind
  ·rw[a5 e];exact h.tl j (by omega)
 ·rw[(iJ L k t j).2.1]at h0⊢;rw[(iJ L k t i).2.1];exact h.id i j IY (by omega) h0
structure NOk(s:ByteArray)(L L':List Nd)(up:Int)(af:Nat):Prop where
 vl:Vl s L'
 lt:L.length<L'.length
 ch:Ch (ae L') af [L.length] L.length L'.length
 upE:(ae L' L.length).up=up
 old:∀j:Nat,j<L.length->(j:Int)≠up->ae L' j=ae L j
 par:∀j:Nat,j<L.length->(j:Int)=up->ae L' j={ae L j with kids:=(ae L j).kids++[L.length]}
structure Yi(s:ByteArray)(L L':List Nd)(u d:Nat)(ks:List Nat):Prop where
 vl:Vl s L'
 le:L.length<=L'.length
 ch:Ch (ae L') d ks L.length L'.length
 old:∀j:Nat,j<L.length->j≠u->ae L' j=ae L j
 par:ae L' u={ae L u with kids:=(ae L u).kids++ks}
theorem NOk.kids{s}{L L1:List Nd}{u d}(hu:u<L.length)(h:NOk s L L1 (u:Int) d):Yi s L L1 u d [L.length]:=
 ⟨h.vl,Nat.le_of_lt h.lt,h.ch,fun j hj SH=>h.old j hj (fun e=>SH (Int.ofNat.inj e)),h.par u hu rfl⟩
theorem Yi.trans{s}{L L1 L2}{u d}{ks ks'}(hu:u<L.length)(h:Yi s L L1 u d ks)(k:Yi s L1 L2 u d ks'):Yi s L L2 u d (ks++ks'):=by
 refine⟨k.vl,aO h.le k.le,?_,fun j hj SH=>(k.old j (zz008 hj h.le) SH).trans (h.old j hj SH),?_⟩;·exact(h.ch.congr (fun j h1 h2=>k.old j h2 (by omega))).app k.ch
 ·rw[k.par,h.par,dt]
def Wp(s:ByteArray)(u d:Nat)(bJ:PS->Except Nat PS):Prop:=∀a b,Vl s a.L->u<a.L.length->bJ a=.ok b->b.er=none->a.er=none/\NOk s a.L b.L (u:Int) d
theorem DG{s}{u d}{bJ:PS->Except Nat PS}(back:∀a b,bJ a=.ok b->b.er=none->a.er=none)(hn:Wp s u d bJ):∀f st cU,Vl s st.L->u<st.L.length->eI s bJ f st=.ok cU->cU.er=none->st.er=none/\∃ks,Yi s st.L cU.L u d ks
 |0,st,cU,h,hu,e,h0=>by cases e
 |f+1,st,cU,h,hu,e,h0=>by
  have bk:∀f st cU,eI s bJ f st=.ok cU->cU.er=none->st.er=none:=by
   intro f;induction f with
   |zero=>intro st cU e;cases e
   |succ f ih=>grind[eI,aA]
  unfold eI at e;split at e;·cases e
  ·rename_i fk he;split at e;·have h2:fk.er=none:=bk _ {fk with i:=aA s fk.i 44} _ e h0;obtain⟨q1,q2⟩:=hn _ _ h hu he h2;obtain⟨_,ks,q3⟩:=DG back hn f {fk with i:=aA s fk.i 44} _ q2.vl (zz106 hu q2.lt) e h0;exact⟨q1,_,(q2.kids hu).trans hu q3⟩
   ·split at e;·cases e
    ·injection e with e;subst e;obtain⟨q1,q2⟩:=hn _ _ h hu he h0;exact⟨q1,_,q2.kids hu⟩
structure BOk(s:ByteArray)(L L':List Nd)(u d:Nat):Prop where
 vl:Vl s L'
 le:L.length<=L'.length
 ch:Ch (ae L') d (ae L' u).kids L.length L'.length
 ok:ut (ae L' u)
 upE:(ae L' u).up=(ae L u).up
 old:∀j:Nat,j<L.length->j≠u->ae L' j=ae L j
theorem N7{s}{kind u d}{bJ:PS->Except Nat PS}(back:∀a b,bJ a=.ok b->b.er=none->a.er=none)(hn:Wp s u d bJ){st cU}(h:Vl s st.L)(hu:u<st.L.length)(hk:(ae st.L u).kind=kind)(O9:(ae st.L u).kids=[])(e:jZ s kind u bJ st=.ok cU)(h0:cU.er=none):st.er=none/\BOk s st.L cU.L u d:=by
 have fin:∀{L':List Nd} {ks:List Nat},Yi s st.L L' u d ks->(kind<3\/(3<=kind/\kind<5/\ks.length=1))->BOk s st.L L' u d:=fun{L' ks} q hq=>by
  have ek:(ae L' u).kids=ks:=by rw[q.par,O9];rfl
  have ekd:(ae L' u).kind=kind:=by rw[q.par];exact hk
  refine⟨q.vl,q.le,by rw[ek];exact q.ch,?_,by rw[q.par],q.old⟩;grind[ut]
 have same:5<=kind\/kind<3->BOk s st.L st.L u d:=fun hq=>by refine⟨h,ai _,by rw[O9];exact .nil _ _,?_,rfl,fun _ _ _=>rfl⟩;grind[ut]
 unfold jZ at e;split at e
 ·rename_i h3;split at e;·cases e
  ·split at e;·grind
   ·rename_i i2 _ _;obtain⟨q1,ks,q2⟩:=DG back hn _ {st with i:=sk s i2} _ h hu e h0;grind
 ·rename_i h3;split at e
  ·rename_i h5;split at e;·cases e
   ·split at e;·cases e
    ·rename_i i2 _ _ eD he;split at e;·cases e
     ·injection e with e;have YF:eD.er=none:=by rw[<-e]at h0;exact h0
      obtain⟨q1,q2⟩:=hn {st with i:=i2} eD h hu he YF;refine⟨q1,?_⟩;rw[<-e];exact fin (q2.kids hu) (.inr ⟨by omega,h5,rfl⟩)
  ·rename_i h5;split at e
   ·rename_i h6;split at e;·cases e
    ·rename_i i2 t he;injection e with e;subst e;refine⟨h0,h.texted hu (by omega) (Vr he),?_,?_,?_,?_,fun j hj SH=>(iJ st.L u t j).2.2.2.2.1 SH⟩;·grind[aH]
     ·show Ch (ae (aH st.L u t)) d (ae (aH st.L u t) u).kids st.L.length (aH st.L u t).length;rw[(iJ st.L u t u).2.2.1,O9];have:(aH st.L u t).length=st.L.length:=by unfold aH;simp
      rw[this];exact .nil _ _
     all_goals grind[ut,iJ]
   grind
theorem yG{s}{bJ:PS->Except Nat PS}(back:∀a b,bJ a=.ok b->b.er=none->a.er=none):∀f st cU,eI s bJ f st=.ok cU->cU.er=none->st.er=none
 |0,st,cU,e,h0=>by cases e
 |f+1,st,cU,e,h0=>by
  unfold eI at e;split at e;·cases e
  ·rename_i fk he;split at e;·exact back _ _ he (yG back f {fk with i:=aA s fk.i 44} _ e h0)
   grind
theorem yn{s}{kind u}{bJ:PS->Except Nat PS}(back:∀a b,bJ a=.ok b->b.er=none->a.er=none){st cU}(e:jZ s kind u bJ st=.ok cU)(h0:cU.er=none):st.er=none:=by
 unfold jZ at e;split at e
 ·split at e;·cases e
  ·split at e;·grind
   ·rename_i i2 _ _;exact yG back _ {st with i:=sk s i2} _ e h0
 grind
theorem nL{s}:∀f  up  af st cU,de s f up af st=.ok cU->cU.er=none->st.er=none
 |0,up,af,st,cU,e,h0=>by cases e
 |f+1,up,af,st,cU,e,h0=>by
  unfold de at e;dsimp only at e;split at e;·cases e
  ·split at e;·cases e
   ·rename_i i2 fd a he;have h1:=yn (nL f _ _) e h0;exact(fC (fC (uI he h1).1).2).2
theorem DW{s}:∀f  up  af st cU,Vl s st.L->up<(st.L.length:Int)->de s f up af st=.ok cU->cU.er=none->NOk s st.L cU.L up af
 |0,up,af,st,cU,h,hp,e,h0=>by cases e
 |f+1,up,af,st,cU,h,hp,e,h0=>by
  unfold de at e;dsimp only at e;split at e;·cases e
  ·rename_i hkd;split at e;·cases e
   ·rename_i i2 fd a he;have h1:=yn (nL f _ _) e h0;obtain⟨h2,Sv⟩:=uI he h1;obtain⟨g1,h3⟩:=fC h2;obtain⟨g2,h4⟩:=fC h3;have g1:af<12:=by
     have:¬12<=af:=by simpa using g1
     omega
    have g2:st.L.length<100:=by
     have:¬100<=st.L.length:=by simpa using g2
     omega
    have rl:=kP (s.extract (sk s st.i) (run aB s (sk s st.i))) cM 0;obtain⟨kd,ke⟩:=ag (aR cM (s.extract (sk s st.i) (run aB s (sk s st.i))) 0);rw[ke]at e rl hkd Sv;have SI:kd.toNat<7:=by have:cM.length=7:=rfl;rw[this]at rl;rcases rl with e|e<;>omega
    obtain⟨d,hd⟩:∃d:Nd,(⟨kd.toNat,a,[],[],up⟩:Nd)=d:=⟨_,rfl⟩;rw[hd]at e;have mN:Nv d:=by rw[<-hd];exact⟨SI,Sv.len,Sv.att,.inl rfl⟩
    have hg:=h.grown mN (by grind) (by rw[<-hd];exact Sv.id) g2;have hl:=dP st.L d;have hn:=ny st.L d;obtain⟨_,hb⟩:=N7 (d:=af+1) (nL f _ _) (fun a b ga pa hab hb0=>⟨nL f _ _ _ _ hab hb0,DW f (st.L.length:Int) (af+1) a b ga (by omega) hab hb0⟩) (st:={i:=i2,L:=grown st.L d,er:=fd}) hg (by grind) (by grind) (by grind) e h0;have hbl:(grown st.L d).length<=cU.L.length:=hb.le;have hdu:d.up=up:=by rw[<-hd]
    have hbc:Ch (ae cU.L) (af+1) (ae cU.L st.L.length).kids (grown st.L d).length cU.L.length:=hb.ch;have iD:(ae cU.L st.L.length).up=(ae (grown st.L d) st.L.length).up:=hb.upE;have YX:∀j:Nat,j<(grown st.L d).length->j≠st.L.length->ae cU.L j=ae (grown st.L d) j:=hb.old;refine⟨hb.vl,by omega,.cons g1 hb.ok (by grind) (.nil _ _),by grind,fun j hj SH=>?_,fun j hj SH=>?_⟩;all_goals grind[jE]
structure dZ(s:ByteArray)(L:List Nd):Prop where
 sz:s.size<=4000
 gr:BR L
 pos:0<L.length
 vl:Vl s L
 ch:Ch (ae L) 0 [0] 0 L.length
 up0:(ae L 0).up=-1
theorem jL{s}{L}(h:gC s=.ok L):dZ s L:=by
 obtain⟨q1,q2⟩:=Ed h;unfold gC at h;split at h;·cases h
 ·rename_i hs;split at h;·cases h
  ·rename_i st he;split at h;·cases h
   ·split at h;·cases h
    ·rename_i Ac;injection h with h;subst h;have:=DW _ _ _ _ _ ⟨fun j hj=>absurd hj (by simp),fun j hj=>absurd hj (by simp),fun i j _ hj=>absurd hj (by simp),by simp⟩ (by omega) he Ac;exact⟨by omega,q1,q2,this.vl,this.ch,this.upE⟩
def Kn(W:World):Prop:=∀j,j<7->W.cell? (az 8 j)=some (.string (cM[j]?.getD ByteArray.empty))
theorem Kn.fr{W W'}{B r}(h:Kn W)(f:Fr B r W W')(hB:r<B)(hr:9<=r):Kn W':=fun j hj=>f.cell (h j hj) (by grind) (by grind)
def Mem(W0 W:World)(rb ab B:Nat)(E:Nat->Addr)(s:ByteArray)(st:PS):Prop:=VZ W rb ab B E/\Kn W/\gP s st/\Fr B rb W0 W/\∃nv KV,PR W rb s st.i (Sq ab 12 12) nv (gJ E st.er)/\PN W B nv st.L KV
def eX(w w':World)(e:Ending)(rb ab B:Nat)(E:Nat->Addr)(s:ByteArray)(r:Except Nat PS):Prop:=match r with
 |.error b=>e=.panicked [{v:=dw (b:Int) (bH (E 2)),recovered:=false}]/\Fr B rb w w'
 |.ok st=>e=Rw (.tuple #[])/\Mem w w' rb ab B E s st
def Ik(rb ab B:Nat)(E:Nat->Addr)(s:ByteArray)(f:Nat):Prop:=∀(up:Int) (af:Nat) (st:PS) (w0 w:World),Mem w0 w rb ab B E s st->(up=-1\/(0<=up/\up<st.L.length))->af<=st.i->s.size<f+st.i->
 Cw 65 #[Pq rb,Iq up,Iq (af:Int)] w fun e w'=>eX w0 w' e rb ab B E s (aS s f up af st)
theorem Mem.grown{W0 W W'}{rb ab B}{E}{s}{st}{i}(h:Mem W0 W rb ab B E s st)(g:W.grownBy W' (some rb))(hg:gP s {st with i:=i})(hp:∀nv KV,PR W rb s st.i (Sq ab 12 12) nv (gJ E st.er)->PN W B nv st.L KV->PR W' rb s i (Sq ab 12 12) nv (gJ E st.er)):Mem W0 W' rb ab B E s {st with i:=i}:=by obtain⟨e,k,_,f,nv,KV,p,n⟩:=h;have fr:=Fr.grown (r:=rb) g e.le;exact⟨e.fr fr,k.fr fr e.rbB e.lo,hg,f.trans fr,nv,KV,hp nv KV p n,n.up (Up.grown g e.rbB)⟩
theorem rE{W0 W}{rb ab B}{E}{s}{st}(c:Nat)(h:Mem W0 W rb ab B E s st)(hs:s.size<=1073741824)(hc:c<256):
 Cw 137 #[Pq rb,.int .u8 (c:Int)] W fun e w'=>e=Rw (.bool (aT s st.i c))/\Mem W0 w' rb ab B E s {st with i:=aA s st.i c}:=by obtain⟨e,k,g,f,nv,KV,p,n⟩:=h;refine(n_ rb s st.i _ nv _ c W p (by omega) g.il hc).mono ?_;rintro e' w' ⟨rfl,h1,g1⟩;have fr:=Fr.grown (r:=rb) g1 e.le;exact⟨rfl,e.fr fr,k.fr fr e.rbB e.lo,g.at hc,f.trans fr,nv,KV,h1,n.up (Up.grown g1 e.rbB)⟩
theorem fL{W0 W}{rb ab B}{E}{s}{st}(c:Nat)(h:Mem W0 W rb ab B E s st)(hs:s.size<=1073741824)(hc:c<256):
 Cw 140 #[Pq rb,.int .u8 (c:Int)] W fun e w'=>eX W0 w' e rb ab B E s (eP s st c):=by
 obtain⟨e,k,g,f,nv,KV,p,n⟩:=h;unfold eP;by_cases hq:aT s st.i c=true;·rw[if_pos hq];refine(jB rb s st.i _ nv _ c W p (by omega) g.il hc hq).mono ?_;rintro e' w' ⟨rfl,h1,g1⟩;have fr:=Fr.grown (r:=rb) g1 e.le;exact⟨rfl,e.fr fr,k.fr fr e.rbB e.lo,g.at hc,f.trans fr,nv,KV,h1,n.up (Up.grown g1 e.rbB)⟩
 ·rw[if_neg hq];have lo:=e.lo;refine(kO rb s st.i _ nv _ (E 2) c W p (by omega) g.il hc (by grind) (by omega) e.g2).mono ?_;rintro e' w' ⟨rfl,g1⟩;exact⟨rfl,f.trans (Fr.grown g1 e.le)⟩
theorem Mem.prI{W0 W:World}{rb ab B:Nat}{E:Nat->Addr}{s:ByteArray}{st:PS}(h:Mem W0 W rb ab B E s st):prI W rb=st.i:=by obtain⟨e,k,g,f,nv,KV,p,n⟩:=h;exact p.prI
theorem sO(rb ab B:Nat)(E:Nat->Addr)(s:ByteArray)(f:Nat)(hnode:Ik rb ab B E s f)(hs:s.size<=1073741824)(up:Nat)(af:Nat)(st:PS)(w0 w:World)(h:Mem w0 w rb ab B E s st)(hup:up<st.L.length)(hd:af<=st.i)(hf:s.size<f+st.i):
 Cw 141 #[Pq rb,Iq (up:Int),Iq (af:Int)] w fun e w'=>eX w0 w' e rb ab B E s (iW s (aS s f (up:Int) af) st):=by
 have HN:=qH<|hnode;have CX:Hid (Cw 140 #[Pq rb,.int .u8 91] w fun e w'=>eX w0 w' e rb ab B E s (eP s st 91)):=fL 91 h hs (by omega);by_cases hq:aT s st.i 91=true
 ·have e1:eP s st 91=.ok {st with i:=aA s st.i 91}:=by unfold eP;rw[if_pos hq]
  rw[e1]at CX;have HP:Hid (iW s (aS s f (up:Int) af) st=if aT s (aA s st.i 91) 93=true then .ok {st with i:=aA s (aA s st.i 91) 93}else ji s (aS s f (up:Int) af) (s.size+1) {st with i:=aA s (aA s st.i 91) 93}):=by show _=_;unfold iW;rw[if_pos hq]
  have sw:=cu s st.i 91;have kU:=cu s (aA s st.i 91) 93;obtain⟨R,hR⟩:=ag (iW s (aS s f (up:Int) af) st);rw[hR]at HP⊢;clear h hnode hR e1 hq;go_enter func141,ntmps141;go_wp2_with fail;refine CX.mono ?_;rintro e w1 ⟨rfl,h1⟩;have CT:Hid (Cw 137 #[Pq rb,.int .u8 93] w1 fun e w'=>e=Rw (.bool (aT s (aA s st.i 91) 93))/\Mem w0 w' rb ab B E s {st with i:=aA s (aA s st.i 91) 93}):=rE 93 h1 hs (by omega);clear h1 CX;by_cases vq:aT s (aA s st.i 91) 93=true
  ·have fW:Hid (R=.ok {st with i:=aA s (aA s st.i 91) 93}):=by show _=_;rw[HP.out,if_pos vq]
   rw[vq]at CT;clear HP vq;go_wp2_with fail;refine CT.mono ?_;rintro e w2 ⟨rfl,h2⟩;have HM:=qH<|h2;clear h2 CT;go_wp2;try simp only[Exit.inBlock,Exit.then]
   refine bodyPost_ret (results_none rfl _ _ _) rfl ?_;show eX _ _ _ _ _ _ _ _ _;rw[fW.out];exact⟨rfl,HM⟩
  ·have fW:Hid (ji s (aS s f (up:Int) af) (s.size+1) {st with i:=aA s (aA s st.i 91) 93}=R):=by show _=_;rw[HP.out,if_neg vq]
   rw[show aT s (aA s st.i 91) 93=false by grind]at CT;clear HP vq;obtain⟨dk,mO⟩:∃z:PS,{st with i:=aA s (aA s st.i 91) 93}=z:=⟨_,rfl⟩;have k1:st.i<=dk.i:=by rw[<-mO];exact aO sw kU
   have k2:dk.L.length=st.L.length:=by rw[<-mO]
   rw[mO]at CT fW;clear mO sw kU;go_wp2_with fail;refine CT.mono ?_;rintro e w2 ⟨rfl,h2⟩;have HM:=qH<|h2;clear h2 CT;go_wp2;go_loopw[6] (fun b wr=>∃(fk:PS) (g:Nat) (m:Bool),b=.bool m/\Hid (Mem w0 wr rb ab B E s fk)/\st.i<=fk.i/\st.L.length<=fk.L.length/\s.size<g+fk.i/\Hid ((if m=true then ji s (aS s f (up:Int) af) g fk else eP s fk 93)=R)) (fun b wr=>2*(s.size-prI wr rb)+(match b with|.bool true=>1|_=>0));case atStart=>grind
   case round=>
    clear HM fW k1 k2;obtain⟨fk,g,m,rfl,HS,pW,yA,hg,lO⟩:=hrel;have HI:=qH<|HS.prI;have zpF:=HS.2.2.1.il;cases m with
    |true=>
     obtain⟨g,rfl⟩:∃q,g=q+1:=⟨g-1,by omega⟩;have CN:=qH<|HN (up:Int) af fk w0 wr HS (.inr ⟨by omega,by omega⟩) (by omega) (by omega);cases hp:aS s f (up:Int) af fk with
     |error b=>
      have fW:Hid (R=.error b):=by show _=_;rw[<-lO.out];simp only[if_true];unfold ji;rw[hp]
      rw[hp]at CN;clear hp lO;go_wp2_with fail;refine CN.mono ?_;rintro e w3 ⟨rfl,f3⟩;refine⟨rfl,?_⟩;rw[fW.out];exact⟨rfl,f3⟩
     |ok eD=>
      obtain⟨q1,q2,q3⟩:=DV f (up:Int) af fk eD (by omega) HS.2.2.1 hp;have q4:=q1.good.il;have fW:Hid ((if aT s eD.i 44=true then ji s (aS s f (up:Int) af) g {eD with i:=aA s eD.i 44}else eP s {eD with i:=aA s eD.i 44} 93)=R):=by
       show _=_;rw[<-lO.out];simp only[if_true];conv=>rhs;unfold ji
       rw[hp]
      rw[hp]at CN;clear hp lO q1;go_wp2_with fail;refine CN.mono ?_;rintro e w3 ⟨rfl,h3⟩;have CT:Hid (Cw 137 #[Pq rb,.int .u8 44] w3 fun e w'=>e=Rw (.bool (aT s eD.i 44))/\Mem w0 w' rb ab B E s {eD with i:=aA s eD.i 44}):=rE 44 h3 hs (by omega);have hg3:=cu s eD.i 44;have Uq:=eU (s:=s) (i:=eD.i) (c:=44) (by omega) q4;obtain⟨m',MK⟩:=ag (aT s eD.i 44);obtain⟨st4,UD⟩:∃z:PS,{eD with i:=aA s eD.i 44}=z:=⟨_,rfl⟩;have k1:st4.i=aA s eD.i 44:=by rw[<-UD]
      have k2:st4.L.length=eD.L.length:=by rw[<-UD]
      rw[MK,UD]at CT fW;clear h3 CN UD MK;go_wp2_with fail;refine CT.mono ?_;rintro e w4 ⟨rfl,h4⟩;have HM4:=qH<|h4;have _p:=qH<|h4.prI;clear h4 CT;go_wp2;go_roundw;case rel=>grind
      case measure=>rw[_p.out,HI.out];grind
    |false=>
     have CX:Hid (Cw 140 #[Pq rb,.int .u8 93] wr fun e w'=>eX w0 w' e rb ab B E s (eP s fk 93)):=fL 93 HS hs (by omega);have fW:Hid (eP s fk 93=R):=by show _=_;have:=lO.out;simpa using this
     rw[fW.out]at CX;clear lO fW;cases R with
     |error b=>go_wp2_with fail;refine CX.mono ?_;rintro e w3 ⟨rfl,f3⟩;exact⟨rfl,rfl,f3⟩
     |ok eD=>go_wp2_with fail;refine CX.mono ?_;rintro e w3 ⟨rfl,h3⟩;have Ni:=qH<|h3;clear h3 CX;go_wp2;go_end0;exact⟨rfl,Ni⟩
 ·have e1:eP s st 91=.error (sk s st.i):=by unfold eP;rw[if_neg hq]
  have HP:Hid (iW s (aS s f (up:Int) af) st=.error (sk s st.i)):=by show _=_;unfold iW;rw[if_neg hq]
  rw[e1]at CX;clear h hnode e1 hq;go_enter func141,ntmps141;go_wp2_with fail;refine CX.mono ?_;rintro e w1 ⟨rfl,f1⟩;refine⟨rfl,?_⟩;rw[HP.out];exact⟨rfl,f1⟩
def avV(ab:Nat):Value:=Sq ab 12 12
theorem ZP  d   a k  :(lF d a k).length=5:=rfl
structure RD(W:World)(B:Nat)(nv:Value)(L:List Nd)(AV:Nat->Nat)(KV:Nat->Value):Prop where
 nr:NR W B 77 5 nv L.length (fun j=>lF (ae L j) (avV (AV j)) (KV j)) KV (fun j=>(ae L j).kids)
 len:∀j,j<L.length->(ae L j).attr.length=12
 att:∀j,j<L.length->B<=AV j/\fB W (AV j) (fun k=>Iq ((ae L j).attr[k]?.getD 0))
 sepK:∀i j,i<L.length->j<L.length->(KV j).ownBlock≠some (AV i)
 sepN:∀i,i<L.length->nv.ownBlock≠some (AV i)
section
variable{W W':World} {B:Nat} {nv:Value} {L:List Nd} {AV:Nat->Nat} {KV:Nat->Value}
theorem RD.nothing  W   B   AV   KV  :RD W B (.slice none 0 0) [] AV KV:=
 ⟨NR.nothing _ _ _ _ _ _ _,fun j h=>absurd h (by grind),fun j h=>absurd h (by grind),fun i j h=>absurd h (by grind),fun i h=>absurd h (by grind)⟩
theorem RD.up(h:RD W B nv L AV KV)(hu:Up B W W'):RD W' B nv L AV KV:=
 ⟨h.nr.up hu,h.len,fun j hj=>⟨(h.att j hj).1,(h.att j hj).2.keep hu.size (hu.block _ (h.att j hj).1 (h.att j hj).2.1)⟩,h.sepK,h.sepN⟩
theorem RD.ids(h:RD W B nv L AV KV){rb}(hr:rb<B):Wo W rb nv L:=by
 by_cases hL:L=[]
 ·subst hL;obtain⟨xs,hx⟩:=h.nr.row;rcases dK hx with⟨rfl,_⟩|⟨g,cap,rfl,h1,h2,h3,h4⟩;·exact .inl ⟨rfl,rfl⟩
  ·exact .inr ⟨g,cap,AV,rfl,h2,by omega,fun k hk=>absurd hk (by grind)⟩
 ·have hn:=l6.2 hL;obtain⟨g,cap,rfl,h1,h2,h3,h4⟩:=h.nr.form hn;refine .inr ⟨g,cap,AV,rfl,h2,by omega,fun k hk=>⟨h.nr.cell hk rfl,(h.att k hk).2.1,by have:=(h.att k hk).1;omega,?_⟩⟩;have:=((h.att k hk).2.2 0 (by omega)).1;grind[ae]
theorem RD.app{LH}{xs}{d}{ab}(h:RD W B nv L AV KV)(hx:W.ownsRow B 77 5 nv L.length xs)(hx':W'.ownsRow B 77 5 LH (L.length+1) (xs++lF d (avV ab) (.slice none 0 0)))(hg:W.grownBy W' nv.ownBlock)(b9:LH.ownBlock=nv.ownBlock\/LH.ownBlock=some W.heap.size)
 (hl:d.attr.length=12) (hk:d.kids=[]) (hB:B<=ab) (ha:fB W ab (fun k=>Iq (d.attr[k]?.getD 0))) (haK:∀j,j<L.length->(KV j).ownBlock≠some ab) (haN:nv.ownBlock≠some ab):
 RD W' B LH (L++[d]) (fun j=>if j=L.length then ab else AV j) (fun j=>if j=L.length then .slice none 0 0 else KV j):=by
 have yA:(L++[d]).length=L.length+1:=by simp
 have zdp:=fun j hj=>(h.att j hj).2.keep hg.size (hg.block _ (h.att j hj).2.1 (fun e=>h.sepN j hj e.symm));refine⟨?_,fun j hj=>?_,fun j hj=>?_,fun i j hi hj=>?_,fun i hi=>?_⟩;·rw[yA];refine(h.nr.app (by decide) hx hx' hg (ZP _ _ _)).congr (fun j hj=>?_) (fun j hj=>rfl) (fun j hj=>?_);all_goals grind[dp,cV]
 ·by_cases e:j=L.length;·grind[dp]
  ·rw[cV (by omega)];exact h.len j (by omega)
 ·by_cases e:j=L.length;·subst e;rw[if_pos rfl,dp];exact⟨hB,ha.keep hg.size (hg.block _ ha.1 (fun e=>haN e.symm))⟩
  ·rw[if_neg e,cV (by omega)];exact⟨(h.att j (by omega)).1,zdp j (by omega)⟩
 ·by_cases e:j=L.length;·subst e;simp[Value.ownBlock]
  ·rw[if_neg e];by_cases e2:i=L.length;·grind
   ·rw[if_neg e2];exact h.sepK i j (by omega) (by omega)
 ·have hlt:(if i=L.length then ab else AV i)<W.heap.size:=by
   by_cases e:i=L.length;·rw[if_pos e];exact ha.1
   ·rw[if_neg e];exact(h.att i (by omega)).2.1
  rcases b9 with e|e
  ·rw[e];by_cases e2:i=L.length;·grind
   ·rw[if_neg e2];exact h.sepN i (by omega)
  grind
theorem RD.setText{g cap k}(h:RD W B (Sq g L.length cap) L AV KV)(hk:k<L.length)  x  :
 RD (W.setCell (az g (k*5+2)) (.string ⟨x.toArray⟩)) B (Sq g L.length cap) (aH L k x) AV KV:=by
 have yA:(aH L k x).length=L.length:=by unfold aH;simp
 have bZ:∀j,j<L.length->AV j≠g:=fun j hj e=>h.sepN j hj (by rw[e];rfl);have b9:∀j,(ae (aH L k x) j).attr=(ae L j).attr/\(ae (aH L k x) j).kids=(ae L j).kids:=fun j=>by grind[aH,bj,aV]
 refine⟨?_,fun j hj=>?_,fun j hj=>?_,fun i j hi hj=>h.sepK i j (by omega) (by omega),fun i hi=>h.sepN i (by omega)⟩
 ·rw[yA];refine(h.nr.set (by decide) hk (by omega) (.string ⟨x.toArray⟩)).congr (fun j hj=>?_) (fun j hj=>rfl) (fun j hj=>(b9 j).2);by_cases e:j=k;·subst e;rw[if_pos rfl];unfold aH;rw[bj _ hk];rfl
  grind[aH,aV]
 ·rw[(b9 j).1];exact h.len j (by omega)
 ·rw[(b9 j).1];exact⟨(h.att j (by omega)).1,(h.att j (by omega)).2.other (bZ j (by omega)) _⟩
theorem RD.kid{g cap}{kv'}{k c}(h:RD W B (Sq g L.length cap) L AV KV)(hk:k<L.length)
 (hr:W'.ownsRow B 3 1 kv' ((ae L k).kids.length+1) (kX ((ae L k).kids++[c]))) (hg:W.grownBy W' (KV k).ownBlock) (b9:kv'.ownBlock=(KV k).ownBlock\/kv'.ownBlock=some W.heap.size):
 RD (W'.setCell (az g (k*5+3)) kv') B (Sq g L.length cap) (L.modify k fun u=>{u with kids:=u.kids++[c]}) AV (fun j=>if j=k then kv' else KV j):=by
 have yA:(L.modify k fun u=>{u with kids:=u.kids++[c]}).length=L.length:=by simp
 have bZ:∀j,j<L.length->AV j≠g:=fun j hj e=>h.sepN j hj (by rw[e];rfl);have ha:∀j,(ae (L.modify k fun u=>{u with kids:=u.kids++[c]}) j).attr=(ae L j).attr:=fun j=>by grind[bj,aV]
 refine⟨?_,fun j hj=>?_,fun j hj=>?_,fun i j hi hj=>?_,fun i hi=>h.sepN i (by omega)⟩
 ·rw[yA];refine(h.nr.kid (t:=3) (by decide) hk (by omega) hr hg b9).congr (fun j hj=>?_) (fun j hj=>rfl) (fun j hj=>?_)
  ·by_cases e:j=k;·subst e;simp only[if_true];rw[bj _ hk];rfl
   grind[aV]
  grind[bj,aV]
 ·rw[ha j];exact h.len j (by omega)
 ·rw[ha j];exact⟨(h.att j (by omega)).1,((h.att j (by omega)).2.keep hg.size (hg.block _ (h.att j (by omega)).2.1 (fun e=>h.sepK j k (by omega) hk e.symm))).other (bZ j (by omega)) _⟩
 ·by_cases e:j=k
  ·rw[if_pos e];rcases b9 with q|q;·rw[q];exact h.sepK i k (by omega) hk
   ·rw[q];intro e2;injection e2 with e2;have:=(h.att i (by omega)).2.1;omega
  ·rw[if_neg e];exact h.sepK i j (by omega) (by omega)
end
structure RW(W0 W:World)(rb B:Nat)(s:ByteArray)(i:Nat)(L:List Nd)(f:gW)(bad aQ:Int):Prop where
 il:i<=s.size
 ll:bad<0->L.length<=i
 kl:∀j,(ae L j).kids.length<=L.length
 rbB:rb<B
 le:B<=W.heap.size
 fr:Fr B rb W0 W
 mem:∃nv AV KV er at_,RS W rb s i nv bad er at_ aQ/\(bad<0->FL er at_ f i)/\RD W B nv L AV KV
section
variable{W0 W W':World} {rb B i i':Nat} {s:ByteArray} {L:List Nd} {f:gW} {bad Kb aQ:Int}
theorem RW.step(h:RW W0 W rb B s i L f bad aQ)(hi:i<=i')(hl:i'<=s.size)(qS:Kb<0->bad<0)(g:W.grownBy W' (some rb))(hr:∀nv er at_,RS W rb s i nv bad er at_ aQ->RS W' rb s i' nv Kb er at_ aQ):RW W0 W' rb B s i' L f Kb aQ:=by obtain⟨nv,AV,KV,er,at_,h1,h2,h3⟩:=h.mem;exact⟨hl,fun e=>aO (h.ll (qS e)) hi,h.kl,h.rbB,aO h.le g.size,h.fr.trans (Fr.grown g h.le),nv,AV,KV,er,at_,hr nv er at_ h1,fun e=>(h2 (qS e)).on hi,h3.up (Up.grown g h.rbB)⟩
theorem RW.below(h:RW W0 W rb B s i L f bad aQ)(hb:Bt W W'):RW W0 W' rb B s i L f bad aQ:=
 h.step (ai _) h.il id (fG hb) (fun nv er at_ r=>r.below hb)
theorem Xp  s   i c   bad  :i<=mI s i c bad:=by grind[mI,cu,dX]
theorem ZH{s}{i c}{bad}(h:mB s i c bad<0):bad<0:=by grind[mB]
theorem rw_skip(h:RW W0 W rb B s i L f bad aQ)(hs:s.size<=1073741824):Cw 26 #[Pq rb] W fun e w'=>e=Rw (.tuple #[])/\RW W0 w' rb B s (sk s i) L f bad aQ:=by obtain⟨nv,AV,KV,er,at_,h1,h2,h3⟩:=h.mem;refine(skip_any rb s i nv bad er at_ aQ W h1 (by omega) h.il).mono ?_;rintro e w' ⟨rfl,r,g⟩;exact⟨rfl,fw s i h.il,fun e=>aO (h.ll e) (dX s i),h.kl,h.rbB,aO h.le g.size,h.fr.trans (Fr.grown g h.le),nv,AV,KV,er,at_,r,fun e=>(h2 e).on (dX s i),h3.up (Up.grown g h.rbB)⟩
theorem gn(c:Nat)(hc:c<256)(h:RW W0 W rb B s i L f bad aQ)(hs:s.size<=1073741824):Cw 55 #[Pq rb,.int .u8 (c:Int)] W fun e w'=>e=Rw (.tuple #[])/\RW W0 w' rb B s (mI s i c bad) L f (mB s i c bad) aQ:=by obtain⟨nv,AV,KV,er,at_,h1,h2,h3⟩:=h.mem;refine(qi rb s i nv bad er at_ aQ c W h1 (by omega) h.il hc).mono ?_;rintro e w' ⟨rfl,r,g⟩;have hi:=Xp s i c bad;have qS:=ZH (s:=s) (i:=i) (c:=c) (bad:=bad);exact⟨rfl,sJ bad hc h.il,fun e=>aO (h.ll (qS e)) hi,h.kl,h.rbB,aO h.le g.size,h.fr.trans (Fr.grown g h.le),nv,AV,KV,er,at_,r,fun e=>(h2 (qS e)).on hi,h3.up (Up.grown g h.rbB)⟩
theorem wC(c:Nat)(hc:c<256)(h:RW W0 W rb B s i L f bad aQ)(hs:s.size<=1073741824):Cw 97 #[Pq rb,.int .u8 (c:Int)] W fun e w'=>e=Rw (.bool (gB s i c bad))/\RW W0 w' rb B s (mI s i c bad) L f bad aQ:=by obtain⟨nv,AV,KV,er,at_,h1,h2,h3⟩:=h.mem;refine(ud rb s i nv bad er at_ aQ c W h1 (by omega) h.il hc).mono ?_;rintro e w' ⟨rfl,r,g⟩;have hi:=Xp s i c bad;exact⟨rfl,sJ bad hc h.il,fun e=>aO (h.ll e) hi,h.kl,h.rbB,aO h.le g.size,h.fr.trans (Fr.grown g h.le),nv,AV,KV,er,at_,r,fun e=>(h2 e).on hi,h3.up (Up.grown g h.rbB)⟩
theorem RW.c3(h:RW W0 W rb B s i L f bad aQ):W.cell? (az rb 3)=some (Iq bad):=by obtain⟨nv,AV,KV,er,at_,h1,h2,h3⟩:=h.mem;exact h1.c3
theorem RW.rdI(h:RW W0 W rb B s i L f bad aQ):rdI W rb=i:=by obtain⟨nv,AV,KV,er,at_,h1,h2,h3⟩:=h.mem;exact h1.rdI
end
def ip(W0 W':World)(rb B:Nat)(s:ByteArray)(aQ:Int)(st:PS)(r:Except Nat PS):Prop:=match r with
 |.error b=>∃i L g,RW W0 W' rb B s i L g (b:Int) aQ
 |.ok cU=>RW W0 W' rb B s cU.i cU.L cU.er (-1) aQ/\st.i<cU.i/\st.L.length<=cU.L.length
def Il(rb B:Nat)(s:ByteArray)(f:Nat):Prop:=∀(up:Int) (af:Nat) (st:PS) (w0 w:World),RW w0 w rb B s st.i st.L st.er (-1) (af:Int)->(up=-1\/(0<=up/\up<st.L.length))->af<=st.i->s.size<f+st.i->
 Cw 25 #[Pq rb,Iq up] w fun e w'=>e=Rw (.tuple #[])/\ip w0 w' rb B s (af:Int) st (de s f up af st)
theorem uY:aR cM ByteArray.empty 0=-1:=by kernel_rfl
theorem DU(rb B:Nat)(s:ByteArray)(i:Nat)(L:List Nd)(f:gW)(bad aQ:Int)(up:Int)(w0 w:World)(h:RW w0 w rb B s i L f bad aQ)(hb:0<=bad)(hs:s.size<=1073741824):
 Cw 25 #[Pq rb,Iq up] w fun e w'=>e=Rw (.tuple #[])/\RW w0 w' rb B s (sk s i) L f bad aQ:=by
 have SK:=qH<|rw_skip h hs;have tD:=decide_eq_true hb;clear h;go_enter func25,ntmps25;go_wp2_with fail;refine ao SK ?_;rintro e w1 ⟨rfl,h1⟩;obtain⟨nv,AV,KV,er,at_,r1,f1,d1⟩:=h1.mem;have c1:=r1.c1;have H1:=qH<|h1;have WO:Hid (Cw 49 #[Pq rb] w1 fun e w'=>e=Rw (.string ByteArray.empty)/\RS w' rb s (sk s i) nv bad er at_ aQ/\w1.grownBy w' (some rb)):=by have:=EW rb s (sk s i) nv bad er at_ aQ w1 r1 (by omega) h1.il hb;rw[m8]at this;exact this
 have HF1:Hid ((bad<0->FL er at_ f (sk s i))/\RD w1 B nv L AV KV):=⟨f1,d1⟩;clear r1 f1 d1 h1 SK;go_wp2_with fail;clear c1;refine ao WO ?_;rintro e w2 ⟨rfl,r2,g2⟩;have H2:Hid (RW w0 w2 rb B s (sk s i) L f bad aQ):=⟨H1.il,H1.ll,H1.kl,H1.rbB,aO H1.le g2.size,H1.fr.trans (Fr.grown g2 H1.le),nv,AV,KV,er,at_,r2,HF1.1,HF1.2.up (Up.grown g2 H1.rbB)⟩;clear r2 g2 WO H1 HF1;go_wp2_with fail;refine ao (yJ w2) ?_;rintro e w3 ⟨rfl,hn3,Fx,b3⟩;have H3:=qH<|H2.below b3;have FI:Hid (Cw 50 #[Sq w2.heap.size 7 7,.string ByteArray.empty] w3 fun e w'=>e=Rw (Iq (-1))/\w'=w3):=by have:=find_any cM ByteArray.empty w2.heap.size 0 7 7 w3 Fx hn3 rfl (by omega);rw[uY]at this;exact this
 clear hn3 Fx b3 H2;go_wp2_with fail;refine ao FI ?_;rintro e w4 ⟨rfl,Du⟩;obtain rfl:=Du.symm;obtain⟨nv,AV,KV,er,at_,r3,f3,d3⟩:=H3.mem;have FA:Hid (Cw 27 #[Pq rb,Iq (sk s i:Int)] w3 fun e w'=>e=Rw (.tuple #[])/\RS w' rb s (sk s i) nv bad er at_ aQ/\w3.grownBy w' (some rb)):=by
  have:=fail_any rb s (sk s i) nv bad er at_ aQ (sk s i:Int) w3 r3;have e:gH bad (sk s i:Int)=bad:=by unfold gH;rw[if_neg (by omega)]
  rw[e]at this;exact this
 have HF3:Hid ((bad<0->FL er at_ f (sk s i))/\RD w3 B nv L AV KV):=⟨f3,d3⟩;clear r3 f3 d3 FI;go_wp2_with fail;refine ao FA ?_;rintro e w5 ⟨rfl,r5,g5⟩;have H5:Hid (RW w0 w5 rb B s (sk s i) L f bad aQ):=⟨H3.il,H3.ll,H3.kl,H3.rbB,aO H3.le g5.size,H3.fr.trans (Fr.grown g5 H3.le),nv,AV,KV,er,at_,r5,HF3.1,HF3.2.up (Up.grown g5 H3.rbB)⟩;have c3:=r5.c3;clear r5 g5 FA;go_wp2;refine bodyPost_ret (results_none rfl _ _ _) rfl ?_;exact⟨rfl,H5⟩
def sF(s:ByteArray)(bJ:PS->Except Nat PS)(st:PS):Except Nat PS:=match dd s st.i 91 with
 |.error b=>.error b
 |.ok i2=>if aT s i2 93 then .ok {st with i:=aA s i2 93}else eI s bJ (s.size+1) {st with i:=sk s i2}
def F5(s:ByteArray)(st:PS):Except Nat PS:=match dd s st.i 93 with
 |.error b=>.error b
 |.ok i3=>.ok {st with i:=i3}
theorem Qe  s   i c  :dd s (sk s i) c=dd s i c:=by grind[dd,I_,IL,m8]
theorem TQ  s   st  :F5 s {st with i:=sk s st.i}=F5 s st:=by grind[F5,Qe]
theorem Lt{s}{bJ}{g}{st}{b}(h:bJ st=.error b):eI s bJ (g+1) st=.error b:=by rw[eI,h]
theorem GN{s}{bJ}{g}{st fk}(h:bJ st=.ok fk)(hm:aT s fk.i 44=true):eI s bJ (g+1) st=eI s bJ g {fk with i:=aA s fk.i 44}:=by grind[eI]
theorem GM{s}{bJ}{g}{st fk}(h:bJ st=.ok fk)(hm:¬aT s fk.i 44=true):eI s bJ (g+1) st=F5 s fk:=by rw[eI,h];simp only;rw[if_neg hm];rfl
def KI(s:ByteArray)(bJ:PS->Except Nat PS)(R:Except Nat PS)(m:Bool)(i:Nat)(L:List Nd)(f:gW)(bad:Int):Prop:=
 (bad=-1/\m=true/\∃g,s.size<g+i/\eI s bJ g ⟨i,L,f⟩=R)\/(bad=-1/\m=false/\F5 s ⟨i,L,f⟩=R)\/(∃b:Nat,bad=b/\m=false/\R=.error b)
section
variable{s:ByteArray} {i c:Nat} {b:Nat}
theorem WI:gB s i c (-1)=aT s i c:=by grind[gB]
theorem vF:mI s i c (-1)=aA s i c:=by grind[mI]
theorem DM:mB s i c (-1)=if aT s i c then-1 else(sk s i:Int):=by unfold mB;rw[if_pos (by omega)];rfl
theorem F':gB s i c (b:Int)=false:=by grind[gB]
theorem mX:mB s i c (b:Int)=b:=by unfold mB;rw[if_neg (by omega)]
theorem WJ(h:aT s i c=true):aA s i c=sk s i+1:=by unfold aA;rw[if_pos (by unfold aT at h;simpa using h)]
theorem C_(h:¬aT s i c=true):aA s i c=sk s i:=by grind[aA,aT]
end
theorem PW(rb B:Nat)(s:ByteArray)(i:Nat)(L:List Nd)(f:gW)(b:Nat)(aQ up:Int)(w0 w:World)(h:RW w0 w rb B s i L f (b:Int) aQ)(hs:s.size<=1073741824):
 Cw 54 #[Pq rb,Iq up] w fun e w'=>e=Rw (.tuple #[])/\∃i',RW w0 w' rb B s i' L f (b:Int) aQ:=by
 have MU:Hid (∀(c i:Nat) (w:World),c<256->RW w0 w rb B s i L f (b:Int) aQ->Cw 55 #[Pq rb,.int .u8 (c:Int)] w fun e w'=>e=Rw (.tuple #[])/\RW w0 w' rb B s (mI s i c b) L f (b:Int) aQ):=fun c i w hc h=>by have:=gn c hc h hs;grind[mX]
 have GO:Hid (∀(c i:Nat) (w:World),c<256->RW w0 w rb B s i L f (b:Int) aQ->Cw 97 #[Pq rb,.int .u8 (c:Int)] w fun e w'=>e=Rw (.bool false)/\RW w0 w' rb B s (mI s i c b) L f (b:Int) aQ):=fun c i w hc h=>by have:=wC c hc h hs;grind[F']
 have BV:Hid (Cw 55 #[Pq rb,.int .u8 91] w fun e w'=>e=Rw (.tuple #[])/\RW w0 w' rb B s (mI s i 91 b) L f (b:Int) aQ):=MU 91 i w (by omega) h;go_enter func54,ntmps54;go_wp2_with fail;refine ao BV ?_;rintro e w1 ⟨rfl,h1⟩;have S5:Hid (Cw 97 #[Pq rb,.int .u8 93] w1 fun e w'=>e=Rw (.bool false)/\RW w0 w' rb B s (mI s (mI s i 91 b) 93 b) L f (b:Int) aQ):=GO 93 _ w1 (by omega) h1;go_wp2_with fail;refine ao S5 ?_;rintro e w2 ⟨rfl,h2⟩;have H2:=qH<|h2;have E93:Hid (Cw 55 #[Pq rb,.int .u8 93] w2 fun e w'=>e=Rw (.tuple #[])/\RW w0 w' rb B s (mI s (mI s (mI s i 91 b) 93 b) 93 b) L f (b:Int) aQ):=MU 93 _ w2 (by omega) h2;go_wp2_with fail;go_loopw[4] (fun mv wr=>mv=.bool true/\wr=w2) (fun _ _=>0);case atStart=>grind
 case round=>obtain⟨rfl,rfl⟩:=hrel;have c3:=H2.c3;go_wp2_with fail;refine ao E93 ?_;rintro e w3 ⟨rfl,h3⟩;have H3:=qH<|h3;go_wp2;go_end0;grind
theorem UU(rb B:Nat)(s:ByteArray)(f:Nat)(hN:Il rb B s f)(hs:s.size<=1073741824)(up:Nat)(af:Nat)(st:PS)(w0 w:World)(h:RW w0 w rb B s st.i st.L st.er (-1) (af:Int))(hup:up<st.L.length)(hd:af<=st.i)(hf:s.size<f+st.i):
 Cw 54 #[Pq rb,Iq (up:Int)] w fun e w'=>e=Rw (.tuple #[])/\ip w0 w' rb B s (af:Int) st (sF s (de s f (up:Int) af) st):=by
 by_cases hq:aT s st.i 91=true
 ·have BV:Hid (Cw 55 #[Pq rb,.int .u8 91] w fun e w'=>e=Rw (.tuple #[])/\RW w0 w' rb B s (aA s st.i 91) st.L st.er (-1) (af:Int)):=by have:=gn 91 (by omega) h hs;rw[DM,if_pos hq,vF]at this;exact this
  have pW:st.i<aA s st.i 91:=by rw[WJ hq];have:=dX s st.i;omega
  have HK:Hid (sF s (de s f (up:Int) af) st=if aT s (aA s st.i 91) 93 then .ok {st with i:=aA s (aA s st.i 91) 93}else eI s (de s f (up:Int) af) (s.size+1) {st with i:=sk s (aA s st.i 91)}):=by show _=_;unfold sF dd;rw[if_pos hq]
  obtain⟨R,hR⟩:=ag (sF s (de s f (up:Int) af) st);rw[hR]at HK⊢;have HN:=qH<|hN;obtain⟨i2,O8⟩:=ag (aA s st.i 91);rw[O8]at BV pW HK;go_enter func54,ntmps54;go_wp2_with fail;refine ao BV ?_;rintro e w1 ⟨rfl,h1⟩;have S5:Hid (Cw 97 #[Pq rb,.int .u8 93] w1 fun e w'=>e=Rw (.bool (aT s i2 93))/\RW w0 w' rb B s (aA s i2 93) st.L st.er (-1) (af:Int)):=by have:=wC 93 (by omega) h1 hs;rw[WI,vF]at this;exact this
  have zh0:=cu s i2 93;by_cases vq:aT s i2 93=true
  ·have fW:Hid (R=.ok {st with i:=aA s i2 93}):=by show _=_;rw[HK.out,if_pos vq]
   rw[vq]at S5;go_wp2_with fail;refine ao S5 ?_;rintro e w2 ⟨rfl,h2⟩;have H2:=qH<|h2;go_wp2;try simp only[Exit.inBlock,Exit.then]
   refine bodyPost_ret (results_none rfl _ _ _) rfl ?_;refine⟨rfl,?_⟩;show ip _ _ _ _ _ _ _ _;rw[fW.out];exact⟨H2,by show st.i<aA s i2 93;omega,ai _⟩
  ·have hsk:=C_ vq;have S8:Hid (eI s (de s f (up:Int) af) (s.size+1) ⟨sk s i2,st.L,st.er⟩=R):=by show _=_;rw[HK.out,if_neg vq]
   rw[show aT s i2 93=false by simpa using vq,hsk]at S5;rw[hsk]at zh0;go_wp2_with fail;refine ao S5 ?_;rintro e w2 ⟨rfl,h2⟩;have H2:=qH<|h2;have lq:=h2.il;go_wp2_with fail;go_loopw[4] (fun mv wr=>∃(m:Bool) (i:Nat) (L:List Nd) (g:gW) (bad:Int),mv=.bool m/\i<=s.size/\(bad=-1->st.i<i/\st.L.length<=L.length)/\Hid (KI s (de s f (up:Int) af) R m i L g bad)/\Hid (RW w0 wr rb B s i L g bad (af:Int))) (fun mv wr=>if Qc mv then s.size+1-rdI wr rb else 0);case atStart=>exact⟨true,sk s i2,st.L,st.er,-1,rfl,lq,fun _=>⟨by omega,ai _⟩,.inl ⟨rfl,rfl,s.size+1,by omega,S8⟩,H2⟩
   case round=>
    obtain⟨m,i,L,g,bad,rfl,K8,hLL,HI,HS⟩:=hrel;have c3:=HS.c3;have _A:=qH<|HS.rdI;rcases HI.out with⟨rfl,rfl,fu,hfu,hkf⟩|⟨rfl,rfl,hen⟩|⟨b,rfl,rfl,hre⟩;·obtain⟨fu,rfl⟩:∃q,fu=q+1:=⟨fu-1,by omega⟩;obtain⟨_9,hLs⟩:=hLL rfl;have CN:=qH<|HN (up:Int) af ⟨i,L,g⟩ w0 wr HS (.inr ⟨by omega,by grind⟩) (by grind) (by grind);have S8:=qH<|hkf;cases hp:de s f (up:Int) af ⟨i,L,g⟩with
     |error b=>
      have fW:Hid (R=.error b):=by show _=_;rw[<-S8.out];exact Lt hp
      rw[hp]at CN;go_wp2_with fail;refine ao CN ?_;rintro e w3 ⟨rfl,i3,L3,g3,h3⟩;have G44:Hid (Cw 97 #[Pq rb,.int .u8 44] w3 fun e w'=>e=Rw (.bool false)/\RW w0 w' rb B s (mI s i3 44 b) L3 g3 (b:Int) (af:Int)):=by have:=wC 44 (by omega) h3 hs;rw[F']at this;exact this
      go_wp2_with fail;refine ao G44 ?_;rintro e w4 ⟨rfl,h4⟩;have H4:=qH<|h4;go_wp2_with fail;go_roundw;case rel=>exact⟨false,_,L3,g3,(b:Int),rfl,H4.il,fun e=>by omega,.inr (.inr ⟨b,rfl,rfl,fW⟩),H4⟩
      case measure=>rw[_A.out];show 0<s.size+1-i;omega
     |ok eD=>
      rw[hp]at CN;have HP:=qH<|hp;go_wp2_with fail;refine ao CN ?_;rintro e w3 ⟨rfl,h3,p3,l3⟩;have Gs:i<eD.i:=p3;have Fx:L.length<=eD.L.length:=l3;have G44:Hid (Cw 97 #[Pq rb,.int .u8 44] w3 fun e w'=>e=Rw (.bool (aT s eD.i 44))/\RW w0 w' rb B s (aA s eD.i 44) eD.L eD.er (-1) (af:Int)):=by have:=wC 44 (by omega) h3 hs;rw[WI,vF]at this;exact this
      have oW:=cu s eD.i 44;go_wp2_with fail;refine ao G44 ?_;rintro e w4 ⟨rfl,h4⟩;have H4:=qH<|h4;have HR4:=qH<|h4.rdI;have zcD:=h4.il;by_cases hm:aT s eD.i 44=true
      ·have mh:Hid (eI s (de s f (up:Int) af) fu ⟨aA s eD.i 44,eD.L,eD.er⟩=R):=by show _=_;rw[<-S8.out];exact(GN HP hm).symm
       rw[hm];go_wp2_with fail;go_roundw;case rel=>exact⟨true,aA s eD.i 44,eD.L,eD.er,-1,rfl,zcD,fun _=>⟨by omega,by omega⟩,.inl ⟨rfl,rfl,fu,by omega,mh⟩,H4⟩
       case measure=>rw[_A.out,HR4.out];show s.size+1-aA s eD.i 44<s.size+1-i;omega
      ·have hsk:=C_ hm;have mh:Hid (F5 s ⟨aA s eD.i 44,eD.L,eD.er⟩=R):=by show _=_;rw[<-S8.out,GM HP.out hm,hsk];exact TQ s eD
       rw[show aT s eD.i 44=false by simpa using hm];go_wp2_with fail;go_roundw;case rel=>exact⟨false,aA s eD.i 44,eD.L,eD.er,-1,rfl,zcD,fun _=>⟨by omega,by omega⟩,.inr (.inl ⟨rfl,rfl,mh⟩),H4⟩
       case measure=>rw[_A.out];show 0<s.size+1-i;omega
    ·obtain⟨_9,hLs⟩:=hLL rfl;have HEN:=qH<|hen;have BW:Hid (Cw 55 #[Pq rb,.int .u8 93] wr fun e w'=>e=Rw (.tuple #[])/\RW w0 w' rb B s (aA s i 93) L g (if aT s i 93 then-1 else(sk s i:Int)) (af:Int)):=by have:=gn 93 (by omega) HS hs;rw[DM,vF]at this;exact this
     have oW:=cu s i 93;go_wp2_with fail;refine ao BW ?_;rintro e w3 ⟨rfl,h3⟩;have H3:=qH<|h3;clear h3 BW c3;go_wp2;go_end0;refine⟨rfl,?_⟩;show ip _ _ _ _ _ _ _ _;rw[<-HEN.out];unfold F5 dd;have hh:=H3.out;by_cases hm:aT s i 93=true;·rw[if_pos hm]at hh;simp only[hm,if_true];exact⟨hh,by grind,hLs⟩
     ·rw[if_neg hm]at hh;simp only[hm];exact⟨_,_,_,hh⟩
    ·have fW:=qH<|hre;have hbf:decide ((b:Int)<0)=false:=decide_eq_false (by omega);have BW:Hid (Cw 55 #[Pq rb,.int .u8 93] wr fun e w'=>e=Rw (.tuple #[])/\RW w0 w' rb B s (mI s i 93 b) L g (b:Int) (af:Int)):=by have:=gn 93 (by omega) HS hs;rw[mX]at this;exact this
     clear hre HI hLL;go_wp2_with fail;refine ao BW ?_;rintro e w3 ⟨rfl,h3⟩;have H3:=qH<|h3;clear h3 BW c3;go_wp2;go_end0;refine⟨rfl,?_⟩;show ip _ _ _ _ _ _ _ _;rw[fW.out];exact⟨_,_,_,H3⟩
 ·have hR:sF s (de s f (up:Int) af) st=.error (sk s st.i):=by unfold sF dd;rw[if_neg hq]
  have HR:=qH<|hR;have BV:Hid (Cw 55 #[Pq rb,.int .u8 91] w fun e w'=>e=Rw (.tuple #[])/\RW w0 w' rb B s (aA s st.i 91) st.L st.er (sk s st.i:Int) (af:Int)):=by have:=gn 91 (by omega) h hs;rw[DM,if_neg hq,vF]at this;exact this
  have hbf:decide ((sk s st.i:Int)<0)=false:=decide_eq_false (by omega);rw[hR];clear hN hR h;go_enter func54,ntmps54;go_wp2_with fail;refine ao BV ?_;rintro e w1 ⟨rfl,h1⟩;have S5:Hid (Cw 97 #[Pq rb,.int .u8 93] w1 fun e w'=>e=Rw (.bool false)/\RW w0 w' rb B s (mI s (aA s st.i 91) 93 (sk s st.i:Int)) st.L st.er (sk s st.i:Int) (af:Int)):=by have:=wC 93 (by omega) h1 hs;rw[F']at this;exact this
  clear h1 BV;go_wp2_with fail;refine ao S5 ?_;rintro e w2 ⟨rfl,h2⟩;have H2:=qH<|h2;have E93:Hid (Cw 55 #[Pq rb,.int .u8 93] w2 fun e w'=>e=Rw (.tuple #[])/\RW w0 w' rb B s (mI s (mI s (aA s st.i 91) 93 (sk s st.i:Int)) 93 (sk s st.i:Int)) st.L st.er (sk s st.i:Int) (af:Int)):=by have:=gn 93 (by omega) h2 hs;rw[mX]at this;exact this
  clear h2 S5;go_wp2_with fail;go_loopw[4] (fun mv wr=>mv=.bool true/\wr=w2) (fun _ _=>0);case atStart=>grind
  case round=>obtain⟨rfl,rfl⟩:=hrel;have c3:=H2.c3;go_wp2_with fail;refine ao E93 ?_;rintro e w3 ⟨rfl,h3⟩;have H3:=qH<|h3;clear h3 E93 c3;go_wp2;go_end0;exact⟨rfl,_,_,_,H3⟩
theorem xS(rb B:Nat)(s:ByteArray)(i:Nat)(L:List Nd)(f:gW)(b:Nat)(aQ:Int)(w0 w:World)(h:RW w0 w rb B s i L f (b:Int) aQ)(hs:s.size<=1073741824):
 Cw 56 #[Pq rb] w fun e w'=>e=Rw (.string ByteArray.empty)/\∃p,RW w0 w' rb B s p L f (b:Int) aQ:=by
 have MU:Hid (Cw 55 #[Pq rb,.int .u8 34] w fun e w'=>e=Rw (.tuple #[])/\RW w0 w' rb B s (mI s i 34 b) L f (b:Int) aQ):=by have:=gn 34 (by omega) h hs;rw[mX]at this;exact this
 have hbf:decide ((b:Int)<0)=false:=decide_eq_false (by omega);clear h;go_enter func56,ntmps56;go_wp2_with fail;refine ao MU ?_;rintro e w1 ⟨rfl,h1⟩;have H1:=qH<|h1;clear h1 MU;go_wp2_with fail;go_loopw[3] (fun v wr=>wr=w1) (fun _ _=>0);case atStart=>exact rfl
 case round=>obtain rfl:=hrel;have c3:=H1.c3;go_wp2;go_ret;exact⟨rfl,_,H1⟩
theorem Jp{s}{i p}{t}(hi:i<=s.size)(h:fi s i=.ok (p,t)):i<=p/\p<=s.size:=by
 unfold fi at h;split at h;·have g:=Ek _ _ _ _ _ (eU (by omega) hi) h;grind[cu]
 grind
theorem L9{rb B:Nat}{s:ByteArray}{i:Nat}{L:List Nd}{f:gW}{aQ:Int}{w0 w:World}(h:RW w0 w rb B s i L f (-1) aQ)(hs:s.size<=1073741824):
 Cw 56 #[Pq rb] w fun e w'=>match fi s i with
  |.ok (p,t)=>e=Rw (.string ⟨t.toArray⟩)/\RW w0 w' rb B s p L f (-1) aQ
  |.error b=>e=Rw (.string ByteArray.empty)/\∃p,RW w0 w' rb B s p L f (b:Int) aQ:=by
 obtain⟨nv,AV,KV,er,at_,h1,h2,h3⟩:=h.mem;refine(Hg rb s i nv (-1) er at_ aQ w h1 hs h.il (by omega)).mono ?_;rintro e w' ⟨g,hq⟩;have Sy:=h.fr.trans (Fr.grown g h.le);have hrd:=h3.up (Up.grown g h.rbB);have hle:=aO h.le g.size;cases hR:fi s i with
 |error b=>rw[hR]at hq;obtain⟨rfl,p,hp,r⟩:=hq;exact⟨rfl,p,hp,fun e=>by omega,h.kl,h.rbB,hle,Sy,nv,AV,KV,er,at_,r,fun e=>by omega,hrd⟩
 |ok q=>obtain⟨p,t⟩:=q;rw[hR]at hq;obtain⟨rfl,r⟩:=hq;have hb:=Jp h.il hR;exact⟨rfl,hb.2,fun e=>aO (h.ll e) hb.1,h.kl,h.rbB,hle,Sy,nv,AV,KV,er,at_,r,fun e=>(h2 e).on hb.1,hrd⟩
theorem lN  L   k   x  :(aH L k x).length=L.length:=by unfold aH;simp
theorem xZ{L}{k}(hk:k<L.length)  x   j  :(ae (aH L k x) j).kids=(ae L j).kids:=by grind[aH,bj,aV]
theorem RW.text{W0 W}{rb B i}{s}{L}{f}{bad aQ}(h:RW W0 W rb B s i L f bad aQ){k}(hk:k<L.length):
 ∃g cap,W.cell? (az rb 2)=some (Sq g L.length cap)/\(∃u,W.cell? (az g (k*5+2))=some u)/\W.frozen? (az g (k*5+2))=false/\L.length<=cap/\g≠rb/\∀x,RW W0 (W.setCell (az g (k*5+2)) (.string ⟨x.toArray⟩)) rb B s i (aH L k x) f bad aQ:=by obtain⟨nv,AV,KV,er,at_,h1,h2,h3⟩:=h.mem;obtain⟨g,cap,rfl,T7,kV,hc,_⟩:=h3.nr.form (by omega);have hrb:=h.rbB;refine⟨g,cap,h1.c2,⟨_,h3.nr.cell hk rfl⟩,h3.nr.frozen _,hc,by omega,fun x=>?_⟩;have _5:=ct W g (k*5+2) (.string ⟨x.toArray⟩);refine⟨h.il,fun e=>by rw[lN];exact h.ll e,fun j=>by rw[xZ hk,lN];exact h.kl j,h.rbB,by simpa[World.setCell]using h.le,h.fr.trans (Fr.own _5 h.le (fun q e=>by grind)),_,AV,KV,er,at_,RS.other h1 (by omega) _,h2,h3.setText hk x⟩
