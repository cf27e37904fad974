import Derived.Test.YtaanagpadfcmlaaGreatDoorQ22
import Derived.Test.YtaanagpadfcmlaaGreatDoorQ21
import Derived.Test.YtaanagpadfcmlaaGreatDoorQ09
set_option linter.all false
set_option maxRecDepth 100000
set_option maxHeartbeats 16000000
namespace Go.Proofs.YtaanagpadfcmlaaGreatDoor
open Go.RowKit Go.Proofs.Tryz
def fd(E:Nat->Addr):fA->Value
 |none=>.nilIface
 |some (c,p)=>cP (p:Int) (bi (E c))
structure M7(W:World)(rb ab B:Nat)(E:Nat->Addr):Prop where
 tab:GL W ab
 lo:9<=rb
 rbB:rb<B
 abB:ab<B
 ne:ab≠rb
 le:B<=W.heap.size
 g2:W.cell? (aj 7 0)=some (bi (E 2))
 g3:W.cell? (aj 1 0)=some (bi (E 3))
 g4:W.cell? (aj 2 0)=some (bi (E 4))
 g5:W.cell? (aj 3 0)=some (bi (E 5))
 g6:W.cell? (aj 4 0)=some (bi (E 6))
 g7:W.cell? (aj 5 0)=some (bi (E 7))
theorem M7.fr{W W'}{rb ab B}{E}(h:M7 W rb ab B E)(f:Fr B rb W W'):M7 W' rb ab B E:=by have lo:=h.lo;have a:=h.rbB;exact⟨h.tab.fr f h.abB h.ne,h.lo,h.rbB,h.abB,h.ne,aF h.le f.size,f.cell h.g2 rd rd,f.cell h.g3 rd rd,f.cell h.g4 rd rd,f.cell h.g5 rd rd,f.cell h.g6 rd rd,f.cell h.g7 rd rd⟩
def iY(er:fA)(eo:Option Nat)(p:Nat):fA:=match eo with
 |none=>er
 |some c=>gI er c p
def Pb(E:Nat->Addr):Option Nat->Value
 |none=>.nilIface
 |some c=>bi (E c)
theorem keep_all rb s i a nv E g d(p:Nat)w(h:PR w rb s i a nv (fd E g)):
 Cw 118 #[Pq rb,Pb E d,Iq (p:Int)] w λe w'=>e=Rw (.tuple #[])/\PR w' rb s i a nv (fd E (iY g d p))/\w.grownBy w' (some rb):=by
 cases d with
 |none=>exact IG rb s i a nv _ p w h
 |some c=>
  cases g with
  |none=>exact Br rb s i a nv (E c) p w h
  |some f=>obtain⟨c2,j⟩:=f;exact Bu rb s i a nv (E c) (E c2) p j w h
structure F2(r b:Nat)(W W':World):Prop where
 os:W'.os=W.os
 tape:W'.tape=W.tape
 output:W'.output=W.output
 size:W.heap.size<=W'.heap.size
 block:∀k,k<W.heap.size->k≠r->k≠b->W'.heap[k]?=W.heap[k]?
theorem F2.trans{r b}{W a d}(h:F2 r b W a)(k:F2 r b a d):F2 r b W d:=
 ⟨k.os.trans h.os,k.tape.trans h.tape,k.output.trans h.output,aF h.size k.size,λq h1 e g=>(k.block q (zz007 h1 h.size) e g).trans (h.block q h1 e g)⟩
theorem F2.left{r b}{W W'}(h:W.grownBy W' (some r)):F2 r b W W':=⟨h.os,h.tape,h.output,h.size,λk h1 a d=>h.block k h1 rd⟩
theorem F2.right{r b}{W W'}(h:W.grownBy W' (some b)):F2 r b W W':=⟨h.os,h.tape,h.output,h.size,λk h1 a d=>h.block k h1 rd⟩
theorem F2.below{r b}{W W'}(h:Bt W W'):F2 r b W W':=⟨h.os,h.tape,h.output,h.size,λk h1 a d=>h.block k h1⟩
theorem F2.fr{r b B}{W W'}(h:F2 r b W W')(d:B<=W.heap.size)(e:B<=b):Fr B r W W':=⟨h.os,h.tape,h.output,h.size,λk h1 a=>h.block k dg a dg⟩
def pA(name:ByteArray)(kind:Nat)(ws:List ByteArray):Option Nat:=match dY name kind 12 0 with
 |none=>some 7
 |some _=>if 0<=aI ws name 0 then some 5 else none
def uN(name:ByteArray)(kind:Nat):Nat:=(dY name kind 12 0).getD 0
def vG(L:List Nd)(k:Nat)(n:Int):Option Nat:=if me k<n then some 6 else if tb L k n=true then some 5 else none
def Jk(L:List Nd)(j:Nat)(er:fA)(at_:Nat)(t:ByteArray)(e j2 ix:Nat)(n:Int):Option Nat->Except Nat (Nat×fA×List Nd×ByteArray)
 |some c=>.ok (e,iY er (some c) at_,L,t)
 |none=>.ok (e,iY er (vG L ix n) j2,setL L j ix n,t)
def pE(s:ByteArray)(kind:Nat)(ws:List ByteArray)(L:List Nd)(j:Nat)(er:fA)(at_:Nat)(t:ByteArray)(i2:Nat):Except Nat (Nat×fA×List Nd×ByteArray):=
 if jq s (sk s i2) (run aP s (sk s i2))=true then .error (sk s i2)else Jk L j er at_ t (run aP s (sk s i2)) (sk s i2) (uN t kind) (dv s (sk s i2) (run aP s (sk s i2)-sk s i2)) (pA t kind ws)
def eD(s:ByteArray)(kind:Nat)(ws:List ByteArray)(L:List Nd)(j i:Nat)(er:fA):Except Nat (Nat×fA×List Nd×ByteArray):=
 if run ao s (sk s i)=sk s i then .error (sk s i)
 else if aL s (run ao s (sk s i)) 61=true then pE s kind ws L j er (sk s i) (s.extract (sk s i) (run ao s (sk s i))) (am s (run ao s (sk s i)) 61)
 else .error (sk s (run ao s (sk s i)))
def GH(w w':World)(e:Ending)(rb B bl:Nat)(E:Nat->Addr)(s:ByteArray)(av nv:Value)(KV:Nat->Value)(r:Except Nat (Nat×fA×List Nd×ByteArray)):Prop:=
 F2 rb bl w w'/\match r with
 |.error b=>e=.panicked [{v:=cP (b:Int) (bi (E 2)),recovered:=false}]
 |.ok (i,er,L,name)=>e=Rw (.string name)/\PR w' rb s i av nv (fd E er)/\PN w' B nv L KV
theorem yO name a:∀f j k,dY name a f j=some k->j<=k/\k<j+f
 |0,j,k,h=>by cases h
 |f+1,j,k,h=>by
  unfold dY at h;split at h;·grind
  ·have:=yO name a f (j+1) k h;omega
theorem MB L k n E:Co L k n (E 6) (E 5)=Pb E (vG L k n):=by
 unfold Co vG;split;·rfl
 ·split<;>rfl
theorem GR{t}{a c}{d}(E:Nat->Addr)(h:pA t a d=some c):qm t a d (E 7) (E 5)=.tuple #[sB,bi (E c)]:=by grind[pA,qm,dY,aI]
theorem GQ{t}{a}{d}(E:Nat->Addr)(h:pA t a d=none):uN t a<12/\qm t a d (E 7) (E 5)=.tuple #[rL (uN t a),.nilIface]:=by
 unfold pA at h;unfold qm uN;cases e:dY t a 12 0 with
 |none=>grind
 |some q=>
  rw[e]at h;by_cases g:0<=aI d t 0;·grind
  ·have:=yO t a 12 0 q e;grind
theorem qj.f2{W W'}{v}{d}{r b}(h:qj W v d)(f:F2 r b W W')(k:∀q,v.ownBlock=some q->q≠r/\q≠b):qj W' v d:=by
 obtain⟨p,c,rfl,rfl|⟨a,rfl,h1,e⟩⟩:=h;·exact⟨p,c,rfl,.inl rfl⟩
 ·have:=k a rfl;exact⟨_,c,rfl,.inr ⟨a,rfl,zz007 h1 f.size,λj g=>(bf (f.block a h1 this.1 this.2)).trans (e j g)⟩⟩
theorem readAttribute_any(rb ab B:Nat)(E:Nat->Addr)(s:ByteArray)(i:Nat)(m:fA)(L:List Nd)(KV:Nat->Value)(bl o j d:Nat)(v:Value)(y:List ByteArray)(w:World)(zu:M7 w rb ab B E)(h:PR w rb s i (Sq ab 12 12) (Sq bl L.length o) (fd E m))(hn:PN w B (Sq bl L.length o) L KV)(hL:L.length<=100000)(hj:j<L.length)(zX:(aa L j).kind=d)(zV:d<7)(hv:qj w v y)(zZ:∀q,v.ownBlock=some q->q≠rb/\q≠bl)(Y4:y.length<=1099511627776)(hs:s.size<=1073741824)(hi:i<=s.size):
 Cw 180 #[Pq rb,.pointer (some (aj bl (j*16))),v] w λe w'=>GH w w' e rb B bl E s (Sq ab 12 12) (Sq bl L.length o) KV (eD s d y L j i m):=by
 obtain⟨av,zc⟩:=ad (Sq ab 12 12);obtain⟨nv,hnv⟩:=ad (Sq bl L.length o);have A:=zu.rbB;have Q6:=zu.lo;have CW:=ni rb s i (Sq ab 12 12) (Sq bl L.length o) (fd E m) w h dg hi;obtain⟨at_,zv⟩:=ad (sk s i);have zG:at_<=s.size:=by rw[<-zv];exact dX s i hi
 obtain⟨k,hk⟩:=ad (run ao s at_);have J:k<=s.size:=by rw[<-hk];exact h_ _ _ _ zG
 have SS:at_<=k:=by rw[<-hk];exact g_ _ _ _
 obtain⟨t,ht⟩:=ad (s.extract at_ k);rw[zv,hk,ht]at CW;have HP:Hid (eD s d y L j i m=if k=at_ then .error at_ else if aL s k 61=true then pE s d y L j m at_ t (am s k 61)else .error (sk s k)):=by show _=_;unfold eD;rw[zv,hk,ht]
 have zA:=qH<|CW;have za:=qH<|zu;have HN:=qH<|hn;have HX:=qH<|hv;have Ly:t.size=k-at_:=by rw[<-ht];simp;omega
 have zO:=qH<|zX;obtain⟨pv,cv,zY⟩:∃p c,v=.slice p y.length c:=by obtain⟨p,c,e,_⟩:=hv;grind
 subst zY;by_cases zI:k=at_
 ·have zR:Hid (eD s d y L j i m=.error at_):=by show _=_;rw[HP.out,if_pos zI]
  have et:t.toList.isEmpty=true:=by
   rw[ByteArray.toList_eq];have:t.data.size=0:=by show t.size=0;omega
   simp[NX this]
  have HT:Hid (∀W,W.cell? (aj 7 0)=some (bi (E 2))->Cw 57 #[Iq (at_:Int)] W λe w'=>e=Rw (.iface 131 (.agg #[Iq (at_:Int),.iface 376 (.pointer (some (E 2)))]))/\w'=W):=λW he=>fh _ W (E 2) he;go_enter func180,ntmps180;go_wp2_with fail;refine zA.mono ?_;rintro e w1 ⟨rfl,h1,g1⟩;have zn:=qH<|g1;have C:=qH<|za.fr (Fr.grown g1 za.le);go_wp2_with fail;refine(HT _ C.g2).mono ?_;rintro e Y ⟨rfl,hw⟩;obtain rfl:=hw.symm;go_wp2;refine⟨rfl,?_⟩;rw[zR.out];exact⟨F2.left zn,rfl⟩
 ·have S:Hid (eD s d y L j i m=if aL s k 61=true then pE s d y L j m at_ t (am s k 61)else .error (sk s k)):=by show _=_;rw[HP.out,if_neg zI]
  have et:t.toList.isEmpty=false:=by
   rw[ByteArray.toList_eq];have:t.data.size≠0:=by show t.size≠0;omega
   cases hd:t.data.toList with
   |nil=>grind
   |cons a r=>rfl
  go_enter func180,ntmps180;go_wp2_with fail;refine zA.mono ?_;rintro e w1 ⟨rfl,h1,g1⟩;have zn:=qH<|g1;have C:=qH<|za.fr (Fr.grown g1 za.le);have zC:=qH<|HN.up (Up.grown g1 A);have zS:=qH<|h1;have zU:=qH<|HX.f2 (F2.left (b:=bl) g1) zZ;have ck:w1.cell? (aj bl (j*16))=some (Iq (d:Int)):=by have:=zC.nr.cells bl rfl j hj 0 _ (Mj _ _);rw[zO.out]at this;exact this
  have CA:=qH<|attributeOf_any rb ab s k _ _ d t _ y (E 7) (E 5) w1 h1 C.tab zV zU Y4 C.g7 C.g5;go_wp2_with fail;refine CA.mono ?_;rintro e Y ⟨rfl,ze⟩;have zB:Hid (F2 rb bl w Y):=(F2.left zn).trans (F2.below ze);have I:=qH<|C.fr (Fr.below ze C.le);have zD:=qH<|zC.up (Up.below ze);have zb:=qH<|zS.below ze;cases hao:pA t d y with
  |some c=>
   have zj:=qH<|hao;have zJ:Hid (qm t d y (E 7) (E 5)=.tuple #[.agg #[.string ⟨#[]⟩,.int .u64 0,Iq 0,Iq 0,.bool false,.nilFunc],.iface 376 (.pointer (some (E c)))]):=GR E hao;rw[zJ.out];have x:Hid (Bt Y (Y.alloc (.cells #[.string ⟨#[]⟩,.int .u64 0,Iq 0,Iq 0,.bool false,.nilFunc] 195))):=(af _ _).alloc (ae _) _;have CK:Hid (Cw 118 #[Pq rb,.iface 376 (.pointer (some (E c))),Iq (at_:Int)] (Y.alloc (.cells #[.string ⟨#[]⟩,.int .u64 0,Iq 0,Iq 0,.bool false,.nilFunc] 195)) λe w'=>e=Rw (.tuple #[])/\PR w' rb s k (Sq ab 12 12) (Sq bl L.length o) (fd E (iY m (some c) at_))/\(Y.alloc (.cells #[.string ⟨#[]⟩,.int .u64 0,Iq 0,Iq 0,.bool false,.nilFunc] 195)).grownBy w' (some rb)):=keep_all rb s k _ _ E m (some c) at_ _ (zb.below x);go_wp2_with fail;refine CK.mono ?_;rintro e K ⟨rfl,h4,g4⟩;have T:=qH<|h4;have Q:=qH<|zB.trans ((F2.below x).trans (F2.left g4));have D:=qH<|(I.fr (Fr.below x I.le)).fr (Fr.grown g4 (aF I.le x.size));have zo:=qH<|(zD.up (Up.below x)).up (Up.grown g4 A);by_cases Z:aL s k 61=true
   ·have G:am s k 61<=s.size:=dK dg J;have CX:Hid (Cw 124 #[Pq rb,.int .u8 61] K λe w'=>e=Rw (.tuple #[])/\PR w' rb s (am s k 61) (Sq ab 12 12) (Sq bl L.length o) (fd E (iY m (some c) at_))/\K.grownBy w' (some rb)):=gR rb s k _ _ _ 61 K T dg J dg Z;have u:Hid (eD s d y L j i m=pE s d y L j m at_ t (am s k 61)):=by show _=_;rw[S.out,if_pos Z]
    obtain⟨l,X⟩:=ad (am s k 61);rw[X]at CX u G;go_wp2_with fail;refine CX.mono ?_;rintro e w5 ⟨rfl,h5,M⟩;have R:=qH<|Q.trans (F2.left M);have P:=qH<|D.fr (Fr.grown M D.le);have zq:=qH<|zo.up (Up.grown M A);have U:=qH<|h5;by_cases hb:run aP s (sk s l)=sk s l\/sk s l+6<run aP s (sk s l)\/(sk s l+1<run aP s (sk s l)/\dh s (sk s l)=48)
    ·have CN:=qH<|readNumber_no rb s l _ _ _ (E 2) w5 U dg G dg P.g2 hb;have z:Hid (eD s d y L j i m=.error (sk s l)):=by show _=_;rw[u.out];unfold pE jq;rw[if_pos (decide_eq_true hb)]
     go_wp2_with fail;refine CN.mono ?_;rintro e O ⟨rfl,V⟩;refine⟨rfl,?_⟩;rw[z.out];exact⟨R.trans (F2.left V),rfl⟩
    ·have CN:=qH<|readNumber_yes rb s l _ _ _ w5 U dg G hb;have z:Hid (eD s d y L j i m=Jk L j m at_ t (run aP s (sk s l)) (sk s l) (uN t d) (dv s (sk s l) (run aP s (sk s l)-sk s l)) ((some c))):=by show _=_;rw[u.out];unfold pE jq;rw[if_neg (by simpa using hb),zj.out]
     obtain⟨n,hn⟩:=ad (dv s (sk s l) (run aP s (sk s l)-sk s l));obtain⟨j2,zx⟩:=ad (sk s l);obtain⟨e2,zw⟩:=ad (run aP s j2);rw[hn,zx,zw]at CN z;go_wp2_with fail;refine CN.mono ?_;rintro e O ⟨rfl,h6,V⟩;have zm:=qH<|R.trans (F2.left V);have zr:=qH<|zq.up (Up.grown V A);have zt:=qH<|h6;go_wp2;go_ret;show GH _ _ _ _ _ _ _ _ _ _ _ _;rw[z.out];exact⟨zm,rfl,zt,zr⟩
   ·have zg:aL s k 61=false:=by simpa using Z
    have CX:Hid (Cw 124 #[Pq rb,.int .u8 61] K λe w'=>e=.panicked [{v:=cP (sk s k:Int) (bi (E 2)),recovered:=false}]/\K.grownBy w' (some rb)):=iS rb s k _ _ _ (E 2) 61 K T dg J dg zg dg D.g2;have u:Hid (eD s d y L j i m=.error (sk s k)):=by show _=_;rw[S.out,if_neg Z]
    go_wp2_with fail;refine CX.mono ?_;rintro e w5 ⟨rfl,M⟩;refine⟨rfl,?_⟩;rw[u.out];exact⟨Q.trans (F2.left M),rfl⟩
  |none=>
   have zj:=qH<|hao;obtain⟨zH,zc⟩:=GQ E hao;obtain⟨ix,zh⟩:=ad (uN t d);have zN:=qH<|zh;rw[zh]at zH zc;obtain⟨a0,a1,a2,a3,a4,g,hrow⟩:∃a0 a1 a2 a3 a4 g,rL ix=.agg #[.string a0,.int .u64 ((a1:Nat):Int),Iq a2,Iq a3,.bool a4,.func (.func g) #[] #[]]:=⟨_,_,_,_,_,_,rfl⟩;have zE:=qH<|hrow;rw[hrow]at zc;rw[zc];have x:Hid (Bt Y (Y.alloc (.cells #[.string a0,.int .u64 (a1:Int),Iq a2,Iq a3,.bool a4,.func (.func g) #[] #[]] 195))):=(af _ _).alloc (ae _) _;have CK:Hid (Cw 118 #[Pq rb,.nilIface,Iq (at_:Int)] (Y.alloc (.cells #[.string a0,.int .u64 (a1:Int),Iq a2,Iq a3,.bool a4,.func (.func g) #[] #[]] 195)) λe w'=>e=Rw (.tuple #[])/\PR w' rb s k (Sq ab 12 12) (Sq bl L.length o) (fd E (m))/\(Y.alloc (.cells #[.string a0,.int .u64 (a1:Int),Iq a2,Iq a3,.bool a4,.func (.func g) #[] #[]] 195)).grownBy w' (some rb)):=keep_all rb s k _ _ E m none at_ _ (zb.below x);go_wp2_with fail;refine CK.mono ?_;rintro e K ⟨rfl,h4,g4⟩;have T:=qH<|h4;have Q:=qH<|zB.trans ((F2.below x).trans (F2.left g4));have D:=qH<|(I.fr (Fr.below x I.le)).fr (Fr.grown g4 (aF I.le x.size));have zo:=qH<|(zD.up (Up.below x)).up (Up.grown g4 A);have zk:=qH<|(g4.block _ rn (by simp;have:=zb.lt;omega)).trans (heap_alloc_new _ _);have Y0:=zb.lt;obtain⟨P3,zF⟩:=ad Y.heap.size;rw[zF]at zk;rw[zF];have XA:P3≠rb:=dg
   by_cases Z:aL s k 61=true
   ·have G:am s k 61<=s.size:=dK dg J;have CX:Hid (Cw 124 #[Pq rb,.int .u8 61] K λe w'=>e=Rw (.tuple #[])/\PR w' rb s (am s k 61) (Sq ab 12 12) (Sq bl L.length o) (fd E (m))/\K.grownBy w' (some rb)):=gR rb s k _ _ _ 61 K T dg J dg Z;have u:Hid (eD s d y L j i m=pE s d y L j m at_ t (am s k 61)):=by show _=_;rw[S.out,if_pos Z]
    obtain⟨l,X⟩:=ad (am s k 61);rw[X]at CX u G;go_wp2_with fail;refine CX.mono ?_;rintro e w5 ⟨rfl,h5,M⟩;have R:=qH<|Q.trans (F2.left M);have P:=qH<|D.fr (Fr.grown M D.le);have zq:=qH<|zo.up (Up.grown M A);have U:=qH<|h5;have zz:=qH<|(M.block _ (aD.1 zk).1 (by simp;omega)).trans zk;by_cases hb:run aP s (sk s l)=sk s l\/sk s l+6<run aP s (sk s l)\/(sk s l+1<run aP s (sk s l)/\dh s (sk s l)=48)
    ·have CN:=qH<|readNumber_no rb s l _ _ _ (E 2) w5 U dg G dg P.g2 hb;have z:Hid (eD s d y L j i m=.error (sk s l)):=by show _=_;rw[u.out];unfold pE jq;rw[if_pos (decide_eq_true hb)]
     go_wp2_with fail;refine CN.mono ?_;rintro e O ⟨rfl,V⟩;refine⟨rfl,?_⟩;rw[z.out];exact⟨R.trans (F2.left V),rfl⟩
    ·have CN:=qH<|readNumber_yes rb s l _ _ _ w5 U dg G hb;have z:Hid (eD s d y L j i m=Jk L j m at_ t (run aP s (sk s l)) (sk s l) (uN t d) (dv s (sk s l) (run aP s (sk s l)-sk s l)) (none)):=by show _=_;rw[u.out];unfold pE jq;rw[if_neg (by simpa using hb),zj.out]
     obtain⟨n,hn⟩:=ad (dv s (sk s l) (run aP s (sk s l)-sk s l));obtain⟨j2,zx⟩:=ad (sk s l);obtain⟨e2,zw⟩:=ad (run aP s j2);rw[hn,zx,zw]at CN z;go_wp2_with fail;refine CN.mono ?_;rintro e O ⟨rfl,h6,V⟩;have zm:=qH<|R.trans (F2.left V);have zl:=qH<|P.fr (Fr.grown V P.le);have zr:=qH<|zq.up (Up.grown V A);have zt:=qH<|h6;have zK:=qH<|(V.block _ (aD.1 zz).1 (by simp;omega)).trans zz;have F:=zK.out;have y0:O.cell? (aj P3 0)=some (.string a0):=by simp[World.cell?,F]
     have y1:O.cell? (aj P3 1)=some (.int .u64 (a1:Int)):=by simp[World.cell?,F]
     have y2:O.cell? (aj P3 2)=some (Iq a2):=by simp[World.cell?,F]
     have y3:O.cell? (aj P3 3)=some (Iq a3):=by simp[World.cell?,F]
     have y4:O.cell? (aj P3 4)=some (.bool a4):=by simp[World.cell?,F]
     have y5:O.cell? (aj P3 5)=some (.func (.func g) #[] #[]):=by simp[World.cell?,F]
     clear F;have CS:Hid (Cw 218 #[Pq rb,.pointer (some (aj bl (j*16))),.agg #[.string a0,.int .u64 (a1:Int),Iq a2,Iq a3,.bool a4,.func (.func g) #[] #[]],Iq n] O λe w'=>O.grownBy w' (some bl)/\e=Rw (Pb E (vG L ix n))/\PR w' rb s e2 (Sq ab 12 12) (Sq bl L.length o) (fd E (m))/\PN w' B (Sq bl L.length o) (setL L j ix n) KV):=by have zi:=MC rb B s e2 (Sq ab 12 12) (fd E (m)) L KV bl o j ix zH n (E 6) (E 5) O zt zr hL hj A zl.le dg dg dg dg zl.g6 zl.g5;rw[zE.out]at zi;exact zi.mono λe w' ⟨q1,q2,q3,q4,_⟩=>⟨q1,by rw[q2,MB],q3,q4⟩
     go_wp2_with fail;refine CS.mono ?_;rintro e w7 ⟨g7,rfl,h7,n7⟩;have zL:=qH<|zm.trans (F2.right g7);have zP:=qH<|n7;have zy:=qH<|keep_all rb s e2 _ _ E (m) (vG L ix n) j2 w7 h7;clear g7 h7 n7 CS y0 y1 y2 y3 y4 y5;go_wp2_with fail;refine zy.mono ?_;rintro e w8 ⟨rfl,h8,g8⟩;have zT:=qH<|h8;have zM:=qH<|zL.trans (F2.left g8);have zQ:=qH<|zP.up (Up.grown g8 A);clear h8 g8 zy;go_wp2;go_ret;show GH _ _ _ _ _ _ _ _ _ _ _ _;rw[z.out,zN.out];exact⟨zM,rfl,zT,zQ⟩
   ·have zg:aL s k 61=false:=by simpa using Z
    have CX:Hid (Cw 124 #[Pq rb,.int .u8 61] K λe w'=>e=.panicked [{v:=cP (sk s k:Int) (bi (E 2)),recovered:=false}]/\K.grownBy w' (some rb)):=iS rb s k _ _ _ (E 2) 61 K T dg J dg zg dg D.g2;have u:Hid (eD s d y L j i m=.error (sk s k)):=by show _=_;rw[S.out,if_neg Z]
    clear Z zg S;go_wp2_with fail;refine CX.mono ?_;rintro e w5 ⟨rfl,M⟩;refine⟨rfl,?_⟩;rw[u.out];exact⟨Q.trans (F2.left M),rfl⟩
def mj(s:ByteArray)(i:Nat)(er:fA)(L:List Nd):Except Nat (Nat×fA×List Nd):=if aL s i 125=true then .ok (am s i 125,er,L)else .error (sk s i)
def dL(s:ByteArray)(kind j:Nat):Nat->Nat->fA->List Nd->List ByteArray->Except Nat (Nat×fA×List Nd)
 |0,i,_,_,_=>.error i
 |f+1,i,er,L,ws=>match eD s kind ws L j i er with
  |.error b=>.error b
  |.ok (i2,Gq,L2,t)=>if aL s i2 59=true then dL s kind j f (am s i2 59) Gq L2 (ws++[t])else mj s (am s i2 59) Gq L2
theorem o6 L j k n:(setL L j k n).length=L.length:=by grind[setL]
theorem F' L j k q n:(aa (setL L j k n) q).kind=(aa L q).kind:=by grind[setL,aT,aa,aN]
theorem Dm{s}{i c}(h:aL s i c=true):am s i c=sk s i+1:=by grind[aL,am]
theorem yf{s}{a}{v}{L}{j i}{k}{g}{e}{d}{t}(hi:i<=s.size)(h:eD s a v L j i k=.ok (g,e,d,t)):i<g/\g<=s.size/\d.length=L.length/\∀q,(aa d q).kind=(aa L q).kind:=by
 unfold eD at h;have h1:=du s i;have n:=dX s i hi;have w:=g_ ao s (sk s i);have o:=h_ ao s (sk s i) n;split at h;·cases h
 ·split at h
  ·rename_i u;have x:=Dm u;have y:=du s (run ao s (sk s i));have p:=dK (s:=s) (i:=run ao s (sk s i)) (c:=61) dg o;unfold pE at h;have z:=du s (am s (run ao s (sk s i)) 61);have r:=dX s _ p;have l:=g_ aP s (sk s (am s (run ao s (sk s i)) 61));have m:=h_ aP s _ r;split at h;·cases h
   ·unfold Jk at h;grind[o6,F']
  grind
theorem pW:(prog.info? 9).map (λi=>(i.zero,i.size,i.bytes))=some (some (.string ⟨#[]⟩),1,16):=ns
theorem J0{W}{B}{v}{a}(h:W.ownsRow B 9 1 v a.length (a.map Value.string)):qj W v a:=by
 rcases cU h with⟨rfl,e⟩|⟨g,d,rfl,h1,k,_⟩;·have:=kO e;subst this;exact⟨_,_,rfl,.inl rfl⟩
 ·refine⟨_,_,rfl,.inr ⟨g,rfl,k,λj l=>?_⟩⟩;rw[aZ,h.cellAt j dg];simp[l]
theorem own_f2{W W'}{B n size r b}{e}{v}{k}(h:W.ownsRow B e size v n k)(f:F2 r b W W')(l:∀q,v.ownBlock=some q->q≠r/\q≠b):W'.ownsRow B e size v n k:=by
 refine⟨h.1,?_⟩;rcases h.2 with m|⟨g,a,j,rfl,b,c,d⟩;·grind
 ·have:=l g rfl;refine .inr ⟨g,a,j,rfl,b,?_,d⟩;rw[f.block g (aD.1 c).1 this.1 this.2];exact c
structure TU(N:Nat)(W W':World):Prop where
 os:W'.os=W.os
 tape:W'.tape=W.tape
 output:W'.output=W.output
 size:W.heap.size<=W'.heap.size
 block:∀k,k<N->k<W.heap.size->W'.heap[k]?=W.heap[k]?
theorem F2.plus{r b}{W0 W W'}(h:F2 r b W0 W)(k:TU W0.heap.size W W'):F2 r b W0 W':=
 ⟨k.os.trans h.os,k.tape.trans h.tape,k.output.trans h.output,aF h.size k.size,λq h1 a d=>(k.block q h1 (zz007 h1 h.size)).trans (h.block q h1 a d)⟩
theorem F2.other{W0 W W':World}{o}(h:W.grownBy W' o)(d:∀q,o=some q->W0.heap.size<=q):TU W0.heap.size W W':=⟨h.os,h.tape,h.output,h.size,λk h1 a=>h.block k a (λe=>rd)⟩
theorem PN.beside{W W'}{B}{nv}{L}{KV}{v}{N m p}{q}(h:PN W B nv L KV)(n:W.ownsRow N 9 p v m q)(e:W.grownBy W' v.ownBlock):PN W' B nv L KV:=by refine⟨?_,h.len⟩;obtain⟨r,l⟩:=h.nr.row;refine⟨⟨r,l.kept e (eL l n (by decide))⟩,λg a j d t u k=>?_,h.nr.len,λj d=>(h.nr.kids j d).kept e (eL (h.nr.kids j d) n (by decide)),h.nr.sep⟩;have o:=l.lt g a;rw[bf (e.block g o.2 (by grind[eL]))];exact h.nr.cells g a j d t u k
def GI(w w':World)(e:Ending)(rb B bl:Nat)(E:Nat->Addr)(s:ByteArray)(av nv:Value)(KV:Nat->Value)(n:Nat)(r:Except Nat (Nat×fA×List Nd)):Prop:=
 F2 rb bl w w'/\match r with
 |.error b=>e=.panicked [{v:=cP (b:Int) (bi (E 2)),recovered:=false}]
 |.ok (i,er,L)=>e=Rw (.tuple #[])/\PR w' rb s i av nv (fd E er)/\PN w' B nv L KV/\L.length=n
structure R6(W0 W:World)(rb ab B bl n0 cap j kind:Nat)(E:Nat->Addr)(s:ByteArray)(i:Nat)(er:fA)(L:List Nd)(KV:Nat->Value)(v:Value)(ws:List ByteArray):Prop where
 env:M7 W rb ab B E
 pr:PR W rb s i (Sq ab 12 12) (Sq bl n0 cap) (fd E er)
 pn:PN W B (Sq bl n0 cap) L KV
 len:L.length=n0
 kind:(aa L j).kind=kind
 row:W.ownsRow W0.heap.size 9 1 v ws.length (ws.map Value.string)
 wl:ws.length<=i
 il:i<=s.size
 fr:F2 rb bl W0 W
theorem readAttributes_any(rb ab B:Nat)(E:Nat->Addr)(s:ByteArray)(i:Nat)(l:fA)(L:List Nd)(KV:Nat->Value)(bl d j a:Nat)(w:World)(D:M7 w rb ab B E)(h:PR w rb s i (Sq ab 12 12) (Sq bl L.length d) (fd E l))(hn:PN w B (Sq bl L.length d) L KV)(hL:L.length<=100000)(hj:j<L.length)(zq:(aa L j).kind=a)(zo:a<7)(hs:s.size<=1073741824)(hi:i<=s.size):
 Cw 122 #[Pq rb,.pointer (some (aj bl (j*16)))] w λe w'=>GI w w' e rb B bl E s (Sq ab 12 12) (Sq bl L.length d) KV L.length (dL s a j (s.size+1) i l L []):=by
 obtain⟨R,hR⟩:=ad (dL s a j (s.size+1) i l L []);rw[hR];have zl:=hn.nr.row.choose_spec.lt bl rfl;have zu:=h.lt;obtain⟨n0,Q⟩:=ad L.length;rw[Q]at h hn hL hj⊢;have H0:Hid (R6 w w rb ab B bl n0 d j a E s i l L KV (.slice none 0 0) []):=⟨D,h,hn,Q,zq,eO _ _ _ _,aR _,hi,F2.below (af _ _)⟩;have HR:=qH<|hR;obtain⟨i0,zn,zv,zw,zx⟩:=info_parts pW;have T:=D.rbB;have zz:=D.lo;go_enter func122,ntmps122;go_wp2;go_loopw[4,5] (λv b wr=>∃(i:Nat) (l:fA) (L:List Nd) (C:List ByteArray) (f:Nat) (m:Bool),b=.bool m/\Hid (R6 w wr rb ab B bl n0 d j a E s i l L KV v C)/\s.size<f+i/\Hid ((if m=true then dL s a j f i l L C else mj s i l L)=R)) (λ_ b wr=>2*(s.size-prI wr rb)+(match b with|.bool true=>1|_=>0));case atStart=>grind
 case round=>
  obtain⟨i,l,L,C,f,m,rfl,HS,hf,y⟩:=hrel;have A:=HS.il;have zB:=HS.wl;cases m with
  |true=>
   obtain⟨f,rfl⟩:∃q,f=q+1:=⟨f-1,dg⟩;have hl:=HS.len;subst hl;have S:∀q,u4.ownBlock=some q->q≠rb/\q≠bl:=λq o=>by have:=(HS.row.lt q o).1;omega
   have CR:=qH<|readAttribute_any rb ab B E s i l L KV bl d j a u4 C wr HS.env HS.pr HS.pn hL hj HS.kind zo (J0 HS.row) S dg hs A;cases hp:eD s a C L j i l with
   |error b=>
    have g:Hid (R=.error b):=by show _=_;rw[<-y.out];simp only[if_true];unfold dL;rw[hp]
    rw[hp]at CR;go_wp2_with fail;refine CR.mono ?_;rintro e H ⟨f2,rfl⟩;refine⟨rfl,?_⟩;rw[g.out];exact⟨HS.fr.trans f2,rfl⟩
   |ok r=>
    obtain⟨n,z,U,t⟩:=r;obtain⟨b1,b2,b3,b4⟩:=yf A hp;have g:Hid ((if aL s n 59=true then dL s a j f (am s n 59) z U (C++[t])else mj s (am s n 59) z U)=R):=by
     show _=_;rw[<-y.out];simp only[if_true];conv=>rhs;unfold dL
     rw[hp]
    have zb:Hid ((aa U j).kind=a):=by show _=_;rw[b4];exact HS.kind
    have za:=qH<|b3;rw[hp]at CR;go_wp2_with fail;refine CR.mono ?_;rintro e H ⟨f2,rfl,h2,n2⟩;have zi:=qH<|h2;have ze:=qH<|n2;have x:=qH<|f2;have zh:=qH<|own_f2 HS.row f2 S;have k:=zh.out;have zA:=aF HS.fr.size f2.size;go_wp2_with(at_builtin;refine wpList_append_own _ rfl _ _ 113 rfl w.heap.size 9 i0 (.string ⟨#[]⟩) 1 16 underlying113 zn zv zw zx rfl (by decide) _ _ _ rfl (k.alloc _) _ 1 1 [.string t] rfl rfl ?c1 ?c2 ?c3 ?c4 ?c5 ?_);case c1=>grind[iQ]
    case c2=>intro u hu;simp at hu;subst hu;rfl
    case c3=>unfold maxLen;omega
    case c4=>omega
    case c5=>simp;omega
    intro v' w3 F Y _;have p:Hid (Bt H (H.alloc (.cells #[.string t] 9))):=(af _ _).alloc (ae _) _;have M:=λq o=>(k.lt q o).1;have zj:=qH<|PR.far (zi.below p) Y M zu;have zg:=qH<|(ze.up (Up.below p)).beside (k.alloc _) Y;have I:=qH<|((HS.env.fr (x.fr HS.env.le zl.1)).fr (Fr.below p (aF HS.env.le x.size))).fr (Fr.own Y (by have:=HS.env.le;have:=x.size;simp;omega) (λq o=>rd));have zc:=qH<|(HS.fr.trans (x.trans (F2.below p))).plus (F2.other Y M);have J:Hid (w3.ownsRow w.heap.size 9 1 v' (C++[t]).length ((C++[t]).map Value.string)):=by rw[aU,kQ];exact F
    have CT:Hid (Cw 121 #[Pq rb,.int .u8 59] w3 λe w'=>e=Rw (.bool (aL s n 59))/\PR w' rb s (am s n 59) (Sq ab 12 12) (Sq bl L.length d) (fd E z)/\w3.grownBy w' (some rb)):=lq rb s n _ _ _ 59 w3 zj dg b2 dg;have O:am s n 59<=s.size:=dK dg b2;have zm:n<=am s n 59:=by unfold am;have:=du s n;split<;>omega
    obtain⟨m',zr⟩:=ad (aL s n 59);obtain⟨i3,P⟩:=ad (am s n 59);rw[zr,P]at CT g;rw[P]at O zm;go_wp2_with fail;refine CT.mono ?_;rintro e w4 ⟨rfl,h4,X⟩;have zk:=qH<|h4.prI;have K:=qH<|HS.pr.prI;have zy:Hid (R6 w w4 rb ab B bl L.length d j a E s i3 z U KV v' (C++[t])):=⟨I.fr (Fr.grown X I.le),h4,zg.up (Up.grown X T),za,zb,own_f2 J (F2.left (b:=bl) X) (λq o=>by have:=(J.lt q o).1;omega),rd,O,zc.trans (F2.left X)⟩;go_wp2;go_roundw;case rel=>grind
    case measure=>rw[zk.out,K.out];grind
  |false=>
   have hl:=HS.len;subst hl;by_cases o:aL s i 125=true
   ·have Z:Hid (Cw 124 #[Pq rb,.int .u8 125] wr λe w'=>e=Rw (.tuple #[])/\PR w' rb s (am s i 125) (Sq ab 12 12) (Sq bl L.length d) (fd E l)/\wr.grownBy w' (some rb)):=gR rb s i _ _ _ 125 wr HS.pr dg A dg o;have g:Hid (R=.ok (am s i 125,l,L)):=by show _=_;rw[<-y.out];simp only[Aq,if_false];unfold mj;rw[if_pos o]
    go_wp2_with fail;refine Z.mono ?_;rintro e H ⟨rfl,h2,V⟩;have HO:Hid (GI w H (.returned (.tuple #[])) rb B bl E s (Sq ab 12 12) (Sq bl L.length d) KV L.length R):=by show GI _ _ _ _ _ _ _ _ _ _ _ _ _;rw[g.out];exact⟨HS.fr.trans (F2.left V),rfl,h2,HS.pn.up (Up.grown V T),rfl⟩
    go_wp2;go_end0;exact HO
   ·have zt:aL s i 125=false:=by simpa using o
    have Z:Hid (Cw 124 #[Pq rb,.int .u8 125] wr λe w'=>e=.panicked [{v:=cP (sk s i:Int) (bi (E 2)),recovered:=false}]/\wr.grownBy w' (some rb)):=iS rb s i _ _ _ (E 2) 125 wr HS.pr dg A dg zt dg HS.env.g2;have g:Hid (R=.error (sk s i)):=by show _=_;rw[<-y.out];simp only[Aq,if_false];unfold mj;rw[if_neg o]
    go_wp2_with fail;refine Z.mono ?_;rintro e H ⟨rfl,V⟩;refine⟨rfl,?_⟩;rw[g.out];exact⟨HS.fr.trans (F2.left V),rfl⟩
def jC(n fs:Nat):Option Nat:=if 100<=n then some 3 else if 12<=fs then some 4 else none
theorem Mt n a E:nl n a (E 3) (E 4)=Pb E (jC n a):=by
 unfold nl jC;split;·rfl
 ·split<;>rfl
def dG(s:ByteArray)(st:PS)(c:Nat):Except Nat PS:=if aL s st.i c=true then .ok {st with i:=am s st.i c}else .error (sk s st.i)
def gA(s:ByteArray)(bM:PS->Except Nat PS):Nat->PS->Except Nat PS
 |0,st=>.error st.i
 |f+1,st=>match bM st with
  |.error b=>.error b
  |.ok Ge=>if aL s Ge.i 44=true then gA s bM f {Ge with i:=am s Ge.i 44}else dG s {Ge with i:=am s Ge.i 44} 93
def gp(s:ByteArray)(bM:PS->Except Nat PS)(st:PS):Except Nat PS:=
 if aL s st.i 91=true then(if aL s (am s st.i 91) 93=true then .ok {st with i:=am s (am s st.i 91) 93}else gA s bM (s.size+1) {st with i:=am s (am s st.i 91) 93})else .error (sk s st.i)
def nc(r:Except Nat PS)(g:PS->Except Nat PS):Except Nat PS:=match r with
 |.error b=>.error b
 |.ok st=>g st
def ot(s:ByteArray)(bM:PS->Except Nat PS)(st:PS):Except Nat PS:=
 if aL s st.i 91=true then nc (bM {st with i:=am s st.i 91}) λGe=>dG s Ge 93 else .error (sk s st.i)
def gY(s:ByteArray)(idx:Nat)(st:PS):Except Nat PS:=match dU s st.i with
 |.error b=>.error b
 |.ok (i2,t)=>.ok {st with i:=i2,L:=aA st.L idx t}
def na(s:ByteArray)(kind idx:Nat)(bM:PS->Except Nat PS)(st:PS):Except Nat PS:=
 if kind=5 then gY s idx st else if kind=6 then .ok st else if kind=3\/kind=4 then ot s bM st else gp s bM st
def Mf(s:ByteArray)(kind idx i:Nat)(er:fA)(L:List Nd):Except Nat PS:=
 if aL s i 123=true then(match dL s kind idx (s.size+1) (am s i 123) er L []with
  |.error b=>.error b
  |.ok (i2,Gq,L2)=>.ok ⟨i2,L2,Gq⟩)else .ok ⟨am s i 123,L,er⟩
def mE(s:ByteArray)(i:Nat):ByteArray:=s.extract (sk s i) (run ao s (sk s i))
def dE(s:ByteArray)(i:Nat):Int:=aI bU (mE s i) 0
def aK(s:ByteArray):Nat->Int->Nat->PS->Except Nat PS
 |0,_,_,st=>.error st.i
 |f+1,up,fs,st=>
  if dE s st.i<0 then .error (sk s st.i)else
  nc (Mf s (dE s st.i).toNat st.L.length (run ao s (sk s st.i)) (iY st.er (jC st.L.length fs) (sk s st.i)) (grown st.L ⟨(dE s st.i).toNat,aQ,[],[],up⟩)) λZq=>na s (dE s st.i).toNat st.L.length (aK s f (st.L.length:Int) (fs+1)) Zq
structure fm(s:ByteArray)(st:PS):Prop where
 il:st.i<=s.size
 ll:st.L.length<=st.i
 kl:∀j,(aa st.L j).kids.length<=st.L.length
structure uE(s:ByteArray)(st JO:PS):Prop where
 good:fm s JO
 ge:st.i<=JO.i
 lg:st.L.length<=JO.L.length
theorem bG s i c:i<=am s i c:=by grind[am,du]
theorem fm.at{s}{st}(h:fm s st){c}(a:c<256):fm s {st with i:=am s st.i c}:=
 ⟨dK a h.il,aF h.ll (bG _ _ _),h.kl⟩
theorem yg{s}{st a}{c}(d:c<256)(h:fm s st)(e:dG s st c=.ok a):uE s st a/\st.i<a.i:=by
 unfold dG at e;split at e;·rename_i g;injection e with e;subst e;have:=Dm g;have:=du s st.i;exact⟨⟨h.at d,bG _ _ _,ae _⟩,rd⟩
 grind
theorem uE.trans{s}{a b c}(h:uE s a b)(k:uE s b c):uE s a c:=⟨k.good,aF h.ge k.ge,aF h.lg k.lg⟩
theorem xG{s}{N}{bM}(d:∀a b,fm s a->N<=a.L.length->bM a=.ok b->uE s a b/\a.i<b.i):∀f st g,fm s st->N<=st.L.length->gA s bM f st=.ok g->uE s st g/\st.i<g.i
 |0,st,g,h,m,e=>by cases e
 |f+1,st,g,h,m,e=>by
  unfold gA at e;split at e;·cases e
  ·rename_i j r;obtain⟨k,t⟩:=d _ _ h m r;have n:=k.good.at (c:=44) dg;have p:uE s st {j with i:=am s j.i 44}:=⟨n,aF k.ge (bG _ _ _),k.lg⟩;have q:st.i<am s j.i 44:=zz007 t (bG _ _ _);split at e;·obtain⟨l,o⟩:=xG d f _ _ n (aF m k.lg) e;exact⟨p.trans l,zz108 q o⟩
   ·obtain⟨l,o⟩:=yg dg n e;exact⟨p.trans l,zz108 q o⟩
section
variable{s:ByteArray} {N:Nat} {bM:PS->Except Nat PS}
theorem IW(d:∀a b,fm s a->N<=a.L.length->bM a=.ok b->uE s a b/\a.i<b.i){st g}(h:fm s st)(m:N<=st.L.length)(e:gp s bM st=.ok g):uE s st g:=by
 unfold gp at e;have h1:=h.at (c:=91) dg;have j:=h1.at (c:=93) dg;have k:=bG s st.i 91;have l:=bG s (am s st.i 91) 93;have f2:uE s st {st with i:=am s (am s st.i 91) 93}:=⟨j,aF k l,ae _⟩;split at e
 ·split at e;·grind
  ·exact f2.trans (xG d _ _ _ j m e).1
 grind
theorem Mc(d:∀a b,fm s a->N<=a.L.length->bM a=.ok b->uE s a b/\a.i<b.i){st g}(h:fm s st)(k:N<=st.L.length)(e:ot s bM st=.ok g):uE s st g:=by
 unfold ot at e;have h1:=h.at (c:=91) dg;have f1:uE s st {st with i:=am s st.i 91}:=⟨h1,bG _ _ _,ae _⟩;split at e
 ·unfold nc at e;split at e;·cases e
  ·rename_i m l;obtain⟨j,_⟩:=d _ _ h1 k l;exact f1.trans (j.trans (yg dg j.good e).1)
 grind
theorem yu:∀f p a i t,p<=s.size->qF s f p a=.ok (i,t)->p<i/\i<=s.size
 |0,p,a,i,t,hp,h=>by cases h
 |f+1,p,a,i,t,hp,h=>by
  have d:∀q,dh s q≠256->q<s.size:=λq e=>by grind[dJ]
  unfold qF at h;split at h;·cases h
  ·rename_i g;have:=d p g;split at h;·grind
   ·split at h
    ·split at h;·rename_i e;have:=d (p+1) dg;have:=yu f (p+2) _ i t dg h;omega
     ·split at h;·rename_i e;have:=d (p+1) dg;have:=yu f (p+2) _ i t dg h;omega
      grind
    ·have:=yu f (p+1) _ i t dg h;omega
theorem lK L k j t:(aa (aA L k t) j).kids=(aa L j).kids:=by grind[aA,aT,aa,aN]
theorem r_{idx}{st a}(h:fm s st)(e:gY s idx st=.ok a):uE s st a:=by
 unfold gY dU at e;split at e;·cases e
 ·rename_i k t d;injection e with e;subst e;split at d
  ·have g:=yu _ _ _ _ _ (dK dg h.il) d;have l:=bG s st.i 34;refine⟨⟨g.2,?_,λj=>?_⟩,rd,by grind[aA]⟩;·show(aA st.L idx t).length<=k;unfold aA;have:=h.ll;grind
   ·show(aa (aA st.L idx t) j).kids.length<=(aA st.L idx t).length;rw[lK];unfold aA;simpa using h.kl j
  grind
theorem G'(j:∀a b,fm s a->N<=a.L.length->bM a=.ok b->uE s a b/\a.i<b.i){d k}{st g}(h:fm s st)(l:N<=st.L.length)(e:na s d k bM st=.ok g):uE s st g:=by
 unfold na at e;split at e;·exact r_ h e
 ·split at e;·injection e with e;subst e;exact⟨h,ae _,ae _⟩
  grind[Mc,IW]
end
theorem F_ L j k q n:(aa (setL L j k n) q).kids=(aa L q).kids:=by grind[setL,aT,aa,aN]
theorem BS{s}{a}{l}{L}{j i}{g}{k}{d}{e}{t}(h:eD s a l L j i g=.ok (k,d,e,t)):∀q,(aa e q).kids=(aa L q).kids:=by
 unfold eD at h;split at h;·cases h
 ·split at h
  ·unfold pE at h;split at h;·cases h
   ·unfold Jk at h;grind[F_]
  grind
theorem qt{s}{g j}:∀f i k L l e a d,i<=s.size->dL s g j f i k L l=.ok (e,a,d)->i<e/\e<=s.size/\d.length=L.length/\∀q,(aa d q).kids=(aa L q).kids
 |0,i,k,L,l,e,a,d,hi,h=>by cases h
 |f+1,i,k,L,l,e,a,d,hi,h=>by
  unfold dL at h;split at h;·cases h
  ·rename_i n p u t m;obtain⟨v,o,w,_⟩:=yf hi m;have x:=BS m;have y:=bG s n 59;have r:=dK (s:=s) (i:=n) (c:=59) dg o;split at h;·obtain⟨c1,c2,c3,c4⟩:=qt f _ _ _ _ _ _ _ r h;grind
   grind[mj,bG,am,dK]
theorem dk L d:(grown L d).length=L.length+1:=by grind[grown]
theorem qO L d(hd:d.kids=[])(a:d.up<L.length)(h:∀j,(aa L j).kids.length<=L.length)j:(aa (grown L d) j).kids.length<=L.length+1:=by grind[aa,ci,cJ,grown,iV,aT,aN]
theorem N_{s}{a d i}{g}{L}{st}(hi:i<=s.size)(e:Mf s a d i g L=.ok st):i<=st.i/\st.i<=s.size/\st.L.length=L.length/\∀q,(aa st.L q).kids=(aa L q).kids:=by
 unfold Mf at e;have r:=bG s i 123;have j:=dK (s:=s) (i:=i) (c:=123) dg hi;split at e
 ·split at e;·cases e
  ·rename_i t h l k;obtain⟨m,n,o,p⟩:=qt _ _ _ _ _ _ _ _ j k;grind
 grind
theorem oT{s}{i}(h:¬dE s i<0)(hi:i<=s.size):sk s i<run ao s (sk s i):=by
 by_cases e:sk s i<run ao s (sk s i);·exact e
 ·exfalso;have a:=g_ ao s (sk s i);have:mE s i=ByteArray.empty:=by unfold mE;rw[show run ao s (sk s i)=sk s i by omega];apply kM;simp
  unfold dE at h;rw[this]at h;exact h (by decide)
theorem xV{s}:∀f  up  d st g,(up<st.L.length)->fm s st->aK s f up d st=.ok g->uE s st g/\st.i<g.i/\st.L.length<g.L.length
 |0,up,d,st,g,k,h,e=>by cases e
 |f+1,up,d,st,g,k,h,e=>by
  unfold aK at e;split at e;·cases e
  ·rename_i u;have y:=oT u h.il;have C:=du s st.i;have v:=h_ ao s _ (dX s st.i h.il);unfold nc at e;split at e;·cases e
   ·rename_i l t;obtain⟨w,p,n,q⟩:=N_ v t;rw[dk]at n;have o:fm s l:=⟨p,by have:=h.ll;omega,λj=>by rw[q,n];exact qO _ _ rfl k h.kl j⟩;have f1:uE s st l:=⟨o,dg,dg⟩;have f2:=G' (N:=st.L.length+1) (λa b r x m=>by obtain⟨z,A,_⟩:=xV f (st.L.length:Int) (d+1) a b dg r m;grind) o dg e;exact⟨f1.trans f2,by have:=f2.ge;omega,by have:=f2.lg;omega⟩
def kS(L:List Nd):Nat->Nat
 |0=>0
 |n+1=>kS L n+(aa L n).kids.length
theorem vi{L a}:∀n,(∀j,j<n->(aa a j).kids=(aa L j).kids)->kS a n=kS L n
 |0,_=>rfl
 |n+1,h=>by show kS a n+(aa a n).kids.length=kS L n+(aa L n).kids.length;rw[vi n (λj d=>h j dg),h n dg]
theorem IE{L a}{u}(hu:(aa a u).kids.length=(aa L u).kids.length+1):∀n,u<n->(∀j,j<n->j≠u->(aa a j).kids=(aa L j).kids)->kS a n=kS L n+1
 |0,h,_=>dg
 |n+1,h,g=>by
  show kS a n+(aa a n).kids.length=kS L n+(aa L n).kids.length+1;by_cases e:u=n;·grind[vi]
  ·rw[IE hu n dg (λj l d=>g j dg d),g n dg (λk=>e k.symm)];omega
structure vZ(L:List Nd):Prop where
 up0:∀i:Nat,i<L.length->((aa L i).up<0↔i=0)
 upl:∀i:Nat,i<L.length->(aa L i).up<i
 kid:∀i k c:Nat,i<L.length->(aa L i).kids[k]?=some c->i<c/\c<L.length/\(aa L c).up=i
 rise:∀i k c d:Nat,i<L.length->(aa L i).kids[k]?=some c->(aa L i).kids[k+1]?=some d->c<d
 first:∀i c:Nat,i<L.length->(aa L i).kids[0]?=some c->c=i+1
 cnt:0<L.length->kS L L.length+1=L.length
theorem vZ.empty:vZ []:=⟨λi h=>absurd h rn,λi h=>absurd h rn,λi _ _ h=>absurd h rn,λi _ _ _ h=>absurd h rn,λi _ h=>absurd h rn,λh=>absurd h rn⟩
theorem vZ.congr{L e}(h:vZ L)(l:e.length=L.length)(g:∀j,(aa e j).kids=(aa L j).kids)(hu:∀j,(aa e j).up=(aa L j).up):vZ e:=by
 refine⟨λi hi=>?_,λi hi=>?_,λi k c hi a=>?_,λi k c d hi a hd=>?_,λi c hi a=>?_,λhp=>?_⟩;·rw[hu];exact h.up0 i dg
 ·rw[hu];exact h.upl i dg
 ·rw[g]at a;rw[hu,l];exact h.kid i k c dg a
 ·rw[g]at a hd;exact h.rise i k c d dg a hd
 ·rw[g]at a;exact h.first i c dg a
 ·rw[l,vi _ (λj _=>g j)];exact h.cnt dg
def GF(L:List Nd)(up:Int):Prop:=(up=-1/\L=[])\/∃u:Nat,up=(u:Int)/\u<L.length/\((aa L u).kids=[]->L.length=u+1)
theorem vZ.grow{L}{d}(h:vZ L)(hd:d.kids=[])(hp:GF L d.up):vZ (grown L d)/\(∀j,j<L.length->(aa L j).kids.length<=(aa (grown L d) j).kids.length)/\(0<=d.up->(aa (grown L d) d.up.toNat).kids≠[])/\(aa (grown L d) L.length).kids=[]:=by
 rcases hp with⟨hu,rfl⟩|⟨u,hu,p,K⟩
 ·have e:grown [] d=[d]:=by unfold grown;rw[if_pos dg];rfl
  rw[e];have M:aa [d] 0=d:=rfl;refine⟨⟨λi hi=>?_,λi hi=>?_,λi k c hi m=>?_,λi k c q hi m=>?_,λi c hi m=>?_,λ_=>?_⟩,λj o=>absurd o rn,λJ=>dg,rd⟩;·grind
  ·grind
  ·grind
  ·grind
  ·grind
  ·show 0+(aa [d] 0).kids.length+1=1;grind
 ·have n:=dk L d;have e:=iV L d u dg dg;have G:aa (grown L d) u={aa L u with kids:=(aa L u).kids++[L.length]}:=by rw[e,aT _ rd,ci p]
  have A:aa (grown L d) L.length=d:=by rw[e,aN _ dg,cJ]
  have H:∀j,j<L.length->j≠u->aa (grown L d) j=aa L j:=λj o v=>by grind[aN,ci]
  have x:∀j,j<L.length->(aa (grown L d) j).up=(aa L j).up:=λj o=>rd
  -- a D of a bM: I F one,or the E one
  have r:∀i k c:Nat,i<L.length+1->(aa (grown L d) i).kids[k]?=some c->(i<L.length/\(aa L i).kids[k]?=some c)\/(i=u/\k=(aa L u).kids.length/\c=L.length):=λi k c hi m=>rd;refine⟨⟨λi hi=>?_,λi hi=>?_,λi k c hi m=>?_,λi k c q hi m C=>?_,λi c hi m=>?_,λ_=>?_⟩,λj o=>?_,λ_=>?_,?_⟩
  ·rw[n]at hi;by_cases t:i=L.length;·grind
   ·rw[x i dg];exact h.up0 i dg
  ·rw[n]at hi;by_cases t:i=L.length;·grind
   ·rw[x i dg];exact h.upl i dg
  ·rw[n]at hi;rcases r i k c hi m with⟨l,g⟩|⟨rfl,_,rfl⟩;·obtain⟨O,P,Q⟩:=h.kid i k c l g;grind
   grind
  ·rw[n]at hi;rcases r i k c hi m with⟨l,g⟩|⟨rfl,y,rfl⟩
   ·rcases r i (k+1) q hi C with⟨_,w⟩|⟨rfl,y,rfl⟩;·exact h.rise i k c q l g w
    ·exact(h.kid i k c l g).2.1
   grind
  ·rw[n]at hi;rcases r i 0 c hi m with⟨l,g⟩|⟨rfl,y,rfl⟩;·exact h.first i c l g
   grind
  ·rw[n];show kS (grown L d) L.length+(aa (grown L d) L.length).kids.length+1=L.length+1;rw[A,hd,IE (L:=L) (u:=u) rd L.length p (λj o v=>rd)];have:=h.cnt dg;grind
  ·grind
  all_goals simp_all
structure El(L L':List Nd):Prop where
 gr:vZ L'
 len:L.length<=L'.length
 kids:∀j,j<L.length->(aa L j).kids.length<=(aa L' j).kids.length
theorem El.refl{L}(h:vZ L):El L L:=⟨h,ae _,λ_ _=>ae _⟩
theorem El.trans{L a d}(h:El L a)(k:El a d):El L d:=⟨k.gr,aF h.len k.len,λj e=>aF (h.kids j e) (k.kids j (zz007 e h.len))⟩
def GB(u:Nat)(bM:PS->Except Nat PS):Prop:=∀a b,vZ a.L->GF a.L (u:Int)->bM a=.ok b->El a.L b.L/\(aa b.L u).kids≠[]
theorem Dt{s}{u}{bM}(k:GB u bM):∀f st a,vZ st.L->GF st.L (u:Int)->dD s bM f st=.ok a->El st.L a.L
 |0,st,a,h,hp,e=>by cases e
 |f+1,st,a,h,hp,e=>by
  unfold dD at e;split at e;·cases e
  ·rename_i g l;obtain⟨j,n⟩:=k _ _ h hp l;split at e
   ·have d:u<g.L.length:=by
     rcases hp with⟨m,_⟩|⟨o,m,d,_⟩;·omega
     ·have:u=o:=dg
      subst this;exact zz007 d j.len
    exact j.trans (Dt k f {g with i:=am s g.i 44} _ j.gr (.inr ⟨u,rfl,d,λe=>absurd e n⟩) e)
   grind
theorem K'{s}{a u}{bM}(m:GB u bM){st d}(h:vZ st.L)(hp:GF st.L (u:Int))(e:iw s a u bM st=.ok d):El st.L d.L:=by
 unfold iw at e;split at e
 ·split at e;·cases e
  ·split at e;·grind[El.refl]
   ·rename_i g _ _;exact Dt m _ {st with i:=sk s g} _ h hp e
 ·split at e
  ·split at e;·cases e
   ·split at e;·cases e
    ·rename_i g _ _ k l;obtain⟨p,_⟩:=m {st with i:=g} k h hp l;grind
  ·split at e
   ·split at e;·cases e
    ·rename_i g t l;injection e with e;subst e;have o:(aA st.L u t).length=st.L.length:=by unfold aA;simp
     have n:=lK st.L u;refine⟨h.congr o (λj=>n j t) (λj=>?_),rd,λj _=>rd⟩;grind[aa,aA,aT,aN]
   grind[El.refl]
theorem Dz{s}:∀f  up  g st j,vZ st.L->GF st.L up->cD s f up g st=.ok j->El st.L j.L/\st.L.length<j.L.length/\(0<=up->(aa j.L up.toNat).kids≠[])
 |0,up,g,st,j,h,hp,e=>by cases e
 |f+1,up,g,st,j,h,hp,e=>by
  unfold cD at e;dsimp only at e;split at e;·cases e
  ·split at e;·cases e
   ·rename_i C k a J;obtain⟨d,hd⟩:∃d:Nd,(⟨(aI bU (s.extract (sk s st.i) (run ao s (sk s st.i))) 0).toNat,a,[],[],up⟩:Nd)=d:=⟨_,rfl⟩;have n:d.kids=[]:=by rw[<-hd]
    have o:d.up=up:=by rw[<-hd]
    rw[hd]at e;obtain⟨q,t,v,F⟩:=h.grow n rd;have y:=dk st.L d;have m:=K' (u:=st.L.length) (λa b w D l=>by obtain⟨K,_,M⟩:=Dz f (st.L.length:Int) (g+1) a b w D l;grind) (st:={i:=C,L:=grown st.L d,er:=k}) q (.inr ⟨st.L.length,rfl,rd,λ_=>y⟩) e;have r:(grown st.L d).length<=j.L.length:=m.len;refine⟨El.trans ⟨q,dg,t⟩ m,dg,λG=>?_⟩;have x:=v dg;rw[o]at x;have p:up.toNat<(grown st.L d).length:=by
     rcases hp with⟨A,_⟩|⟨O,A,z,_⟩;·omega
     ·omega
    have H:(aa (grown st.L d) up.toNat).kids.length<=(aa j.L up.toNat).kids.length:=m.kids up.toNat p;intro I;simp_all
theorem yk{s}{L}(h:fu s=.ok L):vZ L/\0<L.length:=by
 unfold fu at h;split at h;·cases h
 ·split at h;·cases h
  ·rename_i st a;split at h;·cases h
   ·split at h;·cases h
    ·injection h with h;subst h;obtain⟨d,e,_⟩:=Dz _ _ _ _ _ vZ.empty (.inl ⟨rfl,rfl⟩) a;exact⟨d.gr,Nat.lt_of_le_of_lt (aR _) e⟩
structure Nv(d:Nd):Prop where
 kind:d.kind<7
 len:d.attr.length=12
 att:∀k,k<12->d.attr[k]?.getD 0=aQ[k]?.getD 0\/(fM d.kind k=true/\0<=d.attr[k]?.getD 0/\d.attr[k]?.getD 0<=gX[k]?.getD 0)
 text:d.text=[]\/d.kind=5
structure Vl(s:ByteArray)(L:List Nd):Prop where
 nv:∀j,j<L.length->Nv (aa L j)
 tl:∀j,j<L.length->(aa L j).text.length<=s.size
 id:∀i j,i<j->j<L.length->(0:Int)<(aa L j).attr[0]?.getD 0->(aa L i).attr[0]?.getD 0≠(aa L j).attr[0]?.getD 0
 cnt:L.length<=100
def qe(d:Nd):Prop:=d.kind<3\/(3<=d.kind/\d.kind<5/\d.kids.length=1)\/(5<=d.kind/\d.kids=[])
inductive Ch(L:Nat->Nd):Nat->List Nat->Nat->Nat->Prop
 |nil (d a:Nat):Ch L d [] a a
 |cons {d c:Nat} {r:List Nat} {e1 e:Nat}:d<12->qe (L c)->Ch L (d+1) (L c).kids (c+1) e1->Ch L d r e1 e->Ch L d (c::r) c e
theorem Ch.le{L}{d}{g}{a e}(h:Ch L d g a e):a<=e:=by
 induction h with
 |nil=>omega
 |cons _ _ _ _ j k=>omega
theorem Ch.congr{L g}{d}{ks}{a e}(h:Ch L d ks a e):(∀j,a<=j->j<e->g j=L j)->Ch g d ks a e:=by
 induction h with
 |nil d a=>intro _;exact .nil d a
 |@cons d c r e1 e h1 k m n q o=>intro l;have t:=m.le;have u:=n.le;have p:=l c (ae _) dg;refine .cons (e1:=e1) h1 rd ?_ (o (λj h1 k=>l j dg k));grind
theorem Ch.app{L}{d}{j}{a b}(h:Ch L d j a b){g}{e}(k:Ch L d g b e):Ch L d (j++g) a e:=by
 induction h with
 |nil d a=>exact k
 |cons h1 l m o p n=>exact .cons h1 l m (n k)
structure Av(kind:Nat)(L:List Nd)(a:List Int):Prop where
 len:a.length=12
 att:∀k,k<12->a[k]?.getD 0=aQ[k]?.getD 0\/(fM kind k=true/\0<=a[k]?.getD 0/\a[k]?.getD 0<=gX[k]?.getD 0)
 id:(0:Int)<a[0]?.getD 0->em L (a[0]?.getD 0)=false
theorem ec{b}{f}{c p}(h:bn b f c p=none):b=false/\f=none:=by
 unfold bn at h;cases b with
 |false=>grind
 |true=>unfold gI at h;grind
theorem tq{f}{c p}(h:gI f c p=none):False:=by unfold gI at h;grind
theorem Of s j:0<=dv s j (run aP s j-j):=(qG s j _ (λt a=>by grind[nu,aP,run])).1
theorem nS{s}{d}{L}{i}{x}{a}{seen}{E}{p}{w}{o}(h:gP s d L i x a seen=.ok (E,p,w,o))(z:p=none)(t:Av d L a):x=none/\Av d L w:=by
 unfold gP at h;dsimp only at h;split at h;·cases h
 ·split at h;·cases h
  ·split at h;·cases h
   ·rename_i u _ _;split at h;·grind[tq]
    ·rename_i v;have C:=Of s (sk s u);obtain⟨n,q⟩:=ad (dv s (sk s u) (run aP s (sk s u)-sk s u));obtain⟨m,l⟩:=ad (aI bS (s.extract (sk s i) (run ao s (sk s i))) 0);have j:=iT (s.extract (sk s i) (run ao s (sk s i))) bS 0;rw[l]at j;rw[l,q]at h;rw[q]at C;rw[l]at v;injection h with h;injection h with G h;injection h with g h;injection h with y H;rw[z]at g;obtain⟨K,g⟩:=ec g;obtain⟨F,g⟩:=ec g;obtain⟨M,g⟩:=ec g;have D:0<=m/\fM d m.toNat=true:=by
      constructor;·omega
      ·grind
     have r:m.toNat<12:=by have:bS.length=12:=rfl;rw[this]at j;rcases j with e|e<;>omega
     refine⟨g,?_⟩;subst y;have J:n<=gX[m.toNat]?.getD 0:=by simpa using F
     have I:m.toNat<a.length:=by rw[t.len];exact r
     refine⟨by rw[Ki];exact t.len,λk A=>?_,λhp=>?_⟩
     ·by_cases e:m.toNat=k;·grind
      ·rw[sE e];exact t.att k A
     ·by_cases e:m.toNat=0;·grind
      ·rw[sE e]at hp⊢;exact t.id hp
theorem qq{s}{e}{L}:∀f i g a seen l d k,dw s e L f i g a seen=.ok (l,d,k)->d=none->Av e L a->g=none/\Av e L k
 |0,i,g,a,seen,l,d,k,h,o,q=>by cases h
 |f+1,i,g,a,seen,l,d,k,h,o,q=>by
  unfold dw at h;split at h;·cases h
  ·rename_i j r w p t;split at h
   ·obtain⟨u,v⟩:=qq f _ _ _ _ _ _ _ h o
     (by
      -- the attribute ahead has y n m,seen from behind
      have:∀f i g a seen l d k,dw s e L f i g a seen=.ok (l,d,k)->d=none->g=none:=by
       intro f;induction f with
       |zero=>intro i g a seen l d k h;cases h
       |succ f x=>intro i g a seen l d k h o;unfold dw at h;grind[gP,tq,ec]
      grind[nS]);exact⟨(nS t u q).1,v⟩
   grind[nS]
theorem K8 a L:Av a L aQ:=⟨rfl,λk d=>.inl rfl,λh=>absurd h (by decide)⟩
theorem qr{s}{a}{L}{i}{g}{j}{d}{e}(h:cW s a L i g=.ok (j,d,e))(k:d=none):g=none/\Av a L e:=by grind[cW,qq,K8]
theorem vz{s}:∀f p a i t,qF s f p a=.ok (i,t)->t.length+p<=i+a.length/\(p<=s.size->i<=s.size)
 |0,p,a,i,t,h=>by cases h
 |f+1,p,a,i,t,h=>by
  have d:∀q,dh s q≠256->q<s.size:=λq g=>by grind[dJ]
  unfold qF at h;split at h;·cases h
  ·rename_i j;have:=d p j;split at h;·grind
   ·split at h
    ·split at h;·rename_i g;have k:=d (p+1) dg;have e:=vz f (p+2) _ i t h;grind
     ·split at h;·rename_i g;have k:=d (p+1) dg;have e:=vz f (p+2) _ i t h;grind
      grind
    ·have e:=vz f (p+1) _ i t h;grind
theorem Mo{s}{i j}{t}(h:dU s i=.ok (j,t)):t.length<=s.size:=by
 unfold dU at h;split at h;·rename_i a;have h1:=vz _ _ _ _ _ h;grind[am,sk,aL,dJ]
 grind
theorem gU L d j(e:j<L.length):(aa (grown L d) j).kind=(aa L j).kind/\(aa (grown L d) j).attr=(aa L j).attr/\(aa (grown L d) j).text=(aa L j).text/\(aa (grown L d) j).up=(aa L j).up/\((j:Int)≠d.up->aa (grown L d) j=aa L j)/\((j:Int)=d.up->aa (grown L d) j={aa L j with kids:=(aa L j).kids++[L.length]}):=by grind[grown,ci,aT,aN]
theorem kX L d:aa (grown L d) L.length=d:=by grind[grown,cJ]
theorem Im{L}{n}(h:em L n=false)i(hi:i<L.length):(aa L i).attr[0]?.getD 0≠n:=by grind[em,aa]
theorem Vl.grown{s:ByteArray}{L:List Nd}{d:Nd}(h:Vl s L)(hd:Nv d)(t:d.text.length<=s.size)(hid:(0:Int)<d.attr[0]?.getD 0->em L (d.attr[0]?.getD 0)=false)(q:L.length<100):Vl s (grown L d):=by
 have r:=dk L d;refine⟨λj n=>?_,λj n=>?_,λi j l n m=>?_,dg⟩
 ·by_cases e:j=L.length;·grind[kX]
  ·obtain⟨a,g,k,_⟩:=gU L d j dg;have:=h.nv j dg;exact⟨by rw[a];exact this.kind,by rw[g];exact this.len,by rw[a,g];exact this.att,by rw[a,k];exact this.text⟩
 ·by_cases e:j=L.length;·grind[kX]
  ·obtain⟨a,g,k,_⟩:=gU L d j dg;rw[k];exact h.tl j dg
 ·have o:=(gU L d i dg).2.1;by_cases e:j=L.length;·grind[kX,Im]
  ·have p:=(gU L d j dg).2.1;rw[p]at m⊢;rw[o];exact h.id i j l dg m
theorem fY L k t j:(aa (aA L k t) j).kind=(aa L j).kind/\(aa (aA L k t) j).attr=(aa L j).attr/\(aa (aA L k t) j).kids=(aa L j).kids/\(aa (aA L k t) j).up=(aa L j).up/\(j≠k->aa (aA L k t) j=aa L j)/\(j=k->j<L.length->aa (aA L k t) j={aa L j with text:=t}):=by grind[aA,aT,aa,aN]
theorem Vl.texted{s}{L}{k}{t}(h:Vl s L)(u:k<L.length)(r:(aa L k).kind=5)(v:t.length<=s.size):Vl s (aA L k t):=by
 have q:(aA L k t).length=L.length:=by unfold aA;simp
 refine⟨λj n=>?_,λj n=>?_,λi j l n m=>?_,by rw[q];exact h.cnt⟩
 ·obtain⟨a,d,o,_,g,p⟩:=fY L k t j;have:=h.nv j dg;refine⟨by rw[a];exact this.kind,by rw[d];exact this.len,by rw[a,d];exact this.att,?_⟩;by_cases e:j=k;·grind
  ·rw[g e];exact this.text
 ·obtain⟨a,d,o,_,g,p⟩:=fY L k t j;by_cases e:j=k;·grind
  ·rw[g e];exact h.tl j dg
 ·rw[(fY L k t j).2.1]at m⊢;rw[(fY L k t i).2.1];exact h.id i j l dg m
structure QQ(s:ByteArray)(L L':List Nd)(up:Int)(fs:Nat):Prop where
 vl:Vl s L'
 lt:L.length<L'.length
 ch:Ch (aa L') fs [L.length] L.length L'.length
 upE:(aa L' L.length).up=up
 old:∀j:Nat,j<L.length->(j:Int)≠up->aa L' j=aa L j
 par:∀j:Nat,j<L.length->(j:Int)=up->aa L' j={aa L j with kids:=(aa L j).kids++[L.length]}
structure N2(s:ByteArray)(L L':List Nd)(u d:Nat)(ks:List Nat):Prop where
 vl:Vl s L'
 le:L.length<=L'.length
 ch:Ch (aa L') d ks L.length L'.length
 old:∀j:Nat,j<L.length->j≠u->aa L' j=aa L j
 par:aa L' u={aa L u with kids:=(aa L u).kids++ks}
theorem QQ.kids{s}{L g:List Nd}{u d}(hu:u<L.length)(h:QQ s L g (u:Int) d):N2 s L g u d [L.length]:=
 ⟨h.vl,Nat.le_of_lt h.lt,h.ch,λj k a=>h.old j k (λe=>a (Int.ofNat.inj e)),h.par u hu rfl⟩
theorem N2.trans{s}{L g l}{u d}{ks e}(hu:u<L.length)(h:N2 s L g u d ks)(k:N2 s g l u d e):N2 s L l u d (ks++e):=by
 refine⟨k.vl,aF h.le k.le,?_,λj m a=>(k.old j (zz007 m h.le) a).trans (h.old j m a),?_⟩;·exact(h.ch.congr (λj h1 n=>k.old j n dg)).app k.ch
 ·rw[k.par,h.par,cM]
def M_(s:ByteArray)(u d:Nat)(bM:PS->Except Nat PS):Prop:=∀a b,Vl s a.L->u<a.L.length->bM a=.ok b->b.er=none->a.er=none/\QQ s a.L b.L (u:Int) d
theorem xH{s}{u d}{bM:PS->Except Nat PS}(back:∀a b,bM a=.ok b->b.er=none->a.er=none)(m:M_ s u d bM):∀f st g,Vl s st.L->u<st.L.length->dD s bM f st=.ok g->g.er=none->st.er=none/\∃p,N2 s st.L g.L u d p
 |0,st,g,h,hu,e,l=>by cases e
 |f+1,st,g,h,hu,e,l=>by
  have bk:∀f st g,dD s bM f st=.ok g->g.er=none->st.er=none:=by
   intro f;induction f with
   |zero=>intro st g e;cases e
   |succ f t=>grind[dD,am]
  unfold dD at e;split at e;·cases e
  ·rename_i j o;split at e;·have q:j.er=none:=bk _ {j with i:=am s j.i 44} _ e l;obtain⟨n,k⟩:=m _ _ h hu o q;obtain⟨_,p,r⟩:=xH back m f {j with i:=am s j.i 44} _ k.vl (zz108 hu k.lt) e l;exact⟨n,_,(k.kids hu).trans hu r⟩
   ·split at e;·cases e
    ·injection e with e;subst e;obtain⟨n,k⟩:=m _ _ h hu o l;exact⟨n,_,k.kids hu⟩
structure Rg(s:ByteArray)(L L':List Nd)(u d:Nat):Prop where
 vl:Vl s L'
 le:L.length<=L'.length
 ch:Ch (aa L') d (aa L' u).kids L.length L'.length
 ok:qe (aa L' u)
 upE:(aa L' u).up=(aa L u).up
 old:∀j:Nat,j<L.length->j≠u->aa L' j=aa L j
theorem Ha{s}{g u d}{bM:PS->Except Nat PS}(back:∀a b,bM a=.ok b->b.er=none->a.er=none)(A:M_ s u d bM){st l}(h:Vl s st.L)(hu:u<st.L.length)(I:(aa st.L u).kind=g)(k:(aa st.L u).kids=[])(e:iw s g u bM st=.ok l)(p:l.er=none):st.er=none/\Rg s st.L l.L u d:=by
 have v:∀{m:List Nd} {n:List Nat},N2 s st.L m u d n->(g<3\/(3<=g/\g<5/\n.length=1))->Rg s st.L m u d:=fun{m n} q J=>by
  have F:(aa m u).kids=n:=by rw[q.par,k];rfl
  have G:(aa m u).kind=g:=by rw[q.par];exact I
  refine⟨q.vl,q.le,by rw[F];exact q.ch,?_,by rw[q.par],q.old⟩;grind[qe]
 have E:5<=g\/g<3->Rg s st.L st.L u d:=λJ=>by refine⟨h,ae _,by rw[k];exact .nil _ _,?_,rfl,λ_ _ _=>rfl⟩;grind[qe]
 unfold iw at e;split at e
 ·rename_i H;split at e;·cases e
  ·split at e;·grind
   ·rename_i r _ _;obtain⟨C,n,D⟩:=xH back A _ {st with i:=sk s r} _ h hu e p;grind
 ·rename_i H;split at e
  ·rename_i z;split at e;·cases e
   ·split at e;·cases e
    ·rename_i r _ _ o x;split at e;·cases e
     ·injection e with e;have w:o.er=none:=by rw[<-e]at p;exact p
      obtain⟨C,D⟩:=A {st with i:=r} o h hu x w;refine⟨C,?_⟩;rw[<-e];exact v (D.kids hu) (.inr ⟨dg,z,rfl⟩)
  ·rename_i z;split at e
   ·rename_i K;split at e;·cases e
    ·rename_i r t x;injection e with e;subst e;refine⟨p,h.texted hu dg (Mo x),?_,?_,?_,?_,λj M y=>(fY st.L u t j).2.2.2.2.1 y⟩;·grind[aA]
     ·show Ch (aa (aA st.L u t)) d (aa (aA st.L u t) u).kids st.L.length (aA st.L u t).length;rw[(fY st.L u t u).2.2.1,k];have:(aA st.L u t).length=st.L.length:=by unfold aA;simp
      rw[this];exact .nil _ _
     all_goals grind[qe,fY]
   grind
theorem tS{s}{bM:PS->Except Nat PS}(back:∀a b,bM a=.ok b->b.er=none->a.er=none):∀f st d,dD s bM f st=.ok d->d.er=none->st.er=none
 |0,st,d,e,h=>by cases e
 |f+1,st,d,e,h=>by
  unfold dD at e;split at e;·cases e
  ·rename_i g j;split at e;·exact back _ _ j (tS back f {g with i:=am s g.i 44} _ e h)
   grind
theorem tE{s}{d u}{bM:PS->Except Nat PS}(back:∀a b,bM a=.ok b->b.er=none->a.er=none){st g}(e:iw s d u bM st=.ok g)(h:g.er=none):st.er=none:=by
 unfold iw at e;split at e
 ·split at e;·cases e
  ·split at e;·grind
   ·rename_i j _ _;exact tS back _ {st with i:=sk s j} _ e h
 grind
theorem k8{s}:∀f  up  d st g,cD s f up d st=.ok g->g.er=none->st.er=none
 |0,up,d,st,g,e,h=>by cases e
 |f+1,up,d,st,g,e,h=>by
  unfold cD at e;dsimp only at e;split at e;·cases e
  ·split at e;·cases e
   ·rename_i l j a k;have h1:=tE (k8 f _ _) e h;exact(ec (ec (qr k h1).1).2).2
theorem xW{s}:∀f  up  g st k,Vl s st.L->up<(st.L.length:Int)->cD s f up g st=.ok k->k.er=none->QQ s st.L k.L up g
 |0,up,g,st,k,h,hp,e,u=>by cases e
 |f+1,up,g,st,k,h,hp,e,u=>by
  unfold cD at e;dsimp only at e;split at e;·cases e
  ·rename_i x;split at e;·cases e
   ·rename_i P q a K;have h1:=tE (k8 f _ _) e u;obtain⟨D,l⟩:=qr K h1;obtain⟨r,E⟩:=ec D;obtain⟨t,R⟩:=ec E;have r:g<12:=by
     have:¬12<=g:=by simpa using r
     omega
    have t:st.L.length<100:=by
     have:¬100<=st.L.length:=by simpa using t
     omega
    have m:=iT (s.extract (sk s st.i) (run ao s (sk s st.i))) bU 0;obtain⟨A,y⟩:=ad (aI bU (s.extract (sk s st.i) (run ao s (sk s st.i))) 0);rw[y]at e m x l;have w:A.toNat<7:=by have:bU.length=7:=rfl;rw[this]at m;rcases m with e|e<;>omega
    obtain⟨d,hd⟩:∃d:Nd,(⟨A.toNat,a,[],[],up⟩:Nd)=d:=⟨_,rfl⟩;rw[hd]at e;have z:Nv d:=by rw[<-hd];exact⟨w,l.len,l.att,.inl rfl⟩
    have M:=h.grown z rd (by rw[<-hd];exact l.id) t;have S:=dk st.L d;have T:=kX st.L d;obtain⟨_,n⟩:=Ha (d:=g+1) (k8 f _ _) (λa b C U o p=>⟨k8 f _ _ _ _ o p,xW f (st.L.length:Int) (g+1) a b C dg o p⟩) (st:={i:=P,L:=grown st.L d,er:=q}) M rd rd rd e u;have G:(grown st.L d).length<=k.L.length:=n.le;have J:d.up=up:=by rw[<-hd]
    have F:Ch (aa k.L) (g+1) (aa k.L st.L.length).kids (grown st.L d).length k.L.length:=n.ch;have I:(aa k.L st.L.length).up=(aa (grown st.L d) st.L.length).up:=n.upE;have H:∀j:Nat,j<(grown st.L d).length->j≠st.L.length->aa k.L j=aa (grown st.L d) j:=n.old;refine⟨n.vl,dg,.cons r n.ok rd (.nil _ _),rd,λj O v=>?_,λj O v=>?_⟩;all_goals grind[gU]
structure dp(s:ByteArray)(L:List Nd):Prop where
 sz:s.size<=4000
 gr:vZ L
 pos:0<L.length
 vl:Vl s L
 ch:Ch (aa L) 0 [0] 0 L.length
 up0:(aa L 0).up=-1
theorem fV{s}{L}(h:fu s=.ok L):dp s L:=by
 obtain⟨g,k⟩:=yk h;unfold fu at h;split at h;·cases h
 ·rename_i l;split at h;·cases h
  ·rename_i st e;split at h;·cases h
   ·split at h;·cases h
    ·rename_i d;injection h with h;subst h;have:=xW _ _ _ _ _ ⟨λj a=>absurd a rn,λj a=>absurd a rn,λi j _ a=>absurd a rn,rn⟩ dg e d;exact⟨dg,g,k,this.vl,this.ch,this.upE⟩
def Kn(W:World):Prop:=∀j,j<7->W.cell? (aj 8 j)=some (.string (bU[j]?.getD ByteArray.empty))
theorem Kn.fr{W W'}{B r}(h:Kn W)(f:Fr B r W W')(d:r<B)(e:9<=r):Kn W':=λj a=>f.cell (h j a) rd rd
def Mem(W0 W:World)(rb ab B:Nat)(E:Nat->Addr)(s:ByteArray)(st:PS):Prop:=M7 W rb ab B E/\Kn W/\fm s st/\Fr B rb W0 W/\∃nv KV,PR W rb s st.i (Sq ab 12 12) nv (fd E st.er)/\PN W B nv st.L KV
def dN(w w':World)(e:Ending)(rb ab B:Nat)(E:Nat->Addr)(s:ByteArray)(r:Except Nat PS):Prop:=match r with
 |.error b=>e=.panicked [{v:=cP (b:Int) (bi (E 2)),recovered:=false}]/\Fr B rb w w'
 |.ok st=>e=Rw (.tuple #[])/\Mem w w' rb ab B E s st
def CY(rb ab B:Nat)(E:Nat->Addr)(s:ByteArray)(f:Nat):Prop:=∀(up:Int) (fs:Nat) (st:PS) (w0 w:World),Mem w0 w rb ab B E s st->(up=-1\/(0<=up/\up<st.L.length))->fs<=st.i->s.size<f+st.i->
 Cw 55 #[Pq rb,Iq up,Iq (fs:Int)] w λe w'=>dN w0 w' e rb ab B E s (aK s f up fs st)
theorem Mem.grown{W0 W W'}{rb ab B}{E}{s}{st}{i}(h:Mem W0 W rb ab B E s st)(g:W.grownBy W' (some rb))(d:fm s {st with i:=i})(hp:∀nv KV,PR W rb s st.i (Sq ab 12 12) nv (fd E st.er)->PN W B nv st.L KV->PR W' rb s i (Sq ab 12 12) nv (fd E st.er)):Mem W0 W' rb ab B E s {st with i:=i}:=by obtain⟨e,k,_,f,nv,KV,p,n⟩:=h;have a:=Fr.grown (r:=rb) g e.le;exact⟨e.fr a,k.fr a e.rbB e.lo,d,f.trans a,nv,KV,hp nv KV p n,n.up (Up.grown g e.rbB)⟩
theorem oh{W0 W}{rb ab B}{E}{s}{st}(c:Nat)(h:Mem W0 W rb ab B E s st)(m:s.size<=1073741824)(j:c<256):
 Cw 121 #[Pq rb,.int .u8 (c:Int)] W λe w'=>e=Rw (.bool (aL s st.i c))/\Mem W0 w' rb ab B E s {st with i:=am s st.i c}:=by obtain⟨e,k,g,f,nv,KV,p,n⟩:=h;refine(lq rb s st.i _ nv _ c W p dg g.il j).mono ?_;rintro l w' ⟨rfl,h1,d⟩;have a:=Fr.grown (r:=rb) d e.le;exact⟨rfl,e.fr a,k.fr a e.rbB e.lo,g.at j,f.trans a,nv,KV,h1,n.up (Up.grown d e.rbB)⟩
theorem ew{W0 W}{rb ab B}{E}{s}{st}(c:Nat)(h:Mem W0 W rb ab B E s st)(o:s.size<=1073741824)(j:c<256):
 Cw 124 #[Pq rb,.int .u8 (c:Int)] W λe w'=>dN W0 w' e rb ab B E s (dG s st c):=by
 obtain⟨e,k,g,f,nv,KV,p,n⟩:=h;unfold dG;by_cases l:aL s st.i c=true;·rw[if_pos l];refine(gR rb s st.i _ nv _ c W p dg g.il j l).mono ?_;rintro m w' ⟨rfl,h1,a⟩;have d:=Fr.grown (r:=rb) a e.le;exact⟨rfl,e.fr d,k.fr d e.rbB e.lo,g.at j,f.trans d,nv,KV,h1,n.up (Up.grown a e.rbB)⟩
 ·rw[if_neg l];have lo:=e.lo;refine(iS rb s st.i _ nv _ (E 2) c W p dg g.il j rd dg e.g2).mono ?_;rintro m w' ⟨rfl,a⟩;exact⟨rfl,f.trans (Fr.grown a e.le)⟩
theorem Mem.prI{W0 W:World}{rb ab B:Nat}{E:Nat->Addr}{s:ByteArray}{st:PS}(h:Mem W0 W rb ab B E s st):prI W rb=st.i:=by obtain⟨e,k,g,f,nv,KV,p,n⟩:=h;exact p.prI
theorem oZ(rb ab B:Nat)(E:Nat->Addr)(s:ByteArray)(f:Nat)(hnode:CY rb ab B E s f)(K:s.size<=1073741824)(up:Nat)(a:Nat)(st:PS)(u w:World)(h:Mem u w rb ab B E s st)(zg:up<st.L.length)(hd:a<=st.i)(hf:s.size<f+st.i):
 Cw 125 #[Pq rb,Iq (up:Int),Iq (a:Int)] w λe w'=>dN u w' e rb ab B E s (gp s (aK s f (up:Int) a) st):=by
 have HN:=qH<|hnode;have t:Hid (Cw 124 #[Pq rb,.int .u8 91] w λe w'=>dN u w' e rb ab B E s (dG s st 91)):=ew 91 h K dg;by_cases x:aL s st.i 91=true
 ·have C:dG s st 91=.ok {st with i:=am s st.i 91}:=by unfold dG;rw[if_pos x]
  rw[C]at t;have v:Hid (gp s (aK s f (up:Int) a) st=if aL s (am s st.i 91) 93=true then .ok {st with i:=am s (am s st.i 91) 93}else gA s (aK s f (up:Int) a) (s.size+1) {st with i:=am s (am s st.i 91) 93}):=by show _=_;unfold gp;rw[if_pos x]
  have F:=bG s st.i 91;have G:=bG s (am s st.i 91) 93;obtain⟨R,Q⟩:=ad (gp s (aK s f (up:Int) a) st);rw[Q]at v⊢;clear h hnode Q C x;go_enter func125,ntmps125;go_wp2_with fail;refine t.mono ?_;rintro e X ⟨rfl,h1⟩;have p:Hid (Cw 121 #[Pq rb,.int .u8 93] X λe w'=>e=Rw (.bool (aL s (am s st.i 91) 93))/\Mem u w' rb ab B E s {st with i:=am s (am s st.i 91) 93}):=oh 93 h1 K dg;clear h1 t;by_cases r:aL s (am s st.i 91) 93=true
  ·have k:Hid (R=.ok {st with i:=am s (am s st.i 91) 93}):=by show _=_;rw[v.out,if_pos r]
   rw[r]at p;clear v r;go_wp2_with fail;refine p.mono ?_;rintro e w2 ⟨rfl,h2⟩;have O:=qH<|h2;clear h2 p;go_wp2;try simp only[Exit.inBlock,Exit.then]
   refine bodyPost_ret (results_none rfl _ _ _) rfl ?_;show dN _ _ _ _ _ _ _ _ _;rw[k.out];exact⟨rfl,O⟩
  ·have k:Hid (gA s (aK s f (up:Int) a) (s.size+1) {st with i:=am s (am s st.i 91) 93}=R):=by show _=_;rw[v.out,if_neg r]
   rw[show aL s (am s st.i 91) 93=false by grind]at p;clear v r;obtain⟨I,l⟩:∃z:PS,{st with i:=am s (am s st.i 91) 93}=z:=⟨_,rfl⟩;have T:st.i<=I.i:=by rw[<-l];exact aF F G
   have U:I.L.length=st.L.length:=by rw[<-l]
   rw[l]at p k;clear l F G;go_wp2_with fail;refine p.mono ?_;rintro e w2 ⟨rfl,h2⟩;have O:=qH<|h2;clear h2 p;go_wp2;go_loopw[6] (λb wr=>∃(j:PS) (g:Nat) (m:Bool),b=.bool m/\Hid (Mem u wr rb ab B E s j)/\st.i<=j.i/\st.L.length<=j.L.length/\s.size<g+j.i/\Hid ((if m=true then gA s (aK s f (up:Int) a) g j else dG s j 93)=R)) (λb wr=>2*(s.size-prI wr rb)+(match b with|.bool true=>1|_=>0));case atStart=>grind
   case round=>
    clear O k T U;obtain⟨j,g,m,rfl,A,zc,ze,hg,o⟩:=hrel;have Y:=qH<|A.prI;have S:=A.2.2.1.il;cases m with
    |true=>
     obtain⟨g,rfl⟩:∃q,g=q+1:=⟨g-1,dg⟩;have y:=qH<|HN (up:Int) a j u wr A (.inr ⟨dg,dg⟩) dg dg;cases hp:aK s f (up:Int) a j with
     |error b=>
      have k:Hid (R=.error b):=by show _=_;rw[<-o.out];simp only[if_true];unfold gA;rw[hp]
      rw[hp]at y;clear hp o;go_wp2_with fail;refine y.mono ?_;rintro e w3 ⟨rfl,f3⟩;refine⟨rfl,?_⟩;rw[k.out];exact⟨rfl,f3⟩
     |ok d=>
      obtain⟨V,q2,q3⟩:=xV f (up:Int) a j d dg A.2.2.1 hp;have q4:=V.good.il;have k:Hid ((if aL s d.i 44=true then gA s (aK s f (up:Int) a) g {d with i:=am s d.i 44}else dG s {d with i:=am s d.i 44} 93)=R):=by
       show _=_;rw[<-o.out];simp only[if_true];conv=>rhs;unfold gA
       rw[hp]
      rw[hp]at y;clear hp o V;go_wp2_with fail;refine y.mono ?_;rintro e w3 ⟨rfl,D⟩;have p:Hid (Cw 121 #[Pq rb,.int .u8 44] w3 λe w'=>e=Rw (.bool (aL s d.i 44))/\Mem u w' rb ab B E s {d with i:=am s d.i 44}):=oh 44 D K dg;have za:=bG s d.i 44;have zb:=dK (s:=s) (i:=d.i) (c:=44) dg q4;obtain⟨m',H⟩:=ad (aL s d.i 44);obtain⟨J,n⟩:∃z:PS,{d with i:=am s d.i 44}=z:=⟨_,rfl⟩;have T:J.i=am s d.i 44:=by rw[<-n]
      have U:J.L.length=d.L.length:=by rw[<-n]
      rw[H,n]at p k;clear D y n H;go_wp2_with fail;refine p.mono ?_;rintro e w4 ⟨rfl,h4⟩;have Z:=qH<|h4;have M:=qH<|h4.prI;clear h4 p;go_wp2;go_roundw;case rel=>grind
      case measure=>rw[M.out,Y.out];grind
    |false=>
     have t:Hid (Cw 124 #[Pq rb,.int .u8 93] wr λe w'=>dN u w' e rb ab B E s (dG s j 93)):=ew 93 A K dg;have k:Hid (dG s j 93=R):=by show _=_;have:=o.out;simpa using this
     rw[k.out]at t;clear o k;cases R with
     |error b=>go_wp2_with fail;refine t.mono ?_;rintro e w3 ⟨rfl,f3⟩;exact⟨rfl,rfl,f3⟩
     |ok d=>go_wp2_with fail;refine t.mono ?_;rintro e w3 ⟨rfl,D⟩;have P:=qH<|D;clear D t;go_wp2;go_end0;exact⟨rfl,P⟩
 ·have C:dG s st 91=.error (sk s st.i):=by unfold dG;rw[if_neg x]
  have v:Hid (gp s (aK s f (up:Int) a) st=.error (sk s st.i)):=by show _=_;unfold gp;rw[if_neg x]
  rw[C]at t;clear h hnode C x;go_enter func125,ntmps125;go_wp2_with fail;refine t.mono ?_;rintro e X ⟨rfl,f1⟩;refine⟨rfl,?_⟩;rw[v.out];exact⟨rfl,f1⟩
def PW(ab:Nat):Value:=Sq ab 12 12
theorem OG d a k:(jp d a k).length=5:=rfl
structure RD(W:World)(B:Nat)(nv:Value)(L:List Nd)(AV:Nat->Nat)(KV:Nat->Value):Prop where
 nr:NR W B 100 5 nv L.length (λj=>jp (aa L j) (PW (AV j)) (KV j)) KV (λj=>(aa L j).kids)
 len:∀j,j<L.length->(aa L j).attr.length=12
 att:∀j,j<L.length->B<=AV j/\ea W (AV j) (λk=>Iq ((aa L j).attr[k]?.getD 0))
 sepK:∀i j,i<L.length->j<L.length->(KV j).ownBlock≠some (AV i)
 sepN:∀i,i<L.length->nv.ownBlock≠some (AV i)
section
variable{W W':World} {B:Nat} {nv:Value} {L:List Nd} {AV:Nat->Nat} {KV:Nat->Value}
theorem RD.nothing W B AV KV:RD W B (.slice none 0 0) [] AV KV:=
 ⟨NR.nothing _ _ _ _ _ _ _,λj h=>absurd h rd,λj h=>absurd h rd,λi j h=>absurd h rd,λi h=>absurd h rd⟩
theorem RD.up(h:RD W B nv L AV KV)(hu:Up B W W'):RD W' B nv L AV KV:=
 ⟨h.nr.up hu,h.len,λj a=>⟨(h.att j a).1,(h.att j a).2.keep hu.size (hu.block _ (h.att j a).1 (h.att j a).2.1)⟩,h.sepK,h.sepN⟩
theorem RD.ids(h:RD W B nv L AV KV){rb}(p:rb<B):M9 W rb nv L:=by
 by_cases j:L=[]
 ·subst j;obtain⟨q,o⟩:=h.nr.row;rcases cU o with⟨rfl,_⟩|⟨g,a,rfl,h1,e,l,m⟩;·exact .inl ⟨rfl,rfl⟩
  ·exact .inr ⟨g,a,AV,rfl,e,dg,λk d=>absurd d rd⟩
 ·have n:=jI.2 j;obtain⟨g,a,rfl,h1,e,l,m⟩:=h.nr.form n;refine .inr ⟨g,a,AV,rfl,e,dg,λk d=>⟨h.nr.cell d rfl,(h.att k d).2.1,by have:=(h.att k d).1;omega,?_⟩⟩;have:=((h.att k d).2.2 0 dg).1;grind[aa]
theorem RD.app{g}{u}{d}{ab}(h:RD W B nv L AV KV)(y:W.ownsRow B 100 5 nv L.length u)(t:W'.ownsRow B 100 5 g (L.length+1) (u++jp d (PW ab) (.slice none 0 0)))(m:W.grownBy W' nv.ownBlock)(q:g.ownBlock=nv.ownBlock\/g.ownBlock=some W.heap.size)(A:d.attr.length=12)(z:d.kids=[])(v:B<=ab)(o:ea W ab (λk=>Iq (d.attr[k]?.getD 0)))(w:∀j,j<L.length->(KV j).ownBlock≠some ab)(p:nv.ownBlock≠some ab):
 RD W' B g (L++[d]) (λj=>if j=L.length then ab else AV j) (λj=>if j=L.length then .slice none 0 0 else KV j):=by
 have r:(L++[d]).length=L.length+1:=rn;have l:=λj a=>(h.att j a).2.keep m.size (m.block _ (h.att j a).2.1 (λe=>h.sepN j a e.symm));refine⟨?_,λj a=>?_,λj a=>?_,λi j hi a=>?_,λi hi=>?_⟩;·rw[r];refine(h.nr.app (by decide) y t m (OG _ _ _)).congr (λj a=>?_) (λj a=>rfl) (λj a=>?_);all_goals grind[cJ,ci]
 ·by_cases e:j=L.length;·grind[cJ]
  ·rw[ci dg];exact h.len j dg
 ·by_cases e:j=L.length;·subst e;rw[if_pos rfl,cJ];exact⟨v,o.keep m.size (m.block _ o.1 (λe=>p e.symm))⟩
  ·rw[if_neg e,ci dg];exact⟨(h.att j dg).1,l j dg⟩
 ·by_cases e:j=L.length;·subst e;simp[Value.ownBlock]
  ·rw[if_neg e];by_cases n:i=L.length;·grind
   ·rw[if_neg n];exact h.sepK i j dg dg
 ·have x:(if i=L.length then ab else AV i)<W.heap.size:=by
   by_cases e:i=L.length;·rw[if_pos e];exact o.1
   ·rw[if_neg e];exact(h.att i dg).2.1
  rcases q with e|e
  ·rw[e];by_cases n:i=L.length;·grind
   ·rw[if_neg n];exact h.sepN i dg
  grind
theorem RD.setText{g l k}(h:RD W B (Sq g L.length l) L AV KV)(o:k<L.length)x:
 RD (W.setCell (aj g (k*5+2)) (.string ⟨x.toArray⟩)) B (Sq g L.length l) (aA L k x) AV KV:=by
 have m:(aA L k x).length=L.length:=by unfold aA;simp
 have n:∀j,j<L.length->AV j≠g:=λj d e=>h.sepN j d (by rw[e];rfl);have a:∀j,(aa (aA L k x) j).attr=(aa L j).attr/\(aa (aA L k x) j).kids=(aa L j).kids:=λj=>by grind[aA,aT,aN]
 refine⟨?_,λj d=>?_,λj d=>?_,λi j hi d=>h.sepK i j dg dg,λi hi=>h.sepN i dg⟩
 ·rw[m];refine(h.nr.set (by decide) o dg (.string ⟨x.toArray⟩)).congr (λj d=>?_) (λj d=>rfl) (λj d=>(a j).2);by_cases e:j=k;·subst e;rw[if_pos rfl];unfold aA;rw[aT _ o];rfl
  grind[aA,aN]
 ·rw[(a j).1];exact h.len j dg
 ·rw[(a j).1];exact⟨(h.att j dg).1,(h.att j dg).2.other (n j dg) _⟩
theorem RD.kid{g l}{kv'}{k c}(h:RD W B (Sq g L.length l) L AV KV)(n:k<L.length)(x:W'.ownsRow B 3 1 kv' ((aa L k).kids.length+1) (iX ((aa L k).kids++[c])))(o:W.grownBy W' (KV k).ownBlock)(m:kv'.ownBlock=(KV k).ownBlock\/kv'.ownBlock=some W.heap.size):
 RD (W'.setCell (aj g (k*5+3)) kv') B (Sq g L.length l) (L.modify k λu=>{u with kids:=u.kids++[c]}) AV (λj=>if j=k then kv' else KV j):=by
 have p:(L.modify k λu=>{u with kids:=u.kids++[c]}).length=L.length:=rn;have r:∀j,j<L.length->AV j≠g:=λj d e=>h.sepN j d (by rw[e];rfl);have w:∀j,(aa (L.modify k λu=>{u with kids:=u.kids++[c]}) j).attr=(aa L j).attr:=λj=>by grind[aT,aN]
 refine⟨?_,λj d=>?_,λj d=>?_,λi j hi d=>?_,λi hi=>h.sepN i dg⟩
 ·rw[p];refine(h.nr.kid (t:=3) (by decide) n dg x o m).congr (λj d=>?_) (λj d=>rfl) (λj d=>?_)
  ·by_cases e:j=k;·subst e;simp only[if_true];rw[aT _ n];rfl
   grind[aN]
  grind[aT,aN]
 ·rw[w j];exact h.len j dg
 ·rw[w j];exact⟨(h.att j dg).1,((h.att j dg).2.keep o.size (o.block _ (h.att j dg).2.1 (λe=>h.sepK j k dg n e.symm))).other (r j dg) _⟩
 ·by_cases e:j=k
  ·rw[if_pos e];rcases m with q|q;·rw[q];exact h.sepK i k dg n
   ·rw[q];intro v;injection v with v;have:=(h.att i dg).2.1;omega
  ·rw[if_neg e];exact h.sepK i j dg dg
end
structure RW(W0 W:World)(rb B:Nat)(s:ByteArray)(i:Nat)(L:List Nd)(f:fA)(bad cO:Int):Prop where
 il:i<=s.size
 ll:bad<0->L.length<=i
 kl:∀j,(aa L j).kids.length<=L.length
 rbB:rb<B
 le:B<=W.heap.size
 fr:Fr B rb W0 W
 mem:∃nv AV KV er at_,RS W rb s i nv bad er at_ cO/\(bad<0->FL er at_ f i)/\RD W B nv L AV KV
section
variable{W0 W W':World} {rb B i i':Nat} {s:ByteArray} {L:List Nd} {f:fA} {bad Ev cO:Int}
theorem RW.step(h:RW W0 W rb B s i L f bad cO)(hi:i<=i')(l:i'<=s.size)(d:Ev<0->bad<0)(g:W.grownBy W' (some rb))(m:∀nv a at_,RS W rb s i nv bad a at_ cO->RS W' rb s i' nv Ev a at_ cO):RW W0 W' rb B s i' L f Ev cO:=by obtain⟨nv,AV,KV,a,at_,h1,j,k⟩:=h.mem;exact⟨l,λe=>aF (h.ll (d e)) hi,h.kl,h.rbB,aF h.le g.size,h.fr.trans (Fr.grown g h.le),nv,AV,KV,a,at_,m nv a at_ h1,λe=>(j (d e)).on hi,k.up (Up.grown g h.rbB)⟩
theorem RW.below(h:RW W0 W rb B s i L f bad cO)(a:Bt W W'):RW W0 W' rb B s i L f bad cO:=
 h.step (ae _) h.il id (eh a) (λnv d at_ r=>r.below a)
theorem NF s i c bad:i<=mI s i c bad:=by grind[mI,bG,du]
theorem OD{s}{i c}{bad}(h:mB s i c bad<0):bad<0:=by grind[mB]
theorem rw_skip(h:RW W0 W rb B s i L f bad cO)(k:s.size<=1073741824):Cw 68 #[Pq rb] W λe w'=>e=Rw (.tuple #[])/\RW W0 w' rb B s (sk s i) L f bad cO:=by obtain⟨nv,AV,KV,a,at_,h1,d,j⟩:=h.mem;refine(skip_any rb s i nv bad a at_ cO W h1 dg h.il).mono ?_;rintro e w' ⟨rfl,r,g⟩;exact⟨rfl,dX s i h.il,λe=>aF (h.ll e) (du s i),h.kl,h.rbB,aF h.le g.size,h.fr.trans (Fr.grown g h.le),nv,AV,KV,a,at_,r,λe=>(d e).on (du s i),j.up (Up.grown g h.rbB)⟩
theorem eM(c:Nat)(j:c<256)(h:RW W0 W rb B s i L f bad cO)(m:s.size<=1073741824):Cw 147 #[Pq rb,.int .u8 (c:Int)] W λe w'=>e=Rw (.tuple #[])/\RW W0 w' rb B s (mI s i c bad) L f (mB s i c bad) cO:=by obtain⟨nv,AV,KV,d,at_,h1,k,l⟩:=h.mem;refine(m6 rb s i nv bad d at_ cO c W h1 dg h.il j).mono ?_;rintro e w' ⟨rfl,r,g⟩;have hi:=NF s i c bad;have a:=OD (s:=s) (i:=i) (c:=c) (bad:=bad);exact⟨rfl,oV bad j h.il,λe=>aF (h.ll (a e)) hi,h.kl,h.rbB,aF h.le g.size,h.fr.trans (Fr.grown g h.le),nv,AV,KV,d,at_,r,λe=>(k (a e)).on hi,l.up (Up.grown g h.rbB)⟩
theorem rP(c:Nat)(d:c<256)(h:RW W0 W rb B s i L f bad cO)(l:s.size<=1073741824):Cw 195 #[Pq rb,.int .u8 (c:Int)] W λe w'=>e=Rw (.bool (gB s i c bad))/\RW W0 w' rb B s (mI s i c bad) L f bad cO:=by obtain⟨nv,AV,KV,a,at_,h1,j,k⟩:=h.mem;refine(pV rb s i nv bad a at_ cO c W h1 dg h.il d).mono ?_;rintro e w' ⟨rfl,r,g⟩;have hi:=NF s i c bad;exact⟨rfl,oV bad d h.il,λe=>aF (h.ll e) hi,h.kl,h.rbB,aF h.le g.size,h.fr.trans (Fr.grown g h.le),nv,AV,KV,a,at_,r,λe=>(j e).on hi,k.up (Up.grown g h.rbB)⟩
theorem RW.c3(h:RW W0 W rb B s i L f bad cO):W.cell? (aj rb 3)=some (Iq bad):=by obtain⟨nv,AV,KV,a,at_,h1,d,e⟩:=h.mem;exact h1.c3
theorem RW.rdI(h:RW W0 W rb B s i L f bad cO):rdI W rb=i:=by obtain⟨nv,AV,KV,a,at_,h1,d,e⟩:=h.mem;exact h1.rdI
end
def fJ(W0 W':World)(rb B:Nat)(s:ByteArray)(cO:Int)(st:PS)(r:Except Nat PS):Prop:=match r with
 |.error b=>∃i L g,RW W0 W' rb B s i L g (b:Int) cO
 |.ok JO=>RW W0 W' rb B s JO.i JO.L JO.er (-1) cO/\st.i<JO.i/\st.L.length<=JO.L.length
def CZ(rb B:Nat)(s:ByteArray)(f:Nat):Prop:=∀(up:Int) (fs:Nat) (st:PS) (w0 w:World),RW w0 w rb B s st.i st.L st.er (-1) (fs:Int)->(up=-1\/(0<=up/\up<st.L.length))->fs<=st.i->s.size<f+st.i->
 Cw 67 #[Pq rb,Iq up] w λe w'=>e=Rw (.tuple #[])/\fJ w0 w' rb B s (fs:Int) st (cD s f up fs st)
theorem qL:aI bU ByteArray.empty 0=-1:=ns
theorem xU(rb B:Nat)(s:ByteArray)(i:Nat)(L:List Nd)(f:fA)(bad cO:Int)(up:Int)(p w:World)(h:RW p w rb B s i L f bad cO)(D:0<=bad)(I:s.size<=1073741824):
 Cw 67 #[Pq rb,Iq up] w λe w'=>e=Rw (.tuple #[])/\RW p w' rb B s (sk s i) L f bad cO:=by
 have z:=qH<|rw_skip h I;have H:=decide_eq_true D;clear h;go_enter func67,ntmps67;go_wp2_with fail;refine ag z ?_;rintro e q ⟨rfl,h1⟩;obtain⟨nv,AV,KV,g,at_,u,f1,d1⟩:=h1.mem;have c1:=u.c1;have a:=qH<|h1;have A:Hid (Cw 141 #[Pq rb] q λe w'=>e=Rw (.string ByteArray.empty)/\RS w' rb s (sk s i) nv bad g at_ cO/\q.grownBy w' (some rb)):=by have:=z_ rb s (sk s i) nv bad g at_ cO q u dg h1.il D;rw[kF]at this;exact this
 have j:Hid ((bad<0->FL g at_ f (sk s i))/\RD q B nv L AV KV):=⟨f1,d1⟩;clear u f1 d1 h1 z;go_wp2_with fail;clear c1;refine ag A ?_;rintro e r ⟨rfl,E,n⟩;have H2:Hid (RW p r rb B s (sk s i) L f bad cO):=⟨a.il,a.ll,a.kl,a.rbB,aF a.le n.size,a.fr.trans (Fr.grown n a.le),nv,AV,KV,g,at_,E,j.1,j.2.up (Up.grown n a.rbB)⟩;clear E n A a j;go_wp2_with fail;refine ag (tV r) ?_;rintro e w3 ⟨rfl,m,l,C⟩;have d:=qH<|H2.below C;have y:Hid (Cw 142 #[Sq r.heap.size 7 7,.string ByteArray.empty] w3 λe w'=>e=Rw (Iq (-1))/\w'=w3):=by have:=find_any bU ByteArray.empty r.heap.size 0 7 7 w3 l m rfl dg;rw[qL]at this;exact this
 clear m l C H2;go_wp2_with fail;refine ag y ?_;rintro e K ⟨rfl,t⟩;obtain rfl:=t.symm;obtain⟨nv,AV,KV,g,at_,F,f3,d3⟩:=d.mem;have x:Hid (Cw 69 #[Pq rb,Iq (sk s i:Int)] w3 λe w'=>e=Rw (.tuple #[])/\RS w' rb s (sk s i) nv bad g at_ cO/\w3.grownBy w' (some rb)):=by
  have:=fail_any rb s (sk s i) nv bad g at_ cO (sk s i:Int) w3 F;have e:e_ bad (sk s i:Int)=bad:=by unfold e_;rw[if_neg dg]
  rw[e]at this;exact this
 have k:Hid ((bad<0->FL g at_ f (sk s i))/\RD w3 B nv L AV KV):=⟨f3,d3⟩;clear F f3 d3 y;go_wp2_with fail;refine ag x ?_;rintro e J ⟨rfl,v,o⟩;have G:Hid (RW p J rb B s (sk s i) L f bad cO):=⟨d.il,d.ll,d.kl,d.rbB,aF d.le o.size,d.fr.trans (Fr.grown o d.le),nv,AV,KV,g,at_,v,k.1,k.2.up (Up.grown o d.rbB)⟩;have c3:=v.c3;clear v o x;go_wp2;refine bodyPost_ret (results_none rfl _ _ _) rfl ?_;exact⟨rfl,G⟩
def oS(s:ByteArray)(bM:PS->Except Nat PS)(st:PS):Except Nat PS:=match cC s st.i 91 with
 |.error b=>.error b
 |.ok i2=>if aL s i2 93 then .ok {st with i:=am s i2 93}else dD s bM (s.size+1) {st with i:=sk s i2}
def A9(s:ByteArray)(st:PS):Except Nat PS:=match cC s st.i 93 with
 |.error b=>.error b
 |.ok i3=>.ok {st with i:=i3}
theorem I6 s i c:cC s (sk s i) c=cC s i c:=by grind[cC,Dq,Dn,kF]
theorem Lm s st:A9 s {st with i:=sk s st.i}=A9 s st:=by grind[A9,I6]
theorem Fp{s}{bM}{g}{st}{b}(h:bM st=.error b):dD s bM (g+1) st=.error b:=by rw[dD,h]
theorem Bz{s}{bM}{g}{st a}(h:bM st=.ok a)(d:aL s a.i 44=true):dD s bM (g+1) st=dD s bM g {a with i:=am s a.i 44}:=by grind[dD]
theorem Bv{s}{bM}{g}{st a}(h:bM st=.ok a)(d:¬aL s a.i 44=true):dD s bM (g+1) st=A9 s a:=by rw[dD,h];simp only;rw[if_neg d];rfl
def KI(s:ByteArray)(bM:PS->Except Nat PS)(R:Except Nat PS)(m:Bool)(i:Nat)(L:List Nd)(f:fA)(bad:Int):Prop:=
 (bad=-1/\m=true/\∃g,s.size<g+i/\dD s bM g ⟨i,L,f⟩=R)\/(bad=-1/\m=false/\A9 s ⟨i,L,f⟩=R)\/(∃b:Nat,bad=b/\m=false/\R=.error b)
section
variable{s:ByteArray} {i c:Nat} {b:Nat}
theorem Nr:gB s i c (-1)=aL s i c:=by grind[gB]
theorem rf:mI s i c (-1)=am s i c:=by grind[mI]
theorem xM:mB s i c (-1)=if aL s i c then-1 else(sk s i:Int):=by unfold mB;rw[if_pos dg];rfl
theorem Bd:gB s i c (b:Int)=false:=by grind[gB]
theorem ku:mB s i c (b:Int)=b:=by unfold mB;rw[if_neg dg]
theorem Ns(h:aL s i c=true):am s i c=sk s i+1:=by unfold am;rw[if_pos (by unfold aL at h;simpa using h)]
theorem xk(h:¬aL s i c=true):am s i c=sk s i:=by grind[am,aL]
end
theorem IK(rb B:Nat)(s:ByteArray)(i:Nat)(L:List Nd)(f:fA)(b:Nat)(cO up:Int)(a w:World)(h:RW a w rb B s i L f (b:Int) cO)(n:s.size<=1073741824):
 Cw 146 #[Pq rb,Iq up] w λe w'=>e=Rw (.tuple #[])/\∃i',RW a w' rb B s i' L f (b:Int) cO:=by
 have m:Hid (∀(c i:Nat) (w:World),c<256->RW a w rb B s i L f (b:Int) cO->Cw 147 #[Pq rb,.int .u8 (c:Int)] w λe w'=>e=Rw (.tuple #[])/\RW a w' rb B s (mI s i c b) L f (b:Int) cO):=λc i w k h=>by have:=eM c k h n;grind[ku]
 have p:Hid (∀(c i:Nat) (w:World),c<256->RW a w rb B s i L f (b:Int) cO->Cw 195 #[Pq rb,.int .u8 (c:Int)] w λe w'=>e=Rw (.bool false)/\RW a w' rb B s (mI s i c b) L f (b:Int) cO):=λc i w k h=>by have:=rP c k h n;grind[Bd]
 have j:Hid (Cw 147 #[Pq rb,.int .u8 91] w λe w'=>e=Rw (.tuple #[])/\RW a w' rb B s (mI s i 91 b) L f (b:Int) cO):=m 91 i w dg h;go_enter func146,ntmps146;go_wp2_with fail;refine ag j ?_;rintro e o ⟨rfl,h1⟩;have g:Hid (Cw 195 #[Pq rb,.int .u8 93] o λe w'=>e=Rw (.bool false)/\RW a w' rb B s (mI s (mI s i 91 b) 93 b) L f (b:Int) cO):=p 93 _ o dg h1;go_wp2_with fail;refine ag g ?_;rintro e l ⟨rfl,h2⟩;have q:=qH<|h2;have d:Hid (Cw 147 #[Pq rb,.int .u8 93] l λe w'=>e=Rw (.tuple #[])/\RW a w' rb B s (mI s (mI s (mI s i 91 b) 93 b) 93 b) L f (b:Int) cO):=m 93 _ l dg h2;go_wp2_with fail;go_loopw[4] (λt wr=>t=.bool true/\wr=l) (λ_ _=>0);case atStart=>grind
 case round=>obtain⟨rfl,rfl⟩:=hrel;have c3:=q.c3;go_wp2_with fail;refine ag d ?_;rintro e w3 ⟨rfl,r⟩;have u:=qH<|r;go_wp2;go_end0;grind
theorem LL(rb B:Nat)(s:ByteArray)(f:Nat)(hN:CZ rb B s f)(v:s.size<=1073741824)(up:Nat)(a:Nat)(st:PS)(k w:World)(h:RW k w rb B s st.i st.L st.er (-1) (a:Int))(zl:up<st.L.length)(hd:a<=st.i)(hf:s.size<f+st.i):
 Cw 146 #[Pq rb,Iq (up:Int)] w λe w'=>e=Rw (.tuple #[])/\fJ k w' rb B s (a:Int) st (oS s (cD s f (up:Int) a) st):=by
 by_cases Q:aL s st.i 91=true
 ·have p:Hid (Cw 147 #[Pq rb,.int .u8 91] w λe w'=>e=Rw (.tuple #[])/\RW k w' rb B s (am s st.i 91) st.L st.er (-1) (a:Int)):=by have:=eM 91 dg h v;rw[xM,if_pos Q,rf]at this;exact this
  have zb:st.i<am s st.i 91:=by rw[Ns Q];have:=du s st.i;omega
  have U:Hid (oS s (cD s f (up:Int) a) st=if aL s (am s st.i 91) 93 then .ok {st with i:=am s (am s st.i 91) 93}else dD s (cD s f (up:Int) a) (s.size+1) {st with i:=sk s (am s st.i 91)}):=by show _=_;unfold oS cC;rw[if_pos Q]
  obtain⟨R,hR⟩:=ad (oS s (cD s f (up:Int) a) st);rw[hR]at U⊢;have HN:=qH<|hN;obtain⟨y,P⟩:=ad (am s st.i 91);rw[P]at p zb U;go_enter func146,ntmps146;go_wp2_with fail;refine ag p ?_;rintro e w1 ⟨rfl,h1⟩;have j:Hid (Cw 195 #[Pq rb,.int .u8 93] w1 λe w'=>e=Rw (.bool (aL s y 93))/\RW k w' rb B s (am s y 93) st.L st.er (-1) (a:Int)):=by have:=rP 93 dg h1 v;rw[Nr,rf]at this;exact this
  have O:=bG s y 93;by_cases t:aL s y 93=true
  ·have o:Hid (R=.ok {st with i:=am s y 93}):=by show _=_;rw[U.out,if_pos t]
   rw[t]at j;go_wp2_with fail;refine ag j ?_;rintro e V ⟨rfl,h2⟩;have G:=qH<|h2;go_wp2;try simp only[Exit.inBlock,Exit.then]
   refine bodyPost_ret (results_none rfl _ _ _) rfl ?_;refine⟨rfl,?_⟩;show fJ _ _ _ _ _ _ _ _;rw[o.out];exact⟨G,by show st.i<am s y 93;omega,ae _⟩
  ·have x:=xk t;have n:Hid (dD s (cD s f (up:Int) a) (s.size+1) ⟨sk s y,st.L,st.er⟩=R):=by show _=_;rw[U.out,if_neg t]
   rw[show aL s y 93=false by simpa using t,x]at j;rw[x]at O;go_wp2_with fail;refine ag j ?_;rintro e V ⟨rfl,h2⟩;have G:=qH<|h2;have zg:=h2.il;go_wp2_with fail;go_loopw[4] (λS wr=>∃(m:Bool) (i:Nat) (L:List Nd) (g:fA) (bad:Int),S=.bool m/\i<=s.size/\(bad=-1->st.i<i/\st.L.length<=L.length)/\Hid (KI s (cD s f (up:Int) a) R m i L g bad)/\Hid (RW k wr rb B s i L g bad (a:Int))) (λS wr=>if I4 S then s.size+1-rdI wr rb else 0);case atStart=>exact⟨true,sk s y,st.L,st.er,-1,rfl,zg,λ_=>⟨dg,ae _⟩,.inl ⟨rfl,rfl,s.size+1,dg,n⟩,G⟩
   case round=>
    obtain⟨m,i,L,g,bad,rfl,zi,E,HI,J⟩:=hrel;have c3:=J.c3;have D:=qH<|J.rdI;rcases HI.out with⟨rfl,rfl,K,zh,ze⟩|⟨rfl,rfl,hen⟩|⟨b,rfl,rfl,hre⟩;·obtain⟨K,rfl⟩:∃q,K=q+1:=⟨K-1,dg⟩;obtain⟨zc,M⟩:=E rfl;have T:=qH<|HN (up:Int) a ⟨i,L,g⟩ k wr J (.inr ⟨dg,rd⟩) rd rd;have n:=qH<|ze;cases hp:cD s f (up:Int) a ⟨i,L,g⟩with
     |error b=>
      have o:Hid (R=.error b):=by show _=_;rw[<-n.out];exact Fp hp
      rw[hp]at T;go_wp2_with fail;refine ag T ?_;rintro e w3 ⟨rfl,i3,L3,g3,l⟩;have A:Hid (Cw 195 #[Pq rb,.int .u8 44] w3 λe w'=>e=Rw (.bool false)/\RW k w' rb B s (mI s i3 44 b) L3 g3 (b:Int) (a:Int)):=by have:=rP 44 dg l v;rw[Bd]at this;exact this
      go_wp2_with fail;refine ag A ?_;rintro e w4 ⟨rfl,h4⟩;have I:=qH<|h4;go_wp2_with fail;go_roundw;case rel=>exact⟨false,_,L3,g3,(b:Int),rfl,I.il,λe=>dg,.inr (.inr ⟨b,rfl,rfl,o⟩),I⟩
      case measure=>rw[D.out];show 0<s.size+1-i;omega
     |ok d=>
      rw[hp]at T;have HP:=qH<|hp;go_wp2_with fail;refine ag T ?_;rintro e w3 ⟨rfl,l,p3,l3⟩;have zk:i<d.i:=p3;have zj:L.length<=d.L.length:=l3;have A:Hid (Cw 195 #[Pq rb,.int .u8 44] w3 λe w'=>e=Rw (.bool (aL s d.i 44))/\RW k w' rb B s (am s d.i 44) d.L d.er (-1) (a:Int)):=by have:=rP 44 dg l v;rw[Nr,rf]at this;exact this
      have za:=bG s d.i 44;go_wp2_with fail;refine ag A ?_;rintro e w4 ⟨rfl,h4⟩;have I:=qH<|h4;have Y:=qH<|h4.rdI;have z:=h4.il;by_cases u:aL s d.i 44=true
      ·have C:Hid (dD s (cD s f (up:Int) a) K ⟨am s d.i 44,d.L,d.er⟩=R):=by show _=_;rw[<-n.out];exact(Bz HP u).symm
       rw[u];go_wp2_with fail;go_roundw;case rel=>exact⟨true,am s d.i 44,d.L,d.er,-1,rfl,z,λ_=>⟨dg,dg⟩,.inl ⟨rfl,rfl,K,dg,C⟩,I⟩
       case measure=>rw[D.out,Y.out];show s.size+1-am s d.i 44<s.size+1-i;omega
      ·have x:=xk u;have C:Hid (A9 s ⟨am s d.i 44,d.L,d.er⟩=R):=by show _=_;rw[<-n.out,Bv HP.out u,x];exact Lm s d
       rw[show aL s d.i 44=false by simpa using u];go_wp2_with fail;go_roundw;case rel=>exact⟨false,am s d.i 44,d.L,d.er,-1,rfl,z,λ_=>⟨dg,dg⟩,.inr (.inl ⟨rfl,rfl,C⟩),I⟩
       case measure=>rw[D.out];show 0<s.size+1-i;omega
    ·obtain⟨zc,M⟩:=E rfl;have X:=qH<|hen;have r:Hid (Cw 147 #[Pq rb,.int .u8 93] wr λe w'=>e=Rw (.tuple #[])/\RW k w' rb B s (am s i 93) L g (if aL s i 93 then-1 else(sk s i:Int)) (a:Int)):=by have:=eM 93 dg J v;rw[xM,rf]at this;exact this
     have za:=bG s i 93;go_wp2_with fail;refine ag r ?_;rintro e w3 ⟨rfl,l⟩;have H:=qH<|l;clear l r c3;go_wp2;go_end0;refine⟨rfl,?_⟩;show fJ _ _ _ _ _ _ _ _;rw[<-X.out];unfold A9 cC;have hh:=H.out;by_cases u:aL s i 93=true;·rw[if_pos u]at hh;simp only[u,if_true];exact⟨hh,rd,M⟩
     ·rw[if_neg u]at hh;simp only[u];exact⟨_,_,_,hh⟩
    ·have o:=qH<|hre;have Z:decide ((b:Int)<0)=false:=decide_eq_false dg;have r:Hid (Cw 147 #[Pq rb,.int .u8 93] wr λe w'=>e=Rw (.tuple #[])/\RW k w' rb B s (mI s i 93 b) L g (b:Int) (a:Int)):=by have:=eM 93 dg J v;rw[ku]at this;exact this
     clear hre HI E;go_wp2_with fail;refine ag r ?_;rintro e w3 ⟨rfl,l⟩;have H:=qH<|l;clear l r c3;go_wp2;go_end0;refine⟨rfl,?_⟩;show fJ _ _ _ _ _ _ _ _;rw[o.out];exact⟨_,_,_,H⟩
 ·have hR:oS s (cD s f (up:Int) a) st=.error (sk s st.i):=by unfold oS cC;rw[if_neg Q]
  have HR:=qH<|hR;have p:Hid (Cw 147 #[Pq rb,.int .u8 91] w λe w'=>e=Rw (.tuple #[])/\RW k w' rb B s (am s st.i 91) st.L st.er (sk s st.i:Int) (a:Int)):=by have:=eM 91 dg h v;rw[xM,if_neg Q,rf]at this;exact this
  have Z:decide ((sk s st.i:Int)<0)=false:=decide_eq_false dg;rw[hR];clear hN hR h;go_enter func146,ntmps146;go_wp2_with fail;refine ag p ?_;rintro e w1 ⟨rfl,h1⟩;have j:Hid (Cw 195 #[Pq rb,.int .u8 93] w1 λe w'=>e=Rw (.bool false)/\RW k w' rb B s (mI s (am s st.i 91) 93 (sk s st.i:Int)) st.L st.er (sk s st.i:Int) (a:Int)):=by have:=rP 93 dg h1 v;rw[Bd]at this;exact this
  clear h1 p;go_wp2_with fail;refine ag j ?_;rintro e V ⟨rfl,h2⟩;have G:=qH<|h2;have F:Hid (Cw 147 #[Pq rb,.int .u8 93] V λe w'=>e=Rw (.tuple #[])/\RW k w' rb B s (mI s (mI s (am s st.i 91) 93 (sk s st.i:Int)) 93 (sk s st.i:Int)) st.L st.er (sk s st.i:Int) (a:Int)):=by have:=eM 93 dg h2 v;rw[ku]at this;exact this
  clear h2 j;go_wp2_with fail;go_loopw[4] (λS wr=>S=.bool true/\wr=V) (λ_ _=>0);case atStart=>grind
  case round=>obtain⟨rfl,rfl⟩:=hrel;have c3:=G.c3;go_wp2_with fail;refine ag F ?_;rintro e w3 ⟨rfl,l⟩;have H:=qH<|l;clear l F c3;go_wp2;go_end0;exact⟨rfl,_,_,_,H⟩
theorem ta(rb B:Nat)(s:ByteArray)(i:Nat)(L:List Nd)(f:fA)(b:Nat)(cO:Int)(a w:World)(h:RW a w rb B s i L f (b:Int) cO)(k:s.size<=1073741824):
 Cw 148 #[Pq rb] w λe w'=>e=Rw (.string ByteArray.empty)/\∃p,RW a w' rb B s p L f (b:Int) cO:=by
 have g:Hid (Cw 147 #[Pq rb,.int .u8 34] w λe w'=>e=Rw (.tuple #[])/\RW a w' rb B s (mI s i 34 b) L f (b:Int) cO):=by have:=eM 34 dg h k;rw[ku]at this;exact this
 have j:decide ((b:Int)<0)=false:=decide_eq_false dg;clear h;go_enter func148,ntmps148;go_wp2_with fail;refine ag g ?_;rintro e l ⟨rfl,h1⟩;have d:=qH<|h1;clear h1 g;go_wp2_with fail;go_loopw[3] (λv wr=>wr=l) (λ_ _=>0);case atStart=>exact rfl
 case round=>obtain rfl:=hrel;have c3:=d.c3;go_wp2;go_ret;exact⟨rfl,_,d⟩
theorem DL{s}{i p}{t}(hi:i<=s.size)(h:dU s i=.ok (p,t)):i<=p/\p<=s.size:=by
 unfold dU at h;split at h;·have g:=yu _ _ _ _ _ (dK dg hi) h;grind[bG]
 grind
theorem FZ{rb B:Nat}{s:ByteArray}{i:Nat}{L:List Nd}{f:fA}{cO:Int}{o w:World}(h:RW o w rb B s i L f (-1) cO)(x:s.size<=1073741824):
 Cw 148 #[Pq rb] w λe w'=>match dU s i with
  |.ok (p,t)=>e=Rw (.string ⟨t.toArray⟩)/\RW o w' rb B s p L f (-1) cO
  |.error b=>e=Rw (.string ByteArray.empty)/\∃p,RW o w' rb B s p L f (b:Int) cO:=by
 obtain⟨nv,AV,KV,l,at_,h1,u,v⟩:=h.mem;refine(BZ rb s i nv (-1) l at_ cO w h1 x h.il dg).mono ?_;rintro e w' ⟨g,k⟩;have a:=h.fr.trans (Fr.grown g h.le);have j:=v.up (Up.grown g h.rbB);have d:=aF h.le g.size;cases m:dU s i with
 |error b=>rw[m]at k;obtain⟨rfl,p,hp,r⟩:=k;exact⟨rfl,p,hp,λe=>dg,h.kl,h.rbB,d,a,nv,AV,KV,l,at_,r,λe=>dg,j⟩
 |ok q=>obtain⟨p,t⟩:=q;rw[m]at k;obtain⟨rfl,r⟩:=k;have n:=DL h.il m;exact⟨rfl,n.2,λe=>aF (h.ll e) n.1,h.kl,h.rbB,d,a,nv,AV,KV,l,at_,r,λe=>(u e).on n.1,j⟩
theorem jy L k x:(aA L k x).length=L.length:=by unfold aA;simp
theorem th{L}{k}(a:k<L.length)x j:(aa (aA L k x) j).kids=(aa L j).kids:=by grind[aA,aT,aN]
theorem RW.text{W0 W}{rb B i}{s}{L}{f}{bad cO}(h:RW W0 W rb B s i L f bad cO){k}(m:k<L.length):
 ∃g a,W.cell? (aj rb 2)=some (Sq g L.length a)/\(∃u,W.cell? (aj g (k*5+2))=some u)/\W.frozen? (aj g (k*5+2))=false/\L.length<=a/\g≠rb/\∀x,RW W0 (W.setCell (aj g (k*5+2)) (.string ⟨x.toArray⟩)) rb B s i (aA L k x) f bad cO:=by obtain⟨nv,AV,KV,n,at_,h1,o,d⟩:=h.mem;obtain⟨g,a,rfl,p,t,r,_⟩:=d.nr.form dg;have v:=h.rbB;refine⟨g,a,h1.c2,⟨_,d.nr.cell m rfl⟩,d.nr.frozen _,r,dg,λx=>?_⟩;have l:=bF W g (k*5+2) (.string ⟨x.toArray⟩);refine⟨h.il,λe=>by rw[jy];exact h.ll e,λj=>by rw[th m,jy];exact h.kl j,h.rbB,by simpa[World.setCell]using h.le,h.fr.trans (Fr.own l h.le (λq e=>rd)),_,AV,KV,n,at_,RS.other h1 dg _,o,d.setText m x⟩
