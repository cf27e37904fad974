import Derived.Test.YtmbefonnkkhfgaaGreatDoorQ07
import Derived.Test.YtmbefonnkkhfgaaGreatDoorQ00
set_option linter.unusedVariables false
set_option maxRecDepth 100000
set_option maxHeartbeats 16000000
namespace Go.Proofs.YtmbefonnkkhfgaaGreatDoor
section
open Go.RowKit Go.Proofs.Tryz
def kindsL:List ByteArray:=[⟨#[114,111,119]⟩,⟨#[99,111,108]⟩,⟨#[115,116,97,99,107]⟩,⟨#[98,111,120]⟩,⟨#[115,99,114,111,108,108]⟩,⟨#[116,101,120,116]⟩,⟨#[103,97,112]⟩]
theorem kinds_any(w:World):Calls prog 44 #[] w fun e w'=>e=.returned (Sq w.heap.size 7 7)∧(∀j,j<7->w'.cell? ⟨w.heap.size,0+j,none⟩=some (.string (kindsL[j]?.getD ByteArray.empty)))∧w.heap.size<w'.heap.size∧Below w.heap.size w w':=by
 have HC:Hid (∀j,j<7->(w.alloc (.cells #[.string ⟨#[114,111,119]⟩,.string ⟨#[99,111,108]⟩,.string ⟨#[115,116,97,99,107]⟩,.string ⟨#[98,111,120]⟩,.string ⟨#[115,99,114,111,108,108]⟩,.string ⟨#[116,101,120,116]⟩,.string ⟨#[103,97,112]⟩] 9)).cell? ⟨w.heap.size,0+j,none⟩=some (.string (kindsL[j]?.getD ByteArray.empty))):=fun j hj=>by
  rw[Nat.zero_add,World.cell?_alloc_at _ _ _ _ rfl];match j,hj with
  |0,_=>rfl
  |1,_=>rfl
  |2,_=>rfl
  |3,_=>rfl
  |4,_=>rfl
  |5,_=>rfl
  |6,_=>rfl
 go_enter func44,ntmps44;go_wp2;go_ret;exact⟨rfl,HC,by simp,(Below.refl _ _).alloc (Nat.le_refl _) _⟩
def namesL:List ByteArray:=[⟨#[105,100]⟩,⟨#[109,105,110]⟩,⟨#[109,97,120]⟩,⟨#[119,101,105,103,104,116]⟩,⟨#[103,97,112]⟩,⟨#[112,97,100]⟩,⟨#[98,111,114,100,101,114]⟩,⟨#[97,108,105,103,110]⟩,⟨#[119,114,97,112]⟩,⟨#[102,103]⟩,⟨#[98,103]⟩,⟨#[98,111,108,100]⟩]
theorem names_any(w:World):Calls prog 75 #[] w fun e w'=>e=.returned (Sq w.heap.size 12 12)∧(∀j,j<12->w'.cell? ⟨w.heap.size,0+j,none⟩=some (.string (namesL[j]?.getD ByteArray.empty)))∧w.heap.size<w'.heap.size∧Below w.heap.size w w':=by
 have HC:Hid (∀j,j<12->(w.alloc (.cells #[.string ⟨#[105,100]⟩,.string ⟨#[109,105,110]⟩,.string ⟨#[109,97,120]⟩,.string ⟨#[119,101,105,103,104,116]⟩,.string ⟨#[103,97,112]⟩,.string ⟨#[112,97,100]⟩,.string ⟨#[98,111,114,100,101,114]⟩,.string ⟨#[97,108,105,103,110]⟩,.string ⟨#[119,114,97,112]⟩,.string ⟨#[102,103]⟩,.string ⟨#[98,103]⟩,.string ⟨#[98,111,108,100]⟩] 9)).cell? ⟨w.heap.size,0+j,none⟩=some (.string (namesL[j]?.getD ByteArray.empty))):=fun j hj=>by
  rw[Nat.zero_add,World.cell?_alloc_at _ _ _ _ rfl];match j,hj with
  |0,_=>rfl
  |1,_=>rfl
  |2,_=>rfl
  |3,_=>rfl
  |4,_=>rfl
  |5,_=>rfl
  |6,_=>rfl
  |7,_=>rfl
  |8,_=>rfl
  |9,_=>rfl
  |10,_=>rfl
  |11,_=>rfl
 go_enter func75,ntmps75;go_wp2;go_ret;exact⟨rfl,HC,by simp,(Below.refl _ _).alloc (Nat.le_refl _) _⟩
def mostL:List Int:=[999999,100000,100000,100000,100,20,1,2,1,8,8,1]
theorem most_any(w:World):Calls prog 77 #[] w fun e w'=>e=.returned (Sq w.heap.size 12 12)∧(∀j,j<12->w'.cell? ⟨w.heap.size,0+j,none⟩=some (Iq (mostL[j]?.getD 0))∧w'.frozen? ⟨w.heap.size,0+j,none⟩=false)∧w.heap.size<w'.heap.size∧Below w.heap.size w w':=by
 have HC:Hid (∀j,j<12->(w.alloc (.cells #[Iq (999999),Iq (100000),Iq (100000),Iq (100000),Iq (100),Iq (20),Iq (1),Iq (2),Iq (1),Iq (8),Iq (8),Iq (1)] 3)).cell? ⟨w.heap.size,0+j,none⟩=some (Iq (mostL[j]?.getD 0))∧(w.alloc (.cells #[Iq (999999),Iq (100000),Iq (100000),Iq (100000),Iq (100),Iq (20),Iq (1),Iq (2),Iq (1),Iq (8),Iq (8),Iq (1)] 3)).frozen? ⟨w.heap.size,0+j,none⟩=false):=fun j hj=>by
  rw[Nat.zero_add,World.cell?_alloc_at _ _ _ _ rfl,World.frozen?_alloc_at _ _ _ _ rfl];match j,hj with
  |0,_=>exact⟨rfl,rfl⟩
  |1,_=>exact⟨rfl,rfl⟩
  |2,_=>exact⟨rfl,rfl⟩
  |3,_=>exact⟨rfl,rfl⟩
  |4,_=>exact⟨rfl,rfl⟩
  |5,_=>exact⟨rfl,rfl⟩
  |6,_=>exact⟨rfl,rfl⟩
  |7,_=>exact⟨rfl,rfl⟩
  |8,_=>exact⟨rfl,rfl⟩
  |9,_=>exact⟨rfl,rfl⟩
  |10,_=>exact⟨rfl,rfl⟩
  |11,_=>exact⟨rfl,rfl⟩
 go_enter func77,ntmps77;go_wp2;go_ret;exact⟨rfl,HC,by simp,(Below.refl _ _).alloc (Nat.le_refl _) _⟩
def withoutL:List Int:=[0,0,-1,1,0,0,1,0,1,0,0,0]
theorem without_any(w:World):Calls prog 72 #[] w fun e w'=>e=.returned (Sq w.heap.size 12 12)∧(∀j,j<12->w'.cell? ⟨w.heap.size,0+j,none⟩=some (Iq (withoutL[j]?.getD 0))∧w'.frozen? ⟨w.heap.size,0+j,none⟩=false)∧w.heap.size<w'.heap.size∧Below w.heap.size w w':=by
 have HC:Hid (∀j,j<12->(w.alloc (.cells #[Iq (0),Iq (0),Iq (-1),Iq (1),Iq (0),Iq (0),Iq (1),Iq (0),Iq (1),Iq (0),Iq (0),Iq (0)] 3)).cell? ⟨w.heap.size,0+j,none⟩=some (Iq (withoutL[j]?.getD 0))∧(w.alloc (.cells #[Iq (0),Iq (0),Iq (-1),Iq (1),Iq (0),Iq (0),Iq (1),Iq (0),Iq (1),Iq (0),Iq (0),Iq (0)] 3)).frozen? ⟨w.heap.size,0+j,none⟩=false):=fun j hj=>by
  rw[Nat.zero_add,World.cell?_alloc_at _ _ _ _ rfl,World.frozen?_alloc_at _ _ _ _ rfl];match j,hj with
  |0,_=>exact⟨rfl,rfl⟩
  |1,_=>exact⟨rfl,rfl⟩
  |2,_=>exact⟨rfl,rfl⟩
  |3,_=>exact⟨rfl,rfl⟩
  |4,_=>exact⟨rfl,rfl⟩
  |5,_=>exact⟨rfl,rfl⟩
  |6,_=>exact⟨rfl,rfl⟩
  |7,_=>exact⟨rfl,rfl⟩
  |8,_=>exact⟨rfl,rfl⟩
  |9,_=>exact⟨rfl,rfl⟩
  |10,_=>exact⟨rfl,rfl⟩
  |11,_=>exact⟨rfl,rfl⟩
 go_enter func72,ntmps72;go_wp2;go_ret;exact⟨rfl,HC,by simp,(Below.refl _ _).alloc (Nat.le_refl _) _⟩
def ownsB(kind attr:Nat):Bool:=if attr=4 then(kind==0||kind==1)else if attr=5∨attr=6 then kind==3 else if attr=7∨attr=8 then kind==5 else true
theorem owns_any(kind attr:Nat)(hk:kind<7)(ha:attr<12)(w:World):Calls prog 76 #[Iq (kind:Int),Iq (attr:Int)] w fun e w'=>e=.returned (.bool (ownsB kind attr))∧w'=w:=by
 obtain⟨r,hr⟩:=nmd (ownsB kind attr);rw[hr];have HK:kind=0∨kind=1∨kind=2∨kind=3∨kind=4∨kind=5∨kind=6:=by omega
 have HA:attr=0∨attr=1∨attr=2∨attr=3∨attr=4∨attr=5∨attr=6∨attr=7∨attr=8∨attr=9∨attr=10∨attr=11:=by omega
 rcases HA with rfl|rfl|rfl|rfl|rfl|rfl|rfl|rfl|rfl|rfl|rfl|rfl<;>rcases HK with rfl|rfl|rfl|rfl|rfl|rfl|rfl<;>
  (simp[ownsB]at hr;subst hr;go_enter func76,ntmps76;go_wp2;go_ret;exact⟨rfl,rfl⟩)
end
section
structure Nd where
 kind:Nat
 attr:List Int
 text:List UInt8
 kids:List Nat
 up:Int
abbrev Flt:=Option (Nat×Nat)
def addF(f:Flt)(c p:Nat):Flt:=match f with
 |none=>some (c,p)
 |some x=>some x
def addIf(b:Bool)(f:Flt)(c p:Nat):Flt:=if b then addF f c p else f
structure PS where
 i:Nat
 L:List Nd
 er:Flt
def mustR(s:ByteArray)(i c:Nat):Except Nat Nat:=if isAt s i c then .ok (gotI s i c)else .error (sk s i)
def numBad(s:ByteArray)(j k:Nat):Bool:=decide (k=j∨j+6<k∨(j+1<k∧bat s j=48))
def hasId(L:List Nd)(n:Int):Bool:=L.any fun d=>d.attr[0]?.getD 0==n
def attr1(s:ByteArray)(kind:Nat)(L:List Nd)(i:Nat)(er:Flt)(a:List Int)(seen:List Nat):Except Nat (Nat×Flt×List Int×List Nat):=
 let at_:=sk s i
 let k:=run letter s at_
 if k=at_ then .error at_ else
 match mustR s k 61 with
 |.error b=>.error b
 |.ok i2=>
  let j:=sk s i2
  let e:=run digit s j
  if numBad s j e then .error j else
  let n:=dv s j (e-j)
  let ix:=findF namesL (s.extract at_ k) 0
  if ix<0∨ownsB kind ix.toNat=false then .ok (e,addF er 7 at_,a,seen)
  else .ok (e,addIf (decide (ix=0∧0<n)&&hasId L n) (addIf (decide (mostL[ix.toNat]?.getD 0<n)) (addIf (seen.contains ix.toNat) er 5 at_) 6 j) 5 j,a.set ix.toNat n,ix.toNat::seen)
def attrsF(s:ByteArray)(kind:Nat)(L:List Nd):Nat->Nat->Flt->List Int->List Nat->Except Nat (Nat×Flt×List Int)
 |0,i,_,_,_=>.error i
 |f+1,i,er,a,seen=>match attr1 s kind L i er a seen with
  |.error b=>.error b
  |.ok (i2,er2,a2,seen2)=>
   if isAt s i2 59 then attrsF s kind L f (gotI s i2 59) er2 a2 seen2
   else match mustR s i2 125 with
    |.error b=>.error b
    |.ok i3=>.ok (i3,er2,a2)
def attrsR(s:ByteArray)(kind:Nat)(L:List Nd)(i:Nat)(er:Flt):Except Nat (Nat×Flt×List Int):=
 if isAt s i 123 then attrsF s kind L (s.size+1) (gotI s i 123) er withoutL []else .ok (sk s i,er,withoutL)
def grown(L:List Nd)(d:Nd):List Nd:=
 if d.up<0 then L++[d]else(L.modify d.up.toNat fun u=>{u with kids:=u.kids++[L.length]})++[d]
def withText(L:List Nd)(k:Nat)(t:List UInt8):List Nd:=L.modify k fun u=>{u with text:=t}
def kidsF(s:ByteArray)(node:PS->Except Nat PS):Nat->PS->Except Nat PS
 |0,st=>.error st.i
 |f+1,st=>match node st with
  |.error b=>.error b
  |.ok st2=>if isAt s st2.i 44 then kidsF s node f {st2 with i:=gotI s st2.i 44}else match mustR s st2.i 93 with
   |.error b=>.error b
   |.ok i3=>.ok {st2 with i:=i3}
def bodyR(s:ByteArray)(kind k:Nat)(node:PS->Except Nat PS)(st:PS):Except Nat PS:=
 if kind<3 then match mustR s st.i 91 with
  |.error b=>.error b
  |.ok i2=>if isAt s i2 93 then .ok {st with i:=gotI s i2 93}else kidsF s node (s.size+1) {st with i:=sk s i2}
 else if kind<5 then match mustR s st.i 91 with
  |.error b=>.error b
  |.ok i2=>match node {st with i:=i2}with
   |.error b=>.error b
   |.ok st3=>match mustR s st3.i 93 with
    |.error b=>.error b
    |.ok i4=>.ok {st3 with i:=i4}
 else if kind=5 then match quoR s st.i with
  |.error b=>.error b
  |.ok (i2,t)=>.ok {st with i:=i2,L:=withText st.L k t}
 else .ok st
def nodeF(s:ByteArray):Nat->Int->Nat->PS->Except Nat PS
 |0,_,_,st=>.error st.i
 |f+1,up,depth,st=>
  let at_:=sk s st.i
  let k:=run letter s at_
  let kind:=findF kindsL (s.extract at_ k) 0
  if k=at_∨kind<0 then .error at_ else
  match attrsR s kind.toNat st.L k (addIf (decide (12≤depth)) (addIf (decide (100≤st.L.length)) st.er 3 at_) 4 at_)with
  |.error b=>.error b
  |.ok (i2,er2,a)=>bodyR s kind.toNat st.L.length (nodeF s f st.L.length (depth+1)) {i:=i2,L:=grown st.L ⟨kind.toNat,a,[],[],up⟩,er:=er2}
def parse(s:ByteArray):Except (Nat×Nat) (List Nd):=
 if 4000<s.size then .error (1,0)else
 match nodeF s (s.size+1) (-1) 0 ⟨0,[],none⟩with
 |.error b=>.error (2,b)
 |.ok st=>if sk s st.i<s.size then .error (2,sk s st.i)else match st.er with
  |some f=>.error f
  |none=>.ok st.L
end
section
open Go.RowKit
def nd0:Nd:=⟨0,[],[],[],0⟩
def nth(L:List Nd)(j:Nat):Nd:=L[j]?.getD nd0
theorem nth_app_old{L:List Nd}{d:Nd}{j:Nat}(h:j<L.length):nth (L++[d]) j=nth L j:=by unfold nth;rw[List.getElem?_append_left h]
theorem nth_app_new(L:List Nd)(d:Nd):nth (L++[d]) L.length=d:=by unfold nth;rw[List.getElem?_append_right (Nat.le_refl _)];simp
theorem nth_mod_same{L:List Nd}{k:Nat}(f:Nd->Nd)(h:k<L.length):nth (L.modify k f) k=f (nth L k):=by unfold nth;rw[List.getElem?_modify];simp[h]
theorem nth_mod_other{L:List Nd}{k j:Nat}(f:Nd->Nd)(h:j≠k):nth (L.modify k f) j=nth L j:=by unfold nth;rw[List.getElem?_modify];have h':¬k=j:=fun e=>h e.symm;simp[h']
theorem NR.congr{W:World}{B z n:Nat}{T:TypeId}{nv:Value}{C C':Nat->List Value}{KV KV':Nat->Value}{K K':Nat->List Nat}(h:NR W B T z nv n C KV K)
 (h1:∀j,j<n->C' j=C j) (h2:∀j,j<n->KV' j=KV j) (h3:∀j,j<n->K' j=K j):NR W B T z nv n C' KV' K':=
 ⟨h.row,fun g hg j hj t u ht=>h.cells g hg j hj t u (by rw[<-h1 j hj];exact ht),fun j hj=>by rw[h1 j hj];exact h.len j hj,fun j hj=>by rw[h2 j hj,h3 j hj];exact h.kids j hj,
  fun i j hi hj hij b hb=>by rw[h2 j hj];rw[h2 i hi]at hb;exact h.sep i j hi hj hij b hb⟩
structure Fr(B r:Nat)(W W':World):Prop where
 os:W'.os=W.os
 tape:W'.tape=W.tape
 output:W'.output=W.output
 size:W.heap.size≤W'.heap.size
 block:∀b,b<B->b≠r->W'.heap[b]?=W.heap[b]?
theorem Fr.refl(B r:Nat)(W:World):Fr B r W W:=⟨rfl,rfl,rfl,Nat.le_refl _,fun _ _ _=>rfl⟩
theorem Fr.trans{B r:Nat}{W W1 W2:World}(h:Fr B r W W1)(k:Fr B r W1 W2):Fr B r W W2:=
 ⟨k.os.trans h.os,k.tape.trans h.tape,k.output.trans h.output,Nat.le_trans h.size k.size,fun b h1 h2=>(k.block b h1 h2).trans (h.block b h1 h2)⟩
theorem Fr.grown{B r:Nat}{W W':World}(h:W.grownBy W' (some r))(hB:B≤W.heap.size):Fr B r W W':=
 ⟨h.os,h.tape,h.output,h.size,fun b h1 h2=>h.block b (by omega) (by simpa using h2)⟩
theorem Fr.own{B r:Nat}{W W':World}{o:Option Nat}(h:W.grownBy W' o)(hB:B≤W.heap.size)(ho:∀g,o=some g->B≤g):Fr B r W W':=
 ⟨h.os,h.tape,h.output,h.size,fun b h1 h2=>h.block b (by omega) (fun e=>by have:=ho b e.symm;omega)⟩
theorem Fr.below{B B' r:Nat}{W W':World}(h:Below B' W W')(hB:B≤B'):Fr B r W W':=
 ⟨h.os,h.tape,h.output,h.size,fun b h1 h2=>h.block b (by omega)⟩
theorem Fr.drewN(B r:Nat)(W:World)(q:Nat):Fr B r W (W.drewN q):=⟨rfl,rfl,rfl,Nat.le_refl _,fun _ _ _=>rfl⟩
theorem Fr.cell{B r:Nat}{W W':World}(h:Fr B r W W'){a:Addr}{v:Value}(hc:W.cell? a=some v)(h1:a.block<B)(h2:a.block≠r):W'.cell? a=some v:=
 (World.cell?_of_block (h.block a.block h1 h2)).trans hc
theorem Fr.frozen{B r:Nat}{W W':World}(h:Fr B r W W'){a:Addr}(h1:a.block<B)(h2:a.block≠r):W'.frozen? a=W.frozen? a:=
 World.frozen?_of_block (h.block a.block h1 h2)
def pnCells(d:Nd)(kv:Value):List Value:=Iq (d.kind:Int)::((d.attr.map fun(x:Int)=>Iq x)++[.string ⟨d.text.toArray⟩,kv,Iq d.up])
theorem pn_kind(d:Nd)(kv:Value):(pnCells d kv)[0]?=some (Iq (d.kind:Int)):=rfl
theorem pn_attr{d:Nd}{kv:Value}{t:Nat}(h:t<d.attr.length):(pnCells d kv)[t+1]?=some (Iq (d.attr[t]?.getD 0)):=by unfold pnCells;rw[List.getElem?_cons_succ,List.getElem?_append_left (by simpa using h)];simp[h]
theorem pn_text{d:Nd}{kv:Value}(h:d.attr.length=12):(pnCells d kv)[13]?=some (.string ⟨d.text.toArray⟩):=by unfold pnCells;rw[List.getElem?_cons_succ,List.getElem?_append_right (by simp[h])];simp[h]
theorem pn_kids{d:Nd}{kv:Value}(h:d.attr.length=12):(pnCells d kv)[14]?=some kv:=by unfold pnCells;rw[List.getElem?_cons_succ,List.getElem?_append_right (by simp[h])];simp[h]
theorem pn_len{d:Nd}{kv:Value}(h:d.attr.length=12):(pnCells d kv).length=16:=by unfold pnCells;simp[h]
theorem pn_set_attr{d:Nd}{kv:Value}{t:Nat}(h:t<d.attr.length)(x:Int):(pnCells d kv).set (t+1) (Iq x)=pnCells {d with attr:=d.attr.set t x} kv:=by unfold pnCells;rw[List.set_cons_succ,List.set_append_left _ _ (by simpa using h),List.map_set]
theorem pn_set_text{d:Nd}{kv:Value}(h:d.attr.length=12)(x:List UInt8):(pnCells d kv).set 13 (.string ⟨x.toArray⟩)=pnCells {d with text:=x} kv:=by unfold pnCells;rw[List.set_cons_succ,List.set_append_right _ _ (by simp[h])];simp[h]
theorem pn_set_kids{d:Nd}{kv kv':Value}(h:d.attr.length=12)(ks:List Nat):(pnCells d kv).set 14 kv'=pnCells {d with kids:=ks} kv':=by unfold pnCells;rw[List.set_cons_succ,List.set_append_right _ _ (by simp[h])];simp[h]
structure PN(W:World)(B:Nat)(nv:Value)(L:List Nd)(KV:Nat->Value):Prop where
 nr:NR W B 61 16 nv L.length (fun j=>pnCells (nth L j) (KV j)) KV (fun j=>(nth L j).kids)
 len:∀j,j<L.length->(nth L j).attr.length=12
section
variable{W W':World} {B:Nat} {nv:Value} {L:List Nd} {KV:Nat->Value}
theorem PN.up(h:PN W B nv L KV)(hu:Up B W W'):PN W' B nv L KV:=⟨h.nr.up hu,h.len⟩
theorem PN.app{nv':Value}{xs:List Value}{d:Nd}(h:PN W B nv L KV)(hx:W.ownsRow B 61 16 nv L.length xs)(hx':W'.ownsRow B 61 16 nv' (L.length+1) (xs++pnCells d (.slice none 0 0)))(hg:W.grownBy W' nv.ownBlock)(hl:d.attr.length=12)(hk:d.kids=[]):
 PN W' B nv' (L++[d]) (fun j=>if j=L.length then .slice none 0 0 else KV j):=by
 refine⟨?_,fun j hj=>?_⟩
 ·have hl2:(L++[d]).length=L.length+1:=by simp
  rw[hl2];refine(h.nr.app (by decide) hx hx' hg (pn_len hl)).congr (fun j hj=>?_) (fun j hj=>rfl) (fun j hj=>?_)
  ·by_cases e:j=L.length;·subst e;simp only[if_true];rw[nth_app_new]
   ·rw[if_neg e,if_neg e,nth_app_old (by omega)]
  ·by_cases e:j=L.length;·subst e;rw[if_pos rfl,nth_app_new,hk]
   ·rw[if_neg e,nth_app_old (by omega)]
 ·by_cases e:j=L.length;·subst e;rw[nth_app_new];exact hl
  ·rw[nth_app_old (by simp at hj;omega)];exact h.len j (by simp at hj;omega)
theorem PN.mod{g cap k t:Nat}{u:Value}(h:PN W B (Sq g L.length cap) L KV)(hk:k<L.length)(ht:t<16)(f:Nd->Nd)(hf:(pnCells (nth L k) (KV k)).set t u=pnCells (f (nth L k)) (KV k))(hfk:(f (nth L k)).kids=(nth L k).kids)(hfl:(f (nth L k)).attr.length=12):
 PN (W.setCell ⟨g,k*16+t,none⟩ u) B (Sq g L.length cap) (L.modify k f) KV:=by
 refine⟨?_,fun j hj=>?_⟩
 ·have hl2:(L.modify k f).length=L.length:=by simp
  rw[hl2];refine(h.nr.set (by decide) hk ht u).congr (fun j hj=>?_) (fun j hj=>rfl) (fun j hj=>?_)
  ·by_cases e:j=k;·subst e;rw[if_pos rfl,nth_mod_same f hk];exact hf.symm
   ·rw[if_neg e,nth_mod_other f e]
  ·by_cases e:j=k;·subst e;rw[nth_mod_same f hk];exact hfk
   ·rw[nth_mod_other f e]
 ·by_cases e:j=k;·subst e;rw[nth_mod_same f hk];exact hfl
  ·rw[nth_mod_other f e];exact h.len j (by simpa using hj)
theorem PN.setAttr{g cap k t:Nat}(h:PN W B (Sq g L.length cap) L KV)(hk:k<L.length)(ht:t<12)(x:Int):
 PN (W.setCell ⟨g,k*16+(t+1),none⟩ (Iq x)) B (Sq g L.length cap) (L.modify k fun d=>{d with attr:=d.attr.set t x}) KV:=
 h.mod hk (by omega) _ (pn_set_attr (by rw[h.len k hk];exact ht) x) rfl (by simp[h.len k hk])
theorem PN.setText{g cap k:Nat}(h:PN W B (Sq g L.length cap) L KV)(hk:k<L.length)(x:List UInt8):
 PN (W.setCell ⟨g,k*16+13,none⟩ (.string ⟨x.toArray⟩)) B (Sq g L.length cap) (withText L k x) KV:=
 h.mod hk (by omega) _ (pn_set_text (h.len k hk) x) rfl (h.len k hk)
theorem PN.kid{g cap:Nat}{kv':Value}{k c:Nat}(h:PN W B (Sq g L.length cap) L KV)(hk:k<L.length)
 (hr:W'.ownsRow B 3 1 kv' ((nth L k).kids.length+1) (kInts ((nth L k).kids++[c]))) (hg:W.grownBy W' (KV k).ownBlock) (hat:kv'.ownBlock=(KV k).ownBlock∨kv'.ownBlock=some W.heap.size):
 PN (W'.setCell ⟨g,k*16+14,none⟩ kv') B (Sq g L.length cap) (L.modify k fun u=>{u with kids:=u.kids++[c]}) (fun j=>if j=k then kv' else KV j):=by
 refine⟨?_,fun j hj=>?_⟩
 ·have hl2:(L.modify k fun u=>{u with kids:=u.kids++[c]}).length=L.length:=by simp
  rw[hl2];refine(h.nr.kid (t:=14) (by decide) hk (by omega) hr hg hat).congr (fun j hj=>?_) (fun j hj=>rfl) (fun j hj=>?_)
  ·by_cases e:j=k;·subst e;simp only[if_true];rw[nth_mod_same _ hk];exact(pn_set_kids (h.len j hk) _).symm
   ·rw[if_neg e,if_neg e,nth_mod_other _ e]
  ·by_cases e:j=k;·subst e;rw[if_pos rfl,nth_mod_same _ hk]
   ·rw[if_neg e,nth_mod_other _ e]
 ·by_cases e:j=k;·subst e;rw[nth_mod_same _ hk];exact h.len j hk
  ·rw[nth_mod_other _ e];exact h.len j (by simpa using hj)
end
theorem grown_eq(L:List Nd)(d:Nd)(k:Nat)(hd:d.up=(k:Int))(hk:k<L.length):grown L d=(L++[d]).modify k fun u=>{u with kids:=u.kids++[L.length]}:=by
 unfold grown;rw[if_neg (by omega),hd];simp only[Int.toNat_natCast];apply List.ext_getElem?;intro j;by_cases h1:j<L.length;·rw[List.getElem?_append_left (by simpa using h1),List.getElem?_modify,List.getElem?_modify,List.getElem?_append_left h1]
 ·rw[List.getElem?_append_right (by simp;omega),List.getElem?_modify,List.getElem?_append_right (by omega)];have h':¬k=j:=by omega
  simp[h']
end
section
open Go.RowKit Go.Proofs.Tryz
def ndCells(d:Nd)(av kv:Value):List Value:=[Iq (d.kind:Int),av,.string ⟨d.text.toArray⟩,kv,Iq d.up]
def ndAll:List Nd->List Value->List Value->List Value
 |d::L,a::A,k::K=>ndCells d a k++ndAll L A K
 |_,_,_=>[]
def Attr(W:World)(B:Nat)(v:Value)(a:List Int):Prop:=∃ab,v=Sq ab 12 12∧B≤ab∧ab<W.heap.size∧a.length=12∧∀j,j<12->W.cell? ⟨ab,j,none⟩=some (Iq (a[j]?.getD 0))∧W.frozen? ⟨ab,j,none⟩=false
def blockOf:Value->Option Nat
 |.slice (some a) _ _=>some a.block
 |_=>none
structure NA(W:World)(B:Nat)(lv:Value)(L:List Nd)(AV KV:List Value):Prop where
 row:W.ownsRow B 104 5 lv L.length (ndAll L AV KV)
 lenA:AV.length=L.length
 lenK:KV.length=L.length
 attr:∀(j:Nat) d v,L[j]?=some d->AV[j]?=some v->Attr W B v d.attr
 kids:∀(j:Nat) d v,L[j]?=some d->KV[j]?=some v->W.ownsRow B 3 1 v d.kids.length (d.kids.map fun(k:Nat)=>Iq (k:Int))
 sepKK:∀(i j:Nat) (u v:Value),i≠j->KV[i]?=some u->KV[j]?=some v->∀b,u.ownBlock=some b->v.ownBlock≠some b
 sepKL:∀(j:Nat) (v:Value),KV[j]?=some v->∀b,v.ownBlock=some b->lv.ownBlock≠some b
 sepAL:∀(j:Nat) (v:Value),AV[j]?=some v->∀b,blockOf v=some b->lv.ownBlock≠some b
 sepAK:∀(i j:Nat) (u v:Value),AV[i]?=some u->KV[j]?=some v->∀b,blockOf u=some b->v.ownBlock≠some b
theorem own_grown{W W':World}{B r n size:Nat}{e:TypeId}{v:Value}{xs:List Value}(h:W.ownsRow B e size v n xs)(hg:W.grownBy W' (some r))(hn:∀b,v.ownBlock=some b->b≠r):W'.ownsRow B e size v n xs:=by
 refine⟨h.1,?_⟩;rcases h.2 with h2|⟨g,cap,cur,a,b,c,d⟩;·exact .inl h2
 ·have hgr:=hn g (by rw[a];rfl);refine .inr ⟨g,cap,cur,a,b,?_,d⟩;rw[hg.block g (Array.getElem?_eq_some_iff.1 c).1 (fun e=>hgr (by injection e))];exact c
theorem own_ge{W:World}{B n size:Nat}{e:TypeId}{v:Value}{xs:List Value}(h:W.ownsRow B e size v n xs){b:Nat}(hb:v.ownBlock=some b):B≤b∧b<W.heap.size:=h.lt b hb
theorem gfrozen{A B:World}{r b o:Nat}(hb:A.grownBy B (some r))(hl:b<A.heap.size)(hn:b≠r):B.frozen? ⟨b,o,none⟩=A.frozen? ⟨b,o,none⟩:=by unfold World.frozen?;rw[hb.block b hl (fun e=>hn (by injection e))]
theorem Attr.grown{W W':World}{B r:Nat}{v:Value}{a:List Int}(h:Attr W B v a)(hg:W.grownBy W' (some r))(hn:∀b,blockOf v=some b->b≠r):Attr W' B v a:=by obtain⟨ab,rfl,h1,h2,h3,h4⟩:=h;have hne:=hn ab rfl;exact⟨ab,rfl,h1,Nat.lt_of_lt_of_le h2 hg.size,h3,fun j hj=>⟨hg.cell (h4 j hj).1 (by simpa using hne),(gfrozen hg h2 hne).trans (h4 j hj).2⟩⟩
theorem NA.grown{W W':World}{B r:Nat}{lv:Value}{L:List Nd}{AV KV:List Value}(h:NA W B lv L AV KV)(hg:W.grownBy W' (some r))(hr:r<B):NA W' B lv L AV KV:=by
 refine⟨own_grown h.row hg fun b hb=>by have:=own_ge h.row hb;omega,h.lenA,h.lenK,fun j d v h1 h2=>?_,fun j d v h1 h2=>?_,h.sepKK,h.sepKL,h.sepAL,h.sepAK⟩;·refine(h.attr j d v h1 h2).grown hg fun b hb=>?_;obtain⟨ab,rfl,h3,_⟩:=h.attr j d v h1 h2;injection hb with hb;have:ab=b:=hb;omega
 ·exact own_grown (h.kids j d v h1 h2) hg fun b hb=>by have:=own_ge (h.kids j d v h1 h2) hb;omega
theorem number_bad(rb:Nat)(s:ByteArray)(i:Nat)(lv:Value)(bad er at_ dep:Int)(w:World)(h:RS w rb s i lv bad er at_ dep)(hs:s.size≤1099511627776)(hi:i≤s.size)(hb:0≤bad):
 Calls prog 74 #[Pq rb] w fun e w'=>e=.returned (.tuple #[Iq 0,Iq (sk s i:Int)])∧RS w' rb s (sk s i) lv bad er at_ dep∧w.grownBy w' (some rb):=by
 have CS:=qH<|skip_any rb s i lv bad er at_ dep w h hs hi;obtain⟨j,hj⟩:=nmd (sk s i);have hjs:=sk_le s i hi;rw[hj]at CS hjs⊢;clear h hj;go_enter func74,ntmps74;go_wp2_with fail;refine CS.mono ?_;rintro e w1 ⟨rfl,h1,g1⟩;have HR:=qH<|h1;have HG1:=qH<|g1;have d1:=h1.c1;have hb':¬bad<0:=by omega
 have eb:=decide_eq_false hb';clear h1 g1 CS;go_wp2;clear d1;go_loopw[5,13] (fun v _ wr=>v=Iq 0∧Hid (RS wr rb s j lv bad er at_ dep)∧Hid (w.grownBy wr (some rb))) (fun _ _ wr=>0);case atStart=>exact⟨rfl,HR,HG1⟩
 case round=>
  obtain⟨rfl,HS,HG⟩:=hrel;have hs1:=HS.out;have c0:=hs1.c0;have c1:=hs1.c1;have c3:=hs1.c3;have CF:=qH<|fun W h=>fail_any rb s j lv bad er at_ dep j W h;have HE:Hid (badI bad (j:Int)=bad):=by show _=_;unfold badI;rw[if_neg (by omega)]
  have u0:(j:Int)-(j:Int)=0:=by omega
  clear hs1;go_wp2_with fail;go_quiet(fail);go_wp2_with fail;refine(CF _ (HS.drewN _)).mono ?_;rintro e w2 ⟨rfl,h2,g2⟩;have H2:Hid (RS w2 rb s j lv bad er at_ dep):=by have:=h2;rw[HE.out]at this;exact this
  have HG2:=qH<|gr_trans (gr_trans HG (gr_drewN _ _ _)) g2;clear h2 g2 c0 c1 c3;go_wp2;go_ret2;exact⟨rfl,H2,HG2⟩
end
section
open Go.RowKit Go.Proofs.Tryz
def wS(s:ByteArray)(i:Nat)(bad:Int):ByteArray:=if bad<0 then s.extract (sk s i) (run letter s (sk s i))else ByteArray.empty
def wI(s:ByteArray)(i:Nat)(bad:Int):Nat:=if bad<0 then run letter s (sk s i)else sk s i
def wB(s:ByteArray)(i:Nat)(bad:Int):Int:=if bad<0 then wordB s i bad else bad
def mI(s:ByteArray)(i c:Nat)(bad:Int):Nat:=if bad<0 then gotI s i c else sk s i
def mB(s:ByteArray)(i c:Nat)(bad:Int):Int:=if bad<0 then mustB s i c bad else bad
def gB(s:ByteArray)(i c:Nat)(bad:Int):Bool:=if bad<0 then isAt s i c else false
def nV(s:ByteArray)(i:Nat)(bad:Int):Int:=if bad<0 then dv s (sk s i) (run digit s (sk s i)-sk s i)else 0
def nI(s:ByteArray)(i:Nat)(bad:Int):Nat:=if bad<0 then run digit s (sk s i)else sk s i
def nB(s:ByteArray)(i:Nat)(bad:Int):Int:=if bad<0 then numB s (sk s i) (run digit s (sk s i)) bad else bad
theorem wI_le{s:ByteArray}{i:Nat}(bad:Int)(hi:i≤s.size):wI s i bad≤s.size:=by
 unfold wI;split;·exact run_le _ _ _ (sk_le s i hi)
 ·exact sk_le s i hi
theorem gotI_le{s:ByteArray}{i c:Nat}(hc:c<256)(hi:i≤s.size):gotI s i c≤s.size:=by
 unfold gotI;split
 ·rename_i h;by_cases e:sk s i<s.size;·omega
  ·rw[bat_out e]at h;omega
 ·exact sk_le s i hi
theorem mI_le{s:ByteArray}{i c:Nat}(bad:Int)(hc:c<256)(hi:i≤s.size):mI s i c bad≤s.size:=by
 unfold mI;split;·exact gotI_le hc hi
 ·exact sk_le s i hi
theorem nI_le{s:ByteArray}{i:Nat}(bad:Int)(hi:i≤s.size):nI s i bad≤s.size:=by
 unfold nI;split;·exact run_le _ _ _ (sk_le s i hi)
 ·exact sk_le s i hi
theorem nV_bd(s:ByteArray)(i:Nat)(bad:Int):0≤nV s i bad∧nV s i bad≤999999:=by
 unfold nV;split;·have h:=dv_bd s (sk s i) (run digit s (sk s i)-sk s i) (fun t ht=>by have:=run_all (p:=digit) s (s.size-sk s i) (sk s i) t (by have h2:runF digit s (s.size-sk s i) (sk s i)=run digit s (sk s i):=rfl;omega);unfold digit at this;simpa using this);exact⟨h.1,h.2.1⟩
 ·omega
theorem word_all(rb:Nat)(s:ByteArray)(i:Nat)(lv:Value)(bad er at_ dep:Int)(w:World)(h:RS w rb s i lv bad er at_ dep)(hs:s.size≤1099511627776)(hi:i≤s.size):
 Calls prog 42 #[Pq rb] w fun e w'=>e=.returned (.string (wS s i bad))∧RS w' rb s (wI s i bad) lv (wB s i bad) er at_ dep∧w.grownBy w' (some rb):=by
 unfold wS wI wB;by_cases hb:bad<0;·rw[if_pos hb,if_pos hb,if_pos hb];exact word_any rb s i lv bad er at_ dep w h hs hi hb
 ·rw[if_neg hb,if_neg hb,if_neg hb];exact word_bad rb s i lv bad er at_ dep w h hs hi (by omega)
theorem must_all(rb:Nat)(s:ByteArray)(i:Nat)(lv:Value)(bad er at_ dep:Int)(c:Nat)(w:World)(h:RS w rb s i lv bad er at_ dep)(hs:s.size≤1099511627776)(hi:i≤s.size)(hc:c<256):
 Calls prog 48 #[Pq rb,.int .u8 (c:Int)] w fun e w'=>e=.returned (.tuple #[])∧RS w' rb s (mI s i c bad) lv (mB s i c bad) er at_ dep∧w.grownBy w' (some rb):=by
 unfold mI mB;by_cases hb:bad<0;·rw[if_pos hb,if_pos hb];exact must_any rb s i lv bad er at_ dep c w h hs hi hc hb
 ·rw[if_neg hb,if_neg hb];exact must_bad rb s i lv bad er at_ dep c w h hs hi (by omega)
theorem got_all(rb:Nat)(s:ByteArray)(i:Nat)(lv:Value)(bad er at_ dep:Int)(c:Nat)(w:World)(h:RS w rb s i lv bad er at_ dep)(hs:s.size≤1099511627776)(hi:i≤s.size)(hc:c<256):
 Calls prog 73 #[Pq rb,.int .u8 (c:Int)] w fun e w'=>e=.returned (.bool (gB s i c bad))∧RS w' rb s (mI s i c bad) lv bad er at_ dep∧w.grownBy w' (some rb):=by
 unfold mI gB;by_cases hb:bad<0;·rw[if_pos hb,if_pos hb];exact got_any rb s i lv bad er at_ dep c w h hs hi hc hb
 ·rw[if_neg hb,if_neg hb];exact got_bad rb s i lv bad er at_ dep c w h hs hi (by omega)
theorem number_all(rb:Nat)(s:ByteArray)(i:Nat)(lv:Value)(bad er at_ dep:Int)(w:World)(h:RS w rb s i lv bad er at_ dep)(hs:s.size≤1099511627776)(hi:i≤s.size):
 Calls prog 74 #[Pq rb] w fun e w'=>e=.returned (.tuple #[Iq (nV s i bad),Iq (sk s i:Int)])∧RS w' rb s (nI s i bad) lv (nB s i bad) er at_ dep∧w.grownBy w' (some rb):=by
 unfold nV nI nB;by_cases hb:bad<0;·rw[if_pos hb,if_pos hb,if_pos hb];exact number_any rb s i lv bad er at_ dep w h hs hi hb
 ·rw[if_neg hb,if_neg hb,if_neg hb];exact number_bad rb s i lv bad er at_ dep w h hs hi (by omega)
structure Step where
 i:Nat
 bad:Int
 n:Int
 p:Nat
 at_:Nat
 ix:Int
def step1(s:ByteArray)(i:Nat)(bad:Int):Step:=
 let j:=sk s i
 let i1:=wI s j bad
 let b1:=wB s j bad
 let i2:=mI s i1 61 b1
 let b2:=mB s i1 61 b1
 {i:=nI s i2 b2,bad:=nB s i2 b2,n:=nV s i2 b2,p:=sk s i2,at_:=j,ix:=findF namesL (wS s j bad) 0}
end
section
open Go.RowKit Go.Proofs.Tryz
structure PR(W:World)(rb:Nat)(s:ByteArray)(i:Nat)(av nv fv:Value):Prop where
 lt:rb<W.heap.size
 c0:W.cell? ⟨rb,0,none⟩=some (.string s)
 c1:W.cell? ⟨rb,1,none⟩=some (Iq (i:Int))
 c2:W.cell? ⟨rb,2,none⟩=some av
 c3:W.cell? ⟨rb,3,none⟩=some nv
 c4:W.cell? ⟨rb,4,none⟩=some fv
 fz:∀j,W.frozen? ⟨rb,j,none⟩=false
theorem PR.below{W W':World}{rb:Nat}{s:ByteArray}{i:Nat}{av nv fv:Value}(h:PR W rb s i av nv fv)(hb:Below W.heap.size W W'):PR W' rb s i av nv fv:=
 have k:∀j v,W.cell? ⟨rb,j,none⟩=some v->W'.cell? ⟨rb,j,none⟩=some v:=fun j v e=>(hb.cell (p:=⟨rb,j,none⟩) h.lt).trans e
 ⟨Nat.lt_of_lt_of_le h.lt hb.size,k _ _ h.c0,k _ _ h.c1,k _ _ h.c2,k _ _ h.c3,k _ _ h.c4,fun j=>(hb.frozen (p:=⟨rb,j,none⟩) h.lt).trans (h.fz j)⟩
theorem PR.drewN{W:World}{rb:Nat}{s:ByteArray}{i:Nat}{av nv fv:Value}(h:PR W rb s i av nv fv)(n:Nat):PR (W.drewN n) rb s i av nv fv:=
 ⟨h.lt,h.c0,h.c1,h.c2,h.c3,h.c4,h.fz⟩
theorem PR.setI{W:World}{rb:Nat}{s:ByteArray}{i:Nat}{av nv fv:Value}(h:PR W rb s i av nv fv)(i':Nat):PR (W.setCell ⟨rb,1,none⟩ (Iq (i':Int))) rb s i' av nv fv:=
 ⟨by simpa using h.lt,rs_other (by omega) h.c0,rs_same h.c1,rs_other (by omega) h.c2,rs_other (by omega) h.c3,rs_other (by omega) h.c4,fun j=>by rw[World.frozen?_setCell];exact h.fz j⟩
def prI(W:World)(rb:Nat):Nat:=match W.cell? ⟨rb,1,none⟩with
 |some (.int _ x)=>x.toNat
 |_=>0
theorem PR.prI{W:World}{rb:Nat}{s:ByteArray}{i:Nat}{av nv fv:Value}(h:PR W rb s i av nv fv):prI W rb=i:=by unfold Go.Proofs.YtmbefonnkkhfgaaGreatDoor.prI;rw[h.c1];simp
theorem skipBlanks_any(rb:Nat)(s:ByteArray)(i:Nat)(av nv fv:Value)(w:World)(h:PR w rb s i av nv fv)(hs:s.size≤1099511627776)(hi:i≤s.size):
 Calls prog 59 #[Pq rb] w fun e w'=>e=.returned (.tuple #[])∧PR w' rb s (sk s i) av nv fv∧w.grownBy w' (some rb):=by
 have HR:=qH<|h;clear h;go_enter func59,ntmps59;go_wp2;go_loopw[2] (fun _ wr=>∃k:Nat,k≤s.size∧Hid (sk s k=sk s i)∧Hid (PR wr rb s k av nv fv)∧Hid (w.grownBy wr (some rb))) (fun _ wr=>s.size-prI wr rb);case atStart=>exact⟨i,hi,rfl,HR,gr_refl _ _⟩
 case round=>
  obtain⟨k,hk,HK,HS,HG⟩:=hrel;have hs1:=HS.out;have c0:=hs1.c0;have c1:=hs1.c1;have f1:=hs1.fz 1;by_cases hlt:k<s.size
  ·have hlt':(k:Int)<(s.size:Int):=by omega
   obtain⟨x,hx⟩:=nmd (s[k].toNat);have hbx:bat s k=x:=by rw[bat_in hlt,hx]
   by_cases hb:x=32
   ·skip;have HN:=qH<|fun q=>by have:=(HS.drewN q).setI (k+1);rw[show((k+1:Nat):Int)=(k:Int)+1 by omega]at this;exact this
    have HK2:Hid (sk s (k+1)=sk s i):=by rw[<-HK.out];exact(run_step hlt (by rw[hbx];simp[blank,hb])).symm
    have hrd:=HS.prI;have HRD:=qH<|hrd;subst hb;clear hs1 HK HS hbx hrd;go_wp2_with fail;go_quiet(fail);go_wp2;go_roundw;case rel=>exact⟨k+1,by omega,HK2,HN _,gr_trans (gr_trans HG (gr_drewN _ _ _)) (gr_set _ _ _ _)⟩
    case measure=>rw[(HN _).prI,HRD.out];omega
   ·by_cases hb2:x=10
    ·skip;have HN:=qH<|fun q=>by have:=(HS.drewN q).setI (k+1);rw[show((k+1:Nat):Int)=(k:Int)+1 by omega]at this;exact this
     have HK2:Hid (sk s (k+1)=sk s i):=by rw[<-HK.out];exact(run_step hlt (by rw[hbx];simp[blank,hb2])).symm
     have hrd:=HS.prI;have HRD:=qH<|hrd;subst hb2;clear hs1 HK HS hbx hrd;go_wp2_with fail;go_quiet(fail);go_wp2;go_roundw;case rel=>exact⟨k+1,by omega,HK2,HN _,gr_trans (gr_trans HG (gr_drewN _ _ _)) (gr_set _ _ _ _)⟩
     case measure=>rw[(HN _).prI,HRD.out];omega
    ·have HE:Hid (PR wr rb s (sk s i) av nv fv):=by have:sk s k=k:=run_stop (by rw[hbx];simp[blank,hb,hb2]);rw[<-HK.out,this];exact HS
     have e1:((x:Int)==32)=false:=by simp;omega
     have e2:((x:Int)==10)=false:=by simp;omega
     clear hs1 HK HS hbx;go_wp2_with fail;go_quiet(fail);go_wp2;go_end0;exact⟨rfl,HE.drewN _,gr_trans HG (gr_drewN _ _ _)⟩
  ·have hlt':¬(k:Int)<(s.size:Int):=by omega
   have hd:=decide_eq_false hlt';have HE:Hid (PR wr rb s (sk s i) av nv fv):=by have:sk s k=k:=run_out hlt;rw[<-HK.out,this];exact HS
   clear hs1 HK HS;go_wp2_with fail;go_quiet(fail);go_wp2;go_end0;exact⟨rfl,HE.drewN _,gr_trans HG (gr_drewN _ _ _)⟩
theorem takes_any(rb:Nat)(s:ByteArray)(i:Nat)(av nv fv:Value)(c:Nat)(w:World)(h:PR w rb s i av nv fv)(hs:s.size≤1099511627776)(hi:i≤s.size)(hc:c<256):
 Calls prog 113 #[Pq rb,.int .u8 (c:Int)] w fun e w'=>e=.returned (.bool (isAt s i c))∧PR w' rb s (gotI s i c) av nv fv∧w.grownBy w' (some rb):=by
 have CS:=qH<|skipBlanks_any rb s i av nv fv w h hs hi;obtain⟨j,hj⟩:=nmd (sk s i);have hjs:=sk_le s i hi;have HGI:Hid (gotI s i c=if bat s j=c then j+1 else j):=by show _=_;unfold gotI;rw[hj]
 have HIA:Hid (isAt s i c=(bat s j==c)):=by show _=_;unfold isAt;rw[hj]
 rw[hj]at CS hjs;clear h hj;go_enter func113,ntmps113;go_wp2_with fail;refine CS.mono ?_;rintro e w1 ⟨rfl,h1,g1⟩;have HR:=qH<|h1;have HG:=qH<|g1;have c0:=h1.c0;have c1:=h1.c1;have f1:=h1.fz 1;clear h1 g1 CS;by_cases hlt:j<s.size
 ·have hlt':(j:Int)<(s.size:Int):=by omega
  have el:((j:Int)==(s.size:Int))=false:=by simp;omega
  obtain⟨x,hx⟩:=nmd (s[j].toNat);have hbx:bat s j=x:=by rw[bat_in hlt,hx]
  by_cases hxc:x=c
  ·have HN:Hid (∀q,PR ((w1.drewN q).setCell ⟨rb,1,none⟩ (Iq ((j:Int)+1))) rb s (gotI s i c) av nv fv):=fun q=>by rw[HGI.out,hbx,if_pos hxc];have:=(HR.drewN q).setI (j+1);rw[show((j+1:Nat):Int)=(j:Int)+1 by omega]at this;exact this
   have HE:Hid (isAt s i c=true):=by show _=_;rw[HIA.out,hbx];simpa using hxc
   subst hxc;clear hbx HR;go_wp2_with fail;go_quiet(fail);go_wp2;go_ret;exact⟨by rw[HE.out];rfl,HN _,gr_trans (gr_trans HG (gr_drewN _ _ _)) (gr_set _ _ _ _)⟩
  ·have HN:Hid (PR w1 rb s (gotI s i c) av nv fv):=by rw[HGI.out,hbx,if_neg hxc];exact HR
   have HE:Hid (isAt s i c=false):=by show _=_;rw[HIA.out,hbx];simpa using hxc
   have ex:((x:Int)!=(c:Int))=true:=by simp;omega
   clear hbx HR;go_wp2_with fail;go_quiet(fail);go_wp2;go_ret;exact⟨by rw[HE.out];rfl,HN.drewN _,gr_trans HG (gr_drewN _ _ _)⟩
 ·have hlt':¬(j:Int)<(s.size:Int):=by omega
  have el:((j:Int)==(s.size:Int))=true:=by simp;omega
  have hbo:=bat_out hlt;have HN:Hid (PR w1 rb s (gotI s i c) av nv fv):=by rw[HGI.out,hbo,if_neg (by omega)];exact HR
  have HE:Hid (isAt s i c=false):=by show _=_;rw[HIA.out,hbo];simp;omega
  clear hbo HR;go_wp2_with fail;go_quiet(fail);go_wp2;go_ret;exact⟨by rw[HE.out];rfl,HN.drewN _,gr_trans HG (gr_drewN _ _ _)⟩
end
section
open Go.RowKit Go.Proofs.Tryz
theorem in1(nb o:Nat)(w:World):Calls prog 96 #[.pointer (some ⟨nb,o,none⟩)] w fun e w'=>e=.returned (.pointer (some ⟨nb,o+1,none⟩))∧w'=w:=by go_enter func96,ntmps96;go_wp2;go_ret;exact⟨rfl,rfl⟩
theorem in2(nb o:Nat)(w:World):Calls prog 97 #[.pointer (some ⟨nb,o,none⟩)] w fun e w'=>e=.returned (.pointer (some ⟨nb,o+2,none⟩))∧w'=w:=by go_enter func97,ntmps97;go_wp2;go_ret;exact⟨rfl,rfl⟩
theorem in3(nb o:Nat)(w:World):Calls prog 98 #[.pointer (some ⟨nb,o,none⟩)] w fun e w'=>e=.returned (.pointer (some ⟨nb,o+3,none⟩))∧w'=w:=by go_enter func98,ntmps98;go_wp2;go_ret;exact⟨rfl,rfl⟩
theorem in4(nb o:Nat)(w:World):Calls prog 99 #[.pointer (some ⟨nb,o,none⟩)] w fun e w'=>e=.returned (.pointer (some ⟨nb,o+4,none⟩))∧w'=w:=by go_enter func99,ntmps99;go_wp2;go_ret;exact⟨rfl,rfl⟩
theorem in5(nb o:Nat)(w:World):Calls prog 100 #[.pointer (some ⟨nb,o,none⟩)] w fun e w'=>e=.returned (.pointer (some ⟨nb,o+5,none⟩))∧w'=w:=by go_enter func100,ntmps100;go_wp2;go_ret;exact⟨rfl,rfl⟩
theorem in6(nb o:Nat)(w:World):Calls prog 101 #[.pointer (some ⟨nb,o,none⟩)] w fun e w'=>e=.returned (.pointer (some ⟨nb,o+6,none⟩))∧w'=w:=by go_enter func101,ntmps101;go_wp2;go_ret;exact⟨rfl,rfl⟩
theorem in7(nb o:Nat)(w:World):Calls prog 102 #[.pointer (some ⟨nb,o,none⟩)] w fun e w'=>e=.returned (.pointer (some ⟨nb,o+7,none⟩))∧w'=w:=by go_enter func102,ntmps102;go_wp2;go_ret;exact⟨rfl,rfl⟩
theorem in8(nb o:Nat)(w:World):Calls prog 103 #[.pointer (some ⟨nb,o,none⟩)] w fun e w'=>e=.returned (.pointer (some ⟨nb,o+8,none⟩))∧w'=w:=by go_enter func103,ntmps103;go_wp2;go_ret;exact⟨rfl,rfl⟩
theorem in9(nb o:Nat)(w:World):Calls prog 104 #[.pointer (some ⟨nb,o,none⟩)] w fun e w'=>e=.returned (.pointer (some ⟨nb,o+9,none⟩))∧w'=w:=by go_enter func104,ntmps104;go_wp2;go_ret;exact⟨rfl,rfl⟩
theorem in10(nb o:Nat)(w:World):Calls prog 105 #[.pointer (some ⟨nb,o,none⟩)] w fun e w'=>e=.returned (.pointer (some ⟨nb,o+10,none⟩))∧w'=w:=by go_enter func105,ntmps105;go_wp2;go_ret;exact⟨rfl,rfl⟩
theorem in11(nb o:Nat)(w:World):Calls prog 106 #[.pointer (some ⟨nb,o,none⟩)] w fun e w'=>e=.returned (.pointer (some ⟨nb,o+11,none⟩))∧w'=w:=by go_enter func106,ntmps106;go_wp2;go_ret;exact⟨rfl,rfl⟩
theorem in12(nb o:Nat)(w:World):Calls prog 107 #[.pointer (some ⟨nb,o,none⟩)] w fun e w'=>e=.returned (.pointer (some ⟨nb,o+12,none⟩))∧w'=w:=by go_enter func107,ntmps107;go_wp2;go_ret;exact⟨rfl,rfl⟩
end
section
open Go.RowKit Go.Proofs.Tryz
def attCells:Array Value:=#[
 .string ⟨#[105,100]⟩,.int .u64 127,Iq 999999,Iq 0,.bool true,.func (.func 96) #[] #[],
 .string ⟨#[109,105,110]⟩,.int .u64 127,Iq 100000,Iq 0,.bool false,.func (.func 97) #[] #[],
 .string ⟨#[109,97,120]⟩,.int .u64 127,Iq 100000,Iq (-1),.bool false,.func (.func 98) #[] #[],
 .string ⟨#[119,101,105,103,104,116]⟩,.int .u64 127,Iq 100000,Iq 1,.bool false,.func (.func 99) #[] #[],
 .string ⟨#[103,97,112]⟩,.int .u64 3,Iq 100,Iq 0,.bool false,.func (.func 100) #[] #[],
 .string ⟨#[112,97,100]⟩,.int .u64 8,Iq 20,Iq 0,.bool false,.func (.func 101) #[] #[],
 .string ⟨#[98,111,114,100,101,114]⟩,.int .u64 8,Iq 1,Iq 1,.bool false,.func (.func 102) #[] #[],
 .string ⟨#[97,108,105,103,110]⟩,.int .u64 32,Iq 2,Iq 0,.bool false,.func (.func 103) #[] #[],
 .string ⟨#[119,114,97,112]⟩,.int .u64 32,Iq 1,Iq 1,.bool false,.func (.func 104) #[] #[],
 .string ⟨#[102,103]⟩,.int .u64 127,Iq 8,Iq 0,.bool false,.func (.func 105) #[] #[],
 .string ⟨#[98,103]⟩,.int .u64 127,Iq 8,Iq 0,.bool false,.func (.func 106) #[] #[],
 .string ⟨#[98,111,108,100]⟩,.int .u64 127,Iq 1,Iq 0,.bool false,.func (.func 107) #[] #[]]
theorem attributes_any(w:World):Calls prog 57 #[] w fun e w'=>e=.returned (Sq w.heap.size 12 12)∧w'=w.alloc (.cells attCells 175):=by go_enter func57,ntmps57;go_wp2;go_ret;exact⟨rfl,rfl⟩
end
section
open Go.RowKit Go.Proofs.Tryz
def errV(eb:Addr):Value:=.iface 311 (.pointer (some eb))
def faultV(place:Int)(ev:Value):Value:=.iface 117 (.agg #[Iq place,ev])
theorem noTree_any(place:Int)(w:World)(eb:Addr)(he:w.cell? ⟨8,0,none⟩=some (errV eb)):
 Calls prog 60 #[Iq place] w fun e w'=>e=.returned (faultV place (errV eb))∧w'=w:=by have he':w.cell? ⟨8,0,none⟩=some (.iface 311 (.pointer (some eb))):=he;clear he;go_enter func60,ntmps60;go_wp2;go_ret;exact⟨rfl,rfl⟩
theorem expect_yes(rb:Nat)(s:ByteArray)(i:Nat)(av nv fv:Value)(c:Nat)(w:World)(h:PR w rb s i av nv fv)(hs:s.size≤1099511627776)(hi:i≤s.size)(hc:c<256)(hat:isAt s i c=true):
 Calls prog 116 #[Pq rb,.int .u8 (c:Int)] w fun e w'=>e=.returned (.tuple #[])∧PR w' rb s (gotI s i c) av nv fv∧w.grownBy w' (some rb):=by
 have CT:Hid (Calls prog 113 #[Pq rb,.int .u8 (c:Int)] w fun e w'=>e=.returned (.bool true)∧PR w' rb s (gotI s i c) av nv fv∧w.grownBy w' (some rb)):=by have:=takes_any rb s i av nv fv c w h hs hi hc;rw[hat]at this;exact this
 clear h hat;go_enter func116,ntmps116;go_wp2_with fail;refine CT.mono ?_;rintro e w1 ⟨rfl,h1,g1⟩;have HR:=qH<|h1;have HG:=qH<|g1;clear h1 g1 CT;go_wp2;go_end0;exact⟨rfl,HR,HG⟩
theorem expect_no(rb:Nat)(s:ByteArray)(i:Nat)(av nv fv:Value)(eb:Addr)(c:Nat)(w:World)(h:PR w rb s i av nv fv)(hs:s.size≤1099511627776)(hi:i≤s.size)(hc:c<256)(hat:isAt s i c=false)(hg:8≠rb)(he:w.cell? ⟨8,0,none⟩=some (errV eb)):
 Calls prog 116 #[Pq rb,.int .u8 (c:Int)] w fun e w'=>e=.panicked [{v:=faultV (sk s i:Int) (errV eb),recovered:=false}]∧w.grownBy w' (some rb):=by
 have CT:Hid (Calls prog 113 #[Pq rb,.int .u8 (c:Int)] w fun e w'=>e=.returned (.bool false)∧PR w' rb s (sk s i) av nv fv∧w.grownBy w' (some rb)):=by
  have:=takes_any rb s i av nv fv c w h hs hi hc;have e2:gotI s i c=sk s i:=by unfold gotI;unfold isAt at hat;rw[if_neg (by simpa using hat)]
  rw[hat,e2]at this;exact this
 have HN:Hid (∀w,w.cell? ⟨8,0,none⟩=some (errV eb)->Calls prog 60 #[Iq (sk s i:Int)] w fun e w'=>e=.returned (.iface 117 (.agg #[Iq (sk s i:Int),.iface 311 (.pointer (some eb))]))∧w'=w):=fun w he=>noTree_any _ w eb he;have HE:=qH<|he;obtain⟨j,hj⟩:=nmd (sk s i);rw[hj]at CT HN⊢;clear h hat he hj;go_enter func116,ntmps116;go_wp2_with fail;refine CT.mono ?_;rintro e w1 ⟨rfl,h1,g1⟩;have HG:=qH<|g1;have c1:=h1.c1;have HE1:=qH<|g1.cell HE (by simpa using hg);clear h1 g1 CT;go_wp2_with fail;refine(HN _ HE1).mono ?_;rintro e w2 ⟨rfl,hw⟩;obtain rfl:=hw.symm;go_wp2;exact⟨rfl,rfl,HG⟩
end
section
open Go.RowKit Go.Proofs.Tryz
def ofK(m k:Nat):Bool:=(m/2^k) %2==1
theorem isOf_any(n:ByteArray)(m k:Nat)(mo wi:Int)(sg:Bool)(fv:Value)(w:World)(hm:m=127∨m=3∨m=8∨m=32)(hk:k<7):
 Calls prog 182 #[.agg #[.string n,.int .u64 (m:Int),Iq mo,Iq wi,.bool sg,fv],Iq (k:Int)] w fun e w'=>e=.returned (.bool (ofK m k))∧Below w.heap.size w w':=by
 have hc:k=0∨k=1∨k=2∨k=3∨k=4∨k=5∨k=6:=by omega
 have hb:=fun o=>(Below.refl _ w).alloc (Nat.le_refl _) o;have HB:=qH<|hb;clear hk hb;rcases hm with rfl|rfl|rfl|rfl<;>rcases hc with rfl|rfl|rfl|rfl|rfl|rfl|rfl;all_goals go_enter func182,ntmps182;go_wp2;go_ret;exact⟨by rfl,HB _⟩
end
section
open Go.RowKit Go.Proofs.Tryz
theorem PR.setF{W:World}{rb:Nat}{s:ByteArray}{i:Nat}{av nv fv:Value}(h:PR W rb s i av nv fv)(fv':Value):PR (W.setCell ⟨rb,4,none⟩ fv') rb s i av nv fv':=
 ⟨by simpa using h.lt,rs_other (by omega) h.c0,rs_other (by omega) h.c1,rs_other (by omega) h.c2,rs_other (by omega) h.c3,rs_same h.c4,fun j=>by rw[World.frozen?_setCell];exact h.fz j⟩
theorem keep_nil(rb:Nat)(s:ByteArray)(i:Nat)(av nv fv:Value)(place:Int)(w:World)(h:PR w rb s i av nv fv):
 Calls prog 110 #[Pq rb,.nilIface,Iq place] w fun e w'=>e=.returned (.tuple #[])∧PR w' rb s i av nv fv∧w.grownBy w' (some rb):=by have HR:=qH<|h;go_enter func110,ntmps110;go_wp2;go_end0;exact⟨rfl,HR,gr_refl _ _⟩
theorem keep_first(rb:Nat)(s:ByteArray)(i:Nat)(av nv:Value)(eb:Addr)(place:Int)(w:World)(h:PR w rb s i av nv .nilIface):
 Calls prog 110 #[Pq rb,errV eb,Iq place] w fun e w'=>e=.returned (.tuple #[])∧PR w' rb s i av nv (faultV place (errV eb))∧w.grownBy w' (some rb):=by have c4:=h.c4;have f4:=h.fz 4;have HN:Hid (PR (w.setCell ⟨rb,4,none⟩ (faultV place (errV eb))) rb s i av nv (faultV place (errV eb))):=h.setF _;show Calls prog 110 #[Pq rb,.iface 311 (.pointer (some eb)),Iq place] w _;go_enter func110,ntmps110;go_wp2;go_end0;exact⟨rfl,HN,gr_set _ _ _ _⟩
theorem keep_later(rb:Nat)(s:ByteArray)(i:Nat)(av nv:Value)(eb eb2:Addr)(place place2:Int)(w:World)(h:PR w rb s i av nv (faultV place2 (errV eb2))):
 Calls prog 110 #[Pq rb,errV eb,Iq place] w fun e w'=>e=.returned (.tuple #[])∧PR w' rb s i av nv (faultV place2 (errV eb2))∧w.grownBy w' (some rb):=by have HR:=qH<|h;have c4:w.cell? ⟨rb,4,none⟩=some (.iface 117 (.agg #[Iq place2,.iface 311 (.pointer (some eb2))])):=h.c4;show Calls prog 110 #[Pq rb,.iface 311 (.pointer (some eb)),Iq place] w _;go_enter func110,ntmps110;go_wp2;go_end0;exact⟨rfl,HR,gr_refl _ _⟩
def roomV(n depth:Nat)(m d:Addr):Value:=if 100≤n then errV m else if 12≤depth then errV d else .nilIface
theorem roomFor_any(rb:Nat)(s:ByteArray)(i:Nat)(av fv:Value)(p:Option Addr)(n cp depth:Nat)(m d:Addr)(w:World)(h:PR w rb s i av (.slice p n cp) fv)
 (hm:w.cell? ⟨1,0,none⟩=some (errV m)) (hd:w.cell? ⟨2,0,none⟩=some (errV d)):
 Calls prog 111 #[Pq rb,Iq (depth:Int)] w fun e w'=>e=.returned (roomV n depth m d)∧w'=w:=by
 have c3:=h.c3;have em:w.cell? ⟨1,0,none⟩=some (.iface 311 (.pointer (some m))):=hm;by_cases h1:100≤n
 ·have h1':(100:Int)≤(n:Int):=by omega
  have HV:Hid (roomV n depth m d=.iface 311 (.pointer (some m))):=by show _=_;unfold roomV;rw[if_pos h1];rfl
  go_enter func111,ntmps111;go_wp2;go_ret;exact⟨by rw[HV.out];rfl,rfl⟩
 ·have h1':¬(100:Int)≤(n:Int):=by omega
  by_cases h2:12≤depth
  ·have h2':(12:Int)≤(depth:Int):=by omega
   have HV:Hid (roomV n depth m d=.iface 311 (.pointer (some d))):=by show _=_;unfold roomV;rw[if_neg h1,if_pos h2];rfl
   go_enter func111,ntmps111;go_wp2;go_ret;exact⟨by rw[HV.out];rfl,rfl⟩
  ·have h2':¬(12:Int)≤(depth:Int):=by omega
   have HV:Hid (roomV n depth m d=.nilIface):=by show _=_;unfold roomV;rw[if_neg h1,if_neg h2]
   go_enter func111,ntmps111;go_wp2;go_ret;exact⟨by rw[HV.out];rfl,rfl⟩
end
section
open Go.RowKit Go.Proofs.Tryz
def kindV(i:Int):Value:=if i<0 then .tuple #[Iq 0,.bool false]else .tuple #[Iq i,.bool true]
theorem kindOf_at(t:ByteArray)(w:World)(n0 n1 n2 n3 n4 n5 n6:ByteArray)
 (h0:w.cell? ⟨9,0,none⟩=some (.string n0))
 (h1:w.cell? ⟨9,1,none⟩=some (.string n1))
 (h2:w.cell? ⟨9,2,none⟩=some (.string n2))
 (h3:w.cell? ⟨9,3,none⟩=some (.string n3))
 (h4:w.cell? ⟨9,4,none⟩=some (.string n4))
 (h5:w.cell? ⟨9,5,none⟩=some (.string n5))
 (h6:w.cell? ⟨9,6,none⟩=some (.string n6)):
 Calls prog 109 #[.string t] w fun e w'=>e=.returned (kindV (findF [n0,n1,n2,n3,n4,n5,n6] t 0))∧w'=w:=by
 have i0:∀w,(Instr.index 231 (.agg #[.string n0,.string n1,.string n2,.string n3,.string n4,.string n5,.string n6]) (Iq 0)).run prog w=.ok (.string n0) w:=fun _=>by kernel_rfl
 have i1:∀w,(Instr.index 231 (.agg #[.string n0,.string n1,.string n2,.string n3,.string n4,.string n5,.string n6]) (Iq 1)).run prog w=.ok (.string n1) w:=fun _=>by kernel_rfl
 have i2:∀w,(Instr.index 231 (.agg #[.string n0,.string n1,.string n2,.string n3,.string n4,.string n5,.string n6]) (Iq 2)).run prog w=.ok (.string n2) w:=fun _=>by kernel_rfl
 have i3:∀w,(Instr.index 231 (.agg #[.string n0,.string n1,.string n2,.string n3,.string n4,.string n5,.string n6]) (Iq 3)).run prog w=.ok (.string n3) w:=fun _=>by kernel_rfl
 have i4:∀w,(Instr.index 231 (.agg #[.string n0,.string n1,.string n2,.string n3,.string n4,.string n5,.string n6]) (Iq 4)).run prog w=.ok (.string n4) w:=fun _=>by kernel_rfl
 have i5:∀w,(Instr.index 231 (.agg #[.string n0,.string n1,.string n2,.string n3,.string n4,.string n5,.string n6]) (Iq 5)).run prog w=.ok (.string n5) w:=fun _=>by kernel_rfl
 have i6:∀w,(Instr.index 231 (.agg #[.string n0,.string n1,.string n2,.string n3,.string n4,.string n5,.string n6]) (Iq 6)).run prog w=.ok (.string n6) w:=fun _=>by kernel_rfl
 go_enter func109,ntmps109;go_wp2;clear h0 h1 h2 h3 h4 h5 h6;go_loop[7] (fun i=>∃k:Nat,k≤7∧i=Iq k∧Hid (findF [n0,n1,n2,n3,n4,n5,n6] t 0=findF ([n0,n1,n2,n3,n4,n5,n6].drop k) t k)) (fun i=>7-(intOf i).toNat);case atStart=>exact⟨0,Nat.zero_le _,rfl,by show _=_;rw[List.drop_zero]⟩
 case round=>
  obtain⟨k,hk,rfl,HF⟩:=hrel;have hc:k=0∨k=1∨k=2∨k=3∨k=4∨k=5∨k=6∨k=7:=by omega
  rcases hc with rfl|rfl|rfl|rfl|rfl|rfl|rfl|rfl
  ·by_cases e:n0=t
   ·have HE:Hid (kindV (findF [n0,n1,n2,n3,n4,n5,n6] t 0)=.tuple #[Iq 0,.bool true]):=by show _=_;rw[HF.out];simp[findF,e,kindV]
    subst e;clear HF;go_wp2;go_ret2;exact⟨by rw[HE.out];rfl,rfl⟩
   ·have HE:Hid (findF [n0,n1,n2,n3,n4,n5,n6] t 0=findF ([n0,n1,n2,n3,n4,n5,n6].drop 1) t 1):=by show _=_;rw[HF.out];simp[findF,e]
    have e1:=str_ne e;clear HF;go_wp2;go_round;case rel=>exact⟨1,by omega,by go_num,HE⟩
    case measure=>simp[intOf]
  ·by_cases e:n1=t
   ·have HE:Hid (kindV (findF [n0,n1,n2,n3,n4,n5,n6] t 0)=.tuple #[Iq 1,.bool true]):=by show _=_;rw[HF.out];simp[findF,e,kindV]
    subst e;clear HF;go_wp2;go_ret2;exact⟨by rw[HE.out];rfl,rfl⟩
   ·have HE:Hid (findF [n0,n1,n2,n3,n4,n5,n6] t 0=findF ([n0,n1,n2,n3,n4,n5,n6].drop 2) t 2):=by show _=_;rw[HF.out];simp[findF,e]
    have e1:=str_ne e;clear HF;go_wp2;go_round;case rel=>exact⟨2,by omega,by go_num,HE⟩
    case measure=>simp[intOf]
  ·by_cases e:n2=t
   ·have HE:Hid (kindV (findF [n0,n1,n2,n3,n4,n5,n6] t 0)=.tuple #[Iq 2,.bool true]):=by show _=_;rw[HF.out];simp[findF,e,kindV]
    subst e;clear HF;go_wp2;go_ret2;exact⟨by rw[HE.out];rfl,rfl⟩
   ·have HE:Hid (findF [n0,n1,n2,n3,n4,n5,n6] t 0=findF ([n0,n1,n2,n3,n4,n5,n6].drop 3) t 3):=by show _=_;rw[HF.out];simp[findF,e]
    have e1:=str_ne e;clear HF;go_wp2;go_round;case rel=>exact⟨3,by omega,by go_num,HE⟩
    case measure=>simp[intOf]
  ·by_cases e:n3=t
   ·have HE:Hid (kindV (findF [n0,n1,n2,n3,n4,n5,n6] t 0)=.tuple #[Iq 3,.bool true]):=by show _=_;rw[HF.out];simp[findF,e,kindV]
    subst e;clear HF;go_wp2;go_ret2;exact⟨by rw[HE.out];rfl,rfl⟩
   ·have HE:Hid (findF [n0,n1,n2,n3,n4,n5,n6] t 0=findF ([n0,n1,n2,n3,n4,n5,n6].drop 4) t 4):=by show _=_;rw[HF.out];simp[findF,e]
    have e1:=str_ne e;clear HF;go_wp2;go_round;case rel=>exact⟨4,by omega,by go_num,HE⟩
    case measure=>simp[intOf]
  ·by_cases e:n4=t
   ·have HE:Hid (kindV (findF [n0,n1,n2,n3,n4,n5,n6] t 0)=.tuple #[Iq 4,.bool true]):=by show _=_;rw[HF.out];simp[findF,e,kindV]
    subst e;clear HF;go_wp2;go_ret2;exact⟨by rw[HE.out];rfl,rfl⟩
   ·have HE:Hid (findF [n0,n1,n2,n3,n4,n5,n6] t 0=findF ([n0,n1,n2,n3,n4,n5,n6].drop 5) t 5):=by show _=_;rw[HF.out];simp[findF,e]
    have e1:=str_ne e;clear HF;go_wp2;go_round;case rel=>exact⟨5,by omega,by go_num,HE⟩
    case measure=>simp[intOf]
  ·by_cases e:n5=t
   ·have HE:Hid (kindV (findF [n0,n1,n2,n3,n4,n5,n6] t 0)=.tuple #[Iq 5,.bool true]):=by show _=_;rw[HF.out];simp[findF,e,kindV]
    subst e;clear HF;go_wp2;go_ret2;exact⟨by rw[HE.out];rfl,rfl⟩
   ·have HE:Hid (findF [n0,n1,n2,n3,n4,n5,n6] t 0=findF ([n0,n1,n2,n3,n4,n5,n6].drop 6) t 6):=by show _=_;rw[HF.out];simp[findF,e]
    have e1:=str_ne e;clear HF;go_wp2;go_round;case rel=>exact⟨6,by omega,by go_num,HE⟩
    case measure=>simp[intOf]
  ·by_cases e:n6=t
   ·have HE:Hid (kindV (findF [n0,n1,n2,n3,n4,n5,n6] t 0)=.tuple #[Iq 6,.bool true]):=by show _=_;rw[HF.out];simp[findF,e,kindV]
    subst e;clear HF;go_wp2;go_ret2;exact⟨by rw[HE.out];rfl,rfl⟩
   ·have HE:Hid (findF [n0,n1,n2,n3,n4,n5,n6] t 0=findF ([n0,n1,n2,n3,n4,n5,n6].drop 7) t 7):=by show _=_;rw[HF.out];simp[findF,e]
    have e1:=str_ne e;clear HF;go_wp2;go_round;case rel=>exact⟨7,by omega,by go_num,HE⟩
    case measure=>simp[intOf]
  ·have HE:Hid (kindV (findF [n0,n1,n2,n3,n4,n5,n6] t 0)=.tuple #[Iq 0,.bool false]):=by show _=_;rw[HF.out];simp[findF,kindV]
   clear HF;go_wp2;go_ret2;exact⟨by rw[HE.out];rfl,rfl⟩
end
section
open Go.RowKit
def FL(er at_:Int)(f:Flt)(i:Nat):Prop:=match f with
 |none=>at_<0
 |some (c,p)=>er=c∧at_=p∧p≤i
theorem FL.on{er at_:Int}{f:Flt}{i j:Nat}(h:FL er at_ f i)(hij:i≤j):FL er at_ f j:=by
 cases f with
 |none=>exact h
 |some x=>obtain⟨c,p⟩:=x;exact⟨h.1,h.2.1,Nat.le_trans h.2.2 hij⟩
theorem FL.add{er at_:Int}{f:Flt}{i:Nat}(h:FL er at_ f i)(c p:Nat)(hp:i≤p):FL (wrE er at_ c p) (wrA at_ p) (addF f c p) p:=by
 cases f with
 |none=>have h':at_<0:=h;unfold wrE wrA;rw[if_pos (.inl h'),if_pos (.inl h')];exact⟨rfl,rfl,Nat.le_refl _⟩
 |some x=>
  obtain⟨c',p'⟩:=x;obtain⟨h1,h2,h3⟩:=h;have hn:¬(at_<0∨(p:Int)<at_):=by omega
  unfold wrE wrA;rw[if_neg hn,if_neg hn];exact⟨h1,h2,Nat.le_trans h3 hp⟩
def fa(kind:Nat)(L:List Nd)(er:Flt)(a:List Int)(seen:List Nat)(st:Step):Flt×List Int×List Nat:=
 if st.ix<0∨ownsB kind st.ix.toNat=false then(addF er 7 st.at_,a,seen)
 else(addIf (decide (st.ix=0∧0<st.n)&&hasId L st.n) (addIf (decide (mostL[st.ix.toNat]?.getD 0<st.n)) (addIf (seen.contains st.ix.toNat) er 5 st.at_) 6 st.p) 5 st.p,a.set st.ix.toNat st.n,st.ix.toNat::seen)
theorem step1_places(s:ByteArray)(i:Nat)(bad:Int):i≤(step1 s i bad).at_∧(step1 s i bad).at_≤(step1 s i bad).p∧(step1 s i bad).p≤(step1 s i bad).i:=by
 have h1:=sk_ge s i;have w1:sk s i≤wI s (sk s i) bad:=by unfold wI;split;exact Nat.le_trans (sk_ge s (sk s i)) (run_ge _ _ _);exact sk_ge _ _
 have m1:wI s (sk s i) bad≤mI s (wI s (sk s i) bad) 61 (wB s (sk s i) bad):=by
  unfold mI;split;·unfold gotI;have:=sk_ge s (wI s (sk s i) bad);split<;>omega
  ·exact sk_ge _ _
 have n1:sk s (mI s (wI s (sk s i) bad) 61 (wB s (sk s i) bad))≤nI s (mI s (wI s (sk s i) bad) 61 (wB s (sk s i) bad)) (mB s (wI s (sk s i) bad) 61 (wB s (sk s i) bad)):=by unfold nI;split;exact run_ge _ _ _;exact Nat.le_refl _
 have s2:=sk_ge s (mI s (wI s (sk s i) bad) 61 (wB s (sk s i) bad));unfold step1;simp only;omega
theorem step1_size(s:ByteArray)(i:Nat)(bad:Int)(hi:i≤s.size):(step1 s i bad).i≤s.size:=by unfold step1;exact nI_le _ (mI_le _ (by omega) (wI_le _ (sk_le s i hi)))
theorem step1_ix(s:ByteArray)(i:Nat)(bad:Int):(step1 s i bad).ix=-1∨(0≤(step1 s i bad).ix∧(step1 s i bad).ix<12):=by have:=findF_bd (wS s (sk s i) bad) namesL 0;have hl:namesL.length=12:=rfl;unfold step1;simp only;omega
theorem step1_n(s:ByteArray)(i:Nat)(bad:Int):0≤(step1 s i bad).n∧(step1 s i bad).n≤999999:=nV_bd s _ _
theorem attr1_step(s:ByteArray)(kind:Nat)(L:List Nd)(i:Nat)(er:Flt)(a:List Int)(seen:List Nat)(bad:Int)(hb:bad<0):
 ((step1 s i bad).bad=bad∧attr1 s kind L i er a seen=.ok ((step1 s i bad).i,fa kind L er a seen (step1 s i bad)))
 ∨(0≤(step1 s i bad).bad∧attr1 s kind L i er a seen=.error (step1 s i bad).bad.toNat):=by
 unfold attr1;simp only;have e0:=sk_sk s i;have hw:wI s (sk s i) bad=run letter s (sk s i):=by unfold wI;rw[if_pos hb,e0]
 by_cases h1:run letter s (sk s i)=sk s i
 ·right;have hB:wB s (sk s i) bad=(sk s i:Int):=by unfold wB;rw[if_pos hb];unfold wordB;rw[e0,if_pos h1]
  have hx:(step1 s i bad).bad=(sk s i:Int):=by
   unfold step1;simp only;rw[hB];have hm:mB s (wI s (sk s i) bad) 61 (sk s i:Int)=(sk s i:Int):=by unfold mB;rw[if_neg (by omega)]
   rw[hm];unfold nB;rw[if_neg (by omega)]
  rw[hx,if_pos h1];exact⟨by omega,rfl⟩
 ·have hB:wB s (sk s i) bad=bad:=by unfold wB;rw[if_pos hb];unfold wordB;rw[e0,if_neg h1]
  rw[if_neg h1];by_cases h2:isAt s (run letter s (sk s i)) 61=true
  ·have hm:mB s (run letter s (sk s i)) 61 bad=bad:=by unfold mB;rw[if_pos hb];unfold mustB;rw[if_pos h2]
   have hmi:mI s (run letter s (sk s i)) 61 bad=gotI s (run letter s (sk s i)) 61:=by unfold mI;rw[if_pos hb]
   have hmr:mustR s (run letter s (sk s i)) 61=.ok (gotI s (run letter s (sk s i)) 61):=by unfold mustR;rw[if_pos h2]
   rw[hmr];simp only;have hs:step1 s i bad={i:=run digit s (sk s (gotI s (run letter s (sk s i)) 61)),bad:=numB s (sk s (gotI s (run letter s (sk s i)) 61)) (run digit s (sk s (gotI s (run letter s (sk s i)) 61))) bad,n:=dv s (sk s (gotI s (run letter s (sk s i)) 61)) (run digit s (sk s (gotI s (run letter s (sk s i)) 61))-sk s (gotI s (run letter s (sk s i)) 61)),p:=sk s (gotI s (run letter s (sk s i)) 61),at_:=sk s i,ix:=findF namesL (s.extract (sk s i) (run letter s (sk s i))) 0}:=by
    unfold step1;simp only;rw[hw,hB,hm,hmi];have a1:nI s (gotI s (run letter s (sk s i)) 61) bad=run digit s (sk s (gotI s (run letter s (sk s i)) 61)):=by unfold nI;rw[if_pos hb]
    have a2:nB s (gotI s (run letter s (sk s i)) 61) bad=numB s (sk s (gotI s (run letter s (sk s i)) 61)) (run digit s (sk s (gotI s (run letter s (sk s i)) 61))) bad:=by unfold nB;rw[if_pos hb]
    have a3:nV s (gotI s (run letter s (sk s i)) 61) bad=dv s (sk s (gotI s (run letter s (sk s i)) 61)) (run digit s (sk s (gotI s (run letter s (sk s i)) 61))-sk s (gotI s (run letter s (sk s i)) 61)):=by unfold nV;rw[if_pos hb]
    have a4:wS s (sk s i) bad=s.extract (sk s i) (run letter s (sk s i)):=by unfold wS;rw[if_pos hb,e0]
    rw[a1,a2,a3,a4]
   generalize sk s (gotI s (run letter s (sk s i)) 61)=j at hs⊢;generalize run digit s j=e at hs⊢;by_cases h3:numBad s j e=true
   ·right;have hx:(step1 s i bad).bad=(j:Int):=by rw[hs];show numB s j e bad=_;unfold numB;rw[if_pos (of_decide_eq_true h3)]
    rw[hx,if_pos h3];exact⟨by omega,rfl⟩
   ·left;have h3':numBad s j e=false:=by simpa using h3
    have hx:(step1 s i bad).bad=bad:=by rw[hs];show numB s j e bad=_;unfold numB;rw[if_neg (of_decide_eq_false h3')]
    refine⟨hx,?_⟩;rw[if_neg h3,hs];unfold fa;simp only;split<;>rfl
  ·right;have h2':isAt s (run letter s (sk s i)) 61=false:=by simpa using h2
   have hm:mB s (run letter s (sk s i)) 61 bad=(sk s (run letter s (sk s i)):Int):=by unfold mB;rw[if_pos hb];unfold mustB;rw[if_neg h2]
   have hmr:mustR s (run letter s (sk s i)) 61=.error (sk s (run letter s (sk s i))):=by unfold mustR;rw[if_neg h2]
   have hx:(step1 s i bad).bad=(sk s (run letter s (sk s i)):Int):=by unfold step1;simp only;rw[hw,hB,hm];unfold nB;rw[if_neg (by omega)]
   rw[hx,hmr];exact⟨by omega,rfl⟩
theorem attrsF_err{s:ByteArray}{kind:Nat}{L:List Nd}{f i:Nat}{er:Flt}{a:List Int}{seen:List Nat}{b:Nat}(h:attr1 s kind L i er a seen=.error b):attrsF s kind L (f+1) i er a seen=.error b:=by rw[attrsF,h]
theorem attrsF_more{s:ByteArray}{kind:Nat}{L:List Nd}{f i i2:Nat}{er er2:Flt}{a a2:List Int}{seen seen2:List Nat}(h:attr1 s kind L i er a seen=.ok (i2,er2,a2,seen2))(hm:isAt s i2 59=true):attrsF s kind L (f+1) i er a seen=attrsF s kind L f (gotI s i2 59) er2 a2 seen2:=by rw[attrsF,h];simp only;rw[if_pos hm]
def closeR(s:ByteArray)(i:Nat)(er:Flt)(a:List Int):Except Nat (Nat×Flt×List Int):=match mustR s i 125 with
 |.error b=>.error b
 |.ok i3=>.ok (i3,er,a)
theorem attrsF_last{s:ByteArray}{kind:Nat}{L:List Nd}{f i i2:Nat}{er er2:Flt}{a a2:List Int}{seen seen2:List Nat}(h:attr1 s kind L i er a seen=.ok (i2,er2,a2,seen2))(hm:¬isAt s i2 59=true):attrsF s kind L (f+1) i er a seen=closeR s i2 er2 a2:=by rw[attrsF,h];simp only;rw[if_neg hm];rfl
theorem isAt_sk(s:ByteArray)(i c:Nat):isAt s (sk s i) c=isAt s i c:=by unfold isAt;rw[sk_sk]
theorem gotI_sk(s:ByteArray)(i c:Nat):gotI s (sk s i) c=gotI s i c:=by unfold gotI;rw[sk_sk]
theorem closeR_sk(s:ByteArray)(i:Nat)(er:Flt)(a:List Int):closeR s (sk s i) er a=closeR s i er a:=by unfold closeR mustR;rw[isAt_sk,gotI_sk,sk_sk]
end
end Go.Proofs.YtmbefonnkkhfgaaGreatDoor
