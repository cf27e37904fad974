import Derived.Test.YtmbefonnkkhfgaaGreatDoorQ43
import Derived.Test.YtmbefonnkkhfgaaGreatDoorQ28
import Derived.Test.YtmbefonnkkhfgaaGreatDoorQ42
import Derived.Deep.OwnRows
set_option linter.unusedVariables false
set_option maxRecDepth 100000
set_option maxHeartbeats 16000000
namespace Go.Proofs.YtmbefonnkkhfgaaGreatDoor
section
open Go.RowKit Go.Sort
theorem cS_take(F:Nat->Nat)(ks:List Nat):∀m,m≤ks.length->cS (fun j=>F (kdn ks j)) m=((ks.take m).map F).sum
 |0,_=>by simp[cS]
 |m+1,h=>by
  have h1:=cS_take F ks m (by omega);have hl:m<ks.length:=by omega
  rw[List.take_succ_eq_append_getElem hl,List.map_append,List.sum_append,<-h1];show cS _ m+F (kdn ks m)=_;unfold kdn;rw[List.getElem?_eq_getElem hl];simp
theorem vis_cnt(kids:Nat->List Nat)(f i:Nat):(vis kids (f+1) i).length=cS (fun j=>(vis kids f (kdn (kids i) j)).length) (kids i).length+1:=by rw[cS_take (fun c=>(vis kids f c).length) (kids i) _ (Nat.le_refl _),List.take_length];show(i::(kids i).flatMap (vis kids f)).length=_;rw[List.length_cons,List.length_flatMap]
theorem Tree.nest{s:ByteArray}{L:List Nd}(h:Tree s L):Nest L.length (fun i=>(nth L i).kids) (fun i=>(nth L i).up):=by
 refine⟨fun i c hi hc=>?_,fun i hi=>rise_nodup (fun k c d h1 h2=>h.gr.rise i k c d hi h1 h2),fun i hi=>h.gr.upl i hi,fun i hi=>?_⟩;·obtain⟨k,hk⟩:=List.mem_iff_getElem?.1 hc;exact h.gr.kid i k c hi hk
 ·by_cases e:i=0;·subst e;show-1≤(nth L 0).up;rw[h.up0];decide
  ·have:=h.gr.up0 i hi;show-1≤(nth L i).up;have hn:¬(nth L i).up<0:=fun q=>e (this.1 q);omega
theorem Ch.cover{L:Nat->Nd}{d:Nat}{ks:List Nat}{a e:Nat}(h:Ch L d ks a e):∀j,a≤j->j<e->j∈ks∨∃i,a≤i∧i<j∧j∈(L i).kids:=by
 induction h with
 |nil d a=>intro j h1 h2;omega
 |@cons d c r e1 e h1 h2 h3 h4 i1 i2=>
  intro j k1 k2;by_cases e0:j=c;·left;subst e0;simp
  ·by_cases l:j<e1
   ·right;rcases i1 j (by omega) l with q|⟨i,q1,q2,q3⟩;·exact⟨c,Nat.le_refl _,by omega,q⟩
    ·exact⟨i,by omega,q2,q3⟩
   ·have:=h3.le;rcases i2 j (by omega) k2 with q|⟨i,q1,q2,q3⟩;·left;simp[q]
    ·right;exact⟨i,by omega,q2,q3⟩
theorem Tree.kid_of{s:ByteArray}{L:List Nd}(h:Tree s L)(j:Nat)(h0:0<j)(hj:j<L.length):∃i k,i<j∧k<(nth L i).kids.length∧kdn (nth L i).kids k=j∧(nth L j).up=(i:Int):=by
 rcases h.ch.cover j (Nat.zero_le _) hj with q|⟨i,_,q2,q3⟩;·simp at q;omega
 ·obtain⟨k,hk,e⟩:=List.mem_iff_getElem.1 q3;refine⟨i,k,q2,hk,?_,(h.nest.kid i j (by omega) q3).2.2⟩;unfold kdn;rw[List.getElem?_eq_getElem hk];exact e
theorem Nv.bd{d:Nd}(h:Nv d):(∀k,k<12->-1≤atN d k∧atN d k≤1000000)∧(0≤atN d 4∧atN d 4≤100)∧(0≤atN d 5∧atN d 5≤20)∧(0≤atN d 6∧atN d 6≤1)∧0≤atN d 0∧0≤atN d 1∧0≤atN d 3:=by
 have key:∀k,k<12->atN d k=withoutL[k]?.getD 0∨(0≤atN d k∧atN d k≤mostL[k]?.getD 0):=fun k hk=>(h.att k hk).imp id fun q=>q.2;have k0:=key 0 (by decide);have k1:=key 1 (by decide);have k2:=key 2 (by decide);have k3:=key 3 (by decide);have k4:=key 4 (by decide);have k5:=key 5 (by decide);have k6:=key 6 (by decide);have k7:=key 7 (by decide);have k8:=key 8 (by decide);have k9:=key 9 (by decide);have k10:=key 10 (by decide);have k11:=key 11 (by decide);simp only[withoutL,mostL,List.getElem?_cons_zero,List.getElem?_cons_succ,Option.getD_some]at k0 k1 k2 k3 k4 k5 k6 k7 k8 k9 k10 k11;refine⟨fun k hk=>?_,by omega,by omega,by omega,by omega,by omega,by omega⟩;match k,hk with
 |0,_=>omega
 |1,_=>omega
 |2,_=>omega
 |3,_=>omega
 |4,_=>omega
 |5,_=>omega
 |6,_=>omega
 |7,_=>omega
 |8,_=>omega
 |9,_=>omega
 |10,_=>omega
 |11,_=>omega
theorem pn_list{d:Nd}(h:d.attr.length=12)(kv:Value):pnCells d kv=[Iq d.kind,Iq (atN d 0),Iq (atN d 1),Iq (atN d 2),Iq (atN d 3),Iq (atN d 4),Iq (atN d 5),Iq (atN d 6),Iq (atN d 7),Iq (atN d 8),Iq (atN d 9),Iq (atN d 10),Iq (atN d 11),.string ⟨d.text.toArray⟩,kv,Iq d.up]:=by
 unfold pnCells atN;match d.attr,h with
 |[a0,a1,a2,a3,a4,a5,a6,a7,a8,a9,b0,b1],_=>rfl
structure View(U:World)(mb r g cap wb:Nat)(L:List Nd)(KV:Nat->Value)(Wd:Nat->Int):Prop where
 ms:Ms U mb (Sq g L.length cap) (Sq wb L.length L.length) r
 gl:g<U.heap.size
 wl:wb<U.heap.size
 mr:mb≠r
 gr:g≠r
 wr:wb≠r
 len:∀j,j<L.length->(nth L j).attr.length=12
 nd:∀j,j<L.length->∀(t:Nat) x,(pnCells (nth L j) (KV j))[t]?=some x->U.cell? ⟨g,j*16+t,none⟩=some x
 kid:∀j,j<L.length->∃p c,KV j=.slice p (nth L j).kids.length c∧IntsN U r p (nth L j).kids.length (fun t=>(kdn (nth L j).kids t:Int))
 wd:∀j,j<L.length->U.cell? ⟨wb,j,none⟩=some (Iq (Wd j))
theorem View.ml{U:World}{mb r g cap wb:Nat}{L:List Nd}{KV:Nat->Value}{Wd:Nat->Int}(h:View U mb r g cap wb L KV Wd):mb<U.heap.size:=(Array.getElem?_eq_some_iff.1 h.ms).1
theorem View.grown{U U':World}{mb r g cap wb:Nat}{L:List Nd}{KV:Nat->Value}{Wd:Nat->Int}(h:View U mb r g cap wb L KV Wd)(hg:U.grownBy U' (some r)):View U' mb r g cap wb L KV Wd:=by have ml:=h.ml;have key:∀b,b<U.heap.size->b≠r->U'.heap[b]?=U.heap[b]?:=fun b h1 h2=>hg.block b h1 (fun q=>h2 (by simpa using q));refine⟨(key mb ml h.mr).trans h.ms,Nat.lt_of_lt_of_le h.gl hg.size,Nat.lt_of_lt_of_le h.wl hg.size,h.mr,h.gr,h.wr,h.len,fun j hj t x ht=>(World.cell?_of_block (key g h.gl h.gr)).trans (h.nd j hj t x ht),fun j hj=>?_,fun j hj=>(World.cell?_of_block (key wb h.wl h.wr)).trans (h.wd j hj)⟩;obtain⟨p,c,e,hk⟩:=h.kid j hj;exact⟨p,c,e,hk.grown hg⟩
end
section
open Go.RowKit Go.Sort
section
variable{U W W':World} {r:Nat}
theorem grown_alloc(h:U.grownBy W (some r))(o:Obj):U.grownBy (W.alloc o) (some r):=h.trans (grown_of_below ((Below.refl _ W).alloc (Nat.le_refl _) _))
theorem grownDrew(h:U.grownBy W (some r)):U.grownBy W.drew (some r):=h.trans (grown_of_below ((Below.refl _ W).drew))
theorem grown_sets(h:U.grownBy W (some r)){a:Addr}(ha:U.heap.size≤a.block)(v:Value):U.grownBy (W.setCell a v) (some r):=
 ⟨h.os,h.tape,h.output,Nat.le_trans h.size (by simp),fun b hb hn=>(Below.heap_setCell W a v b (by omega)).trans (h.block b hb hn)⟩
theorem Memo.alloc{H:Nat->Int->Int}{n:Nat}(h:Memo W r H n)(o:Obj):Memo (W.alloc o) r H n:=h.kept (row:=none) (World.grownBy_alloc W o none) (by simp)
theorem Memo.drew{H:Nat->Int->Int}{n:Nat}(h:Memo W r H n):Memo W.drew r H n:=h.kept (row:=none) (grown_of_below ((Below.refl _ W).drew)) (by simp)
theorem Memo.drewN{H:Nat->Int->Int}{n:Nat}(h:Memo W r H n)(q:Nat):Memo (W.drewN q) r H n:=h.kept (W':=W.drewN q) (row:=none) ⟨rfl,rfl,rfl,Nat.le_refl _,fun _ _ _=>rfl⟩ (by simp)
theorem Memo.set{H:Nat->Int->Int}{n:Nat}(h:Memo W r H n){a:Addr}(ha:a.block≠r)(v:Value):Memo (W.setCell a v) r H n:=
 h.kept (row:=some a.block) ⟨rfl,rfl,rfl,by simp,fun b hb hn=>Below.heap_setCell W a v b (fun e=>hn (by rw[e]))⟩ (fun e=>ha (by injection e with e;exact e.symm))
theorem Memo.grown_below{H:Nat->Int->Int}{n:Nat}(h:Memo W r H n)(hb:Below W.heap.size W W'):Memo W' r H n:=h.kept (row:=none) (grown_of_below hb) (by simp)
theorem IntsN.congr{m:Nat}{p:Option Addr}{v v':Nat->Int}(h:IntsN W r p m v)(e:∀j,j<m->v j=v' j):IntsN W r p m v':=by
 rcases h with h|⟨b,o,h1,h2,h3,h4⟩;·exact .inl h
 ·exact .inr ⟨b,o,h1,h2,h3,fun j hj=>by rw[<-e j hj];exact h4 j hj⟩
theorem rowIs_grown{b:Nat}{t:TypeId}{n:Nat}{f:Nat->Value}(h:W.rowIs b t n f)(hg:W.grownBy W' (some r))(hne:b≠r):W'.rowIs b t n f:=h.of_block (hg.block b h.lt (fun e=>hne (by injection e)))
theorem rowIs_below{b:Nat}{t:TypeId}{n:Nat}{f:Nat->Value}(h:W.rowIs b t n f)(hb:Below W.heap.size W W'):W'.rowIs b t n f:=h.of_block (hb.block b h.lt)
end
def wnF(a b c:Nat->Int)(k:Nat)(i:Nat):Value:=Iq (if i/3<k then(if i %3=0 then a (i/3)else if i %3=1 then b (i/3)else c (i/3))else 0)
theorem wn_zero(w:World)(m:Nat)(a b c:Nat->Int)(T:TypeId):(w.alloc (.cells (madeCells #[Iq 0,Iq 0,Iq 0] (m*3)) T)).rowIs w.heap.size T (m*3) (wnF a b c 0):=by
 have:=World.rowIs_alloc w (madeCells #[Iq 0,Iq 0,Iq 0] (m*3)) T (wnF a b c 0) (fun i hi=>by
  rw[size_madeCells]at hi;unfold wnF;rw[if_neg (by omega)];simp only[madeCells];have:i %3=0∨i %3=1∨i %3=2:=by omega
  rcases this with e|e|e<;>simp[e,hi]);rw[size_madeCells]at this;exact this
theorem wn_next{W:World}{b:Nat}{T:TypeId}{m k:Nat}{a b1 c:Nat->Int}(h:W.rowIs b T (m*3) (wnF a b1 c k))(x y z:Int)(hx:x=a k)(hy:y=b1 k)(hz:z=c k):
 (((W.setCell ⟨b,k*3,none⟩ (Iq x)).setCell ⟨b,k*3+1,none⟩ (Iq y)).setCell ⟨b,k*3+2,none⟩ (Iq z)).rowIs b T (m*3) (wnF a b1 c (k+1)):=by
 subst hx hy hz;refine(((h.set (k*3) (Iq (a k))).set (k*3+1) (Iq (b1 k))).set (k*3+2) (Iq (c k))).congr fun i hi=>?_;unfold wnF;by_cases e2:i=k*3+2;·rw[if_pos e2,if_pos (by omega),if_neg (by omega),if_neg (by omega),show i/3=k by omega]
 ·rw[if_neg e2];by_cases e1:i=k*3+1;·rw[if_pos e1,if_pos (by omega),if_neg (by omega),if_pos (by omega),show i/3=k by omega]
  ·rw[if_neg e1];by_cases e0:i=k*3;·rw[if_pos e0,if_pos (by omega),if_pos (by omega),show i/3=k by omega]
   ·rw[if_neg e0];by_cases l:i/3<k;·rw[if_pos l,if_pos (show i/3<k+1 by omega)]
    ·rw[if_neg l,if_neg (show¬i/3<k+1 by omega)]
theorem wn_row{W:World}{b:Nat}{T:TypeId}{m:Nat}{a b1 c:Nat->Int}(h:W.rowIs b T (m*3) (wnF a b1 c m)):WRow W b 0 m a b1 c:=by
 refine⟨h.lt,fun j hj=>⟨?_,?_,?_⟩⟩;·rw[Nat.zero_add,h.cell (by omega)];unfold wnF;rw[if_pos (by omega),if_pos (by omega),show j*3/3=j by omega]
 ·rw[Nat.zero_add,h.cell (by omega)];unfold wnF;rw[if_pos (by omega),if_neg (by omega),if_pos (by omega),show(j*3+1)/3=j by omega]
 ·rw[Nat.zero_add,h.cell (by omega)];unfold wnF;rw[if_pos (by omega),if_neg (by omega),if_neg (by omega),show(j*3+2)/3=j by omega]
def WnOut(U W:World)(r lb m:Nat)(a b c:Nat->Int)(H:Nat->Int->Int)(n:Nat):Prop:=WRow W lb 0 m a b c∧U.heap.size≤lb∧U.grownBy W (some r)∧Memo W r H n
end
section
open Go.RowKit Go.Sort
theorem kid_lt{s:ByteArray}{L:List Nd}(hT:Tree s L){i j:Nat}(hi:i<L.length)(hj:j<(nth L i).kids.length):i<kdn (nth L i).kids j∧kdn (nth L i).kids j<L.length:=by have:=hT.nest.kid i _ hi (kdn_mem hj);exact⟨this.1,this.2.1⟩
theorem Tree.kids_le{s:ByteArray}{L:List Nd}(hT:Tree s L){i:Nat}(hi:i<L.length):(nth L i).kids.length≤100:=by have h1:=nodup_len L.length (nth L i).kids (hT.nest.nd i hi) (fun x hx=>(hT.nest.kid i x hi hx).2.1);have:=hT.vl.cnt;omega
end
end Go.Proofs.YtmbefonnkkhfgaaGreatDoor
