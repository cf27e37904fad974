import Derived.Below
import Derived.Laws.OwnMore
import Derived.Maps.AppendAt
import Derived.Test.YtnponhbgicbkcaaGreatDoorD06
import Derived.Test.YtnponhbgicbkcaaGreatDoorD00
set_option linter.unusedVariables false
set_option maxRecDepth 100000
set_option maxHeartbeats 16000000
namespace Go.Proofs.YtnponhbgicbkcaaGreatDoor
section
open Go.RowKit
def kInts(l:List Nat):List Value:=l.map fun(k:Nat)=>.int .i64 (k:Int)
structure Up(B:Nat)(W W':World):Prop where
 size:W.heap.size≤W'.heap.size
 block:∀b,B≤b->b<W.heap.size->W'.heap[b]?=W.heap[b]?
theorem Up.refl(B:Nat)(W:World):Up B W W:=⟨Nat.le_refl _,fun _ _ _=>rfl⟩
theorem Up.trans{B:Nat}{W W1 W2:World}(h:Up B W W1)(k:Up B W1 W2):Up B W W2:=
 ⟨Nat.le_trans h.size k.size,fun b h1 h2=>(k.block b h1 (Nat.lt_of_lt_of_le h2 h.size)).trans (h.block b h1 h2)⟩
theorem Up.grown{B r:Nat}{W W':World}(h:W.grownBy W' (some r))(hr:r<B):Up B W W':=
 ⟨h.size,fun b h1 h2=>h.block b h2 (by simp;omega)⟩
theorem Up.below{B:Nat}{W W':World}(h:Below W.heap.size W W'):Up B W W':=⟨h.size,fun b _ h2=>h.block b h2⟩
theorem Up.drewN(B:Nat)(W:World)(q:Nat):Up B W (W.drewN q):=⟨Nat.le_refl _,fun _ _ _=>rfl⟩
theorem own_up{W W':World}{B n size:Nat}{e:TypeId}{v:Value}{xs:List Value}(h:W.ownsRow B e size v n xs)(hu:Up B W W'):W'.ownsRow B e size v n xs:=by
 refine⟨h.1,?_⟩;rcases h.2 with h2|⟨g,cap,cur,a,b,c,d⟩;·exact .inl h2
 ·refine .inr ⟨g,cap,cur,a,b,?_,d⟩;rw[hu.block g b (Array.getElem?_eq_some_iff.1 c).1];exact c
theorem own_apart{W:World}{B B' n n' size size':Nat}{e e':TypeId}{v v':Value}{xs xs':List Value}(h:W.ownsRow B e size v n xs)(h':W.ownsRow B' e' size' v' n' xs')(he:e≠e'):v.ownBlock=none∨v.ownBlock≠v'.ownBlock:=by
 rcases h.2 with⟨rfl,_⟩|⟨g,cap,cur,rfl,b,c,d⟩;·exact .inl rfl
 ·right;rcases h'.2 with⟨rfl,_⟩|⟨g',cap',cur',rfl,b',c',d'⟩;·simp[Value.ownBlock]
  ·intro hh;simp[Value.ownBlock]at hh;subst hh;rw[c]at c';injection c' with c';injection c' with _ c';exact he c'
theorem own_form{W:World}{B n size:Nat}{e:TypeId}{v:Value}{xs:List Value}(h:W.ownsRow B e size v n xs):(v=.slice none 0 0∧n=0)∨∃g cap,v=.slice (some ⟨g,0,none⟩) n cap∧B≤g∧g<W.heap.size∧n≤cap∧cap≤maxLen:=by
 rcases h.2 with h2|⟨g,cap,cur,a,b,c,d,f,_⟩;·exact .inl h2
 ·exact .inr ⟨g,cap,a,b,(Array.getElem?_eq_some_iff.1 c).1,d,f⟩
structure NR(W:World)(B:Nat)(T:TypeId)(z:Nat)(nv:Value)(n:Nat)(C:Nat->List Value)(KV:Nat->Value)(K:Nat->List Nat):Prop where
 row:∃xs,W.ownsRow B T z nv n xs
 cells:∀g,nv.ownBlock=some g->∀j,j<n->∀(t:Nat) u,(C j)[t]?=some u->W.cell? ⟨g,j*z+t,none⟩=some u
 len:∀j,j<n->(C j).length=z
 kids:∀j,j<n->W.ownsRow B 3 1 (KV j) (K j).length (kInts (K j))
 sep:∀i j,i<n->j<n->i≠j->∀b,(KV i).ownBlock=some b->(KV j).ownBlock≠some b
section
variable{W W':World} {B z n:Nat} {T:TypeId} {nv:Value} {C:Nat->List Value} {KV:Nat->Value} {K:Nat->List Nat}
theorem NR.nothing(W:World)(B:Nat)(T:TypeId)(z:Nat)(C:Nat->List Value)(KV:Nat->Value)(K:Nat->List Nat):NR W B T z (.slice none 0 0) 0 C KV K:=
 ⟨⟨[],World.ownsRow_nil _ _ _ _⟩,fun _ _ j h=>absurd h (by omega),fun j h=>absurd h (by omega),fun j h=>absurd h (by omega),fun i j h=>absurd h (by omega)⟩
theorem NR.up(h:NR W B T z nv n C KV K)(hu:Up B W W'):NR W' B T z nv n C KV K:=by obtain⟨xs,hx⟩:=h.row;refine⟨⟨xs,own_up hx hu⟩,fun g hg j hj t u htu=>?_,h.len,fun j hj=>own_up (h.kids j hj) hu,h.sep⟩;have:=h.cells g hg j hj t u htu;have hl:=hx.lt g hg;rw[World.cell?_of_block (hu.block g hl.1 hl.2)];exact this
theorem NR.form(h:NR W B T z nv n C KV K)(hn:0<n):∃g cap,nv=.slice (some ⟨g,0,none⟩) n cap∧B≤g∧g<W.heap.size∧n≤cap∧cap≤maxLen:=by
 obtain⟨xs,hx⟩:=h.row;rcases own_form hx with⟨_,h0⟩|h1;·omega
 ·exact h1
theorem NR.cell{g cap:Nat}(h:NR W B T z (.slice (some ⟨g,0,none⟩) n cap) n C KV K){j:Nat}(hj:j<n){t:Nat}{u:Value}(ht:(C j)[t]?=some u):W.cell? ⟨g,j*z+t,none⟩=some u:=h.cells g rfl j hj t u ht
theorem NR.frozen{g cap:Nat}(h:NR W B T z (.slice (some ⟨g,0,none⟩) n cap) n C KV K)(j:Nat):W.frozen? ⟨g,j,none⟩=false:=by obtain⟨xs,hx⟩:=h.row;exact hx.frozenAt j
theorem NR.frz(h:NR W B T z nv n C KV K){g:Nat}(hg:nv.ownBlock=some g)(j:Nat):W.frozen? ⟨g,j,none⟩=false:=by
 obtain⟨xs,hx⟩:=h.row;rcases own_form hx with⟨rfl,_⟩|⟨g',cap,rfl,_⟩;·simp[Value.ownBlock]at hg
 ·simp[Value.ownBlock]at hg;subst hg;exact hx.frozenAt j
theorem NR.app{nv':Value}{xs news:List Value}(h:NR W B T z nv n C KV K)(hT:3≠T)(hx:W.ownsRow B T z nv n xs)(hx':W'.ownsRow B T z nv' (n+1) (xs++news))(hg:W.grownBy W' nv.ownBlock)(hl:news.length=z):
 NR W' B T z nv' (n+1) (fun j=>if j=n then news else C j) (fun j=>if j=n then .slice none 0 0 else KV j) (fun j=>if j=n then[]else K j):=by
 have hxl:=hx.1;refine⟨⟨_,hx'⟩,fun g hg' j hj t u htu=>?_,fun j hj=>?_,fun j hj=>?_,fun i j hi hj hij b hb=>?_⟩
 ·have key:=hx'.cells hg';have hadd:∀m,(⟨g,0,none⟩:Addr).add m=⟨g,m,none⟩:=fun m=>by unfold Addr.add;split<;>simp_all
  have hz:t<z:=by
   have h1:=(List.getElem?_eq_some_iff.1 htu).1;by_cases hjn:j=n;·rw[if_pos hjn]at h1;omega
   ·rw[if_neg hjn,h.len j (by omega)]at h1;exact h1
  rw[<-hadd];refine key _ _ ?_;by_cases hjn:j=n;·subst hjn;rw[if_pos rfl]at htu;rw[List.getElem?_append_right (by rw[hxl];omega),hxl,show j*z+t-j*z=t by omega];exact htu
  ·rw[if_neg hjn]at htu;have hlt:j*z+t<n*z:=by have:(j+1)*z≤n*z:=Nat.mul_le_mul_right _ (by omega);rw[Nat.add_mul]at this;omega
   rw[List.getElem?_append_left (by rw[hxl];exact hlt)];obtain⟨g0,cap,rfl,_⟩:=h.form (by omega);have h1:=h.cell (by omega) htu;rw[hx.cellAt _ hlt]at h1;exact h1
 ·by_cases hjn:j=n;·rw[if_pos hjn];exact hl
  ·rw[if_neg hjn];exact h.len j (by omega)
 ·by_cases hjn:j=n;·rw[if_pos hjn,if_pos hjn];exact World.ownsRow_nil _ _ _ _
  ·rw[if_neg hjn,if_neg hjn];exact(h.kids j (by omega)).kept hg (own_apart (h.kids j (by omega)) hx hT)
 ·by_cases h1:i=n;·rw[if_pos h1]at hb;simp[Value.ownBlock]at hb
  ·rw[if_neg h1]at hb;by_cases h2:j=n;·rw[if_pos h2];simp[Value.ownBlock]
   ·rw[if_neg h2];exact h.sep i j (by omega) (by omega) hij b hb
theorem NR.set{g cap:Nat}(h:NR W B T z (.slice (some ⟨g,0,none⟩) n cap) n C KV K)(hT:3≠T){k t:Nat}(hk:k<n)(ht:t<z)(u:Value):
 NR (W.setCell ⟨g,k*z+t,none⟩ u) B T z (.slice (some ⟨g,0,none⟩) n cap) n (fun j=>if j=k then(C k).set t u else C j) KV K:=by
 obtain⟨xs,hx⟩:=h.row;have hst:=hx.stored (k*z+t) u;have hkt:k*z+t<n*z:=by have:(k+1)*z≤n*z:=Nat.mul_le_mul_right _ (by omega);rw[Nat.add_mul]at this;omega
 refine⟨⟨_,hst.1⟩,fun g' hg' j hj t' u' htu=>?_,fun j hj=>?_,fun j hj=>?_,h.sep⟩
 ·injection hg' with hg';have hg':g=g':=hg';subst hg';have hz:t'<z:=by
   have h1:=(List.getElem?_eq_some_iff.1 htu).1;by_cases hjn:j=k;·rw[if_pos hjn]at h1;simp[h.len k hk]at h1;exact h1
   ·rw[if_neg hjn,h.len j (by omega)]at h1;exact h1
  have hlt:j*z+t'<n*z:=by have:(j+1)*z≤n*z:=Nat.mul_le_mul_right _ (by omega);rw[Nat.add_mul]at this;omega
  rw[hst.1.cellAt _ hlt];have hold:=(hx.cellAt _ hlt).symm;by_cases hjk:j=k
  ·subst hjk;rw[if_pos rfl]at htu;by_cases htt:t=t';·subst htt;rw[List.getElem?_set_self (by rw[hx.1];exact hkt)];rw[List.getElem?_set_self (by rw[h.len j hk];exact ht)]at htu;exact htu
   ·rw[List.getElem?_set_ne (by omega)]at htu⊢;rw[hold];exact h.cell hj htu
  ·rw[if_neg hjk]at htu;have hne:k*z+t≠j*z+t':=by
    intro e;rcases Nat.lt_or_gt_of_ne hjk with hh|hh;·have:(j+1)*z≤k*z:=Nat.mul_le_mul_right _ (by omega);rw[Nat.add_mul]at this;omega
    ·have:(k+1)*z≤j*z:=Nat.mul_le_mul_right _ (by omega);rw[Nat.add_mul]at this;omega
   rw[List.getElem?_set_ne hne,hold];exact h.cell hj htu
 ·by_cases hjk:j=k;·rw[if_pos hjk];simp[h.len k hk]
  ·rw[if_neg hjk];exact h.len j hj
 ·exact(h.kids j hj).kept hst.2 (own_apart (h.kids j hj) hx hT)
theorem NR.kid{g cap:Nat}{kv':Value}{k t c:Nat}(h:NR W B T z (.slice (some ⟨g,0,none⟩) n cap) n C KV K)(hT:3≠T)(hk:k<n)(ht:t<z)
 (hr:W'.ownsRow B 3 1 kv' ((K k).length+1) (kInts (K k++[c]))) (hg:W.grownBy W' (KV k).ownBlock) (hat:kv'.ownBlock=(KV k).ownBlock∨kv'.ownBlock=some W.heap.size):
 NR (W'.setCell ⟨g,k*z+t,none⟩ kv') B T z (.slice (some ⟨g,0,none⟩) n cap) n (fun j=>if j=k then(C k).set t kv' else C j) (fun j=>if j=k then kv' else KV j) (fun j=>if j=k then K k++[c]else K j):=by
 obtain⟨xs,hx⟩:=h.row;have hx':=hx.kept hg (own_apart hx (h.kids k hk) (Ne.symm hT));have hgl:=hx.lt g rfl;have hblk:=hg.block g hgl.2 (by
  rcases own_apart (h.kids k hk) hx hT with e|e;·rw[e];simp
  ·exact fun e2=>e e2.symm);have hother:=fun j hj hjk=>(h.kids j hj).kept hg (by
  cases hb:(KV j).ownBlock with
  |none=>exact .inl rfl
  |some b=>right;exact fun e=>h.sep j k hj hk hjk b hb e.symm);have mid:NR W' B T z (.slice (some ⟨g,0,none⟩) n cap) n C (fun j=>if j=k then kv' else KV j) (fun j=>if j=k then K k++[c]else K j):=by
  refine⟨⟨xs,hx'⟩,fun g' hg' j hj t' u' htu=>?_,h.len,fun j hj=>?_,fun i j hi hj hij b hb=>?_⟩;·injection hg' with hg';have hg':g=g':=hg';subst hg';rw[World.cell?_of_block hblk];exact h.cell hj htu
  ·by_cases hjk:j=k;·rw[if_pos hjk,if_pos hjk];simpa using hr
   ·rw[if_neg hjk,if_neg hjk];exact hother j hj hjk
  ·have hfar:∀i,i<n->(KV i).ownBlock≠some W.heap.size:=fun i hi e=>by have:=(h.kids i hi).lt _ e;omega
   by_cases h1:i=k
   ·rw[if_pos h1]at hb;have h2:j≠k:=fun e=>hij (h1.trans e.symm);rw[if_neg h2];rcases hat with e|e;·rw[e]at hb;exact h.sep k j hk hj (fun e=>h2 e.symm) b hb
    ·rw[e]at hb;injection hb with hb;rw[<-hb];exact hfar j hj
   ·rw[if_neg h1]at hb;by_cases h2:j=k
    ·rw[if_pos h2];rcases hat with e|e;·rw[e];exact h.sep i k hi hk h1 b hb
     ·rw[e];intro e2;injection e2 with e2;exact hfar i hi (by rw[hb,e2])
    ·rw[if_neg h2];exact h.sep i j hi hj hij b hb
 exact mid.set hT hk ht kv'
end
end
section
open Go.RowKit
def nd0:Nd:=⟨0,[],[],[],0⟩
def nth(L:List Nd)(j:Nat):Nd:=L[j]?.getD nd0
theorem nth_app_old{L:List Nd}{d:Nd}{j:Nat}(h:j<L.length):nth (L++[d]) j=nth L j:=by unfold nth;rw[List.getElem?_append_left h]
theorem nth_app_new(L:List Nd)(d:Nd):nth (L++[d]) L.length=d:=by unfold nth;rw[List.getElem?_append_right (Nat.le_refl _)];simp
theorem nth_mod_same{L:List Nd}{k:Nat}(f:Nd->Nd)(h:k<L.length):nth (L.modify k f) k=f (nth L k):=by unfold nth;rw[List.getElem?_modify];simp[h]
theorem nth_mod_other{L:List Nd}{k j:Nat}(f:Nd->Nd)(h:j≠k):nth (L.modify k f) j=nth L j:=by unfold nth;rw[List.getElem?_modify];have h':¬k=j:=fun e=>h e.symm;simp[h']
theorem NR.congr{W:World}{B z n:Nat}{T:TypeId}{nv:Value}{C C':Nat->List Value}{KV KV':Nat->Value}{K K':Nat->List Nat}(h:NR W B T z nv n C KV K)
 (h1:∀j,j<n->C' j=C j) (h2:∀j,j<n->KV' j=KV j) (h3:∀j,j<n->K' j=K j):NR W B T z nv n C' KV' K':=
 ⟨h.row,fun g hg j hj t u ht=>h.cells g hg j hj t u (by rw[<-h1 j hj];exact ht),fun j hj=>by rw[h1 j hj];exact h.len j hj,fun j hj=>by rw[h2 j hj,h3 j hj];exact h.kids j hj,
  fun i j hi hj hij b hb=>by rw[h2 j hj];rw[h2 i hi]at hb;exact h.sep i j hi hj hij b hb⟩
structure Fr(B r:Nat)(W W':World):Prop where
 os:W'.os=W.os
 tape:W'.tape=W.tape
 output:W'.output=W.output
 size:W.heap.size≤W'.heap.size
 block:∀b,b<B->b≠r->W'.heap[b]?=W.heap[b]?
theorem Fr.refl(B r:Nat)(W:World):Fr B r W W:=⟨rfl,rfl,rfl,Nat.le_refl _,fun _ _ _=>rfl⟩
theorem Fr.trans{B r:Nat}{W W1 W2:World}(h:Fr B r W W1)(k:Fr B r W1 W2):Fr B r W W2:=
 ⟨k.os.trans h.os,k.tape.trans h.tape,k.output.trans h.output,Nat.le_trans h.size k.size,fun b h1 h2=>(k.block b h1 h2).trans (h.block b h1 h2)⟩
theorem Fr.grown{B r:Nat}{W W':World}(h:W.grownBy W' (some r))(hB:B≤W.heap.size):Fr B r W W':=
 ⟨h.os,h.tape,h.output,h.size,fun b h1 h2=>h.block b (by omega) (by simpa using h2)⟩
theorem Fr.own{B r:Nat}{W W':World}{o:Option Nat}(h:W.grownBy W' o)(hB:B≤W.heap.size)(ho:∀g,o=some g->B≤g):Fr B r W W':=
 ⟨h.os,h.tape,h.output,h.size,fun b h1 h2=>h.block b (by omega) (fun e=>by have:=ho b e.symm;omega)⟩
theorem Fr.below{B B' r:Nat}{W W':World}(h:Below B' W W')(hB:B≤B'):Fr B r W W':=
 ⟨h.os,h.tape,h.output,h.size,fun b h1 h2=>h.block b (by omega)⟩
theorem Fr.drewN(B r:Nat)(W:World)(q:Nat):Fr B r W (W.drewN q):=⟨rfl,rfl,rfl,Nat.le_refl _,fun _ _ _=>rfl⟩
theorem Fr.cell{B r:Nat}{W W':World}(h:Fr B r W W'){a:Addr}{v:Value}(hc:W.cell? a=some v)(h1:a.block<B)(h2:a.block≠r):W'.cell? a=some v:=
 (World.cell?_of_block (h.block a.block h1 h2)).trans hc
theorem Fr.frozen{B r:Nat}{W W':World}(h:Fr B r W W'){a:Addr}(h1:a.block<B)(h2:a.block≠r):W'.frozen? a=W.frozen? a:=
 World.frozen?_of_block (h.block a.block h1 h2)
def pnCells(d:Nd)(kv:Value):List Value:=.int .i64 (d.kind:Int)::((d.attr.map fun(x:Int)=>Value.int .i64 x)++[.string ⟨d.text.toArray⟩,kv,.int .i64 d.up])
theorem pn_kind(d:Nd)(kv:Value):(pnCells d kv)[0]?=some (.int .i64 (d.kind:Int)):=rfl
theorem pn_attr{d:Nd}{kv:Value}{t:Nat}(h:t<d.attr.length):(pnCells d kv)[t+1]?=some (.int .i64 (d.attr[t]?.getD 0)):=by unfold pnCells;rw[List.getElem?_cons_succ,List.getElem?_append_left (by simpa using h)];simp[h]
theorem pn_text{d:Nd}{kv:Value}(h:d.attr.length=12):(pnCells d kv)[13]?=some (.string ⟨d.text.toArray⟩):=by unfold pnCells;rw[List.getElem?_cons_succ,List.getElem?_append_right (by simp[h])];simp[h]
theorem pn_kids{d:Nd}{kv:Value}(h:d.attr.length=12):(pnCells d kv)[14]?=some kv:=by unfold pnCells;rw[List.getElem?_cons_succ,List.getElem?_append_right (by simp[h])];simp[h]
theorem pn_up{d:Nd}{kv:Value}(h:d.attr.length=12):(pnCells d kv)[15]?=some (.int .i64 d.up):=by unfold pnCells;rw[List.getElem?_cons_succ,List.getElem?_append_right (by simp[h])];simp[h]
theorem pn_len{d:Nd}{kv:Value}(h:d.attr.length=12):(pnCells d kv).length=16:=by unfold pnCells;simp[h]
theorem pn_set_attr{d:Nd}{kv:Value}{t:Nat}(h:t<d.attr.length)(x:Int):(pnCells d kv).set (t+1) (.int .i64 x)=pnCells {d with attr:=d.attr.set t x} kv:=by unfold pnCells;rw[List.set_cons_succ,List.set_append_left _ _ (by simpa using h),List.map_set]
theorem pn_set_text{d:Nd}{kv:Value}(h:d.attr.length=12)(x:List UInt8):(pnCells d kv).set 13 (.string ⟨x.toArray⟩)=pnCells {d with text:=x} kv:=by unfold pnCells;rw[List.set_cons_succ,List.set_append_right _ _ (by simp[h])];simp[h]
theorem pn_set_kids{d:Nd}{kv kv':Value}(h:d.attr.length=12)(ks:List Nat):(pnCells d kv).set 14 kv'=pnCells {d with kids:=ks} kv':=by unfold pnCells;rw[List.set_cons_succ,List.set_append_right _ _ (by simp[h])];simp[h]
structure PN(W:World)(B:Nat)(nv:Value)(L:List Nd)(KV:Nat->Value):Prop where
 nr:NR W B 101 16 nv L.length (fun j=>pnCells (nth L j) (KV j)) KV (fun j=>(nth L j).kids)
 len:∀j,j<L.length->(nth L j).attr.length=12
section
variable{W W':World} {B:Nat} {nv:Value} {L:List Nd} {KV:Nat->Value}
theorem PN.up(h:PN W B nv L KV)(hu:Up B W W'):PN W' B nv L KV:=⟨h.nr.up hu,h.len⟩
theorem PN.app{nv':Value}{xs:List Value}{d:Nd}(h:PN W B nv L KV)(hx:W.ownsRow B 101 16 nv L.length xs)(hx':W'.ownsRow B 101 16 nv' (L.length+1) (xs++pnCells d (.slice none 0 0)))(hg:W.grownBy W' nv.ownBlock)(hl:d.attr.length=12)(hk:d.kids=[]):
 PN W' B nv' (L++[d]) (fun j=>if j=L.length then .slice none 0 0 else KV j):=by
 refine⟨?_,fun j hj=>?_⟩
 ·have hl2:(L++[d]).length=L.length+1:=by simp
  rw[hl2];refine(h.nr.app (by decide) hx hx' hg (pn_len hl)).congr (fun j hj=>?_) (fun j hj=>rfl) (fun j hj=>?_)
  ·by_cases e:j=L.length;·subst e;simp only[if_true];rw[nth_app_new]
   ·rw[if_neg e,if_neg e,nth_app_old (by omega)]
  ·by_cases e:j=L.length;·subst e;rw[if_pos rfl,nth_app_new,hk]
   ·rw[if_neg e,nth_app_old (by omega)]
 ·by_cases e:j=L.length;·subst e;rw[nth_app_new];exact hl
  ·rw[nth_app_old (by simp at hj;omega)];exact h.len j (by simp at hj;omega)
theorem PN.mod{g cap k t:Nat}{u:Value}(h:PN W B (.slice (some ⟨g,0,none⟩) L.length cap) L KV)(hk:k<L.length)(ht:t<16)(f:Nd->Nd)(hf:(pnCells (nth L k) (KV k)).set t u=pnCells (f (nth L k)) (KV k))(hfk:(f (nth L k)).kids=(nth L k).kids)(hfl:(f (nth L k)).attr.length=12):
 PN (W.setCell ⟨g,k*16+t,none⟩ u) B (.slice (some ⟨g,0,none⟩) L.length cap) (L.modify k f) KV:=by
 refine⟨?_,fun j hj=>?_⟩
 ·have hl2:(L.modify k f).length=L.length:=by simp
  rw[hl2];refine(h.nr.set (by decide) hk ht u).congr (fun j hj=>?_) (fun j hj=>rfl) (fun j hj=>?_)
  ·by_cases e:j=k;·subst e;rw[if_pos rfl,nth_mod_same f hk];exact hf.symm
   ·rw[if_neg e,nth_mod_other f e]
  ·by_cases e:j=k;·subst e;rw[nth_mod_same f hk];exact hfk
   ·rw[nth_mod_other f e]
 ·by_cases e:j=k;·subst e;rw[nth_mod_same f hk];exact hfl
  ·rw[nth_mod_other f e];exact h.len j (by simpa using hj)
theorem PN.setAttr{g cap k t:Nat}(h:PN W B (.slice (some ⟨g,0,none⟩) L.length cap) L KV)(hk:k<L.length)(ht:t<12)(x:Int):
 PN (W.setCell ⟨g,k*16+(t+1),none⟩ (.int .i64 x)) B (.slice (some ⟨g,0,none⟩) L.length cap) (L.modify k fun d=>{d with attr:=d.attr.set t x}) KV:=
 h.mod hk (by omega) _ (pn_set_attr (by rw[h.len k hk];exact ht) x) rfl (by simp[h.len k hk])
theorem PN.setText{g cap k:Nat}(h:PN W B (.slice (some ⟨g,0,none⟩) L.length cap) L KV)(hk:k<L.length)(x:List UInt8):
 PN (W.setCell ⟨g,k*16+13,none⟩ (.string ⟨x.toArray⟩)) B (.slice (some ⟨g,0,none⟩) L.length cap) (withText L k x) KV:=
 h.mod hk (by omega) _ (pn_set_text (h.len k hk) x) rfl (h.len k hk)
theorem PN.kid{g cap:Nat}{kv':Value}{k c:Nat}(h:PN W B (.slice (some ⟨g,0,none⟩) L.length cap) L KV)(hk:k<L.length)
 (hr:W'.ownsRow B 3 1 kv' ((nth L k).kids.length+1) (kInts ((nth L k).kids++[c]))) (hg:W.grownBy W' (KV k).ownBlock) (hat:kv'.ownBlock=(KV k).ownBlock∨kv'.ownBlock=some W.heap.size):
 PN (W'.setCell ⟨g,k*16+14,none⟩ kv') B (.slice (some ⟨g,0,none⟩) L.length cap) (L.modify k fun u=>{u with kids:=u.kids++[c]}) (fun j=>if j=k then kv' else KV j):=by
 refine⟨?_,fun j hj=>?_⟩
 ·have hl2:(L.modify k fun u=>{u with kids:=u.kids++[c]}).length=L.length:=by simp
  rw[hl2];refine(h.nr.kid (t:=14) (by decide) hk (by omega) hr hg hat).congr (fun j hj=>?_) (fun j hj=>rfl) (fun j hj=>?_)
  ·by_cases e:j=k;·subst e;simp only[if_true];rw[nth_mod_same _ hk];exact(pn_set_kids (h.len j hk) _).symm
   ·rw[if_neg e,if_neg e,nth_mod_other _ e]
  ·by_cases e:j=k;·subst e;rw[if_pos rfl,nth_mod_same _ hk]
   ·rw[if_neg e,nth_mod_other _ e]
 ·by_cases e:j=k;·subst e;rw[nth_mod_same _ hk];exact h.len j hk
  ·rw[nth_mod_other _ e];exact h.len j (by simpa using hj)
end
theorem grown_eq(L:List Nd)(d:Nd)(k:Nat)(hd:d.up=(k:Int))(hk:k<L.length):grown L d=(L++[d]).modify k fun u=>{u with kids:=u.kids++[L.length]}:=by
 unfold grown;rw[if_neg (by omega),hd];simp only[Int.toNat_natCast];apply List.ext_getElem?;intro j;by_cases h1:j<L.length;·rw[List.getElem?_append_left (by simpa using h1),List.getElem?_modify,List.getElem?_modify,List.getElem?_append_left h1]
 ·rw[List.getElem?_append_right (by simp;omega),List.getElem?_modify,List.getElem?_append_right (by omega)];have h':¬k=j:=by omega
  simp[h']
end
section
open Go.RowKit
structure PR(W:World)(rb:Nat)(s:ByteArray)(i:Nat)(av nv fv:Value):Prop where
 lt:rb<W.heap.size
 c0:W.cell? ⟨rb,0,none⟩=some (.string s)
 c1:W.cell? ⟨rb,1,none⟩=some (.int .i64 (i:Int))
 c2:W.cell? ⟨rb,2,none⟩=some av
 c3:W.cell? ⟨rb,3,none⟩=some nv
 c4:W.cell? ⟨rb,4,none⟩=some fv
 fz:∀j,W.frozen? ⟨rb,j,none⟩=false
theorem PR.below{W W':World}{rb:Nat}{s:ByteArray}{i:Nat}{av nv fv:Value}(h:PR W rb s i av nv fv)(hb:Below W.heap.size W W'):PR W' rb s i av nv fv:=
 have k:∀j v,W.cell? ⟨rb,j,none⟩=some v->W'.cell? ⟨rb,j,none⟩=some v:=fun j v e=>(hb.cell (p:=⟨rb,j,none⟩) h.lt).trans e
 ⟨Nat.lt_of_lt_of_le h.lt hb.size,k _ _ h.c0,k _ _ h.c1,k _ _ h.c2,k _ _ h.c3,k _ _ h.c4,fun j=>(hb.frozen (p:=⟨rb,j,none⟩) h.lt).trans (h.fz j)⟩
theorem PR.drewN{W:World}{rb:Nat}{s:ByteArray}{i:Nat}{av nv fv:Value}(h:PR W rb s i av nv fv)(n:Nat):PR (W.drewN n) rb s i av nv fv:=
 ⟨h.lt,h.c0,h.c1,h.c2,h.c3,h.c4,h.fz⟩
theorem PR.setI{W:World}{rb:Nat}{s:ByteArray}{i:Nat}{av nv fv:Value}(h:PR W rb s i av nv fv)(i':Nat):PR (W.setCell ⟨rb,1,none⟩ (.int .i64 (i':Int))) rb s i' av nv fv:=
 ⟨by simpa using h.lt,rs_other (by omega) h.c0,rs_same h.c1,rs_other (by omega) h.c2,rs_other (by omega) h.c3,rs_other (by omega) h.c4,fun j=>by rw[World.frozen?_setCell];exact h.fz j⟩
def prI(W:World)(rb:Nat):Nat:=match W.cell? ⟨rb,1,none⟩with
 |some (.int _ x)=>x.toNat
 |_=>0
theorem PR.prI{W:World}{rb:Nat}{s:ByteArray}{i:Nat}{av nv fv:Value}(h:PR W rb s i av nv fv):prI W rb=i:=by unfold Go.Proofs.YtnponhbgicbkcaaGreatDoor.prI;rw[h.c1];simp
theorem skipBlanks_any(rb:Nat)(s:ByteArray)(i:Nat)(av nv fv:Value)(w:World)(h:PR w rb s i av nv fv)(hs:s.size≤1099511627776)(hi:i≤s.size):
 Calls Tryz.prog 74 #[.pointer (some ⟨rb,0,none⟩)] w fun e w'=>e=.returned (.tuple #[])∧PR w' rb s (sk s i) av nv fv∧w.grownBy w' (some rb):=by
 have HR:=qH<|h;clear h;go_enter Tryz.func74,Tryz.ntmps74;go_wp2;go_loopw[2] (fun _ wr=>∃k:Nat,k≤s.size∧Hid (sk s k=sk s i)∧Hid (PR wr rb s k av nv fv)∧Hid (w.grownBy wr (some rb))) (fun _ wr=>s.size-prI wr rb);case atStart=>exact⟨i,hi,rfl,HR.out,gr_refl _ _⟩
 case round=>
  obtain⟨k,hk,HK,HS,HG⟩:=hrel;have hs1:=HS.out;have c0:=hs1.c0;have c1:=hs1.c1;have f1:=hs1.fz 1;by_cases hlt:k<s.size
  ·have hlt':(k:Int)<(s.size:Int):=by omega
   obtain⟨x,hx⟩:∃x,s[k].toNat=x:=⟨_,rfl⟩;have hbx:bat s k=x:=by rw[bat_in hlt,hx]
   by_cases hb:x=32
   ·skip;have HN:=qH<|fun q=>by have:=(HS.out.drewN q).setI (k+1);rw[show((k+1:Nat):Int)=(k:Int)+1 by omega]at this;exact this
    have HK2:Hid (sk s (k+1)=sk s i):=by rw[<-HK.out];exact(run_step hlt (by rw[hbx];simp[blank,hb])).symm
    have hrd:=HS.out.prI;have HRD:=qH<|hrd;subst hb;clear hs1 HK HS hbx hrd;go_wp2_with fail;go_quiet(fail);go_wp2;go_roundw;case rel=>exact⟨k+1,by omega,HK2.out,HN.out _,gr_trans (gr_trans HG.out (gr_drewN _ _ _)) (gr_set _ _ _ _)⟩
    case measure=>rw[(HN.out _).prI,HRD.out];omega
   ·by_cases hb2:x=10
    ·skip;have HN:=qH<|fun q=>by have:=(HS.out.drewN q).setI (k+1);rw[show((k+1:Nat):Int)=(k:Int)+1 by omega]at this;exact this
     have HK2:Hid (sk s (k+1)=sk s i):=by rw[<-HK.out];exact(run_step hlt (by rw[hbx];simp[blank,hb2])).symm
     have hrd:=HS.out.prI;have HRD:=qH<|hrd;subst hb2;clear hs1 HK HS hbx hrd;go_wp2_with fail;go_quiet(fail);go_wp2;go_roundw;case rel=>exact⟨k+1,by omega,HK2.out,HN.out _,gr_trans (gr_trans HG.out (gr_drewN _ _ _)) (gr_set _ _ _ _)⟩
     case measure=>rw[(HN.out _).prI,HRD.out];omega
    ·have HE:Hid (PR wr rb s (sk s i) av nv fv):=by have:sk s k=k:=run_stop (by rw[hbx];simp[blank,hb,hb2]);rw[<-HK.out,this];exact HS.out
     have e1:((x:Int)==32)=false:=by simp;omega
     have e2:((x:Int)==10)=false:=by simp;omega
     clear hs1 HK HS hbx;go_wp2_with fail;go_quiet(fail);go_wp2;go_end0;exact⟨rfl,HE.out.drewN _,gr_trans HG.out (gr_drewN _ _ _)⟩
  ·have hlt':¬(k:Int)<(s.size:Int):=by omega
   have hd:=decide_eq_false hlt';have HE:Hid (PR wr rb s (sk s i) av nv fv):=by have:sk s k=k:=run_out hlt;rw[<-HK.out,this];exact HS.out
   clear hs1 HK HS;go_wp2_with fail;go_quiet(fail);go_wp2;go_end0;exact⟨rfl,HE.out.drewN _,gr_trans HG.out (gr_drewN _ _ _)⟩
theorem takes_any(rb:Nat)(s:ByteArray)(i:Nat)(av nv fv:Value)(c:Nat)(w:World)(h:PR w rb s i av nv fv)(hs:s.size≤1099511627776)(hi:i≤s.size)(hc:c<256):
 Calls Tryz.prog 131 #[.pointer (some ⟨rb,0,none⟩),.int .u8 (c:Int)] w fun e w'=>e=.returned (.bool (isAt s i c))∧PR w' rb s (gotI s i c) av nv fv∧w.grownBy w' (some rb):=by
 have CS:=qH<|skipBlanks_any rb s i av nv fv w h hs hi;obtain⟨j,hj⟩:∃j,sk s i=j:=⟨_,rfl⟩;have hjs:=sk_le s i hi;have HGI:Hid (gotI s i c=if bat s j=c then j+1 else j):=by show _=_;unfold gotI;rw[hj]
 have HIA:Hid (isAt s i c=(bat s j==c)):=by show _=_;unfold isAt;rw[hj]
 rw[hj]at CS hjs;clear h hj;go_enter Tryz.func131,Tryz.ntmps131;go_wp2_with fail;refine CS.out.mono ?_;rintro e w1 ⟨rfl,h1,g1⟩;have HR:=qH<|h1;have HG:=qH<|g1;have c0:=h1.c0;have c1:=h1.c1;have f1:=h1.fz 1;clear h1 g1 CS;by_cases hlt:j<s.size
 ·have hlt':(j:Int)<(s.size:Int):=by omega
  have el:((j:Int)==(s.size:Int))=false:=by simp;omega
  obtain⟨x,hx⟩:∃x,s[j].toNat=x:=⟨_,rfl⟩;have hbx:bat s j=x:=by rw[bat_in hlt,hx]
  by_cases hxc:x=c
  ·have HN:Hid (∀q,PR ((w1.drewN q).setCell ⟨rb,1,none⟩ (.int .i64 ((j:Int)+1))) rb s (gotI s i c) av nv fv):=fun q=>by rw[HGI.out,hbx,if_pos hxc];have:=(HR.out.drewN q).setI (j+1);rw[show((j+1:Nat):Int)=(j:Int)+1 by omega]at this;exact this
   have HE:Hid (isAt s i c=true):=by show _=_;rw[HIA.out,hbx];simpa using hxc
   subst hxc;clear hbx HR;go_wp2_with fail;go_quiet(fail);go_wp2;go_ret;exact⟨by rw[HE.out];rfl,HN.out _,gr_trans (gr_trans HG.out (gr_drewN _ _ _)) (gr_set _ _ _ _)⟩
  ·have HN:Hid (PR w1 rb s (gotI s i c) av nv fv):=by rw[HGI.out,hbx,if_neg hxc];exact HR.out
   have HE:Hid (isAt s i c=false):=by show _=_;rw[HIA.out,hbx];simpa using hxc
   have ex:((x:Int)!=(c:Int))=true:=by simp;omega
   clear hbx HR;go_wp2_with fail;go_quiet(fail);go_wp2;go_ret;exact⟨by rw[HE.out];rfl,HN.out.drewN _,gr_trans HG.out (gr_drewN _ _ _)⟩
 ·have hlt':¬(j:Int)<(s.size:Int):=by omega
  have el:((j:Int)==(s.size:Int))=true:=by simp;omega
  have hbo:=bat_out hlt;have HN:Hid (PR w1 rb s (gotI s i c) av nv fv):=by rw[HGI.out,hbo,if_neg (by omega)];exact HR.out
  have HE:Hid (isAt s i c=false):=by show _=_;rw[HIA.out,hbo];simp;omega
  clear hbo HR;go_wp2_with fail;go_quiet(fail);go_wp2;go_ret;exact⟨by rw[HE.out];rfl,HN.out.drewN _,gr_trans HG.out (gr_drewN _ _ _)⟩
end
section
open Go.RowKit
theorem in1(nb o:Nat)(w:World):Calls Tryz.prog 114 #[.pointer (some ⟨nb,o,none⟩)] w fun e w'=>e=.returned (.pointer (some ⟨nb,o+1,none⟩))∧w'=w:=by go_enter Tryz.func114,Tryz.ntmps114;go_wp2;go_ret;exact⟨rfl,rfl⟩
theorem in2(nb o:Nat)(w:World):Calls Tryz.prog 115 #[.pointer (some ⟨nb,o,none⟩)] w fun e w'=>e=.returned (.pointer (some ⟨nb,o+2,none⟩))∧w'=w:=by go_enter Tryz.func115,Tryz.ntmps115;go_wp2;go_ret;exact⟨rfl,rfl⟩
theorem in3(nb o:Nat)(w:World):Calls Tryz.prog 116 #[.pointer (some ⟨nb,o,none⟩)] w fun e w'=>e=.returned (.pointer (some ⟨nb,o+3,none⟩))∧w'=w:=by go_enter Tryz.func116,Tryz.ntmps116;go_wp2;go_ret;exact⟨rfl,rfl⟩
theorem in4(nb o:Nat)(w:World):Calls Tryz.prog 117 #[.pointer (some ⟨nb,o,none⟩)] w fun e w'=>e=.returned (.pointer (some ⟨nb,o+4,none⟩))∧w'=w:=by go_enter Tryz.func117,Tryz.ntmps117;go_wp2;go_ret;exact⟨rfl,rfl⟩
theorem in5(nb o:Nat)(w:World):Calls Tryz.prog 118 #[.pointer (some ⟨nb,o,none⟩)] w fun e w'=>e=.returned (.pointer (some ⟨nb,o+5,none⟩))∧w'=w:=by go_enter Tryz.func118,Tryz.ntmps118;go_wp2;go_ret;exact⟨rfl,rfl⟩
theorem in6(nb o:Nat)(w:World):Calls Tryz.prog 119 #[.pointer (some ⟨nb,o,none⟩)] w fun e w'=>e=.returned (.pointer (some ⟨nb,o+6,none⟩))∧w'=w:=by go_enter Tryz.func119,Tryz.ntmps119;go_wp2;go_ret;exact⟨rfl,rfl⟩
theorem in7(nb o:Nat)(w:World):Calls Tryz.prog 120 #[.pointer (some ⟨nb,o,none⟩)] w fun e w'=>e=.returned (.pointer (some ⟨nb,o+7,none⟩))∧w'=w:=by go_enter Tryz.func120,Tryz.ntmps120;go_wp2;go_ret;exact⟨rfl,rfl⟩
theorem in8(nb o:Nat)(w:World):Calls Tryz.prog 121 #[.pointer (some ⟨nb,o,none⟩)] w fun e w'=>e=.returned (.pointer (some ⟨nb,o+8,none⟩))∧w'=w:=by go_enter Tryz.func121,Tryz.ntmps121;go_wp2;go_ret;exact⟨rfl,rfl⟩
theorem in9(nb o:Nat)(w:World):Calls Tryz.prog 122 #[.pointer (some ⟨nb,o,none⟩)] w fun e w'=>e=.returned (.pointer (some ⟨nb,o+9,none⟩))∧w'=w:=by go_enter Tryz.func122,Tryz.ntmps122;go_wp2;go_ret;exact⟨rfl,rfl⟩
theorem in10(nb o:Nat)(w:World):Calls Tryz.prog 123 #[.pointer (some ⟨nb,o,none⟩)] w fun e w'=>e=.returned (.pointer (some ⟨nb,o+10,none⟩))∧w'=w:=by go_enter Tryz.func123,Tryz.ntmps123;go_wp2;go_ret;exact⟨rfl,rfl⟩
theorem in11(nb o:Nat)(w:World):Calls Tryz.prog 124 #[.pointer (some ⟨nb,o,none⟩)] w fun e w'=>e=.returned (.pointer (some ⟨nb,o+11,none⟩))∧w'=w:=by go_enter Tryz.func124,Tryz.ntmps124;go_wp2;go_ret;exact⟨rfl,rfl⟩
theorem in12(nb o:Nat)(w:World):Calls Tryz.prog 125 #[.pointer (some ⟨nb,o,none⟩)] w fun e w'=>e=.returned (.pointer (some ⟨nb,o+12,none⟩))∧w'=w:=by go_enter Tryz.func125,Tryz.ntmps125;go_wp2;go_ret;exact⟨rfl,rfl⟩
end
section
open Go.RowKit
def attCells:Array Value:=#[
 .string ⟨#[105,100]⟩,.int .u64 127,.int .i64 999999,.int .i64 0,.bool true,.func (.func 114) #[] #[],
 .string ⟨#[109,105,110]⟩,.int .u64 127,.int .i64 100000,.int .i64 0,.bool false,.func (.func 115) #[] #[],
 .string ⟨#[109,97,120]⟩,.int .u64 127,.int .i64 100000,.int .i64 (-1),.bool false,.func (.func 116) #[] #[],
 .string ⟨#[119,101,105,103,104,116]⟩,.int .u64 127,.int .i64 100000,.int .i64 1,.bool false,.func (.func 117) #[] #[],
 .string ⟨#[103,97,112]⟩,.int .u64 3,.int .i64 100,.int .i64 0,.bool false,.func (.func 118) #[] #[],
 .string ⟨#[112,97,100]⟩,.int .u64 8,.int .i64 20,.int .i64 0,.bool false,.func (.func 119) #[] #[],
 .string ⟨#[98,111,114,100,101,114]⟩,.int .u64 8,.int .i64 1,.int .i64 1,.bool false,.func (.func 120) #[] #[],
 .string ⟨#[97,108,105,103,110]⟩,.int .u64 32,.int .i64 2,.int .i64 0,.bool false,.func (.func 121) #[] #[],
 .string ⟨#[119,114,97,112]⟩,.int .u64 32,.int .i64 1,.int .i64 1,.bool false,.func (.func 122) #[] #[],
 .string ⟨#[102,103]⟩,.int .u64 127,.int .i64 8,.int .i64 0,.bool false,.func (.func 123) #[] #[],
 .string ⟨#[98,103]⟩,.int .u64 127,.int .i64 8,.int .i64 0,.bool false,.func (.func 124) #[] #[],
 .string ⟨#[98,111,108,100]⟩,.int .u64 127,.int .i64 1,.int .i64 0,.bool false,.func (.func 125) #[] #[]]
theorem attributes_any(w:World):Calls Tryz.prog 72 #[] w fun e w'=>e=.returned (.slice (some ⟨w.heap.size,0,none⟩) 12 12)∧w'=w.alloc (.cells attCells 191):=by go_enter Tryz.func72,Tryz.ntmps72;go_wp2;go_ret;exact⟨rfl,rfl⟩
end
section
open Go.RowKit
def errV(eb:Addr):Value:=.iface 331 (.pointer (some eb))
def faultV(place:Int)(ev:Value):Value:=.iface 137 (.agg #[.int .i64 place,ev])
theorem noTree_any(place:Int)(w:World)(eb:Addr)(he:w.cell? ⟨7,0,none⟩=some (errV eb)):
 Calls Tryz.prog 75 #[.int .i64 place] w fun e w'=>e=.returned (faultV place (errV eb))∧w'=w:=by have he':w.cell? ⟨7,0,none⟩=some (.iface 331 (.pointer (some eb))):=he;clear he;go_enter Tryz.func75,Tryz.ntmps75;go_wp2;go_ret;exact⟨rfl,rfl⟩
theorem expect_yes(rb:Nat)(s:ByteArray)(i:Nat)(av nv fv:Value)(c:Nat)(w:World)(h:PR w rb s i av nv fv)(hs:s.size≤1099511627776)(hi:i≤s.size)(hc:c<256)(hat:isAt s i c=true):
 Calls Tryz.prog 134 #[.pointer (some ⟨rb,0,none⟩),.int .u8 (c:Int)] w fun e w'=>e=.returned (.tuple #[])∧PR w' rb s (gotI s i c) av nv fv∧w.grownBy w' (some rb):=by
 have CT:Hid (Calls Tryz.prog 131 #[.pointer (some ⟨rb,0,none⟩),.int .u8 (c:Int)] w fun e w'=>e=.returned (.bool true)∧PR w' rb s (gotI s i c) av nv fv∧w.grownBy w' (some rb)):=by have:=takes_any rb s i av nv fv c w h hs hi hc;rw[hat]at this;exact this
 clear h hat;go_enter Tryz.func134,Tryz.ntmps134;go_wp2_with fail;refine CT.out.mono ?_;rintro e w1 ⟨rfl,h1,g1⟩;have HR:=qH<|h1;have HG:=qH<|g1;clear h1 g1 CT;go_wp2;go_end0;exact⟨rfl,HR.out,HG.out⟩
theorem expect_no(rb:Nat)(s:ByteArray)(i:Nat)(av nv fv:Value)(eb:Addr)(c:Nat)(w:World)(h:PR w rb s i av nv fv)(hs:s.size≤1099511627776)(hi:i≤s.size)(hc:c<256)(hat:isAt s i c=false)(hg:7≠rb)(he:w.cell? ⟨7,0,none⟩=some (errV eb)):
 Calls Tryz.prog 134 #[.pointer (some ⟨rb,0,none⟩),.int .u8 (c:Int)] w fun e w'=>e=.panicked [{v:=faultV (sk s i:Int) (errV eb),recovered:=false}]∧w.grownBy w' (some rb):=by
 have CT:Hid (Calls Tryz.prog 131 #[.pointer (some ⟨rb,0,none⟩),.int .u8 (c:Int)] w fun e w'=>e=.returned (.bool false)∧PR w' rb s (sk s i) av nv fv∧w.grownBy w' (some rb)):=by
  have:=takes_any rb s i av nv fv c w h hs hi hc;have e2:gotI s i c=sk s i:=by unfold gotI;unfold isAt at hat;rw[if_neg (by simpa using hat)]
  rw[hat,e2]at this;exact this
 have HN:Hid (∀w,w.cell? ⟨7,0,none⟩=some (errV eb)->Calls Tryz.prog 75 #[.int .i64 (sk s i:Int)] w fun e w'=>e=.returned (.iface 137 (.agg #[.int .i64 (sk s i:Int),.iface 331 (.pointer (some eb))]))∧w'=w):=fun w he=>noTree_any _ w eb he;have HE:=qH<|he;obtain⟨j,hj⟩:∃j,sk s i=j:=⟨_,rfl⟩;rw[hj]at CT HN⊢;clear h hat he hj;go_enter Tryz.func134,Tryz.ntmps134;go_wp2_with fail;refine CT.out.mono ?_;rintro e w1 ⟨rfl,h1,g1⟩;have HG:=qH<|g1;have c1:=h1.c1;have HE1:=qH<|g1.cell HE.out (by simpa using hg);clear h1 g1 CT;go_wp2_with fail;refine(HN.out _ HE1.out).mono ?_;rintro e w2 ⟨rfl,hw⟩;obtain rfl:=hw.symm;go_wp2;exact⟨rfl,rfl,HG.out⟩
end
section
open Go.RowKit
def ofK(m k:Nat):Bool:=(m/2^k) %2==1
theorem isOf_any(n:ByteArray)(m k:Nat)(mo wi:Int)(sg:Bool)(fv:Value)(w:World)(hm:m=127∨m=3∨m=8∨m=32)(hk:k<7):
 Calls Tryz.prog 190 #[.agg #[.string n,.int .u64 (m:Int),.int .i64 mo,.int .i64 wi,.bool sg,fv],.int .i64 (k:Int)] w fun e w'=>e=.returned (.bool (ofK m k))∧Below w.heap.size w w':=by
 have hc:k=0∨k=1∨k=2∨k=3∨k=4∨k=5∨k=6:=by omega
 have hb:=fun o=>(Below.refl _ w).alloc (Nat.le_refl _) o;have HB:=qH<|hb;clear hk hb;rcases hm with rfl|rfl|rfl|rfl<;>rcases hc with rfl|rfl|rfl|rfl|rfl|rfl|rfl;all_goals go_enter Tryz.func190,Tryz.ntmps190;go_wp2;go_ret;exact⟨by rfl,HB.out _⟩
end
section
open Go.RowKit
theorem PR.setF{W:World}{rb:Nat}{s:ByteArray}{i:Nat}{av nv fv:Value}(h:PR W rb s i av nv fv)(fv':Value):PR (W.setCell ⟨rb,4,none⟩ fv') rb s i av nv fv':=
 ⟨by simpa using h.lt,rs_other (by omega) h.c0,rs_other (by omega) h.c1,rs_other (by omega) h.c2,rs_other (by omega) h.c3,rs_same h.c4,fun j=>by rw[World.frozen?_setCell];exact h.fz j⟩
theorem keep_nil(rb:Nat)(s:ByteArray)(i:Nat)(av nv fv:Value)(place:Int)(w:World)(h:PR w rb s i av nv fv):
 Calls Tryz.prog 128 #[.pointer (some ⟨rb,0,none⟩),.nilIface,.int .i64 place] w fun e w'=>e=.returned (.tuple #[])∧PR w' rb s i av nv fv∧w.grownBy w' (some rb):=by have HR:=qH<|h;clear h;go_enter Tryz.func128,Tryz.ntmps128;go_wp2;go_end0;exact⟨rfl,HR.out,gr_refl _ _⟩
theorem keep_first(rb:Nat)(s:ByteArray)(i:Nat)(av nv:Value)(eb:Addr)(place:Int)(w:World)(h:PR w rb s i av nv .nilIface):
 Calls Tryz.prog 128 #[.pointer (some ⟨rb,0,none⟩),errV eb,.int .i64 place] w fun e w'=>e=.returned (.tuple #[])∧PR w' rb s i av nv (faultV place (errV eb))∧w.grownBy w' (some rb):=by have HR:=qH<|h;have c4:=h.c4;have f4:=h.fz 4;have HN:Hid (PR (w.setCell ⟨rb,4,none⟩ (faultV place (errV eb))) rb s i av nv (faultV place (errV eb))):=h.setF _;clear h;show Calls Tryz.prog 128 #[.pointer (some ⟨rb,0,none⟩),.iface 331 (.pointer (some eb)),.int .i64 place] w _;go_enter Tryz.func128,Tryz.ntmps128;go_wp2;go_end0;exact⟨rfl,HN.out,gr_set _ _ _ _⟩
theorem keep_later(rb:Nat)(s:ByteArray)(i:Nat)(av nv:Value)(eb eb2:Addr)(place place2:Int)(w:World)(h:PR w rb s i av nv (faultV place2 (errV eb2))):
 Calls Tryz.prog 128 #[.pointer (some ⟨rb,0,none⟩),errV eb,.int .i64 place] w fun e w'=>e=.returned (.tuple #[])∧PR w' rb s i av nv (faultV place2 (errV eb2))∧w.grownBy w' (some rb):=by have HR:=qH<|h;have c4:w.cell? ⟨rb,4,none⟩=some (.iface 137 (.agg #[.int .i64 place2,.iface 331 (.pointer (some eb2))])):=h.c4;clear h;show Calls Tryz.prog 128 #[.pointer (some ⟨rb,0,none⟩),.iface 331 (.pointer (some eb)),.int .i64 place] w _;go_enter Tryz.func128,Tryz.ntmps128;go_wp2;go_end0;exact⟨rfl,HR.out,gr_refl _ _⟩
def roomV(n depth:Nat)(m d:Addr):Value:=if 100≤n then errV m else if 12≤depth then errV d else .nilIface
theorem roomFor_any(rb:Nat)(s:ByteArray)(i:Nat)(av fv:Value)(p:Option Addr)(n cp depth:Nat)(m d:Addr)(w:World)(h:PR w rb s i av (.slice p n cp) fv)
 (hm:w.cell? ⟨1,0,none⟩=some (errV m)) (hd:w.cell? ⟨2,0,none⟩=some (errV d)):
 Calls Tryz.prog 129 #[.pointer (some ⟨rb,0,none⟩),.int .i64 (depth:Int)] w fun e w'=>e=.returned (roomV n depth m d)∧w'=w:=by
 have c3:=h.c3;have em:w.cell? ⟨1,0,none⟩=some (.iface 331 (.pointer (some m))):=hm;have ed:w.cell? ⟨2,0,none⟩=some (.iface 331 (.pointer (some d))):=hd;clear h hm hd;by_cases h1:100≤n
 ·have h1':(100:Int)≤(n:Int):=by omega
  have e1:=decide_eq_true h1';have HV:Hid (roomV n depth m d=.iface 331 (.pointer (some m))):=by show _=_;unfold roomV;rw[if_pos h1];rfl
  go_enter Tryz.func129,Tryz.ntmps129;go_wp2;go_ret;exact⟨by rw[HV.out];rfl,rfl⟩
 ·have h1':¬(100:Int)≤(n:Int):=by omega
  have e1:=decide_eq_false h1';by_cases h2:12≤depth
  ·have h2':(12:Int)≤(depth:Int):=by omega
   have e2:=decide_eq_true h2';have HV:Hid (roomV n depth m d=.iface 331 (.pointer (some d))):=by show _=_;unfold roomV;rw[if_neg h1,if_pos h2];rfl
   go_enter Tryz.func129,Tryz.ntmps129;go_wp2;go_ret;exact⟨by rw[HV.out];rfl,rfl⟩
  ·have h2':¬(12:Int)≤(depth:Int):=by omega
   have e2:=decide_eq_false h2';have HV:Hid (roomV n depth m d=.nilIface):=by show _=_;unfold roomV;rw[if_neg h1,if_neg h2]
   go_enter Tryz.func129,Tryz.ntmps129;go_wp2;go_ret;exact⟨by rw[HV.out];rfl,rfl⟩
end
section
def vis(kids:Nat->List Nat):Nat->Nat->List Nat
 |0,_=>[]
 |f+1,k=>k::(kids k).flatMap (vis kids f)
def upN(up:Nat->Int):Nat->Int->Int
 |0,x=>x
 |t+1,x=>up (upN up t x).toNat
structure Nest(n:Nat)(kids:Nat->List Nat)(up:Nat->Int):Prop where
 kid:∀i c,i<n->c∈kids i->i<c∧c<n∧up c=(i:Int)
 nd:∀i,i<n->(kids i).Nodup
 upl:∀i,i<n->up i<(i:Int)
 lo:∀i,i<n->-1≤up i
section
variable{n:Nat} {kids:Nat->List Nat} {up:Nat->Int}
theorem upN_add(s:Nat)(x:Int):∀t,upN up (s+t) x=upN up t (upN up s x)
 |0=>rfl
 |t+1=>by show up (upN up (s+t) x).toNat=up (upN up t (upN up s x)).toNat;rw[upN_add s x t]
theorem upN_le(h:Nest n kids up)(hn:0<n):∀(t:Nat) (x:Int),-1≤x->x<n->-1≤upN up t x∧upN up t x≤x
 |0,x,h1,h2=>⟨h1,Int.le_refl _⟩
 |t+1,x,h1,h2=>by
  obtain⟨k1,k2⟩:=upN_le h hn t x h1 h2;show-1≤up (upN up t x).toNat∧up (upN up t x).toNat≤x;have hl:(upN up t x).toNat<n:=by omega
  have a1:=h.lo _ hl;have a2:=h.upl _ hl;refine⟨a1,?_⟩;omega
theorem vis_in(h:Nest n kids up):∀(f k:Nat),k<n->∀j,j∈vis kids f k->k≤j∧j<n∧∃t,upN up t (j:Int)=(k:Int)
 |0,k,hk,j,hj=>by cases hj
 |f+1,k,hk,j,hj=>by
  rcases List.mem_cons.1 hj with e|hj;·subst e;exact⟨Nat.le_refl _,hk,0,rfl⟩
  ·obtain⟨c,hc,hj⟩:=List.mem_flatMap.1 hj;obtain⟨c1,c2,c3⟩:=h.kid k c hk hc;obtain⟨d1,d2,t,ht⟩:=vis_in h f c c2 j hj;refine⟨by omega,d2,t+1,?_⟩;show up (upN up t (j:Int)).toNat=(k:Int);rw[ht];exact c3
theorem vis_apart(h:Nest n kids up){f k c d:Nat}(hk:k<n)(hc:c∈kids k)(hd:d∈kids k)(hcd:c≠d){j:Nat}(h1:j∈vis kids f c)(h2:j∈vis kids f d):False:=by
 obtain⟨c1,c2,c3⟩:=h.kid k c hk hc;obtain⟨d1,d2,d3⟩:=h.kid k d hk hd;obtain⟨_,_,s,hs⟩:=vis_in h f c c2 j h1;obtain⟨_,_,t,ht⟩:=vis_in h f d d2 j h2;have hn:0<n:=by omega
 have key:∀(c d:Nat) (s t:Nat),c≠d->up c=(k:Int)->k<d->c<n->upN up s (j:Int)=(c:Int)->upN up t (j:Int)=(d:Int)->s≤t->False:=fun c d s t hcd hup hkd hcn hs ht hst=>by
  obtain⟨r,rfl⟩:∃r,t=s+r:=⟨t-s,by omega⟩;rw[upN_add,hs]at ht;cases r with
  |zero=>exact hcd (Int.ofNat.inj ht)
  |succ r=>
   rw[Nat.add_comm r 1,upN_add]at ht;have e:upN up 1 (c:Int)=(k:Int):=by show up ((c:Int)).toNat=_;exact hup
   rw[e]at ht;have:=(upN_le h hn r (k:Int) (by omega) (by omega)).2;omega
 rcases Nat.le_total s t with g|g;·exact key c d s t hcd c3 d1 c2 hs ht g
 ·exact key d c t s (fun e=>hcd e.symm) d3 c1 d2 ht hs g
theorem vis_nodup(h:Nest n kids up):∀(f k:Nat),k<n->(vis kids f k).Nodup
 |0,k,hk=>List.nodup_nil
 |f+1,k,hk=>by
  show(k::(kids k).flatMap (vis kids f)).Nodup;refine List.nodup_cons.2 ⟨fun q=>?_,?_⟩;·obtain⟨c,hc,hj⟩:=List.mem_flatMap.1 q;obtain⟨c1,c2,c3⟩:=h.kid k c hk hc;have:=(vis_in h f c c2 k hj).1;omega
  ·have key:∀ks:List Nat,(∀c∈ks,c∈kids k)->ks.Nodup->(ks.flatMap (vis kids f)).Nodup:=by
    intro ks;induction ks with
    |nil=>intro _ _;exact List.nodup_nil
    |cons c ks ih=>intro h1 h2;rw[List.flatMap_cons];obtain⟨m1,m2⟩:=List.nodup_cons.1 h2;have hc:=h1 c (List.mem_cons_self ..);obtain⟨c1,c2,c3⟩:=h.kid k c hk hc;refine List.nodup_append.2 ⟨vis_nodup h f c c2,ih (fun x hx=>h1 x (List.mem_cons_of_mem _ hx)) m2,fun a ha b hb e=>?_⟩;subst e;obtain⟨d,hd,hj⟩:=List.mem_flatMap.1 hb;exact vis_apart h hk hc (h1 d (List.mem_cons_of_mem _ hd)) (fun e=>m1 (e▸hd)) ha hj
   exact key (kids k) (fun _ hc=>hc) (h.nd k hk)
theorem nodup_len:∀(n:Nat) (l:List Nat),l.Nodup->(∀x∈l,x<n)->l.length≤n
 |0,l,_,h=>by
  cases l with
  |nil=>exact Nat.le_refl _
  |cons a l=>exact absurd (h a (List.mem_cons_self ..)) (by omega)
 |n+1,l,hd,h=>by
  by_cases hm:n∈l;·have h1:=List.length_erase_of_mem hm;have h2:=nodup_len n (l.erase n) (hd.erase n) (fun x hx=>by
    have hx1:=List.mem_of_mem_erase hx;have hx2:x≠n:=fun e=>by rw[e]at hx;exact(List.Nodup.not_mem_erase hd) hx
    have:=h x hx1;omega);have:0<l.length:=List.length_pos_of_mem hm;omega
  ·have:=nodup_len n l hd (fun x hx=>by have h1:=h x hx;have h2:x≠n:=fun e=>hm (e▸hx);omega);omega
theorem vis_len(h:Nest n kids up)(f k:Nat)(hk:k<n):(vis kids f k).length≤n:=nodup_len n _ (vis_nodup h f k hk) fun x hx=>(vis_in h f k hk x hx).2.1
end
theorem rise_lt:∀ks:List Nat,(∀k c d,ks[k]?=some c->ks[k+1]?=some d->c<d)->ks.Pairwise (·<·)
 |[],_=>.nil
 |[x],_=>by simp
 |x::y::r,h=>by
  have ih:=rise_lt (y::r) (fun k c d h1 h2=>h (k+1) c d h1 h2);have hxy:=h 0 x y rfl rfl;refine List.Pairwise.cons (fun z hz=>?_) ih;rcases List.mem_cons.1 hz with e|hz;·subst e;exact hxy
  ·have:=List.rel_of_pairwise_cons ih hz;omega
theorem rise_nodup{ks:List Nat}(h:∀k c d,ks[k]?=some c->ks[k+1]?=some d->c<d):ks.Nodup:=
 (rise_lt ks h).imp (fun h e=>by omega)
end
section
open Go.RowKit
def kindV(i:Int):Value:=if i<0 then .tuple #[.int .i64 0,.bool false]else .tuple #[.int .i64 i,.bool true]
theorem kindOf_at(t:ByteArray)(w:World)(n0 n1 n2 n3 n4 n5 n6:ByteArray)
 (h0:w.cell? ⟨8,0,none⟩=some (.string n0))
 (h1:w.cell? ⟨8,1,none⟩=some (.string n1))
 (h2:w.cell? ⟨8,2,none⟩=some (.string n2))
 (h3:w.cell? ⟨8,3,none⟩=some (.string n3))
 (h4:w.cell? ⟨8,4,none⟩=some (.string n4))
 (h5:w.cell? ⟨8,5,none⟩=some (.string n5))
 (h6:w.cell? ⟨8,6,none⟩=some (.string n6)):
 Calls Tryz.prog 127 #[.string t] w fun e w'=>e=.returned (kindV (findF [n0,n1,n2,n3,n4,n5,n6] t 0))∧w'=w:=by
 have i0:∀w,(Instr.index 229 (.agg #[.string n0,.string n1,.string n2,.string n3,.string n4,.string n5,.string n6]) (.int .i64 0)).run Tryz.prog w=.ok (.string n0) w:=fun _=>by kernel_rfl
 have i1:∀w,(Instr.index 229 (.agg #[.string n0,.string n1,.string n2,.string n3,.string n4,.string n5,.string n6]) (.int .i64 1)).run Tryz.prog w=.ok (.string n1) w:=fun _=>by kernel_rfl
 have i2:∀w,(Instr.index 229 (.agg #[.string n0,.string n1,.string n2,.string n3,.string n4,.string n5,.string n6]) (.int .i64 2)).run Tryz.prog w=.ok (.string n2) w:=fun _=>by kernel_rfl
 have i3:∀w,(Instr.index 229 (.agg #[.string n0,.string n1,.string n2,.string n3,.string n4,.string n5,.string n6]) (.int .i64 3)).run Tryz.prog w=.ok (.string n3) w:=fun _=>by kernel_rfl
 have i4:∀w,(Instr.index 229 (.agg #[.string n0,.string n1,.string n2,.string n3,.string n4,.string n5,.string n6]) (.int .i64 4)).run Tryz.prog w=.ok (.string n4) w:=fun _=>by kernel_rfl
 have i5:∀w,(Instr.index 229 (.agg #[.string n0,.string n1,.string n2,.string n3,.string n4,.string n5,.string n6]) (.int .i64 5)).run Tryz.prog w=.ok (.string n5) w:=fun _=>by kernel_rfl
 have i6:∀w,(Instr.index 229 (.agg #[.string n0,.string n1,.string n2,.string n3,.string n4,.string n5,.string n6]) (.int .i64 6)).run Tryz.prog w=.ok (.string n6) w:=fun _=>by kernel_rfl
 go_enter Tryz.func127,Tryz.ntmps127;go_wp2;clear h0 h1 h2 h3 h4 h5 h6;go_loop[7] (fun i=>∃k:Nat,k≤7∧i=.int .i64 k∧Hid (findF [n0,n1,n2,n3,n4,n5,n6] t 0=findF ([n0,n1,n2,n3,n4,n5,n6].drop k) t k)) (fun i=>7-(intOf i).toNat);case atStart=>exact⟨0,Nat.zero_le _,rfl,by show _=_;rw[List.drop_zero]⟩
 case round=>
  obtain⟨k,hk,rfl,HF⟩:=hrel;have hc:k=0∨k=1∨k=2∨k=3∨k=4∨k=5∨k=6∨k=7:=by omega
  rcases hc with rfl|rfl|rfl|rfl|rfl|rfl|rfl|rfl
  ·by_cases e:n0=t
   ·have HE:Hid (kindV (findF [n0,n1,n2,n3,n4,n5,n6] t 0)=.tuple #[.int .i64 0,.bool true]):=by show _=_;rw[HF.out];simp[findF,e,kindV]
    subst e;clear HF;go_wp2;go_ret2;exact⟨by rw[HE.out];rfl,rfl⟩
   ·have HE:Hid (findF [n0,n1,n2,n3,n4,n5,n6] t 0=findF ([n0,n1,n2,n3,n4,n5,n6].drop 1) t 1):=by show _=_;rw[HF.out];simp[findF,e]
    have e1:=str_ne e;clear HF;go_wp2;go_round;case rel=>exact⟨1,by omega,by go_num,HE.out⟩
    case measure=>simp[intOf]
  ·by_cases e:n1=t
   ·have HE:Hid (kindV (findF [n0,n1,n2,n3,n4,n5,n6] t 0)=.tuple #[.int .i64 1,.bool true]):=by show _=_;rw[HF.out];simp[findF,e,kindV]
    subst e;clear HF;go_wp2;go_ret2;exact⟨by rw[HE.out];rfl,rfl⟩
   ·have HE:Hid (findF [n0,n1,n2,n3,n4,n5,n6] t 0=findF ([n0,n1,n2,n3,n4,n5,n6].drop 2) t 2):=by show _=_;rw[HF.out];simp[findF,e]
    have e1:=str_ne e;clear HF;go_wp2;go_round;case rel=>exact⟨2,by omega,by go_num,HE.out⟩
    case measure=>simp[intOf]
  ·by_cases e:n2=t
   ·have HE:Hid (kindV (findF [n0,n1,n2,n3,n4,n5,n6] t 0)=.tuple #[.int .i64 2,.bool true]):=by show _=_;rw[HF.out];simp[findF,e,kindV]
    subst e;clear HF;go_wp2;go_ret2;exact⟨by rw[HE.out];rfl,rfl⟩
   ·have HE:Hid (findF [n0,n1,n2,n3,n4,n5,n6] t 0=findF ([n0,n1,n2,n3,n4,n5,n6].drop 3) t 3):=by show _=_;rw[HF.out];simp[findF,e]
    have e1:=str_ne e;clear HF;go_wp2;go_round;case rel=>exact⟨3,by omega,by go_num,HE.out⟩
    case measure=>simp[intOf]
  ·by_cases e:n3=t
   ·have HE:Hid (kindV (findF [n0,n1,n2,n3,n4,n5,n6] t 0)=.tuple #[.int .i64 3,.bool true]):=by show _=_;rw[HF.out];simp[findF,e,kindV]
    subst e;clear HF;go_wp2;go_ret2;exact⟨by rw[HE.out];rfl,rfl⟩
   ·have HE:Hid (findF [n0,n1,n2,n3,n4,n5,n6] t 0=findF ([n0,n1,n2,n3,n4,n5,n6].drop 4) t 4):=by show _=_;rw[HF.out];simp[findF,e]
    have e1:=str_ne e;clear HF;go_wp2;go_round;case rel=>exact⟨4,by omega,by go_num,HE.out⟩
    case measure=>simp[intOf]
  ·by_cases e:n4=t
   ·have HE:Hid (kindV (findF [n0,n1,n2,n3,n4,n5,n6] t 0)=.tuple #[.int .i64 4,.bool true]):=by show _=_;rw[HF.out];simp[findF,e,kindV]
    subst e;clear HF;go_wp2;go_ret2;exact⟨by rw[HE.out];rfl,rfl⟩
   ·have HE:Hid (findF [n0,n1,n2,n3,n4,n5,n6] t 0=findF ([n0,n1,n2,n3,n4,n5,n6].drop 5) t 5):=by show _=_;rw[HF.out];simp[findF,e]
    have e1:=str_ne e;clear HF;go_wp2;go_round;case rel=>exact⟨5,by omega,by go_num,HE.out⟩
    case measure=>simp[intOf]
  ·by_cases e:n5=t
   ·have HE:Hid (kindV (findF [n0,n1,n2,n3,n4,n5,n6] t 0)=.tuple #[.int .i64 5,.bool true]):=by show _=_;rw[HF.out];simp[findF,e,kindV]
    subst e;clear HF;go_wp2;go_ret2;exact⟨by rw[HE.out];rfl,rfl⟩
   ·have HE:Hid (findF [n0,n1,n2,n3,n4,n5,n6] t 0=findF ([n0,n1,n2,n3,n4,n5,n6].drop 6) t 6):=by show _=_;rw[HF.out];simp[findF,e]
    have e1:=str_ne e;clear HF;go_wp2;go_round;case rel=>exact⟨6,by omega,by go_num,HE.out⟩
    case measure=>simp[intOf]
  ·by_cases e:n6=t
   ·have HE:Hid (kindV (findF [n0,n1,n2,n3,n4,n5,n6] t 0)=.tuple #[.int .i64 6,.bool true]):=by show _=_;rw[HF.out];simp[findF,e,kindV]
    subst e;clear HF;go_wp2;go_ret2;exact⟨by rw[HE.out];rfl,rfl⟩
   ·have HE:Hid (findF [n0,n1,n2,n3,n4,n5,n6] t 0=findF ([n0,n1,n2,n3,n4,n5,n6].drop 7) t 7):=by show _=_;rw[HF.out];simp[findF,e]
    have e1:=str_ne e;clear HF;go_wp2;go_round;case rel=>exact⟨7,by omega,by go_num,HE.out⟩
    case measure=>simp[intOf]
  ·have HE:Hid (kindV (findF [n0,n1,n2,n3,n4,n5,n6] t 0)=.tuple #[.int .i64 0,.bool false]):=by show _=_;rw[HF.out];simp[findF,kindV]
   clear HF;go_wp2;go_ret2;exact⟨by rw[HE.out];rfl,rfl⟩
end
end Go.Proofs.YtnponhbgicbkcaaGreatDoor
