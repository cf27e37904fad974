import Derived.Test.YtnponhbgicbkcaaGreatDoorC08
set_option linter.unusedVariables false
set_option maxRecDepth 100000
set_option maxHeartbeats 16000000
namespace Go.Proofs.YtnponhbgicbkcaaGreatDoor
section
open Go.RowKit
def nd0:Nd:=⟨0,[],[],[],0⟩
def nth(L:List Nd)(j:Nat):Nd:=L[j]?.getD nd0
theorem z0o{L:List Nd}{d:Nd}{j:Nat}(h:j<L.length):nth (L++[d]) j=nth L j:=by
 unfold nth;rw[List.getElem?_append_left h]
theorem z0r(L:List Nd)(d:Nd):nth (L++[d]) L.length=d:=by
 unfold nth;rw[List.getElem?_append_right (Nat.le_refl _)];simp
theorem z0d{L:List Nd}{k:Nat}(f:Nd->Nd)(h:k<L.length):nth (L.modify k f) k=f (nth L k):=by
 unfold nth;rw[List.getElem?_modify];simp[h]
theorem z0a{L:List Nd}{k j:Nat}(f:Nd->Nd)(h:j≠k):nth (L.modify k f) j=nth L j:=by
 unfold nth;rw[List.getElem?_modify]
 have h':¬k=j:=fun e=>h e.symm
 simp[h']
theorem NR.congr{W:World}{B z n:Nat}{T:TypeId}{nv:Value}{C C':Nat->List Value}{KV KV':Nat->Value}{K K':Nat->List Nat}(h:NR W B T z nv n C KV K)
 (h1:∀j,j<n->C' j=C j) (h2:∀j,j<n->KV' j=KV j) (h3:∀j,j<n->K' j=K j):NR W B T z nv n C' KV' K' :=
 ⟨h.row,fun g hg j hj t u ht=>h.cells g hg j hj t u (by rw[<-h1 j hj];exact ht),fun j hj=>by rw[h1 j hj];exact h.len j hj,fun j hj=>by rw[h2 j hj,h3 j hj];exact h.kids j hj,
  fun i j hi hj hij b hb=>by rw[h2 j hj];rw[h2 i hi] at hb;exact h.sep i j hi hj hij b hb⟩
structure Fr(B r:Nat)(W W':World):Prop where
 os:W'.os=W.os
 tape:W'.tape=W.tape
 output:W'.output=W.output
 size:W.heap.size≤W'.heap.size
 block:∀b,b<B->b≠r->W'.heap[b]?=W.heap[b]?
theorem Fr.refl(B r:Nat)(W:World):Fr B r W W:=⟨rfl,rfl,rfl,Nat.le_refl _,fun _ _ _=>rfl⟩
theorem Fr.trans{B r:Nat}{W W1 W2:World}(h:Fr B r W W1)(k:Fr B r W1 W2):Fr B r W W2 :=
 ⟨k.os.trans h.os,k.tape.trans h.tape,k.output.trans h.output,Nat.le_trans h.size k.size,fun b h1 h2=>(k.block b h1 h2).trans (h.block b h1 h2)⟩
theorem Fr.grown{B r:Nat}{W W':World}(h:W.grownBy W' (some r))(hB:B≤W.heap.size):Fr B r W W' :=
 ⟨h.os,h.tape,h.output,h.size,fun b h1 h2=>h.block b (by omega) (by simpa using h2)⟩
theorem Fr.own{B r:Nat}{W W':World}{o:Option Nat}(h:W.grownBy W' o)(hB:B≤W.heap.size)(ho:∀g,o=some g->B≤g):Fr B r W W' :=
 ⟨h.os,h.tape,h.output,h.size,fun b h1 h2=>h.block b (by omega) (fun e=>by have:=ho b e.symm;omega)⟩
theorem Fr.below{B B' r:Nat}{W W':World}(h:Below B' W W')(hB:B≤B'):Fr B r W W' :=
 ⟨h.os,h.tape,h.output,h.size,fun b h1 h2=>h.block b (by omega)⟩
theorem Fr.drewN(B r:Nat)(W:World)(q:Nat):Fr B r W (W.drewN q):=⟨rfl,rfl,rfl,Nat.le_refl _,fun _ _ _=>rfl⟩
theorem Fr.cell{B r:Nat}{W W':World}(h:Fr B r W W'){a:Addr}{v:Value}(hc:W.cell? a=some v)(h1:a.block<B)(h2:a.block≠r):W'.cell? a=some v :=
 (World.cell?_of_block (h.block a.block h1 h2)).trans hc
theorem Fr.frozen{B r:Nat}{W W':World}(h:Fr B r W W'){a:Addr}(h1:a.block<B)(h2:a.block≠r):W'.frozen? a=W.frozen? a :=
 World.frozen?_of_block (h.block a.block h1 h2)
def z0k(d:Nd)(kv:Value):List Value:=.int .i64 (d.kind:Int)::((d.attr.map fun (x:Int)=>Value.int .i64 x)++[.string ⟨d.text.toArray⟩,kv,.int .i64 d.up])
theorem zsv(d:Nd)(kv:Value):(z0k d kv)[0]?=some (.int .i64 (d.kind:Int)):=rfl
theorem zml{d:Nd}{kv:Value}{t:Nat}(h:t<d.attr.length):(z0k d kv)[t+1]?=some (.int .i64 (d.attr[t]?.getD 0)):=by
 unfold z0k
 rw[List.getElem?_cons_succ,List.getElem?_append_left (by simpa using h)]
 simp[h]
theorem zmm{d:Nd}{kv:Value}(h:d.attr.length=12):(z0k d kv)[13]?=some (.string ⟨d.text.toArray⟩):=by
 unfold z0k
 rw[List.getElem?_cons_succ,List.getElem?_append_right (by simp[h])];simp[h]
theorem zsu{d:Nd}{kv:Value}(h:d.attr.length=12):(z0k d kv)[14]?=some kv:=by
 unfold z0k
 rw[List.getElem?_cons_succ,List.getElem?_append_right (by simp[h])];simp[h]
theorem zus{d:Nd}{kv:Value}(h:d.attr.length=12):(z0k d kv).length=16:=by unfold z0k;simp[h]
theorem zfi{d:Nd}{kv:Value}{t:Nat}(h:t<d.attr.length)(x:Int):(z0k d kv).set (t+1) (.int .i64 x)=z0k { d with attr:=d.attr.set t x } kv:=by
 unfold z0k
 rw[List.set_cons_succ,List.set_append_left _ _ (by simpa using h),List.map_set]
theorem zfk{d:Nd}{kv:Value}(h:d.attr.length=12)(x:List UInt8):(z0k d kv).set 13 (.string ⟨x.toArray⟩)=z0k { d with text:=x } kv:=by
 unfold z0k
 rw[List.set_cons_succ,List.set_append_right _ _ (by simp[h])];simp[h]
theorem zfj{d:Nd}{kv kv':Value}(h:d.attr.length=12)(ks:List Nat):(z0k d kv).set 14 kv'=z0k { d with kids:=ks } kv':=by
 unfold z0k
 rw[List.set_cons_succ,List.set_append_right _ _ (by simp[h])];simp[h]
structure PN(W:World)(B:Nat)(nv:Value)(L:List Nd)(KV:Nat->Value):Prop where
 nr:NR W B 101 16 nv L.length (fun j=>z0k (nth L j) (KV j)) KV (fun j=>(nth L j).kids)
 len:∀j,j<L.length->(nth L j).attr.length=12
section
variable {W W' : World} {B : Nat} {nv : Value} {L : List Nd} {KV : Nat -> Value}
theorem PN.up(h:PN W B nv L KV)(hu:Up B W W'):PN W' B nv L KV:=⟨h.nr.up hu,h.len⟩
theorem PN.app{nv':Value}{xs:List Value}{d:Nd}(h:PN W B nv L KV)(hx:W.ownsRow B 101 16 nv L.length xs)(hx':W'.ownsRow B 101 16 nv' (L.length+1) (xs++z0k d (.slice none 0 0)))(hg:W.grownBy W' nv.ownBlock)(hl:d.attr.length=12)(hk:d.kids=[]) :
 PN W' B nv' (L++[d]) (fun j=>if j=L.length then .slice none 0 0 else KV j):=by
 refine⟨?_,fun j hj=>?_⟩
 ·have hl2:(L++[d]).length=L.length+1:=by simp
  rw[hl2]
  refine (h.nr.app (by decide) hx hx' hg (zus hl)).congr (fun j hj=>?_) (fun j hj=>rfl) (fun j hj=>?_)
  ·by_cases e:j=L.length
   ·subst e;simp only[if_true];rw[z0r]
   ·rw[if_neg e,if_neg e,z0o (by omega)]
  ·by_cases e:j=L.length
   ·subst e;rw[if_pos rfl,z0r,hk]
   ·rw[if_neg e,z0o (by omega)]
 ·by_cases e:j=L.length
  ·subst e;rw[z0r];exact hl
  ·rw[z0o (by simp at hj;omega)];exact h.len j (by simp at hj;omega)
theorem PN.mod{g cap k t:Nat}{u:Value}(h:PN W B (.slice (some ⟨g,0,none⟩) L.length cap) L KV)(hk:k<L.length)(ht:t<16)(f:Nd->Nd)(hf:(z0k (nth L k) (KV k)).set t u=z0k (f (nth L k)) (KV k))(hfk:(f (nth L k)).kids=(nth L k).kids)(hfl:(f (nth L k)).attr.length=12) :
 PN (W.setCell ⟨g,k*16+t,none⟩ u) B (.slice (some ⟨g,0,none⟩) L.length cap) (L.modify k f) KV:=by
 refine⟨?_,fun j hj=>?_⟩
 ·have hl2:(L.modify k f).length=L.length:=by simp
  rw[hl2]
  refine (h.nr.set (by decide) hk ht u).congr (fun j hj=>?_) (fun j hj=>rfl) (fun j hj=>?_)
  ·by_cases e:j=k
   ·subst e;rw[if_pos rfl,z0d f hk];exact hf.symm
   ·rw[if_neg e,z0a f e]
  ·by_cases e:j=k
   ·subst e;rw[z0d f hk];exact hfk
   ·rw[z0a f e]
 ·by_cases e:j=k
  ·subst e;rw[z0d f hk];exact hfl
  ·rw[z0a f e];exact h.len j (by simpa using hj)
theorem PN.setAttr{g cap k t:Nat}(h:PN W B (.slice (some ⟨g,0,none⟩) L.length cap) L KV)(hk:k<L.length)(ht:t<12)(x:Int) :
 PN (W.setCell ⟨g,k*16+(t+1),none⟩ (.int .i64 x)) B (.slice (some ⟨g,0,none⟩) L.length cap) (L.modify k fun d=>{ d with attr:=d.attr.set t x }) KV :=
 h.mod hk (by omega) _ (zfi (by rw[h.len k hk];exact ht) x) rfl (by simp[h.len k hk])
theorem PN.setText{g cap k:Nat}(h:PN W B (.slice (some ⟨g,0,none⟩) L.length cap) L KV)(hk:k<L.length)(x:List UInt8) :
 PN (W.setCell ⟨g,k*16+13,none⟩ (.string ⟨x.toArray⟩)) B (.slice (some ⟨g,0,none⟩) L.length cap) (z03 L k x) KV :=
 h.mod hk (by omega) _ (zfk (h.len k hk) x) rfl (h.len k hk)
theorem PN.kid{g cap:Nat}{kv':Value}{k c:Nat}(h:PN W B (.slice (some ⟨g,0,none⟩) L.length cap) L KV)(hk:k<L.length)
 (hr:W'.ownsRow B 3 1 kv' ((nth L k).kids.length+1) (z6o ((nth L k).kids++[c]))) (hg:W.grownBy W' (KV k).ownBlock) (hat:kv'.ownBlock=(KV k).ownBlock∨kv'.ownBlock=some W.heap.size) :
 PN (W'.setCell ⟨g,k*16+14,none⟩ kv') B (.slice (some ⟨g,0,none⟩) L.length cap) (L.modify k fun u=>{ u with kids:=u.kids++[c] }) (fun j=>if j=k then kv' else KV j):=by
 refine⟨?_,fun j hj=>?_⟩
 ·have hl2:(L.modify k fun u=>{ u with kids:=u.kids++[c] }).length=L.length:=by simp
  rw[hl2]
  refine (h.nr.kid (t:=14) (by decide) hk (by omega) hr hg hat).congr (fun j hj=>?_) (fun j hj=>rfl) (fun j hj=>?_)
  ·by_cases e:j=k
   ·subst e;simp only[if_true];rw[z0d _ hk];exact (zfj (h.len j hk) _).symm
   ·rw[if_neg e,if_neg e,z0a _ e]
  ·by_cases e:j=k
   ·subst e;rw[if_pos rfl,z0d _ hk]
   ·rw[if_neg e,z0a _ e]
 ·by_cases e:j=k
  ·subst e;rw[z0d _ hk];exact h.len j hk
  ·rw[z0a _ e];exact h.len j (by simpa using hj)
end
theorem z5f(L:List Nd)(d:Nd)(k:Nat)(hd:d.up=(k:Int))(hk:k<L.length):grown L d=(L++[d]).modify k fun u=>{ u with kids:=u.kids++[L.length] }:=by
 unfold grown
 rw[if_neg (by omega),hd]
 simp only[Int.toNat_natCast]
 apply List.ext_getElem?
 intro j
 by_cases h1:j<L.length
 ·rw[List.getElem?_append_left (by simpa using h1),List.getElem?_modify,List.getElem?_modify,List.getElem?_append_left h1]
 ·rw[List.getElem?_append_right (by simp;omega),List.getElem?_modify,List.getElem?_append_right (by omega)]
  have h':¬k=j:=by omega
  simp[h']
end
section
open Go.RowKit
def z2k(d:Nd)(av kv:Value):List Value:=[.int .i64 (d.kind:Int),av,.string ⟨d.text.toArray⟩,kv,.int .i64 d.up]
def zdt:List Nd->List Value->List Value->List Value
 | d::L,a::A,k::K=>z2k d a k++zdt L A K
 | _,_,_=>[]
def Attr(W:World)(B:Nat)(v:Value)(a:List Int):Prop:=∃ab,v=.slice (some ⟨ab,0,none⟩) 12 12∧B≤ab∧ab<W.heap.size∧a.length=12∧∀j,j<12->W.cell? ⟨ab,j,none⟩=some (.int .i64 (a[j]?.getD 0))∧W.frozen? ⟨ab,j,none⟩=false
def zej:Value->Option Nat
 | .slice (some a) _ _=>some a.block
 | _=>none
structure NA(W:World)(B:Nat)(lv:Value)(L:List Nd)(AV KV:List Value):Prop where
 row:W.ownsRow B 77 5 lv L.length (zdt L AV KV)
 lenA:AV.length=L.length
 lenK:KV.length=L.length
 attr:∀ (j:Nat) d v,L[j]?=some d->AV[j]?=some v->Attr W B v d.attr
 kids:∀ (j:Nat) d v,L[j]?=some d->KV[j]?=some v->W.ownsRow B 3 1 v d.kids.length (d.kids.map fun (k:Nat)=>.int .i64 (k:Int))
 sepKK:∀ (i j:Nat) (u v:Value),i≠j->KV[i]?=some u->KV[j]?=some v->∀b,u.ownBlock=some b->v.ownBlock≠some b
 sepKL:∀ (j:Nat) (v:Value),KV[j]?=some v->∀b,v.ownBlock=some b->lv.ownBlock≠some b
 sepAL:∀ (j:Nat) (v:Value),AV[j]?=some v->∀b,zej v=some b->lv.ownBlock≠some b
 sepAK:∀ (i j:Nat) (u v:Value),AV[i]?=some u->KV[j]?=some v->∀b,zej u=some b->v.ownBlock≠some b
theorem zdx{W W':World}{B r n size:Nat}{e:TypeId}{v:Value}{xs:List Value}(h:W.ownsRow B e size v n xs)(hg:W.grownBy W' (some r))(hn:∀b,v.ownBlock=some b->b≠r):W'.ownsRow B e size v n xs:=by
 refine⟨h.1,?_⟩
 rcases h.2 with h2|⟨g,cap,cur,a,b,c,d⟩
 ·exact .inl h2
 ·have hgr:g≠r:=hn g (by rw[a];rfl)
  refine .inr ⟨g,cap,cur,a,b,?_,d⟩
  rw[hg.block g (Array.getElem?_eq_some_iff.1 c).1 (fun e=>hgr (by injection e))];exact c
theorem zr1{W:World}{B n size:Nat}{e:TypeId}{v:Value}{xs:List Value}(h:W.ownsRow B e size v n xs){b:Nat}(hb:v.ownBlock=some b):B≤b∧b<W.heap.size:=h.lt b hb
theorem zs0{A B:World}{r b o:Nat}(hb:A.grownBy B (some r))(hl:b<A.heap.size)(hn:b≠r):B.frozen? ⟨b,o,none⟩=A.frozen? ⟨b,o,none⟩:=by
 unfold World.frozen?
 rw[hb.block b hl (fun e=>hn (by injection e))]
theorem Attr.grown{W W':World}{B r:Nat}{v:Value}{a:List Int}(h:Attr W B v a)(hg:W.grownBy W' (some r))(hn:∀b,zej v=some b->b≠r):Attr W' B v a:=by
 obtain⟨ab,rfl,h1,h2,h3,h4⟩:=h
 have hne:ab≠r:=hn ab rfl
 exact⟨ab,rfl,h1,Nat.lt_of_lt_of_le h2 hg.size,h3,fun j hj=>⟨hg.cell (h4 j hj).1 (by simpa using hne),(zs0 hg h2 hne).trans (h4 j hj).2⟩⟩
theorem NA.grown{W W':World}{B r:Nat}{lv:Value}{L:List Nd}{AV KV:List Value}(h:NA W B lv L AV KV)(hg:W.grownBy W' (some r))(hr:r<B):NA W' B lv L AV KV:=by
 refine⟨zdx h.row hg fun b hb=>by have:=zr1 h.row hb;omega,h.lenA,h.lenK,fun j d v h1 h2=>?_,fun j d v h1 h2=>?_,h.sepKK,h.sepKL,h.sepAL,h.sepAK⟩
 ·refine (h.attr j d v h1 h2).grown hg fun b hb=>?_
  obtain⟨ab,rfl,h3,_⟩:=h.attr j d v h1 h2
  injection hb with hb
  have:ab=b:=hb
  omega
 ·exact zdx (h.kids j d v h1 h2) hg fun b hb=>by have:=zr1 (h.kids j d v h1 h2) hb;omega
theorem zir(rb:Nat)(s:ByteArray)(i:Nat)(lv:Value)(bad er at_ dep:Int)(w:World)(h:RS w rb s i lv bad er at_ dep)(hs:s.size≤1099511627776)(hi:i≤s.size)(hb:0≤bad) :
 Calls Tryz.prog 83 #[.pointer (some ⟨rb,0,none⟩)] w fun e w'=>e=.returned (.tuple #[.int .i64 0,.int .i64 (sk s i:Int)])∧RS w' rb s (sk s i) lv bad er at_ dep∧w.grownBy w' (some rb):=by
 have CS:Hid (Calls Tryz.prog 25 #[.pointer (some ⟨rb,0,none⟩)] w fun e w'=>e=.returned (.tuple #[])∧RS w' rb s (sk s i) lv bad er at_ dep∧w.grownBy w' (some rb)):=z3l rb s i lv bad er at_ dep w h hs hi
 obtain⟨j,hj⟩:∃j,sk s i=j:=⟨_,rfl⟩
 have hjs:=z2w s i hi
 rw[hj] at CS hjs ⊢
 clear h hj
 go_enter Tryz.func83,Tryz.ntmps83
 go_wp2_with fail
 refine CS.out.mono ?_
 rintro e w1 ⟨rfl,h1,g1⟩
 have HR:Hid (RS w1 rb s j lv bad er at_ dep):=h1
 have HG1:Hid (w.grownBy w1 (some rb)):=g1
 have d1:=h1.c1
 have hb':¬bad<0:=by omega
 have eb:decide (bad<0)=false:=decide_eq_false hb'
 clear h1 g1 CS
 go_wp2
 clear d1
 go_loopw [5,13] (fun v _ wr=>v=.int .i64 0∧Hid (RS wr rb s j lv bad er at_ dep)∧Hid (w.grownBy wr (some rb))) (fun _ _ wr=>0)
 case atStart=>exact⟨rfl,HR.out,HG1.out⟩
 case round =>
  obtain⟨rfl,HS,HG⟩:=hrel
  have hs1:=HS.out
  have c0:=hs1.c0
  have c1:=hs1.c1
  have c3:=hs1.c3
  have CF:Hid (∀W,RS W rb s j lv bad er at_ dep->Calls Tryz.prog 26 #[.pointer (some ⟨rb,0,none⟩),.int .i64 (j:Int)] W fun e w'=>e=.returned (.tuple #[])∧RS w' rb s j lv (badI bad j) er at_ dep∧W.grownBy w' (some rb)):=fun W h=>z2p rb s j lv bad er at_ dep j W h
  have HE:Hid (badI bad (j:Int)=bad):=by show _=_;unfold badI;rw[if_neg (by omega)]
  have u0:(j:Int) - (j:Int)=0:=by omega
  clear hs1
  go_wp2_with fail
  go_quiet (fail)
  go_wp2_with fail
  refine (CF.out _ (HS.out.drewN _)).mono ?_
  rintro e w2 ⟨rfl,h2,g2⟩
  have H2:Hid (RS w2 rb s j lv bad er at_ dep):=by have:=h2;rw[HE.out] at this;exact this
  have HG2:Hid (w.grownBy w2 (some rb)):=z01 (z01 HG.out (z02 _ _ _)) g2
  clear h2 g2 c0 c1 c3
  go_wp2
  go_ret2
  exact⟨rfl,H2.out,HG2.out⟩
end
section
open Go.RowKit
def wS(s:ByteArray)(i:Nat)(bad:Int):ByteArray:=if bad<0 then s.extract (sk s i) (run z04 s (sk s i)) else ByteArray.empty
def wI(s:ByteArray)(i:Nat)(bad:Int):Nat:=if bad<0 then run z04 s (sk s i) else sk s i
def wB(s:ByteArray)(i:Nat)(bad:Int):Int:=if bad<0 then z4l s i bad else bad
def mI(s:ByteArray)(i c:Nat)(bad:Int):Nat:=if bad<0 then gotI s i c else sk s i
def mB(s:ByteArray)(i c:Nat)(bad:Int):Int:=if bad<0 then z5p s i c bad else bad
def gB(s:ByteArray)(i c:Nat)(bad:Int):Bool:=if bad<0 then isAt s i c else false
def nV(s:ByteArray)(i:Nat)(bad:Int):Int:=if bad<0 then dv s (sk s i) (run z0e s (sk s i) - sk s i) else 0
def nI(s:ByteArray)(i:Nat)(bad:Int):Nat:=if bad<0 then run z0e s (sk s i) else sk s i
def nB(s:ByteArray)(i:Nat)(bad:Int):Int:=if bad<0 then numB s (sk s i) (run z0e s (sk s i)) bad else bad
theorem zqd{s:ByteArray}{i:Nat}(bad:Int)(hi:i≤s.size):wI s i bad≤s.size:=by
 unfold wI;split
 ·exact z56 _ _ _ (z2w s i hi)
 ·exact z2w s i hi
theorem z22{s:ByteArray}{i c:Nat}(hc:c<256)(hi:i≤s.size):gotI s i c≤s.size:=by
 unfold gotI;split
 ·rename_i h
  by_cases e:sk s i<s.size
  ·omega
  ·rw[z1z e] at h;omega
 ·exact z2w s i hi
theorem zby{s:ByteArray}{i c:Nat}(bad:Int)(hc:c<256)(hi:i≤s.size):mI s i c bad≤s.size:=by
 unfold mI;split
 ·exact z22 hc hi
 ·exact z2w s i hi
theorem zvq{s:ByteArray}{i:Nat}(bad:Int)(hi:i≤s.size):nI s i bad≤s.size:=by
 unfold nI;split
 ·exact z56 _ _ _ (z2w s i hi)
 ·exact z2w s i hi
theorem zuk(s:ByteArray)(i:Nat)(bad:Int):0≤nV s i bad∧nV s i bad≤999999:=by
 unfold nV;split
 ·have h:=zes s (sk s i) (run z0e s (sk s i) - sk s i) (fun t ht=>by
   have:=z9v (p:=z0e) s (s.size - sk s i) (sk s i) t (by have h2:runF z0e s (s.size - sk s i) (sk s i)=run z0e s (sk s i):=rfl;omega)
   unfold z0e at this
   simpa using this)
  exact⟨h.1,h.2.1⟩
 ·omega
theorem zho(rb:Nat)(s:ByteArray)(i:Nat)(lv:Value)(bad er at_ dep:Int)(w:World)(h:RS w rb s i lv bad er at_ dep)(hs:s.size≤1099511627776)(hi:i≤s.size) :
 Calls Tryz.prog 47 #[.pointer (some ⟨rb,0,none⟩)] w fun e w'=>e=.returned (.string (wS s i bad))∧RS w' rb s (wI s i bad) lv (wB s i bad) er at_ dep∧w.grownBy w' (some rb):=by
 unfold wS wI wB
 by_cases hb:bad<0
 ·rw[if_pos hb,if_pos hb,if_pos hb];exact zqh rb s i lv bad er at_ dep w h hs hi hb
 ·rw[if_neg hb,if_neg hb,if_neg hb];exact zhp rb s i lv bad er at_ dep w h hs hi (by omega)
theorem z8k(rb:Nat)(s:ByteArray)(i:Nat)(lv:Value)(bad er at_ dep:Int)(c:Nat)(w:World)(h:RS w rb s i lv bad er at_ dep)(hs:s.size≤1099511627776)(hi:i≤s.size)(hc:c<256) :
 Calls Tryz.prog 53 #[.pointer (some ⟨rb,0,none⟩),.int .u8 (c:Int)] w fun e w'=>e=.returned (.tuple #[])∧RS w' rb s (mI s i c bad) lv (mB s i c bad) er at_ dep∧w.grownBy w' (some rb):=by
 unfold mI mB
 by_cases hb:bad<0
 ·rw[if_pos hb,if_pos hb];exact zgz rb s i lv bad er at_ dep c w h hs hi hc hb
 ·rw[if_neg hb,if_neg hb];exact zph rb s i lv bad er at_ dep c w h hs hi (by omega)
theorem z92(rb:Nat)(s:ByteArray)(i:Nat)(lv:Value)(bad er at_ dep:Int)(c:Nat)(w:World)(h:RS w rb s i lv bad er at_ dep)(hs:s.size≤1099511627776)(hi:i≤s.size)(hc:c<256) :
 Calls Tryz.prog 82 #[.pointer (some ⟨rb,0,none⟩),.int .u8 (c:Int)] w fun e w'=>e=.returned (.bool (gB s i c bad))∧RS w' rb s (mI s i c bad) lv bad er at_ dep∧w.grownBy w' (some rb):=by
 unfold mI gB
 by_cases hb:bad<0
 ·rw[if_pos hb,if_pos hb];exact zl5 rb s i lv bad er at_ dep c w h hs hi hc hb
 ·rw[if_neg hb,if_neg hb];exact zl6 rb s i lv bad er at_ dep c w h hs hi (by omega)
theorem zio(rb:Nat)(s:ByteArray)(i:Nat)(lv:Value)(bad er at_ dep:Int)(w:World)(h:RS w rb s i lv bad er at_ dep)(hs:s.size≤1099511627776)(hi:i≤s.size) :
 Calls Tryz.prog 83 #[.pointer (some ⟨rb,0,none⟩)] w fun e w'=>e=.returned (.tuple #[.int .i64 (nV s i bad),.int .i64 (sk s i:Int)])∧RS w' rb s (nI s i bad) lv (nB s i bad) er at_ dep∧w.grownBy w' (some rb):=by
 unfold nV nI nB
 by_cases hb:bad<0
 ·rw[if_pos hb,if_pos hb,if_pos hb];exact ziq rb s i lv bad er at_ dep w h hs hi hb
 ·rw[if_neg hb,if_neg hb,if_neg hb];exact zir rb s i lv bad er at_ dep w h hs hi (by omega)
structure Step where
 i:Nat
 bad:Int
 n:Int
 p:Nat
 at_:Nat
 ix:Int
def z0h(s:ByteArray)(i:Nat)(bad:Int):Step :=
 let j:=sk s i
 let i1:=wI s j bad
 let b1:=wB s j bad
 let i2:=mI s i1 61 b1
 let b2:=mB s i1 61 b1
 { i:=nI s i2 b2,bad:=nB s i2 b2,n:=nV s i2 b2,p:=sk s i2,at_:=j,ix:=z08 z16 (wS s j bad) 0 }
end
section
open Go.RowKit
structure PR(W:World)(rb:Nat)(s:ByteArray)(i:Nat)(av nv fv:Value):Prop where
 lt:rb<W.heap.size
 c0:W.cell? ⟨rb,0,none⟩=some (.string s)
 c1:W.cell? ⟨rb,1,none⟩=some (.int .i64 (i:Int))
 c2:W.cell? ⟨rb,2,none⟩=some av
 c3:W.cell? ⟨rb,3,none⟩=some nv
 c4:W.cell? ⟨rb,4,none⟩=some fv
 fz:∀j,W.frozen? ⟨rb,j,none⟩=false
theorem PR.below{W W':World}{rb:Nat}{s:ByteArray}{i:Nat}{av nv fv:Value}(h:PR W rb s i av nv fv)(hb:Below W.heap.size W W'):PR W' rb s i av nv fv :=
 have k:∀j v,W.cell? ⟨rb,j,none⟩=some v->W'.cell? ⟨rb,j,none⟩=some v:=fun j v e=>(hb.cell (p:=⟨rb,j,none⟩) h.lt).trans e
 ⟨Nat.lt_of_lt_of_le h.lt hb.size,k _ _ h.c0,k _ _ h.c1,k _ _ h.c2,k _ _ h.c3,k _ _ h.c4,fun j=>(hb.frozen (p:=⟨rb,j,none⟩) h.lt).trans (h.fz j)⟩
theorem PR.drewN{W:World}{rb:Nat}{s:ByteArray}{i:Nat}{av nv fv:Value}(h:PR W rb s i av nv fv)(n:Nat):PR (W.drewN n) rb s i av nv fv :=
 ⟨h.lt,h.c0,h.c1,h.c2,h.c3,h.c4,h.fz⟩
theorem PR.setI{W:World}{rb:Nat}{s:ByteArray}{i:Nat}{av nv fv:Value}(h:PR W rb s i av nv fv)(i':Nat):PR (W.setCell ⟨rb,1,none⟩ (.int .i64 (i':Int))) rb s i' av nv fv :=
 ⟨by simpa using h.lt,z09 (by omega) h.c0,z3q h.c1,z09 (by omega) h.c2,z09 (by omega) h.c3,z09 (by omega) h.c4,fun j=>by rw[World.frozen?_setCell];exact h.fz j⟩
def prI(W:World)(rb:Nat):Nat:=match W.cell? ⟨rb,1,none⟩ with
 | some (.int _ x)=>x.toNat
 | _=>0
theorem PR.prI{W:World}{rb:Nat}{s:ByteArray}{i:Nat}{av nv fv:Value}(h:PR W rb s i av nv fv):prI W rb=i:=by
 unfold Go.Proofs.YtnponhbgicbkcaaGreatDoor.prI;rw[h.c1];simp
theorem z3r(rb:Nat)(s:ByteArray)(i:Nat)(av nv fv:Value)(w:World)(h:PR w rb s i av nv fv)(hs:s.size≤1099511627776)(hi:i≤s.size) :
 Calls Tryz.prog 74 #[.pointer (some ⟨rb,0,none⟩)] w fun e w'=>e=.returned (.tuple #[])∧PR w' rb s (sk s i) av nv fv∧w.grownBy w' (some rb):=by
 have HR:Hid (PR w rb s i av nv fv):=h
 clear h
 go_enter Tryz.func74,Tryz.ntmps74
 go_wp2
 go_loopw [2] (fun _ wr=>∃k:Nat,k≤s.size∧Hid (sk s k=sk s i)∧Hid (PR wr rb s k av nv fv)∧Hid (w.grownBy wr (some rb))) (fun _ wr=>s.size - prI wr rb)
 case atStart=>exact⟨i,hi,rfl,HR.out,z7j _ _⟩
 case round =>
  obtain⟨k,hk,HK,HS,HG⟩:=hrel
  have hs1:=HS.out
  have c0:=hs1.c0
  have c1:=hs1.c1
  have f1:=hs1.fz 1
  by_cases hlt:k<s.size
  ·have hlt':(k:Int)<(s.size:Int):=by omega
   obtain⟨x,hx⟩:∃x,s[k].toNat=x:=⟨_,rfl⟩
   have hbx:bat s k=x:=by rw[z24 hlt,hx]
   by_cases hb:x=32
   ·skip
    have HN:Hid (∀q,PR ((wr.drewN q).setCell ⟨rb,1,none⟩ (.int .i64 ((k:Int)+1))) rb s (k+1) av nv fv):=fun q=>by
     have:=(HS.out.drewN q).setI (k+1)
     rw[show ((k+1:Nat):Int)=(k:Int)+1 by omega] at this;exact this
    have HK2:Hid (sk s (k+1)=sk s i):=by rw[<-HK.out];exact (z4i hlt (by rw[hbx];simp[blank,hb])).symm
    have hrd:prI wr rb=k:=HS.out.prI
    have HRD:Hid (prI wr rb=k):=hrd
    subst hb
    clear hs1 HK HS hbx hrd
    go_wp2_with fail
    go_quiet (fail)
    go_wp2
    go_roundw
    case rel=>exact⟨k+1,by omega,HK2.out,HN.out _,z01 (z01 HG.out (z02 _ _ _)) (z0q _ _ _ _)⟩
    case measure=>rw[(HN.out _).prI,HRD.out];omega
   ·by_cases hb2:x=10
    ·skip
     have HN:Hid (∀q,PR ((wr.drewN q).setCell ⟨rb,1,none⟩ (.int .i64 ((k:Int)+1))) rb s (k+1) av nv fv):=fun q=>by
      have:=(HS.out.drewN q).setI (k+1)
      rw[show ((k+1:Nat):Int)=(k:Int)+1 by omega] at this;exact this
     have HK2:Hid (sk s (k+1)=sk s i):=by rw[<-HK.out];exact (z4i hlt (by rw[hbx];simp[blank,hb2])).symm
     have hrd:prI wr rb=k:=HS.out.prI
     have HRD:Hid (prI wr rb=k):=hrd
     subst hb2
     clear hs1 HK HS hbx hrd
     go_wp2_with fail
     go_quiet (fail)
     go_wp2
     go_roundw
     case rel=>exact⟨k+1,by omega,HK2.out,HN.out _,z01 (z01 HG.out (z02 _ _ _)) (z0q _ _ _ _)⟩
     case measure=>rw[(HN.out _).prI,HRD.out];omega
    ·have HE:Hid (PR wr rb s (sk s i) av nv fv):=by
      have:sk s k=k:=z5m (by rw[hbx];simp[blank,hb,hb2])
      rw[<-HK.out,this];exact HS.out
     have e1:((x:Int)==32)=false:=by simp;omega
     have e2:((x:Int)==10)=false:=by simp;omega
     clear hs1 HK HS hbx
     go_wp2_with fail
     go_quiet (fail)
     go_wp2
     go_end0
     exact⟨rfl,HE.out.drewN _,z01 HG.out (z02 _ _ _)⟩
  ·have hlt':¬(k:Int)<(s.size:Int):=by omega
   have hd:decide ((k:Int)<(s.size:Int))=false:=decide_eq_false hlt'
   have HE:Hid (PR wr rb s (sk s i) av nv fv):=by
    have:sk s k=k:=zfp hlt
    rw[<-HK.out,this];exact HS.out
   clear hs1 HK HS
   go_wp2_with fail
   go_quiet (fail)
   go_wp2
   go_end0
   exact⟨rfl,HE.out.drewN _,z01 HG.out (z02 _ _ _)⟩
theorem z78(rb:Nat)(s:ByteArray)(i:Nat)(av nv fv:Value)(c:Nat)(w:World)(h:PR w rb s i av nv fv)(hs:s.size≤1099511627776)(hi:i≤s.size)(hc:c<256) :
 Calls Tryz.prog 131 #[.pointer (some ⟨rb,0,none⟩),.int .u8 (c:Int)] w fun e w'=>e=.returned (.bool (isAt s i c))∧PR w' rb s (gotI s i c) av nv fv∧w.grownBy w' (some rb):=by
 have CS:Hid (Calls Tryz.prog 74 #[.pointer (some ⟨rb,0,none⟩)] w fun e w'=>e=.returned (.tuple #[])∧PR w' rb s (sk s i) av nv fv∧w.grownBy w' (some rb)):=z3r rb s i av nv fv w h hs hi
 obtain⟨j,hj⟩:∃j,sk s i=j:=⟨_,rfl⟩
 have hjs:=z2w s i hi
 have HGI:Hid (gotI s i c=if bat s j=c then j+1 else j):=by show _=_;unfold gotI;rw[hj]
 have HIA:Hid (isAt s i c=(bat s j==c)):=by show _=_;unfold isAt;rw[hj]
 rw[hj] at CS hjs
 clear h hj
 go_enter Tryz.func131,Tryz.ntmps131
 go_wp2_with fail
 refine CS.out.mono ?_
 rintro e w1 ⟨rfl,h1,g1⟩
 have HR:Hid (PR w1 rb s j av nv fv):=h1
 have HG:Hid (w.grownBy w1 (some rb)):=g1
 have c0:=h1.c0
 have c1:=h1.c1
 have f1:=h1.fz 1
 clear h1 g1 CS
 by_cases hlt:j<s.size
 ·have hlt':(j:Int)<(s.size:Int):=by omega
  have el:((j:Int)==(s.size:Int))=false:=by simp;omega
  obtain⟨x,hx⟩:∃x,s[j].toNat=x:=⟨_,rfl⟩
  have hbx:bat s j=x:=by rw[z24 hlt,hx]
  by_cases hxc:x=c
  ·have HN:Hid (∀q,PR ((w1.drewN q).setCell ⟨rb,1,none⟩ (.int .i64 ((j:Int)+1))) rb s (gotI s i c) av nv fv):=fun q=>by
    rw[HGI.out,hbx,if_pos hxc]
    have:=(HR.out.drewN q).setI (j+1)
    rw[show ((j+1:Nat):Int)=(j:Int)+1 by omega] at this;exact this
   have HE:Hid (isAt s i c=true):=by show _=_;rw[HIA.out,hbx];simpa using hxc
   subst hxc
   clear hbx HR
   go_wp2_with fail
   go_quiet (fail)
   go_wp2
   go_ret
   exact⟨by rw[HE.out];rfl,HN.out _,z01 (z01 HG.out (z02 _ _ _)) (z0q _ _ _ _)⟩
  ·have HN:Hid (PR w1 rb s (gotI s i c) av nv fv):=by rw[HGI.out,hbx,if_neg hxc];exact HR.out
   have HE:Hid (isAt s i c=false):=by show _=_;rw[HIA.out,hbx];simpa using hxc
   have ex:((x:Int) != (c:Int))=true:=by simp;omega
   clear hbx HR
   go_wp2_with fail
   go_quiet (fail)
   go_wp2
   go_ret
   exact⟨by rw[HE.out];rfl,HN.out.drewN _,z01 HG.out (z02 _ _ _)⟩
 ·have hlt':¬(j:Int)<(s.size:Int):=by omega
  have el:((j:Int)==(s.size:Int))=true:=by simp;omega
  have hbo:bat s j=256:=z1z hlt
  have HN:Hid (PR w1 rb s (gotI s i c) av nv fv):=by rw[HGI.out,hbo,if_neg (by omega)];exact HR.out
  have HE:Hid (isAt s i c=false):=by show _=_;rw[HIA.out,hbo];simp;omega
  clear hbo HR
  go_wp2_with fail
  go_quiet (fail)
  go_wp2
  go_ret
  exact⟨by rw[HE.out];rfl,HN.out.drewN _,z01 HG.out (z02 _ _ _)⟩
end
section
open Go.RowKit
theorem in1(nb o:Nat)(w:World):Calls Tryz.prog 114 #[.pointer (some ⟨nb,o,none⟩)] w fun e w'=>e=.returned (.pointer (some ⟨nb,o+1,none⟩))∧w'=w:=by
 go_enter Tryz.func114,Tryz.ntmps114
 go_wp2
 go_ret
 exact⟨rfl,rfl⟩
theorem in2(nb o:Nat)(w:World):Calls Tryz.prog 115 #[.pointer (some ⟨nb,o,none⟩)] w fun e w'=>e=.returned (.pointer (some ⟨nb,o+2,none⟩))∧w'=w:=by
 go_enter Tryz.func115,Tryz.ntmps115
 go_wp2
 go_ret
 exact⟨rfl,rfl⟩
theorem in3(nb o:Nat)(w:World):Calls Tryz.prog 116 #[.pointer (some ⟨nb,o,none⟩)] w fun e w'=>e=.returned (.pointer (some ⟨nb,o+3,none⟩))∧w'=w:=by
 go_enter Tryz.func116,Tryz.ntmps116
 go_wp2
 go_ret
 exact⟨rfl,rfl⟩
theorem in4(nb o:Nat)(w:World):Calls Tryz.prog 117 #[.pointer (some ⟨nb,o,none⟩)] w fun e w'=>e=.returned (.pointer (some ⟨nb,o+4,none⟩))∧w'=w:=by
 go_enter Tryz.func117,Tryz.ntmps117
 go_wp2
 go_ret
 exact⟨rfl,rfl⟩
theorem in5(nb o:Nat)(w:World):Calls Tryz.prog 118 #[.pointer (some ⟨nb,o,none⟩)] w fun e w'=>e=.returned (.pointer (some ⟨nb,o+5,none⟩))∧w'=w:=by
 go_enter Tryz.func118,Tryz.ntmps118
 go_wp2
 go_ret
 exact⟨rfl,rfl⟩
theorem in6(nb o:Nat)(w:World):Calls Tryz.prog 119 #[.pointer (some ⟨nb,o,none⟩)] w fun e w'=>e=.returned (.pointer (some ⟨nb,o+6,none⟩))∧w'=w:=by
 go_enter Tryz.func119,Tryz.ntmps119
 go_wp2
 go_ret
 exact⟨rfl,rfl⟩
theorem in7(nb o:Nat)(w:World):Calls Tryz.prog 120 #[.pointer (some ⟨nb,o,none⟩)] w fun e w'=>e=.returned (.pointer (some ⟨nb,o+7,none⟩))∧w'=w:=by
 go_enter Tryz.func120,Tryz.ntmps120
 go_wp2
 go_ret
 exact⟨rfl,rfl⟩
theorem in8(nb o:Nat)(w:World):Calls Tryz.prog 121 #[.pointer (some ⟨nb,o,none⟩)] w fun e w'=>e=.returned (.pointer (some ⟨nb,o+8,none⟩))∧w'=w:=by
 go_enter Tryz.func121,Tryz.ntmps121
 go_wp2
 go_ret
 exact⟨rfl,rfl⟩
theorem in9(nb o:Nat)(w:World):Calls Tryz.prog 122 #[.pointer (some ⟨nb,o,none⟩)] w fun e w'=>e=.returned (.pointer (some ⟨nb,o+9,none⟩))∧w'=w:=by
 go_enter Tryz.func122,Tryz.ntmps122
 go_wp2
 go_ret
 exact⟨rfl,rfl⟩
theorem in10(nb o:Nat)(w:World):Calls Tryz.prog 123 #[.pointer (some ⟨nb,o,none⟩)] w fun e w'=>e=.returned (.pointer (some ⟨nb,o+10,none⟩))∧w'=w:=by
 go_enter Tryz.func123,Tryz.ntmps123
 go_wp2
 go_ret
 exact⟨rfl,rfl⟩
theorem in11(nb o:Nat)(w:World):Calls Tryz.prog 124 #[.pointer (some ⟨nb,o,none⟩)] w fun e w'=>e=.returned (.pointer (some ⟨nb,o+11,none⟩))∧w'=w:=by
 go_enter Tryz.func124,Tryz.ntmps124
 go_wp2
 go_ret
 exact⟨rfl,rfl⟩
theorem in12(nb o:Nat)(w:World):Calls Tryz.prog 125 #[.pointer (some ⟨nb,o,none⟩)] w fun e w'=>e=.returned (.pointer (some ⟨nb,o+12,none⟩))∧w'=w:=by
 go_enter Tryz.func125,Tryz.ntmps125
 go_wp2
 go_ret
 exact⟨rfl,rfl⟩
end
section
open Go.RowKit
def z5c:Array Value:=#[
 .string ⟨#[105,100]⟩,.int .u64 127,.int .i64 999999,.int .i64 0,.bool true,.func (.func 114) #[] #[],
 .string ⟨#[109,105,110]⟩,.int .u64 127,.int .i64 100000,.int .i64 0,.bool false,.func (.func 115) #[] #[],
 .string ⟨#[109,97,120]⟩,.int .u64 127,.int .i64 100000,.int .i64 (-1),.bool false,.func (.func 116) #[] #[],
 .string ⟨#[119,101,105,103,104,116]⟩,.int .u64 127,.int .i64 100000,.int .i64 1,.bool false,.func (.func 117) #[] #[],
 .string ⟨#[103,97,112]⟩,.int .u64 3,.int .i64 100,.int .i64 0,.bool false,.func (.func 118) #[] #[],
 .string ⟨#[112,97,100]⟩,.int .u64 8,.int .i64 20,.int .i64 0,.bool false,.func (.func 119) #[] #[],
 .string ⟨#[98,111,114,100,101,114]⟩,.int .u64 8,.int .i64 1,.int .i64 1,.bool false,.func (.func 120) #[] #[],
 .string ⟨#[97,108,105,103,110]⟩,.int .u64 32,.int .i64 2,.int .i64 0,.bool false,.func (.func 121) #[] #[],
 .string ⟨#[119,114,97,112]⟩,.int .u64 32,.int .i64 1,.int .i64 1,.bool false,.func (.func 122) #[] #[],
 .string ⟨#[102,103]⟩,.int .u64 127,.int .i64 8,.int .i64 0,.bool false,.func (.func 123) #[] #[],
 .string ⟨#[98,103]⟩,.int .u64 127,.int .i64 8,.int .i64 0,.bool false,.func (.func 124) #[] #[],
 .string ⟨#[98,111,108,100]⟩,.int .u64 127,.int .i64 1,.int .i64 0,.bool false,.func (.func 125) #[] #[]]
theorem zab(w:World):Calls Tryz.prog 72 #[] w fun e w'=>e=.returned (.slice (some ⟨w.heap.size,0,none⟩) 12 12)∧w'=w.alloc (.cells z5c 191):=by
 go_enter Tryz.func72,Tryz.ntmps72
 go_wp2
 go_ret
 exact⟨rfl,rfl⟩
end
section
open Go.RowKit
def errV(eb:Addr):Value:=.iface 331 (.pointer (some eb))
def z0b(place:Int)(ev:Value):Value:=.iface 137 (.agg #[.int .i64 place,ev])
theorem z2l(place:Int)(w:World)(eb:Addr)(he:w.cell? ⟨7,0,none⟩=some (errV eb)) :
 Calls Tryz.prog 75 #[.int .i64 place] w fun e w'=>e=.returned (z0b place (errV eb))∧w'=w:=by
 have he':w.cell? ⟨7,0,none⟩=some (.iface 331 (.pointer (some eb))):=he
 clear he
 go_enter Tryz.func75,Tryz.ntmps75
 go_wp2
 go_ret
 exact⟨rfl,rfl⟩
theorem z3y(rb:Nat)(s:ByteArray)(i:Nat)(av nv fv:Value)(c:Nat)(w:World)(h:PR w rb s i av nv fv)(hs:s.size≤1099511627776)(hi:i≤s.size)(hc:c<256)(hat:isAt s i c=true) :
 Calls Tryz.prog 134 #[.pointer (some ⟨rb,0,none⟩),.int .u8 (c:Int)] w fun e w'=>e=.returned (.tuple #[])∧PR w' rb s (gotI s i c) av nv fv∧w.grownBy w' (some rb):=by
 have CT:Hid (Calls Tryz.prog 131 #[.pointer (some ⟨rb,0,none⟩),.int .u8 (c:Int)] w fun e w'=>e=.returned (.bool true)∧PR w' rb s (gotI s i c) av nv fv∧w.grownBy w' (some rb)):=by
  have:=z78 rb s i av nv fv c w h hs hi hc
  rw[hat] at this;exact this
 clear h hat
 go_enter Tryz.func134,Tryz.ntmps134
 go_wp2_with fail
 refine CT.out.mono ?_
 rintro e w1 ⟨rfl,h1,g1⟩
 have HR:Hid (PR w1 rb s (gotI s i c) av nv fv):=h1
 have HG:Hid (w.grownBy w1 (some rb)):=g1
 clear h1 g1 CT
 go_wp2
 go_end0
 exact⟨rfl,HR.out,HG.out⟩
theorem z4v(rb:Nat)(s:ByteArray)(i:Nat)(av nv fv:Value)(eb:Addr)(c:Nat)(w:World)(h:PR w rb s i av nv fv)(hs:s.size≤1099511627776)(hi:i≤s.size)(hc:c<256)(hat:isAt s i c=false)(hg:7≠rb)(he:w.cell? ⟨7,0,none⟩=some (errV eb)) :
 Calls Tryz.prog 134 #[.pointer (some ⟨rb,0,none⟩),.int .u8 (c:Int)] w fun e w'=>e=.panicked [{ v:=z0b (sk s i:Int) (errV eb),recovered:=false }]∧w.grownBy w' (some rb):=by
 have CT:Hid (Calls Tryz.prog 131 #[.pointer (some ⟨rb,0,none⟩),.int .u8 (c:Int)] w fun e w'=>e=.returned (.bool false)∧PR w' rb s (sk s i) av nv fv∧w.grownBy w' (some rb)):=by
  have:=z78 rb s i av nv fv c w h hs hi hc
  have e2:gotI s i c=sk s i:=by
   unfold gotI;unfold isAt at hat
   rw[if_neg (by simpa using hat)]
  rw[hat,e2] at this;exact this
 have HN:Hid (∀w,w.cell? ⟨7,0,none⟩=some (errV eb)->Calls Tryz.prog 75 #[.int .i64 (sk s i:Int)] w fun e w'=>e=.returned (.iface 137 (.agg #[.int .i64 (sk s i:Int),.iface 331 (.pointer (some eb))]))∧w'=w):=fun w he=>z2l _ w eb he
 have HE:Hid (w.cell? ⟨7,0,none⟩=some (errV eb)):=he
 obtain⟨j,hj⟩:∃j,sk s i=j:=⟨_,rfl⟩
 rw[hj] at CT HN ⊢
 clear h hat he hj
 go_enter Tryz.func134,Tryz.ntmps134
 go_wp2_with fail
 refine CT.out.mono ?_
 rintro e w1 ⟨rfl,h1,g1⟩
 have HG:Hid (w.grownBy w1 (some rb)):=g1
 have c1:=h1.c1
 have HE1:Hid (w1.cell? ⟨7,0,none⟩=some (errV eb)):=g1.cell HE.out (by simpa using hg)
 clear h1 g1 CT
 go_wp2_with fail
 refine (HN.out _ HE1.out).mono ?_
 rintro e w2 ⟨rfl,hw⟩
 obtain rfl:=hw.symm
 go_wp2
 exact⟨rfl,rfl,HG.out⟩
end
section
open Go.RowKit
def ofK(m k:Nat):Bool:=(m / 2 ^ k) % 2==1
theorem zp8(n:ByteArray)(m k:Nat)(mo wi:Int)(sg:Bool)(fv:Value)(w:World)(hm:m=127∨m=3∨m=8∨m=32)(hk:k<7) :
 Calls Tryz.prog 190 #[.agg #[.string n,.int .u64 (m:Int),.int .i64 mo,.int .i64 wi,.bool sg,fv],.int .i64 (k:Int)] w fun e w'=>e=.returned (.bool (ofK m k))∧Below w.heap.size w w':=by
 have hc:k=0∨k=1∨k=2∨k=3∨k=4∨k=5∨k=6:=by omega
 have hb:∀o,Below w.heap.size w (w.alloc o):=fun o=>(Below.refl _ w).alloc (Nat.le_refl _) o
 have HB:Hid (∀o,Below w.heap.size w (w.alloc o)):=hb
 clear hk hb
 rcases hm with rfl|rfl|rfl|rfl <;> rcases hc with rfl|rfl|rfl|rfl|rfl|rfl|rfl
 all_goals
  go_enter Tryz.func190,Tryz.ntmps190
  go_wp2
  go_ret
  exact⟨by rfl,HB.out _⟩
end
section
open Go.RowKit
theorem PR.setF{W:World}{rb:Nat}{s:ByteArray}{i:Nat}{av nv fv:Value}(h:PR W rb s i av nv fv)(fv':Value):PR (W.setCell ⟨rb,4,none⟩ fv') rb s i av nv fv' :=
 ⟨by simpa using h.lt,z09 (by omega) h.c0,z09 (by omega) h.c1,z09 (by omega) h.c2,z09 (by omega) h.c3,z3q h.c4,fun j=>by rw[World.frozen?_setCell];exact h.fz j⟩
theorem zpa(rb:Nat)(s:ByteArray)(i:Nat)(av nv fv:Value)(place:Int)(w:World)(h:PR w rb s i av nv fv) :
 Calls Tryz.prog 128 #[.pointer (some ⟨rb,0,none⟩),.nilIface,.int .i64 place] w fun e w'=>e=.returned (.tuple #[])∧PR w' rb s i av nv fv∧w.grownBy w' (some rb):=by
 have HR:Hid (PR w rb s i av nv fv):=h
 clear h
 go_enter Tryz.func128,Tryz.ntmps128
 go_wp2
 go_end0
 exact⟨rfl,HR.out,z7j _ _⟩
theorem zij(rb:Nat)(s:ByteArray)(i:Nat)(av nv:Value)(eb:Addr)(place:Int)(w:World)(h:PR w rb s i av nv .nilIface) :
 Calls Tryz.prog 128 #[.pointer (some ⟨rb,0,none⟩),errV eb,.int .i64 place] w fun e w'=>e=.returned (.tuple #[])∧PR w' rb s i av nv (z0b place (errV eb))∧w.grownBy w' (some rb):=by
 have HR:Hid (PR w rb s i av nv .nilIface):=h
 have c4:=h.c4
 have f4:=h.fz 4
 have HN:Hid (PR (w.setCell ⟨rb,4,none⟩ (z0b place (errV eb))) rb s i av nv (z0b place (errV eb))):=h.setF _
 clear h
 show Calls Tryz.prog 128 #[.pointer (some ⟨rb,0,none⟩),.iface 331 (.pointer (some eb)),.int .i64 place] w _
 go_enter Tryz.func128,Tryz.ntmps128
 go_wp2
 go_end0
 exact⟨rfl,HN.out,z0q _ _ _ _⟩
theorem zik(rb:Nat)(s:ByteArray)(i:Nat)(av nv:Value)(eb eb2:Addr)(place place2:Int)(w:World)(h:PR w rb s i av nv (z0b place2 (errV eb2))) :
 Calls Tryz.prog 128 #[.pointer (some ⟨rb,0,none⟩),errV eb,.int .i64 place] w fun e w'=>e=.returned (.tuple #[])∧PR w' rb s i av nv (z0b place2 (errV eb2))∧w.grownBy w' (some rb):=by
 have HR:Hid (PR w rb s i av nv (z0b place2 (errV eb2))):=h
 have c4:w.cell? ⟨rb,4,none⟩=some (.iface 137 (.agg #[.int .i64 place2,.iface 331 (.pointer (some eb2))])):=h.c4
 clear h
 show Calls Tryz.prog 128 #[.pointer (some ⟨rb,0,none⟩),.iface 331 (.pointer (some eb)),.int .i64 place] w _
 go_enter Tryz.func128,Tryz.ntmps128
 go_wp2
 go_end0
 exact⟨rfl,HR.out,z7j _ _⟩
def zc9(n depth:Nat)(m d:Addr):Value:=if 100≤n then errV m else if 12≤depth then errV d else .nilIface
theorem zfm(rb:Nat)(s:ByteArray)(i:Nat)(av fv:Value)(p:Option Addr)(n cp depth:Nat)(m d:Addr)(w:World)(h:PR w rb s i av (.slice p n cp) fv)
 (hm:w.cell? ⟨1,0,none⟩=some (errV m)) (hd:w.cell? ⟨2,0,none⟩=some (errV d)) :
 Calls Tryz.prog 129 #[.pointer (some ⟨rb,0,none⟩),.int .i64 (depth:Int)] w fun e w'=>e=.returned (zc9 n depth m d)∧w'=w:=by
 have c3:=h.c3
 have em:w.cell? ⟨1,0,none⟩=some (.iface 331 (.pointer (some m))):=hm
 have ed:w.cell? ⟨2,0,none⟩=some (.iface 331 (.pointer (some d))):=hd
 clear h hm hd
 by_cases h1:100≤n
 ·have h1':(100:Int)≤(n:Int):=by omega
  have e1:decide ((100:Int)≤(n:Int))=true:=decide_eq_true h1'
  have HV:Hid (zc9 n depth m d=.iface 331 (.pointer (some m))):=by show _=_;unfold zc9;rw[if_pos h1];rfl
  go_enter Tryz.func129,Tryz.ntmps129
  go_wp2
  go_ret
  exact⟨by rw[HV.out];rfl,rfl⟩
 ·have h1':¬(100:Int)≤(n:Int):=by omega
  have e1:decide ((100:Int)≤(n:Int))=false:=decide_eq_false h1'
  by_cases h2:12≤depth
  ·have h2':(12:Int)≤(depth:Int):=by omega
   have e2:decide ((12:Int)≤(depth:Int))=true:=decide_eq_true h2'
   have HV:Hid (zc9 n depth m d=.iface 331 (.pointer (some d))):=by show _=_;unfold zc9;rw[if_neg h1,if_pos h2];rfl
   go_enter Tryz.func129,Tryz.ntmps129
   go_wp2
   go_ret
   exact⟨by rw[HV.out];rfl,rfl⟩
  ·have h2':¬(12:Int)≤(depth:Int):=by omega
   have e2:decide ((12:Int)≤(depth:Int))=false:=decide_eq_false h2'
   have HV:Hid (zc9 n depth m d=.nilIface):=by show _=_;unfold zc9;rw[if_neg h1,if_neg h2]
   go_enter Tryz.func129,Tryz.ntmps129
   go_wp2
   go_ret
   exact⟨by rw[HV.out];rfl,rfl⟩
end
section
open Go.RowKit
def z3k(i:Int):Value:=if i<0 then .tuple #[.int .i64 0,.bool false] else .tuple #[.int .i64 i,.bool true]
theorem zlw(t:ByteArray)(w:World)(n0 n1 n2 n3 n4 n5 n6:ByteArray)
 (h0:w.cell? ⟨8,0,none⟩=some (.string n0))
 (h1:w.cell? ⟨8,1,none⟩=some (.string n1))
 (h2:w.cell? ⟨8,2,none⟩=some (.string n2))
 (h3:w.cell? ⟨8,3,none⟩=some (.string n3))
 (h4:w.cell? ⟨8,4,none⟩=some (.string n4))
 (h5:w.cell? ⟨8,5,none⟩=some (.string n5))
 (h6:w.cell? ⟨8,6,none⟩=some (.string n6)) :
 Calls Tryz.prog 127 #[.string t] w fun e w'=>e=.returned (z3k (z08 [n0,n1,n2,n3,n4,n5,n6] t 0))∧w'=w:=by
 have i0:∀w,(Instr.index 229 (.agg #[.string n0,.string n1,.string n2,.string n3,.string n4,.string n5,.string n6]) (.int .i64 0)).run Tryz.prog w=.ok (.string n0) w:=fun _=>by kernel_rfl
 have i1:∀w,(Instr.index 229 (.agg #[.string n0,.string n1,.string n2,.string n3,.string n4,.string n5,.string n6]) (.int .i64 1)).run Tryz.prog w=.ok (.string n1) w:=fun _=>by kernel_rfl
 have i2:∀w,(Instr.index 229 (.agg #[.string n0,.string n1,.string n2,.string n3,.string n4,.string n5,.string n6]) (.int .i64 2)).run Tryz.prog w=.ok (.string n2) w:=fun _=>by kernel_rfl
 have i3:∀w,(Instr.index 229 (.agg #[.string n0,.string n1,.string n2,.string n3,.string n4,.string n5,.string n6]) (.int .i64 3)).run Tryz.prog w=.ok (.string n3) w:=fun _=>by kernel_rfl
 have i4:∀w,(Instr.index 229 (.agg #[.string n0,.string n1,.string n2,.string n3,.string n4,.string n5,.string n6]) (.int .i64 4)).run Tryz.prog w=.ok (.string n4) w:=fun _=>by kernel_rfl
 have i5:∀w,(Instr.index 229 (.agg #[.string n0,.string n1,.string n2,.string n3,.string n4,.string n5,.string n6]) (.int .i64 5)).run Tryz.prog w=.ok (.string n5) w:=fun _=>by kernel_rfl
 have i6:∀w,(Instr.index 229 (.agg #[.string n0,.string n1,.string n2,.string n3,.string n4,.string n5,.string n6]) (.int .i64 6)).run Tryz.prog w=.ok (.string n6) w:=fun _=>by kernel_rfl
 go_enter Tryz.func127,Tryz.ntmps127
 go_wp2
 clear h0 h1 h2 h3 h4 h5 h6
 go_loop [7] (fun i=>∃k:Nat,k≤7∧i=.int .i64 k∧Hid (z08 [n0,n1,n2,n3,n4,n5,n6] t 0=z08 ([n0,n1,n2,n3,n4,n5,n6].drop k) t k)) (fun i=>7 - (intOf i).toNat)
 case atStart=>exact⟨0,Nat.zero_le _,rfl,by show _=_;rw[List.drop_zero]⟩
 case round =>
  obtain⟨k,hk,rfl,HF⟩:=hrel
  have hc:k=0∨k=1∨k=2∨k=3∨k=4∨k=5∨k=6∨k=7:=by omega
  rcases hc with rfl|rfl|rfl|rfl|rfl|rfl|rfl|rfl
  ·by_cases e:n0=t
   ·have HE:Hid (z3k (z08 [n0,n1,n2,n3,n4,n5,n6] t 0)=.tuple #[.int .i64 0,.bool true]):=by
     show _=_;rw[HF.out];simp[z08,e,z3k]
    subst e
    clear HF
    go_wp2
    go_ret2
    exact⟨by rw[HE.out];rfl,rfl⟩
   ·have HE:Hid (z08 [n0,n1,n2,n3,n4,n5,n6] t 0=z08 ([n0,n1,n2,n3,n4,n5,n6].drop 1) t 1):=by
     show _=_;rw[HF.out];simp[z08,e]
    have e1:(n0.toList==t.toList)=false:=z5v e
    clear HF
    go_wp2
    go_round
    case rel=>exact⟨1,by omega,by go_num,HE.out⟩
    case measure=>simp[intOf]
  ·by_cases e:n1=t
   ·have HE:Hid (z3k (z08 [n0,n1,n2,n3,n4,n5,n6] t 0)=.tuple #[.int .i64 1,.bool true]):=by
     show _=_;rw[HF.out];simp[z08,e,z3k]
    subst e
    clear HF
    go_wp2
    go_ret2
    exact⟨by rw[HE.out];rfl,rfl⟩
   ·have HE:Hid (z08 [n0,n1,n2,n3,n4,n5,n6] t 0=z08 ([n0,n1,n2,n3,n4,n5,n6].drop 2) t 2):=by
     show _=_;rw[HF.out];simp[z08,e]
    have e1:(n1.toList==t.toList)=false:=z5v e
    clear HF
    go_wp2
    go_round
    case rel=>exact⟨2,by omega,by go_num,HE.out⟩
    case measure=>simp[intOf]
  ·by_cases e:n2=t
   ·have HE:Hid (z3k (z08 [n0,n1,n2,n3,n4,n5,n6] t 0)=.tuple #[.int .i64 2,.bool true]):=by
     show _=_;rw[HF.out];simp[z08,e,z3k]
    subst e
    clear HF
    go_wp2
    go_ret2
    exact⟨by rw[HE.out];rfl,rfl⟩
   ·have HE:Hid (z08 [n0,n1,n2,n3,n4,n5,n6] t 0=z08 ([n0,n1,n2,n3,n4,n5,n6].drop 3) t 3):=by
     show _=_;rw[HF.out];simp[z08,e]
    have e1:(n2.toList==t.toList)=false:=z5v e
    clear HF
    go_wp2
    go_round
    case rel=>exact⟨3,by omega,by go_num,HE.out⟩
    case measure=>simp[intOf]
  ·by_cases e:n3=t
   ·have HE:Hid (z3k (z08 [n0,n1,n2,n3,n4,n5,n6] t 0)=.tuple #[.int .i64 3,.bool true]):=by
     show _=_;rw[HF.out];simp[z08,e,z3k]
    subst e
    clear HF
    go_wp2
    go_ret2
    exact⟨by rw[HE.out];rfl,rfl⟩
   ·have HE:Hid (z08 [n0,n1,n2,n3,n4,n5,n6] t 0=z08 ([n0,n1,n2,n3,n4,n5,n6].drop 4) t 4):=by
     show _=_;rw[HF.out];simp[z08,e]
    have e1:(n3.toList==t.toList)=false:=z5v e
    clear HF
    go_wp2
    go_round
    case rel=>exact⟨4,by omega,by go_num,HE.out⟩
    case measure=>simp[intOf]
  ·by_cases e:n4=t
   ·have HE:Hid (z3k (z08 [n0,n1,n2,n3,n4,n5,n6] t 0)=.tuple #[.int .i64 4,.bool true]):=by
     show _=_;rw[HF.out];simp[z08,e,z3k]
    subst e
    clear HF
    go_wp2
    go_ret2
    exact⟨by rw[HE.out];rfl,rfl⟩
   ·have HE:Hid (z08 [n0,n1,n2,n3,n4,n5,n6] t 0=z08 ([n0,n1,n2,n3,n4,n5,n6].drop 5) t 5):=by
     show _=_;rw[HF.out];simp[z08,e]
    have e1:(n4.toList==t.toList)=false:=z5v e
    clear HF
    go_wp2
    go_round
    case rel=>exact⟨5,by omega,by go_num,HE.out⟩
    case measure=>simp[intOf]
  ·by_cases e:n5=t
   ·have HE:Hid (z3k (z08 [n0,n1,n2,n3,n4,n5,n6] t 0)=.tuple #[.int .i64 5,.bool true]):=by
     show _=_;rw[HF.out];simp[z08,e,z3k]
    subst e
    clear HF
    go_wp2
    go_ret2
    exact⟨by rw[HE.out];rfl,rfl⟩
   ·have HE:Hid (z08 [n0,n1,n2,n3,n4,n5,n6] t 0=z08 ([n0,n1,n2,n3,n4,n5,n6].drop 6) t 6):=by
     show _=_;rw[HF.out];simp[z08,e]
    have e1:(n5.toList==t.toList)=false:=z5v e
    clear HF
    go_wp2
    go_round
    case rel=>exact⟨6,by omega,by go_num,HE.out⟩
    case measure=>simp[intOf]
  ·by_cases e:n6=t
   ·have HE:Hid (z3k (z08 [n0,n1,n2,n3,n4,n5,n6] t 0)=.tuple #[.int .i64 6,.bool true]):=by
     show _=_;rw[HF.out];simp[z08,e,z3k]
    subst e
    clear HF
    go_wp2
    go_ret2
    exact⟨by rw[HE.out];rfl,rfl⟩
   ·have HE:Hid (z08 [n0,n1,n2,n3,n4,n5,n6] t 0=z08 ([n0,n1,n2,n3,n4,n5,n6].drop 7) t 7):=by
     show _=_;rw[HF.out];simp[z08,e]
    have e1:(n6.toList==t.toList)=false:=z5v e
    clear HF
    go_wp2
    go_round
    case rel=>exact⟨7,by omega,by go_num,HE.out⟩
    case measure=>simp[intOf]
  ·have HE:Hid (z3k (z08 [n0,n1,n2,n3,n4,n5,n6] t 0)=.tuple #[.int .i64 0,.bool false]):=by
    show _=_;rw[HF.out];simp[z08,z3k]
   clear HF
   go_wp2
   go_ret2
   exact⟨by rw[HE.out];rfl,rfl⟩
end
section
open Go.RowKit
def FL(er at_:Int)(f:Flt)(i:Nat):Prop:=match f with
 | none=>at_<0
 | some (c,p)=>er=c∧at_=p∧p≤i
theorem FL.on{er at_:Int}{f:Flt}{i j:Nat}(h:FL er at_ f i)(hij:i≤j):FL er at_ f j:=by
 cases f with
 | none=>exact h
 | some x=>obtain⟨c,p⟩:=x;exact⟨h.1,h.2.1,Nat.le_trans h.2.2 hij⟩
theorem FL.add{er at_:Int}{f:Flt}{i:Nat}(h:FL er at_ f i)(c p:Nat)(hp:i≤p):FL (wrE er at_ c p) (wrA at_ p) (addF f c p) p:=by
 cases f with
 | none =>
  have h':at_<0:=h
  unfold wrE wrA
  rw[if_pos (.inl h'),if_pos (.inl h')]
  exact⟨rfl,rfl,Nat.le_refl _⟩
 | some x =>
  obtain⟨c',p'⟩:=x
  obtain⟨h1,h2,h3⟩:=h
  have hn:¬(at_<0∨(p:Int)<at_):=by omega
  unfold wrE wrA
  rw[if_neg hn,if_neg hn]
  exact⟨h1,h2,Nat.le_trans h3 hp⟩
def fa(kind:Nat)(L:List Nd)(er:Flt)(a:List Int)(seen:List Nat)(st:Step):Flt×List Int×List Nat :=
 if st.ix<0∨z4g kind st.ix.toNat=false then (addF er 7 st.at_,a,seen)
 else (z0l (decide (st.ix=0∧0<st.n)&&z29 L st.n) (z0l (decide (z63[st.ix.toNat]?.getD 0<st.n)) (z0l (seen.contains st.ix.toNat) er 5 st.at_) 6 st.p) 5 st.p,a.set st.ix.toNat st.n,st.ix.toNat::seen)
theorem z57(s:ByteArray)(i:Nat)(bad:Int):i≤(z0h s i bad).at_∧(z0h s i bad).at_≤(z0h s i bad).p∧(z0h s i bad).p≤(z0h s i bad).i:=by
 have h1:=z1y s i
 have w1:sk s i≤wI s (sk s i) bad:=by unfold wI;split;exact Nat.le_trans (z1y s (sk s i)) (z55 _ _ _);exact z1y _ _
 have m1:wI s (sk s i) bad≤mI s (wI s (sk s i) bad) 61 (wB s (sk s i) bad):=by
  unfold mI;split
  ·unfold gotI;have:=z1y s (wI s (sk s i) bad);split <;> omega
  ·exact z1y _ _
 have n1:sk s (mI s (wI s (sk s i) bad) 61 (wB s (sk s i) bad))≤nI s (mI s (wI s (sk s i) bad) 61 (wB s (sk s i) bad)) (mB s (wI s (sk s i) bad) 61 (wB s (sk s i) bad)):=by
  unfold nI;split;exact z55 _ _ _;exact Nat.le_refl _
 have s2:=z1y s (mI s (wI s (sk s i) bad) 61 (wB s (sk s i) bad))
 unfold z0h
 simp only
 omega
theorem zb8(s:ByteArray)(i:Nat)(bad:Int)(hi:i≤s.size):(z0h s i bad).i≤s.size:=by
 unfold z0h
 exact zvq _ (zby _ (by omega) (zqd _ (z2w s i hi)))
theorem zq2(s:ByteArray)(i:Nat)(bad:Int):(z0h s i bad).ix = -1∨(0≤(z0h s i bad).ix∧(z0h s i bad).ix<12):=by
 have:=z5e (wS s (sk s i) bad) z16 0
 have hl:z16.length=12:=rfl
 unfold z0h
 simp only
 omega
theorem zt6(s:ByteArray)(i:Nat)(bad:Int):0≤(z0h s i bad).n∧(z0h s i bad).n≤999999:=zuk s _ _
theorem z7e(s:ByteArray)(kind:Nat)(L:List Nd)(i:Nat)(er:Flt)(a:List Int)(seen:List Nat)(bad:Int)(hb:bad<0) :
 ((z0h s i bad).bad=bad∧z5x s kind L i er a seen=.ok ((z0h s i bad).i,fa kind L er a seen (z0h s i bad)))
 ∨ (0≤(z0h s i bad).bad∧z5x s kind L i er a seen=.error (z0h s i bad).bad.toNat):=by
 unfold z5x
 simp only
 have e0:sk s (sk s i)=sk s i:=za1 s i
 have hw:wI s (sk s i) bad=run z04 s (sk s i):=by unfold wI;rw[if_pos hb,e0]
 by_cases h1:run z04 s (sk s i)=sk s i
 ·right
  have hB:wB s (sk s i) bad=(sk s i:Int):=by unfold wB;rw[if_pos hb];unfold z4l;rw[e0,if_pos h1]
  have hx:(z0h s i bad).bad=(sk s i:Int):=by
   unfold z0h
   simp only
   rw[hB]
   have hm:mB s (wI s (sk s i) bad) 61 (sk s i:Int)=(sk s i:Int):=by unfold mB;rw[if_neg (by omega)]
   rw[hm]
   unfold nB
   rw[if_neg (by omega)]
  rw[hx,if_pos h1]
  exact⟨by omega,rfl⟩
 ·have hB:wB s (sk s i) bad=bad:=by unfold wB;rw[if_pos hb];unfold z4l;rw[e0,if_neg h1]
  rw[if_neg h1]
  by_cases h2:isAt s (run z04 s (sk s i)) 61=true
  ·have hm:mB s (run z04 s (sk s i)) 61 bad=bad:=by unfold mB;rw[if_pos hb];unfold z5p;rw[if_pos h2]
   have hmi:mI s (run z04 s (sk s i)) 61 bad=gotI s (run z04 s (sk s i)) 61:=by unfold mI;rw[if_pos hb]
   have hmr:z19 s (run z04 s (sk s i)) 61=.ok (gotI s (run z04 s (sk s i)) 61):=by unfold z19;rw[if_pos h2]
   rw[hmr]
   simp only
   have hs:z0h s i bad={ i:=run z0e s (sk s (gotI s (run z04 s (sk s i)) 61)),bad:=numB s (sk s (gotI s (run z04 s (sk s i)) 61)) (run z0e s (sk s (gotI s (run z04 s (sk s i)) 61))) bad,n:=dv s (sk s (gotI s (run z04 s (sk s i)) 61)) (run z0e s (sk s (gotI s (run z04 s (sk s i)) 61)) - sk s (gotI s (run z04 s (sk s i)) 61)),p:=sk s (gotI s (run z04 s (sk s i)) 61),at_:=sk s i,ix:=z08 z16 (s.extract (sk s i) (run z04 s (sk s i))) 0 }:=by
    unfold z0h
    simp only
    rw[hw,hB,hm,hmi]
    have a1:nI s (gotI s (run z04 s (sk s i)) 61) bad=run z0e s (sk s (gotI s (run z04 s (sk s i)) 61)):=by unfold nI;rw[if_pos hb]
    have a2:nB s (gotI s (run z04 s (sk s i)) 61) bad=numB s (sk s (gotI s (run z04 s (sk s i)) 61)) (run z0e s (sk s (gotI s (run z04 s (sk s i)) 61))) bad:=by unfold nB;rw[if_pos hb]
    have a3:nV s (gotI s (run z04 s (sk s i)) 61) bad=dv s (sk s (gotI s (run z04 s (sk s i)) 61)) (run z0e s (sk s (gotI s (run z04 s (sk s i)) 61)) - sk s (gotI s (run z04 s (sk s i)) 61)):=by unfold nV;rw[if_pos hb]
    have a4:wS s (sk s i) bad=s.extract (sk s i) (run z04 s (sk s i)):=by unfold wS;rw[if_pos hb,e0]
    rw[a1,a2,a3,a4]
   generalize sk s (gotI s (run z04 s (sk s i)) 61)=j at hs ⊢
   generalize run z0e s j=e at hs ⊢
   by_cases h3:z6w s j e=true
   ·right
    have hx:(z0h s i bad).bad=(j:Int):=by
     rw[hs]
     show numB s j e bad=_
     unfold numB
     rw[if_pos (of_decide_eq_true h3)]
    rw[hx,if_pos h3]
    exact⟨by omega,rfl⟩
   ·left
    have h3':z6w s j e=false:=by simpa using h3
    have hx:(z0h s i bad).bad=bad:=by
     rw[hs]
     show numB s j e bad=_
     unfold numB
     rw[if_neg (of_decide_eq_false h3')]
    refine⟨hx,?_⟩
    rw[if_neg h3,hs]
    unfold fa
    simp only
    split <;> rfl
  ·right
   have h2':isAt s (run z04 s (sk s i)) 61=false:=by simpa using h2
   have hm:mB s (run z04 s (sk s i)) 61 bad=(sk s (run z04 s (sk s i)):Int):=by unfold mB;rw[if_pos hb];unfold z5p;rw[if_neg h2]
   have hmr:z19 s (run z04 s (sk s i)) 61=.error (sk s (run z04 s (sk s i))):=by unfold z19;rw[if_neg h2]
   have hx:(z0h s i bad).bad=(sk s (run z04 s (sk s i)):Int):=by
    unfold z0h
    simp only
    rw[hw,hB,hm]
    unfold nB
    rw[if_neg (by omega)]
   rw[hx,hmr]
   exact⟨by omega,rfl⟩
theorem z7f{s:ByteArray}{kind:Nat}{L:List Nd}{f i:Nat}{er:Flt}{a:List Int}{seen:List Nat}{b:Nat}(h:z5x s kind L i er a seen=.error b):z1u s kind L (f+1) i er a seen=.error b:=by
 rw[z1u,h]
theorem z5z{s:ByteArray}{kind:Nat}{L:List Nd}{f i i2:Nat}{er er2:Flt}{a a2:List Int}{seen seen2:List Nat}(h:z5x s kind L i er a seen=.ok (i2,er2,a2,seen2))(hm:isAt s i2 59=true):z1u s kind L (f+1) i er a seen=z1u s kind L f (gotI s i2 59) er2 a2 seen2:=by
 rw[z1u,h]
 simp only
 rw[if_pos hm]
def z6f(s:ByteArray)(i:Nat)(er:Flt)(a:List Int):Except Nat (Nat×Flt×List Int):=match z19 s i 125 with
 | .error b=>.error b
 | .ok i3=>.ok (i3,er,a)
theorem z5y{s:ByteArray}{kind:Nat}{L:List Nd}{f i i2:Nat}{er er2:Flt}{a a2:List Int}{seen seen2:List Nat}(h:z5x s kind L i er a seen=.ok (i2,er2,a2,seen2))(hm:¬isAt s i2 59=true):z1u s kind L (f+1) i er a seen=z6f s i2 er2 a2:=by
 rw[z1u,h]
 simp only
 rw[if_neg hm]
 rfl
theorem zln(s:ByteArray)(i c:Nat):isAt s (sk s i) c=isAt s i c:=by unfold isAt;rw[za1]
theorem zl4(s:ByteArray)(i c:Nat):gotI s (sk s i) c=gotI s i c:=by unfold gotI;rw[za1]
theorem zka(s:ByteArray)(i:Nat)(er:Flt)(a:List Int):z6f s (sk s i) er a=z6f s i er a:=by
 unfold z6f z19;rw[zln,zl4,za1]
end
end Go.Proofs.YtnponhbgicbkcaaGreatDoor
