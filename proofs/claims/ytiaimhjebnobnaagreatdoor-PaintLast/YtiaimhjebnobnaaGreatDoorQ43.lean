import Derived.Test.YtiaimhjebnobnaaGreatDoorQ40
import Derived.Test.YtiaimhjebnobnaaGreatDoorQ25
set_option linter.all false
set_option maxRecDepth 100000
set_option maxHeartbeats 16000000
namespace Go.Proofs.YtiaimhjebnobnaaGreatDoor
open Go.RowKit Go.Sort
theorem Iy(F:Nat->Nat)  ks  :∀m,m<=ks.length->cS (fun j=>F (aP ks j)) m=((ks.take m).map F).sum
 |0,_=>by simp[cS]
 |m+1,h=>by
  have h1:=Iy F ks m (by omega);have hl:m<ks.length:=by omega
  rw[lk hl,np,Rv,<-h1];grind[cS,aP]
theorem VT  kids   f i  :(un kids (f+1) i).length=cS (fun j=>(un kids f (aP (kids i) j)).length) (kids i).length+1:=by rw[Iy (fun c=>(un kids f c).length) (kids i) _ (ai _),l5];simp_all[un]
theorem dZ.nest{s}{L}(h:dZ s L):zD L.length (fun i=>(ae L i).kids) (fun i=>(ae L i).up):=by
 refine⟨fun i c hi hc=>?_,fun i hi=>Hn (fun k c d h1 h2=>h.gr.rise i k c d hi h1 h2),fun i hi=>h.gr.upl i hi,fun i hi=>?_⟩;·obtain⟨k,hk⟩:=RM.1 hc;exact h.gr.kid i k c hi hk
 ·by_cases e:i=0;·subst e;show-1<=(ae L 0).up;rw[h.up0];decide
  ·have:=h.gr.up0 i hi;omega
theorem Ch.cover{L}{d}{ks}{a e}(h:Ch L d ks a e):∀j,a<=j->j<e->j∈ks\/∃i,a<=i/\i<j/\j∈(L i).kids:=by
 induction h with
 |nil d a=>omega
 |@cons d c r e1 e h1 h2 h3 h4 i1 i2=>
  intro j k1 k2;by_cases e0:j=c;·grind
  ·by_cases l:j<e1;·grind
   ·have:=h3.le;grind
theorem dZ.kid_of{s}{L}(h:dZ s L)  j  (h0:0<j) (hj:j<L.length):∃i k,i<j/\k<(ae L i).kids.length/\aP (ae L i).kids k=j/\(ae L j).up=(i:Int):=by
 rcases h.ch.cover j (aZ _) hj with q|⟨i,_,q2,q3⟩;·grind
 ·obtain⟨k,hk,e⟩:=sY.1 q3;refine⟨i,k,q2,hk,?_,(h.nest.kid i j (by omega) q3).2.2⟩;grind[aP]
theorem Nv.bd{d}(h:Nv d):(∀k,k<12->-1<=aF d k/\aF d k<=1000000)/\(0<=aF d 4/\aF d 4<=100)/\(0<=aF d 5/\aF d 5<=20)/\(0<=aF d 6/\aF d 6<=1)/\0<=aF d 0/\0<=aF d 1/\0<=aF d 3:=by
 have key:∀k,k<12->aF d k=aX[k]?.getD 0\/(0<=aF d k/\aF d k<=jH[k]?.getD 0):=fun k hk=>(h.att k hk).imp id fun q=>q.2;have k0:=key 0 (by decide);have k1:=key 1 (by decide);have k2:=key 2 (by decide);have k3:=key 3 (by decide);have k4:=key 4 (by decide);have k5:=key 5 (by decide);have k6:=key 6 (by decide);have k7:=key 7 (by decide);have k8:=key 8 (by decide);have k9:=key 9 (by decide);have k10:=key 10 (by decide);have k11:=key 11 (by decide);simp only[aX,jH,RK,List.getElem?_cons_succ,Rx]at k0 k1 k2 k3 k4 k5 k6 k7 k8 k9 k10 k11;refine⟨fun k hk=>?_,by omega,by omega,by omega,by omega,by omega,by omega⟩;match k,hk with
 |0,_=>omega
 |1,_=>omega
 |2,_=>omega
 |3,_=>omega
 |4,_=>omega
 |5,_=>omega
 |6,_=>omega
 |7,_=>omega
 |8,_=>omega
 |9,_=>omega
 |10,_=>omega
 |11,_=>omega
theorem nR{d}(h:d.attr.length=12)  kv  :b_ d kv=[Iq d.kind,Iq (aF d 0),Iq (aF d 1),Iq (aF d 2),Iq (aF d 3),Iq (aF d 4),Iq (aF d 5),Iq (aF d 6),Iq (aF d 7),Iq (aF d 8),Iq (aF d 9),Iq (aF d 10),Iq (aF d 11),.string ⟨d.text.toArray⟩,kv,Iq d.up]:=by
 unfold b_ aF;match d.attr,h with
 |[a0,a1,a2,a3,a4,a5,a6,a7,a8,a9,b0,b1],_=>rfl
structure uA(U:World)(mb r g cap wb:Nat)(L:List Nd)(KV:Nat->Value)(Wd:Nat->Int):Prop where
 ms:Ms U mb (Sq g L.length cap) (Sq wb L.length L.length) r
 gl:g<U.heap.size
 wl:wb<U.heap.size
 mr:mb≠r
 gr:g≠r
 wr:wb≠r
 len:∀j,j<L.length->(ae L j).attr.length=12
 nd:∀j,j<L.length->∀(t:Nat) x,(b_ (ae L j) (KV j))[t]?=some x->U.cell? (az g (j*16+t))=some x
 kid:∀j,j<L.length->∃p c,KV j=.slice p (ae L j).kids.length c/\ir U r p (ae L j).kids.length (fun t=>(aP (ae L j).kids t:Int))
 wd:∀j,j<L.length->U.cell? (az wb j)=some (Iq (Wd j))
theorem uA.ml{U}{mb r g cap wb}{L}{KV}{Wd}(h:uA U mb r g cap wb L KV Wd):mb<U.heap.size:=(aM.1 h.ms).1
theorem uA.grown{U U'}{mb r g cap wb}{L}{KV}{Wd}(h:uA U mb r g cap wb L KV Wd)(hg:U.grownBy U' (some r)):uA U' mb r g cap wb L KV Wd:=by have ml:=h.ml;have key:∀b,b<U.heap.size->b≠r->U'.heap[b]?=U.heap[b]?:=fun b h1 h2=>hg.block b h1 (fun q=>h2 (by simpa using q));refine⟨(key mb ml h.mr).trans h.ms,zz008 h.gl hg.size,zz008 h.wl hg.size,h.mr,h.gr,h.wr,h.len,fun j hj t x ht=>(bU (key g h.gl h.gr)).trans (h.nd j hj t x ht),fun j hj=>?_,fun j hj=>(bU (key wb h.wl h.wr)).trans (h.wd j hj)⟩;obtain⟨p,c,e,hk⟩:=h.kid j hj;exact⟨p,c,e,hk.grown hg⟩
section
variable{U W W':World} {r:Nat}
theorem ss(h:U.grownBy W (some r))  o  :U.grownBy (W.alloc o) (some r):=h.trans (ac ((aj _ W).alloc (ai _) _))
theorem iC(h:U.grownBy W (some r)):U.grownBy W.drew (some r):=h.trans (ac ((aj _ W).drew))
theorem fH(h:U.grownBy W (some r)){a}(ha:U.heap.size<=a.block)  v  :U.grownBy (W.setCell a v) (some r):=
 ⟨h.os,h.tape,h.output,aO h.size (by simp),fun b hb hn=>(cF W a v b (by omega)).trans (h.block b hb hn)⟩
theorem bN.alloc{H}{n}(h:bN W r H n)  o  :bN (W.alloc o) r H n:=h.kept (row:=none) (World.grownBy_alloc W o none) (by simp)
theorem bN.drew{H}{n}(h:bN W r H n):bN W.drew r H n:=h.kept (row:=none) (ac ((aj _ W).drew)) (by simp)
theorem bN.drewN{H}{n}(h:bN W r H n)  q  :bN (W.drewN q) r H n:=h.kept (W':=W.drewN q) (row:=none) ⟨rfl,rfl,rfl,ai _,fun _ _ _=>rfl⟩ (by simp)
theorem bN.set{H}{n}(h:bN W r H n){a}(ha:a.block≠r)  v  :bN (W.setCell a v) r H n:=
 h.kept (row:=some a.block) ⟨rfl,rfl,rfl,by simp,fun b hb hn=>cF W a v b (fun e=>hn (by rw[e]))⟩ (fun e=>ha (by grind))
theorem bN.grown_below{H}{n}(h:bN W r H n)(hb:Bt W W'):bN W' r H n:=h.kept (row:=none) (ac hb) (by simp)
theorem ir.congr{m}{p}{v v'}(h:ir W r p m v)(e:∀j,j<m->v j=v' j):ir W r p m v':=by
 rcases h with h|⟨b,o,h1,h2,h3,h4⟩;·exact .inl h
 ·exact .inr ⟨b,o,h1,h2,h3,fun j hj=>by grind⟩
theorem sQ{b}{t}{n}{f}(h:W.rowIs b t n f)(hg:W.grownBy W' (some r))(bZ:b≠r):W'.rowIs b t n f:=h.of_block (hg.block b h.lt (fun e=>bZ (by grind)))
theorem rowIs_below{b}{t}{n}{f}(h:W.rowIs b t n f)(hb:Bt W W'):W'.rowIs b t n f:=h.of_block (hb.block b h.lt)
end
def zb(a b c:Nat->Int)(k:Nat)(i:Nat):Value:=Iq (if i/3<k then(if i %3=0 then a (i/3)else if i %3=1 then b (i/3)else c (i/3))else 0)
theorem JE(w:World)  m   a b c   T  :(w.alloc (.cells (madeCells #[Iq 0,Iq 0,Iq 0] (m*3)) T)).rowIs w.heap.size T (m*3) (zb a b c 0):=by have:=World.rowIs_alloc w (madeCells #[Iq 0,Iq 0,Iq 0] (m*3)) T (zb a b c 0) (fun i hi=>by rw[size_madeCells]at hi;unfold zb;rw[if_neg (by omega)];simp only[madeCells];grind);rw[size_madeCells]at this;omega
theorem JD{W:World}{b}{T}{m k}{a b1 c}(h:W.rowIs b T (m*3) (zb a b1 c k))  x y z  (hx:x=a k) (hy:y=b1 k) (hz:z=c k):
 (((W.setCell (az b (k*3)) (Iq x)).setCell (az b (k*3+1)) (Iq y)).setCell (az b (k*3+2)) (Iq z)).rowIs b T (m*3) (zb a b1 c (k+1)):=by subst hx hy hz;refine(((h.set (k*3) (Iq (a k))).set (k*3+1) (Iq (b1 k))).set (k*3+2) (Iq (c k))).congr fun i hi=>?_;grind[zb]
theorem Ri{W}{b}{T}{m}{a b1 c}(h:W.rowIs b T (m*3) (zb a b1 c m)):fg W b 0 m a b1 c:=by
 refine⟨h.lt,fun j hj=>⟨?_,?_,?_⟩⟩;·rw[bM,h.cell (by omega)];grind[zb]
 ·rw[bM,h.cell (by omega)];grind[zb]
 ·rw[bM,h.cell (by omega)];grind[zb]
def Wy(U W:World)(r lb m:Nat)(a b c:Nat->Int)(H:Nat->Int->Int)(n:Nat):Prop:=fg W lb 0 m a b c/\U.heap.size<=lb/\U.grownBy W (some r)/\bN W r H n
theorem dM{s}{L}(hT:dZ s L){i j}(hi:i<L.length)(hj:j<(ae L i).kids.length):i<aP (ae L i).kids j/\aP (ae L i).kids j<L.length:=by have:=hT.nest.kid i _ hi (gh hj);omega
theorem dZ.kids_le{s}{L}(hT:dZ s L){i}(hi:i<L.length):(ae L i).kids.length<=100:=by have h1:=nM L.length (ae L i).kids (hT.nest.nd i hi) (fun x hx=>(hT.nest.kid i x hi hx).2.1);have:=hT.vl.cnt;omega
def Yj(W:World)(kv:Value)(ks:List Nat):Prop:=∃p c,kv=.slice p ks.length c/\(ks=[]\/∃kb ko,p=some (az kb ko)/\kb<W.heap.size/\∀i,i<ks.length->W.cell? (az kb (ko+i))=some (Iq ((ks[i]?.getD 0:Nat):Int)))
structure Nd1(W:World)(g j:Nat)(d:Nd)(ab:Nat)(kv:Value):Prop where
 c0:W.cell? (az g (j*5))=some (Iq (d.kind:Int))
 c1:W.cell? (az g (j*5+1))=some (Sq ab 12 12)
 c2:W.cell? (az g (j*5+2))=some (.string ⟨d.text.toArray⟩)
 c3:W.cell? (az g (j*5+3))=some kv
 c4:W.cell? (az g (j*5+4))=some (Iq d.up)
 lab:ab<W.heap.size
 att:∀k,k<12->W.cell? (az ab k)=some (Iq (d.attr[k]?.getD 0))
 kids:Yj W kv d.kids
structure ju(W:World)(g n:Nat)(L:Nat->Nd):Prop where
 lt:g<W.heap.size
 nd:∀j,j<n->∃ab kv,Nd1 W g j (L j) ab kv
theorem ju.below{W W'}{g n}{L}(h:ju W g n L)(hb:Bt W W'):ju W' g n L:=by
 refine⟨zz008 h.lt hb.size,fun j hj=>?_⟩;obtain⟨ab,kv,q⟩:=h.nd j hj;refine⟨ab,kv,(hb.cell (p:=(az g _)) h.lt).trans q.c0,(hb.cell (p:=(az g _)) h.lt).trans q.c1,(hb.cell (p:=(az g _)) h.lt).trans q.c2,(hb.cell (p:=(az g _)) h.lt).trans q.c3,(hb.cell (p:=(az g _)) h.lt).trans q.c4,zz008 q.lab hb.size,fun k hk=>(hb.cell (p:=(az ab k)) q.lab).trans (q.att k hk),?_⟩;obtain⟨p,c,e,r⟩:=q.kids;refine⟨p,c,e,?_⟩;rcases r with r|⟨kb,ko,e2,h1,h2⟩;·grind
 ·exact .inr ⟨kb,ko,e2,zz008 h1 hb.size,fun i hi=>(hb.cell (p:=(az kb (ko+i))) h1).trans (h2 i hi)⟩
theorem Lu{W:World}{B}{kv}{ks}(h:W.ownsRow B 3 1 kv ks.length (kX ks)):∃p c,kv=.slice p ks.length c/\(ks=[]\/∃kb ko,p=some (az kb ko)/\kb<W.heap.size/\∀i,i<ks.length->W.cell? (az kb (ko+i))=some (Iq ((ks[i]?.getD 0:Nat):Int))):=by
 rcases dK h with⟨rfl,h0⟩|⟨g,cap,rfl,h1,h2,h3,h4⟩;·grind
 ·refine⟨_,_,rfl,.inr ⟨g,0,rfl,h2,fun i hi=>?_⟩⟩;rw[bM,h.cellAt i (by omega)];grind[kX]
theorem RD.nds{W}{B}{g cap}{L}{AV}{KV}(h:RD W B (Sq g L.length cap) L AV KV)(hg:g<W.heap.size):ju W g L.length (ae L):=by refine⟨hg,fun j hj=>⟨AV j,KV j,?_⟩⟩;have c:=fun t u ht=>h.nr.cells g rfl j hj t u ht;exact⟨c 0 _ rfl,c 1 _ rfl,c 2 _ rfl,c 3 _ rfl,c 4 _ rfl,(h.att j hj).2.1,fun k hk=>((h.att j hj).2.2 k hk).1,Lu (h.nr.kids j hj)⟩
