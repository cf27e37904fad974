import Derived.Test.YtadhgppeafpdgaaGreatDoorQ25
import Derived.Test.YtadhgppeafpdgaaGreatDoorQ39
import Derived.Test.YtadhgppeafpdgaaGreatDoorQ16
import Derived.Shelf.Strconv.Atoi
import Derived.Lib.AtoiErrMem
import Derived.Laws.EntriesVeiled
import Derived.Deep.CutBlock
import Derived.Test.YtadhgppeafpdgaaGreatDoorQ19
set_option linter.all false
set_option maxRecDepth 100000
set_option maxHeartbeats 16000000
namespace Go.Proofs.YtadhgppeafpdgaaGreatDoor
open Go.RowKit Go.Sort Go.Proofs.Tryz
def aC(d:Nd)(k:Nat):Int:=d.attr[k]?.getD 0
def bf(ks:List Nat)(j:Nat):Nat:=ks[j]?.getD 0
def LG(d:Nd)(x:Int):Int:=if aC d 3=0 then max (aC d 1) (rz x (aC d 2))else aC d 1
def bQ(L:List Nd)(ks:List Nat)(N:Nat->Int)(aM cR:Int)(g:Nat->Int):Prop:=
 cV ks.length (fun j=>cl (LG (ac L (bf ks j)) (N j))) (fun j=>ic (LG (ac L (bf ks j)) (N j)) (aC (ac L (bf ks j)) 2)) (fun j=>cl (aC (ac L (bf ks j)) 3)) (rm aM cR ks.length) g
theorem Ot(a b c:Nat->Int):Mz (fun j=>cl (a j)) (fun j=>ic (a j) (b j)) (fun j=>cl (c j)):=fun j=>
 ⟨(gq _).1,(mq _ _).1,(mq _ _).2,(gq _).1,(gq _).2⟩
theorem bQ.uniq{L}{ks}{N}{aM cR}{g g'}(h:bQ L ks N aM cR g)(h':bQ L ks N aM cR g'):∀j,j<ks.length->g j=g' j:=cV.uniq (Ot _ _ _) h h'
def du:List UInt8->List (List UInt8)
 |[]=>[[]]
 |c::t=>if c=10 then[]::du t else match du t with
  |[]=>[[c]]
  |p::ps=>(c::p)::ps
theorem P9:∀t,du t≠[]
 |[]=>by simp[du]
 |c::t=>by grind[du]
theorem xQ:∀  a b,(∀x∈a,x≠10)->du (a++10::b)=a::du b
 |[],b,_=>by simp[du]
 |c::a,b,h=>by have h1:=xQ a b (fun x hx=>h x (by simp[hx]));grind[du]
theorem paras_one:∀  a,(∀x∈a,x≠10)->du a=[a]
 |[],_=>rfl
 |c::a,h=>by have h1:=paras_one a (fun x hx=>h x (by simp[hx]));grind[du]
theorem qI:∀  t,(du t).length=t.count 10+1
 |[]=>rfl
 |c::t=>by have h1:=qI t;grind[du,P9]
def R_(l:List Int):Int:=l.foldl max 0
theorem Px  l   x  :R_ (l++[x])=max (R_ l) x:=by grind[R_]
def tW(t:List UInt8):Int:=aj (bi (ap t))
def QH(t:List UInt8):Int:=R_ ((du t).map tW)
def sJ(wrap:Int)(t:List UInt8)(w:Int):Int:=if w<1 then 0 else if wrap=1 then((bG (bi (ap t)) w).length:Int)else(t.count 10:Int)+1
theorem ul{f g}:∀m,(∀j,j<m->f j=g j)->hS f m=hS g m
 |0,_=>rfl
 |m+1,h=>by unfold hS;rw[ul m (fun j hj=>h j (by omega)),h m (by omega)]
theorem uk{f g}:∀m,(∀j,j<m->f j=g j)->hG f m=hG g m
 |0,_=>rfl
 |m+1,h=>by unfold hG;rw[uk m (fun j hj=>h j (by omega)),h m (by omega)]
def zQ(kd a4 a5 a6:Int)(h:Nat->Int)(m:Nat):Int:=if kd=0 then hS h m+nP a4 m else hG h m+2*kT kd a5 a6
theorem FX{kd a4 a5 a6}{f g}{m}(h:∀j,j<m->f j=g j):zQ kd a4 a5 a6 f m=zQ kd a4 a5 a6 g m:=by grind[zQ,ul,uk]
theorem vd{kd a4 a5 a6}{f g}{m}(h:∀j,j<m->f j=g j):wW kd a4 a5 a6 f m=wW kd a4 a5 a6 g m:=by grind[wW,ul,uk]
def uQ(d:Nd)(f:Nat->Int):Int:=bD (if d.kind=5 then QH d.text else zQ d.kind (aC d 4) (aC d 5) (aC d 6) f d.kids.length)
def rA(d:Nd)(f:Nat->Int):Int:=bD (wW d.kind (aC d 4) (aC d 5) (aC d 6) f d.kids.length)
def inW(d:Nd)(w:Int):Int:=max 0 (w-2*kT d.kind (aC d 5) (aC d 6))
structure Sz(L:List Nd)(W:Nat->Int)(H:Nat->Int->Int):Prop where
 w:∀i,i<L.length->W i=uQ (ac L i) (fun j=>W (bf (ac L i).kids j))
 ht:∀i w,i<L.length->(ac L i).kind=5->H i w=bD (sJ (aC (ac L i) 8) (ac L i).text w)
 hr:∀i w g,i<L.length->(ac L i).kind=0->((ac L i).kids=[]\/bQ L (ac L i).kids (fun j=>W (bf (ac L i).kids j)) w (aC (ac L i) 4) g)->H i w=rA (ac L i) (fun j=>H (bf (ac L i).kids j) (g j))
 ho:∀i w,i<L.length->(ac L i).kind≠5->(ac L i).kind≠0->H i w=rA (ac L i) (fun j=>H (bf (ac L i).kids j) (inW (ac L i) w))
 hb:∀i w,i<L.length->0<=H i w/\H i w<=100000
theorem Sz.wb{L}{W}{H}(h:Sz L W H)  i  (hi:i<L.length):0<=W i/\W i<=100000:=by rw[h.w i hi];exact dq _
section
variable{L:List Nd}
theorem mD{ks}{j}(h:j<ks.length):bf ks j∈ks:=by grind[bf]
def wF(L:List Nd):Nat->Nat->Int
 |0,_=>0
 |f+1,i=>uQ (ac L i) (fun j=>wF L f (bf (ac L i).kids j))
def hF(L:List Nd)(sp:Nat×Int->Nat->Int):Nat->Nat->Int->Int
 |0,_,_=>0
 |f+1,i,w=>if(ac L i).kind=5 then bD (sJ (aC (ac L i) 8) (ac L i).text w)else if(ac L i).kind=0 then rA (ac L i) (fun j=>hF L sp f (bf (ac L i).kids j) (sp (i,w) j))else rA (ac L i) (fun j=>hF L sp f (bf (ac L i).kids j) (inW (ac L i) w))
theorem Cy{d}{f g}(h:∀j,j<d.kids.length->f j=g j):uQ d f=uQ d g:=by grind[uQ,FX]
theorem rC{d}{f g}(h:∀j,j<d.kids.length->f j=g j):rA d f=rA d g:=by grind[rA,vd]
variable{up:Nat->Int}
theorem IP(hN:yF L.length (fun i=>(ac L i).kids) up):∀f f' i,i<L.length->L.length-i<=f->L.length-i<=f'->wF L f i=wF L f' i
 |0,f',i,hi,h1,h2=>by omega
 |f+1,0,i,hi,h1,h2=>by omega
 |f+1,f'+1,i,hi,h1,h2=>by unfold wF;refine Cy fun j hj=>?_;obtain⟨c1,c2,_⟩:=hN.kid i _ hi (mD hj);exact IP hN f f' _ c2 (by omega) (by omega)
theorem Hl  sp  (hN:yF L.length (fun i=>(ac L i).kids) up):∀f f' i w,i<L.length->L.length-i<=f->L.length-i<=f'->hF L sp f i w=hF L sp f' i w
 |0,f',i,w,hi,h1,h2=>by omega
 |f+1,0,i,w,hi,h1,h2=>by omega
 |f+1,f'+1,i,w,hi,h1,h2=>by
  have key:∀v j,j<(ac L i).kids.length->hF L sp f (bf (ac L i).kids j) v=hF L sp f' (bf (ac L i).kids j) v:=fun v j hj=>by obtain⟨c1,c2,_⟩:=hN.kid i _ hi (mD hj);exact Hl sp hN f f' _ _ c2 (by omega) (by omega)
  grind[hF,rC,bf,ac,inW]
theorem W7(hN:yF L.length (fun i=>(ac L i).kids) up):∃W H,Sz L W H:=by
 have hW:∀i,i<L.length->wF L L.length i=uQ (ac L i) (fun j=>wF L L.length (bf (ac L i).kids j)):=fun i hi=>by rw[IP hN L.length (L.length+1) i hi (by omega) (by omega)];rfl
 obtain⟨sp,Ep⟩:∃sp:Nat×Int->Nat->Int,∀q:Nat×Int,∀g,bQ L (ac L q.1).kids (fun j=>wF L L.length (bf (ac L q.1).kids j)) q.2 (aC (ac L q.1) 4) g->∀j,j<(ac L q.1).kids.length->g j=sp q j:=by
  have key:∀q:Nat×Int,∃f:Nat->Int,∀g,bQ L (ac L q.1).kids (fun j=>wF L L.length (bf (ac L q.1).kids j)) q.2 (aC (ac L q.1) 4) g->∀j,j<(ac L q.1).kids.length->g j=f j:=fun q=>by
   by_cases e:∃g,bQ L (ac L q.1).kids (fun j=>wF L L.length (bf (ac L q.1).kids j)) q.2 (aC (ac L q.1) 4) g;·obtain⟨g,hg⟩:=e;exact⟨g,fun g' ur=>ur.uniq hg⟩
   simp_all
  exact Classical.skolem.1 key
 have hH:∀i w,i<L.length->hF L sp L.length i w=hF L sp (L.length+1) i w:=fun i w hi=>Hl sp hN _ _ i w hi (by omega) (by omega);refine⟨wF L L.length,hF L sp L.length,hW,fun i w hi h5=>?_,fun i w g hi h0 hg=>?_,fun i w hi h5 h0=>?_,fun i w hi=>?_⟩;·grind[hF]
 ·rw[hH i w hi];show hF L sp (L.length+1) i w=_;conv=>lhs;unfold hF
  rw[if_neg (by omega),if_pos h0];refine rC fun j hj=>?_;rcases hg with e|hg;·grind
  ·rw[Ep (i,w) g hg j hj]
 ·grind[hF]
 ·rw[hH i w hi];unfold hF;split;·exact dq _
  ·split<;>exact dq _
end
theorem G9(F:Nat->Nat)  ks  :∀m,m<=ks.length->cS (fun j=>F (bf ks j)) m=((ks.take m).map F).sum
 |0,_=>by simp[cS]
 |m+1,h=>by
  have h1:=G9 F ks m (by omega);have hl:m<ks.length:=by omega
  rw[ip hl,pK,Q5,<-h1];grind[cS,bf]
theorem Vq  kids   f i  :(tj kids (f+1) i).length=cS (fun j=>(tj kids f (bf (kids i) j)).length) (kids i).length+1:=by rw[G9 (fun c=>(tj kids f c).length) (kids i) _ (ae _),l6];simp_all[tj]
theorem gA.nest{s}{L}(h:gA s L):yF L.length (fun i=>(ac L i).kids) (fun i=>(ac L i).up):=by
 refine⟨fun i c hi hc=>?_,fun i hi=>F4 (fun k c d h1 h2=>h.gr.rise i k c d hi h1 h2),fun i hi=>h.gr.upl i hi,fun i hi=>?_⟩;·obtain⟨k,hk⟩:=I8.1 hc;exact h.gr.kid i k c hi hk
 ·by_cases e:i=0;·subst e;show-1<=(ac L 0).up;rw[h.up0];decide
  ·have:=h.gr.up0 i hi;omega
theorem Ch.cover{L}{d}{ks}{a e}(h:Ch L d ks a e):∀j,a<=j->j<e->j∈ks\/∃i,a<=i/\i<j/\j∈(L i).kids:=by
 induction h with
 |nil d a=>omega
 |@cons d c r e1 e h1 h2 h3 h4 i1 i2=>
  intro j k1 k2;by_cases e0:j=c;·grind
  ·by_cases l:j<e1;·grind
   ·have:=h3.le;grind
theorem gA.kid_of{s}{L}(h:gA s L)  j  (h0:0<j) (hj:j<L.length):∃i k,i<j/\k<(ac L i).kids.length/\bf (ac L i).kids k=j/\(ac L j).up=(i:Int):=by
 rcases h.ch.cover j (bm _) hj with q|⟨i,_,q2,q3⟩;·grind
 ·obtain⟨k,hk,e⟩:=rP.1 q3;refine⟨i,k,q2,hk,?_,(h.nest.kid i j (by omega) q3).2.2⟩;grind[bf]
theorem Nv.bd{d}(h:Nv d):(∀k,k<12->-1<=aC d k/\aC d k<=1000000)/\(0<=aC d 4/\aC d 4<=100)/\(0<=aC d 5/\aC d 5<=20)/\(0<=aC d 6/\aC d 6<=1)/\0<=aC d 0/\0<=aC d 1/\0<=aC d 3:=by
 have key:∀k,k<12->aC d k=aV[k]?.getD 0\/(0<=aC d k/\aC d k<=lF[k]?.getD 0):=fun k hk=>(h.att k hk).imp id fun q=>q.2;have k0:=key 0 (by decide);have k1:=key 1 (by decide);have k2:=key 2 (by decide);have k3:=key 3 (by decide);have k4:=key 4 (by decide);have k5:=key 5 (by decide);have k6:=key 6 (by decide);have k7:=key 7 (by decide);have k8:=key 8 (by decide);have k9:=key 9 (by decide);have k10:=key 10 (by decide);have WE:=key 11 (by decide);simp only[aV,lF,Re,List.getElem?_cons_succ,Q6]at k0 k1 k2 k3 k4 k5 k6 k7 k8 k9 k10 WE;refine⟨fun k hk=>?_,by omega,by omega,by omega,by omega,by omega,by omega⟩;match k,hk with
 |0,_=>omega
 |1,_=>omega
 |2,_=>omega
 |3,_=>omega
 |4,_=>omega
 |5,_=>omega
 |6,_=>omega
 |7,_=>omega
 |8,_=>omega
 |9,_=>omega
 |10,_=>omega
 |11,_=>omega
theorem kF{d}(h:d.attr.length=12)  kv  :aZ d kv=[Iq d.kind,Iq (aC d 0),Iq (aC d 1),Iq (aC d 2),Iq (aC d 3),Iq (aC d 4),Iq (aC d 5),Iq (aC d 6),Iq (aC d 7),Iq (aC d 8),Iq (aC d 9),Iq (aC d 10),Iq (aC d 11),.string ⟨d.text.toArray⟩,kv,Iq d.up]:=by
 unfold aZ aC;match d.attr,h with
 |[a0,a1,a2,a3,a4,a5,a6,a7,a8,a9,b0,b1],_=>rfl
structure tD(U:World)(mb r g cap wb:Nat)(L:List Nd)(KV:Nat->Value)(Wd:Nat->Int):Prop where
 ms:Ms U mb (Sq g L.length cap) (Sq wb L.length L.length) r
 gl:g<U.heap.size
 wl:wb<U.heap.size
 mr:mb≠r
 gr:g≠r
 wr:wb≠r
 len:∀j,j<L.length->(ac L j).attr.length=12
 nd:∀j,j<L.length->∀(t:Nat) x,(aZ (ac L j) (KV j))[t]?=some x->U.cell? (aq g (j*16+t))=some x
 kid:∀j,j<L.length->∃p c,KV j=.slice p (ac L j).kids.length c/\gm U r p (ac L j).kids.length (fun t=>(bf (ac L j).kids t:Int))
 wd:∀j,j<L.length->U.cell? (aq wb j)=some (Iq (Wd j))
theorem tD.ml{U}{mb r g cap wb}{L}{KV}{Wd}(h:tD U mb r g cap wb L KV Wd):mb<U.heap.size:=(az.1 h.ms).1
theorem tD.grown{U U'}{mb r g cap wb}{L}{KV}{Wd}(h:tD U mb r g cap wb L KV Wd)(hg:U.grownBy U' (some r)):tD U' mb r g cap wb L KV Wd:=by have ml:=h.ml;have key:∀b,b<U.heap.size->b≠r->U'.heap[b]?=U.heap[b]?:=fun b h1 h2=>hg.block b h1 (fun q=>h2 (by simpa using q));refine⟨(key mb ml h.mr).trans h.ms,zz007 h.gl hg.size,zz007 h.wl hg.size,h.mr,h.gr,h.wr,h.len,fun j hj t x ht=>(ba (key g h.gl h.gr)).trans (h.nd j hj t x ht),fun j hj=>?_,fun j hj=>(ba (key wb h.wl h.wr)).trans (h.wd j hj)⟩;obtain⟨p,c,e,hk⟩:=h.kid j hj;exact⟨p,c,e,hk.grown hg⟩
section
variable{U W W':World} {r:Nat}
theorem rf(h:U.grownBy W (some r))  o  :U.grownBy (W.alloc o) (some r):=h.trans (aa ((ag _ W).alloc (ae _) _))
theorem mh(h:U.grownBy W (some r)):U.grownBy W.drew (some r):=h.trans (aa ((ag _ W).drew))
theorem kw(h:U.grownBy W (some r)){a}(ha:U.heap.size<=a.block)  v  :U.grownBy (W.setCell a v) (some r):=
 ⟨h.os,h.tape,h.output,aH h.size (by simp),fun b hb hn=>(bv W a v b (by omega)).trans (h.block b hb hn)⟩
theorem aW.alloc{H}{n}(h:aW W r H n)  o  :aW (W.alloc o) r H n:=h.kept (row:=none) (World.grownBy_alloc W o none) (by simp)
theorem aW.drew{H}{n}(h:aW W r H n):aW W.drew r H n:=h.kept (row:=none) (aa ((ag _ W).drew)) (by simp)
theorem aW.drewN{H}{n}(h:aW W r H n)  q  :aW (W.drewN q) r H n:=h.kept (W':=W.drewN q) (row:=none) ⟨rfl,rfl,rfl,ae _,fun _ _ _=>rfl⟩ (by simp)
theorem aW.set{H}{n}(h:aW W r H n){a}(ha:a.block≠r)  v  :aW (W.setCell a v) r H n:=
 h.kept (row:=some a.block) ⟨rfl,rfl,rfl,by simp,fun b hb hn=>bv W a v b (fun e=>hn (by rw[e]))⟩ (fun e=>ha (by grind))
theorem aW.grown_below{H}{n}(h:aW W r H n)(hb:Bt W W'):aW W' r H n:=h.kept (row:=none) (aa hb) (by simp)
theorem gm.congr{m}{p}{v v'}(h:gm W r p m v)(e:∀j,j<m->v j=v' j):gm W r p m v':=by
 rcases h with h|⟨b,o,h1,h2,h3,h4⟩;·exact .inl h
 ·exact .inr ⟨b,o,h1,h2,h3,fun j hj=>by grind⟩
theorem rJ{b}{t}{n}{f}(h:W.rowIs b t n f)(hg:W.grownBy W' (some r))(bj:b≠r):W'.rowIs b t n f:=h.of_block (hg.block b h.lt (fun e=>bj (by grind)))
theorem rowIs_below{b}{t}{n}{f}(h:W.rowIs b t n f)(hb:Bt W W'):W'.rowIs b t n f:=h.of_block (hb.block b h.lt)
end
def yc(a b c:Nat->Int)(k:Nat)(i:Nat):Value:=Iq (if i/3<k then(if i %3=0 then a (i/3)else if i %3=1 then b (i/3)else c (i/3))else 0)
theorem IU(w:World)  m   a b c   T  :(w.alloc (.cells (madeCells #[Iq 0,Iq 0,Iq 0] (m*3)) T)).rowIs w.heap.size T (m*3) (yc a b c 0):=by have:=World.rowIs_alloc w (madeCells #[Iq 0,Iq 0,Iq 0] (m*3)) T (yc a b c 0) (fun i hi=>by rw[size_madeCells]at hi;unfold yc;rw[if_neg (by omega)];simp only[madeCells];grind);rw[size_madeCells]at this;omega
theorem IQ{W:World}{b}{T}{m k}{a b1 c}(h:W.rowIs b T (m*3) (yc a b1 c k))  x y z  (hx:x=a k) (hy:y=b1 k) (hz:z=c k):
 (((W.setCell (aq b (k*3)) (Iq x)).setCell (aq b (k*3+1)) (Iq y)).setCell (aq b (k*3+2)) (Iq z)).rowIs b T (m*3) (yc a b1 c (k+1)):=by subst hx hy hz;refine(((h.set (k*3) (Iq (a k))).set (k*3+1) (Iq (b1 k))).set (k*3+2) (Iq (c k))).congr fun i hi=>?_;grind[yc]
theorem QP{W}{b}{T}{m}{a b1 c}(h:W.rowIs b T (m*3) (yc a b1 c m)):ib W b 0 m a b1 c:=by
 refine⟨h.lt,fun j hj=>⟨?_,?_,?_⟩⟩;·rw[cB,h.cell (by omega)];grind[yc]
 ·rw[cB,h.cell (by omega)];grind[yc]
 ·rw[cB,h.cell (by omega)];grind[yc]
def VZ(U W:World)(r lb m:Nat)(a b c:Nat->Int)(H:Nat->Int->Int)(n:Nat):Prop:=ib W lb 0 m a b c/\U.heap.size<=lb/\U.grownBy W (some r)/\aW W r H n
theorem gD{s}{L}(hT:gA s L){i j}(hi:i<L.length)(hj:j<(ac L i).kids.length):i<bf (ac L i).kids j/\bf (ac L i).kids j<L.length:=by have:=hT.nest.kid i _ hi (mD hj);omega
theorem gA.kids_le{s}{L}(hT:gA s L){i}(hi:i<L.length):(ac L i).kids.length<=100:=by have h1:=mG L.length (ac L i).kids (hT.nest.nd i hi) (fun x hx=>(hT.nest.kid i x hi hx).2.1);have:=hT.vl.cnt;omega
theorem yb(f:Nat)(ev:Array Value)(av:Nat->Array Value)(mb r g cap wb nn m:Nat)(L:List Nd)(KV:Nat->Value)(Wd:Nat->Int)(H:Nat->Int->Int)(ks:Nat->Nat)(N:Nat->Int)(kc:Nat->Nat)(p:Option Addr)(c:Nat)(U:World)
 (hf:Hid ((f=202/\∃X,ev=#[Pq X]/\av=fun j=>#[Iq (ks j:Int),Pq X])\/f=203/\∃X Y,ev=#[Pq X,Pq Y]/\av=fun j=>#[Iq (ks j:Int),Pq X,Pq Y]))
 (hV:Hid (tD U mb r g cap wb L KV Wd)) (hM:Hid (aW U r H nn)) (hm:m<=1000) (hks:Hid (∀j,j<m->ks j<L.length)) (hL:L.length<=1000000) (hK:Hid (gm U r p m (fun j=>(ks j:Int)))) (hN:Hid (∀j,j<m->0<=N j/\N j<=100000))
 (NC:Hid (∀j u,j<m->U.grownBy u (some r)->aW u r H (nn+cS kc j)->Cw f (av j) u fun e u'=>e=Rw (Iq (N j))/\Hid (u.grownBy u' (some r))/\Hid (aW u' r H (nn+cS kc (j+1))))):
 Cw 201 #[Pq mb,.slice p m c,.func (.func f) #[] ev] U fun e U'=>∃lb,e=Rw (Sq lb m m)/\VZ U U' r lb m (fun j=>LG (ac L (ks j)) (N j)) (fun j=>aC (ac L (ks j)) 2) (fun j=>aC (ac L (ks j)) 3) H (nn+cS kc m):=by
 have mw:=xX m (by omega);have AM:=qH<|atMost_any;obtain⟨a,ha⟩:∃f:Nat->Int,(fun j=>LG (ac L (ks j)) (N j))=f:=⟨_,rfl⟩;obtain⟨b,hb⟩:∃f:Nat->Int,(fun j=>aC (ac L (ks j)) 2)=f:=⟨_,rfl⟩;obtain⟨cc,hcc⟩:∃f:Nat->Int,(fun j=>aC (ac L (ks j)) 3)=f:=⟨_,rfl⟩;have HA:Hid (∀j,a j=LG (ac L (ks j)) (N j)):=fun j=>by grind
 have HB:Hid (∀j,b j=aC (ac L (ks j)) 2):=fun j=>by grind
 have Eu:Hid (∀j,cc j=aC (ac L (ks j)) 3):=fun j=>by grind
 rw[ha,hb,hcc];clear ha hb hcc;obtain⟨lb,hlb⟩:=af U.heap.size;have ZB:=qH<|hlb;have R0:Hid ((U.alloc (.cells (madeCells #[Iq 0,Iq 0,Iq 0] (m*3)) 325)).rowIs lb 325 (m*3) (yc a b cc 0)):=by rw[<-hlb];exact IU U m a b cc _
 have G0:Hid (U.grownBy (U.alloc (.cells (madeCells #[Iq 0,Iq 0,Iq 0] (m*3)) 325)) (some r)):=rf (aa (ag _ U)) _;have M0:Hid (aW (U.alloc (.cells (madeCells #[Iq 0,Iq 0,Iq 0] (m*3)) 325)) r H (nn+cS kc 0)):=hM.alloc _;have OH:lb≠r:=by have:=hM.lt;omega
 go_enter func201,ntmps201;go_wp2_with fail;clear hlb mw;go_loopw[17] (fun kv wr=>∃k:Nat,k<=m/\kv=Iq (k:Int)/\Hid (U.grownBy wr (some r))/\Hid (aW wr r H (nn+cS kc k))/\Hid (wr.rowIs lb 325 (m*3) (yc a b cc k))) (fun kv _=>m-(intOf kv).toNat);case atStart=>grind
 case round=>
  obtain⟨k,hk,rfl,LJ,Xq,qU⟩:=hrel;clear R0 G0 M0;by_cases hlt:k<m
  ·have aR:(k:Int)<(m:Int):=by omega
   have cZ:=hks k hlt;have hkI:(ks k:Int)<(L.length:Int):=by omega
   have HVR:=qH<|hV.grown LJ;have qk:=HVR.ms;have m0:wr.cell? (aq mb 0)=some (Sq g L.length cap):=by unfold Ms at qk;rw[Lib.cell_of_heap qk];rfl
   obtain⟨kb,ko,rfl,_,_,Wk⟩:=(hK.grown LJ).resolve_left (by omega);have ck:=Wk k hlt;have iD:=kF (HVR.len _ cZ) (KV (ks k));have pQ:=HVR.nd _ cZ;rw[iD]at pQ;have _l:=hN k hlt;have eA:=HA k;have eB:=HB k;have eC:=Eu k;unfold LG at eA;generalize(ac L (ks k)).text.toArray=Zq at pQ;generalize((ac L (ks k)).kind:Int)=kd at pQ;generalize aC (ac L (ks k)) 0=a0 at pQ;generalize aC (ac L (ks k)) 1=a1 at pQ eA;generalize aC (ac L (ks k)) 2=a2 at pQ eA eB;generalize aC (ac L (ks k)) 3=a3 at pQ eA eC;generalize aC (ac L (ks k)) 4=a4 at pQ;generalize aC (ac L (ks k)) 5=a5 at pQ;generalize aC (ac L (ks k)) 6=a6 at pQ;generalize aC (ac L (ks k)) 7=a7 at pQ;generalize aC (ac L (ks k)) 8=a8 at pQ;generalize aC (ac L (ks k)) 9=a9 at pQ;generalize aC (ac L (ks k)) 10=b0 at pQ;generalize aC (ac L (ks k)) 11=b1 at pQ;generalize(ac L (ks k)).up=up at pQ;obtain⟨pk,ckk,xH,_⟩:=HVR.kid _ cZ;generalize(ac L (ks k)).kids.length=kl at xH;rw[xH]at pQ;obtain⟨tx,oM⟩:∃z:ByteArray,⟨Zq⟩=z:=⟨_,rfl⟩;rw[oM]at pQ;have hq:=pQ;have q0:wr.cell? (aq g (ks k*16))=some (Iq kd):=hq 0 _ rfl;have q1:=hq 1 _ rfl;have q2:=hq 2 _ rfl;have q3:=hq 3 _ rfl;have q4:=hq 4 _ rfl;have q5:=hq 5 _ rfl;have q6:=hq 6 _ rfl;have q7:=hq 7 _ rfl;have q8:=hq 8 _ rfl;have q9:=hq 9 _ rfl;have _G:=hq 10 _ rfl;have _H:=hq 11 _ rfl;have _I:=hq 12 _ rfl;have _J:=hq 13 _ rfl;have _K:=hq 14 _ rfl;have _L:=hq 15 _ rfl;obtain⟨W1,bZ⟩:=af (wr.alloc (.cells #[Iq kd,Iq a0,Iq a1,Iq a2,Iq a3,Iq a4,Iq a5,Iq a6,Iq a7,Iq a8,Iq a9,Iq b0,Iq b1,.string tx,.slice pk kl ckk,Iq up] 94));obtain⟨A,hA⟩:=af wr.heap.size;have hlA:lb<A:=by rw[<-hA];exact qU.lt
   have dm:W1.heap[A]?=some (.cells #[Iq kd,Iq a0,Iq a1,Iq a2,Iq a3,Iq a4,Iq a5,Iq a6,Iq a7,Iq a8,Iq a9,Iq b0,Iq b1,.string tx,.slice pk kl ckk,Iq up] 94 (0,0)):=by rw[<-bZ,<-hA];show(wr.heap.push _)[wr.heap.size]?=_;exact I7
   have hgA:A≠r:=by have:=Xq.lt;omega
   have dj:Hid (∀u,W1.grownBy u (some r)->∀(t:Nat) x,#[Iq kd,Iq a0,Iq a1,Iq a2,Iq a3,Iq a4,Iq a5,Iq a6,Iq a7,Iq a8,Iq a9,Iq b0,Iq b1,.string tx,.slice pk kl ckk,Iq up][t]?=some x->u.cell? (aq A t)=some x):=fun u hu t x ht=>by have EY:=(az.1 dm).1;have:=hu.block A EY (fun e=>by injection e with e;omega);rw[Lib.cell_of_heap (this.trans dm)];exact ht
   have HG1:Hid (U.grownBy W1 (some r)):=by rw[<-bZ];exact rf LJ _
   have HM1:Hid (aW W1 r H (nn+cS kc k)):=by rw[<-bZ];exact Xq.alloc _
   have HR1:Hid (W1.rowIs lb 325 (m*3) (yc a b cc k)):=by rw[<-bZ];exact qU.alloc _
   have z2:W1.cell? (aq A 2)=some (Iq a1):=dj W1 (aa (ag _ _)) 2 _ rfl;have z3:W1.cell? (aq A 3)=some (Iq a2):=dj W1 (aa (ag _ _)) 3 _ rfl;have z4:W1.cell? (aq A 4)=some (Iq a3):=dj W1 (aa (ag _ _)) 4 _ rfl;have hlU:U.heap.size<=lb:=by rw[ZB.out];exact ae _
   have om:Hid (∀u x,W1.grownBy u (some r)->aW u r H (nn+cS kc (k+1))->x=a k->u.cell? (aq A 3)=some (Iq a2)/\u.cell? (aq A 4)=some (Iq a3)/\lb<u.heap.size/\(∀j,u.frozen? (aq lb j)=false)/\(∃v,u.cell? (aq lb (k*3))=some v)/\(∃v,u.cell? (aq lb (k*3+1))=some v)/\(∃v,u.cell? (aq lb (k*3+2))=some v)/\
    Hid (U.grownBy (((u.setCell (aq lb (k*3)) (Iq x)).setCell (aq lb (k*3+1)) (Iq a2)).setCell (aq lb (k*3+2)) (Iq a3)) (some r))/\Hid (aW (((u.setCell (aq lb (k*3)) (Iq x)).setCell (aq lb (k*3+1)) (Iq a2)).setCell (aq lb (k*3+2)) (Iq a3)) r H (nn+cS kc (k+1)))/\Hid ((((u.setCell (aq lb (k*3)) (Iq x)).setCell (aq lb (k*3+1)) (Iq a2)).setCell (aq lb (k*3+2)) (Iq a3)).rowIs lb 325 (m*3) (yc a b cc (k+1)))):=fun u x hu KF hx=>by have Eo:=rJ HR1 hu OH;have _a:=HG1.trans hu;refine⟨dj u hu 3 _ rfl,dj u hu 4 _ rfl,Eo.lt,fun j=>Eo.frozen j,⟨_,Eo.cell (by omega)⟩,⟨_,Eo.cell (by omega)⟩,⟨_,Eo.cell (by omega)⟩,kw (kw (kw _a hlU _) hlU _) hlU _,((KF.set OH _).set OH _).set OH _,IQ Eo _ _ _ hx eB.symm eC.symm⟩
   have HEA:=qH<|eA;clear iD pQ hq dm xH oM eA eB eC qk Wk hlA hgA hks;by_cases h3:a3=0
   ·subst h3;have HC:Hid (∀u,(u=W1\/u=W1.drew)->Cw f (av k) u fun e u'=>e=Rw (Iq (N k))/\u'.cell? (aq A 3)=some (Iq a2)/\Hid (W1.grownBy u' (some r))/\Hid (aW u' r H (nn+cS kc (k+1)))):=fun u hu=>by
     have Ap:W1.grownBy u (some r):=by
      rcases hu with rfl|rfl;·exact aa (ag _ _)
      ·exact mh (aa (ag _ _))
     have rj:aW u r H (nn+cS kc k):=by
      rcases hu with rfl|rfl;·exact HM1
      ·exact HM1.drew
     refine(NC k u hlt (HG1.trans Ap) rj).mono ?_;rintro e u' ⟨rfl,q1,q2⟩;have:=Ap.trans q1;exact⟨rfl,dj u' this 3 _ rfl,this,q2⟩
    have HX:Hid (max a1 (rz (N k) a2)=a k):=by show _=_;rw[HEA.out,if_pos rfl]
    obtain⟨y,hy⟩:=af (N k);obtain⟨z,hz⟩:=af (rz (N k) a2);have AM1:Hid (∀w,Cw 234 #[Iq y,Iq a2] w fun e w'=>e=Rw (Iq z)/\w'=w):=fun w=>by rw[<-hz,<-hy];exact AM _ _ _
    rw[hz]at HX;rw[hy]at HC;clear hy hz AM NC;go_upto_region 8 with fail;go_cut[11]from 34 to 41 (fun v wx=>v=Iq (max a1 z)/\Hid (W1.grownBy wx (some r))/\Hid (aW wx r H (nn+cS kc (k+1))));case first=>
     clear bZ hA;rcases hf.out with⟨rfl,X,rfl,rfl⟩|⟨rfl,X,Y,rfl,rfl⟩<;>dsimp only at HC;all_goals go_region_held(fun W=>W.cell? (aq A 3)=some (Iq a2)) (go_keep) (first|((first|go_at_call 202|go_at_call 203);refine ai (HC _ (by first|exact .inl rfl|exact .inr rfl)) ?_;rintro e u ⟨rfl,hu3,Jm,HMu⟩)|(go_at_call 234;refine ai (AM1 _) ?_;rintro e u2 ⟨rfl,OS⟩;obtain rfl:=OS.symm))
     all_goals go_wp2_with fail
     all_goals go_meet
     all_goals exact⟨by first|rfl|exact congrArg (Value.int .i64) (by omega),by first|exact Jm|exact mh Jm,by first|exact HMu|exact HMu.drew⟩
    case rest=>
     obtain⟨rfl,Jm,HMu⟩:=hcut;obtain⟨f3,f4,f5,f6,⟨v0,f7⟩,⟨v1,f8⟩,⟨v2,f9⟩,F1,F2,F3⟩:=om wc (max a1 z) Jm HMu HX;clear z2 z3 z4 bZ hA HC AM1 om;go_wp2;go_roundw;case rel=>exact⟨k+1,hlt,by go_num,F1,F2,F3⟩
     case measure=>simp[intOf];omega
   ·have e3:(a3==0)=false:=by simpa using h3
    have HX:Hid (a1=a k):=by show _=_;rw[HEA.out,if_neg h3]
    obtain⟨f3,f4,f5,f6,⟨v0,f7⟩,⟨v1,f8⟩,⟨v2,f9⟩,F1,F2,F3⟩:=om W1 a1 (aa (ag _ _)) (HM1.mono (by show nn+cS kc k<=nn+(cS kc k+kc k);omega)) HX;clear om NC;go_wp2;go_roundw;case rel=>exact⟨k+1,hlt,by go_num,F1,F2,F3⟩
    case measure=>simp[intOf];omega
  ·have aR:¬(k:Int)<(m:Int):=by omega
   obtain rfl:k=m:=by omega
   go_wp2;go_ret;exact⟨lb,rfl,QP qU,by rw[ZB.out];omega,LJ,Xq⟩
def Cb(d:Nd)(id:Int):Bool:=decide ((d.kind:Int)=4)&&decide (aC d 0=id)
def Mf(L:List Nd)(id:Int)(j:Nat):Nat->Int
 |0=>-1
 |f+1=>if Cb (ac L j) id=true then(j:Int)else Mf L id (j+1) f
def sD(L:List Nd)(id:Int):Int:=if id=0 then-1 else Mf L id 0 L.length
theorem Qq(L:List Nd)(id:Int):∀f j,Mf L id j f=-1\/∃i:Nat,j<=i/\i<j+f/\Mf L id j f=(i:Int)/\Cb (ac L i) id=true
 |0,j=>.inl rfl
 |f+1,j=>by
  unfold Mf;by_cases h:Cb (ac L j) id=true;·rw[if_pos h];exact .inr ⟨j,by omega,by omega,rfl,h⟩
  ·rw[if_neg h];rcases Qq L id f (j+1)with q|⟨i,q1,q2,q3,q4⟩;·exact .inl q
   ·exact .inr ⟨i,by omega,by omega,q3,q4⟩
theorem scI_is(L:List Nd)(id:Int):sD L id=-1\/∃i:Nat,i<L.length/\sD L id=(i:Int)/\(ac L i).kind=4/\aC (ac L i) 0=id/\id≠0:=by
 unfold sD;by_cases h:id=0;·exact .inl (if_pos h)
 ·rw[if_neg h];rcases Qq L id L.length 0 with q|⟨i,q1,q2,q3,q4⟩;·exact .inl q
  ·simp[Cb]at q4;exact .inr ⟨i,by omega,q3,by omega,q4.2,h⟩
structure Ju(U:World)(g:Nat)(L:List Nd):Prop where
 lt:g<U.heap.size
 len:∀j,j<L.length->(ac L j).attr.length=12
 nd:∀j,j<L.length->∃p c,U.rangeAt g (j*16) (aZ (ac L j) (.slice p (ac L j).kids.length c))
theorem Ju.block{U U':World}{g:Nat}{L:List Nd}(h:Ju U g L)(hb:U'.heap[g]?=U.heap[g]?):Ju U' g L:=by
 refine⟨?_,h.len,fun j hj=>?_⟩;·rw[D7 h.lt]at hb;exact(az.1 hb).1
 ·obtain⟨p,c,q⟩:=h.nd j hj;exact⟨p,c,fun t v hv=>(ba (a:=(aq g _)) hb).trans (q t v hv)⟩
theorem PN.ndc{W:World}{B g cap:Nat}{L:List Nd}{KV:Nat->Value}(h:PN W B (Sq g L.length cap) L KV)(h0:0<L.length):Ju W g L/\B<=g:=by
 obtain⟨xs,hx⟩:=h.nr.row;obtain⟨kM,hB⟩:g<W.heap.size/\B<=g:=by
  rcases de hx with⟨e,_⟩|⟨g',cH,e,hb,hl,_⟩;·cases e
  ·grind
 refine⟨⟨kM,h.len,fun j hj=>?_⟩,hB⟩;obtain⟨p,c,e⟩:∃p c,KV j=.slice p (ac L j).kids.length c:=by
  rcases de (h.nr.kids j hj)with⟨e,h0⟩|⟨g',cH,e,_⟩;·exact⟨none,0,by rw[e,h0]⟩
  ·exact⟨_,_,e⟩
 exact⟨p,c,fun t v hv=>h.nr.cells g rfl j hj t v (by rw[e];exact hv)⟩
theorem scOf1_any(d:Nd)(hl:d.attr.length=12)(p:Option Addr)(n c:Nat)(id:Int)(b:Nat)(W:World)(hb:W.cell? (aq b 0)=some (Iq id))(hbl:b<W.heap.size):
 Cw 39 #[.agg (aZ d (.slice p n c)).toArray,Pq b] W fun e W'=>e=Rw (.bool (Cb d id))/\Gr W W':=by
 rw[kF hl];unfold Cb;generalize d.text.toArray=tx;generalize(d.kind:Int)=kd;generalize aC d 0=a0;generalize aC d 1=a1;generalize aC d 2=a2;generalize aC d 3=a3;generalize aC d 4=a4;generalize aC d 5=a5;generalize aC d 6=a6;generalize aC d 7=a7;generalize aC d 8=a8;generalize aC d 9=a9;generalize aC d 10=b0;generalize aC d 11=b1;generalize d.up=up;by_cases h1:kd=4
 ·by_cases h2:a0=id;·subst h1 h2;go_enter func39,ntmps39;go_wp2;go_ret;exact⟨by simp,(Gr.refl _).alloc _⟩
  ·have e2:(a0==id)=false:=by simpa using h2
   subst h1;go_enter func39,ntmps39;go_wp2;go_ret;exact⟨by simp[h2],(Gr.refl _).alloc _⟩
 ·have e1:(kd==4)=false:=by simpa using h1
  go_enter func39,ntmps39;go_wp2;go_ret;exact⟨by simp[h1],(Gr.refl _).alloc _⟩
theorem YT:(prog.info? 94).map (·.size)=some 16:=by kernel_rfl
theorem idxF_any{L:List Nd}(g cap b:Nat)(id:Int)(U:World)(hV:Ju U g L)(hLn:L.length<=100)(hb:U.cell? (aq b 0)=some (Iq id))(hbl:b<U.heap.size):
 Cw 38 #[Sq g L.length cap,.func (.func 39) #[] #[Pq b]] U fun e U'=>e=Rw (Iq (Mf L id 0 L.length))/\Gr U U':=by
 have eg:∀args w,(callFunc 39 args).run prog w=.ok (.enter 39 args) w:=enters_of func39 (by kernel_rfl) rfl;obtain⟨m,hm⟩:=af L.length;have HM:=qH hm;have HV:=qH hV;have HB:=qH hb;obtain⟨d0,Hp⟩:∃d,prog.underlying 94=some d/\d.isRow=true:=⟨_,underlying94,rfl⟩;rw[hm];clear hb;go_enter func38,ntmps38;go_wp2;go_loopw[8] (fun kv wr=>∃k:Nat,k<=m/\kv=Iq (k:Int)/\Hid (Gr U wr)/\Hid (Mf L id 0 m=Mf L id k (m-k))) (fun kv _=>m-(intOf kv).toNat);case atStart=>exact⟨0,bm _,rfl,Gr.refl _,rfl⟩
 case round=>
  obtain⟨k,hk,rfl,HG,HS⟩:=hrel;by_cases hlt:k<m
  ·have aR:(k:Int)<(m:Int):=by omega
   have cZ:k<L.length:=by have:=HM.out;omega
   obtain⟨p,c,hrg⟩:=(HV.block (HG.block HV.lt)).nd k cZ;have hl:=HV.len k cZ;have CL:=qH<|scOf1_any (ac L k) hl p (ac L k).kids.length c id b wr ((HG.below.cell (p:=(aq b 0)) hbl).trans HB) (zz007 hbl HG.below.size);have uy:Mf L id k (m-k)=if Cb (ac L k) id=true then(k:Int)else Mf L id (k+1) (m-(k+1)):=by rw[show m-k=(m-(k+1))+1 by omega];rfl
   have HST:=qH uy;clear uy;have hi:(prog.info? 94).map (·.size)=some (aZ (ac L k) (.slice p (ac L k).kids.length c)).length:=by rw[Qb hl];exact YT
   generalize iD:aZ (ac L k) (.slice p (ac L k).kids.length c)=cs at hrg CL hi;clear iD;cases hq:Cb (ac L k) id with
   |true=>rw[hq]at CL HST;go_wp2_with(first|(refine wpList_load_mid rfl 94 _ rfl g (k*16) rfl cs d0 hrg Hp.1 Hp.2 hi ?_)|(go_at_fn 39;refine CL.mono ?_;rintro e W2 ⟨rfl,X8⟩));go_ret;exact⟨by rw[HS.out,HST.out];simp,HG.trans X8⟩
   |false=>
    rw[hq]at CL HST;go_wp2_with(first|(refine wpList_load_mid rfl 94 _ rfl g (k*16) rfl cs d0 hrg Hp.1 Hp.2 hi ?_)|(go_at_fn 39;refine CL.mono ?_;rintro e W2 ⟨rfl,X8⟩));go_roundw;case rel=>exact⟨k+1,by omega,by go_num,HG.trans X8,by show _=_;rw[HS.out,HST.out];simp⟩
    case measure=>simp[intOf];omega
  ·have aR:¬(k:Int)<(m:Int):=by omega
   obtain rfl:k=m:=by omega
   go_wp2;go_ret;exact⟨by rw[HS.out];simp[Mf],HG⟩
theorem scrollOf_any{L:List Nd}(g cap:Nat)(id:Int)(U:World)(hV:Ju U g L)(hLn:L.length<=100):
 Cw 22 #[Sq g L.length cap,Iq id] U fun e U'=>e=Rw (Iq (sD L id))/\Gr U U':=by
 unfold sD;by_cases h0:id=0;·subst h0;rw[if_pos rfl];go_enter func22,ntmps22;go_wp2;go_ret;exact⟨rfl,(Gr.refl _).alloc _⟩
 ·rw[if_neg h0];have e0:(id==0)=false:=by simpa using h0
  have G1:=qH<|(Gr.refl U).alloc (.cells #[Iq id] 3);have IX:=qH<|idxF_any g cap U.heap.size id (U.alloc (.cells #[Iq id] 3)) (hV.block (G1.block hV.lt)) hLn (by simp) (by simp);clear hV;generalize L.length=m at IX⊢;generalize Mf L id 0 m=z at IX⊢;go_enter func22,ntmps22;go_wp2_with(go_at_call 38;refine IX.mono ?_;rintro e W2 ⟨rfl,X8⟩);go_ret;exact⟨rfl,G1.trans X8⟩
