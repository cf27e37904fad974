import Derived.Test.YtaanagpadfcmlaaGreatDoorQ41
import Derived.Test.YtaanagpadfcmlaaGreatDoorQ26
set_option linter.all false
set_option maxRecDepth 100000
set_option maxHeartbeats 16000000
namespace Go.Proofs.YtaanagpadfcmlaaGreatDoor
open Go.RowKit Go.Sort
theorem Dc(F:Nat->Nat)a:∀m,m<=a.length->cS (λj=>F (aH a j)) m=((a.take m).map F).sum
 |0,_=>by simp[cS]
 |m+1,h=>by
  have h1:=Dc F a m dg;have b:m<a.length:=dg;rw[gG b,kQ,Kl,<-h1];grind[cS,aH]
theorem MS a f i:(vis a (f+1) i).length=cS (λj=>(vis a f (aH (a i) j)).length) (a i).length+1:=by rw[Dc (λc=>(vis a f c).length) (a i) _ (ae _),io];simp_all[vis]
theorem dp.nest{s}{L}(h:dp s L):uG L.length (λi=>(aa L i).kids) (λi=>(aa L i).up):=by
 refine⟨λi c hi b=>?_,λi hi=>Cd (λk c d h1 a=>h.gr.rise i k c d hi h1 a),λi hi=>h.gr.upl i hi,λi hi=>?_⟩;·obtain⟨k,f⟩:=Kw.1 b;exact h.gr.kid i k c hi f
 ·by_cases e:i=0;·subst e;show-1<=(aa L 0).up;rw[h.up0];decide
  ·have:=h.gr.up0 i hi;omega
theorem Ch.cover{L}{d}{b}{a e}(h:Ch L d b a e):∀j,a<=j->j<e->j∈b\/∃i,a<=i/\i<j/\j∈(L i).kids:=by
 induction h with
 |nil d a=>omega
 |@cons d c r f e h1 m g n o p=>
  intro j q s;by_cases k:j=c;·grind
  ·by_cases l:j<f;·grind
   ·have:=g.le;grind
theorem dp.kid_of{s}{L}(h:dp s L)j(f:0<j)(b:j<L.length):∃i k,i<j/\k<(aa L i).kids.length/\aH (aa L i).kids k=j/\(aa L j).up=(i:Int):=by
 rcases h.ch.cover j (aR _) b with q|⟨i,_,d,a⟩;·grind
 ·obtain⟨k,c,e⟩:=o_.1 a;refine⟨i,k,d,c,?_,(h.nest.kid i j dg a).2.2⟩;grind[aH]
theorem Nv.bd{d}(h:Nv d):(∀k,k<12->-1<=ap d k/\ap d k<=1000000)/\(0<=ap d 4/\ap d 4<=100)/\(0<=ap d 5/\ap d 5<=20)/\(0<=ap d 6/\ap d 6<=1)/\0<=ap d 0/\0<=ap d 1/\0<=ap d 3:=by
 have a:∀k,k<12->ap d k=aQ[k]?.getD 0\/(0<=ap d k/\ap d k<=gX[k]?.getD 0):=λk b=>(h.att k b).imp id λq=>q.2;have f:=a 0 (by decide);have g:=a 1 (by decide);have i:=a 2 (by decide);have j:=a 3 (by decide);have l:=a 4 (by decide);have m:=a 5 (by decide);have n:=a 6 (by decide);have o:=a 7 (by decide);have p:=a 8 (by decide);have s:=a 9 (by decide);have c:=a 10 (by decide);have e:=a 11 (by decide);simp only[aQ,gX,Ku,List.getElem?_cons_succ,Km]at f g i j l m n o p s c e;refine⟨λk b=>?_,dg,dg,dg,dg,dg,dg⟩;match k,b with
 |0,_=>omega
 |1,_=>omega
 |2,_=>omega
 |3,_=>omega
 |4,_=>omega
 |5,_=>omega
 |6,_=>omega
 |7,_=>omega
 |8,_=>omega
 |9,_=>omega
 |10,_=>omega
 |11,_=>omega
theorem lh{d}(h:d.attr.length=12)a:bC d a=[Iq d.kind,Iq (ap d 0),Iq (ap d 1),Iq (ap d 2),Iq (ap d 3),Iq (ap d 4),Iq (ap d 5),Iq (ap d 6),Iq (ap d 7),Iq (ap d 8),Iq (ap d 9),Iq (ap d 10),Iq (ap d 11),.string ⟨d.text.toArray⟩,a,Iq d.up]:=by
 unfold bC ap;match d.attr,h with
 |[b,c,e,f,g,i,j,k,l,m,n,o],_=>rfl
structure qk(U:World)(mb r g cap wb:Nat)(L:List Nd)(KV:Nat->Value)(Wd:Nat->Int):Prop where
 ms:Ms U mb (Sq g L.length cap) (Sq wb L.length L.length) r
 gl:g<U.heap.size
 wl:wb<U.heap.size
 mr:mb≠r
 gr:g≠r
 wr:wb≠r
 len:∀j,j<L.length->(aa L j).attr.length=12
 nd:∀j,j<L.length->∀(t:Nat) x,(bC (aa L j) (KV j))[t]?=some x->U.cell? (aj g (j*16+t))=some x
 kid:∀j,j<L.length->∃p c,KV j=.slice p (aa L j).kids.length c/\fL U r p (aa L j).kids.length (λt=>(aH (aa L j).kids t:Int))
 wd:∀j,j<L.length->U.cell? (aj wb j)=some (Iq (Wd j))
theorem qk.ml{U}{b r g a e}{L}{c}{d}(h:qk U b r g a e L c d):b<U.heap.size:=(aD.1 h.ms).1
theorem qk.grown{U k}{l r g d m}{L}{n}{o}(h:qk U l r g d m L n o)(i:U.grownBy k (some r)):qk k l r g d m L n o:=by have w:=h.ml;have a:∀b,b<U.heap.size->b≠r->k.heap[b]?=U.heap[b]?:=λb h1 s=>i.block b h1 (λq=>s (by simpa using q));refine⟨(a l w h.mr).trans h.ms,zz007 h.gl i.size,zz007 h.wl i.size,h.mr,h.gr,h.wr,h.len,λj f t x v=>(bf (a g h.gl h.gr)).trans (h.nd j f t x v),λj f=>?_,λj f=>(bf (a m h.wl h.wr)).trans (h.wd j f)⟩;obtain⟨p,c,e,u⟩:=h.kid j f;exact⟨p,c,e,u.grown i⟩
section
variable{U W W':World} {r:Nat}
theorem oP(h:U.grownBy W (some r))o:U.grownBy (W.alloc o) (some r):=h.trans (ac ((af _ W).alloc (ae _) _))
theorem fS(h:U.grownBy W (some r)):U.grownBy W.drew (some r):=h.trans (ac ((af _ W).drew))
theorem ek(h:U.grownBy W (some r)){a}(e:U.heap.size<=a.block)v:U.grownBy (W.setCell a v) (some r):=
 ⟨h.os,h.tape,h.output,aF h.size rn,λb c d=>(bK W a v b dg).trans (h.block b c d)⟩
theorem bm.alloc{H}{n}(h:bm W r H n)o:bm (W.alloc o) r H n:=h.kept (row:=none) (World.grownBy_alloc W o none) rn
theorem bm.drew{H}{n}(h:bm W r H n):bm W.drew r H n:=h.kept (row:=none) (ac ((af _ W).drew)) rn
theorem bm.drewN{H}{n}(h:bm W r H n)q:bm (W.drewN q) r H n:=h.kept (W':=W.drewN q) (row:=none) ⟨rfl,rfl,rfl,ae _,λ_ _ _=>rfl⟩ rn
theorem bm.set{H}{n}(h:bm W r H n){a}(c:a.block≠r)v:bm (W.setCell a v) r H n:=
 h.kept (row:=some a.block) ⟨rfl,rfl,rfl,rn,λb f d=>bK W a v b (λe=>d (by rw[e]))⟩ (λe=>c rd)
theorem bm.grown_below{H}{n}(h:bm W r H n)(a:Bt W W'):bm W' r H n:=h.kept (row:=none) (ac a) rn
theorem fL.congr{m}{p}{v a}(h:fL W r p m v)(e:∀j,j<m->v j=a j):fL W r p m a:=by
 rcases h with h|⟨b,o,h1,c,d,f⟩;·exact .inl h
 ·exact .inr ⟨b,o,h1,c,d,λj g=>rd⟩
theorem o5{b}{t}{n}{f}(h:W.rowIs b t n f)(c:W.grownBy W' (some r))(a:b≠r):W'.rowIs b t n f:=h.of_block (c.block b h.lt (λe=>a rd))
theorem rowIs_below{b}{t}{n}{f}(h:W.rowIs b t n f)(a:Bt W W'):W'.rowIs b t n f:=h.of_block (a.block b h.lt)
end
def un(a b c:Nat->Int)(k:Nat)(i:Nat):Value:=Iq (if i/3<k then(if i %3=0 then a (i/3)else if i %3=1 then b (i/3)else c (i/3))else 0)
theorem D3(w:World)m a b c T:(w.alloc (.cells (madeCells #[Iq 0,Iq 0,Iq 0] (m*3)) T)).rowIs w.heap.size T (m*3) (un a b c 0):=by have:=World.rowIs_alloc w (madeCells #[Iq 0,Iq 0,Iq 0] (m*3)) T (un a b c 0) (λi hi=>by rw[size_madeCells]at hi;unfold un;rw[if_neg dg];simp only[madeCells];grind);rw[size_madeCells]at this;omega
theorem DZ{W:World}{b}{T}{m k}{a d c}(h:W.rowIs b T (m*3) (un a d c k))x y z(e:x=a k)(hy:y=d k)(f:z=c k):
 (((W.setCell (aj b (k*3)) (Iq x)).setCell (aj b (k*3+1)) (Iq y)).setCell (aj b (k*3+2)) (Iq z)).rowIs b T (m*3) (un a d c (k+1)):=by subst e hy f;refine(((h.set (k*3) (Iq (a k))).set (k*3+1) (Iq (d k))).set (k*3+2) (Iq (c k))).congr λi hi=>?_;grind[un]
theorem J9{W}{b}{T}{m}{a d c}(h:W.rowIs b T (m*3) (un a d c m)):dS W b 0 m a d c:=by
 refine⟨h.lt,λj e=>⟨?_,?_,?_⟩⟩;·rw[aZ,h.cell dg];grind[un]
 ·rw[aZ,h.cell dg];grind[un]
 ·rw[aZ,h.cell dg];grind[un]
def Nj(U W:World)(r lb m:Nat)(a b c:Nat->Int)(H:Nat->Int->Int)(n:Nat):Prop:=dS W lb 0 m a b c/\U.heap.size<=lb/\U.grownBy W (some r)/\bm W r H n
theorem di{s}{L}(a:dp s L){i j}(hi:i<L.length)(b:j<(aa L i).kids.length):i<aH (aa L i).kids j/\aH (aa L i).kids j<L.length:=by have:=a.nest.kid i _ hi (eK b);omega
theorem dp.kids_le{s}{L}(a:dp s L){i}(hi:i<L.length):(aa L i).kids.length<=100:=by have h1:=k9 L.length (aa L i).kids (a.nest.nd i hi) (λx b=>(a.nest.kid i x hi b).2.1);have:=a.vl.cnt;omega
def N3(W:World)(kv:Value)(ks:List Nat):Prop:=∃p c,kv=.slice p ks.length c/\(ks=[]\/∃kb ko,p=some (aj kb ko)/\kb<W.heap.size/\∀i,i<ks.length->W.cell? (aj kb (ko+i))=some (Iq ((ks[i]?.getD 0:Nat):Int)))
structure Xd(W:World)(g j:Nat)(d:Nd)(ab:Nat)(kv:Value):Prop where
 c0:W.cell? (aj g (j*5))=some (Iq (d.kind:Int))
 c1:W.cell? (aj g (j*5+1))=some (Sq ab 12 12)
 c2:W.cell? (aj g (j*5+2))=some (.string ⟨d.text.toArray⟩)
 c3:W.cell? (aj g (j*5+3))=some kv
 c4:W.cell? (aj g (j*5+4))=some (Iq d.up)
 lab:ab<W.heap.size
 att:∀k,k<12->W.cell? (aj ab k)=some (Iq (d.attr[k]?.getD 0))
 kids:N3 W kv d.kids
structure ip(W:World)(g n:Nat)(L:Nat->Nd):Prop where
 lt:g<W.heap.size
 nd:∀j,j<n->∃ab kv,Xd W g j (L j) ab kv
theorem ip.below{W W'}{g n}{L}(h:ip W g n L)(a:Bt W W'):ip W' g n L:=by
 refine⟨zz007 h.lt a.size,λj m=>?_⟩;obtain⟨ab,s,q⟩:=h.nd j m;refine⟨ab,s,(a.cell (p:=(aj g _)) h.lt).trans q.c0,(a.cell (p:=(aj g _)) h.lt).trans q.c1,(a.cell (p:=(aj g _)) h.lt).trans q.c2,(a.cell (p:=(aj g _)) h.lt).trans q.c3,(a.cell (p:=(aj g _)) h.lt).trans q.c4,zz007 q.lab a.size,λk o=>(a.cell (p:=(aj ab k)) q.lab).trans (q.att k o),?_⟩;obtain⟨p,c,e,r⟩:=q.kids;refine⟨p,c,e,?_⟩;rcases r with r|⟨b,d,f,h1,l⟩;·grind
 ·exact .inr ⟨b,d,f,zz007 h1 a.size,λi hi=>(a.cell (p:=(aj b (d+i))) h1).trans (l i hi)⟩
theorem Fq{W:World}{B}{e}{a}(h:W.ownsRow B 3 1 e a.length (iX a)):∃p c,e=.slice p a.length c/\(a=[]\/∃b d,p=some (aj b d)/\b<W.heap.size/\∀i,i<a.length->W.cell? (aj b (d+i))=some (Iq ((a[i]?.getD 0:Nat):Int))):=by
 rcases cU h with⟨rfl,k⟩|⟨g,f,rfl,h1,j,l,m⟩;·grind
 ·refine⟨_,_,rfl,.inr ⟨g,0,rfl,j,λi hi=>?_⟩⟩;rw[aZ,h.cellAt i dg];grind[iX]
theorem RD.nds{W}{B}{g b}{L}{d}{e}(h:RD W B (Sq g L.length b) L d e)(f:g<W.heap.size):ip W g L.length (aa L):=by refine⟨f,λj a=>⟨d j,e j,?_⟩⟩;have c:=λt u l=>h.nr.cells g rfl j a t u l;exact⟨c 0 _ rfl,c 1 _ rfl,c 2 _ rfl,c 3 _ rfl,c 4 _ rfl,(h.att j a).2.1,λk i=>((h.att j a).2.2 k i).1,Fq (h.nr.kids j a)⟩
