import Derived.Test.YtiaimhjebnobnaaGreatDoorQ23
import Derived.Test.YtiaimhjebnobnaaGreatDoorQ39
import Derived.Test.YtiaimhjebnobnaaGreatDoorQ17
set_option linter.all false
set_option maxRecDepth 100000
set_option maxHeartbeats 16000000
namespace Go.Proofs.YtiaimhjebnobnaaGreatDoor
open Go.RowKit Go.Sort
def aF(d:Nd)(k:Nat):Int:=d.attr[k]?.getD 0
def aP(ks:List Nat)(j:Nat):Nat:=ks[j]?.getD 0
def wV(d:Nd)(x:Int):Int:=if aF d 3=0 then max (aF d 1) (qh x (aF d 2))else aF d 1
def ci(L:List Nd)(ks:List Nat)(N:Nat->Int)(aY cj:Int)(g:Nat->Int):Prop:=
 cO ks.length (fun j=>cl (wV (ae L (aP ks j)) (N j))) (fun j=>eO (wV (ae L (aP ks j)) (N j)) (aF (ae L (aP ks j)) 2)) (fun j=>cl (aF (ae L (aP ks j)) 3)) (rm aY cj ks.length) g
theorem vg(a b c:Nat->Int):om (fun j=>cl (a j)) (fun j=>eO (a j) (b j)) (fun j=>cl (c j)):=fun j=>
 ⟨(dU _).1,(iP _ _).1,(iP _ _).2,(dU _).1,(dU _).2⟩
theorem ci.uniq{L}{ks}{N}{aY cj}{g g'}(h:ci L ks N aY cj g)(h':ci L ks N aY cj g'):∀j,j<ks.length->g j=g' j:=cO.uniq (vg _ _ _) h h'
def bQ:List UInt8->List (List UInt8)
 |[]=>[[]]
 |c::t=>if c=10 then[]::bQ t else match bQ t with
  |[]=>[[c]]
  |p::ps=>(c::p)::ps
theorem Qw:∀t,bQ t≠[]
 |[]=>by simp[bQ]
 |c::t=>by grind[bQ]
theorem rM:∀  a b,(∀x∈a,x≠10)->bQ (a++10::b)=a::bQ b
 |[],b,_=>by simp[bQ]
 |c::a,b,h=>by have h1:=rM a b (fun x hx=>h x (by simp[hx]));grind[bQ]
theorem paras_one:∀  a,(∀x∈a,x≠10)->bQ a=[a]
 |[],_=>rfl
 |c::a,h=>by have h1:=paras_one a (fun x hx=>h x (by simp[hx]));grind[bQ]
theorem iG:∀  t,(bQ t).length=t.count 10+1
 |[]=>rfl
 |c::t=>by have h1:=iG t;grind[bQ,Qw]
def Qg(l:List Int):Int:=l.foldl max 0
theorem DP  l   x  :Qg (l++[x])=max (Qg l) x:=by grind[Qg]
def oS(t:List UInt8):Int:=ap (a_ (aD t))
def xX(t:List UInt8):Int:=Qg ((bQ t).map oS)
def pu(wrap:Int)(t:List UInt8)(w:Int):Int:=if w<1 then 0 else if wrap=1 then((bC (a_ (aD t)) w).length:Int)else(t.count 10:Int)+1
theorem ve{f g}:∀m,(∀j,j<m->f j=g j)->hS f m=hS g m
 |0,_=>rfl
 |m+1,h=>by unfold hS;rw[ve m (fun j hj=>h j (by omega)),h m (by omega)]
theorem vd{f g}:∀m,(∀j,j<m->f j=g j)->hG f m=hG g m
 |0,_=>rfl
 |m+1,h=>by unfold hG;rw[vd m (fun j hj=>h j (by omega)),h m (by omega)]
def qr(kd a4 a5 a6:Int)(h:Nat->Int)(m:Nat):Int:=if kd=0 then hS h m+h_ a4 m else hG h m+2*jC kd a5 a6
theorem Hk{kd a4 a5 a6}{f g}{m}(h:∀j,j<m->f j=g j):qr kd a4 a5 a6 f m=qr kd a4 a5 a6 g m:=by grind[qr,ve,vd]
theorem vT{kd a4 a5 a6}{f g}{m}(h:∀j,j<m->f j=g j):pi kd a4 a5 a6 f m=pi kd a4 a5 a6 g m:=by grind[pi,ve,vd]
def qk(d:Nd)(f:Nat->Int):Int:=bc (if d.kind=5 then xX d.text else qr d.kind (aF d 4) (aF d 5) (aF d 6) f d.kids.length)
def qj(d:Nd)(f:Nat->Int):Int:=bc (pi d.kind (aF d 4) (aF d 5) (aF d 6) f d.kids.length)
def inW(d:Nd)(w:Int):Int:=max 0 (w-2*jC d.kind (aF d 5) (aF d 6))
structure Sz(L:List Nd)(W:Nat->Int)(H:Nat->Int->Int):Prop where
 w:∀i,i<L.length->W i=qk (ae L i) (fun j=>W (aP (ae L i).kids j))
 ht:∀i w,i<L.length->(ae L i).kind=5->H i w=bc (pu (aF (ae L i) 8) (ae L i).text w)
 hr:∀i w g,i<L.length->(ae L i).kind=0->((ae L i).kids=[]\/ci L (ae L i).kids (fun j=>W (aP (ae L i).kids j)) w (aF (ae L i) 4) g)->H i w=qj (ae L i) (fun j=>H (aP (ae L i).kids j) (g j))
 ho:∀i w,i<L.length->(ae L i).kind≠5->(ae L i).kind≠0->H i w=qj (ae L i) (fun j=>H (aP (ae L i).kids j) (inW (ae L i) w))
 hb:∀i w,i<L.length->0<=H i w/\H i w<=100000
theorem Sz.wb{L}{W}{H}(h:Sz L W H)  i  (hi:i<L.length):0<=W i/\W i<=100000:=by rw[h.w i hi];exact cH _
section
variable{L:List Nd}
theorem gh{ks}{j}(h:j<ks.length):aP ks j∈ks:=by grind[aP]
def wF(L:List Nd):Nat->Nat->Int
 |0,_=>0
 |f+1,i=>qk (ae L i) (fun j=>wF L f (aP (ae L i).kids j))
def hF(L:List Nd)(sp:Nat×Int->Nat->Int):Nat->Nat->Int->Int
 |0,_,_=>0
 |f+1,i,w=>if(ae L i).kind=5 then bc (pu (aF (ae L i) 8) (ae L i).text w)else if(ae L i).kind=0 then qj (ae L i) (fun j=>hF L sp f (aP (ae L i).kids j) (sp (i,w) j))else qj (ae L i) (fun j=>hF L sp f (aP (ae L i).kids j) (inW (ae L i) w))
theorem DT{d}{f g}(h:∀j,j<d.kids.length->f j=g j):qk d f=qk d g:=by grind[qk,Hk]
theorem sL{d}{f g}(h:∀j,j<d.kids.length->f j=g j):qj d f=qj d g:=by grind[qj,vT]
variable{up:Nat->Int}
theorem JB(hN:zD L.length (fun i=>(ae L i).kids) up):∀f f' i,i<L.length->L.length-i<=f->L.length-i<=f'->wF L f i=wF L f' i
 |0,f',i,hi,h1,h2=>by omega
 |f+1,0,i,hi,h1,h2=>by omega
 |f+1,f'+1,i,hi,h1,h2=>by unfold wF;refine DT fun j hj=>?_;obtain⟨c1,c2,_⟩:=hN.kid i _ hi (gh hj);exact JB hN f f' _ c2 (by omega) (by omega)
theorem IP  sp  (hN:zD L.length (fun i=>(ae L i).kids) up):∀f f' i w,i<L.length->L.length-i<=f->L.length-i<=f'->hF L sp f i w=hF L sp f' i w
 |0,f',i,w,hi,h1,h2=>by omega
 |f+1,0,i,w,hi,h1,h2=>by omega
 |f+1,f'+1,i,w,hi,h1,h2=>by
  have key:∀v j,j<(ae L i).kids.length->hF L sp f (aP (ae L i).kids j) v=hF L sp f' (aP (ae L i).kids j) v:=fun v j hj=>by obtain⟨c1,c2,_⟩:=hN.kid i _ hi (gh hj);exact IP sp hN f f' _ _ c2 (by omega) (by omega)
  grind[hF,sL,aP,ae,inW]
theorem zdG(hN:zD L.length (fun i=>(ae L i).kids) up):∃W H,Sz L W H:=by
 have hW:∀i,i<L.length->wF L L.length i=qk (ae L i) (fun j=>wF L L.length (aP (ae L i).kids j)):=fun i hi=>by rw[JB hN L.length (L.length+1) i hi (by omega) (by omega)];rfl
 obtain⟨sp,hsp⟩:∃sp:Nat×Int->Nat->Int,∀q:Nat×Int,∀g,ci L (ae L q.1).kids (fun j=>wF L L.length (aP (ae L q.1).kids j)) q.2 (aF (ae L q.1) 4) g->∀j,j<(ae L q.1).kids.length->g j=sp q j:=by
  have key:∀q:Nat×Int,∃f:Nat->Int,∀g,ci L (ae L q.1).kids (fun j=>wF L L.length (aP (ae L q.1).kids j)) q.2 (aF (ae L q.1) 4) g->∀j,j<(ae L q.1).kids.length->g j=f j:=fun q=>by
   by_cases e:∃g,ci L (ae L q.1).kids (fun j=>wF L L.length (aP (ae L q.1).kids j)) q.2 (aF (ae L q.1) 4) g;·obtain⟨g,hg⟩:=e;exact⟨g,fun g' Ad=>Ad.uniq hg⟩
   simp_all
  exact Classical.skolem.1 key
 have hH:∀i w,i<L.length->hF L sp L.length i w=hF L sp (L.length+1) i w:=fun i w hi=>IP sp hN _ _ i w hi (by omega) (by omega);refine⟨wF L L.length,hF L sp L.length,hW,fun i w hi h5=>?_,fun i w g hi h0 hg=>?_,fun i w hi h5 h0=>?_,fun i w hi=>?_⟩;·grind[hF]
 ·rw[hH i w hi];show hF L sp (L.length+1) i w=_;conv=>lhs;unfold hF
  rw[if_neg (by omega),if_pos h0];refine sL fun j hj=>?_;rcases hg with e|hg;·grind
  ·rw[hsp (i,w) g hg j hj]
 ·grind[hF]
 ·rw[hH i w hi];unfold hF;split;·exact cH _
  ·split<;>exact cH _
end
theorem _c  n  (a b c:Nat->Int)  aY cj  (U:World) (Do:0<n) (hn:n<=200):∃g,cO n (fun j=>cl (a j)) (fun j=>eO (a j) (b j)) (fun j=>cl (c j)) (rm aY cj n) g:=by
 have hw:_N (U.alloc (.cells (fT a b c n).toArray 0)) (Sq U.heap.size n n) n a b c:=by refine⟨_,_,rfl,.inr ⟨U.heap.size,0,rfl,by simp_all,fun j hj=>?_⟩⟩;have h:=rW a b c n j hj;rw[World.cell?_alloc_at _ _ _ _ rfl,World.cell?_alloc_at _ _ _ _ rfl,World.cell?_alloc_at _ _ _ _ rfl];simpa using h
 obtain⟨e,w',fr,⟨v,he,hv⟩,_⟩:=nY _ n a b c aY cj _ hw (by omega) [];rcases hv with⟨h0,_⟩|⟨_,_,lb,_,hsp⟩;·omega
 ·obtain⟨_,⟨g,_,h⟩,_⟩:=hsp;grind
theorem yH  L   ks   N   aY cj  (U:World) (h0:0<ks.length) (hn:ks.length<=200):∃g,ci L ks N aY cj g:=
 _c ks.length (fun j=>wV (ae L (aP ks j)) (N j)) (fun j=>aF (ae L (aP ks j)) 2) (fun j=>aF (ae L (aP ks j)) 3) aY cj U h0 hn
