import Derived.Test.YtbeiapdobffpiaaGreatDoorQ19
import Derived.Test.YtbeiapdobffpiaaGreatDoorQ37
import Derived.Test.YtbeiapdobffpiaaGreatDoorQ21
set_option linter.all false
set_option maxRecDepth 100000
set_option maxHeartbeats 16000000
namespace Go.Proofs.YtbeiapdobffpiaaGreatDoor
open Go.RowKit Go.Sort
def aC(d:Nd)(k:Nat):Int:=d.attr[k]?.getD 0
def aP(ks:List Nat)(j:Nat):Nat:=ks[j]?.getD 0
def ti(d:Nd)(x:Int):Int:=if aC d 3=0 then max (aC d 1) (nK x (aC d 2))else aC d 1
def bL(L:List Nd)(ks:List Nat)(N:Nat->Int)(aD bM:Int)(g:Nat->Int):Prop:=
 ci ks.length (fun j=>cl (ti (ae L (aP ks j)) (N j))) (fun j=>dK (ti (ae L (aP ks j)) (N j)) (aC (ae L (aP ks j)) 2)) (fun j=>cl (aC (ae L (aP ks j)) 3)) (rm aD bM ks.length) g
theorem rW(a b c:Nat->Int):lO (fun j=>cl (a j)) (fun j=>dK (a j) (b j)) (fun j=>cl (c j)):=fun j=>
 ⟨(dm _).1,(gE _ _).1,(gE _ _).2,(dm _).1,(dm _).2⟩
theorem bL.uniq{L}{ks}{N}{aD bM}{g g'}(h:bL L ks N aD bM g)(h':bL L ks N aD bM g'):∀j,j<ks.length->g j=g' j:=ci.uniq (rW _ _ _) h h'
def bQ:List UInt8->List (List UInt8)
 |[]=>[[]]
 |c::t=>if c=10 then[]::bQ t else match bQ t with
  |[]=>[[c]]
  |p::ps=>(c::p)::ps
theorem Lf:∀t,bQ t≠[]
 |[]=>by simp[bQ]
 |c::t=>by grind[bQ]
theorem pm:∀  a b,(∀x∈a,x≠10)->bQ (a++10::b)=a::bQ b
 |[],b,_=>by simp[bQ]
 |c::a,b,h=>by have h1:=pm a b (fun x hx=>h x (by simp[hx]));grind[bQ]
theorem paras_one:∀  a,(∀x∈a,x≠10)->bQ a=[a]
 |[],_=>rfl
 |c::a,h=>by have h1:=paras_one a (fun x hx=>h x (by simp[hx]));grind[bQ]
theorem im:∀  t,(bQ t).length=t.count 10+1
 |[]=>rfl
 |c::t=>by have h1:=im t;grind[bQ,Lf]
def K1(l:List Int):Int:=l.foldl max 0
theorem zG  l   x  :K1 (l++[x])=max (K1 l) x:=by grind[K1]
def mh(t:List UInt8):Int:=aF (cL (aZ t))
def ue(t:List UInt8):Int:=K1 ((bQ t).map mh)
def mS(wrap:Int)(t:List UInt8)(w:Int):Int:=if w<1 then 0 else if wrap=1 then((cK (cL (aZ t)) w).length:Int)else(t.count 10:Int)+1
theorem rU{f g}:∀m,(∀j,j<m->f j=g j)->hS f m=hS g m
 |0,_=>rfl
 |m+1,h=>by unfold hS;rw[rU m (fun j hj=>h j (by omega)),h m (by omega)]
theorem rT{f g}:∀m,(∀j,j<m->f j=g j)->hG f m=hG g m
 |0,_=>rfl
 |m+1,h=>by unfold hG;rw[rT m (fun j hj=>h j (by omega)),h m (by omega)]
def nW(kd a4 a5 a6:Int)(h:Nat->Int)(m:Nat):Int:=if kd=0 then hS h m+fW a4 m else hG h m+2*iy kd a5 a6
theorem Dw{kd a4 a5 a6}{f g}{m}(h:∀j,j<m->f j=g j):nW kd a4 a5 a6 f m=nW kd a4 a5 a6 g m:=by grind[nW,rU,rT]
theorem sM{kd a4 a5 a6}{f g}{m}(h:∀j,j<m->f j=g j):mO kd a4 a5 a6 f m=mO kd a4 a5 a6 g m:=by grind[mO,rU,rT]
def nP(d:Nd)(f:Nat->Int):Int:=bT (if d.kind=5 then ue d.text else nW d.kind (aC d 4) (aC d 5) (aC d 6) f d.kids.length)
def nO(d:Nd)(f:Nat->Int):Int:=bT (mO d.kind (aC d 4) (aC d 5) (aC d 6) f d.kids.length)
def Yd(d:Nd)(w:Int):Int:=max 0 (w-2*iy d.kind (aC d 5) (aC d 6))
structure Sz(L:List Nd)(W:Nat->Int)(H:Nat->Int->Int):Prop where
 w:∀i,i<L.length->W i=nP (ae L i) (fun j=>W (aP (ae L i).kids j))
 ht:∀i w,i<L.length->(ae L i).kind=5->H i w=bT (mS (aC (ae L i) 8) (ae L i).text w)
 hr:∀i w g,i<L.length->(ae L i).kind=0->((ae L i).kids=[]\/bL L (ae L i).kids (fun j=>W (aP (ae L i).kids j)) w (aC (ae L i) 4) g)->H i w=nO (ae L i) (fun j=>H (aP (ae L i).kids j) (g j))
 ho:∀i w,i<L.length->(ae L i).kind≠5->(ae L i).kind≠0->H i w=nO (ae L i) (fun j=>H (aP (ae L i).kids j) (Yd (ae L i) w))
 hb:∀i w,i<L.length->0<=H i w/\H i w<=100000
theorem Sz.wb{L}{W}{H}(h:Sz L W H)  i  (hi:i<L.length):0<=W i/\W i<=100000:=by rw[h.w i hi];exact cJ _
section
variable{L:List Nd}
theorem fe{ks}{j}(h:j<ks.length):aP ks j∈ks:=by grind[aP]
def wF(L:List Nd):Nat->Nat->Int
 |0,_=>0
 |f+1,i=>nP (ae L i) (fun j=>wF L f (aP (ae L i).kids j))
def hF(L:List Nd)(sp:Nat×Int->Nat->Int):Nat->Nat->Int->Int
 |0,_,_=>0
 |f+1,i,w=>if(ae L i).kind=5 then bT (mS (aC (ae L i) 8) (ae L i).text w)else if(ae L i).kind=0 then nO (ae L i) (fun j=>hF L sp f (aP (ae L i).kids j) (sp (i,w) j))else nO (ae L i) (fun j=>hF L sp f (aP (ae L i).kids j) (Yd (ae L i) w))
theorem zJ{d}{f g}(h:∀j,j<d.kids.length->f j=g j):nP d f=nP d g:=by grind[nP,Dw]
theorem p_{d}{f g}(h:∀j,j<d.kids.length->f j=g j):nO d f=nO d g:=by grind[nO,sM]
variable{up:Nat->Int}
theorem E7(hN:vS L.length (fun i=>(ae L i).kids) up):∀f f' i,i<L.length->L.length-i<=f->L.length-i<=f'->wF L f i=wF L f' i
 |0,f',i,hi,h1,h2=>by omega
 |f+1,0,i,hi,h1,h2=>by omega
 |f+1,f'+1,i,hi,h1,h2=>by unfold wF;refine zJ fun j hj=>?_;obtain⟨c1,c2,_⟩:=hN.kid i _ hi (fe hj);exact E7 hN f f' _ c2 (by omega) (by omega)
theorem Ev  sp  (hN:vS L.length (fun i=>(ae L i).kids) up):∀f f' i w,i<L.length->L.length-i<=f->L.length-i<=f'->hF L sp f i w=hF L sp f' i w
 |0,f',i,w,hi,h1,h2=>by omega
 |f+1,0,i,w,hi,h1,h2=>by omega
 |f+1,f'+1,i,w,hi,h1,h2=>by
  have key:∀v j,j<(ae L i).kids.length->hF L sp f (aP (ae L i).kids j) v=hF L sp f' (aP (ae L i).kids j) v:=fun v j hj=>by obtain⟨c1,c2,_⟩:=hN.kid i _ hi (fe hj);exact Ev sp hN f f' _ _ c2 (by omega) (by omega)
  grind[hF,p_,aP,ae,Yd]
theorem Yu(hN:vS L.length (fun i=>(ae L i).kids) up):∃W H,Sz L W H:=by
 have hW:∀i,i<L.length->wF L L.length i=nP (ae L i) (fun j=>wF L L.length (aP (ae L i).kids j)):=fun i hi=>by rw[E7 hN L.length (L.length+1) i hi (by omega) (by omega)];rfl
 obtain⟨sp,hsp⟩:∃sp:Nat×Int->Nat->Int,∀q:Nat×Int,∀g,bL L (ae L q.1).kids (fun j=>wF L L.length (aP (ae L q.1).kids j)) q.2 (aC (ae L q.1) 4) g->∀j,j<(ae L q.1).kids.length->g j=sp q j:=by
  have key:∀q:Nat×Int,∃f:Nat->Int,∀g,bL L (ae L q.1).kids (fun j=>wF L L.length (aP (ae L q.1).kids j)) q.2 (aC (ae L q.1) 4) g->∀j,j<(ae L q.1).kids.length->g j=f j:=fun q=>by
   by_cases e:∃g,bL L (ae L q.1).kids (fun j=>wF L L.length (aP (ae L q.1).kids j)) q.2 (aC (ae L q.1) 4) g;·obtain⟨g,hg⟩:=e;exact⟨g,fun g' wM=>wM.uniq hg⟩
   simp_all
  exact Classical.skolem.1 key
 have hH:∀i w,i<L.length->hF L sp L.length i w=hF L sp (L.length+1) i w:=fun i w hi=>Ev sp hN _ _ i w hi (by omega) (by omega);refine⟨wF L L.length,hF L sp L.length,hW,fun i w hi h5=>?_,fun i w g hi h0 hg=>?_,fun i w hi h5 h0=>?_,fun i w hi=>?_⟩;·grind[hF]
 ·rw[hH i w hi];show hF L sp (L.length+1) i w=_;conv=>lhs;unfold hF
  rw[if_neg (by omega),if_pos h0];refine p_ fun j hj=>?_;rcases hg with e|hg;·grind
  ·rw[hsp (i,w) g hg j hj]
 ·grind[hF]
 ·rw[hH i w hi];unfold hF;split;·exact cJ _
  ·split<;>exact cJ _
end
theorem T8  n  (a b c:Nat->Int)  aD bM  (U:World) (y_:0<n) (hn:n<=200):∃g,ci n (fun j=>cl (a j)) (fun j=>dK (a j) (b j)) (fun j=>cl (c j)) (rm aD bM n) g:=by
 have hw:UI (U.alloc (.cells (eX a b c n).toArray 0)) (Sq U.heap.size n n) n a b c:=by refine⟨_,_,rfl,.inr ⟨U.heap.size,0,rfl,by simp_all,fun j hj=>?_⟩⟩;have h:=pE a b c n j hj;rw[World.cell?_alloc_at _ _ _ _ rfl,World.cell?_alloc_at _ _ _ _ rfl,World.cell?_alloc_at _ _ _ _ rfl];simpa using h
 obtain⟨e,w',fr,⟨v,he,hv⟩,_⟩:=lI _ n a b c aD bM _ hw (by omega) [];rcases hv with⟨h0,_⟩|⟨_,_,lb,_,hsp⟩;·omega
 ·obtain⟨_,⟨g,_,h⟩,_⟩:=hsp;grind
theorem uQ  L   ks   N   aD bM  (U:World) (h0:0<ks.length) (hn:ks.length<=200):∃g,bL L ks N aD bM g:=
 T8 ks.length (fun j=>ti (ae L (aP ks j)) (N j)) (fun j=>aC (ae L (aP ks j)) 2) (fun j=>aC (ae L (aP ks j)) 3) aD bM U h0 hn
