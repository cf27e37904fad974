import Derived.Test.YtaanagpadfcmlaaGreatDoorQ24
import Derived.Test.YtaanagpadfcmlaaGreatDoorQ40
import Derived.Test.YtaanagpadfcmlaaGreatDoorQ18
set_option linter.all false
set_option maxRecDepth 100000
set_option maxHeartbeats 16000000
namespace Go.Proofs.YtaanagpadfcmlaaGreatDoor
open Go.RowKit Go.Sort
def ap(d:Nd)(k:Nat):Int:=d.attr[k]?.getD 0
def aH(ks:List Nat)(j:Nat):Nat:=ks[j]?.getD 0
def sy(d:Nd)(x:Int):Int:=if ap d 3=0 then max (ap d 1) (m5 x (ap d 2))else ap d 1
def bD(L:List Nd)(ks:List Nat)(N:Nat->Int)(Ci Nt:Int)(g:Nat->Int):Prop:=
 bY ks.length (λj=>cl (sy (aa L (aH ks j)) (N j))) (λj=>dF (sy (aa L (aH ks j)) (N j)) (ap (aa L (aH ks j)) 2)) (λj=>cl (ap (aa L (aH ks j)) 3)) (rm Ci Nt ks.length) g
theorem qS(a b c:Nat->Int):lA (λj=>cl (a j)) (λj=>dF (a j) (b j)) (λj=>cl (c j)):=λj=>
 ⟨(dq _).1,(gd _ _).1,(gd _ _).2,(dq _).1,(dq _).2⟩
theorem bD.uniq{L}{c}{N}{a b}{g d}(h:bD L c N a b g)(e:bD L c N a b d):∀j,j<c.length->g j=d j:=bY.uniq (qS _ _ _) h e
def bj:List UInt8->List (List UInt8)
 |[]=>[[]]
 |c::t=>if c=10 then[]::bj t else match bj t with
  |[]=>[[c]]
  |p::ps=>(c::p)::ps
theorem Jm:∀t,bj t≠[]
 |[]=>by simp[bj]
 |c::t=>by grind[bj]
theorem ou:∀  a b,(∀x∈a,x≠10)->bj (a++10::b)=a::bj b
 |[],b,_=>by simp[bj]
 |c::a,b,h=>by have h1:=ou a b (λx d=>h x (by simp[d]));grind[bj]
theorem paras_one:∀  a,(∀x∈a,x≠10)->bj a=[a]
 |[],_=>rfl
 |c::a,h=>by have h1:=paras_one a (λx b=>h x (by simp[b]));grind[bj]
theorem fU:∀  t,(bj t).length=t.count 10+1
 |[]=>rfl
 |c::t=>by have h1:=fU t;grind[bj,Jm]
def I8(l:List Int):Int:=l.foldl max 0
theorem xP l x:I8 (l++[x])=max (I8 l) x:=by grind[I8]
def l4(t:List UInt8):Int:=ai (aG (ak t))
def td(t:List UInt8):Int:=I8 ((bj t).map l4)
def mC(wrap:Int)(t:List UInt8)(w:Int):Int:=if w<1 then 0 else if wrap=1 then((a_ (aG (ak t)) w).length:Int)else(t.count 10:Int)+1
theorem qQ{f g}:∀m,(∀j,j<m->f j=g j)->hS f m=hS g m
 |0,_=>rfl
 |m+1,h=>by unfold hS;rw[qQ m (λj a=>h j dg),h m dg]
theorem qP{f g}:∀m,(∀j,j<m->f j=g j)->hG f m=hG g m
 |0,_=>rfl
 |m+1,h=>by unfold hG;rw[qP m (λj a=>h j dg),h m dg]
def nf(kd a4 a5 a6:Int)(h:Nat->Int)(m:Nat):Int:=if kd=0 then hS h m+fE a4 m else hG h m+2*gS kd a5 a6
theorem Ca{d a b c}{f g}{m}(h:∀j,j<m->f j=g j):nf d a b c f m=nf d a b c g m:=by grind[nf,qQ,qP]
theorem rD{d a b c}{f g}{m}(h:∀j,j<m->f j=g j):mw d a b c f m=mw d a b c g m:=by grind[mw,qQ,qP]
def m8(d:Nd)(f:Nat->Int):Int:=aO (if d.kind=5 then td d.text else nf d.kind (ap d 4) (ap d 5) (ap d 6) f d.kids.length)
def m7(d:Nd)(f:Nat->Int):Int:=aO (mw d.kind (ap d 4) (ap d 5) (ap d 6) f d.kids.length)
def Qw(d:Nd)(w:Int):Int:=max 0 (w-2*gS d.kind (ap d 5) (ap d 6))
structure Sz(L:List Nd)(W:Nat->Int)(H:Nat->Int->Int):Prop where
 w:∀i,i<L.length->W i=m8 (aa L i) (λj=>W (aH (aa L i).kids j))
 ht:∀i w,i<L.length->(aa L i).kind=5->H i w=aO (mC (ap (aa L i) 8) (aa L i).text w)
 hr:∀i w g,i<L.length->(aa L i).kind=0->((aa L i).kids=[]\/bD L (aa L i).kids (λj=>W (aH (aa L i).kids j)) w (ap (aa L i) 4) g)->H i w=m7 (aa L i) (λj=>H (aH (aa L i).kids j) (g j))
 ho:∀i w,i<L.length->(aa L i).kind≠5->(aa L i).kind≠0->H i w=m7 (aa L i) (λj=>H (aH (aa L i).kids j) (Qw (aa L i) w))
 hb:∀i w,i<L.length->0<=H i w/\H i w<=100000
theorem Sz.wb{L}{W}{H}(h:Sz L W H)i(hi:i<L.length):0<=W i/\W i<=100000:=by rw[h.w i hi];exact bQ _
section
variable{L:List Nd}
theorem eK{ks}{j}(h:j<ks.length):aH ks j∈ks:=by grind[aH]
def wF(L:List Nd):Nat->Nat->Int
 |0,_=>0
 |f+1,i=>m8 (aa L i) (λj=>wF L f (aH (aa L i).kids j))
def hF(L:List Nd)(sp:Nat×Int->Nat->Int):Nat->Nat->Int->Int
 |0,_,_=>0
 |f+1,i,w=>if(aa L i).kind=5 then aO (mC (ap (aa L i) 8) (aa L i).text w)else if(aa L i).kind=0 then m7 (aa L i) (λj=>hF L sp f (aH (aa L i).kids j) (sp (i,w) j))else m7 (aa L i) (λj=>hF L sp f (aH (aa L i).kids j) (Qw (aa L i) w))
theorem xT{d}{f g}(h:∀j,j<d.kids.length->f j=g j):m8 d f=m8 d g:=by grind[m8,Ca]
theorem oX{d}{f g}(h:∀j,j<d.kids.length->f j=g j):m7 d f=m7 d g:=by grind[m7,rD]
variable{up:Nat->Int}
theorem DX(c:uG L.length (λi=>(aa L i).kids) up):∀f a i,i<L.length->L.length-i<=f->L.length-i<=a->wF L f i=wF L a i
 |0,a,i,hi,h1,b=>dg
 |f+1,0,i,hi,h1,b=>dg
 |f+1,a+1,i,hi,h1,b=>by unfold wF;refine xT λj d=>?_;obtain⟨c1,c2,_⟩:=c.kid i _ hi (eK d);exact DX c f a _ c2 dg dg
theorem Do sp(c:uG L.length (λi=>(aa L i).kids) up):∀f a i w,i<L.length->L.length-i<=f->L.length-i<=a->hF L sp f i w=hF L sp a i w
 |0,a,i,w,hi,h1,b=>dg
 |f+1,0,i,w,hi,h1,b=>dg
 |f+1,a+1,i,w,hi,h1,b=>by
  have e:∀v j,j<(aa L i).kids.length->hF L sp f (aH (aa L i).kids j) v=hF L sp a (aH (aa L i).kids j) v:=λv j d=>by obtain⟨c1,c2,_⟩:=c.kid i _ hi (eK d);exact Do sp c f a _ _ c2 dg dg
  grind[hF,oX,aH,aa,Qw]
theorem QJ(l:uG L.length (λi=>(aa L i).kids) up):∃W H,Sz L W H:=by
 have n:∀i,i<L.length->wF L L.length i=m8 (aa L i) (λj=>wF L L.length (aH (aa L i).kids j)):=λi hi=>by rw[DX l L.length (L.length+1) i hi dg dg];rfl
 obtain⟨sp,c⟩:∃sp:Nat×Int->Nat->Int,∀q:Nat×Int,∀g,bD L (aa L q.1).kids (λj=>wF L L.length (aH (aa L q.1).kids j)) q.2 (ap (aa L q.1) 4) g->∀j,j<(aa L q.1).kids.length->g j=sp q j:=by
  have d:∀q:Nat×Int,∃f:Nat->Int,∀g,bD L (aa L q.1).kids (λj=>wF L L.length (aH (aa L q.1).kids j)) q.2 (ap (aa L q.1) 4) g->∀j,j<(aa L q.1).kids.length->g j=f j:=λq=>by
   by_cases e:∃g,bD L (aa L q.1).kids (λj=>wF L L.length (aH (aa L q.1).kids j)) q.2 (ap (aa L q.1) 4) g;·obtain⟨g,a⟩:=e;exact⟨g,λp b=>b.uniq a⟩
   simp_all
  exact Classical.skolem.1 d
 have k:∀i w,i<L.length->hF L sp L.length i w=hF L sp (L.length+1) i w:=λi w hi=>Do sp l _ _ i w hi dg dg;refine⟨wF L L.length,hF L sp L.length,n,λi w hi m=>?_,λi w g hi h a=>?_,λi w hi m h=>?_,λi w hi=>?_⟩;·grind[hF]
 ·rw[k i w hi];show hF L sp (L.length+1) i w=_;conv=>lhs;unfold hF
  rw[if_neg dg,if_pos h];refine oX λj o=>?_;rcases a with e|a;·grind
  ·rw[c (i,w) g a j o]
 ·grind[hF]
 ·rw[k i w hi];unfold hF;split;·exact bQ _
  ·split<;>exact bQ _
end
theorem O2 n(a b c:Nat->Int)d f(U:World)(l:0<n)(s:n<=200):∃g,bY n (λj=>cl (a j)) (λj=>dF (a j) (b j)) (λj=>cl (c j)) (rm d f n) g:=by
 have o:O_ (U.alloc (.cells (eH a b c n).toArray 0)) (Sq U.heap.size n n) n a b c:=by refine⟨_,_,rfl,.inr ⟨U.heap.size,0,rfl,by simp_all,λj k=>?_⟩⟩;have h:=oE a b c n j k;rw[World.cell?_alloc_at _ _ _ _ rfl,World.cell?_alloc_at _ _ _ _ rfl,World.cell?_alloc_at _ _ _ _ rfl];simpa using h
 obtain⟨e,w',p,⟨v,r,m⟩,_⟩:=lm _ n a b c d f _ o dg [];rcases m with⟨q,_⟩|⟨_,_,t,_,i⟩;·omega
 ·obtain⟨_,⟨g,_,h⟩,_⟩:=i;grind
theorem tT L b N a c(U:World)(d:0<b.length)(e:b.length<=200):∃g,bD L b N a c g:=
 O2 b.length (λj=>sy (aa L (aH b j)) (N j)) (λj=>ap (aa L (aH b j)) 2) (λj=>ap (aa L (aH b j)) 3) a c U d e
