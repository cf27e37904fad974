import Derived.Test.YtmbefonnkkhfgaaGreatDoorQ20
import Derived.Test.YtmbefonnkkhfgaaGreatDoorQ42
import Derived.Test.YtmbefonnkkhfgaaGreatDoorQ07
import Derived.Test.YtmbefonnkkhfgaaGreatDoorQ08
import Derived.Test.YtmbefonnkkhfgaaGreatDoorQ24
set_option linter.unusedVariables false
set_option maxRecDepth 100000
set_option maxHeartbeats 16000000
namespace Go.Proofs.YtmbefonnkkhfgaaGreatDoor
section
def atN(d:Nd)(k:Nat):Int:=d.attr[k]?.getD 0
def kdn(ks:List Nat)(j:Nat):Nat:=ks[j]?.getD 0
def wMn(d:Nd)(x:Int):Int:=if atN d 3=0 then max (atN d 1) (mostI x (atN d 2))else atN d 1
def KidSpl(L:List Nd)(ks:List Nat)(N:Nat->Int)(room gap:Int)(g:Nat->Int):Prop:=
 SplitIs ks.length (fun j=>cl (wMn (nth L (kdn ks j)) (N j))) (fun j=>hMax (wMn (nth L (kdn ks j)) (N j)) (atN (nth L (kdn ks j)) 2)) (fun j=>cl (atN (nth L (kdn ks j)) 3)) (rm room gap ks.length) g
theorem hb_held0(a b c:Nat->Int):Heldb (fun j=>cl (a j)) (fun j=>hMax (a j) (b j)) (fun j=>cl (c j)):=fun j=>
 ⟨(cl_bd _).1,(hMax_bd _ _).1,(hMax_bd _ _).2,(cl_bd _).1,(cl_bd _).2⟩
theorem KidSpl.uniq{L:List Nd}{ks:List Nat}{N:Nat->Int}{room gap:Int}{g g':Nat->Int}(h:KidSpl L ks N room gap g)(h':KidSpl L ks N room gap g'):∀j,j<ks.length->g j=g' j:=SplitIs.uniq (hb_held0 _ _ _) h h'
def paras:List UInt8->List (List UInt8)
 |[]=>[[]]
 |c::t=>if c=10 then[]::paras t else match paras t with
  |[]=>[[c]]
  |p::ps=>(c::p)::ps
theorem paras_ne:∀t,paras t≠[]
 |[]=>by simp[paras]
 |c::t=>by
  unfold paras;split;·simp
  ·split<;>simp
theorem paras_app:∀(a b:List UInt8),(∀x∈a,x≠10)->paras (a++10::b)=a::paras b
 |[],b,_=>by simp[paras]
 |c::a,b,h=>by have h1:=paras_app a b (fun x hx=>h x (by simp[hx]));have h2:=h c (by simp);rw[List.cons_append,paras,if_neg h2,h1]
theorem paras_one:∀(a:List UInt8),(∀x∈a,x≠10)->paras a=[a]
 |[],_=>rfl
 |c::a,h=>by have h1:=paras_one a (fun x hx=>h x (by simp[hx]));rw[paras,if_neg (h c (by simp)),h1]
theorem paras_len:∀(t:List UInt8),(paras t).length=t.count 10+1
 |[]=>rfl
 |c::t=>by
  have h1:=paras_len t;unfold paras;by_cases e:c=10;·rw[if_pos e,List.length_cons,h1,e,List.count_cons_self]
  ·rw[if_neg e,List.count_cons_of_ne e];split;·rename_i h;exact absurd h (paras_ne t)
   ·rename_i p ps h;rw[h]at h1;exact h1
def mxF(l:List Int):Int:=l.foldl max 0
theorem mxF_snoc(l:List Int)(x:Int):mxF (l++[x])=max (mxF l) x:=by unfold mxF;rw[List.foldl_append];rfl
def colW(t:List UInt8):Int:=wideSum (clus (runes t))
def txtW(t:List UInt8):Int:=mxF ((paras t).map colW)
def txtH(wrap:Int)(t:List UInt8)(w:Int):Int:=if w<1 then 0 else if wrap=1 then((linesOf (clus (runes t)) w).length:Int)else(t.count 10:Int)+1
theorem hS_congr{f g:Nat->Int}:∀m,(∀j,j<m->f j=g j)->hS f m=hS g m
 |0,_=>rfl
 |m+1,h=>by unfold hS;rw[hS_congr m (fun j hj=>h j (by omega)),h m (by omega)]
theorem hG_congr{f g:Nat->Int}:∀m,(∀j,j<m->f j=g j)->hG f m=hG g m
 |0,_=>rfl
 |m+1,h=>by unfold hG;rw[hG_congr m (fun j hj=>h j (by omega)),h m (by omega)]
def rawW(kd a4 a5 a6:Int)(h:Nat->Int)(m:Nat):Int:=if kd=0 then hS h m+gapI a4 m else hG h m+2*frmI kd a5 a6
theorem rawW_congr{kd a4 a5 a6:Int}{f g:Nat->Int}{m:Nat}(h:∀j,j<m->f j=g j):rawW kd a4 a5 a6 f m=rawW kd a4 a5 a6 g m:=by unfold rawW;rw[hS_congr m h,hG_congr m h]
theorem rawH_congr{kd a4 a5 a6:Int}{f g:Nat->Int}{m:Nat}(h:∀j,j<m->f j=g j):rawH kd a4 a5 a6 f m=rawH kd a4 a5 a6 g m:=by unfold rawH;rw[hS_congr m h,hG_congr m h]
def nodeW(d:Nd)(f:Nat->Int):Int:=lenI (if d.kind=5 then txtW d.text else rawW d.kind (atN d 4) (atN d 5) (atN d 6) f d.kids.length)
def nodeH(d:Nd)(f:Nat->Int):Int:=lenI (rawH d.kind (atN d 4) (atN d 5) (atN d 6) f d.kids.length)
def inW(d:Nd)(w:Int):Int:=max 0 (w-2*frmI d.kind (atN d 5) (atN d 6))
structure Sz(L:List Nd)(W:Nat->Int)(H:Nat->Int->Int):Prop where
 w:∀i,i<L.length->W i=nodeW (nth L i) (fun j=>W (kdn (nth L i).kids j))
 ht:∀i w,i<L.length->(nth L i).kind=5->H i w=lenI (txtH (atN (nth L i) 8) (nth L i).text w)
 hr:∀i w g,i<L.length->(nth L i).kind=0->((nth L i).kids=[]∨KidSpl L (nth L i).kids (fun j=>W (kdn (nth L i).kids j)) w (atN (nth L i) 4) g)->H i w=nodeH (nth L i) (fun j=>H (kdn (nth L i).kids j) (g j))
 ho:∀i w,i<L.length->(nth L i).kind≠5->(nth L i).kind≠0->H i w=nodeH (nth L i) (fun j=>H (kdn (nth L i).kids j) (inW (nth L i) w))
 hb:∀i w,i<L.length->0≤H i w∧H i w≤100000
theorem Sz.wb{L:List Nd}{W:Nat->Int}{H:Nat->Int->Int}(h:Sz L W H)(i:Nat)(hi:i<L.length):0≤W i∧W i≤100000:=by rw[h.w i hi];exact lenI_bd _
section
variable{L:List Nd}
theorem kdn_mem{ks:List Nat}{j:Nat}(h:j<ks.length):kdn ks j∈ks:=by unfold kdn;rw[List.getElem?_eq_getElem h];exact List.getElem_mem h
def wF(L:List Nd):Nat->Nat->Int
 |0,_=>0
 |f+1,i=>nodeW (nth L i) (fun j=>wF L f (kdn (nth L i).kids j))
def hF(L:List Nd)(sp:Nat×Int->Nat->Int):Nat->Nat->Int->Int
 |0,_,_=>0
 |f+1,i,w=>if(nth L i).kind=5 then lenI (txtH (atN (nth L i) 8) (nth L i).text w)else if(nth L i).kind=0 then nodeH (nth L i) (fun j=>hF L sp f (kdn (nth L i).kids j) (sp (i,w) j))else nodeH (nth L i) (fun j=>hF L sp f (kdn (nth L i).kids j) (inW (nth L i) w))
theorem nodeW_congr{d:Nd}{f g:Nat->Int}(h:∀j,j<d.kids.length->f j=g j):nodeW d f=nodeW d g:=by unfold nodeW;rw[rawW_congr h]
theorem nodeH_congr{d:Nd}{f g:Nat->Int}(h:∀j,j<d.kids.length->f j=g j):nodeH d f=nodeH d g:=by unfold nodeH;rw[rawH_congr h]
variable{up:Nat->Int}
theorem wF_fuel(hN:Nest L.length (fun i=>(nth L i).kids) up):∀f f' i,i<L.length->L.length-i≤f->L.length-i≤f'->wF L f i=wF L f' i
 |0,f',i,hi,h1,h2=>by omega
 |f+1,0,i,hi,h1,h2=>by omega
 |f+1,f'+1,i,hi,h1,h2=>by unfold wF;refine nodeW_congr fun j hj=>?_;obtain⟨c1,c2,_⟩:=hN.kid i _ hi (kdn_mem hj);exact wF_fuel hN f f' _ c2 (by omega) (by omega)
theorem hF_fuel(sp:Nat×Int->Nat->Int)(hN:Nest L.length (fun i=>(nth L i).kids) up):∀f f' i w,i<L.length->L.length-i≤f->L.length-i≤f'->hF L sp f i w=hF L sp f' i w
 |0,f',i,w,hi,h1,h2=>by omega
 |f+1,0,i,w,hi,h1,h2=>by omega
 |f+1,f'+1,i,w,hi,h1,h2=>by
  have key:∀v j,j<(nth L i).kids.length->hF L sp f (kdn (nth L i).kids j) v=hF L sp f' (kdn (nth L i).kids j) v:=fun v j hj=>by obtain⟨c1,c2,_⟩:=hN.kid i _ hi (kdn_mem hj);exact hF_fuel sp hN f f' _ _ c2 (by omega) (by omega)
  unfold hF;rw[nodeH_congr (f:=fun j=>hF L sp f (kdn (nth L i).kids j) (sp (i,w) j)) (g:=fun j=>hF L sp f' (kdn (nth L i).kids j) (sp (i,w) j)) (fun j hj=>key _ j hj),
   nodeH_congr (f:=fun j=>hF L sp f (kdn (nth L i).kids j) (inW (nth L i) w)) (g:=fun j=>hF L sp f' (kdn (nth L i).kids j) (inW (nth L i) w)) (fun j hj=>key _ j hj)]
theorem sz_ex(hN:Nest L.length (fun i=>(nth L i).kids) up):∃W H,Sz L W H:=by
 have hW:∀i,i<L.length->wF L L.length i=nodeW (nth L i) (fun j=>wF L L.length (kdn (nth L i).kids j)):=fun i hi=>by rw[wF_fuel hN L.length (L.length+1) i hi (by omega) (by omega)];rfl
 obtain⟨sp,hsp⟩:∃sp:Nat×Int->Nat->Int,∀q:Nat×Int,∀g,KidSpl L (nth L q.1).kids (fun j=>wF L L.length (kdn (nth L q.1).kids j)) q.2 (atN (nth L q.1) 4) g->∀j,j<(nth L q.1).kids.length->g j=sp q j:=by
  have key:∀q:Nat×Int,∃f:Nat->Int,∀g,KidSpl L (nth L q.1).kids (fun j=>wF L L.length (kdn (nth L q.1).kids j)) q.2 (atN (nth L q.1) 4) g->∀j,j<(nth L q.1).kids.length->g j=f j:=fun q=>by
   by_cases e:∃g,KidSpl L (nth L q.1).kids (fun j=>wF L L.length (kdn (nth L q.1).kids j)) q.2 (atN (nth L q.1) 4) g;·obtain⟨g,hg⟩:=e;exact⟨g,fun g' hg'=>hg'.uniq hg⟩
   ·exact⟨fun _=>0,fun g hg=>absurd ⟨g,hg⟩ e⟩
  exact Classical.skolem.1 key
 have hH:∀i w,i<L.length->hF L sp L.length i w=hF L sp (L.length+1) i w:=fun i w hi=>hF_fuel sp hN _ _ i w hi (by omega) (by omega);refine⟨wF L L.length,hF L sp L.length,hW,fun i w hi h5=>?_,fun i w g hi h0 hg=>?_,fun i w hi h5 h0=>?_,fun i w hi=>?_⟩;·rw[hH i w hi];unfold hF;rw[if_pos h5]
 ·rw[hH i w hi];show hF L sp (L.length+1) i w=_;conv=>lhs;unfold hF
  rw[if_neg (by rw[h0];decide),if_pos h0];refine nodeH_congr fun j hj=>?_;rcases hg with e|hg;·rw[e]at hj;exact absurd hj (by simp)
  ·rw[hsp (i,w) g hg j hj]
 ·rw[hH i w hi];conv=>lhs;unfold hF
  rw[if_neg h5,if_neg h0]
 ·rw[hH i w hi];unfold hF;split;·exact lenI_bd _
  ·split<;>exact lenI_bd _
end
end
end Go.Proofs.YtmbefonnkkhfgaaGreatDoor
