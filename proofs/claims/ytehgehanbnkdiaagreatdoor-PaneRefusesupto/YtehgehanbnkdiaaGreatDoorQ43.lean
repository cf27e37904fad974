import Derived.Test.YtehgehanbnkdiaaGreatDoorQ32
import Derived.Test.YtehgehanbnkdiaaGreatDoorQ41
import Derived.Test.YtehgehanbnkdiaaGreatDoorQ17
import Derived.Shelf.Strconv.Atoi
import Derived.Lib.AtoiErrMem
import Derived.Laws.EntriesVeiled
import Derived.Deep.CutBlock
import Derived.Test.YtehgehanbnkdiaaGreatDoorQ25
set_option linter.all false
set_option maxRecDepth 100000
set_option maxHeartbeats 16000000
namespace Go.Proofs.YtehgehanbnkdiaaGreatDoor
open Go.RowKit Go.Sort Go.Proofs.Tryz
def au(d:Nd)(k:Nat):Int:=d.attr[k]?.getD 0
def aZ(ks:zzh)(j:Nat):Nat:=ks[j]?.getD 0
def EX(d:Nd)(x:Int):Int:=if au d 3=0 then max (au d 1) (nA x (au d 2))else au d 1
def bY(L:zza)(ks:zzh)(N:zzb)(jm NL:Int)(g:zzb):Prop:=
 cO ks.length (λj=>cl (EX (ae L (aZ ks j)) (N j))) (λj=>fC (EX (ae L (aZ ks j)) (N j)) (au (ae L (aZ ks j)) 2)) (λj=>cl (au (ae L (aZ ks j)) 3)) (rm jm NL ks.length) g
def GM(a b c:zzb):Fb (λj=>cl (a j)) (λj=>fC (a j) (b j)) (λj=>cl (c j)):=λj=>
 ⟨(eO _).1,(jK _ _).1,(jK _ _).2,(eO _).1,(eO _).2⟩
def bY.uniq{L}{c}{N}{a b}{g d}(h:bY L c N a b g)(e:bY L c N a b d):∀j,j<c.length->g j=d j:=cO.uniq (GM _ _ _) h e
def cZ:List UInt8->List (List UInt8)
 |[]=>[[]]
 |c::t=>if c=10 then[]::cZ t else match cZ t with
  |[]=>[[c]]
  |p::ps=>(c::p)::ps
theorem IQ:∀t,cZ t≠[]
 |[]=>by simp[cZ]
 |c::t=>by grind[cZ]
def sj:∀  a b,(∀x∈a,x≠10)->cZ (a++10::b)=a::cZ b
 |[],b,_=>by simp[cZ]
 |c::a,b,h=>by have e:=sj a b (λx d=>h x (by simp[d]));grind[cZ]
def paras_one:∀  a,(∀x∈a,x≠10)->cZ a=[a]
 |[],_=>rfl
 |c::a,h=>by have d:=paras_one a (λx b=>h x (by simp[b]));grind[cZ]
def mP:∀  t,(cZ t).length=t.count 10+1
 |[]=>rfl
 |c::t=>by have a:=mP t;grind[cZ,IQ]
def J'(l:zzc):Int:=l.foldl max 0
def Iw l x:J' (l++[x])=max (J' l) x:=by grind[J']
def pd(t:zzf):Int:=ak (ba (az t))
def Jq(t:zzf):Int:=J' ((cZ t).map pd)
def oz(wrap:Int)(t:zzf)(w:Int):Int:=if w<1 then 0 else if wrap=1 then((bJ (ba (az t)) w).length:Int)else(t.count 10:Int)+1
theorem pA{f g}:∀m,(∀j,j<m->f j=g j)->hS f m=hS g m
 |0,_=>rfl
 |m+1,h=>by unfold hS;rw[pA m (λj a=>h j dg),h m dg]
theorem pz{f g}:∀m,(∀j,j<m->f j=g j)->hG f m=hG g m
 |0,_=>rfl
 |m+1,h=>by unfold hG;rw[pz m (λj a=>h j dg),h m dg]
def tV(kd a4 a5 a6:Int)(h:zzb)(m:Nat):Int:=if kd=0 then hS h m+kX a4 m else hG h m+2*iT kd a5 a6
theorem Ac{d a b c}{f g}{m}(h:∀j,j<m->f j=g j):tV d a b c f m=tV d a b c g m:=by grind[tV,pA,pz]
theorem qd{d a b c}{f g}{m}(h:∀j,j<m->f j=g j):ro d a b c f m=ro d a b c g m:=by grind[ro,pA,pz]
def pU(d:Nd)(f:zzb):Int:=aG (if d.kind=5 then Jq d.text else tV d.kind (au d 4) (au d 5) (au d 6) f d.kids.length)
def nC(d:Nd)(f:zzb):Int:=aG (ro d.kind (au d 4) (au d 5) (au d 6) f d.kids.length)
def T6(d:Nd)(w:Int):Int:=max 0 (w-2*iT d.kind (au d 5) (au d 6))
structure Sz(L:zza)(W:zzb)(H:zzg):Prop where
 w:∀i,i<L.length->W i=pU (ae L i) (λj=>W (aZ (ae L i).kids j))
 ht:∀i w,i<L.length->(ae L i).kind=5->H i w=aG (oz (au (ae L i) 8) (ae L i).text w)
 hr:∀i w g,i<L.length->(ae L i).kind=0->((ae L i).kids=[]\/bY L (ae L i).kids (λj=>W (aZ (ae L i).kids j)) w (au (ae L i) 4) g)->H i w=nC (ae L i) (λj=>H (aZ (ae L i).kids j) (g j))
 ho:∀i w,i<L.length->(ae L i).kind≠5->(ae L i).kind≠0->H i w=nC (ae L i) (λj=>H (aZ (ae L i).kids j) (T6 (ae L i) w))
 hb:∀i w,i<L.length->0<=H i w/\H i w<=100000
def Sz.wb{L}{W}{H}(h:Sz L W H)i(hi:i<L.length):0<=W i/\W i<=100000:=by rw[h.w i hi];exact bB _
section
variable{L:zza}
theorem jO{a}{j}(h:j<a.length):aZ a j∈a:=by grind[aZ]
def wF(L:zza):Nat->Nat->Int
 |0,_=>0
 |f+1,i=>pU (ae L i) (λj=>wF L f (aZ (ae L i).kids j))
def hF(L:zza)(sp:Nat×Int->Nat->Int):Nat->Nat->Int->Int
 |0,_,_=>0
 |f+1,i,w=>if(ae L i).kind=5 then aG (oz (au (ae L i) 8) (ae L i).text w)else if(ae L i).kind=0 then nC (ae L i) (λj=>hF L sp f (aZ (ae L i).kids j) (sp (i,w) j))else nC (ae L i) (λj=>hF L sp f (aZ (ae L i).kids j) (T6 (ae L i) w))
def vZ{d}{f g}(h:∀j,j<d.kids.length->f j=g j):pU d f=pU d g:=by grind[pU,Ac]
theorem nD{d}{f g}(h:∀j,j<d.kids.length->f j=g j):nC d f=nC d g:=by grind[nC,qd]
variable{up:zzb}
def Cg(d:sZ L.length (λi=>(ae L i).kids) up):∀f a i,i<L.length->L.length-i<=f->L.length-i<=a->wF L f i=wF L a i
 |0,a,i,hi,b,c=>dg
 |f+1,0,i,hi,b,c=>dg
 |f+1,a+1,i,hi,b,c=>by unfold wF;refine vZ λj e=>?_;obtain⟨c1,c2,_⟩:=d.kid i _ hi (jO e);exact Cg d f a _ c2 dg dg
def Bm sp(d:sZ L.length (λi=>(ae L i).kids) up):∀f a i w,i<L.length->L.length-i<=f->L.length-i<=a->hF L sp f i w=hF L sp a i w
 |0,a,i,w,hi,b,c=>dg
 |f+1,0,i,w,hi,b,c=>dg
 |f+1,a+1,i,w,hi,b,c=>by
  have g:∀v j,j<(ae L i).kids.length->hF L sp f (aZ (ae L i).kids j) v=hF L sp a (aZ (ae L i).kids j) v:=λv j e=>by obtain⟨c1,c2,_⟩:=d.kid i _ hi (jO e);exact Bm sp d f a _ _ c2 dg dg
  grind[hF,nD,aZ,ae,T6]
def RX(l:sZ L.length (λi=>(ae L i).kids) up):∃W H,Sz L W H:=by
 have n:∀i,i<L.length->wF L L.length i=pU (ae L i) (λj=>wF L L.length (aZ (ae L i).kids j)):=λi hi=>by rw[Cg l L.length (L.length+1) i hi dg dg];rfl
 obtain⟨sp,c⟩:∃sp:Nat×Int->Nat->Int,∀q:Nat×Int,∀g,bY L (ae L q.1).kids (λj=>wF L L.length (aZ (ae L q.1).kids j)) q.2 (au (ae L q.1) 4) g->∀j,j<(ae L q.1).kids.length->g j=sp q j:=by
  have d:∀q:Nat×Int,∃f:Nat->Int,∀g,bY L (ae L q.1).kids (λj=>wF L L.length (aZ (ae L q.1).kids j)) q.2 (au (ae L q.1) 4) g->∀j,j<(ae L q.1).kids.length->g j=f j:=λq=>by
   by_cases e:∃g,bY L (ae L q.1).kids (λj=>wF L L.length (aZ (ae L q.1).kids j)) q.2 (au (ae L q.1) 4) g;.obtain⟨g,a⟩:=e;exact⟨g,λp b=>b.uniq a⟩
   simp_all
  exact Classical.skolem.1 d
 have k:∀i w,i<L.length->hF L sp L.length i w=hF L sp (L.length+1) i w:=λi w hi=>Bm sp l _ _ i w hi dg dg;refine⟨wF L L.length,hF L sp L.length,n,λi w hi m=>?_,λi w g hi h a=>?_,λi w hi m h=>?_,λi w hi=>?_⟩;.grind[hF]
 .rw[k i w hi];show hF L sp (L.length+1) i w=_;conv=>lhs;unfold hF
  rw[if_neg dg,if_pos h];refine nD λj o=>?_;rcases a with e|a;.grind
  .rw[c (i,w) g a j o]
 .grind[hF]
 .rw[k i w hi];unfold hF;split;.exact bB _
  .split<;>exact bB _
end
def AZ(F:Nat->Nat)a:∀m,m<=a.length->cS (λj=>F (aZ a j)) m=((a.take m).map F).sum
 |0,_=>by simp[cS]
 |m+1,h=>by have b:=AZ F a m dg;have c:m<a.length:=dg;rw[gx c,mi,JO,<-b];grind[cS,aZ]
def Ng a f i:(oM a (f+1) i).length=cS (λj=>(oM a f (aZ (a i) j)).length) (a i).length+1:=by rw[AZ (λc=>(oM a f c).length) (a i) _ LE,jB];simp_all[oM]
def ep.nest{s}{L}(h:ep s L):sZ L.length (λi=>(ae L i).kids) (λi=>(ae L i).up):=by
 refine⟨λi c hi f=>?_,λi hi=>Ae (λk c d a b=>h.gr.rise i k c d hi a b),λi hi=>h.gr.upl i hi,λi hi=>?_⟩;.obtain⟨k,g⟩:=JU.1 f;exact h.gr.kid i k c hi g
 .by_cases e:i=0;.subst e;show-1<=(ae L 0).up;rw[h.up0];decide
  .have:=h.gr.up0 i hi;omega
def Ch.cover{L}{d}{b}{a e}(h:Ch L d b a e):∀j,a<=j->j<e->j∈b\/∃i,a<=i/\i<j/\j∈(L i).kids:=by
 induction h with
 |nil d a=>omega
 |@cons d c r f e m n g o p q=>
  intro j s t;by_cases k:j=c;.grind
  .by_cases l:j<f;.grind
   .have:=g.le;grind
def ep.kid_of{s}{L}(h:ep s L)j(f:0<j)(b:j<L.length):∃i k,i<j/\k<(ae L i).kids.length/\aZ (ae L i).kids k=j/\(ae L j).up=(i:Int):=by
 rcases h.ch.cover j LT b with q|⟨i,_,d,a⟩;.grind
 .obtain⟨k,c,e⟩:=mh.1 a;refine⟨i,k,d,c,?_,(h.nest.kid i j dg a).2.2⟩;grind[aZ]
def Nv.bd{d}(h:Nv d):(∀k,k<12->-1<=au d k/\au d k<=1000000)/\(0<=au d 4/\au d 4<=100)/\(0<=au d 5/\au d 5<=20)/\(0<=au d 6/\au d 6<=1)/\0<=au d 0/\0<=au d 1/\0<=au d 3:=by
 have a:∀k,k<12->au d k=aJ[k]?.getD 0\/(0<=au d k/\au d k<=fY[k]?.getD 0):=λk b=>(h.att k b).imp id λq=>q.2;have f:=a 0 (by decide);have g:=a 1 (by decide);have i:=a 2 (by decide);have j:=a 3 (by decide);have l:=a 4 (by decide);have m:=a 5 (by decide);have n:=a 6 (by decide);have o:=a 7 (by decide);have p:=a 8 (by decide);have s:=a 9 (by decide);have c:=a 10 (by decide);have e:=a 11 (by decide);simp only[aJ,fY,CZ,List.getElem?_cons_succ,Cr]at f g i j l m n o p s c e;refine⟨λk b=>?_,dg,dg,dg,dg,dg,dg⟩;match k,b with
 |0,_=>omega
 |1,_=>omega
 |2,_=>omega
 |3,_=>omega
 |4,_=>omega
 |5,_=>omega
 |6,_=>omega
 |7,_=>omega
 |8,_=>omega
 |9,_=>omega
 |10,_=>omega
 |11,_=>omega
def iE{d}(h:d.attr.length=12)a:aW d a=[Iq d.kind,Iq (au d 0),Iq (au d 1),Iq (au d 2),Iq (au d 3),Iq (au d 4),Iq (au d 5),Iq (au d 6),Iq (au d 7),Iq (au d 8),Iq (au d 9),Iq (au d 10),Iq (au d 11),.string ⟨d.text.toArray⟩,a,Iq d.up]:=by
 unfold aW au;match d.attr,h with
 |[b,c,e,f,g,i,j,k,l,m,n,o],_=>rfl
structure oS(U:AT)(mb r g cap wb:Nat)(L:zza)(KV:Nat->Fd)(Wd:zzb):Prop where
 ms:Ms U mb (Sq g L.length cap) (Sq wb L.length L.length) r
 gl:g<U.heap.size
 wl:wb<U.heap.size
 mr:mb≠r
 gr:g≠r
 wr:wb≠r
 len:∀j,j<L.length->(ae L j).attr.length=12
 nd:∀j,j<L.length->∀(t:Nat) x,(aW (ae L j) (KV j))[t]?=some x->U.cell? (aq g (j*16+t))=some x
 kid:∀j,j<L.length->∃p c,KV j=.slice p (ae L j).kids.length c/\eL U r p (ae L j).kids.length (λt=>(aZ (ae L j).kids t:Int))
 wd:∀j,j<L.length->U.cell? (aq wb j)=some (Iq (Wd j))
def oS.ml{U}{a r g cap c}{L}{KV}{b}(h:oS U a r g cap c L KV b):a<U.heap.size:=(aj.1 h.ms).1
def oS.grown{U i}{k r g cap l}{L}{KV}{m}(h:oS U k r g cap l L KV m)(f:U.grownBy i (some r)):oS i k r g cap l L KV m:=by have v:=h.ml;have a:∀b,b<U.heap.size->b≠r->i.heap[b]?=U.heap[b]?:=λb n o=>f.block b n (λq=>o (by simpa using q));refine⟨(a k v h.mr).trans h.ms,zz006 h.gl f.size,zz006 h.wl f.size,h.mr,h.gr,h.wr,h.len,λj d t x u=>(aQ (a g h.gl h.gr)).trans (h.nd j d t x u),λj d=>?_,λj d=>(aQ (a l h.wl h.wr)).trans (h.wd j d)⟩;obtain⟨p,c,e,s⟩:=h.kid j d;exact⟨p,c,e,s.grown f⟩
section
variable{U W W':AT} {r:Nat}
def ni(h:U.grownBy W (some r))o:U.grownBy (W.alloc o) (some r):=h.trans (aa ((ac _ W).alloc LE _))
def jI(h:U.grownBy W (some r)):U.grownBy W.drew (some r):=h.trans (aa ((ac _ W).drew))
def iy(h:U.grownBy W (some r)){a}(e:U.heap.size<=a.block)v:U.grownBy (W.setCell a v) (some r):=
 ⟨h.os,h.tape,h.output,aA h.size At,λb c d=>(aM W a v b dg).trans (h.block b c d)⟩
def aU.alloc{H}{n}(h:aU W r H n)o:aU (W.alloc o) r H n:=h.kept (row:=none) (World.grownBy_alloc W o none) At
def aU.drew{H}{n}(h:aU W r H n):aU W.drew r H n:=h.kept (row:=none) (aa ((ac _ W).drew)) At
def aU.drewN{H}{n}(h:aU W r H n)q:aU (W.drewN q) r H n:=h.kept (W':=W.drewN q) (row:=none) ⟨rfl,rfl,rfl,LE,λ_ _ _=>rfl⟩ At
def aU.set{H}{n}(h:aU W r H n){a}(c:a.block≠r)v:aU (W.setCell a v) r H n:=
 h.kept (row:=some a.block) ⟨rfl,rfl,rfl,At,λb f d=>aM W a v b (λe=>d (by rw[e]))⟩ (λe=>c rn)
def aU.grown_below{H}{n}(h:aU W r H n)(a:Bq W W'):aU W' r H n:=h.kept (row:=none) (aa a) At
def eL.congr{m}{p}{v a}(h:eL W r p m v)(e:∀j,j<m->v j=a j):eL W r p m a:=by
 rcases h with h|⟨b,o,c,d,f,g⟩;.exact .inl h
 .exact .inr ⟨b,o,c,d,f,λj i=>rn⟩
def nH{b}{t}{n}{f}(h:W.rowIs b t n f)(c:W.grownBy W' (some r))(a:b≠r):W'.rowIs b t n f:=h.of_block (c.block b h.lt (λe=>a rn))
def rowIs_below{b}{t}{n}{f}(h:W.rowIs b t n f)(a:Bq W W'):W'.rowIs b t n f:=h.of_block (a.block b h.lt)
end
def sH(a b c:zzb)(k:Nat)(i:Nat):Fd:=Iq (if i/3<k then(if i %3=0 then a (i/3)else if i %3=1 then b (i/3)else c (i/3))else 0)
def Cj(w:AT)m a b c T:(w.alloc (.cells (madeCells #[Iq 0,Iq 0,Iq 0] (m*3)) T)).rowIs w.heap.size T (m*3) (sH a b c 0):=by have:=World.rowIs_alloc w (madeCells #[Iq 0,Iq 0,Iq 0] (m*3)) T (sH a b c 0) (λi hi=>by rw[size_madeCells]at hi;unfold sH;rw[if_neg dg];simp only[madeCells];grind);rw[size_madeCells]at this;omega
def Ci{W:AT}{b}{T}{m k}{a d c}(h:W.rowIs b T (m*3) (sH a d c k))x y z(e:x=a k)(hy:y=d k)(f:z=c k):
 (((W.setCell (aq b (k*3)) (Iq x)).setCell (aq b (k*3+1)) (Iq y)).setCell (aq b (k*3+2)) (Iq z)).rowIs b T (m*3) (sH a d c (k+1)):=by subst e hy f;refine(((h.set (k*3) (Iq (a k))).set (k*3+1) (Iq (d k))).set (k*3+2) (Iq (c k))).congr λi hi=>?_;grind[sH]
def Jz{W}{b}{T}{m}{a d c}(h:W.rowIs b T (m*3) (sH a d c m)):fB W b 0 m a d c:=by
 refine⟨h.lt,λj e=>⟨?_,?_,?_⟩⟩;.rw[b_,h.cell dg];grind[sH]
 .rw[b_,h.cell dg];grind[sH]
 .rw[b_,h.cell dg];grind[sH]
def NF(U W:AT)(r lb m:Nat)(a b c:zzb)(H:zzg)(n:Nat):Prop:=fB W lb 0 m a b c/\U.heap.size<=lb/\U.grownBy W (some r)/\aU W r H n
theorem eE{s}{L}(a:ep s L){i j}(hi:i<L.length)(b:j<(ae L i).kids.length):i<aZ (ae L i).kids j/\aZ (ae L i).kids j<L.length:=by have:=a.nest.kid i _ hi (jO b);omega
def ep.kids_le{s}{L}(a:ep s L){i}(hi:i<L.length):(ae L i).kids.length<=100:=by have c:=jT L.length (ae L i).kids (a.nest.nd i hi) (λx b=>(a.nest.kid i x hi b).2.1);have:=a.vl.cnt;omega
def sG(f:Nat)(ev:Array Fd)(av:Nat->Array Fd)(mb r g zo wb s m:Nat)(L:zza)(KV:Nat->Fd)(Wd:zzb)(H:zzg)(h:Nat->Nat)(N:zzb)(q:Nat->Nat)(p:zze)(c:Nat)(U:AT)(hf:Hid ((f=261/\∃X,ev=#[Pq X]/\av=λj=>#[Iq (h j:Int),Pq X])\/f=262/\∃X Y,ev=#[Pq X,Pq Y]/\av=λj=>#[Iq (h j:Int),Pq X,Pq Y]))(hV:Hid (oS U mb r g zo wb L KV Wd))(hM:Hid (aU U r H s))(hm:m<=1000)(zv:Hid (∀j,j<m->h j<L.length))(hL:L.length<=1000000)(hK:Hid (eL U r p m (λj=>(h j:Int))))(hN:Hid (∀j,j<m->0<=N j/\N j<=100000))(NC:Hid (∀j u,j<m->U.grownBy u (some r)->aU u r H (s+cS q j)->Cw f (av j) u λe Q=>e=Rw (Iq (N j))/\Hid (u.grownBy Q (some r))/\Hid (aU Q r H (s+cS q (j+1))))):
 Cw 260 #[Pq mb,.slice p m c,.func (.func f) #[] ev] U λe U'=>∃i,e=Rw (Sq i m m)/\NF U U' r i m (λj=>EX (ae L (h j)) (N j)) (λj=>au (ae L (h j)) 2) (λj=>au (ae L (h j)) 3) H (s+cS q m):=by
 have zG:=sA m dg;have AM:=qH<|atMost_any;obtain⟨a,ha⟩:∃f:Nat->Int,(λj=>EX (ae L (h j)) (N j))=f:=⟨_,rfl⟩;obtain⟨b,hb⟩:∃f:Nat->Int,(λj=>au (ae L (h j)) 2)=f:=⟨_,rfl⟩;obtain⟨cc,zq⟩:∃f:Nat->Int,(λj=>au (ae L (h j)) 3)=f:=⟨_,rfl⟩;have HA:Hid (∀j,a j=EX (ae L (h j)) (N j)):=λj=>rn;have HB:Hid (∀j,b j=au (ae L (h j)) 2):=λj=>rn;have zy:Hid (∀j,cc j=au (ae L (h j)) 3):=λj=>rn;rw[ha,hb,zq];clear ha hb zq;obtain⟨i,zi⟩:=af U.heap.size;have zn:=qH<|zi;have R0:Hid ((U.alloc (.cells (madeCells #[Iq 0,Iq 0,Iq 0] (m*3)) 400)).rowIs i 400 (m*3) (sH a b cc 0)):=by rw[<-zi];exact Cj U m a b cc _
 have G0:Hid (U.grownBy (U.alloc (.cells (madeCells #[Iq 0,Iq 0,Iq 0] (m*3)) 400)) (some r)):=ni (aa (ac _ U)) _;have M0:Hid (aU (U.alloc (.cells (madeCells #[Iq 0,Iq 0,Iq 0] (m*3)) 400)) r H (s+cS q 0)):=hM.alloc _;have P:i≠r:=by have:=hM.lt;omega
 go_enter func260,ntmps260;go_wp2_with fail;clear zi zG;go_loopw[17] (λkv wr=>∃k:Nat,k<=m/\kv=Iq (k:Int)/\Hid (U.grownBy wr (some r))/\Hid (aU wr r H (s+cS q k))/\Hid (wr.rowIs i 400 (m*3) (sH a b cc k))) (λkv _=>m-(intOf kv).toNat);.grind
 obtain⟨k,hk,rfl,I,S,T⟩:=hrel;clear R0 G0 M0;by_cases E:k<m
 .have zw:(k:Int)<(m:Int):=dg;have ze:=zv k E;have zK:(h k:Int)<(L.length:Int):=dg;have M:=qH<|hV.grown I;have zj:=M.ms;have m0:wr.cell? (aq mb 0)=some (Sq g L.length zo):=by unfold Ms at zj;rw[Lib.cell_of_heap zj];rfl
  obtain⟨kb,ko,rfl,_,_,zr⟩:=(hK.grown I).resolve_left dg;have ck:=zr k E;have zt:=iE (M.len _ ze) (KV (h k));have d:=M.nd _ ze;rw[zt]at d;have zL:=hN k E;have eA:=HA k;have eB:=HB k;have eC:=zy k;unfold EX at eA;generalize(ae L (h k)).text.toArray=zJ at d;generalize((ae L (h k)).kind:Int)=kd at d;generalize au (ae L (h k)) 0=a0 at d;generalize au (ae L (h k)) 1=O at d eA;generalize au (ae L (h k)) 2=C at d eA eB;generalize au (ae L (h k)) 3=G at d eA eC;generalize au (ae L (h k)) 4=a4 at d;generalize au (ae L (h k)) 5=a5 at d;generalize au (ae L (h k)) 6=a6 at d;generalize au (ae L (h k)) 7=a7 at d;generalize au (ae L (h k)) 8=a8 at d;generalize au (ae L (h k)) 9=a9 at d;generalize au (ae L (h k)) 10=b0 at d;generalize au (ae L (h k)) 11=b1 at d;generalize(ae L (h k)).up=up at d;obtain⟨pk,V,zg,_⟩:=M.kid _ ze;generalize(ae L (h k)).kids.length=kl at zg;rw[zg]at d;obtain⟨tx,zx⟩:∃z:BY,⟨zJ⟩=z:=⟨_,rfl⟩;rw[zx]at d;have n:=d;have q0:wr.cell? (aq g (h k*16))=some (Iq kd):=n 0 _ rfl;have q1:=n 1 _ rfl;have q2:=n 2 _ rfl;have q3:=n 3 _ rfl;have q4:=n 4 _ rfl;have q5:=n 5 _ rfl;have q6:=n 6 _ rfl;have q7:=n 7 _ rfl;have q8:=n 8 _ rfl;have q9:=n 9 _ rfl;have zN:=n 10 _ rfl;have zO:=n 11 _ rfl;have zP:=n 12 _ rfl;have zQ:=n 13 _ rfl;have zR:=n 14 _ rfl;have zS:=n 15 _ rfl;obtain⟨l,D⟩:=af (wr.alloc (.cells #[Iq kd,Iq a0,Iq O,Iq C,Iq G,Iq a4,Iq a5,Iq a6,Iq a7,Iq a8,Iq a9,Iq b0,Iq b1,.string tx,.slice pk kl V,Iq up] 140));obtain⟨A,hA⟩:=af wr.heap.size;have zE:i<A:=by rw[<-hA];exact T.lt
  have Z:l.heap[A]?=some (.cells #[Iq kd,Iq a0,Iq O,Iq C,Iq G,Iq a4,Iq a5,Iq a6,Iq a7,Iq a8,Iq a9,Iq b0,Iq b1,.string tx,.slice pk kl V,Iq up] 140 (0,0)):=by rw[<-D,<-hA];show(wr.heap.push _)[wr.heap.size]?=_;exact C7
  have zC:A≠r:=by have:=S.lt;omega
  have B:Hid (∀u,l.grownBy u (some r)->∀(t:Nat) x,#[Iq kd,Iq a0,Iq O,Iq C,Iq G,Iq a4,Iq a5,Iq a6,Iq a7,Iq a8,Iq a9,Iq b0,Iq b1,.string tx,.slice pk kl V,Iq up][t]?=some x->u.cell? (aq A t)=some x):=λu hu t x ht=>by have zB:=(aj.1 Z).1;have:=hu.block A zB (λe=>by injection e with e;omega);rw[Lib.cell_of_heap (this.trans Z)];exact ht
  have zm:Hid (U.grownBy l (some r)):=by rw[<-D];exact ni I _
  have R:Hid (aU l r H (s+cS q k)):=by rw[<-D];exact S.alloc _
  have zA:Hid (l.rowIs i 400 (m*3) (sH a b cc k)):=by rw[<-D];exact T.alloc _
  have z2:l.cell? (aq A 2)=some (Iq O):=B l (aa Ok) 2 _ rfl;have z3:l.cell? (aq A 3)=some (Iq C):=B l (aa Ok) 3 _ rfl;have z4:l.cell? (aq A 4)=some (Iq G):=B l (aa Ok) 4 _ rfl;have zh:U.heap.size<=i:=by rw[zn.out];exact LE
  have o:Hid (∀u x,l.grownBy u (some r)->aU u r H (s+cS q (k+1))->x=a k->u.cell? (aq A 3)=some (Iq C)/\u.cell? (aq A 4)=some (Iq G)/\i<u.heap.size/\(∀j,u.frozen? (aq i j)=false)/\(∃v,u.cell? (aq i (k*3))=some v)/\(∃v,u.cell? (aq i (k*3+1))=some v)/\(∃v,u.cell? (aq i (k*3+2))=some v)/\
   Hid (U.grownBy (((u.setCell (aq i (k*3)) (Iq x)).setCell (aq i (k*3+1)) (Iq C)).setCell (aq i (k*3+2)) (Iq G)) (some r))/\Hid (aU (((u.setCell (aq i (k*3)) (Iq x)).setCell (aq i (k*3+1)) (Iq C)).setCell (aq i (k*3+2)) (Iq G)) r H (s+cS q (k+1)))/\Hid ((((u.setCell (aq i (k*3)) (Iq x)).setCell (aq i (k*3+1)) (Iq C)).setCell (aq i (k*3+2)) (Iq G)).rowIs i 400 (m*3) (sH a b cc (k+1)))):=λu x hu zH hx=>by have F:=nH zA hu P;have zD:=zm.trans hu;refine⟨B u hu 3 _ rfl,B u hu 4 _ rfl,F.lt,λj=>F.frozen j,⟨_,F.cell dg⟩,⟨_,F.cell dg⟩,⟨_,F.cell dg⟩,iy (iy (iy zD zh _) zh _) zh _,((zH.set P _).set P _).set P _,Ci F _ _ _ hx eB.symm eC.symm⟩
  have zl:=qH<|eA;clear zt d n Z zg zx eA eB eC zj zr zE zC zv;by_cases h3:G=0
  .subst h3;have HC:Hid (∀u,(u=l\/u=l.drew)->Cw f (av k) u λe Q=>e=Rw (Iq (N k))/\Q.cell? (aq A 3)=some (Iq C)/\Hid (l.grownBy Q (some r))/\Hid (aU Q r H (s+cS q (k+1)))):=λu hu=>by
    have zu:l.grownBy u (some r):=by
     rcases hu with rfl|rfl;.exact aa Ok
     .exact jI (aa Ok)
    have zF:aU u r H (s+cS q k):=by
     rcases hu with rfl|rfl;.exact R
     .exact R.drew
    refine Ut (NC k u E (zm.trans zu) zF) ?_;rintro Q ⟨q1,q2⟩;have:=zu.trans q1;exact⟨rfl,B Q this 3 _ rfl,this,q2⟩
   have HX:Hid (max O (nA (N k) C)=a k):=qH<|by rw[zl.out,if_pos rfl]
   obtain⟨y,hy⟩:=af (N k);obtain⟨z,hz⟩:=af (nA (N k) C);have zk:Hid (∀w,Cw 308 #[Iq y,Iq C] w λe w'=>e=Rw (Iq z)/\w'=w):=λw=>by rw[<-hz,<-hy];exact AM _ _ _
   rw[hz]at HX;rw[hy]at HC;clear hy hz AM NC;go_upto_region 8 with fail;go_cut[11]from 34 to 41 (λv wx=>v=Iq (max O z)/\Hid (l.grownBy wx (some r))/\Hid (aU wx r H (s+cS q (k+1))))
   .clear D hA;rcases hf.out with⟨rfl,X,rfl,rfl⟩|⟨rfl,X,Y,rfl,rfl⟩<;>dsimp only at HC;all_goals go_region_held(λW=>W.cell? (aq A 3)=some (Iq C)) (go_keep) (first|((first|go_at_call 261|go_at_call 262);refine ag (HC _ (by first|exact .inl rfl|exact .inr rfl)) ?_;rintro e u ⟨rfl,zM,J,K⟩)|(go_at_call 308;refine ag (zk _) ?_;rintro e u2 ⟨rfl,zI⟩;obtain rfl:=zI.symm))
    all_goals go_wp2_with fail
    all_goals go_meet
    all_goals exact⟨by first|rfl|exact congrArg (Value.int .i64) dg,by first|exact J|exact jI J,by first|exact K|exact K.drew⟩
   obtain⟨rfl,J,K⟩:=hcut;obtain⟨f3,f4,f5,f6,⟨v0,f7⟩,⟨v1,f8⟩,⟨v2,f9⟩,F1,F2,F3⟩:=o wc (max O z) J K HX;clear z2 z3 z4 D hA HC zk o;go_wp2;go_roundw;.exact⟨k+1,E,by go_num,F1,F2,F3⟩
   .simp[intOf];omega
  .have e3:(G==0)=false:=by simpa using h3
   have HX:Hid (O=a k):=qH<|by rw[zl.out,if_neg h3]
   obtain⟨f3,f4,f5,f6,⟨v0,f7⟩,⟨v1,f8⟩,⟨v2,f9⟩,F1,F2,F3⟩:=o l O (aa Ok) (R.mono (by show s+cS q k<=s+(cS q k+q k);omega)) HX;clear o NC;go_wp2;go_roundw;.exact⟨k+1,E,by go_num,F1,F2,F3⟩
   .simp[intOf];omega
 .have zw:¬(k:Int)<(m:Int):=dg;obtain rfl:k=m:=dg;go_wp2;go_ret;exact⟨i,rfl,Jz T,by rw[zn.out];omega,I,S⟩
def vw(d:Nd)(id:Int):Bool:=decide ((d.kind:Int)=4)&&decide (au d 0=id)
def E_(L:zza)(id:Int)(j:Nat):Nat->Int
 |0=>-1
 |f+1=>if vw (ae L j) id=true then(j:Int)else E_ L id (j+1) f
def lq(L:zza)(id:Int):Int:=if id=0 then-1 else E_ L id 0 L.length
def Jb(L:zza)(id:Int):∀f j,E_ L id j f=-1\/∃i:Nat,j<=i/\i<j+f/\E_ L id j f=(i:Int)/\vw (ae L i) id=true
 |0,j=>.inl rfl
 |f+1,j=>by
  unfold E_;by_cases h:vw (ae L j) id=true;.rw[if_pos h];exact .inr ⟨j,dg,dg,rfl,h⟩
  .rw[if_neg h];rcases Jb L id f (j+1)with q|⟨i,c,d,a,b⟩;.exact .inl q
   .exact .inr ⟨i,dg,dg,a,b⟩
def scI_is(L:zza)(id:Int):lq L id=-1\/∃i:Nat,i<L.length/\lq L id=(i:Int)/\(ae L i).kind=4/\au (ae L i) 0=id/\id≠0:=by
 unfold lq;by_cases h:id=0;.exact .inl (if_pos h)
 .rw[if_neg h];rcases Jb L id L.length 0 with q|⟨i,c,d,b,a⟩;.exact .inl q
  .simp[vw]at a;exact .inr ⟨i,dg,b,dg,a.2,h⟩
structure Dd(U:AT)(g:Nat)(L:zza):Prop where
 lt:g<U.heap.size
 len:∀j,j<L.length->(ae L j).attr.length=12
 nd:∀j,j<L.length->∃p c,U.rangeAt g (j*16) (aW (ae L j) (.slice p (ae L j).kids.length c))
def Dd.block{U d:AT}{g:Nat}{L:zza}(h:Dd U g L)(b:d.heap[g]?=U.heap[g]?):Dd d g L:=by
 refine⟨?_,h.len,λj e=>?_⟩;.rw[xO h.lt]at b;exact(aj.1 b).1
 .obtain⟨p,c,q⟩:=h.nd j e;exact⟨p,c,λt v f=>(aQ (a:=(aq g _)) b).trans (q t v f)⟩
def PN.ndc{W:AT}{B g b:Nat}{L:zza}{KV:Nat->Fd}(h:PN W B (Sq g L.length b) L KV)(f:0<L.length):Dd W g L/\B<=g:=by
 obtain⟨s,n⟩:=h.nr.row;obtain⟨d,l⟩:g<W.heap.size/\B<=g:=by
  rcases cm n with⟨e,_⟩|⟨k,a,e,o,q,_⟩;.cases e
  .grind
 refine⟨⟨d,h.len,λj i=>?_⟩,l⟩;obtain⟨p,c,e⟩:∃p c,KV j=.slice p (ae L j).kids.length c:=by
  rcases cm (h.nr.kids j i)with⟨e,f⟩|⟨k,a,e,_⟩;.exact⟨none,0,by rw[e,f]⟩
  .exact⟨_,_,e⟩
 exact⟨p,c,λt v m=>h.nr.cells g rfl j i t v (by rw[e];exact m)⟩
def scOf1_any(d:Nd)(j:d.attr.length=12)(p:zze)(n c:Nat)(id:Int)(b:Nat)(W:AT)(A:W.cell? (aq b 0)=some (Iq id))(i:b<W.heap.size):
 Cw 59 #[.agg (aW d (.slice p n c)).toArray,Pq b] W λe W'=>e=Rw (.bool (vw d id))/\Gr W W':=by
 rw[iE j];unfold vw;generalize d.text.toArray=tx;generalize(d.kind:Int)=h;generalize au d 0=g;generalize au d 1=k;generalize au d 2=l;generalize au d 3=m;generalize au d 4=o;generalize au d 5=q;generalize au d 6=s;generalize au d 7=t;generalize au d 8=u;generalize au d 9=v;generalize au d 10=w;generalize au d 11=x;generalize d.up=up;by_cases a:h=4
 .by_cases f:g=id;.subst a f;go_enter func59,ntmps59;go_wp2;go_ret;exact⟨At,(Gr.refl _).alloc _⟩
  .have z:(g==id)=false:=by simpa using f
   subst a;go_enter func59,ntmps59;go_wp2;go_ret;exact⟨by simp[f],(Gr.refl _).alloc _⟩
 .have y:(h==4)=false:=by simpa using a
  go_enter func59,ntmps59;go_wp2;go_ret;exact⟨by simp[a],(Gr.refl _).alloc _⟩
def OP:(prog.info? 140).map (·.size)=some 16:=pt
def idxF_any{L:zza}(g u b:Nat)(id:Int)(U:AT)(I:Dd U g L)(H:L.length<=100)(z:U.cell? (aq b 0)=some (Iq id))(l:b<U.heap.size):
 Cw 58 #[Sq g L.length u,.func (.func 59) #[] #[Pq b]] U λe F=>e=Rw (Iq (E_ L id 0 L.length))/\Gr U F:=by
 have K:∀args w,(callFunc 59 args).run prog w=.ok (.enter 59 args) w:=enters_of func59 pt rfl;obtain⟨m,B⟩:=af L.length;have E:=qH B;have t:=qH I;have D:=qH z;obtain⟨d0,f⟩:∃d,prog.underlying 140=some d/\d.isRow=true:=⟨_,underlying140,rfl⟩;rw[B];clear z;go_enter func58,ntmps58;go_wp2;go_loopw[8] (λx wr=>∃k:Nat,k<=m/\x=Iq (k:Int)/\Hid (Gr U wr)/\Hid (E_ L id 0 m=E_ L id k (m-k))) (λx _=>m-(intOf x).toNat);.exact⟨0,LT,rfl,Gr.refl _,rfl⟩
 obtain⟨k,M,rfl,j,s⟩:=hrel;by_cases J:k<m
 .have o:(k:Int)<(m:Int):=dg;have n:k<L.length:=by have:=E.out;omega
  obtain⟨p,c,i⟩:=(t.block (j.block t.lt)).nd k n;have A:=t.len k n;have CL:=qH<|scOf1_any (ae L k) A p (ae L k).kids.length c id b wr ((j.below.cell (p:=(aq b 0)) l).trans D) (zz006 l j.below.size);have q:E_ L id k (m-k)=if vw (ae L k) id=true then(k:Int)else E_ L id (k+1) (m-(k+1)):=by rw[show m-k=(m-(k+1))+1 by omega];rfl
  have a:=qH q;clear q;have hi:(prog.info? 140).map (·.size)=some (aW (ae L k) (.slice p (ae L k).kids.length c)).length:=by rw[IW A];exact OP
  generalize v:aW (ae L k) (.slice p (ae L k).kids.length c)=y at i CL hi;clear v;cases C:vw (ae L k) id with
  |true=>rw[C]at CL a;go_wp2_with(first|(refine wpList_load_mid rfl 140 _ rfl g (k*16) rfl y d0 i f.1 f.2 hi ?_)|(go_at_fn 59;refine Ut CL ?_;rintro G h));go_ret;exact⟨by rw[s.out,a.out];simp,j.trans h⟩
  |false=>
   rw[C]at CL a;go_wp2_with(first|(refine wpList_load_mid rfl 140 _ rfl g (k*16) rfl y d0 i f.1 f.2 hi ?_)|(go_at_fn 59;refine Ut CL ?_;rintro G h));go_roundw;.exact⟨k+1,dg,by go_num,j.trans h,by show _=_;rw[s.out,a.out];simp⟩
   .simp[intOf];omega
 .have o:¬(k:Int)<(m:Int):=dg;obtain rfl:k=m:=dg;go_wp2;go_ret;exact⟨by rw[s.out];simp[E_],j⟩
def scrollOf_any{L:zza}(g a:Nat)(id:Int)(U:AT)(h:Dd U g L)(f:L.length<=100):
 Cw 32 #[Sq g L.length a,Iq id] U λe j=>e=Rw (Iq (lq L id))/\Gr U j:=by
 unfold lq;by_cases c:id=0;.subst c;rw[if_pos rfl];go_enter func32,ntmps32;go_wp2;go_ret;exact⟨rfl,(Gr.refl _).alloc _⟩
 .rw[if_neg c];have l:(id==0)=false:=by simpa using c
  have i:=qH<|(Gr.refl U).alloc (.cells #[Iq id] 3);have b:=qH<|idxF_any g a U.heap.size id (U.alloc (.cells #[Iq id] 3)) (h.block (i.block h.lt)) f At At;clear h;generalize L.length=m at b|-;generalize E_ L id 0 m=z at b|-;go_enter func32,ntmps32;go_wp2_with(go_at_call 58;refine Ut b ?_;rintro k d);go_ret;exact⟨rfl,i.trans d⟩
def Oi(W:AT)(kv:Fd)(ks:zzh):Prop:=∃p c,kv=.slice p ks.length c/\(ks=[]\/∃kb ko,p=some (aq kb ko)/\kb<W.heap.size/\∀i,i<ks.length->W.cell? (aq kb (ko+i))=some (Iq ((ks[i]?.getD 0:Nat):Int)))
structure Xv(W:AT)(g j:Nat)(d:Nd)(ab:Nat)(kv:Fd):Prop where
 c0:W.cell? (aq g (j*5))=some (Iq (d.kind:Int))
 c1:W.cell? (aq g (j*5+1))=some (Sq ab 12 12)
 c2:W.cell? (aq g (j*5+2))=some (.string ⟨d.text.toArray⟩)
 c3:W.cell? (aq g (j*5+3))=some kv
 c4:W.cell? (aq g (j*5+4))=some (Iq d.up)
 lab:ab<W.heap.size
 att:∀k,k<12->W.cell? (aq ab k)=some (Iq (d.attr[k]?.getD 0))
 kids:Oi W kv d.kids
structure De(W:AT)(g n:Nat)(L:Nat->Nd):Prop where
 lt:g<W.heap.size
 nd:∀j,j<n->∃ab kv,Xv W g j (L j) ab kv
def De.below{W W'}{g n}{L}(h:De W g n L)(a:Bq W W'):De W' g n L:=by
 refine⟨zz006 h.lt a.size,λj o=>?_⟩;obtain⟨ab,t,q⟩:=h.nd j o;refine⟨ab,t,(a.cell (p:=(aq g _)) h.lt).trans q.c0,(a.cell (p:=(aq g _)) h.lt).trans q.c1,(a.cell (p:=(aq g _)) h.lt).trans q.c2,(a.cell (p:=(aq g _)) h.lt).trans q.c3,(a.cell (p:=(aq g _)) h.lt).trans q.c4,zz006 q.lab a.size,λk s=>(a.cell (p:=(aq ab k)) q.lab).trans (q.att k s),?_⟩;obtain⟨p,c,e,r⟩:=q.kids;refine⟨p,c,e,?_⟩;rcases r with r|⟨d,f,l,b,m⟩;.grind
 .exact .inr ⟨d,f,l,zz006 b a.size,λi hi=>(a.cell (p:=(aq d (f+i))) b).trans (m i hi)⟩
def Eb{W:AT}{B}{e}{a}(h:W.ownsRow B 3 1 e a.length (gU a)):∃p c,e=.slice p a.length c/\(a=[]\/∃b d,p=some (aq b d)/\b<W.heap.size/\∀i,i<a.length->W.cell? (aq b (d+i))=some (Iq ((a[i]?.getD 0:Nat):Int))):=by
 rcases cm h with⟨rfl,k⟩|⟨g,f,rfl,l,j,m,n⟩;.grind
 .refine⟨_,_,rfl,.inr ⟨g,0,rfl,j,λi hi=>?_⟩⟩;rw[b_,h.cellAt i dg];grind[gU]
def RD.nds{W}{B}{g b}{L}{d}{KV}(h:RD W B (Sq g L.length b) L d KV)(e:g<W.heap.size):De W g L.length (ae L):=by refine⟨e,λj a=>⟨d j,KV j,?_⟩⟩;have c:=λt u i=>h.nr.cells g rfl j a t u i;exact⟨c 0 _ rfl,c 1 _ rfl,c 2 _ rfl,c 3 _ rfl,c 4 _ rfl,(h.att j a).2.1,λk f=>((h.att j a).2.2 k f).1,Eb (h.nr.kids j a)⟩
