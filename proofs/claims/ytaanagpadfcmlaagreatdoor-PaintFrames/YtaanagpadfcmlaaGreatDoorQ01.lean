import Derived.RangeFuncNested
import Derived.RangeFuncBound
import Derived.Test.YtaanagpadfcmlaaGreatDoorProg
import Derived.Test.YtaanagpadfcmlaaGreatDoorQ00
set_option linter.all false
set_option maxRecDepth 100000
set_option maxHeartbeats 16000000
namespace Go.Proofs.YtaanagpadfcmlaaGreatDoor
open Go.RowKit
section
def Aside{β:Type}(o:Nat)(J:β->World->Prop):Prop:=∀s A B row,J s A->A.grownBy B row->(row=none\/row=some o)->J s B
def GK{α}(F:Fence)(n:Nat)(P:Program)(g:Nat)(lb:Array Value)(Se:α->Array Value)(o:Nat)(Kp:World->World->Prop)(S:List α->Prop)(X:α->Prop)(N:Nat)(w:World):Prop:=
 ∀(l:Nat) (J:List α->World->Prop) (W:World),Bt w W->Aside o J->
  (∀pre x W1,J pre W1->pre.length<N->X x->YieldAt F (n-1) P l (Se x) W1 λe W'=>e=Rw (.bool true)/\J (pre++[x]) W'/\Kp W1 W')->
  J [] W->CallsIn F n P g (#[.func (.yield l) #[] #[]]++lb) W λe W'=>(∃v,e=Rw v)/\∃xs,S xs/\J xs W'
def uS{α:Type}(B:Nat)(Kp:World->World->Prop)(I:List α->World->Prop)(xs:List α)(W:World):Exit->Act->World->Prop
 |.normal,_,W'=>KeepsFrom B W W'/\Kp W W'/\I xs W'
 |_,_,_=>False
variable{F:Fence} {n:Nat} {P:Program}
theorem lN{α:Type}{g:Operand}{ps:Array Tmp}{assign body:Code}{Q:Exit->Act->World->Prop}{a:Act}{w:World}(zE:F.round=none)(h1:1<=n){gf:Nat}{lb:Array Value}(hg:a.eval g=.func (.func gf) #[] lb)(zG:F.fn gf)(eg:∀args w,(callFunc gf args).run P w=.ok (.enter gf args) w){f:α->Array Value}{o:Nat}{q:World->World->Prop}{S:List α->Prop}{X:α->Prop}{N:Nat}{w0:World}(zc:GK F (n-1) P gf lb f o q S X N w0)(ho:o<w.heap.size)(y:∀{A B C:World},q A B->q B C->q A C)(zn:∀(W:World) (l:Nat) (x:Obj),w.heap.size<=l->q W (W.putObj l x))(R:Bt w0 w)(zI:∀x,(f x).size=ps.size)(I:List α->World->Prop)(L:OwnFrom w.heap.size I)(zl:Aside o I)(h0:I [] w)(Ax:α->Act->World->Prop)(hAx:∀x a',OwnFrom w.heap.size (fun(_:Unit) W=>Ax x a' W))(j:∀(l:Nat) (c:List α) (x:α) (W:World) (K:Act->World->Prop),I c W->(∀a' u,KeepsFrom w.heap.size W u->q W u->I c u->Ax x a' u->K a' u)->
  assign.wpIn (F.inRound l) (n-1-1) P (Exit.then K (λ_ _ _=>False)) {tmps:=(ps.zip (f x)).foldl (λt (p,v)=>t.setIfInBounds p v) a.tmps,defers:=[]} W)(z:∀(l:Nat) (c:List α) (x:α) (a':Act) (W:World),I c W->Ax x a' W->c.length<N->X x->body.wpIn (F.inRound l) (n-1-1) P (uS w.heap.size q I (c++[x]) W) a' W)(E:∀(D:Nat) (xs:List α) (W:World),w.heap.size<=D->S xs->I xs W->W.heap[D]?=some (.deferred (some []))->Q .normal {a with defers:={target:=.collected D,args:=#[]}::a.defers} W):
 (Code.rangeFunc g ps assign body).wpIn F n P Q a w:=by
 refine wpIn_rangeFunc λfn zw=>?_;rw[zE];obtain⟨rec,h⟩:∃rec:LoopState->Option Code->Loop,rec=λst pe=>{state:=st,pending:=pe,fn,tmps:=a.tmps,params:=ps,assign,body,defers:=w.heap.size}:=⟨_,rfl⟩;obtain⟨V,M⟩:=ad ((w.alloc (.deferred (some []))).alloc (.loop (rec .ready none)));have zo:V.heap[w.heap.size+1]?=some (.loop (rec .ready none)):=by have:=World.alloc_heap_new (w.alloc (.deferred (some []))) (.loop (rec .ready none));rw[au,M]at this;exact this
 have zj:V.heap[w.heap.size]?=some (.deferred (some [])):=by rw[<-M];exact(cK _ _ _ rn).trans (World.alloc_heap_new w _)
 have zk:I [] V:=by rw[<-M];exact L.alloc _ (L.alloc _ h0)
 have zt:Bt w0 V:=by rw[<-M];exact R.trans ((((af _ w).alloc (ae _) _).alloc rn _).mono R.size)
 refine⟨w.heap.size+1,[{target:=.collected w.heap.size,args:=#[]}],V,{target:=.fn (.func gf) lb,args:=#[.func (.yield (w.heap.size+1)) #[] #[]]},V,gf,#[.func (.yield (w.heap.size+1)) #[] #[]]++lb,V,?_,?_,?_,?_,λ_=>h1,?_⟩;·rw[<-M,h];exact run_enterLoop_outer _ _ _ _ _
 ·simp only[resolve,hg];simp[go_sem]
 ·intro f' zv;simp[Target.leads]at zv;grind
 ·simp[invoke,go_sem,eg]
 ·let J:List α->World->Prop:=λc W=>I c W/\W.heap[w.heap.size+1]?=some (.loop (rec .ready none))/\W.heap[w.heap.size]?=some (.deferred (some []));have hJ:Aside o J:=λs A B row ⟨q1,q2,q3⟩ T hr=>by have ze:∀b x,w.heap.size<=b->A.heap[b]?=some x->B.heap[b]?=some x:=λb x hb hx=>(T.block b (aD.1 hx).1 (λe=>rd)).trans hx;exact⟨zl s A B row q1 T hr,ze _ _ dg q2,ze _ _ (ae _) q3⟩
  refine(zc (w.heap.size+1) J V zt hJ ?_ ⟨zk,zo,zj⟩).mono ?_
  ·rintro c x W ⟨hi,H,hk⟩ za zF;have zH:=(aD.1 H).1;have hy:=run_yield (P:=P) (args:=f x) H rd;rw[h]at hy;refine⟨fn,_,assign,body,hy,roundIn_of_wpIn zw (j _ c x W _ hi λa' u Y zC zx zr=>?_)⟩;have m:=Y.same _ _ dg H rfl;have zA:=Y.same _ _ (ae _) hk rfl;have zb:=(aD.1 m).1;refine⟨_,run_beginRound m (by rw[h]),?_⟩;obtain⟨r,O⟩:∃r,u.putObj (w.heap.size+1) (.loop {rec .ready none with state:=.busy})=r:=⟨_,rfl⟩;have zD:r.heap[w.heap.size+1]?=some (.loop {rec .ready none with state:=.busy}):=by rw[<-O];exact World.putObj_heap_same zb
   have zB:r.heap[w.heap.size]?=some (.deferred (some [])):=by rw[<-O];exact(World.putObj_heap_other dg).trans zA
   have zm:q W r:=y zC rd;have zz:I c r:=by rw[<-O];exact L.putObj _ zx dg m rfl
   have zq:Ax x a' r:=by rw[<-O];exact(hAx x a').putObj (s:=()) _ zr dg m rfl
   rw[O];refine wpIn_mono (z _ c x a' r zz zq za zF) ?_;rintro e a3 W3 hp;cases e with
   |normal=>obtain⟨U,Z,zy⟩:=hp;have G:=U.same _ _ dg zD rfl;have zu:=U.same _ _ (ae _) zB rfl;have hr:=run_endRound (P:=P) none G;refine⟨_,_,hr,rfl,⟨L.putObj _ zy dg G rfl,?_,(World.putObj_heap_other dg).trans zu⟩,y (y zm Z) (zn _ _ _ dg)⟩;rw[World.putObj_heap_same (aD.1 G).1,h];rfl
   |ret=>exact hp.elim
   |exit id=>exact hp.elim
   |goto t=>exact hp.elim
   |panic ch=>exact hp.elim
   |outgrown=>exact hp.elim
  ·rintro e W2 ⟨⟨v,rfl⟩,xs,hS,hi,H,hk⟩;refine⟨none,W2.putObj (w.heap.size+1) (.loop (rec .exhausted none)),?_,E _ xs _ (ae _) hS (L.putObj _ hi dg H rfl) ((World.putObj_heap_other dg).trans hk)⟩;have:=run_endLoop (P:=P) H rd;grind
