import Derived.RangeFuncNested
import Derived.RangeFuncBound
import Derived.Test.YtehgehanbnkdiaaGreatDoorProg
import Derived.Test.YtehgehanbnkdiaaGreatDoorQ00
set_option linter.all false
set_option maxRecDepth 100000
set_option maxHeartbeats 16000000
namespace Go.Proofs.YtehgehanbnkdiaaGreatDoor
open Go.RowKit
section
def Aside{β:Type}(o:Nat)(J:β->AT->Prop):Prop:=∀s A B row,J s A->A.grownBy B row->(row=none\/row=some o)->J s B
def Fp{α}(F:Fence)(n:Nat)(P:Program)(g:Nat)(lb:Array Fd)(Tg:α->Array Fd)(o:Nat)(Kp:AT->AT->Prop)(S:List α->Prop)(X:α->Prop)(N:Nat)(w:AT):Prop:=
 ∀(l:Nat) (J:List α->AT->Prop) (W:AT),Bq w W->Aside o J->
  (∀pre x W1,J pre W1->pre.length<N->X x->YieldAt F (n-1) P l (Tg x) W1 λe W'=>e=Rw (.bool true)/\J (pre++[x]) W'/\Kp W1 W')->
  J [] W->CallsIn F n P g (#[.func (.yield l) #[] #[]]++lb) W λe W'=>(∃v,e=Rw v)/\∃xs,S xs/\J xs W'
def tk{α:Type}(B:Nat)(Kp:AT->AT->Prop)(I:List α->AT->Prop)(xs:List α)(W:AT):Exit->Act->AT->Prop
 |.normal,_,W'=>KeepsFrom B W W'/\Kp W W'/\I xs W'
 |_,_,_=>False
variable{F:Fence} {n:Nat} {P:Program}
def kB{α:Type}{g:Operand}{ps:Array Tmp}{assign body:Code}{Q:Exit->Act->AT->Prop}{a:Act}{w:AT}(zJ:F.round=none)(h1:1<=n){gf:Nat}{lb:Array Fd}(hg:a.eval g=.func (.func gf) #[] lb)(zL:F.fn gf)(eg:∀args w,(callFunc gf args).run P w=.ok (.enter gf args) w){f:α->Array Fd}{o:Nat}{q:AT->AT->Prop}{S:List α->Prop}{X:α->Prop}{N:Nat}{w0:AT}(zi:Fp F (n-1) P gf lb f o q S X N w0)(ho:o<w.heap.size)(y:∀{A B C:AT},q A B->q B C->q A C)(zt:∀(W:AT) (l:Nat) (x:Obj),w.heap.size<=l->q W (W.putObj l x))(T:Bq w0 w)(zN:∀x,(f x).size=ps.size)(I:List α->AT->Prop)(M:OwnFrom w.heap.size I)(zq:Aside o I)(h0:I [] w)(Ax:α->Act->AT->Prop)(hAx:∀x a',OwnFrom w.heap.size (fun(_:Unit) W=>Ax x a' W))(j:∀(l:Nat) (c:List α) (x:α) (W:AT) (K:Act->AT->Prop),I c W->(∀a' u,KeepsFrom w.heap.size W u->q W u->I c u->Ax x a' u->K a' u)->
  assign.wpIn (F.inRound l) (n-1-1) P (Exit.then K (λ_ _ _=>False)) {tmps:=(ps.zip (f x)).foldl (λt (p,v)=>t.setIfInBounds p v) a.tmps,defers:=[]} W)(z:∀(l:Nat) (c:List α) (x:α) (a':Act) (W:AT),I c W->Ax x a' W->c.length<N->X x->body.wpIn (F.inRound l) (n-1-1) P (tk w.heap.size q I (c++[x]) W) a' W)(E:∀(D:Nat) (xs:List α) (W:AT),w.heap.size<=D->S xs->I xs W->W.heap[D]?=some (.deferred (some []))->Q .normal {a with defers:={target:=.collected D,args:=#[]}::a.defers} W):
 (Code.rangeFunc g ps assign body).wpIn F n P Q a w:=by
 refine wpIn_rangeFunc λfn zB=>?_;rw[zJ];obtain⟨rec,h⟩:∃rec:LoopState->Option Code->Loop,rec=λst pe=>{state:=st,pending:=pe,fn,tmps:=a.tmps,params:=ps,assign,body,defers:=w.heap.size}:=⟨_,rfl⟩;obtain⟨V,O⟩:=af ((w.alloc (.deferred (some []))).alloc (.loop (rec .ready none)));have zu:V.heap[w.heap.size+1]?=some (.loop (rec .ready none)):=by have:=World.alloc_heap_new (w.alloc (.deferred (some []))) (.loop (rec .ready none));rw[ai,O]at this;exact this
 have zn:V.heap[w.heap.size]?=some (.deferred (some [])):=by rw[<-O];exact(bG _ _ _ At).trans (World.alloc_heap_new w _)
 have zo:I [] V:=by rw[<-O];exact M.alloc _ (M.alloc _ h0)
 have zx:Bq w0 V:=by rw[<-O];exact T.trans ((((ac _ w).alloc LE _).alloc At _).mono T.size)
 refine⟨w.heap.size+1,[{target:=.collected w.heap.size,args:=#[]}],V,{target:=.fn (.func gf) lb,args:=#[.func (.yield (w.heap.size+1)) #[] #[]]},V,gf,#[.func (.yield (w.heap.size+1)) #[] #[]]++lb,V,?_,?_,?_,?_,λ_=>h1,?_⟩;.rw[<-O,h];exact run_enterLoop_outer _ _ _ _ _
 .simp only[resolve,hg];simp[go_sem]
 .intro f' zA;simp[Target.leads]at zA;grind
 .simp[invoke,go_sem,eg]
 .let J:List α->AT->Prop:=λc W=>I c W/\W.heap[w.heap.size+1]?=some (.loop (rec .ready none))/\W.heap[w.heap.size]?=some (.deferred (some []));have hJ:Aside o J:=λs A B row ⟨q1,q2,q3⟩ U hr=>by have zj:∀b x,w.heap.size<=b->A.heap[b]?=some x->B.heap[b]?=some x:=λb x hb hx=>(U.block b (aj.1 hx).1 (λe=>rn)).trans hx;exact⟨zq s A B row q1 U hr,zj _ _ dg q2,zj _ _ LE q3⟩
  refine(zi (w.heap.size+1) J V zx hJ ?_ ⟨zo,zu,zn⟩).mono ?_
  .rintro c x W ⟨hi,H,hk⟩ zg zK;have zM:=(aj.1 H).1;have hy:=run_yield (P:=P) (args:=f x) H rn;rw[h]at hy;refine⟨fn,_,assign,body,hy,roundIn_of_wpIn zB (j _ c x W _ hi λa' u Z zH zC zw=>?_)⟩;have m:=Z.same _ _ dg H rfl;have zF:=Z.same _ _ LE hk rfl;have zh:=(aj.1 m).1;refine⟨_,run_beginRound m (by rw[h]),?_⟩;obtain⟨r,R⟩:∃r,u.putObj (w.heap.size+1) (.loop {rec .ready none with state:=.busy})=r:=⟨_,rfl⟩;have zI:r.heap[w.heap.size+1]?=some (.loop {rec .ready none with state:=.busy}):=by rw[<-R];exact World.putObj_heap_same zh
   have zG:r.heap[w.heap.size]?=some (.deferred (some [])):=by rw[<-R];exact(World.putObj_heap_other dg).trans zF
   have zr:q W r:=y zH rn;have zE:I c r:=by rw[<-R];exact M.putObj _ zC dg m rfl
   have zv:Ax x a' r:=by rw[<-R];exact(hAx x a').putObj (s:=()) _ zw dg m rfl
   rw[R];refine wpIn_mono (z _ c x a' r zE zv zg zK) ?_;rintro e a3 W3 L;cases e with
   |normal=>obtain⟨Y,ze,zD⟩:=L;have G:=Y.same _ _ dg zI rfl;have zy:=Y.same _ _ LE zG rfl;have hr:=run_endRound (P:=P) none G;refine⟨_,_,hr,rfl,⟨M.putObj _ zD dg G rfl,?_,(World.putObj_heap_other dg).trans zy⟩,y (y zr ze) (zt _ _ _ dg)⟩;rw[World.putObj_heap_same (aj.1 G).1,h];rfl
   |ret=>exact L.elim
   |exit id=>exact L.elim
   |goto t=>exact L.elim
   |panic ch=>exact L.elim
   |outgrown=>exact L.elim
  .rintro e W2 ⟨⟨v,rfl⟩,xs,hS,hi,H,hk⟩;refine⟨none,W2.putObj (w.heap.size+1) (.loop (rec .exhausted none)),?_,E _ xs _ LE hS (M.putObj _ hi dg H rfl) ((World.putObj_heap_other dg).trans hk)⟩;have:=run_endLoop (P:=P) H rn;grind
