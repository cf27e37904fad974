import Derived.RangeFuncNested
import Derived.RangeFuncBound
import Derived.Test.YtiaimhjebnobnaaGreatDoorProg
import Derived.Test.YtiaimhjebnobnaaGreatDoorQ00
set_option linter.all false
set_option maxRecDepth 100000
set_option maxHeartbeats 16000000
namespace Go.Proofs.YtiaimhjebnobnaaGreatDoor
open Go.RowKit
section
def Aside{β:Type}(o:Nat)(J:β->World->Prop):Prop:=∀s A B row,J s A->A.grownBy B row->(row=none\/row=some o)->J s B
def NI{α}(F:Fence)(n:Nat)(P:Program)(g:Nat)(lb:Array Value)(KF:α->Array Value)(o:Nat)(Kp:World->World->Prop)(S:List α->Prop)(X:α->Prop)(N:Nat)(w:World):Prop:=
 ∀(l:Nat) (J:List α->World->Prop) (W:World),Bt w W->Aside o J->
  (∀pre x W1,J pre W1->pre.length<N->X x->YieldAt F (n-1) P l (KF x) W1 fun e W'=>e=Rw (.bool true)/\J (pre++[x]) W'/\Kp W1 W')->
  J [] W->CallsIn F n P g (#[.func (.yield l) #[] #[]]++lb) W fun e W'=>(∃v,e=Rw v)/\∃xs,S xs/\J xs W'
def zQ{α:Type}(B:Nat)(Kp:World->World->Prop)(I:List α->World->Prop)(xs:List α)(W:World):Exit->Act->World->Prop
 |.normal,_,W'=>KeepsFrom B W W'/\Kp W W'/\I xs W'
 |_,_,_=>False
variable{F:Fence} {n:Nat} {P:Program}
theorem oH{α:Type}{g:Operand}{ps:Array Tmp}{assign body:Code}{Q:Exit->Act->World->Prop}{a:Act}{w:World}
 (hro:F.round=none) (h1:1<=n) {gf:Nat} {lb:Array Value} (hg:a.eval g=.func (.func gf) #[] lb) (hFg:F.fn gf) (eg:∀args w,(callFunc gf args).run P w=.ok (.enter gf args) w)
 {KF:α->Array Value} {o:Nat} {Kp:World->World->Prop} {S:List α->Prop} {X:α->Prop} {N:Nat} {w0:World} (ziO:NI F (n-1) P gf lb KF o Kp S X N w0) (ho:o<w.heap.size)
 (hKt:∀{A B C:World},Kp A B->Kp B C->Kp A C) (hKb:∀(W:World) (l:Nat) (x:Obj),w.heap.size<=l->Kp W (W.putObj l x)) (hb0:Bt w0 w) (Gt:∀x,(KF x).size=ps.size)
 (I:List α->World->Prop) (hI:OwnFrom w.heap.size I) (hIo:Aside o I) (h0:I [] w)
 (Ax:α->Act->World->Prop) (hAx:∀x a',OwnFrom w.heap.size (fun(_:Unit) W=>Ax x a' W))
 (Ud:∀(l:Nat) (pre:List α) (x:α) (W:World) (K:Act->World->Prop),I pre W->(∀a' W',KeepsFrom w.heap.size W W'->Kp W W'->I pre W'->Ax x a' W'->K a' W')->
  assign.wpIn (F.inRound l) (n-1-1) P (Exit.then K (fun _ _ _=>False)) {tmps:=(ps.zip (KF x)).foldl (fun t (p,v)=>t.setIfInBounds p v) a.tmps,defers:=[]} W)
 (zcn:∀(l:Nat) (pre:List α) (x:α) (a':Act) (W:World),I pre W->Ax x a' W->pre.length<N->X x->body.wpIn (F.inRound l) (n-1-1) P (zQ w.heap.size Kp I (pre++[x]) W) a' W)
 (zcu:∀(D:Nat) (xs:List α) (W:World),w.heap.size<=D->S xs->I xs W->W.heap[D]?=some (.deferred (some []))->Q .normal {a with defers:={target:=.collected D,args:=#[]}::a.defers} W):
 (Code.rangeFunc g ps assign body).wpIn F n P Q a w:=by
 refine wpIn_rangeFunc fun fn hfn=>?_;rw[hro];obtain⟨rec,UB⟩:∃rec:LoopState->Option Code->Loop,rec=fun st pe=>{state:=st,pending:=pe,fn,tmps:=a.tmps,params:=ps,assign,body,defers:=w.heap.size}:=⟨_,rfl⟩;obtain⟨V,hV⟩:=ag ((w.alloc (.deferred (some []))).alloc (.loop (rec .ready none)));have hLp:V.heap[w.heap.size+1]?=some (.loop (rec .ready none)):=by have:=World.alloc_heap_new (w.alloc (.deferred (some []))) (.loop (rec .ready none));rw[aI,hV]at this;exact this
 have hDf:V.heap[w.heap.size]?=some (.deferred (some [])):=by rw[<-hV];exact(du _ _ _ (by simp)).trans (World.alloc_heap_new w _)
 have hIV:I [] V:=by rw[<-hV];exact hI.alloc _ (hI.alloc _ h0)
 have hbV:Bt w0 V:=by rw[<-hV];exact hb0.trans ((((aj _ w).alloc (ai _) _).alloc (by simp) _).mono hb0.size)
 refine⟨w.heap.size+1,[{target:=.collected w.heap.size,args:=#[]}],V,{target:=.fn (.func gf) lb,args:=#[.func (.yield (w.heap.size+1)) #[] #[]]},V,gf,#[.func (.yield (w.heap.size+1)) #[] #[]]++lb,V,?_,?_,?_,?_,fun _=>h1,?_⟩;·rw[<-hV,UB];exact run_enterLoop_outer _ _ _ _ _
 ·simp only[resolve,hg];simp[go_sem]
 ·intro f' hf';simp[Target.leads]at hf';grind
 ·simp[invoke,go_sem,eg]
 ·let J:List α->World->Prop:=fun pre W=>I pre W/\W.heap[w.heap.size+1]?=some (.loop (rec .ready none))/\W.heap[w.heap.size]?=some (.deferred (some []));have hJ:Aside o J:=fun s A B row ⟨q1,q2,q3⟩ fY hr=>by have key:∀b x,w.heap.size<=b->A.heap[b]?=some x->B.heap[b]?=some x:=fun b x hb hx=>(fY.block b (aM.1 hx).1 (fun e=>by grind)).trans hx;exact⟨hIo s A B row q1 fY hr,key _ _ (by omega) q2,key _ _ (ai _) q3⟩
  refine(ziO (w.heap.size+1) J V hbV hJ ?_ ⟨hIV,hLp,hDf⟩).mono ?_
  ·rintro pre x W ⟨hi,hl,hk⟩ bY Xj;have hlt:=(aM.1 hl).1;have hy:=run_yield (P:=P) (args:=KF x) hl (by grind);rw[UB]at hy;refine⟨fn,_,assign,body,hy,roundIn_of_wpIn hfn (Ud _ pre x W _ hi fun a' W' hkf hkp hi' hax=>?_)⟩;have SJ:=hkf.same _ _ (by omega) hl rfl;have hk':=hkf.same _ _ (ai _) hk rfl;have aN:=(aM.1 SJ).1;refine⟨_,run_beginRound SJ (by rw[UB]),?_⟩;obtain⟨V2,hX⟩:∃V2,W'.putObj (w.heap.size+1) (.loop {rec .ready none with state:=.busy})=V2:=⟨_,rfl⟩;have hlX:V2.heap[w.heap.size+1]?=some (.loop {rec .ready none with state:=.busy}):=by rw[<-hX];exact World.putObj_heap_same aN
   have hkX:V2.heap[w.heap.size]?=some (.deferred (some [])):=by rw[<-hX];exact(World.putObj_heap_other (by omega)).trans hk'
   have hKX:Kp W V2:=hKt hkp (by grind);have hiX:I pre V2:=by rw[<-hX];exact hI.putObj _ hi' (by omega) SJ rfl
   have haX:Ax x a' V2:=by rw[<-hX];exact(hAx x a').putObj (s:=()) _ hax (by omega) SJ rfl
   rw[hX];refine wpIn_mono (zcn _ pre x a' V2 hiX haX bY Xj) ?_;rintro e a3 W3 hp;cases e with
   |normal=>obtain⟨xF,zia,BF⟩:=hp;have Fx:=xF.same _ _ (by omega) hlX rfl;have hd3:=xF.same _ _ (ai _) hkX rfl;have hr:=run_endRound (P:=P) none Fx;refine⟨_,_,hr,rfl,⟨hI.putObj _ BF (by omega) Fx rfl,?_,(World.putObj_heap_other (by omega)).trans hd3⟩,hKt (hKt hKX zia) (hKb _ _ _ (by omega))⟩;rw[World.putObj_heap_same (aM.1 Fx).1,UB];rfl
   |ret=>exact hp.elim
   |exit id=>exact hp.elim
   |goto t=>exact hp.elim
   |panic ch=>exact hp.elim
   |outgrown=>exact hp.elim
  ·rintro e W2 ⟨⟨v,rfl⟩,xs,hS,hi,hl,hk⟩;refine⟨none,W2.putObj (w.heap.size+1) (.loop (rec .exhausted none)),?_,zcu _ xs _ (ai _) hS (hI.putObj _ hi (by omega) hl rfl) ((World.putObj_heap_other (by omega)).trans hk)⟩;have:=run_endLoop (P:=P) hl (by grind);grind
