import Derived.RangeFuncNested
import Derived.RangeFuncBound
import Derived.RangeFuncCalls
import Derived.RangeFuncLeaves
import Derived.RangeFuncBox
import Derived.Test.YtmbefonnkkhfgaaGreatDoorProg
import Derived.Test.YtmbefonnkkhfgaaGreatDoorQ00
set_option linter.unusedVariables false
set_option maxRecDepth 100000
set_option maxHeartbeats 16000000
namespace Go.Proofs.YtmbefonnkkhfgaaGreatDoor
section
open Go.RowKit
def Aside{β:Type}(o:Nat)(J:β->World->Prop):Prop:=∀s A B row,J s A->A.grownBy B row->(row=none∨row=some o)->J s B
def SeqBox{α:Type}(F:Fence)(n:Nat)(P:Program)(g:Nat)(lb:Array Value)(encs:α->Array Value)(o:Nat)(Kp:World->World->Prop)(S:List α->Prop)(X:α->Prop)(N:Nat)(w:World):Prop:=
 ∀(l:Nat) (J:List α->World->Prop) (W:World),Below w.heap.size w W->Aside o J->
  (∀pre x W1,J pre W1->pre.length<N->X x->YieldAt F (n-1) P l (encs x) W1 fun e W'=>e=.returned (.bool true)∧J (pre++[x]) W'∧Kp W1 W')->
  J [] W->CallsIn F n P g (#[.func (.yield l) #[] #[]]++lb) W fun e W'=>(∃v,e=.returned v)∧∃xs,S xs∧J xs W'
def boxPost{α:Type}(B:Nat)(Kp:World->World->Prop)(I:List α->World->Prop)(xs:List α)(W:World):Exit->Act->World->Prop
 |.normal,_,W'=>KeepsFrom B W W'∧Kp W W'∧I xs W'
 |_,_,_=>False
variable{F:Fence} {n:Nat} {P:Program}
theorem wpIn_rangeBox{α:Type}{g:Operand}{ps:Array Tmp}{assign body:Code}{Q:Exit->Act->World->Prop}{a:Act}{w:World}
 (hro:F.round=none) (h1:1≤n) {gf:Nat} {lb:Array Value} (hg:a.eval g=.func (.func gf) #[] lb) (hFg:F.fn gf) (eg:∀args w,(callFunc gf args).run P w=.ok (.enter gf args) w)
 {encs:α->Array Value} {o:Nat} {Kp:World->World->Prop} {S:List α->Prop} {X:α->Prop} {N:Nat} {w0:World} (hseq:SeqBox F (n-1) P gf lb encs o Kp S X N w0) (ho:o<w.heap.size)
 (hKt:∀{A B C:World},Kp A B->Kp B C->Kp A C) (hKb:∀(W:World) (l:Nat) (x:Obj),w.heap.size≤l->Kp W (W.putObj l x)) (hb0:Below w0.heap.size w0 w) (hps:∀x,(encs x).size=ps.size)
 (I:List α->World->Prop) (hI:OwnFrom w.heap.size I) (hIo:Aside o I) (h0:I [] w)
 (Ax:α->Act->World->Prop) (hAx:∀x a',OwnFrom w.heap.size (fun(_:Unit) W=>Ax x a' W))
 (hassign:∀(l:Nat) (pre:List α) (x:α) (W:World) (K:Act->World->Prop),I pre W->(∀a' W',KeepsFrom w.heap.size W W'->Kp W W'->I pre W'->Ax x a' W'->K a' W')->
  assign.wpIn (F.inRound l) (n-1-1) P (Exit.then K (fun _ _ _=>False)) {tmps:=(ps.zip (encs x)).foldl (fun t (p,v)=>t.setIfInBounds p v) a.tmps,defers:=[]} W)
 (hbody:∀(l:Nat) (pre:List α) (x:α) (a':Act) (W:World),I pre W->Ax x a' W->pre.length<N->X x->body.wpIn (F.inRound l) (n-1-1) P (boxPost w.heap.size Kp I (pre++[x]) W) a' W)
 (hdone:∀(D:Nat) (xs:List α) (W:World),w.heap.size≤D->S xs->I xs W->W.heap[D]?=some (.deferred (some []))->Q .normal {a with defers:={target:=.collected D,args:=#[]}::a.defers} W):
 (Code.rangeFunc g ps assign body).wpIn F n P Q a w:=by
 refine wpIn_rangeFunc fun fn hfn=>?_;rw[hro];obtain⟨rec,hrec⟩:∃rec:LoopState->Option Code->Loop,rec=fun st pe=>{state:=st,pending:=pe,fn,tmps:=a.tmps,params:=ps,assign,body,defers:=w.heap.size}:=⟨_,rfl⟩;obtain⟨V,hV⟩:=nmd ((w.alloc (.deferred (some []))).alloc (.loop (rec .ready none)));have hLp:V.heap[w.heap.size+1]?=some (.loop (rec .ready none)):=by have:=World.alloc_heap_new (w.alloc (.deferred (some []))) (.loop (rec .ready none));rw[World.size_alloc,hV]at this;exact this
 have hDf:V.heap[w.heap.size]?=some (.deferred (some [])):=by rw[<-hV];exact(Below.heap_alloc _ _ _ (by simp)).trans (World.alloc_heap_new w _)
 have hIV:I [] V:=by rw[<-hV];exact hI.alloc _ (hI.alloc _ h0)
 have hbV:Below w0.heap.size w0 V:=by rw[<-hV];exact hb0.trans ((((Below.refl _ w).alloc (Nat.le_refl _) _).alloc (by simp) _).mono hb0.size)
 refine⟨w.heap.size+1,[{target:=.collected w.heap.size,args:=#[]}],V,{target:=.fn (.func gf) lb,args:=#[.func (.yield (w.heap.size+1)) #[] #[]]},V,gf,#[.func (.yield (w.heap.size+1)) #[] #[]]++lb,V,?_,?_,?_,?_,fun _=>h1,?_⟩;·rw[<-hV,hrec];exact run_enterLoop_outer _ _ _ _ _
 ·simp only[resolve,hg];simp[go_sem]
 ·intro f' hf';simp[Target.leads]at hf';subst hf';exact hFg
 ·simp[invoke,go_sem,eg]
 ·let J:List α->World->Prop:=fun pre W=>I pre W∧W.heap[w.heap.size+1]?=some (.loop (rec .ready none))∧W.heap[w.heap.size]?=some (.deferred (some []));have hJ:Aside o J:=fun s A B row ⟨q1,q2,q3⟩ hgr hr=>by
   have key:∀b x,w.heap.size≤b->A.heap[b]?=some x->B.heap[b]?=some x:=fun b x hb hx=>(hgr.block b (Array.getElem?_eq_some_iff.1 hx).1 (fun e=>by
    rcases hr with rfl|rfl;·cases e
    ·injection e with e;omega)).trans hx;exact⟨hIo s A B row q1 hgr hr,key _ _ (by omega) q2,key _ _ (Nat.le_refl _) q3⟩
  refine(hseq (w.heap.size+1) J V hbV hJ ?_ ⟨hIV,hLp,hDf⟩).mono ?_
  ·rintro pre x W ⟨hi,hl,hk⟩ hlen hxx;have hlt:=(Array.getElem?_eq_some_iff.1 hl).1;have hy:=run_yield (P:=P) (args:=encs x) hl (by rw[hrec];exact hps x);rw[hrec]at hy;refine⟨fn,_,assign,body,hy,roundIn_of_wpIn hfn (hassign _ pre x W _ hi fun a' W' hkf hkp hi' hax=>?_)⟩;have hl':=hkf.same _ _ (by omega) hl rfl;have hk':=hkf.same _ _ (Nat.le_refl _) hk rfl;have hlt':=(Array.getElem?_eq_some_iff.1 hl').1;refine⟨_,run_beginRound hl' (by rw[hrec]),?_⟩;obtain⟨V2,hX⟩:∃V2,W'.putObj (w.heap.size+1) (.loop {rec .ready none with state:=.busy})=V2:=⟨_,rfl⟩;have hlX:V2.heap[w.heap.size+1]?=some (.loop {rec .ready none with state:=.busy}):=by rw[<-hX];exact World.putObj_heap_same hlt'
   have hkX:V2.heap[w.heap.size]?=some (.deferred (some [])):=by rw[<-hX];exact(World.putObj_heap_other (by omega)).trans hk'
   have hKX:Kp W V2:=hKt hkp (by rw[<-hX];exact hKb _ _ _ (by omega));have hiX:I pre V2:=by rw[<-hX];exact hI.putObj _ hi' (by omega) hl' rfl
   have haX:Ax x a' V2:=by rw[<-hX];exact(hAx x a').putObj (s:=()) _ hax (by omega) hl' rfl
   rw[hX];refine wpIn_mono (hbody _ pre x a' V2 hiX haX hlen hxx) ?_;rintro e a3 W3 hp;cases e with
   |normal=>obtain⟨hk3,hkp3,hi3⟩:=hp;have hl3:=hk3.same _ _ (by omega) hlX rfl;have hd3:=hk3.same _ _ (Nat.le_refl _) hkX rfl;have hr:=run_endRound (P:=P) none hl3;refine⟨_,_,hr,rfl,⟨hI.putObj _ hi3 (by omega) hl3 rfl,?_,(World.putObj_heap_other (by omega)).trans hd3⟩,hKt (hKt hKX hkp3) (hKb _ _ _ (by omega))⟩;rw[World.putObj_heap_same (Array.getElem?_eq_some_iff.1 hl3).1,hrec];rfl
   |ret=>exact hp.elim
   |exit id=>exact hp.elim
   |goto t=>exact hp.elim
   |panic ch=>exact hp.elim
   |outgrown=>exact hp.elim
  ·rintro e W2 ⟨⟨v,rfl⟩,xs,hS,hi,hl,hk⟩;refine⟨none,W2.putObj (w.heap.size+1) (.loop (rec .exhausted none)),?_,hdone _ xs _ (Nat.le_refl _) hS (hI.putObj _ hi (by omega) hl rfl) ((World.putObj_heap_other (by omega)).trans hk)⟩;have:=run_endLoop (P:=P) hl (by rw[hrec];simp);rw[hrec]at this⊢;exact this
end
end Go.Proofs.YtmbefonnkkhfgaaGreatDoor
