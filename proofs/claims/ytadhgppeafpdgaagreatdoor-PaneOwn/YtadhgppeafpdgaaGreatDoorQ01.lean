import Derived.RangeFuncNested
import Derived.RangeFuncBound
import Derived.Test.YtadhgppeafpdgaaGreatDoorProg
import Derived.Test.YtadhgppeafpdgaaGreatDoorQ00
set_option linter.all false
set_option maxRecDepth 100000
set_option maxHeartbeats 16000000
namespace Go.Proofs.YtadhgppeafpdgaaGreatDoor
open Go.RowKit
section
def Aside{β:Type}(o:Nat)(J:β->World->Prop):Prop:=∀s A B row,J s A->A.grownBy B row->(row=none\/row=some o)->J s B
def MN{α}(F:Fence)(n:Nat)(P:Program)(g:Nat)(lb:Array Value)(J8:α->Array Value)(o:Nat)(Kp:World->World->Prop)(S:List α->Prop)(X:α->Prop)(N:Nat)(w:World):Prop:=
 ∀(l:Nat) (J:List α->World->Prop) (W:World),Bt w W->Aside o J->
  (∀bF x W1,J bF W1->bF.length<N->X x->YieldAt F (n-1) P l (J8 x) W1 fun e W'=>e=Rw (.bool true)/\J (bF++[x]) W'/\Kp W1 W')->
  J [] W->CallsIn F n P g (#[.func (.yield l) #[] #[]]++lb) W fun e W'=>(∃v,e=Rw v)/\∃xs,S xs/\J xs W'
def yT{α:Type}(B:Nat)(Kp:World->World->Prop)(I:List α->World->Prop)(xs:List α)(W:World):Exit->Act->World->Prop
 |.normal,_,W'=>KeepsFrom B W W'/\Kp W W'/\I xs W'
 |_,_,_=>False
variable{F:Fence} {n:Nat} {P:Program}
theorem nh{α:Type}{g:Operand}{ps:Array Tmp}{assign body:Code}{Q:Exit->Act->World->Prop}{a:Act}{w:World}
 (hro:F.round=none) (h1:1<=n) {gf:Nat} {lb:Array Value} (hg:a.eval g=.func (.func gf) #[] lb) (hFg:F.fn gf) (eg:∀args w,(callFunc gf args).run P w=.ok (.enter gf args) w)
 {J8:α->Array Value} {o:Nat} {Kp:World->World->Prop} {S:List α->Prop} {X:α->Prop} {N:Nat} {w0:World} (YG:MN F (n-1) P gf lb J8 o Kp S X N w0) (ho:o<w.heap.size)
 (hKt:∀{A B C:World},Kp A B->Kp B C->Kp A C) (hKb:∀(W:World) (l:Nat) (x:Obj),w.heap.size<=l->Kp W (W.putObj l x)) (wC:Bt w0 w) (En:∀x,(J8 x).size=ps.size)
 (I:List α->World->Prop) (hI:OwnFrom w.heap.size I) (hIo:Aside o I) (h0:I [] w)
 (Ax:α->Act->World->Prop) (hAx:∀x a',OwnFrom w.heap.size (fun(_:Unit) W=>Ax x a' W))
 (Tn:∀(l:Nat) (bF:List α) (x:α) (W:World) (K:Act->World->Prop),I bF W->(∀a' W',KeepsFrom w.heap.size W W'->Kp W W'->I bF W'->Ax x a' W'->K a' W')->
  assign.wpIn (F.inRound l) (n-1-1) P (Exit.then K (fun _ _ _=>False)) {tmps:=(ps.zip (J8 x)).foldl (fun t (p,v)=>t.setIfInBounds p v) a.tmps,defers:=[]} W)
 (zbq:∀(l:Nat) (bF:List α) (x:α) (a':Act) (W:World),I bF W->Ax x a' W->bF.length<N->X x->body.wpIn (F.inRound l) (n-1-1) P (yT w.heap.size Kp I (bF++[x]) W) a' W)
 (zbw:∀(D:Nat) (xs:List α) (W:World),w.heap.size<=D->S xs->I xs W->W.heap[D]?=some (.deferred (some []))->Q .normal {a with defers:={target:=.collected D,args:=#[]}::a.defers} W):
 (Code.rangeFunc g ps assign body).wpIn F n P Q a w:=by
 refine wpIn_rangeFunc fun fn hfn=>?_;rw[hro];obtain⟨rec,TH⟩:∃rec:LoopState->Option Code->Loop,rec=fun st pe=>{state:=st,pending:=pe,fn,tmps:=a.tmps,params:=ps,assign,body,defers:=w.heap.size}:=⟨_,rfl⟩;obtain⟨V,hV⟩:=af ((w.alloc (.deferred (some []))).alloc (.loop (rec .ready none)));have hLp:V.heap[w.heap.size+1]?=some (.loop (rec .ready none)):=by have:=World.alloc_heap_new (w.alloc (.deferred (some []))) (.loop (rec .ready none));rw[aA,hV]at this;exact this
 have hDf:V.heap[w.heap.size]?=some (.deferred (some [])):=by rw[<-hV];exact(cG _ _ _ (by simp)).trans (World.alloc_heap_new w _)
 have hIV:I [] V:=by rw[<-hV];exact hI.alloc _ (hI.alloc _ h0)
 have hbV:Bt w0 V:=by rw[<-hV];exact wC.trans ((((ag _ w).alloc (ae _) _).alloc (by simp) _).mono wC.size)
 refine⟨w.heap.size+1,[{target:=.collected w.heap.size,args:=#[]}],V,{target:=.fn (.func gf) lb,args:=#[.func (.yield (w.heap.size+1)) #[] #[]]},V,gf,#[.func (.yield (w.heap.size+1)) #[] #[]]++lb,V,?_,?_,?_,?_,fun _=>h1,?_⟩;·rw[<-hV,TH];exact run_enterLoop_outer _ _ _ _ _
 ·simp only[resolve,hg];simp[go_sem]
 ·intro f' hf';simp[Target.leads]at hf';grind
 ·simp[invoke,go_sem,eg]
 ·let J:List α->World->Prop:=fun bF W=>I bF W/\W.heap[w.heap.size+1]?=some (.loop (rec .ready none))/\W.heap[w.heap.size]?=some (.deferred (some []));have hJ:Aside o J:=fun s A B row ⟨q1,q2,q3⟩ fd hr=>by have key:∀b x,w.heap.size<=b->A.heap[b]?=some x->B.heap[b]?=some x:=fun b x hb hx=>(fd.block b (az.1 hx).1 (fun e=>by grind)).trans hx;exact⟨hIo s A B row q1 fd hr,key _ _ (by omega) q2,key _ _ (ae _) q3⟩
  refine(YG (w.heap.size+1) J V hbV hJ ?_ ⟨hIV,hLp,hDf⟩).mono ?_
  ·rintro bF x W ⟨hi,hl,hk⟩ aO hxx;have hlt:=(az.1 hl).1;have hy:=run_yield (P:=P) (args:=J8 x) hl (by grind);rw[TH]at hy;refine⟨fn,_,assign,body,hy,roundIn_of_wpIn hfn (Tn _ bF x W _ hi fun a' W' OC hkp _d hax=>?_)⟩;have _g:=OC.same _ _ (by omega) hl rfl;have KB:=OC.same _ _ (ae _) hk rfl;have aR:=(az.1 _g).1;refine⟨_,run_beginRound _g (by rw[TH]),?_⟩;obtain⟨V2,hX⟩:∃V2,W'.putObj (w.heap.size+1) (.loop {rec .ready none with state:=.busy})=V2:=⟨_,rfl⟩;have hlX:V2.heap[w.heap.size+1]?=some (.loop {rec .ready none with state:=.busy}):=by rw[<-hX];exact World.putObj_heap_same aR
   have hkX:V2.heap[w.heap.size]?=some (.deferred (some [])):=by rw[<-hX];exact(World.putObj_heap_other (by omega)).trans KB
   have hKX:Kp W V2:=hKt hkp (by grind);have hiX:I bF V2:=by rw[<-hX];exact hI.putObj _ _d (by omega) _g rfl
   have haX:Ax x a' V2:=by rw[<-hX];exact(hAx x a').putObj (s:=()) _ hax (by omega) _g rfl
   rw[hX];refine wpIn_mono (zbq _ bF x a' V2 hiX haX aO hxx) ?_;rintro e a3 W3 hp;cases e with
   |normal=>obtain⟨wD,zgU,nR⟩:=hp;have TC:=wD.same _ _ (by omega) hlX rfl;have hd3:=wD.same _ _ (ae _) hkX rfl;have hr:=run_endRound (P:=P) none TC;refine⟨_,_,hr,rfl,⟨hI.putObj _ nR (by omega) TC rfl,?_,(World.putObj_heap_other (by omega)).trans hd3⟩,hKt (hKt hKX zgU) (hKb _ _ _ (by omega))⟩;rw[World.putObj_heap_same (az.1 TC).1,TH];rfl
   |ret=>exact hp.elim
   |exit id=>exact hp.elim
   |goto t=>exact hp.elim
   |panic ch=>exact hp.elim
   |outgrown=>exact hp.elim
  ·rintro e W2 ⟨⟨v,rfl⟩,xs,hS,hi,hl,hk⟩;refine⟨none,W2.putObj (w.heap.size+1) (.loop (rec .exhausted none)),?_,zbw _ xs _ (ae _) hS (hI.putObj _ hi (by omega) hl rfl) ((World.putObj_heap_other (by omega)).trans hk)⟩;have:=run_endLoop (P:=P) hl (by grind);grind
