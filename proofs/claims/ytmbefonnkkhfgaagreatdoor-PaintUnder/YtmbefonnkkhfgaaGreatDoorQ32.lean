import Derived.Test.YtmbefonnkkhfgaaGreatDoorQ00
import Derived.Test.YtmbefonnkkhfgaaGreatDoorQ29
import Derived.Test.YtmbefonnkkhfgaaGreatDoorQ13
import Derived.Defers
import Derived.Recover
set_option linter.unusedVariables false
set_option maxRecDepth 100000
set_option maxHeartbeats 16000000
namespace Go.Proofs.YtmbefonnkkhfgaaGreatDoor
section
open Go.RowKit Go.Proofs.Tryz
structure Apart(W:World)(E:Nat->Addr):Prop where
 blk:∀c,1≤c->c≤7->∃xs t,W.heap[(E c).block]?=some (.cells xs t (0,0))
 inj:∀c d,1≤c->c≤7->1≤d->d≤7->c≠d->E c≠E d
theorem Apart.below{W W':World}{E:Nat->Addr}(h:Apart W E)(hb:Below W.heap.size W W'):Apart W' E:=
 ⟨fun c h1 h2=>by obtain⟨xs,t,hx⟩:=h.blk c h1 h2;exact⟨xs,t,(hb.block _ (Array.getElem?_eq_some_iff.1 hx).1).trans hx⟩,h.inj⟩
def errC:Option (Nat×Nat)->Nat
 |none=>1
 |some (c,_)=>c
def errP:Option (Nat×Nat)->Nat
 |none=>0
 |some (_,p)=>p
theorem is_fault(p:Int)(c d:Nat)(E:Nat->Addr)(w:World)(hA:Apart w E)(hc:1≤c∧c≤7)(hd:1≤d∧d≤7):
 Calls prog 55 #[faultV p (errV (E c)),errV (E d)] w fun e w'=>e=.returned (.bool (decide (c=d)))∧Below w.heap.size w w':=by
 by_cases h:c=d;·subst h;rw[decide_eq_true rfl];exact is_fault_same p (E c) w
 ·rw[decide_eq_false h];obtain⟨xs,t,hx⟩:=hA.blk c hc.1 hc.2;obtain⟨ys,u,hy⟩:=hA.blk d hd.1 hd.2;exact is_fault_other p (E c) (E d) xs ys t u w (hA.inj c d hc.1 hc.2 hd.1 hd.2 h) hx hy
theorem Glo.cells{W W':World}{E:Nat->Addr}(h:Glo W E)(hb:Below W.heap.size W W'):Glo W' E:=by have sz:=h.sz;have c:∀(g:Nat) (v:Value),g<10->W.cell? ⟨g,0,none⟩=some v->W'.cell? ⟨g,0,none⟩=some v:=fun g v hg hv=>(hb.cell (p:=⟨g,0,none⟩) (by show g<_;omega)).trans hv;exact⟨Nat.le_trans sz hb.size,fun j hj=>(hb.cell (p:=⟨9,j,none⟩) (by show 9<_;omega)).trans (h.kn j hj),c _ _ (by decide) h.g1,c _ _ (by decide) h.g2,c _ _ (by decide) h.g3,c _ _ (by decide) h.g4,c _ _ (by decide) h.g5,c _ _ (by decide) h.g6,c _ _ (by decide) h.g7⟩
theorem errno_long(E:Nat->Addr)(w:World)(hG:Glo w E):Calls prog 27 #[errV (E 1)] w fun e w'=>e=.returned (Iq 1)∧w'=w:=by have IS:Hid (Calls prog 55 #[errV (E 1),errV (E 1)] w fun e w'=>e=.returned (.bool true)∧w'=w):=is_same (E 1) w;have g1:=hG.g1;unfold errV at*;go_enter func27,ntmps27;go_wp2_with(go_at_call 55;refine Calls.mono IS ?_;rintro e w1 ⟨rfl,hw⟩;obtain rfl:=hw.symm);go_ret;exact⟨rfl,rfl⟩
theorem errno_f(p:Int)(c:Nat)(E:Nat->Addr)(w:World)(hG:Glo w E)(hA:Apart w E)(hc:2≤c∧c≤7):Calls prog 27 #[faultV p (errV (E c))] w fun e w'=>e=.returned (Iq (c:Int))∧Below w.heap.size w w':=by
 have IS:Hid (∀d b w',1≤d∧d≤7->decide (c=d)=b->Below w.heap.size w w'->Calls prog 55 #[faultV p (errV (E c)),errV (E d)] w' fun e w''=>e=.returned (.bool b)∧Hid (Below w.heap.size w w'')):=fun d b w' hd hb hw=>by subst hb;refine(is_fault p c d E w' (hA.below hw) (by omega) hd).mono ?_;rintro e w'' ⟨rfl,h⟩;exact⟨rfl,hw.trans (h.mono hw.size)⟩
 have HG:=qH<|fun w' hb=>Glo.cells (W':=w') hG hb;have g0:=hG.g1;clear hG hA;unfold errV faultV at*;go_enter func27,ntmps27;go_wp2_with fail;clear g0;refine Calls.mono (IS 1 false _ (by omega) (by simp;omega) (Below.refl _ _)) ?_;rintro e w1 ⟨rfl,B1⟩;have g1:=(HG w1 B1).g3;unfold errV at g1;go_wp2_with fail;clear g1;by_cases c3:c=3;·refine Calls.mono (IS 3 true _ (by omega) (by simp;omega) B1) ?_;rintro e w9 ⟨rfl,B9⟩;have C:=qH<|c3;clear c3 hc;go_wp2;go_ret;exact⟨by rw[C.out];rfl,B9⟩
 ·refine Calls.mono (IS 3 false _ (by omega) (by simp;omega) B1) ?_;rintro e w2 ⟨rfl,B2⟩;have g2:=(HG w2 B2).g4;unfold errV at g2;go_wp2_with fail;clear g2;by_cases c4:c=4;·refine Calls.mono (IS 4 true _ (by omega) (by simp;omega) B2) ?_;rintro e w9 ⟨rfl,B9⟩;have C:=qH<|c4;clear c4 hc;go_wp2;go_ret;exact⟨by rw[C.out];rfl,B9⟩
  ·refine Calls.mono (IS 4 false _ (by omega) (by simp;omega) B2) ?_;rintro e w3 ⟨rfl,B3⟩;have g3:=(HG w3 B3).g5;unfold errV at g3;go_wp2_with fail;clear g3;by_cases c5:c=5;·refine Calls.mono (IS 5 true _ (by omega) (by simp;omega) B3) ?_;rintro e w9 ⟨rfl,B9⟩;have C:=qH<|c5;clear c5 hc;go_wp2;go_ret;exact⟨by rw[C.out];rfl,B9⟩
   ·refine Calls.mono (IS 5 false _ (by omega) (by simp;omega) B3) ?_;rintro e w4 ⟨rfl,B4⟩;have g4:=(HG w4 B4).g6;unfold errV at g4;go_wp2_with fail;clear g4;by_cases c6:c=6;·refine Calls.mono (IS 6 true _ (by omega) (by simp;omega) B4) ?_;rintro e w9 ⟨rfl,B9⟩;have C:=qH<|c6;clear c6 hc;go_wp2;go_ret;exact⟨by rw[C.out];rfl,B9⟩
    ·refine Calls.mono (IS 6 false _ (by omega) (by simp;omega) B4) ?_;rintro e w5 ⟨rfl,B5⟩;have g5:=(HG w5 B5).g7;unfold errV at g5;go_wp2_with fail;clear g5;by_cases c7:c=7;·refine Calls.mono (IS 7 true _ (by omega) (by simp;omega) B5) ?_;rintro e w9 ⟨rfl,B9⟩;have C:=qH<|c7;clear c7 hc;go_wp2;go_ret;exact⟨by rw[C.out];rfl,B9⟩
     ·refine Calls.mono (IS 7 false _ (by omega) (by simp;omega) B5) ?_;rintro e w6 ⟨rfl,B6⟩;have C:Hid (c=2):=by show _=_;omega
      clear c3 c4 c5 c6 c7 hc;go_wp2;go_ret;exact⟨by rw[C.out];rfl,B6⟩
theorem errno_any(x:Option (Nat×Nat))(E:Nat->Addr)(w:World)(hG:Glo w E)(hA:Apart w E)(hx:∀c p,x=some (c,p)->2≤c∧c≤7):Calls prog 27 #[pv E x] w fun e w'=>e=.returned (Iq (errC x:Int))∧Below w.heap.size w w':=by
 cases x with
 |none=>exact Calls.mono (errno_long E w hG) (fun e w' h=>⟨h.1,by rw[h.2];exact Below.refl _ _⟩)
 |some q=>obtain⟨c,p⟩:=q;exact errno_f p c E w hG hA (hx c p rfl)
def ErT(W:World):Prop:=7<W.heap.size∧W.cell? ⟨7,0,none⟩=some (.iface 215 (.agg #[.pointer (some ⟨18,81,none⟩)]))
theorem ErT.below{W W':World}(h:ErT W)(hb:Below W.heap.size W W'):ErT W':=⟨Nat.lt_of_lt_of_le h.1 hb.size,(hb.cell (p:=⟨7,0,none⟩) h.1).trans h.2⟩
theorem place_fault(p:Int)(c:Value)(hcl:c.oneCell'=true)(w:World)(hT:ErT w):Calls prog 28 #[.iface 117 (.agg #[Iq p,c])] w fun e w'=>e=.returned (Iq p)∧Below w.heap.size w w':=by
 obtain⟨W0,hW0⟩:=nmd (w.alloc (.cells #[Iq 0,.nilIface] 117));have hT0:ErT W0:=by rw[<-hW0];exact hT.below ((Below.refl _ _).alloc (Nat.le_refl _) _)
 obtain⟨S,hS⟩:=nmd w.heap.size;have hb:W0.heap[S]?=some (.cells #[Iq 0,.nilIface] 117 (0,0)):=by rw[<-hW0,<-hS];exact heap_alloc_new _ _
 have hl:=(Array.getElem?_eq_some_iff.1 hb).1;have AH:=as_hit S p c (Iq 0) .nilIface W0 hT0.1 hT0.2 hl (by simp[World.cell?,hb]) (by simp[World.cell?,hb]) (fun j=>frozen_of_row _ _ _ _ _ hb) hcl;have HB:Hid (∀w',w'=((((((W0.alloc (.cells #[Pq S] 119)).alloc (.cells #[.pointer (some ⟨18,119,none⟩),Pq W0.heap.size,.int .u64 150] 164)).alloc (.cells #[.pointer (some ⟨18,119,none⟩),Pq W0.heap.size,.int .u64 150] 164)).alloc (.cells #[Iq p,c] 117)).setCell ⟨S,0,none⟩ (Iq p)).setCell ⟨S,1,none⟩ c)->Below w.heap.size w w'∧w'.cell? ⟨S,0,none⟩=some (Iq p)):=by
  rintro w' rfl;have b0:Below w.heap.size w W0:=by rw[<-hW0];exact(Below.refl _ _).alloc (Nat.le_refl _) _
  have sz:=b0.size;have b4:=(((b0.alloc sz (.cells #[Pq S] 119)).alloc (by rw[World.size_alloc];omega) (.cells #[.pointer (some ⟨18,119,none⟩),Pq W0.heap.size,.int .u64 150] 164)).alloc (by simp only[World.size_alloc];omega) (.cells #[.pointer (some ⟨18,119,none⟩),Pq W0.heap.size,.int .u64 150] 164)).alloc (by simp only[World.size_alloc];omega) (.cells #[Iq p,c] 117);have hS1:w.heap.size≤S:=by omega
  refine⟨(b4.setCell hS1 _).setCell hS1 _,?_⟩;have hc:(((((W0.alloc (.cells #[Pq S] 119)).alloc (.cells #[.pointer (some ⟨18,119,none⟩),Pq W0.heap.size,.int .u64 150] 164)).alloc (.cells #[.pointer (some ⟨18,119,none⟩),Pq W0.heap.size,.int .u64 150] 164)).alloc (.cells #[Iq p,c] 117)).setCell ⟨S,0,none⟩ (Iq p)).cell? ⟨S,0,none⟩=some (Iq p):=by refine World.cell?_setCell_same (u:=Iq 0) _ _ _ ?_;rw[World.cell?_alloc_lt _ _ ⟨S,0,none⟩ (by simp only[World.size_alloc];show S<_;omega),World.cell?_alloc_lt _ _ ⟨S,0,none⟩ (by simp only[World.size_alloc];show S<_;omega),World.cell?_alloc_lt _ _ ⟨S,0,none⟩ (by simp only[World.size_alloc];show S<_;omega),World.cell?_alloc_lt _ _ ⟨S,0,none⟩ hl];simp[World.cell?,hb]
  rw[World.cell?_setCell_other _ _ _ _ (fun e=>by injection e with _ e _;omega)];exact hc
 go_enter func28,ntmps28;go_wp2_with fail;refine Calls.mono AH ?_;rintro e w1 ⟨rfl,hw1⟩;have HW:=qH<|(HB w1 hw1).1;have c0:=(HB w1 hw1).2;clear hw1 HB AH hW0 hb hT0;go_wp2;go_ret;exact⟨rfl,HW⟩
theorem place_plain(a:Addr)(w:World)(hT:ErT w):Calls prog 28 #[.iface 311 (.pointer (some a))] w fun e w'=>e=.returned (Iq 0)∧Below w.heap.size w w':=by
 obtain⟨W0,hW0⟩:=nmd (w.alloc (.cells #[Iq 0,.nilIface] 117));have b0:Below w.heap.size w W0:=by rw[<-hW0];exact(Below.refl _ _).alloc (Nat.le_refl _) _
 have hT0:=hT.below b0;obtain⟨S,hS⟩:=nmd w.heap.size;have AM:=as_miss S a W0 hT0.1 hT0.2;have HB:Hid (∀w',w'=(((W0.alloc (.cells #[Pq S] 119)).alloc (.cells #[.pointer (some ⟨18,119,none⟩),Pq W0.heap.size,.int .u64 150] 164)).alloc (.cells #[.pointer (some ⟨18,119,none⟩),Pq W0.heap.size,.int .u64 150] 164))->Below w.heap.size w w'):=by rintro w' rfl;have sz:=b0.size;exact((b0.alloc sz _).alloc (by rw[World.size_alloc];omega) _).alloc (by simp only[World.size_alloc];omega) _
 go_enter func28,ntmps28;go_wp2_with fail;refine Calls.mono AM ?_;rintro e w1 ⟨rfl,hw1⟩;have HW:=qH<|HB w1 hw1;clear hw1 HB AM hW0 hT0 b0;go_wp2;go_ret;exact⟨rfl,HW⟩
theorem place_any(x:Option (Nat×Nat))(E:Nat->Addr)(w:World)(hT:ErT w):Calls prog 28 #[pv E x] w fun e w'=>e=.returned (Iq (errP x:Int))∧Below w.heap.size w w':=by
 cases x with
 |none=>exact place_plain (E 1) w hT
 |some q=>exact place_fault q.2 (errV (E q.1)) rfl w hT
end
section
open Go.RowKit Go.Stop Go.Proofs.Tryz
theorem asErr(x:Option (Nat×Nat))(E:Nat->Addr)(w:World):(Instr.typeAssert (pv E x) 20 81 true).run prog w=.ok (.tuple #[pv E x,.bool true]) w:=by
 cases x with
 |none=>exact run_typeAssert_hasB underlying81 (by kernel_rfl) _ _ w
 |some q=>exact run_typeAssert_hasB underlying81 (by kernel_rfl) _ _ w
theorem asErrNil(w:World):(Instr.typeAssert .nilIface 20 81 true).run prog w=.ok (.tuple #[.nilIface,.bool false]) w:=by kernel_rfl
theorem catch_panic(eb pb B:Nat)(a0 a1:Int)(x:Option (Nat×Nat))(E:Nat->Addr)(w:World)(hB:B≤eb∧B≤pb∧eb≠pb∧B≤w.heap.size)(he:w.heap[eb]?=some (.cells #[Iq a0] 25 (0,0)))(hp:w.heap[pb]?=some (.cells #[Iq a1] 3 (0,0)))(hG:Glo w E)(hA:Apart w E)(hT:ErT w)(hx:∀c p,x=some (c,p)->2≤c∧c≤7):
 CallsD prog 26 #[Pq eb,Pq pb] (.panicking [{v:=pv E x,recovered:=false}]) w fun e u' w'=>
  e=.returned (.tuple #[])∧u'=.panicking [{v:=pv E x,recovered:=true}]∧w'.cell? ⟨eb,0,none⟩=some (Iq (errC x:Int))∧w'.cell? ⟨pb,0,none⟩=some (Iq (errP x:Int))∧Below B w w':=by
 have TA:=asErr x E;have EN:=qH<|errno_any x E w hG hA hx;have PL:=qH<|fun w' hb=>place_any x E w' (hT.below hb);have HBB:=qH<|hB;have HE:Hid (w.heap[eb]?=some (.cells #[Iq a0] 25 (0,0))∧w.heap[pb]?=some (.cells #[Iq a1] 3 (0,0))):=⟨he,hp⟩;obtain⟨v,hv⟩:=nmd (pv E x);rw[hv]at TA EN PL⊢;clear hv hG hA hT hx hB he hp;refine callsD_of_wpS func26 rfl fun c₀ cs hu=>?_;apply wpS_seq;apply wpS_region;simp[wpOpsS,go_sem,recoverD,hu,ntmps26,Exit.thenS,TA];have ht:(#[Pq eb,Pq pb]++(((((((Array.replicate 12 undef).setIfInBounds 3 v).setIfInBounds 4 (Value.tuple #[v,Value.bool true])).setIfInBounds 2 (Value.tuple #[v,Value.bool true])).setIfInBounds 5 v).setIfInBounds 6 (Value.bool true)).setIfInBounds 0 v).setIfInBounds 1 (Value.bool true))=#[Pq eb,Pq pb,v,.bool true,.tuple #[v,.bool true],v,.tuple #[v,.bool true],v,.bool true,undef,undef,undef,undef,undef]:=by rfl
 rw[ht];clear ht;refine wpS_of_wp ?_;go_wp2_with fail;refine Calls.mono EN ?_;rintro e w1 ⟨rfl,b1⟩;have HB1:=qH<|b1;clear b1 EN;go_wp2_with fail;refine Calls.mono (PL _ HB1) ?_;rintro e w2 ⟨rfl,b2⟩;have HB2:=qH<|HB1.trans (b2.mono HB1.size);clear b2 PL HB1;have HE2:Hid (w2.heap[eb]?=some (.cells #[Iq a0] 25 (0,0))∧w2.heap[pb]?=some (.cells #[Iq a1] 3 (0,0))):=⟨(HB2.block _ (Array.getElem?_eq_some_iff.1 HE.1).1).trans HE.1,(HB2.block _ (Array.getElem?_eq_some_iff.1 HE.2).1).trans HE.2⟩;have d0:w2.cell? ⟨eb,0,none⟩=some (Iq a0):=by simp[World.cell?,HE2.1]
 have d1:w2.cell? ⟨pb,0,none⟩=some (Iq a1):=by simp[World.cell?,HE2.2]
 have f0:w2.frozen? ⟨eb,0,none⟩=false:=frozen_of_row _ _ _ _ _ HE2.1;have f1:w2.frozen? ⟨pb,0,none⟩=false:=frozen_of_row _ _ _ _ _ HE2.2;have hne:¬eb=pb:=HBB.2.2.1;have HC:Hid (((w2.setCell ⟨eb,0,none⟩ (Iq (errC x:Int))).setCell ⟨pb,0,none⟩ (Iq (errP x:Int))).cell? ⟨eb,0,none⟩=some (Iq (errC x:Int))∧((w2.setCell ⟨eb,0,none⟩ (Iq (errC x:Int))).setCell ⟨pb,0,none⟩ (Iq (errP x:Int))).cell? ⟨pb,0,none⟩=some (Iq (errP x:Int))∧Below B w ((w2.setCell ⟨eb,0,none⟩ (Iq (errC x:Int))).setCell ⟨pb,0,none⟩ (Iq (errP x:Int)))):=by
  refine⟨?_,?_,?_⟩;·rw[World.cell?_setCell_other _ _ _ _ (fun e=>by injection e with e _ _;exact hne e.symm)];exact World.cell?_setCell_same _ _ _ d0
  ·refine World.cell?_setCell_same (u:=Iq a1) _ _ _ ?_;rw[World.cell?_setCell_other _ _ _ _ (fun e=>by injection e with e _ _;exact hne e)];exact d1
  ·exact((HB2.mono HBB.2.2.2).setCell HBB.1 _).setCell HBB.2.1 _
 go_wp2;exact⟨rfl,_,rfl,.tuple #[],by simp[results,Tryz.results26,go_sem],rfl,rfl,HC.1,HC.2.1,HC.2.2⟩
theorem catch_idle(eb pb:Nat)(w:World):
 CallsD prog 26 #[Pq eb,Pq pb] .returning w fun e u' w'=>e=.returned (.tuple #[])∧u'=.returning∧w'=w:=by
 have TA:=asErrNil;refine callsD_of_wpS func26 rfl fun c₀ cs hu=>?_;apply wpS_seq;apply wpS_region;simp[wpOpsS,go_sem,recoverD,hu,ntmps26,Exit.thenS,TA];have ht:(#[Pq eb,Pq pb]++(((((((Array.replicate 12 undef).setIfInBounds 3 Value.nilIface).setIfInBounds 4 (Value.tuple #[Value.nilIface,Value.bool false])).setIfInBounds 2 (Value.tuple #[Value.nilIface,Value.bool false])).setIfInBounds 5 Value.nilIface).setIfInBounds 6 (Value.bool false)).setIfInBounds 0 Value.nilIface).setIfInBounds 1 (Value.bool false))=#[Pq eb,Pq pb,.nilIface,.bool false,.tuple #[.nilIface,.bool false],.nilIface,.tuple #[.nilIface,.bool false],.nilIface,.bool false,undef,undef,undef,undef,undef]:=by rfl
 rw[ht];clear ht;refine wpS_of_wp ?_;go_wp2;refine⟨rfl,.returning,?_,.tuple #[],by simp[results,Tryz.results26,go_sem],rfl,rfl,rfl⟩;cases c₀;simp_all
def TpOut(w w':World)(e:Ending)(r:Except (Option (Nat×Nat)) (List Nd)):Prop:=Below w.heap.size w w'∧match r with
 |.error x=>e=.returned (.tuple #[.slice none 0 0,Iq (errC x:Int),Iq (errP x:Int)])
 |.ok L=>∃nv KV,e=.returned (.tuple #[nv,Iq 0,Iq 0])∧PN w' w.heap.size nv L KV
theorem tparse_any(s:ByteArray)(E:Nat->Addr)(w:World)(hG:Glo w E)(hA:Apart w E)(hT:ErT w):
 Calls prog 13 #[.string s] w fun e w'=>TpOut w w' e (pTree s):=by
 have hmf:∀(fn:Fn) (first cap:Array Value) (w:World),(Instr.makeFunc fn first cap).run prog w=.ok (.func fn first cap) w:=fun _ _ _ _=>rfl;obtain⟨S,hS⟩:=nmd w.heap.size;obtain⟨W0,hW0⟩:=nmd ((w.alloc (.cells #[Iq 0] 25)).alloc (.cells #[Iq 0] 3));have B0:Hid (Below w.heap.size w W0):=by rw[<-hW0];exact((Below.refl _ _).alloc (Nat.le_refl _) _).alloc (by rw[World.size_alloc];omega) _
 have RD:=qH<|readTree_any s E W0 (hG.cells B0);have HE:Hid (W0.heap[S]?=some (.cells #[Iq 0] 25 (0,0))∧W0.heap[S+1]?=some (.cells #[Iq 0] 3 (0,0))∧W0.heap.size=S+2):=by
  rw[<-hW0,<-hS];refine⟨?_,?_,by simp only[World.size_alloc]⟩;·rw[Below.heap_alloc _ _ _ (by rw[World.size_alloc];omega)];exact heap_alloc_new _ _
  ·have:=heap_alloc_new (w.alloc (.cells #[Iq 0] 25)) (.cells #[Iq 0] 3);rw[World.size_alloc]at this;exact this
 have HGL:Hid (∀w',Below w.heap.size w w'->Glo w' E∧Apart w' E∧ErT w'):=fun w' hb=>⟨hG.cells hb,hA.below hb,hT.below hb⟩;have HS:=qH<|hS;clear hG hA hT;go_enter_defers func13,ntmps13;go_wp2_with fail;clear hW0 hS;refine Calls.mono RD ?_;rintro e w1 ⟨b1,hr⟩;have hSW:=HE.2.2;have HB1:=qH<|B0.trans (b1.mono B0.size);have HE1:Hid (w1.heap[S]?=some (.cells #[Iq 0] 25 (0,0))∧w1.heap[S+1]?=some (.cells #[Iq 0] 3 (0,0))):=⟨(b1.block _ (by omega)).trans HE.1,(b1.block _ (by omega)).trans HE.2.1⟩;have HSZ:Hid (S≤w1.heap.size∧W0.heap.size=S+2):=⟨by have:=b1.size;omega,hSW⟩;clear b1 hSW RD;cases hp:pTree s with
 |error x=>rw[hp]at hr;subst hr;have HPP:=qH<|hp;have CT:=catch_panic S (S+1) S 0 0 x E w1 ⟨Nat.le_refl _,by omega,by omega,HSZ.1⟩ HE1.1 HE1.2 (HGL w1 HB1).1 (HGL w1 HB1).2.1 (HGL w1 HB1).2.2 (fun c p e=>pTree_code (by rw[HPP.out,e]));clear hp;refine leaves_cons (f:=26) (args:=#[Pq S,Pq (S+1)]) (by simp) (by simp[go_sem]) ?_;refine CT.mono ?_;rintro e u' w2 ⟨rfl,rfl,c0,c1,b2⟩;have HB2:=qH<|HB1.trans (by rw[HS.out];exact b2);clear b2 CT;simp[Leaves,settle,results,Tryz.results13,go_sem,c0,c1];refine⟨HB2,?_⟩;rw[HPP.out]
 |ok L=>
  rw[hp]at hr;obtain⟨nv,KV,rfl,hn⟩:=hr;have HPP:=qH<|hp;have HN:=qH<|hn;clear hn hp;have d0:w1.cell? ⟨S,0,none⟩=some (Iq 0):=by simp[World.cell?,HE1.1]
  have d1:w1.cell? ⟨S+1,0,none⟩=some (Iq 0):=by simp[World.cell?,HE1.2]
  have f0:w1.frozen? ⟨S,0,none⟩=false:=frozen_of_row _ _ _ _ _ HE1.1;have f1:w1.frozen? ⟨S+1,0,none⟩=false:=frozen_of_row _ _ _ _ _ HE1.2;have HQ:Hid (Below w.heap.size w ((w1.setCell ⟨S,0,none⟩ (Iq 0)).setCell ⟨S+1,0,none⟩ (Iq 0))∧PN ((w1.setCell ⟨S,0,none⟩ (Iq 0)).setCell ⟨S+1,0,none⟩ (Iq 0)) w.heap.size nv L KV):=by
   have h1:w.heap.size≤S:=by rw[HS.out];exact Nat.le_refl _
   have h2:w.heap.size≤S+1:=by omega
   refine⟨(HB1.setCell h1 _).setCell h2 _,PN.base (HN.up ((Up.set w1 (by rw[HSZ.2];omega) _).trans (Up.set _ (by rw[HSZ.2];omega) _))) (by rw[HSZ.2];omega)⟩
  have k0:((w1.setCell ⟨S,0,none⟩ (Iq 0)).setCell ⟨S+1,0,none⟩ (Iq 0)).cell? ⟨S,0,none⟩=some (Iq 0):=by rw[World.cell?_setCell_other _ _ _ _ (fun e=>by injection e with e _ _;omega)];exact World.cell?_setCell_same _ _ _ d0
  have k1:((w1.setCell ⟨S,0,none⟩ (Iq 0)).setCell ⟨S+1,0,none⟩ (Iq 0)).cell? ⟨S+1,0,none⟩=some (Iq 0):=by refine World.cell?_setCell_same (u:=Iq 0) _ _ _ ?_;rw[World.cell?_setCell_other _ _ _ _ (fun e=>by injection e with e _ _;omega)];exact d1
  go_wp2;refine leaves_cons (f:=26) (args:=#[Pq S,Pq (S+1)]) (by simp) (by simp[go_sem]) ?_;refine(catch_idle S (S+1) _).mono ?_;rintro e u' w2 ⟨rfl,rfl,rfl⟩;simp[Leaves,settle,results,Tryz.results13,go_sem,k0,k1];refine⟨HQ.1,?_⟩;rw[HPP.out];exact⟨nv,KV,rfl,HQ.2⟩
end
end Go.Proofs.YtmbefonnkkhfgaaGreatDoor
