import Derived.Test.YtadhgppeafpdgaaGreatDoorQ20
import Derived.Test.YtadhgppeafpdgaaGreatDoorQ05
set_option linter.all false
set_option maxRecDepth 100000
set_option maxHeartbeats 16000000
namespace Go.Proofs.YtadhgppeafpdgaaGreatDoor
open Go.RowKit Go.Proofs.Tryz
structure gj(W:World)(E:Nat->Addr):Prop where
 blk:∀c,1<=c->c<=7->∃xs t,W.heap[(E c).block]?=some (.cells xs t (0,0))
 inj:∀c d,1<=c->c<=7->1<=d->d<=7->c≠d->E c≠E d
theorem gj.below{W W'}{E}(h:gj W E)(hb:Bt W W'):gj W' E:=
 ⟨fun c h1 h2=>by obtain⟨xs,t,hx⟩:=h.blk c h1 h2;exact⟨xs,t,(hb.block _ (az.1 hx).1).trans hx⟩,h.inj⟩
def jR:Option (Nat×Nat)->Nat
 |none=>1
 |some (c,_)=>c
def se:Option (Nat×Nat)->Nat
 |none=>0
 |some (_,p)=>p
theorem O'  p   c d   E   w  (hA:gj w E) (hc:1<=c/\c<=7) (hd:1<=d/\d<=7):
 Cw 56 #[cD p (aT (E c)),aT (E d)] w fun e w'=>e=Rw (.bool (decide (c=d)))/\Bt w w':=by
 by_cases h:c=d;·subst h;rw[decide_eq_true rfl];exact wK p (E c) w
 ·rw[decide_eq_false h];obtain⟨xs,t,hx⟩:=hA.blk c hc.1 hc.2;obtain⟨ys,u,hy⟩:=hA.blk d hd.1 hd.2;exact uG p (E c) (E d) xs ys t u w (hA.inj c d hc.1 hc.2 hd.1 hd.2 h) hx hy
theorem xe.cells{W W'}{E}(h:xe W E)(hb:Bt W W'):xe W' E:=by have sz:=h.sz;have c:∀(g:Nat) (v:Value),g<12->W.cell? (aq g 0)=some v->W'.cell? (aq g 0)=some v:=fun g v hg hv=>(hb.cell (p:=(aq g 0)) (by grind)).trans hv;exact⟨aH sz hb.size,fun j hj=>(hb.cell (p:=(aq 11 j)) (by grind)).trans (h.kn j hj),c _ _ (by decide) h.g1,c _ _ (by decide) h.g2,c _ _ (by decide) h.g3,c _ _ (by decide) h.g4,c _ _ (by decide) h.g5,c _ _ (by decide) h.g6,c _ _ (by decide) h.g7⟩
theorem EQ(E:Nat->Addr)(w:World)(hG:xe w E):Cw 35 #[aT (E 1)] w fun e w'=>e=Rw (Iq 1)/\w'=w:=by have IS:Hid (Cw 56 #[aT (E 1),aT (E 1)] w fun e w'=>e=Rw (.bool true)/\w'=w):=T4 (E 1) w;have g1:=hG.g1;unfold aT at*;go_enter func35,ntmps35;go_wp2_with(go_at_call 56;refine ai IS ?_;rintro e w1 ⟨rfl,hw⟩;obtain rfl:=hw.symm);go_ret;simp_all
theorem S4(p:Int)(c:Nat)(E:Nat->Addr)(w:World)(hG:xe w E)(hA:gj w E)(hc:2<=c/\c<=7):Cw 35 #[cD p (aT (E c))] w fun e w'=>e=Rw (Iq (c:Int))/\Bt w w':=by
 have IS:Hid (∀d b w',1<=d/\d<=7->decide (c=d)=b->Bt w w'->Cw 56 #[cD p (aT (E c)),aT (E d)] w' fun e w''=>e=Rw (.bool b)/\Hid (Bt w w'')):=fun d b w' hd hb hw=>by subst hb;refine(O' p c d E w' (hA.below hw) (by omega) hd).mono ?_;rintro e w'' ⟨rfl,h⟩;exact⟨rfl,hw.trans (h.mono hw.size)⟩
 have HG:=qH<|fun w' hb=>xe.cells (W':=w') hG hb;have g0:=hG.g1;clear hG hA;unfold aT cD at*;go_enter func35,ntmps35;go_wp2_with fail;clear g0;refine ai (IS 1 false _ (by omega) (by grind) (ag _ _)) ?_;rintro e w1 ⟨rfl,B1⟩;have g1:=(HG w1 B1).g3;unfold aT at g1;go_wp2_with fail;clear g1;by_cases c3:c=3;·refine ai (IS 3 true _ (by omega) (by grind) B1) ?_;rintro e w9 ⟨rfl,B9⟩;have C:=qH<|c3;clear c3 hc;go_wp2;go_ret;exact⟨by rw[C.out];rfl,B9⟩
 ·refine ai (IS 3 false _ (by omega) (by grind) B1) ?_;rintro e w2 ⟨rfl,B2⟩;have g2:=(HG w2 B2).g4;unfold aT at g2;go_wp2_with fail;clear g2;by_cases c4:c=4;·refine ai (IS 4 true _ (by omega) (by grind) B2) ?_;rintro e w9 ⟨rfl,B9⟩;have C:=qH<|c4;clear c4 hc;go_wp2;go_ret;exact⟨by rw[C.out];rfl,B9⟩
  ·refine ai (IS 4 false _ (by omega) (by grind) B2) ?_;rintro e w3 ⟨rfl,B3⟩;have g3:=(HG w3 B3).g5;unfold aT at g3;go_wp2_with fail;clear g3;by_cases c5:c=5;·refine ai (IS 5 true _ (by omega) (by grind) B3) ?_;rintro e w9 ⟨rfl,B9⟩;have C:=qH<|c5;clear c5 hc;go_wp2;go_ret;exact⟨by rw[C.out];rfl,B9⟩
   ·refine ai (IS 5 false _ (by omega) (by grind) B3) ?_;rintro e w4 ⟨rfl,B4⟩;have g4:=(HG w4 B4).g6;unfold aT at g4;go_wp2_with fail;clear g4;by_cases c6:c=6;·refine ai (IS 6 true _ (by omega) (by grind) B4) ?_;rintro e w9 ⟨rfl,B9⟩;have C:=qH<|c6;clear c6 hc;go_wp2;go_ret;exact⟨by rw[C.out];rfl,B9⟩
    ·refine ai (IS 6 false _ (by omega) (by grind) B4) ?_;rintro e w5 ⟨rfl,B5⟩;have g5:=(HG w5 B5).g7;unfold aT at g5;go_wp2_with fail;clear g5;by_cases c7:c=7;·refine ai (IS 7 true _ (by omega) (by grind) B5) ?_;rintro e w9 ⟨rfl,B9⟩;have C:=qH<|c7;clear c7 hc;go_wp2;go_ret;exact⟨by rw[C.out];rfl,B9⟩
     ·refine ai (IS 7 false _ (by omega) (by grind) B5) ?_;rintro e w6 ⟨rfl,B6⟩;have C:Hid (c=2):=by show _=_;omega
      clear c3 c4 c5 c6 c7 hc;go_wp2;go_ret;exact⟨by rw[C.out];rfl,B6⟩
theorem errno_any  x   E   w  (hG:xe w E) (hA:gj w E) (hx:∀c p,x=some (c,p)->2<=c/\c<=7):Cw 35 #[pv E x] w fun e w'=>e=Rw (Iq (jR x:Int))/\Bt w w':=by
 cases x with
 |none=>exact ai (EQ E w hG) (fun e w' h=>⟨h.1,by rw[h.2];exact ag _ _⟩)
 |some q=>obtain⟨c,p⟩:=q;exact S4 p c E w hG hA (hx c p rfl)
def xd(W:World):Prop:=8<W.heap.size/\W.cell? (aq 8 0)=some (.iface 239 (.agg #[.pointer (some (aq 18 87))]))
theorem xd.below{W W'}(h:xd W)(hb:Bt W W'):xd W':=⟨zz007 h.1 hb.size,(hb.cell (p:=(aq 8 0)) h.1).trans h.2⟩
theorem Dm(p:Int)(c:Value)(hcl:c.oneCell'=true)(w:World)(hT:xd w):Cw 36 #[.iface 138 (.agg #[Iq p,c])] w fun e w'=>e=Rw (Iq p)/\Bt w w':=by
 obtain⟨W0,bc⟩:=af (w.alloc (.cells #[Iq 0,.nilIface] 138));have Ya:xd W0:=by rw[<-bc];exact hT.below ((ag _ _).alloc (ae _) _)
 obtain⟨S,hS⟩:=af w.heap.size;have hb:W0.heap[S]?=some (.cells #[Iq 0,.nilIface] 138 (0,0)):=by rw[<-bc,<-hS];exact heap_alloc_new _ _
 have hl:=(az.1 hb).1;have AH:=XB S p c (Iq 0) .nilIface W0 Ya.1 Ya.2 hl (by simp[World.cell?,hb]) (by simp[World.cell?,hb]) (fun j=>frozen_of_row _ _ _ _ _ hb) hcl;have HB:Hid (∀w',w'=((((((W0.alloc (.cells #[Pq S] 140)).alloc (.cells #[.pointer (some (aq 18 140)),Pq W0.heap.size,.int .u64 150] 184)).alloc (.cells #[.pointer (some (aq 18 140)),Pq W0.heap.size,.int .u64 150] 184)).alloc (.cells #[Iq p,c] 138)).setCell (aq S 0) (Iq p)).setCell (aq S 1) c)->Bt w w'/\w'.cell? (aq S 0)=some (Iq p)):=by
  rintro w' rfl;have b0:Bt w W0:=by rw[<-bc];exact(ag _ _).alloc (ae _) _
  have sz:=b0.size;have b4:=(((b0.alloc sz (.cells #[Pq S] 140)).alloc (by rw[aA];omega) (.cells #[.pointer (some (aq 18 140)),Pq W0.heap.size,.int .u64 150] 184)).alloc (by simp only[aA];omega) (.cells #[.pointer (some (aq 18 140)),Pq W0.heap.size,.int .u64 150] 184)).alloc (by simp only[aA];omega) (.cells #[Iq p,c] 138);have hS1:w.heap.size<=S:=by omega
  refine⟨(b4.setCell hS1 _).setCell hS1 _,?_⟩;have hc:(((((W0.alloc (.cells #[Pq S] 140)).alloc (.cells #[.pointer (some (aq 18 140)),Pq W0.heap.size,.int .u64 150] 184)).alloc (.cells #[.pointer (some (aq 18 140)),Pq W0.heap.size,.int .u64 150] 184)).alloc (.cells #[Iq p,c] 138)).setCell (aq S 0) (Iq p)).cell? (aq S 0)=some (Iq p):=by refine yk (u:=Iq 0) _ _ _ ?_;rw[g_ _ _ (aq S 0) (by simp only[aA];omega),g_ _ _ (aq S 0) (by simp only[aA];omega),g_ _ _ (aq S 0) (by simp only[aA];omega),g_ _ _ (aq S 0) hl];simp[World.cell?,hb]
  rw[dy _ _ _ _ (fun e=>by grind)];exact hc
 go_enter func36,ntmps36;go_wp2_with fail;refine ai AH ?_;rintro e w1 ⟨rfl,iO⟩;have HW:=qH<|(HB w1 iO).1;have c0:=(HB w1 iO).2;clear iO HB AH bc hb Ya;go_wp2;go_ret;exact⟨rfl,HW⟩
theorem Dn(a:Addr)(w:World)(hT:xd w):Cw 36 #[.iface 371 (.pointer (some a))] w fun e w'=>e=Rw (Iq 0)/\Bt w w':=by
 obtain⟨W0,bc⟩:=af (w.alloc (.cells #[Iq 0,.nilIface] 138));have b0:Bt w W0:=by rw[<-bc];exact(ag _ _).alloc (ae _) _
 have Ya:=hT.below b0;obtain⟨S,hS⟩:=af w.heap.size;have AM:=SI S a W0 Ya.1 Ya.2;have HB:Hid (∀w',w'=(((W0.alloc (.cells #[Pq S] 140)).alloc (.cells #[.pointer (some (aq 18 140)),Pq W0.heap.size,.int .u64 150] 184)).alloc (.cells #[.pointer (some (aq 18 140)),Pq W0.heap.size,.int .u64 150] 184))->Bt w w'):=by rintro w' rfl;have sz:=b0.size;exact((b0.alloc sz _).alloc (by rw[aA];omega) _).alloc (by simp only[aA];omega) _
 go_enter func36,ntmps36;go_wp2_with fail;refine ai AM ?_;rintro e w1 ⟨rfl,iO⟩;have HW:=qH<|HB w1 iO;clear iO HB AM bc Ya b0;go_wp2;go_ret;exact⟨rfl,HW⟩
theorem Lb  x   E   w  (hT:xd w):Cw 36 #[pv E x] w fun e w'=>e=Rw (Iq (se x:Int))/\Bt w w':=by
 cases x with
 |none=>exact Dn (E 1) w hT
 |some q=>exact Dm q.2 (aT (E q.1)) rfl w hT
section
open Go.Stop
theorem zaL  x   E   w  :(Instr.typeAssert (pv E x) 20 87 true).run prog w=.ok (.tuple #[pv E x,.bool true]) w:=by
 cases x with
 |none=>exact run_typeAssert_hasB underlying87 (by kernel_rfl) _ _ w
 |some q=>exact run_typeAssert_hasB underlying87 (by kernel_rfl) _ _ w
theorem Nc  w  :(Instr.typeAssert .nilIface 20 87 true).run prog w=.ok (.tuple #[.nilIface,.bool false]) w:=by kernel_rfl
theorem Bb(eb pb B:Nat)(a0 a1:Int)(x:Option (Nat×Nat))(E:Nat->Addr)(w:World)(hB:B<=eb/\B<=pb/\eb≠pb/\B<=w.heap.size)(he:w.heap[eb]?=some (.cells #[Iq a0] 24 (0,0)))(hp:w.heap[pb]?=some (.cells #[Iq a1] 3 (0,0)))(hG:xe w E)(hA:gj w E)(hT:xd w)(hx:∀c p,x=some (c,p)->2<=c/\c<=7):
 CallsD prog 34 #[Pq eb,Pq pb] (.panicking [{v:=pv E x,recovered:=false}]) w fun e u' w'=>
  e=Rw (.tuple #[])/\u'=.panicking [{v:=pv E x,recovered:=true}]/\w'.cell? (aq eb 0)=some (Iq (jR x:Int))/\w'.cell? (aq pb 0)=some (Iq (se x:Int))/\Below B w w':=by
 have TA:=zaL x E;have EN:=qH<|errno_any x E w hG hA hx;have PL:=qH<|fun w' hb=>Lb x E w' (hT.below hb);have Zw:=qH<|hB;have HE:Hid (w.heap[eb]?=some (.cells #[Iq a0] 24 (0,0))/\w.heap[pb]?=some (.cells #[Iq a1] 3 (0,0))):=⟨he,hp⟩;obtain⟨v,hv⟩:=af (pv E x);rw[hv]at TA EN PL⊢;clear hv hG hA hT hx hB he hp;refine callsD_of_wpS func34 rfl fun c₀ cs hu=>?_;apply wpS_seq;apply wpS_region;simp[wpOpsS,go_sem,recoverD,hu,ntmps34,Exit.thenS,TA];have ht:(#[Pq eb,Pq pb]++(((((((Array.replicate 12 undef).setIfInBounds 3 v).setIfInBounds 4 (Value.tuple #[v,Value.bool true])).setIfInBounds 2 (Value.tuple #[v,Value.bool true])).setIfInBounds 5 v).setIfInBounds 6 (Value.bool true)).setIfInBounds 0 v).setIfInBounds 1 (Value.bool true))=#[Pq eb,Pq pb,v,.bool true,.tuple #[v,.bool true],v,.tuple #[v,.bool true],v,.bool true,undef,undef,undef,undef,undef]:=by rfl
 rw[ht];clear ht;refine wpS_of_wp ?_;go_wp2_with fail;refine ai EN ?_;rintro e w1 ⟨rfl,b1⟩;have HB1:=qH<|b1;clear b1 EN;go_wp2_with fail;refine ai (PL _ HB1) ?_;rintro e w2 ⟨rfl,b2⟩;have HB2:=qH<|HB1.trans (b2.mono HB1.size);clear b2 PL HB1;have Gx:Hid (w2.heap[eb]?=some (.cells #[Iq a0] 24 (0,0))/\w2.heap[pb]?=some (.cells #[Iq a1] 3 (0,0))):=⟨(HB2.block _ (az.1 HE.1).1).trans HE.1,(HB2.block _ (az.1 HE.2).1).trans HE.2⟩;have d0:w2.cell? (aq eb 0)=some (Iq a0):=by simp[World.cell?,Gx.1]
 have d1:w2.cell? (aq pb 0)=some (Iq a1):=by simp[World.cell?,Gx.2]
 have f0:w2.frozen? (aq eb 0)=false:=frozen_of_row _ _ _ _ _ Gx.1;have f1:w2.frozen? (aq pb 0)=false:=frozen_of_row _ _ _ _ _ Gx.2;have bj:¬eb=pb:=Zw.2.2.1;have HC:Hid (((w2.setCell (aq eb 0) (Iq (jR x:Int))).setCell (aq pb 0) (Iq (se x:Int))).cell? (aq eb 0)=some (Iq (jR x:Int))/\((w2.setCell (aq eb 0) (Iq (jR x:Int))).setCell (aq pb 0) (Iq (se x:Int))).cell? (aq pb 0)=some (Iq (se x:Int))/\Below B w ((w2.setCell (aq eb 0) (Iq (jR x:Int))).setCell (aq pb 0) (Iq (se x:Int)))):=by
  refine⟨?_,?_,?_⟩;·rw[dy _ _ _ _ (fun e=>by grind)];exact yk _ _ _ d0
  ·refine yk (u:=Iq a1) _ _ _ ?_;rw[dy _ _ _ _ (fun e=>by grind)];exact d1
  ·exact((HB2.mono Zw.2.2.2).setCell Zw.1 _).setCell Zw.2.1 _
 go_wp2;exact⟨rfl,_,rfl,.tuple #[],by simp[results,Tryz.results34,go_sem],rfl,rfl,HC.1,HC.2.1,HC.2.2⟩
theorem EF(eb pb:Nat)(w:World):
 CallsD prog 34 #[Pq eb,Pq pb] .returning w fun e u' w'=>e=Rw (.tuple #[])/\u'=.returning/\w'=w:=by
 have TA:=Nc;refine callsD_of_wpS func34 rfl fun c₀ cs hu=>?_;apply wpS_seq;apply wpS_region;simp[wpOpsS,go_sem,recoverD,hu,ntmps34,Exit.thenS,TA];have ht:(#[Pq eb,Pq pb]++(((((((Array.replicate 12 undef).setIfInBounds 3 Value.nilIface).setIfInBounds 4 (Value.tuple #[Value.nilIface,Value.bool false])).setIfInBounds 2 (Value.tuple #[Value.nilIface,Value.bool false])).setIfInBounds 5 Value.nilIface).setIfInBounds 6 (Value.bool false)).setIfInBounds 0 Value.nilIface).setIfInBounds 1 (Value.bool false))=#[Pq eb,Pq pb,.nilIface,.bool false,.tuple #[.nilIface,.bool false],.nilIface,.tuple #[.nilIface,.bool false],.nilIface,.bool false,undef,undef,undef,undef,undef]:=by rfl
 rw[ht];clear ht;refine wpS_of_wp ?_;go_wp2;refine⟨rfl,.returning,?_,.tuple #[],by simp[results,Tryz.results34,go_sem],rfl,rfl,rfl⟩;cases c₀;simp_all
def VW(w w':World)(e:Ending)(r:Except (Option (Nat×Nat)) (List Nd)):Prop:=Bt w w'/\match r with
 |.error x=>e=Rw (.tuple #[.slice none 0 0,Iq (jR x:Int),Iq (se x:Int)])
 |.ok L=>∃nv KV,e=Rw (.tuple #[nv,Iq 0,Iq 0])/\PN w' w.heap.size nv L KV
theorem tparse_any(s:ByteArray)(E:Nat->Addr)(w:World)(hG:xe w E)(hA:gj w E)(hT:xd w):
 Cw 19 #[.string s] w fun e w'=>VW w w' e (bJ s):=by
 have hmf:∀(fn:Fn) (first cap:Array Value) (w:World),(Instr.makeFunc fn first cap).run prog w=.ok (.func fn first cap) w:=fun _ _ _ _=>rfl;obtain⟨S,hS⟩:=af w.heap.size;obtain⟨W0,bc⟩:=af ((w.alloc (.cells #[Iq 0] 24)).alloc (.cells #[Iq 0] 3));have B0:Hid (Bt w W0):=by rw[<-bc];exact((ag _ _).alloc (ae _) _).alloc (by simp_all) _
 have RD:=qH<|readTree_any s E W0 (hG.cells B0);have HE:Hid (W0.heap[S]?=some (.cells #[Iq 0] 24 (0,0))/\W0.heap[S+1]?=some (.cells #[Iq 0] 3 (0,0))/\W0.heap.size=S+2):=by
  rw[<-bc,<-hS];refine⟨?_,?_,by simp only[aA]⟩;·rw[cG _ _ _ (by simp_all)];exact heap_alloc_new _ _
  ·have:=heap_alloc_new (w.alloc (.cells #[Iq 0] 24)) (.cells #[Iq 0] 3);simp_all
 have HGL:Hid (∀w',Bt w w'->xe w' E/\gj w' E/\xd w'):=fun w' hb=>⟨hG.cells hb,hA.below hb,hT.below hb⟩;have HS:=qH<|hS;clear hG hA hT;go_enter_defers func19,ntmps19;go_wp2_with fail;clear bc hS;refine ai RD ?_;rintro e w1 ⟨b1,hr⟩;have hSW:=HE.2.2;have HB1:=qH<|B0.trans (b1.mono B0.size);have HE1:Hid (w1.heap[S]?=some (.cells #[Iq 0] 24 (0,0))/\w1.heap[S+1]?=some (.cells #[Iq 0] 3 (0,0))):=⟨(b1.block _ (by omega)).trans HE.1,(b1.block _ (by omega)).trans HE.2.1⟩;have nD:Hid (S<=w1.heap.size/\W0.heap.size=S+2):=⟨by have:=b1.size;omega,hSW⟩;clear b1 hSW RD;cases hp:bJ s with
 |error x=>rw[hp]at hr;subst hr;have Rx:=qH<|hp;have CT:=Bb S (S+1) S 0 0 x E w1 ⟨ae _,by omega,by omega,nD.1⟩ HE1.1 HE1.2 (HGL w1 HB1).1 (HGL w1 HB1).2.1 (HGL w1 HB1).2.2 (fun c p e=>uZ (by rw[Rx.out,e]));clear hp;refine leaves_cons (f:=34) (args:=#[Pq S,Pq (S+1)]) (by simp) (by simp[go_sem]) ?_;refine CT.mono ?_;rintro e u' w2 ⟨rfl,rfl,c0,c1,b2⟩;have HB2:=qH<|HB1.trans (by rw[HS.out];exact b2);clear b2 CT;simp[Leaves,settle,results,Tryz.results19,go_sem,c0,c1];refine⟨HB2,?_⟩;rw[Rx.out]
 |ok L=>
  rw[hp]at hr;obtain⟨nv,KV,rfl,hn⟩:=hr;have Rx:=qH<|hp;have HN:=qH<|hn;clear hn hp;have d0:w1.cell? (aq S 0)=some (Iq 0):=by simp[World.cell?,HE1.1]
  have d1:w1.cell? (aq (S+1) 0)=some (Iq 0):=by simp[World.cell?,HE1.2]
  have f0:w1.frozen? (aq S 0)=false:=frozen_of_row _ _ _ _ _ HE1.1;have f1:w1.frozen? (aq (S+1) 0)=false:=frozen_of_row _ _ _ _ _ HE1.2;have HQ:Hid (Bt w ((w1.setCell (aq S 0) (Iq 0)).setCell (aq (S+1) 0) (Iq 0))/\PN ((w1.setCell (aq S 0) (Iq 0)).setCell (aq (S+1) 0) (Iq 0)) w.heap.size nv L KV):=by
   have h1:w.heap.size<=S:=by rw[HS.out];exact ae _
   have h2:w.heap.size<=S+1:=by omega
   refine⟨(HB1.setCell h1 _).setCell h2 _,PN.base (HN.up ((Up.set w1 (by rw[nD.2];omega) _).trans (Up.set _ (by rw[nD.2];omega) _))) (by rw[nD.2];omega)⟩
  have k0:((w1.setCell (aq S 0) (Iq 0)).setCell (aq (S+1) 0) (Iq 0)).cell? (aq S 0)=some (Iq 0):=by rw[dy _ _ _ _ (fun e=>by grind)];exact yk _ _ _ d0
  have k1:((w1.setCell (aq S 0) (Iq 0)).setCell (aq (S+1) 0) (Iq 0)).cell? (aq (S+1) 0)=some (Iq 0):=by refine yk (u:=Iq 0) _ _ _ ?_;rw[dy _ _ _ _ (fun e=>by grind)];exact d1
  go_wp2;refine leaves_cons (f:=34) (args:=#[Pq S,Pq (S+1)]) (by simp) (by simp[go_sem]) ?_;refine(EF S (S+1) _).mono ?_;rintro e u' w2 ⟨rfl,rfl,rfl⟩;simp[Leaves,settle,results,Tryz.results19,go_sem,k0,k1];refine⟨HQ.1,?_⟩;rw[Rx.out];exact⟨nv,KV,rfl,HQ.2⟩
end
theorem dB{s}{L}(h:bJ s=.ok L):pf s=.ok L:=by rw[<-IJ,h];rfl
theorem zg{s}{x}(h:bJ s=.error x):1<=jR x:=by
 cases x with
 |none=>exact ae _
 |some q=>obtain⟨c,p⟩:=q;have:=(uZ h).1;show 1<=c;omega
