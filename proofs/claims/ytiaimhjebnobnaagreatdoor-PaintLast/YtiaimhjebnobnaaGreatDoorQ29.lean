import Derived.Test.YtiaimhjebnobnaaGreatDoorQ26
import Derived.Test.YtiaimhjebnobnaaGreatDoorQ07
set_option linter.all false
set_option maxRecDepth 100000
set_option maxHeartbeats 16000000
namespace Go.Proofs.YtiaimhjebnobnaaGreatDoor
open Go.RowKit Go.Proofs.Tryz
structure jt(W:World)(E:Nat->Addr):Prop where
 blk:∀c,1<=c->c<=7->∃xs t,W.heap[(E c).block]?=some (.cells xs t (0,0))
 inj:∀c d,1<=c->c<=7->1<=d->d<=7->c≠d->E c≠E d
theorem jt.below{W W'}{E}(h:jt W E)(hb:Bt W W'):jt W' E:=
 ⟨fun c h1 h2=>by obtain⟨xs,t,hx⟩:=h.blk c h1 h2;exact⟨xs,t,(hb.block _ (aM.1 hx).1).trans hx⟩,h.inj⟩
def jX:Option (Nat×Nat)->Nat
 |none=>1
 |some (c,_)=>c
def pR:Option (Nat×Nat)->Nat
 |none=>0
 |some (_,p)=>p
theorem PK  p   c d   E   w  (hA:jt w E) (hc:1<=c/\c<=7) (hd:1<=d/\d<=7):
 Cw 62 #[dw p (bH (E c)),bH (E d)] w fun e w'=>e=Rw (.bool (decide (c=d)))/\Bt w w':=by
 by_cases h:c=d;·subst h;rw[decide_eq_true rfl];exact xL p (E c) w
 ·rw[decide_eq_false h];obtain⟨xs,t,hx⟩:=hA.blk c hc.1 hc.2;obtain⟨ys,u,hy⟩:=hA.blk d hd.1 hd.2;exact vx p (E c) (E d) xs ys t u w (hA.inj c d hc.1 hc.2 hd.1 hd.2 h) hx hy
theorem BQ.cells{W W'}{E}(h:BQ W E)(hb:Bt W W'):BQ W' E:=by have sz:=h.sz;have c:∀(g:Nat) (v:Value),g<9->W.cell? (az g 0)=some v->W'.cell? (az g 0)=some v:=fun g v hg hv=>(hb.cell (p:=(az g 0)) (by grind)).trans hv;exact⟨aO sz hb.size,fun j hj=>(hb.cell (p:=(az 8 j)) (by grind)).trans (h.kn j hj),c _ _ (by decide) h.g1,c _ _ (by decide) h.g2,c _ _ (by decide) h.g3,c _ _ (by decide) h.g4,c _ _ (by decide) h.g5,c _ _ (by decide) h.g6,c _ _ (by decide) h.g7⟩
theorem F6(E:Nat->Addr)(w:World)(hG:BQ w E):Cw 32 #[bH (E 1)] w fun e w'=>e=Rw (Iq 1)/\w'=w:=by have IS:Hid (Cw 62 #[bH (E 1),bH (E 1)] w fun e w'=>e=Rw (.bool true)/\w'=w):=US (E 1) w;have g1:=hG.g1;unfold bH at*;go_enter func32,ntmps32;go_wp2_with(go_at_call 62;refine ao IS ?_;rintro e w1 ⟨rfl,hw⟩;obtain rfl:=hw.symm);go_ret;simp_all
theorem TR(p:Int)(c:Nat)(E:Nat->Addr)(w:World)(hG:BQ w E)(hA:jt w E)(hc:2<=c/\c<=7):Cw 32 #[dw p (bH (E c))] w fun e w'=>e=Rw (Iq (c:Int))/\Bt w w':=by
 have IS:Hid (∀d b w',1<=d/\d<=7->decide (c=d)=b->Bt w w'->Cw 62 #[dw p (bH (E c)),bH (E d)] w' fun e w''=>e=Rw (.bool b)/\Hid (Bt w w'')):=fun d b w' hd hb hw=>by subst hb;refine(PK p c d E w' (hA.below hw) (by omega) hd).mono ?_;rintro e w'' ⟨rfl,h⟩;exact⟨rfl,hw.trans (h.mono hw.size)⟩
 have HG:=qH<|fun w' hb=>BQ.cells (W':=w') hG hb;have g0:=hG.g1;clear hG hA;unfold bH dw at*;go_enter func32,ntmps32;go_wp2_with fail;clear g0;refine ao (IS 1 false _ (by omega) (by grind) (aj _ _)) ?_;rintro e w1 ⟨rfl,B1⟩;have g1:=(HG w1 B1).g3;unfold bH at g1;go_wp2_with fail;clear g1;by_cases c3:c=3;·refine ao (IS 3 true _ (by omega) (by grind) B1) ?_;rintro e w9 ⟨rfl,B9⟩;have C:=qH<|c3;clear c3 hc;go_wp2;go_ret;exact⟨by rw[C.out];rfl,B9⟩
 ·refine ao (IS 3 false _ (by omega) (by grind) B1) ?_;rintro e w2 ⟨rfl,B2⟩;have g2:=(HG w2 B2).g4;unfold bH at g2;go_wp2_with fail;clear g2;by_cases c4:c=4;·refine ao (IS 4 true _ (by omega) (by grind) B2) ?_;rintro e w9 ⟨rfl,B9⟩;have C:=qH<|c4;clear c4 hc;go_wp2;go_ret;exact⟨by rw[C.out];rfl,B9⟩
  ·refine ao (IS 4 false _ (by omega) (by grind) B2) ?_;rintro e w3 ⟨rfl,B3⟩;have g3:=(HG w3 B3).g5;unfold bH at g3;go_wp2_with fail;clear g3;by_cases c5:c=5;·refine ao (IS 5 true _ (by omega) (by grind) B3) ?_;rintro e w9 ⟨rfl,B9⟩;have C:=qH<|c5;clear c5 hc;go_wp2;go_ret;exact⟨by rw[C.out];rfl,B9⟩
   ·refine ao (IS 5 false _ (by omega) (by grind) B3) ?_;rintro e w4 ⟨rfl,B4⟩;have g4:=(HG w4 B4).g6;unfold bH at g4;go_wp2_with fail;clear g4;by_cases c6:c=6;·refine ao (IS 6 true _ (by omega) (by grind) B4) ?_;rintro e w9 ⟨rfl,B9⟩;have C:=qH<|c6;clear c6 hc;go_wp2;go_ret;exact⟨by rw[C.out];rfl,B9⟩
    ·refine ao (IS 6 false _ (by omega) (by grind) B4) ?_;rintro e w5 ⟨rfl,B5⟩;have g5:=(HG w5 B5).g7;unfold bH at g5;go_wp2_with fail;clear g5;by_cases c7:c=7;·refine ao (IS 7 true _ (by omega) (by grind) B5) ?_;rintro e w9 ⟨rfl,B9⟩;have C:=qH<|c7;clear c7 hc;go_wp2;go_ret;exact⟨by rw[C.out];rfl,B9⟩
     ·refine ao (IS 7 false _ (by omega) (by grind) B5) ?_;rintro e w6 ⟨rfl,B6⟩;have C:Hid (c=2):=by show _=_;omega
      clear c3 c4 c5 c6 c7 hc;go_wp2;go_ret;exact⟨by rw[C.out];rfl,B6⟩
theorem errno_any  x   E   w  (hG:BQ w E) (hA:jt w E) (hx:∀c p,x=some (c,p)->2<=c/\c<=7):Cw 32 #[pv E x] w fun e w'=>e=Rw (Iq (jX x:Int))/\Bt w w':=by
 cases x with
 |none=>exact ao (F6 E w hG) (fun e w' h=>⟨h.1,by rw[h.2];exact aj _ _⟩)
 |some q=>obtain⟨c,p⟩:=q;exact TR p c E w hG hA (hx c p rfl)
def BP(W:World):Prop:=6<W.heap.size/\W.cell? (az 6 0)=some (.iface 254 (.agg #[.pointer (some (az 18 92))]))
theorem BP.below{W W'}(h:BP W)(hb:Bt W W'):BP W':=⟨zz008 h.1 hb.size,(hb.cell (p:=(az 6 0)) h.1).trans h.2⟩
theorem Ef(p:Int)(c:Value)(hcl:c.oneCell'=true)(w:World)(hT:BP w):Cw 33 #[.iface 132 (.agg #[Iq p,c])] w fun e w'=>e=Rw (Iq p)/\Bt w w':=by
 obtain⟨W0,cK⟩:=ag (w.alloc (.cells #[Iq 0,.nilIface] 132));have YN:BP W0:=by rw[<-cK];exact hT.below ((aj _ _).alloc (ai _) _)
 obtain⟨S,hS⟩:=ag w.heap.size;have hb:W0.heap[S]?=some (.cells #[Iq 0,.nilIface] 132 (0,0)):=by rw[<-cK,<-hS];exact heap_alloc_new _ _
 have hl:=(aM.1 hb).1;have AH:=Yo S p c (Iq 0) .nilIface W0 YN.1 YN.2 hl (by simp[World.cell?,hb]) (by simp[World.cell?,hb]) (fun j=>frozen_of_row _ _ _ _ _ hb) hcl;have HB:Hid (∀w',w'=((((((W0.alloc (.cells #[Pq S] 134)).alloc (.cells #[.pointer (some (az 18 134)),Pq W0.heap.size,.int .u64 150] 192)).alloc (.cells #[.pointer (some (az 18 134)),Pq W0.heap.size,.int .u64 150] 192)).alloc (.cells #[Iq p,c] 132)).setCell (az S 0) (Iq p)).setCell (az S 1) c)->Bt w w'/\w'.cell? (az S 0)=some (Iq p)):=by
  rintro w' rfl;have b0:Bt w W0:=by rw[<-cK];exact(aj _ _).alloc (ai _) _
  have sz:=b0.size;have b4:=(((b0.alloc sz (.cells #[Pq S] 134)).alloc (by rw[aI];omega) (.cells #[.pointer (some (az 18 134)),Pq W0.heap.size,.int .u64 150] 192)).alloc (by simp only[aI];omega) (.cells #[.pointer (some (az 18 134)),Pq W0.heap.size,.int .u64 150] 192)).alloc (by simp only[aI];omega) (.cells #[Iq p,c] 132);have hS1:w.heap.size<=S:=by omega
  refine⟨(b4.setCell hS1 _).setCell hS1 _,?_⟩;have hc:(((((W0.alloc (.cells #[Pq S] 134)).alloc (.cells #[.pointer (some (az 18 134)),Pq W0.heap.size,.int .u64 150] 192)).alloc (.cells #[.pointer (some (az 18 134)),Pq W0.heap.size,.int .u64 150] 192)).alloc (.cells #[Iq p,c] 132)).setCell (az S 0) (Iq p)).cell? (az S 0)=some (Iq p):=by refine xa (u:=Iq 0) _ _ _ ?_;rw[ja _ _ (az S 0) (by simp only[aI];omega),ja _ _ (az S 0) (by simp only[aI];omega),ja _ _ (az S 0) (by simp only[aI];omega),ja _ _ (az S 0) hl];simp[World.cell?,hb]
  rw[eu _ _ _ _ (fun e=>by grind)];exact hc
 go_enter func33,ntmps33;go_wp2_with fail;refine ao AH ?_;rintro e w1 ⟨rfl,eQ⟩;have HW:=qH<|(HB w1 eQ).1;have c0:=(HB w1 eQ).2;clear eQ HB AH cK hb YN;go_wp2;go_ret;exact⟨rfl,HW⟩
theorem Eg(a:Addr)(w:World)(hT:BP w):Cw 33 #[.iface 362 (.pointer (some a))] w fun e w'=>e=Rw (Iq 0)/\Bt w w':=by
 obtain⟨W0,cK⟩:=ag (w.alloc (.cells #[Iq 0,.nilIface] 132));have b0:Bt w W0:=by rw[<-cK];exact(aj _ _).alloc (ai _) _
 have YN:=hT.below b0;obtain⟨S,hS⟩:=ag w.heap.size;have AM:=Tz S a W0 YN.1 YN.2;have HB:Hid (∀w',w'=(((W0.alloc (.cells #[Pq S] 134)).alloc (.cells #[.pointer (some (az 18 134)),Pq W0.heap.size,.int .u64 150] 192)).alloc (.cells #[.pointer (some (az 18 134)),Pq W0.heap.size,.int .u64 150] 192))->Bt w w'):=by rintro w' rfl;have sz:=b0.size;exact((b0.alloc sz _).alloc (by rw[aI];omega) _).alloc (by simp only[aI];omega) _
 go_enter func33,ntmps33;go_wp2_with fail;refine ao AM ?_;rintro e w1 ⟨rfl,eQ⟩;have HW:=qH<|HB w1 eQ;clear eQ HB AM cK YN b0;go_wp2;go_ret;exact⟨rfl,HW⟩
theorem LU  x   E   w  (hT:BP w):Cw 33 #[pv E x] w fun e w'=>e=Rw (Iq (pR x:Int))/\Bt w w':=by
 cases x with
 |none=>exact Eg (E 1) w hT
 |some q=>exact Ef q.2 (bH (E q.1)) rfl w hT
section
open Go.Stop
theorem zbx  x   E   w  :(Instr.typeAssert (pv E x) 20 92 true).run prog w=.ok (.tuple #[pv E x,.bool true]) w:=by
 cases x with
 |none=>exact run_typeAssert_hasB underlying92 (by kernel_rfl) _ _ w
 |some q=>exact run_typeAssert_hasB underlying92 (by kernel_rfl) _ _ w
theorem NT  w  :(Instr.typeAssert .nilIface 20 92 true).run prog w=.ok (.tuple #[.nilIface,.bool false]) w:=by kernel_rfl
theorem Cl(eb pb B:Nat)(a0 a1:Int)(x:Option (Nat×Nat))(E:Nat->Addr)(w:World)(hB:B<=eb/\B<=pb/\eb≠pb/\B<=w.heap.size)(he:w.heap[eb]?=some (.cells #[Iq a0] 25 (0,0)))(hp:w.heap[pb]?=some (.cells #[Iq a1] 3 (0,0)))(hG:BQ w E)(hA:jt w E)(hT:BP w)(hx:∀c p,x=some (c,p)->2<=c/\c<=7):
 CallsD prog 31 #[Pq eb,Pq pb] (.panicking [{v:=pv E x,recovered:=false}]) w fun e u' w'=>
  e=Rw (.tuple #[])/\u'=.panicking [{v:=pv E x,recovered:=true}]/\w'.cell? (az eb 0)=some (Iq (jX x:Int))/\w'.cell? (az pb 0)=some (Iq (pR x:Int))/\Below B w w':=by
 have TA:=zbx x E;have EN:=qH<|errno_any x E w hG hA hx;have PL:=qH<|fun w' hb=>LU x E w' (hT.below hb);have FF:=qH<|hB;have HE:Hid (w.heap[eb]?=some (.cells #[Iq a0] 25 (0,0))/\w.heap[pb]?=some (.cells #[Iq a1] 3 (0,0))):=⟨he,hp⟩;obtain⟨v,hv⟩:=ag (pv E x);rw[hv]at TA EN PL⊢;clear hv hG hA hT hx hB he hp;refine callsD_of_wpS func31 rfl fun c₀ cs hu=>?_;apply wpS_seq;apply wpS_region;simp[wpOpsS,go_sem,recoverD,hu,ntmps31,Exit.thenS,TA];have ht:(#[Pq eb,Pq pb]++(((((((Array.replicate 12 undef).setIfInBounds 3 v).setIfInBounds 4 (Value.tuple #[v,Value.bool true])).setIfInBounds 2 (Value.tuple #[v,Value.bool true])).setIfInBounds 5 v).setIfInBounds 6 (Value.bool true)).setIfInBounds 0 v).setIfInBounds 1 (Value.bool true))=#[Pq eb,Pq pb,v,.bool true,.tuple #[v,.bool true],v,.tuple #[v,.bool true],v,.bool true,undef,undef,undef,undef,undef]:=by rfl
 rw[ht];clear ht;refine wpS_of_wp ?_;go_wp2_with fail;refine ao EN ?_;rintro e w1 ⟨rfl,b1⟩;have HB1:=qH<|b1;clear b1 EN;go_wp2_with fail;refine ao (PL _ HB1) ?_;rintro e w2 ⟨rfl,b2⟩;have HB2:=qH<|HB1.trans (b2.mono HB1.size);clear b2 PL HB1;have HE2:Hid (w2.heap[eb]?=some (.cells #[Iq a0] 25 (0,0))/\w2.heap[pb]?=some (.cells #[Iq a1] 3 (0,0))):=⟨(HB2.block _ (aM.1 HE.1).1).trans HE.1,(HB2.block _ (aM.1 HE.2).1).trans HE.2⟩;have d0:w2.cell? (az eb 0)=some (Iq a0):=by simp[World.cell?,HE2.1]
 have d1:w2.cell? (az pb 0)=some (Iq a1):=by simp[World.cell?,HE2.2]
 have f0:w2.frozen? (az eb 0)=false:=frozen_of_row _ _ _ _ _ HE2.1;have f1:w2.frozen? (az pb 0)=false:=frozen_of_row _ _ _ _ _ HE2.2;have bZ:¬eb=pb:=FF.2.2.1;have HC:Hid (((w2.setCell (az eb 0) (Iq (jX x:Int))).setCell (az pb 0) (Iq (pR x:Int))).cell? (az eb 0)=some (Iq (jX x:Int))/\((w2.setCell (az eb 0) (Iq (jX x:Int))).setCell (az pb 0) (Iq (pR x:Int))).cell? (az pb 0)=some (Iq (pR x:Int))/\Below B w ((w2.setCell (az eb 0) (Iq (jX x:Int))).setCell (az pb 0) (Iq (pR x:Int)))):=by
  refine⟨?_,?_,?_⟩;·rw[eu _ _ _ _ (fun e=>by grind)];exact xa _ _ _ d0
  ·refine xa (u:=Iq a1) _ _ _ ?_;rw[eu _ _ _ _ (fun e=>by grind)];exact d1
  ·exact((HB2.mono FF.2.2.2).setCell FF.1 _).setCell FF.2.1 _
 go_wp2;exact⟨rfl,_,rfl,.tuple #[],by simp[results,Tryz.results31,go_sem],rfl,rfl,HC.1,HC.2.1,HC.2.2⟩
theorem FV(eb pb:Nat)(w:World):
 CallsD prog 31 #[Pq eb,Pq pb] .returning w fun e u' w'=>e=Rw (.tuple #[])/\u'=.returning/\w'=w:=by
 have TA:=NT;refine callsD_of_wpS func31 rfl fun c₀ cs hu=>?_;apply wpS_seq;apply wpS_region;simp[wpOpsS,go_sem,recoverD,hu,ntmps31,Exit.thenS,TA];have ht:(#[Pq eb,Pq pb]++(((((((Array.replicate 12 undef).setIfInBounds 3 Value.nilIface).setIfInBounds 4 (Value.tuple #[Value.nilIface,Value.bool false])).setIfInBounds 2 (Value.tuple #[Value.nilIface,Value.bool false])).setIfInBounds 5 Value.nilIface).setIfInBounds 6 (Value.bool false)).setIfInBounds 0 Value.nilIface).setIfInBounds 1 (Value.bool false))=#[Pq eb,Pq pb,.nilIface,.bool false,.tuple #[.nilIface,.bool false],.nilIface,.tuple #[.nilIface,.bool false],.nilIface,.bool false,undef,undef,undef,undef,undef]:=by rfl
 rw[ht];clear ht;refine wpS_of_wp ?_;go_wp2;refine⟨rfl,.returning,?_,.tuple #[],by simp[results,Tryz.results31,go_sem],rfl,rfl,rfl⟩;cases c₀;simp_all
def Wv(w w':World)(e:Ending)(r:Except (Option (Nat×Nat)) (List Nd)):Prop:=Bt w w'/\match r with
 |.error x=>e=Rw (.tuple #[.slice none 0 0,Iq (jX x:Int),Iq (pR x:Int)])
 |.ok L=>∃nv KV,e=Rw (.tuple #[nv,Iq 0,Iq 0])/\PN w' w.heap.size nv L KV
theorem wO(s:ByteArray)(E:Nat->Addr)(w:World)(hG:BQ w E)(hA:jt w E)(hT:BP w):
 Cw 14 #[.string s] w fun e w'=>Wv w w' e (cL s):=by
 have hmf:∀(fn:Fn) (first cap:Array Value) (w:World),(Instr.makeFunc fn first cap).run prog w=.ok (.func fn first cap) w:=fun _ _ _ _=>rfl;obtain⟨S,hS⟩:=ag w.heap.size;obtain⟨W0,cK⟩:=ag ((w.alloc (.cells #[Iq 0] 25)).alloc (.cells #[Iq 0] 3));have B0:Hid (Bt w W0):=by rw[<-cK];exact((aj _ _).alloc (ai _) _).alloc (by simp_all) _
 have RD:=qH<|readTree_any s E W0 (hG.cells B0);have HE:Hid (W0.heap[S]?=some (.cells #[Iq 0] 25 (0,0))/\W0.heap[S+1]?=some (.cells #[Iq 0] 3 (0,0))/\W0.heap.size=S+2):=by
  rw[<-cK,<-hS];refine⟨?_,?_,by simp only[aI]⟩;·rw[du _ _ _ (by simp_all)];exact heap_alloc_new _ _
  ·have:=heap_alloc_new (w.alloc (.cells #[Iq 0] 25)) (.cells #[Iq 0] 3);simp_all
 have HGL:Hid (∀w',Bt w w'->BQ w' E/\jt w' E/\BP w'):=fun w' hb=>⟨hG.cells hb,hA.below hb,hT.below hb⟩;have HS:=qH<|hS;clear hG hA hT;go_enter_defers func14,ntmps14;go_wp2_with fail;clear cK hS;refine ao RD ?_;rintro e w1 ⟨b1,hr⟩;have hSW:=HE.2.2;have HB1:=qH<|B0.trans (b1.mono B0.size);have HE1:Hid (w1.heap[S]?=some (.cells #[Iq 0] 25 (0,0))/\w1.heap[S+1]?=some (.cells #[Iq 0] 3 (0,0))):=⟨(b1.block _ (by omega)).trans HE.1,(b1.block _ (by omega)).trans HE.2.1⟩;have xx:Hid (S<=w1.heap.size/\W0.heap.size=S+2):=⟨by have:=b1.size;omega,hSW⟩;clear b1 hSW RD;cases hp:cL s with
 |error x=>rw[hp]at hr;subst hr;have Nl:=qH<|hp;have CT:=Cl S (S+1) S 0 0 x E w1 ⟨ai _,by omega,by omega,xx.1⟩ HE1.1 HE1.2 (HGL w1 HB1).1 (HGL w1 HB1).2.1 (HGL w1 HB1).2.2 (fun c p e=>vQ (by rw[Nl.out,e]));clear hp;refine leaves_cons (f:=31) (args:=#[Pq S,Pq (S+1)]) (by simp) (by simp[go_sem]) ?_;refine CT.mono ?_;rintro e u' w2 ⟨rfl,rfl,c0,c1,b2⟩;have HB2:=qH<|HB1.trans (by rw[HS.out];exact b2);clear b2 CT;simp[Leaves,settle,results,Tryz.results14,go_sem,c0,c1];refine⟨HB2,?_⟩;rw[Nl.out]
 |ok L=>
  rw[hp]at hr;obtain⟨nv,KV,rfl,hn⟩:=hr;have Nl:=qH<|hp;have HN:=qH<|hn;clear hn hp;have d0:w1.cell? (az S 0)=some (Iq 0):=by simp[World.cell?,HE1.1]
  have d1:w1.cell? (az (S+1) 0)=some (Iq 0):=by simp[World.cell?,HE1.2]
  have f0:w1.frozen? (az S 0)=false:=frozen_of_row _ _ _ _ _ HE1.1;have f1:w1.frozen? (az (S+1) 0)=false:=frozen_of_row _ _ _ _ _ HE1.2;have HQ:Hid (Bt w ((w1.setCell (az S 0) (Iq 0)).setCell (az (S+1) 0) (Iq 0))/\PN ((w1.setCell (az S 0) (Iq 0)).setCell (az (S+1) 0) (Iq 0)) w.heap.size nv L KV):=by
   have h1:w.heap.size<=S:=by rw[HS.out];exact ai _
   have h2:w.heap.size<=S+1:=by omega
   refine⟨(HB1.setCell h1 _).setCell h2 _,PN.base (HN.up ((Up.set w1 (by rw[xx.2];omega) _).trans (Up.set _ (by rw[xx.2];omega) _))) (by rw[xx.2];omega)⟩
  have k0:((w1.setCell (az S 0) (Iq 0)).setCell (az (S+1) 0) (Iq 0)).cell? (az S 0)=some (Iq 0):=by rw[eu _ _ _ _ (fun e=>by grind)];exact xa _ _ _ d0
  have k1:((w1.setCell (az S 0) (Iq 0)).setCell (az (S+1) 0) (Iq 0)).cell? (az (S+1) 0)=some (Iq 0):=by refine xa (u:=Iq 0) _ _ _ ?_;rw[eu _ _ _ _ (fun e=>by grind)];exact d1
  go_wp2;refine leaves_cons (f:=31) (args:=#[Pq S,Pq (S+1)]) (by simp) (by simp[go_sem]) ?_;refine(FV S (S+1) _).mono ?_;rintro e u' w2 ⟨rfl,rfl,rfl⟩;simp[Leaves,settle,results,Tryz.results14,go_sem,k0,k1];refine⟨HQ.1,?_⟩;rw[Nl.out];exact⟨nv,KV,rfl,HQ.2⟩
