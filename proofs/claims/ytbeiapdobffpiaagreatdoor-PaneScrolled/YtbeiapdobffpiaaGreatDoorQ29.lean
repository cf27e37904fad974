import Derived.Test.YtbeiapdobffpiaaGreatDoorQ26
import Derived.Test.YtbeiapdobffpiaaGreatDoorQ12
set_option linter.all false
set_option maxRecDepth 100000
set_option maxHeartbeats 16000000
namespace Go.Proofs.YtbeiapdobffpiaaGreatDoor
open Go.RowKit Go.Proofs.Tryz
structure io(W:World)(E:Nat->Addr):Prop where
 blk:∀c,1<=c->c<=7->∃xs t,W.heap[(E c).block]?=some (.cells xs t (0,0))
 inj:∀c d,1<=c->c<=7->1<=d->d<=7->c≠d->E c≠E d
theorem io.below{W W'}{E}(h:io W E)(hb:Bt W W'):io W' E:=
 ⟨fun c h1 h2=>by obtain⟨xs,t,hx⟩:=h.blk c h1 h2;exact⟨xs,t,(hb.block _ (aS.1 hx).1).trans hx⟩,h.inj⟩
def jy:Option (Nat×Nat)->Nat
 |none=>1
 |some (c,_)=>c
def qw:Option (Nat×Nat)->Nat
 |none=>0
 |some (_,p)=>p
theorem KA  p   c d   E   w  (hA:io w E) (hc:1<=c/\c<=7) (hd:1<=d/\d<=7):
 Cw 41 #[cR p (bp (E c)),bp (E d)] w fun e w'=>e=Rw (.bool (decide (c=d)))/\Bt w w':=by
 by_cases h:c=d;·subst h;rw[decide_eq_true rfl];exact tW p (E c) w
 ·rw[decide_eq_false h];obtain⟨xs,t,hx⟩:=hA.blk c hc.1 hc.2;obtain⟨ys,u,hy⟩:=hA.blk d hd.1 hd.2;exact sj p (E c) (E d) xs ys t u w (hA.inj c d hc.1 hc.2 hd.1 hd.2 h) hx hy
theorem xX.cells{W W'}{E}(h:xX W E)(hb:Bt W W'):xX W' E:=by have sz:=h.sz;have c:∀(g:Nat) (v:Value),g<9->W.cell? (az g 0)=some v->W'.cell? (az g 0)=some v:=fun g v hg hv=>(hb.cell (p:=(az g 0)) (by grind)).trans hv;exact⟨aT sz hb.size,fun j hj=>(hb.cell (p:=(az 8 j)) (by grind)).trans (h.kn j hj),c _ _ (by decide) h.g1,c _ _ (by decide) h.g2,c _ _ (by decide) h.g3,c _ _ (by decide) h.g4,c _ _ (by decide) h.g5,c _ _ (by decide) h.g6,c _ _ (by decide) h.g7⟩
theorem Ce(E:Nat->Addr)(w:World)(hG:xX w E):Cw 26 #[bp (E 1)] w fun e w'=>e=Rw (Iq 1)/\w'=w:=by have IS:Hid (Cw 41 #[bp (E 1),bp (E 1)] w fun e w'=>e=Rw (.bool true)/\w'=w):=O6 (E 1) w;have g1:=hG.g1;unfold bp at*;go_enter func26,ntmps26;go_wp2_with(go_at_call 41;refine am IS ?_;rintro e w1 ⟨rfl,hw⟩;obtain rfl:=hw.symm);go_ret;simp_all
theorem N_(p:Int)(c:Nat)(E:Nat->Addr)(w:World)(hG:xX w E)(hA:io w E)(hc:2<=c/\c<=7):Cw 26 #[cR p (bp (E c))] w fun e w'=>e=Rw (Iq (c:Int))/\Bt w w':=by
 have IS:Hid (∀d b w',1<=d/\d<=7->decide (c=d)=b->Bt w w'->Cw 41 #[cR p (bp (E c)),bp (E d)] w' fun e w''=>e=Rw (.bool b)/\Hid (Bt w w'')):=fun d b w' hd hb hw=>by subst hb;refine(KA p c d E w' (hA.below hw) (by omega) hd).mono ?_;rintro e w'' ⟨rfl,h⟩;exact⟨rfl,hw.trans (h.mono hw.size)⟩
 have HG:=qH<|fun w' hb=>xX.cells (W':=w') hG hb;have g0:=hG.g1;clear hG hA;unfold bp cR at*;go_enter func26,ntmps26;go_wp2_with fail;clear g0;refine am (IS 1 false _ (by omega) (by grind) (ag _ _)) ?_;rintro e w1 ⟨rfl,B1⟩;have g1:=(HG w1 B1).g3;unfold bp at g1;go_wp2_with fail;clear g1;by_cases c3:c=3;·refine am (IS 3 true _ (by omega) (by grind) B1) ?_;rintro e w9 ⟨rfl,B9⟩;have C:=qH<|c3;clear c3 hc;go_wp2;go_ret;exact⟨by rw[C.out];rfl,B9⟩
 ·refine am (IS 3 false _ (by omega) (by grind) B1) ?_;rintro e w2 ⟨rfl,B2⟩;have g2:=(HG w2 B2).g4;unfold bp at g2;go_wp2_with fail;clear g2;by_cases c4:c=4;·refine am (IS 4 true _ (by omega) (by grind) B2) ?_;rintro e w9 ⟨rfl,B9⟩;have C:=qH<|c4;clear c4 hc;go_wp2;go_ret;exact⟨by rw[C.out];rfl,B9⟩
  ·refine am (IS 4 false _ (by omega) (by grind) B2) ?_;rintro e w3 ⟨rfl,B3⟩;have g3:=(HG w3 B3).g5;unfold bp at g3;go_wp2_with fail;clear g3;by_cases c5:c=5;·refine am (IS 5 true _ (by omega) (by grind) B3) ?_;rintro e w9 ⟨rfl,B9⟩;have C:=qH<|c5;clear c5 hc;go_wp2;go_ret;exact⟨by rw[C.out];rfl,B9⟩
   ·refine am (IS 5 false _ (by omega) (by grind) B3) ?_;rintro e w4 ⟨rfl,B4⟩;have g4:=(HG w4 B4).g6;unfold bp at g4;go_wp2_with fail;clear g4;by_cases c6:c=6;·refine am (IS 6 true _ (by omega) (by grind) B4) ?_;rintro e w9 ⟨rfl,B9⟩;have C:=qH<|c6;clear c6 hc;go_wp2;go_ret;exact⟨by rw[C.out];rfl,B9⟩
    ·refine am (IS 6 false _ (by omega) (by grind) B4) ?_;rintro e w5 ⟨rfl,B5⟩;have g5:=(HG w5 B5).g7;unfold bp at g5;go_wp2_with fail;clear g5;by_cases c7:c=7;·refine am (IS 7 true _ (by omega) (by grind) B5) ?_;rintro e w9 ⟨rfl,B9⟩;have C:=qH<|c7;clear c7 hc;go_wp2;go_ret;exact⟨by rw[C.out];rfl,B9⟩
     ·refine am (IS 7 false _ (by omega) (by grind) B5) ?_;rintro e w6 ⟨rfl,B6⟩;have C:Hid (c=2):=by show _=_;omega
      clear c3 c4 c5 c6 c7 hc;go_wp2;go_ret;exact⟨by rw[C.out];rfl,B6⟩
theorem errno_any  x   E   w  (hG:xX w E) (hA:io w E) (hx:∀c p,x=some (c,p)->2<=c/\c<=7):Cw 26 #[pv E x] w fun e w'=>e=Rw (Iq (jy x:Int))/\Bt w w':=by
 cases x with
 |none=>exact am (Ce E w hG) (fun e w' h=>⟨h.1,by rw[h.2];exact ag _ _⟩)
 |some q=>obtain⟨c,p⟩:=q;exact N_ p c E w hG hA (hx c p rfl)
def xW(W:World):Prop:=6<W.heap.size/\W.cell? (az 6 0)=some (.iface 206 (.agg #[.pointer (some (az 18 92))]))
theorem xW.below{W W'}(h:xW W)(hb:Bt W W'):xW W':=⟨bn h.1 hb.size,(hb.cell (p:=(az 6 0)) h.1).trans h.2⟩
theorem zX(p:Int)(c:Value)(hcl:c.oneCell'=true)(w:World)(hT:xW w):Cw 27 #[.iface 124 (.agg #[Iq p,c])] w fun e w'=>e=Rw (Iq p)/\Bt w w':=by
 obtain⟨W0,dG⟩:=aj (w.alloc (.cells #[Iq 0,.nilIface] 124));have SA:xW W0:=by rw[<-dG];exact hT.below ((ag _ _).alloc (ai _) _)
 obtain⟨S,hS⟩:=aj w.heap.size;have hb:W0.heap[S]?=some (.cells #[Iq 0,.nilIface] 124 (0,0)):=by rw[<-dG,<-hS];exact heap_alloc_new _ _
 have hl:=(aS.1 hb).1;have AH:=Sf S p c (Iq 0) .nilIface W0 SA.1 SA.2 hl (by simp[World.cell?,hb]) (by simp[World.cell?,hb]) (fun j=>frozen_of_row _ _ _ _ _ hb) hcl;have HB:Hid (∀w',w'=((((((W0.alloc (.cells #[Pq S] 126)).alloc (.cells #[.pointer (some (az 18 126)),Pq W0.heap.size,.int .u64 150] 159)).alloc (.cells #[.pointer (some (az 18 126)),Pq W0.heap.size,.int .u64 150] 159)).alloc (.cells #[Iq p,c] 124)).setCell (az S 0) (Iq p)).setCell (az S 1) c)->Bt w w'/\w'.cell? (az S 0)=some (Iq p)):=by
  rintro w' rfl;have b0:Bt w W0:=by rw[<-dG];exact(ag _ _).alloc (ai _) _
  have sz:=b0.size;have b4:=(((b0.alloc sz (.cells #[Pq S] 126)).alloc (by rw[aO];omega) (.cells #[.pointer (some (az 18 126)),Pq W0.heap.size,.int .u64 150] 159)).alloc (by simp only[aO];omega) (.cells #[.pointer (some (az 18 126)),Pq W0.heap.size,.int .u64 150] 159)).alloc (by simp only[aO];omega) (.cells #[Iq p,c] 124);have hS1:w.heap.size<=S:=by omega
  refine⟨(b4.setCell hS1 _).setCell hS1 _,?_⟩;have hc:(((((W0.alloc (.cells #[Pq S] 126)).alloc (.cells #[.pointer (some (az 18 126)),Pq W0.heap.size,.int .u64 150] 159)).alloc (.cells #[.pointer (some (az 18 126)),Pq W0.heap.size,.int .u64 150] 159)).alloc (.cells #[Iq p,c] 124)).setCell (az S 0) (Iq p)).cell? (az S 0)=some (Iq p):=by refine vu (u:=Iq 0) _ _ _ ?_;rw[gP _ _ (az S 0) (by simp only[aO];omega),gP _ _ (az S 0) (by simp only[aO];omega),gP _ _ (az S 0) (by simp only[aO];omega),gP _ _ (az S 0) hl];simp[World.cell?,hb]
  rw[dX _ _ _ _ (fun e=>by grind)];exact hc
 go_enter func27,ntmps27;go_wp2_with fail;refine am AH ?_;rintro e w1 ⟨rfl,eu⟩;have HW:=qH<|(HB w1 eu).1;have c0:=(HB w1 eu).2;clear eu HB AH dG hb SA;go_wp2;go_ret;exact⟨rfl,HW⟩
theorem zY(a:Addr)(w:World)(hT:xW w):Cw 27 #[.iface 365 (.pointer (some a))] w fun e w'=>e=Rw (Iq 0)/\Bt w w':=by
 obtain⟨W0,dG⟩:=aj (w.alloc (.cells #[Iq 0,.nilIface] 124));have b0:Bt w W0:=by rw[<-dG];exact(ag _ _).alloc (ai _) _
 have SA:=hT.below b0;obtain⟨S,hS⟩:=aj w.heap.size;have AM:=NQ S a W0 SA.1 SA.2;have HB:Hid (∀w',w'=(((W0.alloc (.cells #[Pq S] 126)).alloc (.cells #[.pointer (some (az 18 126)),Pq W0.heap.size,.int .u64 150] 159)).alloc (.cells #[.pointer (some (az 18 126)),Pq W0.heap.size,.int .u64 150] 159))->Bt w w'):=by rintro w' rfl;have sz:=b0.size;exact((b0.alloc sz _).alloc (by rw[aO];omega) _).alloc (by simp only[aO];omega) _
 go_enter func27,ntmps27;go_wp2_with fail;refine am AM ?_;rintro e w1 ⟨rfl,eu⟩;have HW:=qH<|HB w1 eu;clear eu HB AM dG SA b0;go_wp2;go_ret;exact⟨rfl,HW⟩
theorem G8  x   E   w  (hT:xW w):Cw 27 #[pv E x] w fun e w'=>e=Rw (Iq (qw x:Int))/\Bt w w':=by
 cases x with
 |none=>exact zY (E 1) w hT
 |some q=>exact zX q.2 (bp (E q.1)) rfl w hT
section
open Go.Stop
theorem Wo  x   E   w  :(Instr.typeAssert (pv E x) 20 92 true).run prog w=.ok (.tuple #[pv E x,.bool true]) w:=by
 cases x with
 |none=>exact run_typeAssert_hasB underlying92 (by kernel_rfl) _ _ w
 |some q=>exact run_typeAssert_hasB underlying92 (by kernel_rfl) _ _ w
theorem Je  w  :(Instr.typeAssert .nilIface 20 92 true).run prog w=.ok (.tuple #[.nilIface,.bool false]) w:=by kernel_rfl
theorem yr(eb pb B:Nat)(a0 a1:Int)(x:Option (Nat×Nat))(E:Nat->Addr)(w:World)(hB:B<=eb/\B<=pb/\eb≠pb/\B<=w.heap.size)(he:w.heap[eb]?=some (.cells #[Iq a0] 25 (0,0)))(hp:w.heap[pb]?=some (.cells #[Iq a1] 3 (0,0)))(hG:xX w E)(hA:io w E)(hT:xW w)(hx:∀c p,x=some (c,p)->2<=c/\c<=7):
 CallsD prog 25 #[Pq eb,Pq pb] (.panicking [{v:=pv E x,recovered:=false}]) w fun e u' w'=>
  e=Rw (.tuple #[])/\u'=.panicking [{v:=pv E x,recovered:=true}]/\w'.cell? (az eb 0)=some (Iq (jy x:Int))/\w'.cell? (az pb 0)=some (Iq (qw x:Int))/\Below B w w':=by
 have TA:=Wo x E;have EN:=qH<|errno_any x E w hG hA hx;have PL:=qH<|fun w' hb=>G8 x E w' (hT.below hb);have Fu:=qH<|hB;have HE:Hid (w.heap[eb]?=some (.cells #[Iq a0] 25 (0,0))/\w.heap[pb]?=some (.cells #[Iq a1] 3 (0,0))):=⟨he,hp⟩;obtain⟨v,hv⟩:=aj (pv E x);rw[hv]at TA EN PL⊢;clear hv hG hA hT hx hB he hp;refine callsD_of_wpS func25 rfl fun c₀ cs hu=>?_;apply wpS_seq;apply wpS_region;simp[wpOpsS,go_sem,recoverD,hu,ntmps25,Exit.thenS,TA];have ht:(#[Pq eb,Pq pb]++(((((((Array.replicate 12 undef).setIfInBounds 3 v).setIfInBounds 4 (Value.tuple #[v,Value.bool true])).setIfInBounds 2 (Value.tuple #[v,Value.bool true])).setIfInBounds 5 v).setIfInBounds 6 (Value.bool true)).setIfInBounds 0 v).setIfInBounds 1 (Value.bool true))=#[Pq eb,Pq pb,v,.bool true,.tuple #[v,.bool true],v,.tuple #[v,.bool true],v,.bool true,undef,undef,undef,undef,undef]:=by rfl
 rw[ht];clear ht;refine wpS_of_wp ?_;go_wp2_with fail;refine am EN ?_;rintro e w1 ⟨rfl,b1⟩;have HB1:=qH<|b1;clear b1 EN;go_wp2_with fail;refine am (PL _ HB1) ?_;rintro e w2 ⟨rfl,b2⟩;have HB2:=qH<|HB1.trans (b2.mono HB1.size);clear b2 PL HB1;have HE2:Hid (w2.heap[eb]?=some (.cells #[Iq a0] 25 (0,0))/\w2.heap[pb]?=some (.cells #[Iq a1] 3 (0,0))):=⟨(HB2.block _ (aS.1 HE.1).1).trans HE.1,(HB2.block _ (aS.1 HE.2).1).trans HE.2⟩;have d0:w2.cell? (az eb 0)=some (Iq a0):=by simp[World.cell?,HE2.1]
 have d1:w2.cell? (az pb 0)=some (Iq a1):=by simp[World.cell?,HE2.2]
 have f0:w2.frozen? (az eb 0)=false:=frozen_of_row _ _ _ _ _ HE2.1;have f1:w2.frozen? (az pb 0)=false:=frozen_of_row _ _ _ _ _ HE2.2;have bG:¬eb=pb:=Fu.2.2.1;have HC:Hid (((w2.setCell (az eb 0) (Iq (jy x:Int))).setCell (az pb 0) (Iq (qw x:Int))).cell? (az eb 0)=some (Iq (jy x:Int))/\((w2.setCell (az eb 0) (Iq (jy x:Int))).setCell (az pb 0) (Iq (qw x:Int))).cell? (az pb 0)=some (Iq (qw x:Int))/\Below B w ((w2.setCell (az eb 0) (Iq (jy x:Int))).setCell (az pb 0) (Iq (qw x:Int)))):=by
  refine⟨?_,?_,?_⟩;·rw[dX _ _ _ _ (fun e=>by grind)];exact vu _ _ _ d0
  ·refine vu (u:=Iq a1) _ _ _ ?_;rw[dX _ _ _ _ (fun e=>by grind)];exact d1
  ·exact((HB2.mono Fu.2.2.2).setCell Fu.1 _).setCell Fu.2.1 _
 go_wp2;exact⟨rfl,_,rfl,.tuple #[],by simp[results,Tryz.results25,go_sem],rfl,rfl,HC.1,HC.2.1,HC.2.2⟩
theorem BZ(eb pb:Nat)(w:World):
 CallsD prog 25 #[Pq eb,Pq pb] .returning w fun e u' w'=>e=Rw (.tuple #[])/\u'=.returning/\w'=w:=by
 have TA:=Je;refine callsD_of_wpS func25 rfl fun c₀ cs hu=>?_;apply wpS_seq;apply wpS_region;simp[wpOpsS,go_sem,recoverD,hu,ntmps25,Exit.thenS,TA];have ht:(#[Pq eb,Pq pb]++(((((((Array.replicate 12 undef).setIfInBounds 3 Value.nilIface).setIfInBounds 4 (Value.tuple #[Value.nilIface,Value.bool false])).setIfInBounds 2 (Value.tuple #[Value.nilIface,Value.bool false])).setIfInBounds 5 Value.nilIface).setIfInBounds 6 (Value.bool false)).setIfInBounds 0 Value.nilIface).setIfInBounds 1 (Value.bool false))=#[Pq eb,Pq pb,.nilIface,.bool false,.tuple #[.nilIface,.bool false],.nilIface,.tuple #[.nilIface,.bool false],.nilIface,.bool false,undef,undef,undef,undef,undef]:=by rfl
 rw[ht];clear ht;refine wpS_of_wp ?_;go_wp2;refine⟨rfl,.returning,?_,.tuple #[],by simp[results,Tryz.results25,go_sem],rfl,rfl,rfl⟩;cases c₀;simp_all
def Qy(w w':World)(e:Ending)(r:Except (Option (Nat×Nat)) (List Nd)):Prop:=Bt w w'/\match r with
 |.error x=>e=Rw (.tuple #[.slice none 0 0,Iq (jy x:Int),Iq (qw x:Int)])
 |.ok L=>∃nv KV,e=Rw (.tuple #[nv,Iq 0,Iq 0])/\PN w' w.heap.size nv L KV
theorem tparse_any(s:ByteArray)(E:Nat->Addr)(w:World)(hG:xX w E)(hA:io w E)(hT:xW w):
 Cw 14 #[.string s] w fun e w'=>Qy w w' e (b9 s):=by
 have hmf:∀(fn:Fn) (first al:Array Value) (w:World),(Instr.makeFunc fn first al).run prog w=.ok (.func fn first al) w:=fun _ _ _ _=>rfl;obtain⟨S,hS⟩:=aj w.heap.size;obtain⟨W0,dG⟩:=aj ((w.alloc (.cells #[Iq 0] 25)).alloc (.cells #[Iq 0] 3));have B0:Hid (Bt w W0):=by rw[<-dG];exact((ag _ _).alloc (ai _) _).alloc (by simp_all) _
 have RD:=qH<|readTree_any s E W0 (hG.cells B0);have HE:Hid (W0.heap[S]?=some (.cells #[Iq 0] 25 (0,0))/\W0.heap[S+1]?=some (.cells #[Iq 0] 3 (0,0))/\W0.heap.size=S+2):=by
  rw[<-dG,<-hS];refine⟨?_,?_,by simp only[aO]⟩;·rw[fC _ _ _ (by simp_all)];exact heap_alloc_new _ _
  ·have:=heap_alloc_new (w.alloc (.cells #[Iq 0] 25)) (.cells #[Iq 0] 3);simp_all
 have _z:Hid (∀w',Bt w w'->xX w' E/\io w' E/\xW w'):=fun w' hb=>⟨hG.cells hb,hA.below hb,hT.below hb⟩;have HS:=qH<|hS;clear hG hA hT;go_enter_defers func14,ntmps14;go_wp2_with fail;clear dG hS;refine am RD ?_;rintro e w1 ⟨b1,hr⟩;have hSW:=HE.2.2;have HB1:=qH<|B0.trans (b1.mono B0.size);have HE1:Hid (w1.heap[S]?=some (.cells #[Iq 0] 25 (0,0))/\w1.heap[S+1]?=some (.cells #[Iq 0] 3 (0,0))):=⟨(b1.block _ (by omega)).trans HE.1,(b1.block _ (by omega)).trans HE.2.1⟩;have RY:Hid (S<=w1.heap.size/\W0.heap.size=S+2):=⟨by have:=b1.size;omega,hSW⟩;clear b1 hSW RD;cases hp:b9 s with
 |error x=>rw[hp]at hr;subst hr;have II:=qH<|hp;have CT:=yr S (S+1) S 0 0 x E w1 ⟨ai _,by omega,by omega,RY.1⟩ HE1.1 HE1.2 (_z w1 HB1).1 (_z w1 HB1).2.1 (_z w1 HB1).2.2 (fun c p e=>sJ (by rw[II.out,e]));clear hp;refine leaves_cons (f:=25) (args:=#[Pq S,Pq (S+1)]) (by simp) (by simp[go_sem]) ?_;refine CT.mono ?_;rintro e u' w2 ⟨rfl,rfl,c0,c1,b2⟩;have HB2:=qH<|HB1.trans (by rw[HS.out];exact b2);clear b2 CT;simp[Leaves,settle,results,Tryz.results14,go_sem,c0,c1];refine⟨HB2,?_⟩;rw[II.out]
 |ok L=>
  rw[hp]at hr;obtain⟨nv,KV,rfl,hn⟩:=hr;have II:=qH<|hp;have HN:=qH<|hn;clear hn hp;have d0:w1.cell? (az S 0)=some (Iq 0):=by simp[World.cell?,HE1.1]
  have d1:w1.cell? (az (S+1) 0)=some (Iq 0):=by simp[World.cell?,HE1.2]
  have f0:w1.frozen? (az S 0)=false:=frozen_of_row _ _ _ _ _ HE1.1;have f1:w1.frozen? (az (S+1) 0)=false:=frozen_of_row _ _ _ _ _ HE1.2;have HQ:Hid (Bt w ((w1.setCell (az S 0) (Iq 0)).setCell (az (S+1) 0) (Iq 0))/\PN ((w1.setCell (az S 0) (Iq 0)).setCell (az (S+1) 0) (Iq 0)) w.heap.size nv L KV):=by
   have h1:w.heap.size<=S:=by rw[HS.out];exact ai _
   have h2:w.heap.size<=S+1:=by omega
   refine⟨(HB1.setCell h1 _).setCell h2 _,PN.base (HN.up ((Up.set w1 (by rw[RY.2];omega) _).trans (Up.set _ (by rw[RY.2];omega) _))) (by rw[RY.2];omega)⟩
  have k0:((w1.setCell (az S 0) (Iq 0)).setCell (az (S+1) 0) (Iq 0)).cell? (az S 0)=some (Iq 0):=by rw[dX _ _ _ _ (fun e=>by grind)];exact vu _ _ _ d0
  have k1:((w1.setCell (az S 0) (Iq 0)).setCell (az (S+1) 0) (Iq 0)).cell? (az (S+1) 0)=some (Iq 0):=by refine vu (u:=Iq 0) _ _ _ ?_;rw[dX _ _ _ _ (fun e=>by grind)];exact d1
  go_wp2;refine leaves_cons (f:=25) (args:=#[Pq S,Pq (S+1)]) (by simp) (by simp[go_sem]) ?_;refine(BZ S (S+1) _).mono ?_;rintro e u' w2 ⟨rfl,rfl,rfl⟩;simp[Leaves,settle,results,Tryz.results14,go_sem,k0,k1];refine⟨HQ.1,?_⟩;rw[II.out];exact⟨nv,KV,rfl,HQ.2⟩
