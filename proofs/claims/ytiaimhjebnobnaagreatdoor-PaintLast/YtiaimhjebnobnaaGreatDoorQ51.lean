import Derived.Test.YtiaimhjebnobnaaGreatDoorCards
import Derived.Test.YtiaimhjebnobnaaGreatDoorTie
import Derived.Test.YtiaimhjebnobnaaGreatDoorQ50
import Derived.Test.YtiaimhjebnobnaaGreatDoorQ38
import Derived.Lay
import Derived.Deep.DeepHandedRow
namespace Go.Proofs.YtiaimhjebnobnaaGreatDoor.paintLast
open Go.ChangeShapes Go.WideShapes Go.ChangeAt Go.RowKit
open Go.ChangeMaps (open_string shut_string)
set_option linter.all false
theorem own:ownKnob Tryz.prog.godebug=none:=by kernel_rfl
theorem UX:laidOutB Tryz.prog=true:=by kernel_rfl
set_option maxRecDepth 100000 in
theorem Oh(H:Type)(enc:TypeId×Value->H)(W:World)(base:Nat)(args:Array Value)(ds gs:List (DataW H))(zN:List MemPlace)
 (tH:∀(j:Nat) t v,Tryz.f3.params[j]?=some t->args[j]?=some v->Value.okWide Tryz.prog W .any base t v)
 (hW:DataW.Whole enc Tryz.prog Tryz.f3.params.toList Rows.paintLastSpec.vars false W args.toList ds gs zN)
 (ziR:(DataW.weightsEach Tryz.prog (Tryz.f3.params.toList++(OpenSpec.ofChange Rows.paintLastSpec).bare.plain.varTypes Tryz.prog) (ds++gs)).all (·<=reachBytes)=true) (hL:laidMetH Tryz.prog Rows.paintLastRow.laid W):
 Calls Tryz.prog 3 args W fun e W'=>∃v,e=Rw v/\Rows.paintLastSpec.post enc Tryz.prog Tryz.f3 false true false false W args v W':=by
 have f_:=ziR;have hW':=hW;obtain⟨p,q,_X,hV,rfl,Y4,jc⟩:=hW;have hA:DataW.TrodAll enc Tryz.prog W 0 (fun _=>true) true Tryz.f3.params.toList args.toList ds p:=_X;rw[Tryz.params3]at hA tH f_;obtain⟨v0,vs0,d0,ds0,p0,q0,zll,rfl,rfl,h0,r0⟩:=trodAll_cons hA;obtain⟨v1,vs1,d1,ds1,p1,q1,rfl,rfl,rfl,h1,r1⟩:=trodAll_cons r0;obtain⟨v2,vs2,d2,ds2,p2,q2,rfl,rfl,rfl,h2,r2⟩:=trodAll_cons r1;obtain⟨v3,vs3,d3,ds3,p3,q3,rfl,rfl,rfl,h3,r3⟩:=trodAll_cons r2;obtain⟨rfl,rfl,rfl⟩:=trodAll_nil r3;obtain rfl:args=#[v0,v1,v2,v3]:=by cases args;simp_all
 obtain⟨rfl,rfl⟩:=trodVars_none hV;obtain⟨s0,rfl,rfl,rfl,m0⟩:=open_string Tryz.underlying9 (tH 0 9 v0 rfl rfl) h0;obtain⟨x1,rfl,rfl,rfl,m1⟩:=open_int Tryz.underlying3 (tH 1 3 v1 rfl rfl) h1;obtain⟨x2,rfl,rfl,rfl,m2⟩:=open_int Tryz.underlying3 (tH 2 3 v2 rfl rfl) h2;obtain⟨a3,len,cap,rfl⟩:=okWide_slice Tryz.underlying22 (tH 3 22 v3 rfl rfl);have k3:=h3;have lt3:∀x∈p3,x.block<W.heap.size:=by obtain⟨m,hm⟩:=k3;exact DataW.trod_lt m _ _ _ hm
 obtain⟨E,hG,hAp,hT⟩:=C8 (W:=W) hL;have main:Calls Tryz.prog 3 #[.string s0,.int .i64 x1,.int .i64 x2,.slice a3 len cap] W fun e w'=>e=Rw (.bool true)/\Bt W w':=by
  obtain⟨fuel,hf⟩:=h3;have hf':DataW.trod enc Tryz.prog W 0 (fun _=>true) true fuel 22 [.slice a3 len cap]=some (d3,p3):=by simpa[Value.cells]using hf
  obtain⟨a,b,hsc,hd⟩:=LJ hf';refine He s0 x1 x2 a3 len cap a b E W hG hAp hT (TE hL) hsc ?_;rcases hd with⟨_,rfl⟩|⟨e,s,hd,O2⟩;·omega
  ·have hd':d3=.slice e s:=hd;rw[hd']at f_;have:=sized_slice f_ (j:=3) (t:=22) (e:=69) rfl rfl Tryz.underlying22;rw[N9]at this;simp only[reachBytes]at this;omega
 clear _X;simp only[lZ]at hW';refine main.mono fun e W' ⟨he,bel⟩=>?_;subst he;exact⟨_,rfl,_,_,_,[],_,[],hW',trodAll_mk1 (shut_bool Tryz.underlying4 _),(trodAll_cons_mk (shut_string Tryz.underlying9 m0) (trodAll_cons_mk (shut_int Tryz.underlying3 m1) (trodAll_cons_mk (shut_int Tryz.underlying3 m2) (trodAll_cons_mk (Below.trod UX (by kernel_rfl) (of_decide_eq_true (by kernel_rfl)) k3 bel lt3) trodAll_mk0)))),rfl,bel.frame _,fun h=>by cases h⟩
/--For the zfn: a zms zdJ variables hold what their UP sH. -/
def Ub:Obj->Obj
 |.cells _ t frozen=>.cells #[.iface 254 (.agg #[.pointer (some (az 18 92))])] t frozen
 |o=>o
def jU(w:World):World:={w with heap:=w.heap.modify 6 Ub}
theorem PY(os:Os):laidMetH Tryz.prog Rows.paintLastRow.laid (((jU (World.holding Tryz.prog os ⟨#[],#[],[]⟩)).layVars Tryz.prog (gS.filter fun x=>x.2.handleName?.isNone)).forCall (fun _ _=>0) ⟨#[],#[.string ⟨#[]⟩,.int .i64 0,.int .i64 0,.slice none 0 0],[]⟩).memory:=by
 refine laidMetH_of_parts ?_ (by kernel_rfl);have hd:laidMet Tryz.prog (gS.filter fun x=>x.2.handleName?.isNone) ((jU (World.holding Tryz.prog os ⟨#[],#[],[]⟩)).layVars Tryz.prog (gS.filter fun x=>x.2.handleName?.isNone)):=by
  have e1:((gS.filter fun x=>x.2.handleName?.isNone).filter fun x=>((gS.filter fun x=>x.2.handleName?.isNone).map (·.1)).contains x.1)=gS.filter fun x=>x.2.handleName?.isNone:=List.filter_eq_self.2 fun x hx=>List.contains_iff_mem.2 (l_.2 ⟨x,hx,rfl⟩);have e2:((gS.filter fun x=>x.2.handleName?.isNone).filter fun x=>!((gS.filter fun x=>x.2.handleName?.isNone).map (·.1)).contains x.1)=[]:=List.filter_eq_nil_iff.2 fun x hx=>by rw[List.contains_iff_mem.2 (l_.2 ⟨x,hx,rfl⟩)];simp
  exact laidMet_layVars (w0:=jU (World.holding Tryz.prog os ⟨#[],#[],[]⟩)) ((gS.filter fun x=>x.2.handleName?.isNone).map (·.1)) [] (by rw[e1]) (by rw[e1];kernel_rfl) (by rw[e1];kernel_rfl) (by rw[e2];exact LaidIn.none)
 exact hd.of_heap (by simp[World.memory,World.forCall,Input.heap])
theorem reads(os:Os){H:Type}(enc:TypeId×Value->H):∃places,DataW.whole enc Tryz.prog (((jU (World.holding Tryz.prog os ⟨#[],#[],[]⟩)).layVars Tryz.prog (gS.filter fun x=>x.2.handleName?.isNone)).forCall (fun _ _=>0) ⟨#[],#[.string ⟨#[]⟩,.int .i64 0,.int .i64 0,.slice none 0 0],[]⟩).memory Tryz.f3.params.toList Rows.paintLastSpec.vars false #[Value.string ⟨#[]⟩,Value.int .i64 0,Value.int .i64 0,Value.slice none 0 0].toList 8=some ([.lit (.string []),.lit (.int .i64 0),.lit (.int .i64 0),.nil],[],places):=
 ⟨[],by kernel_rfl⟩
set_option maxRecDepth 100000 in
theorem lifted(os:Os)(Bb:os.Started)(H:Type)(enc:TypeId×Value->H)(F:Stop.Interp):
 ReturnsInHanded {} Tryz.checked os 3 .any ((OpenSpec.ofChange Rows.paintLastSpec).preRow enc Tryz.prog Tryz.f3 Rows.paintLastRow.domain false Rows.paintLastRow.laid) (((OpenSpec.ofChange Rows.paintLastSpec).at F).post enc Tryz.prog Tryz.f3 false true false false):=by
 obtain⟨places,hx⟩:=reads os enc;refine returnsInHanded_of_row (C:=Tryz.checked) (s:=OpenSpec.ofChange Rows.paintLastSpec) own Bb (by kernel_rfl) Tryz.func3
  (witness_row_at (enc:=enc) (C:=Tryz.checked) false ((jU (World.holding Tryz.prog os ⟨#[],#[],[]⟩)).layVars Tryz.prog (gS.filter fun x=>x.2.handleName?.isNone)) #[.string ⟨#[]⟩,.int .i64 0,.int .i64 0,.slice none 0 0] (World.layVars_os _ _ _) (by kernel_rfl) (by kernel_rfl) (by kernel_rfl)
   (OpenSpec.preRow_of_cond 8 hx (by kernel_rfl) (fun k hk=>by cases hk) (by kernel_rfl) (PY os))) ?_;intro W base args ds gs zN tH hW _ _ f_ hL _ _;exact Oh H enc W base args ds gs zN tH hW f_ hL
end Go.Proofs.YtiaimhjebnobnaaGreatDoor.paintLast
