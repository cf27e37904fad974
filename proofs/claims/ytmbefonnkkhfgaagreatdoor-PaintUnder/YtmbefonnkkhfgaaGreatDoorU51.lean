import Derived.Test.YtmbefonnkkhfgaaGreatDoorCards
import Derived.Test.YtmbefonnkkhfgaaGreatDoorTie
import Derived.Test.YtmbefonnkkhfgaaGreatDoorU50
import Derived.Test.YtmbefonnkkhfgaaGreatDoorQ36
import Derived.Test.YtmbefonnkkhfgaaGreatDoorQ41
import Derived.WalkKit
import Derived.ShutString
import Derived.ProofKit
import Derived.OpenShut
import Derived.ChangeOld
import Derived.Below
import Derived.SizedLaws
import Derived.Lay
import Derived.Lib.LaidTab
import Derived.Deep.DeepHandedRow
namespace Go.Proofs.YtmbefonnkkhfgaaGreatDoor.paintUnder
open Go.ChangeShapes Go.WideShapes Go.ChangeAt Go.RowKit
open Go.ChangeMaps (open_string shut_string)
set_option linter.unusedVariables false
theorem own:ownKnob Tryz.prog.godebug=none:=by kernel_rfl
theorem laidOut:laidOutB Tryz.prog=true:=by kernel_rfl
set_option maxRecDepth 100000 in
theorem contract(H:Type)(enc:TypeId×Value->H)(W:World)(base:Nat)(args:Array Value)(ds gs:List (DataW H))(before:List MemPlace)
 (hval:∀(j:Nat) t v,Tryz.f4.params[j]?=some t->args[j]?=some v->Value.okWide Tryz.prog W .any base t v)
 (hW:DataW.Whole enc Tryz.prog Tryz.f4.params.toList Rows.paintUnderSpec.vars false W args.toList ds gs before)
 (hsz0:(DataW.weightsEach Tryz.prog (Tryz.f4.params.toList++(OpenSpec.ofChange Rows.paintUnderSpec).bare.plain.varTypes Tryz.prog) (ds++gs)).all (·≤reachBytes)=true) (hL:laidMetH Tryz.prog Rows.paintUnderRow.laid W):
 Calls Tryz.prog 4 args W fun e W'=>∃v,e=.returned v∧Rows.paintUnderSpec.post enc Tryz.prog Tryz.f4 false true false false W args v W':=by
 have hsz:=hsz0;have hW':=hW;obtain⟨p,q,hA0,hV,rfl,hfz,hnd⟩:=hW;have hA:DataW.TrodAll enc Tryz.prog W 0 (fun _=>true) true Tryz.f4.params.toList args.toList ds p:=hA0;rw[Tryz.params4]at hA hval hsz;obtain⟨v0,vs0,d0,ds0,p0,q0,hargs,rfl,rfl,h0,r0⟩:=trodAll_cons hA;obtain⟨v1,vs1,d1,ds1,p1,q1,rfl,rfl,rfl,h1,r1⟩:=trodAll_cons r0;obtain⟨v2,vs2,d2,ds2,p2,q2,rfl,rfl,rfl,h2,r2⟩:=trodAll_cons r1;obtain⟨rfl,rfl,rfl⟩:=trodAll_nil r2;obtain rfl:args=#[v0,v1,v2]:=by cases args;simp_all
 obtain⟨rfl,rfl⟩:=trodVars_none hV;obtain⟨s0,rfl,rfl,rfl,m0⟩:=open_string Tryz.underlying9 (hval 0 9 v0 rfl rfl) h0;obtain⟨x1,rfl,rfl,rfl,m1⟩:=open_int Tryz.underlying3 (hval 1 3 v1 rfl rfl) h1;obtain⟨x2,rfl,rfl,rfl,m2⟩:=open_int Tryz.underlying3 (hval 2 3 v2 rfl rfl) h2;clear hA0;simp only[List.append_nil]at hW';obtain⟨E,hG,hAp,hT⟩:=glo_of_laid (W:=W) hL;have hs0:s0.size≤140737488351232:=sized_string hsz (j:=0) (t:=9) rfl rfl;refine(punder_walk s0 x1 x2 E W hG hAp hT (btab_of hL) hs0).mono fun e W' ⟨he,bel⟩=>?_;subst he;exact⟨_,rfl,_,_,_,[],[],[],hW',trodAll_mk1 (shut_bool Tryz.underlying4 _),(trodAll_cons_mk (shut_string Tryz.underlying9 m0) (trodAll_cons_mk (shut_int Tryz.underlying3 m1) (trodAll_cons_mk (shut_int Tryz.underlying3 m2) trodAll_mk0))),rfl,bel.frame _,fun h=>by cases h⟩
/--For the witness: a world whose variables hold what their initialisers lay. -/
def handled:Obj->Obj
 |.cells _ t frozen=>.cells #[.iface 215 (.agg #[.pointer (some ⟨18,81,none⟩)])] t frozen
 |o=>o
def withHandle(w:World):World:={w with heap:=w.heap.modify 7 handled}
theorem laid_met(os:Os):laidMetH Tryz.prog Rows.paintUnderRow.laid (((withHandle (World.holding Tryz.prog os ⟨#[],#[],[]⟩)).layVars Tryz.prog (laids.filter fun x=>x.2.handleName?.isNone)).forCall (fun _ _=>0) ⟨#[],#[.string ⟨#[]⟩,.int .i64 0,.int .i64 0],[]⟩).memory:=by
 refine laidMetH_of_parts ?_ (by kernel_rfl);have hd:laidMet Tryz.prog (laids.filter fun x=>x.2.handleName?.isNone) ((withHandle (World.holding Tryz.prog os ⟨#[],#[],[]⟩)).layVars Tryz.prog (laids.filter fun x=>x.2.handleName?.isNone)):=by
  have e1:((laids.filter fun x=>x.2.handleName?.isNone).filter fun x=>((laids.filter fun x=>x.2.handleName?.isNone).map (·.1)).contains x.1)=laids.filter fun x=>x.2.handleName?.isNone:=List.filter_eq_self.2 fun x hx=>List.contains_iff_mem.2 (List.mem_map.2 ⟨x,hx,rfl⟩);have e2:((laids.filter fun x=>x.2.handleName?.isNone).filter fun x=>!((laids.filter fun x=>x.2.handleName?.isNone).map (·.1)).contains x.1)=[]:=List.filter_eq_nil_iff.2 fun x hx=>by rw[List.contains_iff_mem.2 (List.mem_map.2 ⟨x,hx,rfl⟩)];simp
  exact laidMet_layVars (w0:=withHandle (World.holding Tryz.prog os ⟨#[],#[],[]⟩)) ((laids.filter fun x=>x.2.handleName?.isNone).map (·.1)) [] (by rw[e1]) (by rw[e1];kernel_rfl) (by rw[e1];kernel_rfl) (by rw[e2];exact LaidIn.none)
 exact hd.of_heap (by simp[World.memory,World.forCall,Input.heap])
theorem reads(os:Os){H:Type}(enc:TypeId×Value->H):∃places,DataW.whole enc Tryz.prog (((withHandle (World.holding Tryz.prog os ⟨#[],#[],[]⟩)).layVars Tryz.prog (laids.filter fun x=>x.2.handleName?.isNone)).forCall (fun _ _=>0) ⟨#[],#[.string ⟨#[]⟩,.int .i64 0,.int .i64 0],[]⟩).memory Tryz.f4.params.toList Rows.paintUnderSpec.vars false #[Value.string ⟨#[]⟩,Value.int .i64 0,Value.int .i64 0].toList 8=some ([.lit (.string []),.lit (.int .i64 0),.lit (.int .i64 0)],[],places):=
 ⟨[],by kernel_rfl⟩
set_option maxRecDepth 100000 in
theorem lifted(os:Os)(started:os.Started)(H:Type)(enc:TypeId×Value->H)(F:Stop.Interp):
 ReturnsInHanded {} Tryz.checked os 4 .any ((OpenSpec.ofChange Rows.paintUnderSpec).preRow enc Tryz.prog Tryz.f4 Rows.paintUnderRow.domain false Rows.paintUnderRow.laid) (((OpenSpec.ofChange Rows.paintUnderSpec).at F).post enc Tryz.prog Tryz.f4 false true false false):=by
 obtain⟨places,hx⟩:=reads os enc;refine returnsInHanded_of_row (C:=Tryz.checked) (s:=OpenSpec.ofChange Rows.paintUnderSpec) own started (by kernel_rfl) Tryz.func4
  (witness_row_at (enc:=enc) (C:=Tryz.checked) false ((withHandle (World.holding Tryz.prog os ⟨#[],#[],[]⟩)).layVars Tryz.prog (laids.filter fun x=>x.2.handleName?.isNone)) #[.string ⟨#[]⟩,.int .i64 0,.int .i64 0] (World.layVars_os _ _ _) (by kernel_rfl) (by kernel_rfl) (by kernel_rfl)
   (OpenSpec.preRow_of_cond 8 hx (by kernel_rfl) (fun k hk=>by cases hk) (by kernel_rfl) (laid_met os))) ?_;intro W base args ds gs before hval hW _ _ hsz hL _ _;exact contract H enc W base args ds gs before hval hW hsz hL
end Go.Proofs.YtmbefonnkkhfgaaGreatDoor.paintUnder
