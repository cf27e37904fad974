import Derived.Test.YtadhgppeafpdgaaGreatDoorCards
import Derived.Test.YtadhgppeafpdgaaGreatDoorTie
import Derived.Test.YtadhgppeafpdgaaGreatDoorQ47
import Derived.Test.YtadhgppeafpdgaaGreatDoorQ48
import Derived.Lay
import Derived.Deep.DeepHandedRow
namespace Go.Proofs.YtadhgppeafpdgaaGreatDoor.paneOwn
open Go.ChangeShapes Go.WideShapes Go.ChangeAt Go.RowKit
open Go.ChangeMaps (open_string shut_string)
set_option linter.all false
theorem own:ownKnob Tryz.prog.godebug=none:=by kernel_rfl
theorem T9:laidOutB Tryz.prog=true:=by kernel_rfl
set_option maxRecDepth 100000 in
theorem NN(H:Type)(enc:TypeId×Value->H)(W:World)(base:Nat)(args:Array Value)(ds gs:List (DataW H))(yS:List MemPlace)
 (KH:∀(j:Nat) t v,Tryz.f3.params[j]?=some t->args[j]?=some v->Value.okWide Tryz.prog W .any base t v)
 (hW:DataW.Whole enc Tryz.prog Tryz.f3.params.toList Rows.paneOwnSpec.vars false W args.toList ds gs yS)
 (zhC:(DataW.weightsEach Tryz.prog (Tryz.f3.params.toList++(OpenSpec.ofChange Rows.paneOwnSpec).bare.plain.varTypes Tryz.prog) (ds++gs)).all (·<=reachBytes)=true) (hL:laidMetH Tryz.prog Rows.paneOwnRow.laid W):
 Calls Tryz.prog 3 args W fun e W'=>∃v,e=Rw v/\Rows.paneOwnSpec.post enc Tryz.prog Tryz.f3 false true false false W args v W':=by
 have eV:=zhC;have hW':=hW;obtain⟨p,q,Z3,hV,rfl,Wp,gC⟩:=hW;have hA:DataW.TrodAll enc Tryz.prog W 0 (fun _=>true) true Tryz.f3.params.toList args.toList ds p:=Z3;rw[Tryz.params3]at hA KH eV;obtain⟨v0,vs0,d0,ds0,p0,q0,zj4,rfl,rfl,h0,r0⟩:=trodAll_cons hA;obtain⟨v1,vs1,d1,ds1,p1,q1,rfl,rfl,rfl,h1,r1⟩:=trodAll_cons r0;obtain⟨v2,vs2,d2,ds2,p2,q2,rfl,rfl,rfl,h2,r2⟩:=trodAll_cons r1;obtain⟨rfl,rfl,rfl⟩:=trodAll_nil r2;obtain rfl:args=#[v0,v1,v2]:=by cases args;simp_all
 obtain⟨rfl,rfl⟩:=trodVars_none hV;obtain⟨x0,rfl,rfl,rfl,m0⟩:=open_int Tryz.underlying3 (KH 0 3 v0 rfl rfl) h0;obtain⟨x1,rfl,rfl,rfl,m1⟩:=open_int Tryz.underlying3 (KH 1 3 v1 rfl rfl) h1;obtain⟨a2,len,cap,rfl⟩:=okWide_slice Tryz.underlying22 (KH 2 22 v2 rfl rfl);have k2:=h2;have lt2:∀x∈p2,x.block<W.heap.size:=by obtain⟨m,hm⟩:=k2;exact DataW.trod_lt m _ _ _ hm
 clear Z3;simp only[ik]at hW';have main:Calls Tryz.prog 3 #[.int .i64 x0,.int .i64 x1,.slice a2 len cap] W fun e w'=>e=Rw (.bool true)/\Bt W w':=by
  obtain⟨E,g⟩:=P5 hL;obtain⟨fuel,hf⟩:=h2;have hf':DataW.trod enc Tryz.prog W 0 (fun _=>true) true fuel 22 [.slice a2 len cap]=some (d2,p2):=by simpa[Value.cells]using hf
  obtain⟨op,hop,how,hd⟩:=PP hf';refine Lc x0 x1 a2 len cap op E W hop how ?_ g;rcases hd with⟨_,rfl⟩|⟨e,s,hd,Z'⟩;·omega
  ·have hd':d2=.slice e s:=hd;rw[hd']at eV;have:=sized_slice eV (j:=2) (t:=22) (e:=36) rfl rfl Tryz.underlying22;rw[XG]at this;simp only[reachBytes]at this;omega
 refine main.mono fun e W' ⟨he,bel⟩=>?_;subst he;exact⟨_,rfl,_,_,_,[],_,[],hW',trodAll_mk1 (shut_bool Tryz.underlying4 _),(trodAll_cons_mk (shut_int Tryz.underlying3 m0) (trodAll_cons_mk (shut_int Tryz.underlying3 m1) (trodAll_cons_mk (Below.trod T9 (by kernel_rfl) (of_decide_eq_true (by kernel_rfl)) k2 bel lt2) trodAll_mk0))),rfl,bel.frame _,fun h=>by cases h⟩
/--For the zee: a zk8 zk7 variables hold what their TY kW. -/
def Tl:Obj->Obj
 |.cells _ t frozen=>.cells #[.iface 239 (.agg #[.pointer (some (aq 18 87))])] t frozen
 |o=>o
def i_(w:World):World:={w with heap:=w.heap.modify 8 Tl}
theorem Pn(os:Os):laidMetH Tryz.prog Rows.paneOwnRow.laid (((i_ (World.holding Tryz.prog os ⟨#[],#[],[]⟩)).layVars Tryz.prog (dK.filter fun x=>x.2.handleName?.isNone)).forCall (fun _ _=>0) ⟨#[],#[.int .i64 0,.int .i64 0,.slice none 0 0],[]⟩).memory:=by
 refine laidMetH_of_parts ?_ (by kernel_rfl);have hd:laidMet Tryz.prog (dK.filter fun x=>x.2.handleName?.isNone) ((i_ (World.holding Tryz.prog os ⟨#[],#[],[]⟩)).layVars Tryz.prog (dK.filter fun x=>x.2.handleName?.isNone)):=by
  have e1:((dK.filter fun x=>x.2.handleName?.isNone).filter fun x=>((dK.filter fun x=>x.2.handleName?.isNone).map (·.1)).contains x.1)=dK.filter fun x=>x.2.handleName?.isNone:=List.filter_eq_self.2 fun x hx=>List.contains_iff_mem.2 (lZ.2 ⟨x,hx,rfl⟩);have e2:((dK.filter fun x=>x.2.handleName?.isNone).filter fun x=>!((dK.filter fun x=>x.2.handleName?.isNone).map (·.1)).contains x.1)=[]:=List.filter_eq_nil_iff.2 fun x hx=>by rw[List.contains_iff_mem.2 (lZ.2 ⟨x,hx,rfl⟩)];simp
  exact laidMet_layVars (w0:=i_ (World.holding Tryz.prog os ⟨#[],#[],[]⟩)) ((dK.filter fun x=>x.2.handleName?.isNone).map (·.1)) [] (by rw[e1]) (by rw[e1];kernel_rfl) (by rw[e1];kernel_rfl) (by rw[e2];exact LaidIn.none)
 exact hd.of_heap (by simp[World.memory,World.forCall,Input.heap])
theorem reads(os:Os){H:Type}(enc:TypeId×Value->H):∃places,DataW.whole enc Tryz.prog (((i_ (World.holding Tryz.prog os ⟨#[],#[],[]⟩)).layVars Tryz.prog (dK.filter fun x=>x.2.handleName?.isNone)).forCall (fun _ _=>0) ⟨#[],#[.int .i64 0,.int .i64 0,.slice none 0 0],[]⟩).memory Tryz.f3.params.toList Rows.paneOwnSpec.vars false #[Value.int .i64 0,Value.int .i64 0,Value.slice none 0 0].toList 8=some ([.lit (.int .i64 0),.lit (.int .i64 0),.nil],[],places):=
 ⟨[],by kernel_rfl⟩
set_option maxRecDepth 100000 in
theorem lifted(os:Os)(z_:os.Started)(H:Type)(enc:TypeId×Value->H)(F:Stop.Interp):
 ReturnsInHanded {} Tryz.checked os 3 .any ((OpenSpec.ofChange Rows.paneOwnSpec).preRow enc Tryz.prog Tryz.f3 Rows.paneOwnRow.domain false Rows.paneOwnRow.laid) (((OpenSpec.ofChange Rows.paneOwnSpec).at F).post enc Tryz.prog Tryz.f3 false true false false):=by
 obtain⟨places,hx⟩:=reads os enc;refine returnsInHanded_of_row (C:=Tryz.checked) (s:=OpenSpec.ofChange Rows.paneOwnSpec) own z_ (by kernel_rfl) Tryz.func3
  (witness_row_at (enc:=enc) (C:=Tryz.checked) false ((i_ (World.holding Tryz.prog os ⟨#[],#[],[]⟩)).layVars Tryz.prog (dK.filter fun x=>x.2.handleName?.isNone)) #[.int .i64 0,.int .i64 0,.slice none 0 0] (World.layVars_os _ _ _) (by kernel_rfl) (by kernel_rfl) (by kernel_rfl)
   (OpenSpec.preRow_of_cond 8 hx (by kernel_rfl) (fun k hk=>by cases hk) (by kernel_rfl) (Pn os))) ?_;intro W base args ds gs yS KH hW _ _ eV hL _ _;exact NN H enc W base args ds gs yS KH hW eV hL
end Go.Proofs.YtadhgppeafpdgaaGreatDoor.paneOwn
