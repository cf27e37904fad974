import Derived.Test.YtbeiapdobffpiaaGreatDoorCards
import Derived.Test.YtbeiapdobffpiaaGreatDoorTie
import Derived.Test.YtbeiapdobffpiaaGreatDoorQ50
import Derived.Test.YtbeiapdobffpiaaGreatDoorQ35
import Derived.Lay
import Derived.Deep.DeepHandedRow
namespace Go.Proofs.YtbeiapdobffpiaaGreatDoor.paneScrolled
open Go.ChangeShapes Go.WideShapes Go.ChangeAt Go.RowKit
open Go.ChangeMaps (open_string shut_string)
set_option linter.all false
theorem own:ownKnob Tryz.prog.godebug=none:=by kernel_rfl
set_option maxRecDepth 100000 in
theorem JC(H:Type)(enc:TypeId×Value->H)(W:World)(base:Nat)(args:Array Value)(ds gs:List (DataW H))(BW:List MemPlace)
 (ny:∀(j:Nat) t v,Tryz.f3.params[j]?=some t->args[j]?=some v->Value.okWide Tryz.prog W .any base t v)
 (hW:DataW.Whole enc Tryz.prog Tryz.f3.params.toList Rows.paneScrolledSpec.vars false W args.toList ds gs BW)
 (hL:laidMetH Tryz.prog Rows.paneScrolledRow.laid W):
 Calls Tryz.prog 3 args W fun e W'=>∃v,e=Rw v/\Rows.paneScrolledSpec.post enc Tryz.prog Tryz.f3 false true false false W args v W':=by
 have Zw:=hW;obtain⟨p,q,UN,hV,rfl,Xq,gS⟩:=hW;have hA:DataW.TrodAll enc Tryz.prog W 0 (fun _=>true) true Tryz.f3.params.toList args.toList ds p:=UN;rw[Tryz.params3]at hA ny;obtain⟨v0,vs0,d0,ds0,p0,q0,ze7,rfl,rfl,h0,r0⟩:=trodAll_cons hA;obtain⟨v1,vs1,d1,ds1,p1,q1,rfl,rfl,rfl,h1,r1⟩:=trodAll_cons r0;obtain⟨v2,vs2,d2,ds2,p2,q2,rfl,rfl,rfl,h2,r2⟩:=trodAll_cons r1;obtain⟨v3,vs3,d3,ds3,p3,q3,rfl,rfl,rfl,h3,r3⟩:=trodAll_cons r2;obtain⟨v4,vs4,d4,ds4,p4,q4,rfl,rfl,rfl,h4,r4⟩:=trodAll_cons r3;obtain⟨v5,vs5,d5,ds5,p5,q5,rfl,rfl,rfl,h5,r5⟩:=trodAll_cons r4;obtain⟨rfl,rfl,rfl⟩:=trodAll_nil r5;obtain rfl:args=#[v0,v1,v2,v3,v4,v5]:=by cases args;simp_all
 obtain⟨rfl,rfl⟩:=trodVars_none hV;obtain⟨x0,rfl,rfl,rfl,m0⟩:=open_int Tryz.underlying3 (ny 0 3 v0 rfl rfl) h0;obtain⟨x1,rfl,rfl,rfl,m1⟩:=open_int Tryz.underlying3 (ny 1 3 v1 rfl rfl) h1;obtain⟨s2,rfl,rfl,rfl,m2⟩:=open_string Tryz.underlying9 (ny 2 9 v2 rfl rfl) h2;obtain⟨x3,rfl,rfl,rfl,m3⟩:=open_int Tryz.underlying3 (ny 3 3 v3 rfl rfl) h3;obtain⟨x4,rfl,rfl,rfl,m4⟩:=open_int Tryz.underlying3 (ny 4 3 v4 rfl rfl) h4;obtain⟨x5,rfl,rfl,rfl,m5⟩:=open_int Tryz.underlying3 (ny 5 3 v5 rfl rfl) h5;clear UN;simp only[j_]at Zw;obtain⟨E,hG,hAp,hT⟩:=yJ (W:=W) hL;refine(sK x0 x1 s2 x3 x4 x5 (DU m3) E W hG hAp hT (NY hL)).mono fun e W' ⟨he,bel⟩=>?_;subst he;exact⟨_,rfl,_,_,_,[],[],[],Zw,trodAll_mk1 (shut_bool Tryz.underlying4 _),(trodAll_cons_mk (shut_int Tryz.underlying3 m0) (trodAll_cons_mk (shut_int Tryz.underlying3 m1) (trodAll_cons_mk (shut_string Tryz.underlying9 m2) (trodAll_cons_mk (shut_int Tryz.underlying3 m3) (trodAll_cons_mk (shut_int Tryz.underlying3 m4) (trodAll_cons_mk (shut_int Tryz.underlying3 m5) trodAll_mk0)))))),rfl,bel.frame _,fun h=>by cases h⟩
/--For the _h: a zge zgd variables hold what their O3 qJ. -/
def Oo:Obj->Obj
 |.cells _ t frozen=>.cells #[.iface 206 (.agg #[.pointer (some (az 18 92))])] t frozen
 |o=>o
def iQ(w:World):World:={w with heap:=w.heap.modify 6 Oo}
theorem KL(os:Os):laidMetH Tryz.prog Rows.paneScrolledRow.laid (((iQ (World.holding Tryz.prog os ⟨#[],#[],[]⟩)).layVars Tryz.prog (fN.filter fun x=>x.2.handleName?.isNone)).forCall (fun _ _=>0) ⟨#[],#[.int .i64 0,.int .i64 0,.string ⟨#[]⟩,.int .i64 0,.int .i64 0,.int .i64 0],[]⟩).memory:=by
 refine laidMetH_of_parts ?_ (by kernel_rfl);have hd:laidMet Tryz.prog (fN.filter fun x=>x.2.handleName?.isNone) ((iQ (World.holding Tryz.prog os ⟨#[],#[],[]⟩)).layVars Tryz.prog (fN.filter fun x=>x.2.handleName?.isNone)):=by
  have e1:((fN.filter fun x=>x.2.handleName?.isNone).filter fun x=>((fN.filter fun x=>x.2.handleName?.isNone).map (·.1)).contains x.1)=fN.filter fun x=>x.2.handleName?.isNone:=List.filter_eq_self.2 fun x hx=>List.contains_iff_mem.2 (Bi.2 ⟨x,hx,rfl⟩);have e2:((fN.filter fun x=>x.2.handleName?.isNone).filter fun x=>!((fN.filter fun x=>x.2.handleName?.isNone).map (·.1)).contains x.1)=[]:=List.filter_eq_nil_iff.2 fun x hx=>by rw[List.contains_iff_mem.2 (Bi.2 ⟨x,hx,rfl⟩)];simp
  exact laidMet_layVars (w0:=iQ (World.holding Tryz.prog os ⟨#[],#[],[]⟩)) ((fN.filter fun x=>x.2.handleName?.isNone).map (·.1)) [] (by rw[e1]) (by rw[e1];kernel_rfl) (by rw[e1];kernel_rfl) (by rw[e2];exact LaidIn.none)
 exact hd.of_heap (by simp[World.memory,World.forCall,Input.heap])
theorem reads(os:Os){H:Type}(enc:TypeId×Value->H):∃places,DataW.whole enc Tryz.prog (((iQ (World.holding Tryz.prog os ⟨#[],#[],[]⟩)).layVars Tryz.prog (fN.filter fun x=>x.2.handleName?.isNone)).forCall (fun _ _=>0) ⟨#[],#[.int .i64 0,.int .i64 0,.string ⟨#[]⟩,.int .i64 0,.int .i64 0,.int .i64 0],[]⟩).memory Tryz.f3.params.toList Rows.paneScrolledSpec.vars false #[Value.int .i64 0,Value.int .i64 0,Value.string ⟨#[]⟩,Value.int .i64 0,Value.int .i64 0,Value.int .i64 0].toList 8=some ([.lit (.int .i64 0),.lit (.int .i64 0),.lit (.string []),.lit (.int .i64 0),.lit (.int .i64 0),.lit (.int .i64 0)],[],places):=
 ⟨[],by kernel_rfl⟩
set_option maxRecDepth 100000 in
theorem lifted(os:Os)(xy:os.Started)(H:Type)(enc:TypeId×Value->H)(F:Stop.Interp):
 ReturnsInHanded {} Tryz.checked os 3 .any ((OpenSpec.ofChange Rows.paneScrolledSpec).preRow enc Tryz.prog Tryz.f3 Rows.paneScrolledRow.domain false Rows.paneScrolledRow.laid) (((OpenSpec.ofChange Rows.paneScrolledSpec).at F).post enc Tryz.prog Tryz.f3 false true false false):=by
 obtain⟨places,hx⟩:=reads os enc;refine returnsInHanded_of_row (C:=Tryz.checked) (s:=OpenSpec.ofChange Rows.paneScrolledSpec) own xy (by kernel_rfl) Tryz.func3
  (witness_row_at (enc:=enc) (C:=Tryz.checked) false ((iQ (World.holding Tryz.prog os ⟨#[],#[],[]⟩)).layVars Tryz.prog (fN.filter fun x=>x.2.handleName?.isNone)) #[.int .i64 0,.int .i64 0,.string ⟨#[]⟩,.int .i64 0,.int .i64 0,.int .i64 0] (World.layVars_os _ _ _) (by kernel_rfl) (by kernel_rfl) (by kernel_rfl)
   (OpenSpec.preRow_of_cond 8 hx (by kernel_rfl) (fun k hk=>by cases hk) (by kernel_rfl) (KL os))) ?_;intro W base args ds gs BW ny hW _ _ fT hL _ _;exact JC H enc W base args ds gs BW ny hW hL
end Go.Proofs.YtbeiapdobffpiaaGreatDoor.paneScrolled
