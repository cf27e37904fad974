import Derived.Test.YtaanagpadfcmlaaGreatDoorCards
import Derived.Test.YtaanagpadfcmlaaGreatDoorTie
import Derived.Test.YtaanagpadfcmlaaGreatDoorQ52
import Derived.Test.YtaanagpadfcmlaaGreatDoorQ39
import Derived.Lay
import Derived.Deep.DeepHandedRow
namespace Go.Proofs.YtaanagpadfcmlaaGreatDoor.paintFrames
open Go.ChangeShapes Go.WideShapes Go.ChangeAt Go.RowKit
open Go.ChangeMaps (open_string shut_string)
set_option linter.all false
theorem own:ownKnob Tryz.prog.godebug=none:=ns
theorem LP:laidOutB Tryz.prog=true:=ns
set_option maxRecDepth 100000 in
theorem Hp(H:Type)(enc:TypeId×Value->H)(W:World)(l:Nat)(args:Array Value)(ds L:List (DataW H))(f:List MemPlace)(c:∀(j:Nat) t v,Tryz.f3.params[j]?=some t->args[j]?=some v->Value.okWide Tryz.prog W .any l t v)(P:DataW.Whole enc Tryz.prog Tryz.f3.params.toList Rows.paintFramesSpec.vars false W args.toList ds L f)(w:(DataW.weightsEach Tryz.prog (Tryz.f3.params.toList++(OpenSpec.ofChange Rows.paintFramesSpec).bare.plain.varTypes Tryz.prog) (ds++L)).all (·<=reachBytes)=true)(O:laidMetH Tryz.prog Rows.paintFramesRow.laid W):
 Calls Tryz.prog 3 args W λe K=>∃v,e=Rw v/\Rows.paintFramesSpec.post enc Tryz.prog Tryz.f3 false true false false W args v K:=by
 have i:=w;have u:=P;obtain⟨p,q,r,hV,rfl,zg,zh⟩:=P;have N:DataW.TrodAll enc Tryz.prog W 0 (λ_=>true) true Tryz.f3.params.toList args.toList ds p:=r;rw[Tryz.params3]at N c i;obtain⟨T,zi,d0,Z,p0,q0,B,rfl,rfl,h0,r0⟩:=trodAll_cons N;obtain⟨v1,zj,d1,za,p1,q1,rfl,rfl,rfl,h1,r1⟩:=trodAll_cons r0;obtain⟨v2,zk,d2,zb,p2,q2,rfl,rfl,rfl,h2,r2⟩:=trodAll_cons r1;obtain⟨U,zl,d3,zc,R,q3,rfl,rfl,rfl,M,r3⟩:=trodAll_cons r2;obtain⟨rfl,rfl,rfl⟩:=trodAll_nil r3;obtain rfl:args=#[T,v1,v2,U]:=by cases args;simp_all
 obtain⟨rfl,rfl⟩:=trodVars_none hV;obtain⟨S,rfl,rfl,rfl,m0⟩:=open_string Tryz.underlying9 (c 0 9 T rfl rfl) h0;obtain⟨V,rfl,rfl,rfl,m1⟩:=open_int Tryz.underlying3 (c 1 3 v1 rfl rfl) h1;obtain⟨X,rfl,rfl,rfl,m2⟩:=open_int Tryz.underlying3 (c 2 3 v2 rfl rfl) h2;obtain⟨z,k,g,rfl⟩:=okWide_slice Tryz.underlying22 (c 3 22 U rfl rfl);have Q:=M;have G:∀x∈R,x.block<W.heap.size:=by obtain⟨m,hm⟩:=Q;exact DataW.trod_lt m _ _ _ hm
 obtain⟨E,hG,A,hT⟩:=xi (W:=W) O;have main:Calls Tryz.prog 3 #[.string S,.int .i64 V,.int .i64 X,.slice z k g] W λe w'=>e=Rw (.bool true)/\Bt W w':=by
  obtain⟨o,hf⟩:=M;have D:DataW.trod enc Tryz.prog W 0 (λ_=>true) true o 22 [.slice z k g]=some (d3,R):=by simpa[Value.cells]using hf
  obtain⟨a,b,F,hd⟩:=FD D;refine vw S V X z k g a b E W hG A hT (La O) F ?_;rcases hd with⟨_,rfl⟩|⟨e,s,hd,ze⟩;·omega
  ·have C:d3=.slice e s:=hd;rw[C]at i;have:=sized_slice i (j:=3) (t:=22) (e:=34) rfl rfl Tryz.underlying22;rw[Hc]at this;simp only[reachBytes]at this;omega
 clear r;simp only[jH]at u;refine main.mono λe K ⟨he,n⟩=>?_;subst he;exact⟨_,rfl,_,_,_,[],_,[],u,trodAll_mk1 (shut_bool Tryz.underlying4 _),(trodAll_cons_mk (shut_string Tryz.underlying9 m0) (trodAll_cons_mk (shut_int Tryz.underlying3 m1) (trodAll_cons_mk (shut_int Tryz.underlying3 m2) (trodAll_cons_mk (Below.trod LP ns (of_decide_eq_true ns) Q n G) trodAll_mk0)))),rfl,n.frame _,λh=>by cases h⟩
/--Y the y: a J I variables hold what their d pD. -/
def Lw:Obj->Obj
 |.cells _ t frozen=>.cells #[.iface 258 (.agg #[.pointer (some (aj 18 83))])] t frozen
 |o=>o
def ik(w:World):World:={w with heap:=w.heap.modify 6 Lw}
theorem IM(os:Os):laidMetH Tryz.prog Rows.paintFramesRow.laid (((ik (World.holding Tryz.prog os ⟨#[],#[],[]⟩)).layVars Tryz.prog (ft.filter λx=>x.2.handleName?.isNone)).forCall (λ_ _=>0) ⟨#[],#[.string ⟨#[]⟩,.int .i64 0,.int .i64 0,.slice none 0 0],[]⟩).memory:=by
 refine laidMetH_of_parts ?_ ns;have hd:laidMet Tryz.prog (ft.filter λx=>x.2.handleName?.isNone) ((ik (World.holding Tryz.prog os ⟨#[],#[],[]⟩)).layVars Tryz.prog (ft.filter λx=>x.2.handleName?.isNone)):=by
  have a:((ft.filter λx=>x.2.handleName?.isNone).filter λx=>((ft.filter λx=>x.2.handleName?.isNone).map (·.1)).contains x.1)=ft.filter λx=>x.2.handleName?.isNone:=List.filter_eq_self.2 λx b=>List.contains_iff_mem.2 (jL.2 ⟨x,b,rfl⟩);have c:((ft.filter λx=>x.2.handleName?.isNone).filter λx=>!((ft.filter λx=>x.2.handleName?.isNone).map (·.1)).contains x.1)=[]:=List.filter_eq_nil_iff.2 λx b=>by rw[List.contains_iff_mem.2 (jL.2 ⟨x,b,rfl⟩)];simp
  exact laidMet_layVars (w0:=ik (World.holding Tryz.prog os ⟨#[],#[],[]⟩)) ((ft.filter λx=>x.2.handleName?.isNone).map (·.1)) [] (by rw[a]) (by rw[a];kernel_rfl) (by rw[a];kernel_rfl) (by rw[c];exact LaidIn.none)
 exact hd.of_heap (by simp[World.memory,World.forCall,Input.heap])
theorem reads(os:Os){H:Type}(enc:TypeId×Value->H):∃places,DataW.whole enc Tryz.prog (((ik (World.holding Tryz.prog os ⟨#[],#[],[]⟩)).layVars Tryz.prog (ft.filter λx=>x.2.handleName?.isNone)).forCall (λ_ _=>0) ⟨#[],#[.string ⟨#[]⟩,.int .i64 0,.int .i64 0,.slice none 0 0],[]⟩).memory Tryz.f3.params.toList Rows.paintFramesSpec.vars false #[Value.string ⟨#[]⟩,Value.int .i64 0,Value.int .i64 0,Value.slice none 0 0].toList 8=some ([.lit (.string []),.lit (.int .i64 0),.lit (.int .i64 0),.nil],[],places):=
 ⟨[],ns⟩
set_option maxRecDepth 100000 in
theorem lifted(os:Os)(a:os.Started)(H:Type)(enc:TypeId×Value->H)(F:Stop.Interp):
 ReturnsInHanded {} Tryz.checked os 3 .any ((OpenSpec.ofChange Rows.paintFramesSpec).preRow enc Tryz.prog Tryz.f3 Rows.paintFramesRow.domain false Rows.paintFramesRow.laid) (((OpenSpec.ofChange Rows.paintFramesSpec).at F).post enc Tryz.prog Tryz.f3 false true false false):=by
 obtain⟨places,j⟩:=reads os enc;refine returnsInHanded_of_row (C:=Tryz.checked) (s:=OpenSpec.ofChange Rows.paintFramesSpec) own a ns Tryz.func3
  (witness_row_at (enc:=enc) (C:=Tryz.checked) false ((ik (World.holding Tryz.prog os ⟨#[],#[],[]⟩)).layVars Tryz.prog (ft.filter λx=>x.2.handleName?.isNone)) #[.string ⟨#[]⟩,.int .i64 0,.int .i64 0,.slice none 0 0] (World.layVars_os _ _ _) ns ns ns
   (OpenSpec.preRow_of_cond 8 j ns (λk i=>by cases i) ns (IM os))) ?_;intro W c args ds f b d h _ _ e g _ _;exact Hp H enc W c args ds f b d h e g
end Go.Proofs.YtaanagpadfcmlaaGreatDoor.paintFrames
