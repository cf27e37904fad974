import Derived.Test.YtehgehanbnkdiaaGreatDoorCards
import Derived.Test.YtehgehanbnkdiaaGreatDoorTie
import Derived.Test.YtehgehanbnkdiaaGreatDoorQ50
import Derived.Lay
import Derived.Deep.DeepHandedRow
namespace Go.Proofs.YtehgehanbnkdiaaGreatDoor.paneForgets
open Go.ChangeShapes Go.WideShapes Go.ChangeAt Go.RowKit
open Go.ChangeMaps (open_string shut_string)
set_option linter.all false
theorem own:ownKnob Tryz.prog.godebug=none:=pt
theorem Kv:laidOutB Tryz.prog=true:=pt
theorem QS{H:Type}{b:Int}{c:Int}{d2:DataW H}{a:BY}(d:Rows.uptoSmall H [.lit (.int .i64 b),.lit (.int .i64 c),d2,.lit (.string a.data.toList)]=true):Rows.uptoBulk d2<=1048576:=by have h:Rows.uptoBulkAll [(.lit (.int .i64 b):DataW H),(.lit (.int .i64 c):DataW H),(d2:DataW H),(.lit (.string a.data.toList):DataW H)]<=1048576:=of_decide_eq_true d;simp only[Rows.uptoBulkAll]at h;omega
set_option maxRecDepth 100000 in
theorem Fh(H:Type)(enc:TypeId×Fd->H)(W:AT)(k:Nat)(args:Array Fd)(ds J:List (DataW H))(d:List MemPlace)(b:∀(j:Nat) t v,Tryz.f3.params[j]?=some t->args[j]?=some v->Value.okWide Tryz.prog W .any k t v)(M:DataW.Whole enc Tryz.prog Tryz.f3.params.toList Rows.paneForgetsSpec.vars false W args.toList ds J d)(N:Rows.uptoSmall H (ds++J)=true)(hL:laidMetH Tryz.prog Rows.paneForgetsUptoRow.laid W):
 Calls Tryz.prog 3 args W λe I=>∃v,e=Rw v/\Rows.paneForgetsSpec.post enc Tryz.prog Tryz.f3 false true false false W args v I:=by
 have r:=M;obtain⟨p,q,o,hV,rfl,zh,zi⟩:=M;have L:DataW.TrodAll enc Tryz.prog W 0 (λ_=>true) true Tryz.f3.params.toList args.toList ds p:=o;rw[Tryz.params3]at L b;obtain⟨R,zj,d0,X,p0,q0,z,rfl,rfl,h0,r0⟩:=trodAll_cons L;obtain⟨v1,zk,d1,Y,p1,q1,rfl,rfl,rfl,h1,r1⟩:=trodAll_cons r0;obtain⟨v2,zl,d2,Z,P,q2,rfl,rfl,rfl,K,r2⟩:=trodAll_cons r1;obtain⟨S,zm,d3,ze,p3,q3,rfl,rfl,rfl,h3,r3⟩:=trodAll_cons r2;obtain⟨rfl,rfl,rfl⟩:=trodAll_nil r3;obtain rfl:args=#[R,v1,v2,S]:=by cases args;simp_all
 obtain⟨rfl,rfl⟩:=trodVars_none hV;obtain⟨T,rfl,rfl,rfl,m0⟩:=open_int Tryz.underlying3 (b 0 3 R rfl rfl) h0;obtain⟨U,rfl,rfl,rfl,m1⟩:=open_int Tryz.underlying3 (b 1 3 v1 rfl rfl) h1;obtain⟨y,i,f,rfl⟩:=okWide_slice Tryz.underlying22 (b 2 22 v2 rfl rfl);have O:=K;have D:∀x∈P,x.block<W.heap.size:=by obtain⟨m,hm⟩:=O;exact DataW.trod_lt m _ _ _ hm
 obtain⟨Q,rfl,rfl,rfl,m3⟩:=open_string Tryz.underlying9 (b 3 9 S rfl rfl) h3;clear o;simp only[iC]at r N;have u:=QS N;have main:Calls Tryz.prog 3 #[.int .i64 T,.int .i64 U,.slice y i f,.string Q] W λe w'=>e=Rw (.bool true)/\Bq W w':=by
  obtain⟨E,g⟩:=GI hL;obtain⟨n,hf⟩:=K;have B:DataW.trod enc Tryz.prog W 0 (λ_=>true) true n 22 [.slice y i f]=some (d2,P):=by simpa[Value.cells]using hf
  obtain⟨op,C,how,hd⟩:=Ha B;refine qR g T U y i f op ?_ C how Q;rcases hd with⟨_,rfl⟩|⟨e,s,hd,zg⟩;·omega
  ·have A:d2=.slice e s:=hd;rw[A]at u;have:=um e;simp only[Rows.uptoBulk]at u;omega
 refine main.mono λe I ⟨he,l⟩=>?_;subst he;exact⟨_,rfl,_,_,_,[],_,[],r,trodAll_mk1 (shut_bool Tryz.underlying4 _),(trodAll_cons_mk (shut_int Tryz.underlying3 m0) (trodAll_cons_mk (shut_int Tryz.underlying3 m1) (trodAll_cons_mk (Below.trod Kv pt (of_decide_eq_true pt) O l D) (trodAll_cons_mk (shut_string Tryz.underlying9 m3) trodAll_mk0)))),rfl,l.frame _,λh=>by cases h⟩
def JY:Obj->Obj
 |.cells _ t frozen=>.cells #[.iface 312 (.agg #[.pointer (some (aq 18 133))])] t frozen
 |o=>o
def fT(w:AT):AT:={w with heap:=w.heap.modify 6 JY}
theorem GO(os:Os):laidMetH Tryz.prog Rows.paneForgetsUptoRow.laid (((fT (World.holding Tryz.prog os ⟨#[],#[],[]⟩)).layVars Tryz.prog (dD.filter λx=>x.2.handleName?.isNone)).forCall (λ_ _=>0) ⟨#[],#[.int .i64 0,.int .i64 0,.slice none 0 0,.string ⟨#[]⟩],[]⟩).memory:=by
 refine laidMetH_of_parts ?_ pt;have hd:laidMet Tryz.prog (dD.filter λx=>x.2.handleName?.isNone) ((fT (World.holding Tryz.prog os ⟨#[],#[],[]⟩)).layVars Tryz.prog (dD.filter λx=>x.2.handleName?.isNone)):=by
  have a:((dD.filter λx=>x.2.handleName?.isNone).filter λx=>((dD.filter λx=>x.2.handleName?.isNone).map (·.1)).contains x.1)=dD.filter λx=>x.2.handleName?.isNone:=List.filter_eq_self.2 λx b=>List.contains_iff_mem.2 (km.2 ⟨x,b,rfl⟩);have c:((dD.filter λx=>x.2.handleName?.isNone).filter λx=>!((dD.filter λx=>x.2.handleName?.isNone).map (·.1)).contains x.1)=[]:=List.filter_eq_nil_iff.2 λx b=>by rw[List.contains_iff_mem.2 (km.2 ⟨x,b,rfl⟩)];simp
  exact laidMet_layVars (w0:=fT (World.holding Tryz.prog os ⟨#[],#[],[]⟩)) ((dD.filter λx=>x.2.handleName?.isNone).map (·.1)) [] (by rw[a]) (by rw[a];kernel_rfl) (by rw[a];kernel_rfl) (by rw[c];exact LaidIn.none)
 exact hd.of_heap (by simp[World.memory,World.forCall,Input.heap])
theorem reads(os:Os){H:Type}(enc:TypeId×Fd->H):∃places,DataW.whole enc Tryz.prog (((fT (World.holding Tryz.prog os ⟨#[],#[],[]⟩)).layVars Tryz.prog (dD.filter λx=>x.2.handleName?.isNone)).forCall (λ_ _=>0) ⟨#[],#[.int .i64 0,.int .i64 0,.slice none 0 0,.string ⟨#[]⟩],[]⟩).memory Tryz.f3.params.toList Rows.paneForgetsSpec.vars false #[Value.int .i64 0,Value.int .i64 0,Value.slice none 0 0,Value.string ⟨#[]⟩].toList 8=some ([.lit (.int .i64 0),.lit (.int .i64 0),.nil,.lit (.string [])],[],places):=
 ⟨[],pt⟩
set_option maxRecDepth 100000 in
theorem lifted(os:Os)(a:os.Started)(H:Type)(enc:TypeId×Fd->H)(F:Stop.Interp):
 ReturnsInHanded {} Tryz.checked os 3 .any ((Rows.OpenSpec.upto Rows.paneForgetsSpec).preRow enc Tryz.prog Tryz.f3 Rows.paneForgetsUptoRow.domain false Rows.paneForgetsUptoRow.laid) (((Rows.OpenSpec.upto Rows.paneForgetsSpec).at F).post enc Tryz.prog Tryz.f3 false true false false):=by
 obtain⟨places,j⟩:=reads os enc;refine returnsInHanded_of_row (C:=Tryz.checked) (s:=Rows.OpenSpec.upto Rows.paneForgetsSpec) own a pt Tryz.func3
  (witness_row_at (enc:=enc) (C:=Tryz.checked) false ((fT (World.holding Tryz.prog os ⟨#[],#[],[]⟩)).layVars Tryz.prog (dD.filter λx=>x.2.handleName?.isNone)) #[.int .i64 0,.int .i64 0,.slice none 0 0,.string ⟨#[]⟩] (World.layVars_os _ _ _) pt pt pt
   (OpenSpec.preRow_of_cond 8 j pt (λk i=>by cases i;kernel_rfl) pt (GO os))) ?_;intro W d args ds f b e h _ c _ g _ _;exact Fh H enc W d args ds f b e h (c _ rfl) g
end Go.Proofs.YtehgehanbnkdiaaGreatDoor.paneForgets
