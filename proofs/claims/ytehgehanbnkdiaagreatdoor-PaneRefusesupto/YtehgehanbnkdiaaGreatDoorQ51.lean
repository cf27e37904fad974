import Derived.Test.YtehgehanbnkdiaaGreatDoorCards
import Derived.Test.YtehgehanbnkdiaaGreatDoorTie
import Derived.Test.YtehgehanbnkdiaaGreatDoorQ50
import Derived.Lay
import Derived.Deep.DeepHandedRow
namespace Go.Proofs.YtehgehanbnkdiaaGreatDoor.paneRefuses
open Go.ChangeShapes Go.WideShapes Go.ChangeAt Go.RowKit
open Go.ChangeMaps (open_string shut_string)
set_option linter.all false
def own:ownKnob Tryz.prog.godebug=none:=pt
def LZ:laidOutB Tryz.prog=true:=pt
def RU{H:Type}{b:Int}{c:Int}{d2:DataW H}{a:BY}{d:Int}{e:Int}(f:Rows.uptoSmall H [.lit (.int .i64 b),.lit (.int .i64 c),d2,.lit (.string a.data.toList),.lit (.int .i64 d),.lit (.int .i64 e)]=true):Rows.uptoBulk d2<=1048576:=by have h:Rows.uptoBulkAll [(.lit (.int .i64 b):DataW H),(.lit (.int .i64 c):DataW H),(d2:DataW H),(.lit (.string a.data.toList):DataW H),(.lit (.int .i64 d):DataW H),(.lit (.int .i64 e):DataW H)]<=1048576:=of_decide_eq_true f;simp only[Rows.uptoBulkAll]at h;omega
set_option maxRecDepth 100000 in
def Gg(H:Type)(enc:TypeId×Fd->H)(W:AT)(k:Nat)(args:Array Fd)(ds J:List (DataW H))(d:List MemPlace)(b:∀(j:Nat) t v,Tryz.f4.params[j]?=some t->args[j]?=some v->Value.okWide Tryz.prog W .any k t v)(M:DataW.Whole enc Tryz.prog Tryz.f4.params.toList Rows.paneRefusesSpec.vars false W args.toList ds J d)(N:Rows.uptoSmall H (ds++J)=true)(hL:laidMetH Tryz.prog Rows.paneRefusesUptoRow.laid W):
 Calls Tryz.prog 4 args W λe I=>∃v,e=Rw v/\Rows.paneRefusesSpec.post enc Tryz.prog Tryz.f4 false true false false W args v I:=by
 have r:=M;obtain⟨p,q,o,hV,rfl,zn,zo⟩:=M;have L:DataW.TrodAll enc Tryz.prog W 0 (λ_=>true) true Tryz.f4.params.toList args.toList ds p:=o;rw[Tryz.params4]at L b;obtain⟨T,zq,d0,zg,p0,q0,z,rfl,rfl,h0,r0⟩:=trodAll_cons L;obtain⟨v1,zr,d1,zh,p1,q1,rfl,rfl,rfl,h1,r1⟩:=trodAll_cons r0;obtain⟨v2,zt,d2,zi,R,q2,rfl,rfl,rfl,K,r2⟩:=trodAll_cons r1;obtain⟨U,zu,d3,zj,p3,q3,rfl,rfl,rfl,h3,r3⟩:=trodAll_cons r2;obtain⟨V,zv,d4,zk,p4,q4,rfl,rfl,rfl,h4,r4⟩:=trodAll_cons r3;obtain⟨X,zw,d5,zl,p5,q5,rfl,rfl,rfl,h5,r5⟩:=trodAll_cons r4;obtain⟨rfl,rfl,rfl⟩:=trodAll_nil r5;obtain rfl:args=#[T,v1,v2,U,V,X]:=by cases args;simp_all
 obtain⟨rfl,rfl⟩:=trodVars_none hV;obtain⟨Y,rfl,rfl,rfl,m0⟩:=open_int Tryz.underlying3 (b 0 3 T rfl rfl) h0;obtain⟨Z,rfl,rfl,rfl,m1⟩:=open_int Tryz.underlying3 (b 1 3 v1 rfl rfl) h1;obtain⟨y,i,f,rfl⟩:=okWide_slice Tryz.underlying22 (b 2 22 v2 rfl rfl);have O:=K;have D:∀x∈R,x.block<W.heap.size:=by obtain⟨m,hm⟩:=O;exact DataW.trod_lt m _ _ _ hm
 obtain⟨S,rfl,rfl,rfl,m3⟩:=open_string Tryz.underlying9 (b 3 9 U rfl rfl) h3;obtain⟨x4,rfl,rfl,rfl,P⟩:=open_int Tryz.underlying3 (b 4 3 V rfl rfl) h4;obtain⟨x5,rfl,rfl,rfl,Q⟩:=open_int Tryz.underlying3 (b 5 3 X rfl rfl) h5;clear o;simp only[iP]at r N;have u:=RU N;have main:Calls Tryz.prog 4 #[.int .i64 Y,.int .i64 Z,.slice y i f,.string S,.int .i64 x4,.int .i64 x5] W λe w'=>e=Rw (.bool true)/\Bq W w':=by
  obtain⟨E,g⟩:=Ie hL;obtain⟨n,hf⟩:=K;have B:DataW.trod enc Tryz.prog W 0 (λ_=>true) true n 22 [.slice y i f]=some (d2,R):=by simpa[Value.cells]using hf
  obtain⟨op,C,how,hd⟩:=ID B;refine rh g Y Z y i f op ?_ C how S x4 x5 (qv P) (qv Q);rcases hd with⟨_,rfl⟩|⟨e,s,hd,zm⟩;.omega
  .have A:d2=.slice e s:=hd;rw[A]at u;have:=uG e;simp only[Rows.uptoBulk]at u;omega
 refine main.mono λe I ⟨he,l⟩=>?_;subst he;exact⟨_,rfl,_,_,_,[],_,[],r,trodAll_mk1 (shut_bool Tryz.underlying4 _),(trodAll_cons_mk (shut_int Tryz.underlying3 m0) (trodAll_cons_mk (shut_int Tryz.underlying3 m1) (trodAll_cons_mk (Below.trod LZ pt (of_decide_eq_true pt) O l D) (trodAll_cons_mk (shut_string Tryz.underlying9 m3) (trodAll_cons_mk (shut_int Tryz.underlying3 P) (trodAll_cons_mk (shut_int Tryz.underlying3 Q) trodAll_mk0)))))),rfl,l.frame _,λh=>by cases h⟩
def Lq:Obj->Obj
 |.cells _ t frozen=>.cells #[.iface 312 (.agg #[.pointer (some (aq 18 133))])] t frozen
 |o=>o
def gj(w:AT):AT:={w with heap:=w.heap.modify 6 Lq}
def Il(os:Os):laidMetH Tryz.prog Rows.paneRefusesUptoRow.laid (((gj (World.holding Tryz.prog os ⟨#[],#[],[]⟩)).layVars Tryz.prog (dL.filter λx=>x.2.handleName?.isNone)).forCall (λ_ _=>0) ⟨#[],#[.int .i64 0,.int .i64 0,.slice none 0 0,.string ⟨#[]⟩,.int .i64 0,.int .i64 0],[]⟩).memory:=by
 refine laidMetH_of_parts ?_ pt;have hd:laidMet Tryz.prog (dL.filter λx=>x.2.handleName?.isNone) ((gj (World.holding Tryz.prog os ⟨#[],#[],[]⟩)).layVars Tryz.prog (dL.filter λx=>x.2.handleName?.isNone)):=by
  have a:((dL.filter λx=>x.2.handleName?.isNone).filter λx=>((dL.filter λx=>x.2.handleName?.isNone).map (·.1)).contains x.1)=dL.filter λx=>x.2.handleName?.isNone:=List.filter_eq_self.2 λx b=>List.contains_iff_mem.2 (kJ.2 ⟨x,b,rfl⟩);have c:((dL.filter λx=>x.2.handleName?.isNone).filter λx=>!((dL.filter λx=>x.2.handleName?.isNone).map (·.1)).contains x.1)=[]:=List.filter_eq_nil_iff.2 λx b=>by rw[List.contains_iff_mem.2 (kJ.2 ⟨x,b,rfl⟩)];simp
  exact laidMet_layVars (w0:=gj (World.holding Tryz.prog os ⟨#[],#[],[]⟩)) ((dL.filter λx=>x.2.handleName?.isNone).map (·.1)) [] (by rw[a]) (by rw[a];kernel_rfl) (by rw[a];kernel_rfl) (by rw[c];exact LaidIn.none)
 exact hd.of_heap (by simp[World.memory,World.forCall,Input.heap])
def reads(os:Os){H:Type}(enc:TypeId×Fd->H):∃places,DataW.whole enc Tryz.prog (((gj (World.holding Tryz.prog os ⟨#[],#[],[]⟩)).layVars Tryz.prog (dL.filter λx=>x.2.handleName?.isNone)).forCall (λ_ _=>0) ⟨#[],#[.int .i64 0,.int .i64 0,.slice none 0 0,.string ⟨#[]⟩,.int .i64 0,.int .i64 0],[]⟩).memory Tryz.f4.params.toList Rows.paneRefusesSpec.vars false #[Value.int .i64 0,Value.int .i64 0,Value.slice none 0 0,Value.string ⟨#[]⟩,Value.int .i64 0,Value.int .i64 0].toList 8=some ([.lit (.int .i64 0),.lit (.int .i64 0),.nil,.lit (.string []),.lit (.int .i64 0),.lit (.int .i64 0)],[],places):=
 ⟨[],pt⟩
set_option maxRecDepth 100000 in
def lifted(os:Os)(a:os.Started)(H:Type)(enc:TypeId×Fd->H)(F:Stop.Interp):
 ReturnsInHanded {} Tryz.checked os 4 .any ((Rows.OpenSpec.upto Rows.paneRefusesSpec).preRow enc Tryz.prog Tryz.f4 Rows.paneRefusesUptoRow.domain false Rows.paneRefusesUptoRow.laid) (((Rows.OpenSpec.upto Rows.paneRefusesSpec).at F).post enc Tryz.prog Tryz.f4 false true false false):=by
 obtain⟨places,j⟩:=reads os enc;refine returnsInHanded_of_row (C:=Tryz.checked) (s:=Rows.OpenSpec.upto Rows.paneRefusesSpec) own a pt Tryz.func4
  (witness_row_at (enc:=enc) (C:=Tryz.checked) false ((gj (World.holding Tryz.prog os ⟨#[],#[],[]⟩)).layVars Tryz.prog (dL.filter λx=>x.2.handleName?.isNone)) #[.int .i64 0,.int .i64 0,.slice none 0 0,.string ⟨#[]⟩,.int .i64 0,.int .i64 0] (World.layVars_os _ _ _) pt pt pt
   (OpenSpec.preRow_of_cond 8 j pt (λk i=>by cases i;kernel_rfl) pt (Il os))) ?_;intro W d args ds f b e h _ c _ g _ _;exact Gg H enc W d args ds f b e h (c _ rfl) g
end Go.Proofs.YtehgehanbnkdiaaGreatDoor.paneRefuses
