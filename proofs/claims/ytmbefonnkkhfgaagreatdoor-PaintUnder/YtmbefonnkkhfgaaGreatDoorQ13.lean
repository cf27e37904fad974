import Derived.Test.YtmbefonnkkhfgaaGreatDoorQ08
import Derived.LaidEql
import Derived.Stop.Asserts
import Derived.RowKitTokens
import Derived.WalkKit
set_option linter.unusedVariables false
set_option maxRecDepth 100000
set_option maxHeartbeats 16000000
namespace Go.Proofs.YtmbefonnkkhfgaaGreatDoor
section
open Go.RowKit Go.Extern.Stop Go.Stop Go.Extern Go.Proofs.Tryz
theorem isTypeOf(v:Value)(w:World):(Extern.ReflectliteType.typeOf #[.iface 311 v]).run prog w=.ok (.iface 215 (.agg #[.pointer (some ⟨18,311,none⟩)])) w:=by kernel_rfl
theorem cmp_is:∃M:Array Value->Sem Value,Go.Extern.find Tryz.f280=some M∧∀w,(M #[.agg #[.pointer (some ⟨18,311,none⟩)]]).run prog w=.ok (.bool true) w:=⟨(Go.Extern.find Tryz.f280).getD fun _=>pure (.bool false),by kernel_rfl,fun w=>by kernel_rfl⟩
theorem isMethodComparable (v:Value) (w:World):(Go.method 452 215 v "Comparable").run prog w=.ok (280,v) w:=by kernel_rfl
theorem isComp:(prog.info? 311).map (·.comparable)=some true:=by kernel_rfl
theorem isSize:(prog.info? 313).map (·.size)=some 1:=by kernel_rfl
theorem noIsE(v:Value)(xT:TypeId)(w:World):(Instr.typeAssert (.iface 311 v) xT 217 true).run prog w=.ok (.tuple #[.nilIface,.bool false]) w:=run_typeAssert_lacksB underlying217 (by kernel_rfl) (by kernel_rfl) v xT w
theorem noUnwrapE(v:Value)(xT:TypeId)(w:World):(Instr.typeAssert (.iface 311 v) xT 220 true).run prog w=.ok (.tuple #[.nilIface,.bool false]) w:=run_typeAssert_lacksB underlying220 (by kernel_rfl) (by kernel_rfl) v xT w
theorem noUnwrapsE(v:Value)(xT:TypeId)(w:World):(Instr.typeAssert (.iface 311 v) xT 222 true).run prog w=.ok (.tuple #[.nilIface,.bool false]) w:=run_typeAssert_lacksB underlying222 (by kernel_rfl) (by kernel_rfl) v xT w
theorem noIsF(v:Value)(xT:TypeId)(w:World):(Instr.typeAssert (.iface 117 v) xT 217 true).run prog w=.ok (.tuple #[.nilIface,.bool false]) w:=run_typeAssert_lacksB underlying217 (by kernel_rfl) (by kernel_rfl) v xT w
theorem hasUnwrapF(v:Value)(xT:TypeId)(w:World):(Instr.typeAssert (.iface 117 v) xT 220 true).run prog w=.ok (.tuple #[.iface 117 v,.bool true]) w:=run_typeAssert_hasB underlying220 (by kernel_rfl) v xT w
theorem methodUnwrap (v:Value) (w:World):(Go.method 452 117 v "Unwrap").run prog w=.ok (273,v) w:=by kernel_rfl
def xf0:=PProd.mk (@run_callFunc_extern prog 90 _ ReflectliteType.typeOf func90 (by kernel_rfl) (by kernel_rfl) (by kernel_rfl) (by kernel_rfl)) ()
theorem is_same(a:Addr)(w:World):
 Calls prog 55 #[.iface 311 (.pointer (some a)),.iface 311 (.pointer (some a))] w fun e w'=>e=.returned (.bool true)∧w'=w:=by obtain⟨i,hi,hcmp⟩:=Option.map_eq_some_iff.1 isComp;obtain⟨j,hj,hjs⟩:=Option.map_eq_some_iff.1 isSize;have h8:=xf0.1;obtain⟨M,hM,cT⟩:=cmp_is;have h32:=@run_callFunc_extern prog 280 _ M func280 (by kernel_rfl) (by kernel_rfl) (by kernel_rfl) hM;have tT:=isTypeOf;have mR:=isMethodComparable;have heq:=run_eql_iface_ptr_same (P:=prog) w a underlying81 underlying311 hi hcmp hj;go_enter func55,ntmps55;go_wp2;refine wp_loop_rounds 1 ?_;rw[rounds_succ];go_wp2;go_ret;exact⟨rfl,rfl⟩
theorem is_fault_same(p:Int)(b:Addr)(w:World):
 Calls prog 55 #[.iface 117 (.agg #[Iq p,.iface 311 (.pointer (some b))]),.iface 311 (.pointer (some b))] w fun e w'=>e=.returned (.bool true)∧Below w.heap.size w w':=by obtain⟨i,hi,hcmp⟩:=Option.map_eq_some_iff.1 isComp;obtain⟨j,hj,hjs⟩:=Option.map_eq_some_iff.1 isSize;have h8:=xf0.1;obtain⟨M,hM,cT⟩:=cmp_is;have h32:=@run_callFunc_extern prog 280 _ M func280 (by kernel_rfl) (by kernel_rfl) (by kernel_rfl) hM;have tT:=isTypeOf;have mR:=isMethodComparable;have nE:=noIsE;have uE:=noUnwrapE;have vE:=noUnwrapsE;have nF:=noIsF;have uF:=hasUnwrapF;have mU:=methodUnwrap;have heq:=fun w=>run_eql_iface_ptr_same (P:=prog) w b underlying81 underlying311 hi hcmp hj;have hty:=run_eql_iface_types (P:=prog) 117 311 (.agg #[Iq p,.iface 311 (.pointer (some b))]) (.pointer (some b)) underlying81 (by decide);go_enter func55,ntmps55;go_wp2;refine wp_loop_rounds 2 ?_;rw[rounds_succ];go_wp2;rw[rounds_succ];go_wp2;go_ret;exact⟨rfl,(Below.refl _ _).alloc (Nat.le_refl _) _⟩
theorem is_fault_other(p:Int)(a b:Addr)(ca cb:Array Value)(ta tb:TypeId)(w:World)(hne:a≠b)(ha:w.heap[a.block]?=some (.cells ca ta (0,0)))(hb:w.heap[b.block]?=some (.cells cb tb (0,0))):
 Calls prog 55 #[.iface 117 (.agg #[Iq p,.iface 311 (.pointer (some a))]),.iface 311 (.pointer (some b))] w fun e w'=>e=.returned (.bool false)∧Below w.heap.size w w':=by obtain⟨i,hi,hcmp⟩:=Option.map_eq_some_iff.1 isComp;obtain⟨j,hj,hjs⟩:=Option.map_eq_some_iff.1 isSize;have h8:=xf0.1;obtain⟨M,hM,cT⟩:=cmp_is;have h32:=@run_callFunc_extern prog 280 _ M func280 (by kernel_rfl) (by kernel_rfl) (by kernel_rfl) hM;have tT:=isTypeOf;have mR:=isMethodComparable;have nE:=noIsE;have uE:=noUnwrapE;have vE:=noUnwrapsE;have nF:=noIsF;have uF:=hasUnwrapF;have mU:=methodUnwrap;have heq:=run_eql_iface_ptr_other (P:=prog) (w.alloc (.cells #[Iq p,.iface 311 (.pointer (some a))] 117)) underlying81 underlying311 hi hcmp hj (by rw[hjs];decide) hne ((heap_alloc_old w _ (Array.getElem?_eq_some_iff.1 ha).1).trans ha) ((heap_alloc_old w _ (Array.getElem?_eq_some_iff.1 hb).1).trans hb);have hty:=run_eql_iface_types (P:=prog) 117 311 (.agg #[Iq p,.iface 311 (.pointer (some a))]) (.pointer (some b)) underlying81 (by decide);go_enter func55,ntmps55;go_wp2;refine wp_loop_rounds 2 ?_;rw[rounds_succ];go_wp2;rw[rounds_succ];go_wp2;go_ret;exact⟨rfl,(Below.refl _ _).alloc (Nat.le_refl _) _⟩
end
section
open Go.RowKit Go.Extern.Stop Go.Stop Go.Extern Go.Proofs.Tryz
theorem asValT(t:Addr)(w:World):(ReflectliteValue.unpack (.iface 119 (.pointer (some t)))).run prog w
 =.ok (.agg #[.pointer (some ⟨18,119,none⟩),Pq w.heap.size,.int .u64 150]) (w.alloc (.cells #[.pointer (some t)] 119)):=by kernel_rfl
theorem asTypeT (a:Addr) (w:World):(ReflectliteValue.methodAny (ReflectliteValue.valueError "reflectlite.Value.Type" 0) (fun t _ _ _=>ReflectliteType.toType t) #[.agg #[.pointer (some ⟨18,119,none⟩),.pointer (some a),.int .u64 150]]).run prog w
 =.ok (.iface 215 (.agg #[.pointer (some ⟨18,119,none⟩)])) w:=by kernel_rfl
theorem asMethodKind (h:Value) (w:World):(Go.method 452 215 (.agg #[h]) "Kind").run prog w=.ok (268,h) w:=by kernel_rfl
theorem asKindT(w:World):((ReflectliteType.abiMethod fun t=>(fun a:Nat=>Value.int IntKind.u8 (a:Int))<$>Rtype.kind t) #[.pointer (some ⟨18,119,none⟩)]).run prog w=.ok (.int .u8 22) w:=by kernel_rfl
theorem asKindF(w:World):((ReflectliteType.abiMethod fun t=>(fun a:Nat=>Value.int IntKind.u8 (a:Int))<$>Rtype.kind t) #[.pointer (some ⟨18,117,none⟩)]).run prog w=.ok (.int .u8 25) w:=by kernel_rfl
theorem asPartsT(a:Addr)(w:World):(ReflectliteValue.parts (.agg #[.pointer (some ⟨18,119,none⟩),.pointer (some a),.int .u64 150])).run prog w=.ok (some (119,a,150)) w:=by kernel_rfl
theorem asIsNil(a p:Addr)(W:World)(ha:W.cell? a=some (.pointer (some p))):
 (ReflectliteValue.method (ReflectliteValue.valueError "reflectlite.Value.IsNil" 0) ReflectliteValue.isNil #[.agg #[.pointer (some ⟨18,119,none⟩),.pointer (some a),.int .u64 150]]).run prog W=.ok (.bool false) W:=by change(bind (m:=Sem) (ReflectliteValue.parts (.agg #[.pointer (some ⟨18,119,none⟩),.pointer (some a),.int .u64 150])) _).run prog W=_;simp only[Sem.run_bind,asPartsT,Result.andThen];simp[ReflectliteValue.isNil,loadVar,isAgg,underlying,underlying119,ha,Result.andThen]
theorem asMethodElem (h:Value) (w:World):(Go.method 452 215 (.agg #[h]) "Elem").run prog w=.ok (281,.agg #[h]) w:=by kernel_rfl
theorem asMethodImpl (h:Value) (w:World):(Go.method 452 215 (.agg #[h]) "Implements").run prog w=.ok (282,.agg #[h]) w:=by kernel_rfl
theorem asMethodAssign (h:Value) (w:World):(Go.method 452 215 (.agg #[h]) "AssignableTo").run prog w=.ok (279,.agg #[h]) w:=by kernel_rfl
theorem asElemT(w:World):(ReflectliteType.method ReflectliteType.elem #[.agg #[.pointer (some ⟨18,119,none⟩)]]).run prog w=.ok (.iface 215 (.agg #[.pointer (some ⟨18,117,none⟩)])) w:=by kernel_rfl
theorem asImplF (w:World):(ReflectliteType.relation "Implements" ReflectliteType.implements_ #[.agg #[.pointer (some ⟨18,117,none⟩)],.iface 215 (.agg #[.pointer (some ⟨18,81,none⟩)])]).run prog w=.ok (.bool true) w:=by kernel_rfl
theorem asTypeOfF(v:Value)(w:World):(ReflectliteType.typeOf #[.iface 117 v]).run prog w=.ok (.iface 215 (.agg #[.pointer (some ⟨18,117,none⟩)])) w:=by kernel_rfl
theorem asAssignF (w:World):(ReflectliteType.relation "AssignableTo" ReflectliteType.assignableTo #[.agg #[.pointer (some ⟨18,117,none⟩)],.iface 215 (.agg #[.pointer (some ⟨18,117,none⟩)])]).run prog w=.ok (.bool true) w:=by kernel_rfl
theorem asAssignE (w:World):(ReflectliteType.relation "AssignableTo" ReflectliteType.assignableTo #[.agg #[.pointer (some ⟨18,311,none⟩)],.iface 215 (.agg #[.pointer (some ⟨18,117,none⟩)])]).run prog w=.ok (.bool false) w:=by kernel_rfl
theorem asValF(p:Int)(c:Value)(w:World):(ReflectliteValue.unpack (.iface 117 (.agg #[Iq p,c]))).run prog w
 =.ok (.agg #[.pointer (some ⟨18,117,none⟩),Pq w.heap.size,.int .u64 153]) (w.alloc (.cells #[Iq p,c] 117)):=by kernel_rfl
theorem asElemOfT(w:World):(Rtype.elem? 119).run prog w=.ok (some 117) w:=by kernel_rfl
theorem asMkF(p:Addr)(w:World):(ReflectliteValue.mk 117 p ReflectliteValue.flagAddr).run prog w=.ok (.agg #[.pointer (some ⟨18,117,none⟩),.pointer (some p),.int .u64 409]) w:=by kernel_rfl
theorem asElemV(a p:Addr)(W:World)(ha:W.cell? a=some (.pointer (some p))):
 (ReflectliteValue.method (ReflectliteValue.valueError "reflectlite.Value.Elem" 0) ReflectliteValue.elem #[.agg #[.pointer (some ⟨18,119,none⟩),.pointer (some a),.int .u64 150]]).run prog W
  =.ok (.agg #[.pointer (some ⟨18,117,none⟩),.pointer (some p),.int .u64 409]) W:=by change(bind (m:=Sem) (ReflectliteValue.parts (.agg #[.pointer (some ⟨18,119,none⟩),.pointer (some a),.int .u64 150])) _).run prog W=_;simp only[Sem.run_bind,asPartsT,Result.andThen];simp[ReflectliteValue.elem,loadVar,isAgg,underlying,underlying119,ha,Result.andThen,asElemOfT,asMkF]
theorem asPartsA(a:Addr)(w:World):(ReflectliteValue.parts (.agg #[.pointer (some ⟨18,117,none⟩),.pointer (some a),.int .u64 409])).run prog w=.ok (some (117,a,409)) w:=by kernel_rfl
theorem asPartsF(a:Addr)(w:World):(ReflectliteValue.parts (.agg #[.pointer (some ⟨18,117,none⟩),.pointer (some a),.int .u64 153])).run prog w=.ok (some (117,a,153)) w:=by kernel_rfl
theorem asDirect(w:World):(Rtype.directlyAssignable 117 117).run prog w=.ok true w:=by kernel_rfl
theorem asSet(tb bb:Nat)(p:Int)(c o0 o1:Value)(W:World)(hb0:W.cell? ⟨bb,0,none⟩=some (Iq p))(hb1:W.cell? ⟨bb,1,none⟩=some c)(ht0:W.cell? ⟨tb,0,none⟩=some o0)(ht1:W.cell? ⟨tb,1,none⟩=some o1)(hf:∀j,W.frozen? ⟨tb,j,none⟩=false)(hcl:c.oneCell'=true):
 (ReflectliteValue.set #[.agg #[.pointer (some ⟨18,117,none⟩),Pq tb,.int .u64 409],.agg #[.pointer (some ⟨18,117,none⟩),Pq bb,.int .u64 153]]).run prog W
  =.ok (.tuple #[]) ((W.setCell ⟨tb,0,none⟩ (Iq p)).setCell ⟨tb,1,none⟩ c):=by
 change(bind (m:=Sem) (ReflectliteValue.parts (.agg #[.pointer (some ⟨18,117,none⟩),Pq tb,.int .u64 409])) fun _=>bind (m:=Sem) (ReflectliteValue.parts (.agg #[.pointer (some ⟨18,117,none⟩),Pq bb,.int .u64 153])) _).run prog W=_;simp only[Sem.run_bind,asPartsA,asPartsF,Result.andThen];simp[ReflectliteValue.flagAddr,loadVar,loadCells,loadCellsFrom,hb0,hb1,Result.andThen,asDirect,storeVar,Value.cells,storeCells,Addr.add];have e1:(store ⟨tb,0,none⟩ (Iq p)).run prog W=.ok () (W.setCell ⟨tb,0,none⟩ (Iq p)):=by rw[run_store prog W ⟨tb,0,none⟩ _ _ (by rfl)];simp[ht0,hf]
 have h1:(W.setCell ⟨tb,0,none⟩ (Iq p)).cell? ⟨tb,1,none⟩=some o1:=(World.cell?_setCell_other _ _ _ _ (fun e=>by injection e with _ e _;omega)).trans ht1;have h2:(W.setCell ⟨tb,0,none⟩ (Iq p)).frozen? ⟨tb,1,none⟩=false:=(World.frozen?_setCell _ _ _ _).trans (hf 1);have e2:(store ⟨tb,1,none⟩ c).run prog (W.setCell ⟨tb,0,none⟩ (Iq p))=.ok () ((W.setCell ⟨tb,0,none⟩ (Iq p)).setCell ⟨tb,1,none⟩ c):=by rw[run_store prog _ ⟨tb,1,none⟩ _ _ hcl];simp[h1,h2]
 rw[e1];simp only;rw[e2]
end
section
open Go.RowKit Go.Extern.Stop Go.Stop Go.Extern Go.Proofs.Tryz
theorem noAsE(v:Value)(xT:TypeId)(w:World):(Instr.typeAssert (.iface 311 v) xT 227 true).run prog w=.ok (.tuple #[.nilIface,.bool false]) w:=run_typeAssert_lacksB underlying227 (by kernel_rfl) (by kernel_rfl) v xT w
def xf1:=PProd.mk (@run_callFunc_extern prog 92 _ (fun args=>ReflectliteValue.unpack (args.getD 0 (.tuple #[]))) func92 (by kernel_rfl) (by kernel_rfl) (by kernel_rfl) (by kernel_rfl)) ()
def xf2:=PProd.mk (@run_callFunc_extern prog 93 _ (ReflectliteValue.methodAny (ReflectliteValue.valueError "reflectlite.Value.Type" 0) (fun t _ _ _=>ReflectliteType.toType t)) func93 (by kernel_rfl) (by kernel_rfl) (by kernel_rfl) (by kernel_rfl)) ()
def xf3:=PProd.mk (@run_callFunc_extern prog 94 _ (ReflectliteValue.method (ReflectliteValue.valueError "reflectlite.Value.IsNil" 0) ReflectliteValue.isNil) func94 (by kernel_rfl) (by kernel_rfl) (by kernel_rfl) (by kernel_rfl)) ()
def xf4:=PProd.mk (@run_callFunc_extern prog 268 _ (ReflectliteType.abiMethod fun t=>do pure (.int .u8 (<-Rtype.kind t))) func268 (by kernel_rfl) (by kernel_rfl) (by kernel_rfl) (by kernel_rfl)) ()
def xf5:=PProd.mk (@run_callFunc_extern prog 281 _ (ReflectliteType.method ReflectliteType.elem) func281 (by kernel_rfl) (by kernel_rfl) (by kernel_rfl) (by kernel_rfl)) ()
def xf6:=PProd.mk (@run_callFunc_extern prog 282 _ (ReflectliteType.relation "Implements" ReflectliteType.implements_) func282 (by kernel_rfl) (by kernel_rfl) (by kernel_rfl) (by kernel_rfl)) ()
def xf7:=PProd.mk (@run_callFunc_extern prog 279 _ (ReflectliteType.relation "AssignableTo" ReflectliteType.assignableTo) func279 (by kernel_rfl) (by kernel_rfl) (by kernel_rfl) (by kernel_rfl)) ()
def xf8:=PProd.mk (@run_callFunc_extern prog 142 _ (ReflectliteValue.method (ReflectliteValue.valueError "reflectlite.Value.Elem" 0) ReflectliteValue.elem) func142 (by kernel_rfl) (by kernel_rfl) (by kernel_rfl) (by kernel_rfl)) ()
def xf9:=PProd.mk (@run_callFunc_extern prog 143 _ (ReflectliteValue.set) func143 (by kernel_rfl) (by kernel_rfl) (by kernel_rfl) (by kernel_rfl)) ()
theorem as_hit(tb:Nat)(p:Int)(c o0 o1:Value)(w:World)(hlt:7<w.heap.size)(hg:w.cell? ⟨7,0,none⟩=some (.iface 215 (.agg #[.pointer (some ⟨18,81,none⟩)])))(htl:tb<w.heap.size)(ht0:w.cell? ⟨tb,0,none⟩=some o0)(ht1:w.cell? ⟨tb,1,none⟩=some o1)(hf0:∀j,w.frozen? ⟨tb,j,none⟩=false)(hcl:c.oneCell'=true):
 Calls prog 56 #[.iface 117 (.agg #[Iq p,c]),.iface 119 (Pq tb)] w fun ev w'=>ev=.returned (.bool true)∧w'=((((((w.alloc (.cells #[Pq tb] 119)).alloc (.cells #[.pointer (some ⟨18,119,none⟩),Pq w.heap.size,.int .u64 150] 164)).alloc (.cells #[.pointer (some ⟨18,119,none⟩),Pq w.heap.size,.int .u64 150] 164)).alloc (.cells #[Iq p,c] 117)).setCell ⟨tb,0,none⟩ (Iq p)).setCell ⟨tb,1,none⟩ c):=by
 have h6:=xf1.1;have h7:=xf2.1;have h8:=xf3.1;have h27:=xf4.1;have h37:=xf5.1;have h38:=xf6.1;have h10:=xf0.1;have h35:=xf7.1;have h11:=xf8.1;have h12:=xf9.1;have tO:=asTypeOfF;have tE:=isTypeOf;have mA:=asMethodAssign;have a25:=asAssignF;have aE:=asAssignE;have v25:=asValF;have f6:=asValT;have f7:=asTypeT;have mK:=asMethodKind;have mE:=asMethodElem;have mI:=asMethodImpl;have k27:=asKindT;have k25:=asKindF;have e27:=asElemT;have i25:=asImplF;have n8:=asIsNil ⟨w.heap.size,0,none⟩ ⟨tb,0,none⟩ ((w.alloc (.cells #[Pq tb] 119)).alloc (.cells #[.pointer (some ⟨18,119,none⟩),Pq w.heap.size,.int .u64 150] 164)) (by simp);have hg2:((w.alloc (.cells #[Pq tb] 119)).alloc (.cells #[.pointer (some ⟨18,119,none⟩),Pq w.heap.size,.int .u64 150] 164)).cell? ⟨7,0,none⟩=some (.iface 215 (.agg #[.pointer (some ⟨18,81,none⟩)])):=by rw[World.cell?_alloc_lt _ _ ⟨7,0,none⟩ (by simp;omega),World.cell?_alloc_lt _ _ ⟨7,0,none⟩ hlt];exact hg
 have el:=asElemV ⟨w.heap.size,0,none⟩ ⟨tb,0,none⟩ (((w.alloc (.cells #[Pq tb] 119)).alloc (.cells #[.pointer (some ⟨18,119,none⟩),Pq w.heap.size,.int .u64 150] 164)).alloc (.cells #[.pointer (some ⟨18,119,none⟩),Pq w.heap.size,.int .u64 150] 164)) (by rw[World.cell?_alloc_lt _ _ ⟨w.heap.size,0,none⟩ (by simp;omega)];simp);have st:=asSet tb (w.heap.size+1+1+1) p c o0 o1 ((((w.alloc (.cells #[Pq tb] 119)).alloc (.cells #[.pointer (some ⟨18,119,none⟩),Pq w.heap.size,.int .u64 150] 164)).alloc (.cells #[.pointer (some ⟨18,119,none⟩),Pq w.heap.size,.int .u64 150] 164)).alloc (.cells #[Iq p,c] 117))
  (by rw[World.cell?_alloc_at _ _ _ _ (by simp)];rfl)
  (by rw[World.cell?_alloc_at _ _ _ _ (by simp)];rfl)
  (by rw[World.cell?_alloc_lt _ _ ⟨tb,0,none⟩ (by simp;omega),World.cell?_alloc_lt _ _ ⟨tb,0,none⟩ (by simp;omega),World.cell?_alloc_lt _ _ ⟨tb,0,none⟩ (by simp;omega),World.cell?_alloc_lt _ _ ⟨tb,0,none⟩ htl];exact ht0)
  (by rw[World.cell?_alloc_lt _ _ ⟨tb,1,none⟩ (by simp;omega),World.cell?_alloc_lt _ _ ⟨tb,1,none⟩ (by simp;omega),World.cell?_alloc_lt _ _ ⟨tb,1,none⟩ (by simp;omega),World.cell?_alloc_lt _ _ ⟨tb,1,none⟩ htl];exact ht1)
  (fun j=>by rw[World.frozen?_alloc_old _ _ ⟨tb,j,none⟩ (by simp;omega),World.frozen?_alloc_old _ _ ⟨tb,j,none⟩ (by simp;omega),World.frozen?_alloc_old _ _ ⟨tb,j,none⟩ (by simp;omega),World.frozen?_alloc_old _ _ ⟨tb,j,none⟩ (Nat.ne_of_lt htl)];exact hf0 j) hcl;go_enter func56,ntmps56;go_wp2;refine wp_loop_rounds 1 ?_;rw[rounds_succ];go_wp2;go_ret;exact⟨rfl,rfl⟩
theorem as_miss(tb:Nat)(a:Addr)(w:World)(hlt:7<w.heap.size)(hg:w.cell? ⟨7,0,none⟩=some (.iface 215 (.agg #[.pointer (some ⟨18,81,none⟩)]))):
 Calls prog 56 #[.iface 311 (.pointer (some a)),.iface 119 (Pq tb)] w fun ev w'=>ev=.returned (.bool false)∧w'=(((w.alloc (.cells #[Pq tb] 119)).alloc (.cells #[.pointer (some ⟨18,119,none⟩),Pq w.heap.size,.int .u64 150] 164)).alloc (.cells #[.pointer (some ⟨18,119,none⟩),Pq w.heap.size,.int .u64 150] 164)):=by
 have h6:=xf1.1;have h7:=xf2.1;have h8:=xf3.1;have h27:=xf4.1;have h37:=xf5.1;have h38:=xf6.1;have h10:=xf0.1;have h35:=xf7.1;have tO:=asTypeOfF;have tE:=isTypeOf;have mA:=asMethodAssign;have a25:=asAssignF;have aE:=asAssignE;have v25:=asValF;have f6:=asValT;have f7:=asTypeT;have mK:=asMethodKind;have mE:=asMethodElem;have mI:=asMethodImpl;have k27:=asKindT;have k25:=asKindF;have e27:=asElemT;have i25:=asImplF;have n8:=asIsNil ⟨w.heap.size,0,none⟩ ⟨tb,0,none⟩ ((w.alloc (.cells #[Pq tb] 119)).alloc (.cells #[.pointer (some ⟨18,119,none⟩),Pq w.heap.size,.int .u64 150] 164)) (by simp);have hg2:((w.alloc (.cells #[Pq tb] 119)).alloc (.cells #[.pointer (some ⟨18,119,none⟩),Pq w.heap.size,.int .u64 150] 164)).cell? ⟨7,0,none⟩=some (.iface 215 (.agg #[.pointer (some ⟨18,81,none⟩)])):=by rw[World.cell?_alloc_lt _ _ ⟨7,0,none⟩ (by simp;omega),World.cell?_alloc_lt _ _ ⟨7,0,none⟩ hlt];exact hg
 have nE:=noAsE;have uE:=noUnwrapE;have vE:=noUnwrapsE;go_enter func56,ntmps56;go_wp2;refine wp_loop_rounds 1 ?_;rw[rounds_succ];go_wp2;go_ret;exact⟨rfl,rfl⟩
end
end Go.Proofs.YtmbefonnkkhfgaaGreatDoor
