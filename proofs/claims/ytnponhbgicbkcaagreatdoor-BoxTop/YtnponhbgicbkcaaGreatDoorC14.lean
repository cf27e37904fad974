import Derived.Test.YtnponhbgicbkcaaGreatDoorC09
import Derived.LaidEql
import Derived.Stop.Asserts
import Derived.RowKitTokens
import Derived.WalkKit
set_option linter.unusedVariables false
set_option maxRecDepth 100000
set_option maxHeartbeats 16000000
namespace Go.Proofs.YtnponhbgicbkcaaGreatDoor
section
open Go.RowKit Go.Extern.Stop Go.Stop Go.Extern
theorem z5h(v:Value)(w:World):(Extern.ReflectliteType.typeOf #[.iface 331 v]).run Tryz.prog w=.ok (.iface 213 (.agg #[.pointer (some ⟨18,331,none⟩)])) w:=by kernel_rfl
theorem zg8:∃M:Array Value->Sem Value,Go.Extern.find Tryz.f302=some M∧∀w,(M #[.agg #[.pointer (some ⟨18,331,none⟩)]]).run Tryz.prog w=.ok (.bool true) w:=⟨(Go.Extern.find Tryz.f302).getD fun _=>pure (.bool false),by kernel_rfl,fun w=>by kernel_rfl⟩
theorem z1p (v : Value) (w : World) : (Go.method 472 213 v "Comparable").run Tryz.prog w = .ok (302, v) w := by kernel_rfl
theorem zgm:(Tryz.prog.info? 331).map (·.comparable)=some true:=by kernel_rfl
theorem zgn:(Tryz.prog.info? 333).map (·.size)=some 1:=by kernel_rfl
theorem zsn(v:Value)(xT:TypeId)(w:World):(Instr.typeAssert (.iface 331 v) xT 215 true).run Tryz.prog w=.ok (.tuple #[.nilIface,.bool false]) w:=run_typeAssert_lacksB Tryz.underlying215 (by kernel_rfl) (by kernel_rfl) v xT w
theorem z6r(v:Value)(xT:TypeId)(w:World):(Instr.typeAssert (.iface 331 v) xT 218 true).run Tryz.prog w=.ok (.tuple #[.nilIface,.bool false]) w:=run_typeAssert_lacksB Tryz.underlying218 (by kernel_rfl) (by kernel_rfl) v xT w
theorem z5l(v:Value)(xT:TypeId)(w:World):(Instr.typeAssert (.iface 331 v) xT 220 true).run Tryz.prog w=.ok (.tuple #[.nilIface,.bool false]) w:=run_typeAssert_lacksB Tryz.underlying220 (by kernel_rfl) (by kernel_rfl) v xT w
theorem zso(v:Value)(xT:TypeId)(w:World):(Instr.typeAssert (.iface 137 v) xT 215 true).run Tryz.prog w=.ok (.tuple #[.nilIface,.bool false]) w:=run_typeAssert_lacksB Tryz.underlying215 (by kernel_rfl) (by kernel_rfl) v xT w
theorem z7l(v:Value)(xT:TypeId)(w:World):(Instr.typeAssert (.iface 137 v) xT 218 true).run Tryz.prog w=.ok (.tuple #[.iface 137 v,.bool true]) w:=run_typeAssert_hasB Tryz.underlying218 (by kernel_rfl) v xT w
theorem z4x (v : Value) (w : World) : (Go.method 472 137 v "Unwrap").run Tryz.prog w = .ok (296, v) w := by kernel_rfl
theorem zs6(a:Addr)(w:World) :
 Calls Tryz.prog 70 #[.iface 331 (.pointer (some a)),.iface 331 (.pointer (some a))] w fun e w'=>e=.returned (.bool true)∧w'=w:=by
 obtain⟨i,hi,hcmp⟩:=Option.map_eq_some_iff.1 zgm
 obtain⟨j,hj,hjs⟩:=Option.map_eq_some_iff.1 zgn
 have h8:=@run_callFunc_extern Tryz.prog 108 _ Extern.ReflectliteType.typeOf Tryz.func108 (by kernel_rfl) (by kernel_rfl) (by kernel_rfl) (by kernel_rfl)
 obtain⟨M,hM,cT⟩:=zg8
 have h32:=@run_callFunc_extern Tryz.prog 302 _ M Tryz.func302 (by kernel_rfl) (by kernel_rfl) (by kernel_rfl) hM
 have tT:=z5h
 have mR:=z1p
 have heq:=run_eql_iface_ptr_same (P:=Tryz.prog) w a Tryz.underlying94 Tryz.underlying331 hi hcmp hj
 go_enter Tryz.func70,Tryz.ntmps70
 go_wp2
 refine wp_loop_rounds 1 ?_
 rw[rounds_succ]
 go_wp2
 go_ret
 exact⟨rfl,rfl⟩
theorem zbt(p:Int)(b:Addr)(w:World) :
 Calls Tryz.prog 70 #[.iface 137 (.agg #[.int .i64 p,.iface 331 (.pointer (some b))]),.iface 331 (.pointer (some b))] w fun e w'=>e=.returned (.bool true)∧Below w.heap.size w w':=by
 obtain⟨i,hi,hcmp⟩:=Option.map_eq_some_iff.1 zgm
 obtain⟨j,hj,hjs⟩:=Option.map_eq_some_iff.1 zgn
 have h8:=@run_callFunc_extern Tryz.prog 108 _ Extern.ReflectliteType.typeOf Tryz.func108 (by kernel_rfl) (by kernel_rfl) (by kernel_rfl) (by kernel_rfl)
 obtain⟨M,hM,cT⟩:=zg8
 have h32:=@run_callFunc_extern Tryz.prog 302 _ M Tryz.func302 (by kernel_rfl) (by kernel_rfl) (by kernel_rfl) hM
 have tT:=z5h
 have mR:=z1p
 have nE:=zsn
 have uE:=z6r
 have vE:=z5l
 have nF:=zso
 have uF:=z7l
 have mU:=z4x
 have heq:=fun w=>run_eql_iface_ptr_same (P:=Tryz.prog) w b Tryz.underlying94 Tryz.underlying331 hi hcmp hj
 have hty:=run_eql_iface_types (P:=Tryz.prog) 137 331 (.agg #[.int .i64 p,.iface 331 (.pointer (some b))]) (.pointer (some b)) Tryz.underlying94 (by decide)
 go_enter Tryz.func70,Tryz.ntmps70
 go_wp2
 refine wp_loop_rounds 2 ?_
 rw[rounds_succ]
 go_wp2
 rw[rounds_succ]
 go_wp2
 go_ret
 exact⟨rfl,(Below.refl _ _).alloc (Nat.le_refl _) _⟩
theorem zae(p:Int)(a b:Addr)(ca cb:Array Value)(ta tb:TypeId)(w:World)(hne:a≠b)(ha:w.heap[a.block]?=some (.cells ca ta (0,0)))(hb:w.heap[b.block]?=some (.cells cb tb (0,0))) :
 Calls Tryz.prog 70 #[.iface 137 (.agg #[.int .i64 p,.iface 331 (.pointer (some a))]),.iface 331 (.pointer (some b))] w fun e w'=>e=.returned (.bool false)∧Below w.heap.size w w':=by
 obtain⟨i,hi,hcmp⟩:=Option.map_eq_some_iff.1 zgm
 obtain⟨j,hj,hjs⟩:=Option.map_eq_some_iff.1 zgn
 have h8:=@run_callFunc_extern Tryz.prog 108 _ Extern.ReflectliteType.typeOf Tryz.func108 (by kernel_rfl) (by kernel_rfl) (by kernel_rfl) (by kernel_rfl)
 obtain⟨M,hM,cT⟩:=zg8
 have h32:=@run_callFunc_extern Tryz.prog 302 _ M Tryz.func302 (by kernel_rfl) (by kernel_rfl) (by kernel_rfl) hM
 have tT:=z5h
 have mR:=z1p
 have nE:=zsn
 have uE:=z6r
 have vE:=z5l
 have nF:=zso
 have uF:=z7l
 have mU:=z4x
 have heq:=run_eql_iface_ptr_other (P:=Tryz.prog) (w.alloc (.cells #[.int .i64 p,.iface 331 (.pointer (some a))] 137)) Tryz.underlying94 Tryz.underlying331 hi hcmp hj (by rw[hjs];decide) hne ((heap_alloc_old w _ (Array.getElem?_eq_some_iff.1 ha).1).trans ha) ((heap_alloc_old w _ (Array.getElem?_eq_some_iff.1 hb).1).trans hb)
 have hty:=run_eql_iface_types (P:=Tryz.prog) 137 331 (.agg #[.int .i64 p,.iface 331 (.pointer (some a))]) (.pointer (some b)) Tryz.underlying94 (by decide)
 go_enter Tryz.func70,Tryz.ntmps70
 go_wp2
 refine wp_loop_rounds 2 ?_
 rw[rounds_succ]
 go_wp2
 rw[rounds_succ]
 go_wp2
 go_ret
 exact⟨rfl,(Below.refl _ _).alloc (Nat.le_refl _) _⟩
end
section
open Go.RowKit Go.Extern.Stop Go.Stop Go.Extern
theorem zqo(t:Addr)(w:World):(ReflectliteValue.unpack (.iface 139 (.pointer (some t)))).run Tryz.prog w
 = .ok (.agg #[.pointer (some ⟨18,139,none⟩),.pointer (some ⟨w.heap.size,0,none⟩),.int .u64 150]) (w.alloc (.cells #[.pointer (some t)] 139)):=by kernel_rfl
theorem zjw (a : Addr) (w : World) : (ReflectliteValue.methodAny (ReflectliteValue.valueError "reflectlite.Value.Type" 0) (fun t _ _ _ => ReflectliteType.toType t) #[.agg #[.pointer (some ⟨18, 139, none⟩), .pointer (some a), .int .u64 150]]).run Tryz.prog w
 = .ok (.iface 213 (.agg #[.pointer (some ⟨18,139,none⟩)])) w:=by kernel_rfl
theorem z7z (h : Value) (w : World) : (Go.method 472 213 (.agg #[h]) "Kind").run Tryz.prog w = .ok (292, h) w := by kernel_rfl
theorem zjv(w:World):((ReflectliteType.abiMethod fun t=>(fun a:Nat=>Value.int IntKind.u8 (a:Int)) <$> Rtype.kind t) #[.pointer (some ⟨18,139,none⟩)]).run Tryz.prog w=.ok (.int .u8 22) w:=by kernel_rfl
theorem zju(w:World):((ReflectliteType.abiMethod fun t=>(fun a:Nat=>Value.int IntKind.u8 (a:Int)) <$> Rtype.kind t) #[.pointer (some ⟨18,137,none⟩)]).run Tryz.prog w=.ok (.int .u8 25) w:=by kernel_rfl
theorem zg2(a:Addr)(w:World):(ReflectliteValue.parts (.agg #[.pointer (some ⟨18,139,none⟩),.pointer (some a),.int .u64 150])).run Tryz.prog w=.ok (some (139,a,150)) w:=by kernel_rfl
theorem zjt(a p:Addr)(W:World)(ha:W.cell? a=some (.pointer (some p))) :
 (ReflectliteValue.method (ReflectliteValue.valueError "reflectlite.Value.IsNil" 0) ReflectliteValue.isNil #[.agg #[.pointer (some ⟨18, 139, none⟩), .pointer (some a), .int .u64 150]]).run Tryz.prog W = .ok (.bool false) W := by
 change (bind (m:=Sem) (ReflectliteValue.parts (.agg #[.pointer (some ⟨18,139,none⟩),.pointer (some a),.int .u64 150])) _).run Tryz.prog W=_
 simp only[Sem.run_bind,zg2,Result.andThen]
 simp[ReflectliteValue.isNil,loadVar,isAgg,underlying,Tryz.underlying139,ha,Result.andThen]
theorem z7x (h : Value) (w : World) : (Go.method 472 213 (.agg #[h]) "Elem").run Tryz.prog w = .ok (303, .agg #[h]) w := by kernel_rfl
theorem z7y (h : Value) (w : World) : (Go.method 472 213 (.agg #[h]) "Implements").run Tryz.prog w = .ok (304, .agg #[h]) w := by kernel_rfl
theorem z5q (h : Value) (w : World) : (Go.method 472 213 (.agg #[h]) "AssignableTo").run Tryz.prog w = .ok (301, .agg #[h]) w := by kernel_rfl
theorem zjr(w:World):(ReflectliteType.method ReflectliteType.elem #[.agg #[.pointer (some ⟨18,139,none⟩)]]).run Tryz.prog w=.ok (.iface 213 (.agg #[.pointer (some ⟨18,137,none⟩)])) w:=by kernel_rfl
theorem zjs (w : World) : (ReflectliteType.relation "Implements" ReflectliteType.implements_ #[.agg #[.pointer (some ⟨18, 137, none⟩)], .iface 213 (.agg #[.pointer (some ⟨18, 94, none⟩)])]).run Tryz.prog w = .ok (.bool true) w := by kernel_rfl
theorem zcs(v:Value)(w:World):(ReflectliteType.typeOf #[.iface 137 v]).run Tryz.prog w=.ok (.iface 213 (.agg #[.pointer (some ⟨18,137,none⟩)])) w:=by kernel_rfl
theorem zcr (w : World) : (ReflectliteType.relation "AssignableTo" ReflectliteType.assignableTo #[.agg #[.pointer (some ⟨18, 137, none⟩)], .iface 213 (.agg #[.pointer (some ⟨18, 137, none⟩)])]).run Tryz.prog w = .ok (.bool true) w := by kernel_rfl
theorem zcq (w : World) : (ReflectliteType.relation "AssignableTo" ReflectliteType.assignableTo #[.agg #[.pointer (some ⟨18, 331, none⟩)], .iface 213 (.agg #[.pointer (some ⟨18, 137, none⟩)])]).run Tryz.prog w = .ok (.bool false) w := by kernel_rfl
theorem zqn(p:Int)(c:Value)(w:World):(ReflectliteValue.unpack (.iface 137 (.agg #[.int .i64 p,c]))).run Tryz.prog w
 = .ok (.agg #[.pointer (some ⟨18,137,none⟩),.pointer (some ⟨w.heap.size,0,none⟩),.int .u64 153]) (w.alloc (.cells #[.int .i64 p,c] 137)):=by kernel_rfl
theorem zjq(w:World):(Rtype.elem? 139).run Tryz.prog w=.ok (some 137) w:=by kernel_rfl
theorem zvi(p:Addr)(w:World):(ReflectliteValue.mk 137 p ReflectliteValue.flagAddr).run Tryz.prog w=.ok (.agg #[.pointer (some ⟨18,137,none⟩),.pointer (some p),.int .u64 409]) w:=by kernel_rfl
theorem zrf(a p:Addr)(W:World)(ha:W.cell? a=some (.pointer (some p))) :
 (ReflectliteValue.method (ReflectliteValue.valueError "reflectlite.Value.Elem" 0) ReflectliteValue.elem #[.agg #[.pointer (some ⟨18, 139, none⟩), .pointer (some a), .int .u64 150]]).run Tryz.prog W
  = .ok (.agg #[.pointer (some ⟨18,137,none⟩),.pointer (some p),.int .u64 409]) W:=by
 change (bind (m:=Sem) (ReflectliteValue.parts (.agg #[.pointer (some ⟨18,139,none⟩),.pointer (some a),.int .u64 150])) _).run Tryz.prog W=_
 simp only[Sem.run_bind,zg2,Result.andThen]
 simp[ReflectliteValue.elem,loadVar,isAgg,underlying,Tryz.underlying139,ha,Result.andThen,zjq,zvi]
theorem zo1(a:Addr)(w:World):(ReflectliteValue.parts (.agg #[.pointer (some ⟨18,137,none⟩),.pointer (some a),.int .u64 409])).run Tryz.prog w=.ok (some (137,a,409)) w:=by kernel_rfl
theorem zo2(a:Addr)(w:World):(ReflectliteValue.parts (.agg #[.pointer (some ⟨18,137,none⟩),.pointer (some a),.int .u64 153])).run Tryz.prog w=.ok (some (137,a,153)) w:=by kernel_rfl
theorem znz(w:World):(Rtype.directlyAssignable 137 137).run Tryz.prog w=.ok true w:=by kernel_rfl
theorem zvj(tb bb:Nat)(p:Int)(c o0 o1:Value)(W:World)(hb0:W.cell? ⟨bb,0,none⟩=some (.int .i64 p))(hb1:W.cell? ⟨bb,1,none⟩=some c)(ht0:W.cell? ⟨tb,0,none⟩=some o0)(ht1:W.cell? ⟨tb,1,none⟩=some o1)(hf:∀j,W.frozen? ⟨tb,j,none⟩=false)(hcl:c.oneCell'=true) :
 (ReflectliteValue.set #[.agg #[.pointer (some ⟨18,137,none⟩),.pointer (some ⟨tb,0,none⟩),.int .u64 409],.agg #[.pointer (some ⟨18,137,none⟩),.pointer (some ⟨bb,0,none⟩),.int .u64 153]]).run Tryz.prog W
  = .ok (.tuple #[]) ((W.setCell ⟨tb,0,none⟩ (.int .i64 p)).setCell ⟨tb,1,none⟩ c):=by
 change (bind (m:=Sem) (ReflectliteValue.parts (.agg #[.pointer (some ⟨18,137,none⟩),.pointer (some ⟨tb,0,none⟩),.int .u64 409])) fun _=>bind (m:=Sem) (ReflectliteValue.parts (.agg #[.pointer (some ⟨18,137,none⟩),.pointer (some ⟨bb,0,none⟩),.int .u64 153])) _).run Tryz.prog W=_
 simp only[Sem.run_bind,zo1,zo2,Result.andThen]
 simp[ReflectliteValue.flagAddr,loadVar,loadCells,loadCellsFrom,hb0,hb1,Result.andThen,znz,storeVar,Value.cells,storeCells,Addr.add]
 have e1:(store ⟨tb,0,none⟩ (.int .i64 p)).run Tryz.prog W=.ok () (W.setCell ⟨tb,0,none⟩ (.int .i64 p)):=by
  rw[run_store Tryz.prog W ⟨tb,0,none⟩ _ _ (by rfl)]
  simp[ht0,hf]
 have h1:(W.setCell ⟨tb,0,none⟩ (.int .i64 p)).cell? ⟨tb,1,none⟩=some o1:=(World.cell?_setCell_other _ _ _ _ (fun e=>by injection e with _ e _;omega)).trans ht1
 have h2:(W.setCell ⟨tb,0,none⟩ (.int .i64 p)).frozen? ⟨tb,1,none⟩=false:=(World.frozen?_setCell _ _ _ _).trans (hf 1)
 have e2:(store ⟨tb,1,none⟩ c).run Tryz.prog (W.setCell ⟨tb,0,none⟩ (.int .i64 p))=.ok () ((W.setCell ⟨tb,0,none⟩ (.int .i64 p)).setCell ⟨tb,1,none⟩ c):=by
  rw[run_store Tryz.prog _ ⟨tb,1,none⟩ _ _ hcl]
  simp[h1,h2]
 rw[e1]
 simp only
 rw[e2]
end
section
open Go.RowKit Go.Extern.Stop Go.Stop Go.Extern
theorem zvr(v:Value)(xT:TypeId)(w:World):(Instr.typeAssert (.iface 331 v) xT 225 true).run Tryz.prog w=.ok (.tuple #[.nilIface,.bool false]) w:=run_typeAssert_lacksB Tryz.underlying225 (by kernel_rfl) (by kernel_rfl) v xT w
theorem zts(tb:Nat)(p:Int)(c o0 o1:Value)(w:World)(hlt:6<w.heap.size)(hg:w.cell? ⟨6,0,none⟩=some (.iface 213 (.agg #[.pointer (some ⟨18,94,none⟩)])))(htl:tb<w.heap.size)(ht0:w.cell? ⟨tb,0,none⟩=some o0)(ht1:w.cell? ⟨tb,1,none⟩=some o1)(hf0:∀j,w.frozen? ⟨tb,j,none⟩=false)(hcl:c.oneCell'=true) :
 Calls Tryz.prog 71 #[.iface 137 (.agg #[.int .i64 p,c]),.iface 139 (.pointer (some ⟨tb,0,none⟩))] w fun ev w'=>ev=.returned (.bool true)∧w'=((((((w.alloc (.cells #[.pointer (some ⟨tb,0,none⟩)] 139)).alloc (.cells #[.pointer (some ⟨18,139,none⟩),.pointer (some ⟨w.heap.size,0,none⟩),.int .u64 150] 179)).alloc (.cells #[.pointer (some ⟨18,139,none⟩),.pointer (some ⟨w.heap.size,0,none⟩),.int .u64 150] 179)).alloc (.cells #[.int .i64 p,c] 137)).setCell ⟨tb,0,none⟩ (.int .i64 p)).setCell ⟨tb,1,none⟩ c):=by
 have h6:=@run_callFunc_extern Tryz.prog 110 _ (fun args=>ReflectliteValue.unpack (args.getD 0 (.tuple #[]))) Tryz.func110 (by kernel_rfl) (by kernel_rfl) (by kernel_rfl) (by kernel_rfl)
 have h7 := @run_callFunc_extern Tryz.prog 111 _ (ReflectliteValue.methodAny (ReflectliteValue.valueError "reflectlite.Value.Type" 0) (fun t _ _ _ => ReflectliteType.toType t)) Tryz.func111 (by kernel_rfl) (by kernel_rfl) (by kernel_rfl) (by kernel_rfl)
 have h8 := @run_callFunc_extern Tryz.prog 112 _ (ReflectliteValue.method (ReflectliteValue.valueError "reflectlite.Value.IsNil" 0) ReflectliteValue.isNil) Tryz.func112 (by kernel_rfl) (by kernel_rfl) (by kernel_rfl) (by kernel_rfl)
 have h27:=@run_callFunc_extern Tryz.prog 292 _ (ReflectliteType.abiMethod fun t=>do pure (.int .u8 (<-Rtype.kind t))) Tryz.func292 (by kernel_rfl) (by kernel_rfl) (by kernel_rfl) (by kernel_rfl)
 have h37:=@run_callFunc_extern Tryz.prog 303 _ (ReflectliteType.method ReflectliteType.elem) Tryz.func303 (by kernel_rfl) (by kernel_rfl) (by kernel_rfl) (by kernel_rfl)
 have h38 := @run_callFunc_extern Tryz.prog 304 _ (ReflectliteType.relation "Implements" ReflectliteType.implements_) Tryz.func304 (by kernel_rfl) (by kernel_rfl) (by kernel_rfl) (by kernel_rfl)
 have h10:=@run_callFunc_extern Tryz.prog 108 _ (ReflectliteType.typeOf) Tryz.func108 (by kernel_rfl) (by kernel_rfl) (by kernel_rfl) (by kernel_rfl)
 have h35 := @run_callFunc_extern Tryz.prog 301 _ (ReflectliteType.relation "AssignableTo" ReflectliteType.assignableTo) Tryz.func301 (by kernel_rfl) (by kernel_rfl) (by kernel_rfl) (by kernel_rfl)
 have h11 := @run_callFunc_extern Tryz.prog 152 _ (ReflectliteValue.method (ReflectliteValue.valueError "reflectlite.Value.Elem" 0) ReflectliteValue.elem) Tryz.func152 (by kernel_rfl) (by kernel_rfl) (by kernel_rfl) (by kernel_rfl)
 have h12:=@run_callFunc_extern Tryz.prog 153 _ (ReflectliteValue.set) Tryz.func153 (by kernel_rfl) (by kernel_rfl) (by kernel_rfl) (by kernel_rfl)
 have tO:=zcs
 have tE:=z5h
 have mA:=z5q
 have a25:=zcr
 have aE:=zcq
 have v25:=zqn
 have f6:=zqo
 have f7:=zjw
 have mK:=z7z
 have mE:=z7x
 have mI:=z7y
 have k27:=zjv
 have k25:=zju
 have e27:=zjr
 have i25:=zjs
 have n8:=zjt ⟨w.heap.size,0,none⟩ ⟨tb,0,none⟩ ((w.alloc (.cells #[.pointer (some ⟨tb,0,none⟩)] 139)).alloc (.cells #[.pointer (some ⟨18,139,none⟩),.pointer (some ⟨w.heap.size,0,none⟩),.int .u64 150] 179)) (by simp)
 have hg2:((w.alloc (.cells #[.pointer (some ⟨tb,0,none⟩)] 139)).alloc (.cells #[.pointer (some ⟨18,139,none⟩),.pointer (some ⟨w.heap.size,0,none⟩),.int .u64 150] 179)).cell? ⟨6,0,none⟩=some (.iface 213 (.agg #[.pointer (some ⟨18,94,none⟩)])):=by
  rw[World.cell?_alloc_lt _ _ ⟨6,0,none⟩ (by simp;omega),World.cell?_alloc_lt _ _ ⟨6,0,none⟩ hlt];exact hg
 have el:=zrf ⟨w.heap.size,0,none⟩ ⟨tb,0,none⟩ (((w.alloc (.cells #[.pointer (some ⟨tb,0,none⟩)] 139)).alloc (.cells #[.pointer (some ⟨18,139,none⟩),.pointer (some ⟨w.heap.size,0,none⟩),.int .u64 150] 179)).alloc (.cells #[.pointer (some ⟨18,139,none⟩),.pointer (some ⟨w.heap.size,0,none⟩),.int .u64 150] 179)) (by rw[World.cell?_alloc_lt _ _ ⟨w.heap.size,0,none⟩ (by simp;omega)];simp)
 have st:=zvj tb (w.heap.size+1+1+1) p c o0 o1 ((((w.alloc (.cells #[.pointer (some ⟨tb,0,none⟩)] 139)).alloc (.cells #[.pointer (some ⟨18,139,none⟩),.pointer (some ⟨w.heap.size,0,none⟩),.int .u64 150] 179)).alloc (.cells #[.pointer (some ⟨18,139,none⟩),.pointer (some ⟨w.heap.size,0,none⟩),.int .u64 150] 179)).alloc (.cells #[.int .i64 p,c] 137))
  (by rw[World.cell?_alloc_at _ _ _ _ (by simp)];rfl)
  (by rw[World.cell?_alloc_at _ _ _ _ (by simp)];rfl)
  (by rw[World.cell?_alloc_lt _ _ ⟨tb,0,none⟩ (by simp;omega),World.cell?_alloc_lt _ _ ⟨tb,0,none⟩ (by simp;omega),World.cell?_alloc_lt _ _ ⟨tb,0,none⟩ (by simp;omega),World.cell?_alloc_lt _ _ ⟨tb,0,none⟩ htl];exact ht0)
  (by rw[World.cell?_alloc_lt _ _ ⟨tb,1,none⟩ (by simp;omega),World.cell?_alloc_lt _ _ ⟨tb,1,none⟩ (by simp;omega),World.cell?_alloc_lt _ _ ⟨tb,1,none⟩ (by simp;omega),World.cell?_alloc_lt _ _ ⟨tb,1,none⟩ htl];exact ht1)
  (fun j=>by rw[World.frozen?_alloc_old _ _ ⟨tb,j,none⟩ (by simp;omega),World.frozen?_alloc_old _ _ ⟨tb,j,none⟩ (by simp;omega),World.frozen?_alloc_old _ _ ⟨tb,j,none⟩ (by simp;omega),World.frozen?_alloc_old _ _ ⟨tb,j,none⟩ (Nat.ne_of_lt htl)];exact hf0 j) hcl
 go_enter Tryz.func71,Tryz.ntmps71
 go_wp2
 refine wp_loop_rounds 1 ?_
 rw[rounds_succ]
 go_wp2
 go_ret
 exact⟨rfl,rfl⟩
theorem zrg(tb:Nat)(a:Addr)(w:World)(hlt:6<w.heap.size)(hg:w.cell? ⟨6,0,none⟩=some (.iface 213 (.agg #[.pointer (some ⟨18,94,none⟩)]))) :
 Calls Tryz.prog 71 #[.iface 331 (.pointer (some a)),.iface 139 (.pointer (some ⟨tb,0,none⟩))] w fun ev w'=>ev=.returned (.bool false)∧w'=(((w.alloc (.cells #[.pointer (some ⟨tb,0,none⟩)] 139)).alloc (.cells #[.pointer (some ⟨18,139,none⟩),.pointer (some ⟨w.heap.size,0,none⟩),.int .u64 150] 179)).alloc (.cells #[.pointer (some ⟨18,139,none⟩),.pointer (some ⟨w.heap.size,0,none⟩),.int .u64 150] 179)):=by
 have h6:=@run_callFunc_extern Tryz.prog 110 _ (fun args=>ReflectliteValue.unpack (args.getD 0 (.tuple #[]))) Tryz.func110 (by kernel_rfl) (by kernel_rfl) (by kernel_rfl) (by kernel_rfl)
 have h7 := @run_callFunc_extern Tryz.prog 111 _ (ReflectliteValue.methodAny (ReflectliteValue.valueError "reflectlite.Value.Type" 0) (fun t _ _ _ => ReflectliteType.toType t)) Tryz.func111 (by kernel_rfl) (by kernel_rfl) (by kernel_rfl) (by kernel_rfl)
 have h8 := @run_callFunc_extern Tryz.prog 112 _ (ReflectliteValue.method (ReflectliteValue.valueError "reflectlite.Value.IsNil" 0) ReflectliteValue.isNil) Tryz.func112 (by kernel_rfl) (by kernel_rfl) (by kernel_rfl) (by kernel_rfl)
 have h27:=@run_callFunc_extern Tryz.prog 292 _ (ReflectliteType.abiMethod fun t=>do pure (.int .u8 (<-Rtype.kind t))) Tryz.func292 (by kernel_rfl) (by kernel_rfl) (by kernel_rfl) (by kernel_rfl)
 have h37:=@run_callFunc_extern Tryz.prog 303 _ (ReflectliteType.method ReflectliteType.elem) Tryz.func303 (by kernel_rfl) (by kernel_rfl) (by kernel_rfl) (by kernel_rfl)
 have h38 := @run_callFunc_extern Tryz.prog 304 _ (ReflectliteType.relation "Implements" ReflectliteType.implements_) Tryz.func304 (by kernel_rfl) (by kernel_rfl) (by kernel_rfl) (by kernel_rfl)
 have h10:=@run_callFunc_extern Tryz.prog 108 _ (ReflectliteType.typeOf) Tryz.func108 (by kernel_rfl) (by kernel_rfl) (by kernel_rfl) (by kernel_rfl)
 have h35 := @run_callFunc_extern Tryz.prog 301 _ (ReflectliteType.relation "AssignableTo" ReflectliteType.assignableTo) Tryz.func301 (by kernel_rfl) (by kernel_rfl) (by kernel_rfl) (by kernel_rfl)
 have tO:=zcs
 have tE:=z5h
 have mA:=z5q
 have a25:=zcr
 have aE:=zcq
 have v25:=zqn
 have f6:=zqo
 have f7:=zjw
 have mK:=z7z
 have mE:=z7x
 have mI:=z7y
 have k27:=zjv
 have k25:=zju
 have e27:=zjr
 have i25:=zjs
 have n8:=zjt ⟨w.heap.size,0,none⟩ ⟨tb,0,none⟩ ((w.alloc (.cells #[.pointer (some ⟨tb,0,none⟩)] 139)).alloc (.cells #[.pointer (some ⟨18,139,none⟩),.pointer (some ⟨w.heap.size,0,none⟩),.int .u64 150] 179)) (by simp)
 have hg2:((w.alloc (.cells #[.pointer (some ⟨tb,0,none⟩)] 139)).alloc (.cells #[.pointer (some ⟨18,139,none⟩),.pointer (some ⟨w.heap.size,0,none⟩),.int .u64 150] 179)).cell? ⟨6,0,none⟩=some (.iface 213 (.agg #[.pointer (some ⟨18,94,none⟩)])):=by
  rw[World.cell?_alloc_lt _ _ ⟨6,0,none⟩ (by simp;omega),World.cell?_alloc_lt _ _ ⟨6,0,none⟩ hlt];exact hg
 have nE:=zvr
 have uE:=z6r
 have vE:=z5l
 go_enter Tryz.func71,Tryz.ntmps71
 go_wp2
 refine wp_loop_rounds 1 ?_
 rw[rounds_succ]
 go_wp2
 go_ret
 exact⟨rfl,rfl⟩
end
end Go.Proofs.YtnponhbgicbkcaaGreatDoor
