import Derived.Test.YtmmaicpblnjdcaaGreatDoorB09
import Derived.LaidEql
import Derived.Stop.Asserts
import Derived.RowKitTokens
import Derived.WalkKit
set_option linter.unusedVariables false
set_option maxRecDepth 100000
set_option maxHeartbeats 16000000
namespace Go.Proofs.YtmmaicpblnjdcaaGreatDoor
section
open Go.RowKit Go.Extern.Stop Go.Stop Go.Extern
theorem z5n(v:Value)(w:World):(Extern.ReflectliteType.typeOf #[.iface 273 v]).run Tryz.prog w=.ok (.iface 141 (.agg #[.pointer (some ⟨18,273,none⟩)])) w:=by kernel_rfl
theorem zgl:∃M:Array Value->Sem Value,Go.Extern.find Tryz.f257=some M∧∀w,(M #[.agg #[.pointer (some ⟨18,273,none⟩)]]).run Tryz.prog w=.ok (.bool true) w:=⟨(Go.Extern.find Tryz.f257).getD fun _=>pure (.bool false),by kernel_rfl,fun w=>by kernel_rfl⟩
theorem z1r (v : Value) (w : World) : (Go.method 422 141 v "Comparable").run Tryz.prog w = .ok (257, v) w := by kernel_rfl
theorem zgx:(Tryz.prog.info? 273).map (·.comparable)=some true:=by kernel_rfl
theorem zgy:(Tryz.prog.info? 275).map (·.size)=some 1:=by kernel_rfl
theorem zsu(v:Value)(xT:TypeId)(w:World):(Instr.typeAssert (.iface 273 v) xT 143 true).run Tryz.prog w=.ok (.tuple #[.nilIface,.bool false]) w:=run_typeAssert_lacksB Tryz.underlying143 (by kernel_rfl) (by kernel_rfl) v xT w
theorem z6y(v:Value)(xT:TypeId)(w:World):(Instr.typeAssert (.iface 273 v) xT 146 true).run Tryz.prog w=.ok (.tuple #[.nilIface,.bool false]) w:=run_typeAssert_lacksB Tryz.underlying146 (by kernel_rfl) (by kernel_rfl) v xT w
theorem z5r(v:Value)(xT:TypeId)(w:World):(Instr.typeAssert (.iface 273 v) xT 148 true).run Tryz.prog w=.ok (.tuple #[.nilIface,.bool false]) w:=run_typeAssert_lacksB Tryz.underlying148 (by kernel_rfl) (by kernel_rfl) v xT w
theorem zsv(v:Value)(xT:TypeId)(w:World):(Instr.typeAssert (.iface 78 v) xT 143 true).run Tryz.prog w=.ok (.tuple #[.nilIface,.bool false]) w:=run_typeAssert_lacksB Tryz.underlying143 (by kernel_rfl) (by kernel_rfl) v xT w
theorem z7r(v:Value)(xT:TypeId)(w:World):(Instr.typeAssert (.iface 78 v) xT 146 true).run Tryz.prog w=.ok (.tuple #[.iface 78 v,.bool true]) w:=run_typeAssert_hasB Tryz.underlying146 (by kernel_rfl) v xT w
theorem z55 (v : Value) (w : World) : (Go.method 422 78 v "Unwrap").run Tryz.prog w = .ok (251, v) w := by kernel_rfl
theorem zse(a:Addr)(w:World) :
 Calls Tryz.prog 35 #[.iface 273 (.pointer (some a)),.iface 273 (.pointer (some a))] w fun e w'=>e=.returned (.bool true)∧w'=w:=by
 obtain⟨i,hi,hcmp⟩:=Option.map_eq_some_iff.1 zgx
 obtain⟨j,hj,hjs⟩:=Option.map_eq_some_iff.1 zgy
 have h8:=@run_callFunc_extern Tryz.prog 52 _ Extern.ReflectliteType.typeOf Tryz.func52 (by kernel_rfl) (by kernel_rfl) (by kernel_rfl) (by kernel_rfl)
 obtain⟨M,hM,cT⟩:=zgl
 have h32:=@run_callFunc_extern Tryz.prog 257 _ M Tryz.func257 (by kernel_rfl) (by kernel_rfl) (by kernel_rfl) hM
 have tT:=z5n
 have mR:=z1r
 have heq:=run_eql_iface_ptr_same (P:=Tryz.prog) w a Tryz.underlying55 Tryz.underlying273 hi hcmp hj
 go_enter Tryz.func35,Tryz.ntmps35
 go_wp2
 refine wp_loop_rounds 1 ?_
 rw[rounds_succ]
 go_wp2
 go_ret
 exact⟨rfl,rfl⟩
theorem zc2(p:Int)(b:Addr)(w:World) :
 Calls Tryz.prog 35 #[.iface 78 (.agg #[.int .i64 p,.iface 273 (.pointer (some b))]),.iface 273 (.pointer (some b))] w fun e w'=>e=.returned (.bool true)∧Below w.heap.size w w':=by
 obtain⟨i,hi,hcmp⟩:=Option.map_eq_some_iff.1 zgx
 obtain⟨j,hj,hjs⟩:=Option.map_eq_some_iff.1 zgy
 have h8:=@run_callFunc_extern Tryz.prog 52 _ Extern.ReflectliteType.typeOf Tryz.func52 (by kernel_rfl) (by kernel_rfl) (by kernel_rfl) (by kernel_rfl)
 obtain⟨M,hM,cT⟩:=zgl
 have h32:=@run_callFunc_extern Tryz.prog 257 _ M Tryz.func257 (by kernel_rfl) (by kernel_rfl) (by kernel_rfl) hM
 have tT:=z5n
 have mR:=z1r
 have nE:=zsu
 have uE:=z6y
 have vE:=z5r
 have nF:=zsv
 have uF:=z7r
 have mU:=z55
 have heq:=fun w=>run_eql_iface_ptr_same (P:=Tryz.prog) w b Tryz.underlying55 Tryz.underlying273 hi hcmp hj
 have hty:=run_eql_iface_types (P:=Tryz.prog) 78 273 (.agg #[.int .i64 p,.iface 273 (.pointer (some b))]) (.pointer (some b)) Tryz.underlying55 (by decide)
 go_enter Tryz.func35,Tryz.ntmps35
 go_wp2
 refine wp_loop_rounds 2 ?_
 rw[rounds_succ]
 go_wp2
 rw[rounds_succ]
 go_wp2
 go_ret
 exact⟨rfl,(Below.refl _ _).alloc (Nat.le_refl _) _⟩
theorem zam(p:Int)(a b:Addr)(ca cb:Array Value)(ta tb:TypeId)(w:World)(hne:a≠b)(ha:w.heap[a.block]?=some (.cells ca ta (0,0)))(hb:w.heap[b.block]?=some (.cells cb tb (0,0))) :
 Calls Tryz.prog 35 #[.iface 78 (.agg #[.int .i64 p,.iface 273 (.pointer (some a))]),.iface 273 (.pointer (some b))] w fun e w'=>e=.returned (.bool false)∧Below w.heap.size w w':=by
 obtain⟨i,hi,hcmp⟩:=Option.map_eq_some_iff.1 zgx
 obtain⟨j,hj,hjs⟩:=Option.map_eq_some_iff.1 zgy
 have h8:=@run_callFunc_extern Tryz.prog 52 _ Extern.ReflectliteType.typeOf Tryz.func52 (by kernel_rfl) (by kernel_rfl) (by kernel_rfl) (by kernel_rfl)
 obtain⟨M,hM,cT⟩:=zgl
 have h32:=@run_callFunc_extern Tryz.prog 257 _ M Tryz.func257 (by kernel_rfl) (by kernel_rfl) (by kernel_rfl) hM
 have tT:=z5n
 have mR:=z1r
 have nE:=zsu
 have uE:=z6y
 have vE:=z5r
 have nF:=zsv
 have uF:=z7r
 have mU:=z55
 have heq:=run_eql_iface_ptr_other (P:=Tryz.prog) (w.alloc (.cells #[.int .i64 p,.iface 273 (.pointer (some a))] 78)) Tryz.underlying55 Tryz.underlying273 hi hcmp hj (by rw[hjs];decide) hne ((heap_alloc_old w _ (Array.getElem?_eq_some_iff.1 ha).1).trans ha) ((heap_alloc_old w _ (Array.getElem?_eq_some_iff.1 hb).1).trans hb)
 have hty:=run_eql_iface_types (P:=Tryz.prog) 78 273 (.agg #[.int .i64 p,.iface 273 (.pointer (some a))]) (.pointer (some b)) Tryz.underlying55 (by decide)
 go_enter Tryz.func35,Tryz.ntmps35
 go_wp2
 refine wp_loop_rounds 2 ?_
 rw[rounds_succ]
 go_wp2
 rw[rounds_succ]
 go_wp2
 go_ret
 exact⟨rfl,(Below.refl _ _).alloc (Nat.le_refl _) _⟩
end
section
open Go.RowKit Go.Extern.Stop Go.Stop Go.Extern
theorem zqx(t:Addr)(w:World):(ReflectliteValue.unpack (.iface 80 (.pointer (some t)))).run Tryz.prog w
 = .ok (.agg #[.pointer (some ⟨18,80,none⟩),.pointer (some ⟨w.heap.size,0,none⟩),.int .u64 150]) (w.alloc (.cells #[.pointer (some t)] 80)):=by kernel_rfl
theorem zk9 (a : Addr) (w : World) : (ReflectliteValue.methodAny (ReflectliteValue.valueError "reflectlite.Value.Type" 0) (fun t _ _ _ => ReflectliteType.toType t) #[.agg #[.pointer (some ⟨18, 80, none⟩), .pointer (some a), .int .u64 150]]).run Tryz.prog w
 = .ok (.iface 141 (.agg #[.pointer (some ⟨18,80,none⟩)])) w:=by kernel_rfl
theorem z89 (h : Value) (w : World) : (Go.method 422 141 (.agg #[h]) "Kind").run Tryz.prog w = .ok (247, h) w := by kernel_rfl
theorem zk8(w:World):((ReflectliteType.abiMethod fun t=>(fun a:Nat=>Value.int IntKind.u8 (a:Int)) <$> Rtype.kind t) #[.pointer (some ⟨18,80,none⟩)]).run Tryz.prog w=.ok (.int .u8 22) w:=by kernel_rfl
theorem zk7(w:World):((ReflectliteType.abiMethod fun t=>(fun a:Nat=>Value.int IntKind.u8 (a:Int)) <$> Rtype.kind t) #[.pointer (some ⟨18,78,none⟩)]).run Tryz.prog w=.ok (.int .u8 25) w:=by kernel_rfl
theorem zgf(a:Addr)(w:World):(ReflectliteValue.parts (.agg #[.pointer (some ⟨18,80,none⟩),.pointer (some a),.int .u64 150])).run Tryz.prog w=.ok (some (80,a,150)) w:=by kernel_rfl
theorem zk6(a p:Addr)(W:World)(ha:W.cell? a=some (.pointer (some p))) :
 (ReflectliteValue.method (ReflectliteValue.valueError "reflectlite.Value.IsNil" 0) ReflectliteValue.isNil #[.agg #[.pointer (some ⟨18, 80, none⟩), .pointer (some a), .int .u64 150]]).run Tryz.prog W = .ok (.bool false) W := by
 change (bind (m:=Sem) (ReflectliteValue.parts (.agg #[.pointer (some ⟨18,80,none⟩),.pointer (some a),.int .u64 150])) _).run Tryz.prog W=_
 simp only[Sem.run_bind,zgf,Result.andThen]
 simp[ReflectliteValue.isNil,loadVar,isAgg,underlying,Tryz.underlying80,ha,Result.andThen]
theorem z87 (h : Value) (w : World) : (Go.method 422 141 (.agg #[h]) "Elem").run Tryz.prog w = .ok (258, .agg #[h]) w := by kernel_rfl
theorem z88 (h : Value) (w : World) : (Go.method 422 141 (.agg #[h]) "Implements").run Tryz.prog w = .ok (259, .agg #[h]) w := by kernel_rfl
theorem z5w (h : Value) (w : World) : (Go.method 422 141 (.agg #[h]) "AssignableTo").run Tryz.prog w = .ok (256, .agg #[h]) w := by kernel_rfl
theorem zk4(w:World):(ReflectliteType.method ReflectliteType.elem #[.agg #[.pointer (some ⟨18,80,none⟩)]]).run Tryz.prog w=.ok (.iface 141 (.agg #[.pointer (some ⟨18,78,none⟩)])) w:=by kernel_rfl
theorem zk5 (w : World) : (ReflectliteType.relation "Implements" ReflectliteType.implements_ #[.agg #[.pointer (some ⟨18, 78, none⟩)], .iface 141 (.agg #[.pointer (some ⟨18, 55, none⟩)])]).run Tryz.prog w = .ok (.bool true) w := by kernel_rfl
theorem zd1(v:Value)(w:World):(ReflectliteType.typeOf #[.iface 78 v]).run Tryz.prog w=.ok (.iface 141 (.agg #[.pointer (some ⟨18,78,none⟩)])) w:=by kernel_rfl
theorem zd0 (w : World) : (ReflectliteType.relation "AssignableTo" ReflectliteType.assignableTo #[.agg #[.pointer (some ⟨18, 78, none⟩)], .iface 141 (.agg #[.pointer (some ⟨18, 78, none⟩)])]).run Tryz.prog w = .ok (.bool true) w := by kernel_rfl
theorem zcz (w : World) : (ReflectliteType.relation "AssignableTo" ReflectliteType.assignableTo #[.agg #[.pointer (some ⟨18, 273, none⟩)], .iface 141 (.agg #[.pointer (some ⟨18, 78, none⟩)])]).run Tryz.prog w = .ok (.bool false) w := by kernel_rfl
theorem zqw(p:Int)(c:Value)(w:World):(ReflectliteValue.unpack (.iface 78 (.agg #[.int .i64 p,c]))).run Tryz.prog w
 = .ok (.agg #[.pointer (some ⟨18,78,none⟩),.pointer (some ⟨w.heap.size,0,none⟩),.int .u64 153]) (w.alloc (.cells #[.int .i64 p,c] 78)):=by kernel_rfl
theorem zk3(w:World):(Rtype.elem? 80).run Tryz.prog w=.ok (some 78) w:=by kernel_rfl
theorem zvp(p:Addr)(w:World):(ReflectliteValue.mk 78 p ReflectliteValue.flagAddr).run Tryz.prog w=.ok (.agg #[.pointer (some ⟨18,78,none⟩),.pointer (some p),.int .u64 409]) w:=by kernel_rfl
theorem zrp(a p:Addr)(W:World)(ha:W.cell? a=some (.pointer (some p))) :
 (ReflectliteValue.method (ReflectliteValue.valueError "reflectlite.Value.Elem" 0) ReflectliteValue.elem #[.agg #[.pointer (some ⟨18, 80, none⟩), .pointer (some a), .int .u64 150]]).run Tryz.prog W
  = .ok (.agg #[.pointer (some ⟨18,78,none⟩),.pointer (some p),.int .u64 409]) W:=by
 change (bind (m:=Sem) (ReflectliteValue.parts (.agg #[.pointer (some ⟨18,80,none⟩),.pointer (some a),.int .u64 150])) _).run Tryz.prog W=_
 simp only[Sem.run_bind,zgf,Result.andThen]
 simp[ReflectliteValue.elem,loadVar,isAgg,underlying,Tryz.underlying80,ha,Result.andThen,zk3,zvp]
theorem zoc(a:Addr)(w:World):(ReflectliteValue.parts (.agg #[.pointer (some ⟨18,78,none⟩),.pointer (some a),.int .u64 409])).run Tryz.prog w=.ok (some (78,a,409)) w:=by kernel_rfl
theorem zod(a:Addr)(w:World):(ReflectliteValue.parts (.agg #[.pointer (some ⟨18,78,none⟩),.pointer (some a),.int .u64 153])).run Tryz.prog w=.ok (some (78,a,153)) w:=by kernel_rfl
theorem zoa(w:World):(Rtype.directlyAssignable 78 78).run Tryz.prog w=.ok true w:=by kernel_rfl
theorem zvq(tb bb:Nat)(p:Int)(c o0 o1:Value)(W:World)(hb0:W.cell? ⟨bb,0,none⟩=some (.int .i64 p))(hb1:W.cell? ⟨bb,1,none⟩=some c)(ht0:W.cell? ⟨tb,0,none⟩=some o0)(ht1:W.cell? ⟨tb,1,none⟩=some o1)(hf:∀j,W.frozen? ⟨tb,j,none⟩=false)(hcl:c.oneCell'=true) :
 (ReflectliteValue.set #[.agg #[.pointer (some ⟨18,78,none⟩),.pointer (some ⟨tb,0,none⟩),.int .u64 409],.agg #[.pointer (some ⟨18,78,none⟩),.pointer (some ⟨bb,0,none⟩),.int .u64 153]]).run Tryz.prog W
  = .ok (.tuple #[]) ((W.setCell ⟨tb,0,none⟩ (.int .i64 p)).setCell ⟨tb,1,none⟩ c):=by
 change (bind (m:=Sem) (ReflectliteValue.parts (.agg #[.pointer (some ⟨18,78,none⟩),.pointer (some ⟨tb,0,none⟩),.int .u64 409])) fun _=>bind (m:=Sem) (ReflectliteValue.parts (.agg #[.pointer (some ⟨18,78,none⟩),.pointer (some ⟨bb,0,none⟩),.int .u64 153])) _).run Tryz.prog W=_
 simp only[Sem.run_bind,zoc,zod,Result.andThen]
 simp[ReflectliteValue.flagAddr,loadVar,loadCells,loadCellsFrom,hb0,hb1,Result.andThen,zoa,storeVar,Value.cells,storeCells,Addr.add]
 have e1:(store ⟨tb,0,none⟩ (.int .i64 p)).run Tryz.prog W=.ok () (W.setCell ⟨tb,0,none⟩ (.int .i64 p)):=by
  rw[run_store Tryz.prog W ⟨tb,0,none⟩ _ _ (by rfl)]
  simp[ht0,hf]
 have h1:(W.setCell ⟨tb,0,none⟩ (.int .i64 p)).cell? ⟨tb,1,none⟩=some o1:=(World.cell?_setCell_other _ _ _ _ (fun e=>by injection e with _ e _;omega)).trans ht1
 have h2:(W.setCell ⟨tb,0,none⟩ (.int .i64 p)).frozen? ⟨tb,1,none⟩=false:=(World.frozen?_setCell _ _ _ _).trans (hf 1)
 have e2:(store ⟨tb,1,none⟩ c).run Tryz.prog (W.setCell ⟨tb,0,none⟩ (.int .i64 p))=.ok () ((W.setCell ⟨tb,0,none⟩ (.int .i64 p)).setCell ⟨tb,1,none⟩ c):=by
  rw[run_store Tryz.prog _ ⟨tb,1,none⟩ _ _ hcl]
  simp[h1,h2]
 rw[e1]
 simp only
 rw[e2]
end
section
open Go.RowKit Go.Extern.Stop Go.Stop Go.Extern
theorem zvy(v:Value)(xT:TypeId)(w:World):(Instr.typeAssert (.iface 273 v) xT 153 true).run Tryz.prog w=.ok (.tuple #[.nilIface,.bool false]) w:=run_typeAssert_lacksB Tryz.underlying153 (by kernel_rfl) (by kernel_rfl) v xT w
theorem zu0(tb:Nat)(p:Int)(c o0 o1:Value)(w:World)(hlt:6<w.heap.size)(hg:w.cell? ⟨6,0,none⟩=some (.iface 141 (.agg #[.pointer (some ⟨18,55,none⟩)])))(htl:tb<w.heap.size)(ht0:w.cell? ⟨tb,0,none⟩=some o0)(ht1:w.cell? ⟨tb,1,none⟩=some o1)(hf0:∀j,w.frozen? ⟨tb,j,none⟩=false)(hcl:c.oneCell'=true) :
 Calls Tryz.prog 36 #[.iface 78 (.agg #[.int .i64 p,c]),.iface 80 (.pointer (some ⟨tb,0,none⟩))] w fun ev w'=>ev=.returned (.bool true)∧w'=((((((w.alloc (.cells #[.pointer (some ⟨tb,0,none⟩)] 80)).alloc (.cells #[.pointer (some ⟨18,80,none⟩),.pointer (some ⟨w.heap.size,0,none⟩),.int .u64 150] 110)).alloc (.cells #[.pointer (some ⟨18,80,none⟩),.pointer (some ⟨w.heap.size,0,none⟩),.int .u64 150] 110)).alloc (.cells #[.int .i64 p,c] 78)).setCell ⟨tb,0,none⟩ (.int .i64 p)).setCell ⟨tb,1,none⟩ c):=by
 have h6:=@run_callFunc_extern Tryz.prog 54 _ (fun args=>ReflectliteValue.unpack (args.getD 0 (.tuple #[]))) Tryz.func54 (by kernel_rfl) (by kernel_rfl) (by kernel_rfl) (by kernel_rfl)
 have h7 := @run_callFunc_extern Tryz.prog 55 _ (ReflectliteValue.methodAny (ReflectliteValue.valueError "reflectlite.Value.Type" 0) (fun t _ _ _ => ReflectliteType.toType t)) Tryz.func55 (by kernel_rfl) (by kernel_rfl) (by kernel_rfl) (by kernel_rfl)
 have h8 := @run_callFunc_extern Tryz.prog 56 _ (ReflectliteValue.method (ReflectliteValue.valueError "reflectlite.Value.IsNil" 0) ReflectliteValue.isNil) Tryz.func56 (by kernel_rfl) (by kernel_rfl) (by kernel_rfl) (by kernel_rfl)
 have h27:=@run_callFunc_extern Tryz.prog 247 _ (ReflectliteType.abiMethod fun t=>do pure (.int .u8 (<-Rtype.kind t))) Tryz.func247 (by kernel_rfl) (by kernel_rfl) (by kernel_rfl) (by kernel_rfl)
 have h37:=@run_callFunc_extern Tryz.prog 258 _ (ReflectliteType.method ReflectliteType.elem) Tryz.func258 (by kernel_rfl) (by kernel_rfl) (by kernel_rfl) (by kernel_rfl)
 have h38 := @run_callFunc_extern Tryz.prog 259 _ (ReflectliteType.relation "Implements" ReflectliteType.implements_) Tryz.func259 (by kernel_rfl) (by kernel_rfl) (by kernel_rfl) (by kernel_rfl)
 have h10:=@run_callFunc_extern Tryz.prog 52 _ (ReflectliteType.typeOf) Tryz.func52 (by kernel_rfl) (by kernel_rfl) (by kernel_rfl) (by kernel_rfl)
 have h35 := @run_callFunc_extern Tryz.prog 256 _ (ReflectliteType.relation "AssignableTo" ReflectliteType.assignableTo) Tryz.func256 (by kernel_rfl) (by kernel_rfl) (by kernel_rfl) (by kernel_rfl)
 have h11 := @run_callFunc_extern Tryz.prog 92 _ (ReflectliteValue.method (ReflectliteValue.valueError "reflectlite.Value.Elem" 0) ReflectliteValue.elem) Tryz.func92 (by kernel_rfl) (by kernel_rfl) (by kernel_rfl) (by kernel_rfl)
 have h12:=@run_callFunc_extern Tryz.prog 93 _ (ReflectliteValue.set) Tryz.func93 (by kernel_rfl) (by kernel_rfl) (by kernel_rfl) (by kernel_rfl)
 have tO:=zd1
 have tE:=z5n
 have mA:=z5w
 have a25:=zd0
 have aE:=zcz
 have v25:=zqw
 have f6:=zqx
 have f7:=zk9
 have mK:=z89
 have mE:=z87
 have mI:=z88
 have k27:=zk8
 have k25:=zk7
 have e27:=zk4
 have i25:=zk5
 have n8:=zk6 ⟨w.heap.size,0,none⟩ ⟨tb,0,none⟩ ((w.alloc (.cells #[.pointer (some ⟨tb,0,none⟩)] 80)).alloc (.cells #[.pointer (some ⟨18,80,none⟩),.pointer (some ⟨w.heap.size,0,none⟩),.int .u64 150] 110)) (by simp)
 have hg2:((w.alloc (.cells #[.pointer (some ⟨tb,0,none⟩)] 80)).alloc (.cells #[.pointer (some ⟨18,80,none⟩),.pointer (some ⟨w.heap.size,0,none⟩),.int .u64 150] 110)).cell? ⟨6,0,none⟩=some (.iface 141 (.agg #[.pointer (some ⟨18,55,none⟩)])):=by
  rw[World.cell?_alloc_lt _ _ ⟨6,0,none⟩ (by simp;omega),World.cell?_alloc_lt _ _ ⟨6,0,none⟩ hlt];exact hg
 have el:=zrp ⟨w.heap.size,0,none⟩ ⟨tb,0,none⟩ (((w.alloc (.cells #[.pointer (some ⟨tb,0,none⟩)] 80)).alloc (.cells #[.pointer (some ⟨18,80,none⟩),.pointer (some ⟨w.heap.size,0,none⟩),.int .u64 150] 110)).alloc (.cells #[.pointer (some ⟨18,80,none⟩),.pointer (some ⟨w.heap.size,0,none⟩),.int .u64 150] 110)) (by rw[World.cell?_alloc_lt _ _ ⟨w.heap.size,0,none⟩ (by simp;omega)];simp)
 have st:=zvq tb (w.heap.size+1+1+1) p c o0 o1 ((((w.alloc (.cells #[.pointer (some ⟨tb,0,none⟩)] 80)).alloc (.cells #[.pointer (some ⟨18,80,none⟩),.pointer (some ⟨w.heap.size,0,none⟩),.int .u64 150] 110)).alloc (.cells #[.pointer (some ⟨18,80,none⟩),.pointer (some ⟨w.heap.size,0,none⟩),.int .u64 150] 110)).alloc (.cells #[.int .i64 p,c] 78))
  (by rw[World.cell?_alloc_at _ _ _ _ (by simp)];rfl)
  (by rw[World.cell?_alloc_at _ _ _ _ (by simp)];rfl)
  (by rw[World.cell?_alloc_lt _ _ ⟨tb,0,none⟩ (by simp;omega),World.cell?_alloc_lt _ _ ⟨tb,0,none⟩ (by simp;omega),World.cell?_alloc_lt _ _ ⟨tb,0,none⟩ (by simp;omega),World.cell?_alloc_lt _ _ ⟨tb,0,none⟩ htl];exact ht0)
  (by rw[World.cell?_alloc_lt _ _ ⟨tb,1,none⟩ (by simp;omega),World.cell?_alloc_lt _ _ ⟨tb,1,none⟩ (by simp;omega),World.cell?_alloc_lt _ _ ⟨tb,1,none⟩ (by simp;omega),World.cell?_alloc_lt _ _ ⟨tb,1,none⟩ htl];exact ht1)
  (fun j=>by rw[World.frozen?_alloc_old _ _ ⟨tb,j,none⟩ (by simp;omega),World.frozen?_alloc_old _ _ ⟨tb,j,none⟩ (by simp;omega),World.frozen?_alloc_old _ _ ⟨tb,j,none⟩ (by simp;omega),World.frozen?_alloc_old _ _ ⟨tb,j,none⟩ (Nat.ne_of_lt htl)];exact hf0 j) hcl
 go_enter Tryz.func36,Tryz.ntmps36
 go_wp2
 refine wp_loop_rounds 1 ?_
 rw[rounds_succ]
 go_wp2
 go_ret
 exact⟨rfl,rfl⟩
theorem zrq(tb:Nat)(a:Addr)(w:World)(hlt:6<w.heap.size)(hg:w.cell? ⟨6,0,none⟩=some (.iface 141 (.agg #[.pointer (some ⟨18,55,none⟩)]))) :
 Calls Tryz.prog 36 #[.iface 273 (.pointer (some a)),.iface 80 (.pointer (some ⟨tb,0,none⟩))] w fun ev w'=>ev=.returned (.bool false)∧w'=(((w.alloc (.cells #[.pointer (some ⟨tb,0,none⟩)] 80)).alloc (.cells #[.pointer (some ⟨18,80,none⟩),.pointer (some ⟨w.heap.size,0,none⟩),.int .u64 150] 110)).alloc (.cells #[.pointer (some ⟨18,80,none⟩),.pointer (some ⟨w.heap.size,0,none⟩),.int .u64 150] 110)):=by
 have h6:=@run_callFunc_extern Tryz.prog 54 _ (fun args=>ReflectliteValue.unpack (args.getD 0 (.tuple #[]))) Tryz.func54 (by kernel_rfl) (by kernel_rfl) (by kernel_rfl) (by kernel_rfl)
 have h7 := @run_callFunc_extern Tryz.prog 55 _ (ReflectliteValue.methodAny (ReflectliteValue.valueError "reflectlite.Value.Type" 0) (fun t _ _ _ => ReflectliteType.toType t)) Tryz.func55 (by kernel_rfl) (by kernel_rfl) (by kernel_rfl) (by kernel_rfl)
 have h8 := @run_callFunc_extern Tryz.prog 56 _ (ReflectliteValue.method (ReflectliteValue.valueError "reflectlite.Value.IsNil" 0) ReflectliteValue.isNil) Tryz.func56 (by kernel_rfl) (by kernel_rfl) (by kernel_rfl) (by kernel_rfl)
 have h27:=@run_callFunc_extern Tryz.prog 247 _ (ReflectliteType.abiMethod fun t=>do pure (.int .u8 (<-Rtype.kind t))) Tryz.func247 (by kernel_rfl) (by kernel_rfl) (by kernel_rfl) (by kernel_rfl)
 have h37:=@run_callFunc_extern Tryz.prog 258 _ (ReflectliteType.method ReflectliteType.elem) Tryz.func258 (by kernel_rfl) (by kernel_rfl) (by kernel_rfl) (by kernel_rfl)
 have h38 := @run_callFunc_extern Tryz.prog 259 _ (ReflectliteType.relation "Implements" ReflectliteType.implements_) Tryz.func259 (by kernel_rfl) (by kernel_rfl) (by kernel_rfl) (by kernel_rfl)
 have h10:=@run_callFunc_extern Tryz.prog 52 _ (ReflectliteType.typeOf) Tryz.func52 (by kernel_rfl) (by kernel_rfl) (by kernel_rfl) (by kernel_rfl)
 have h35 := @run_callFunc_extern Tryz.prog 256 _ (ReflectliteType.relation "AssignableTo" ReflectliteType.assignableTo) Tryz.func256 (by kernel_rfl) (by kernel_rfl) (by kernel_rfl) (by kernel_rfl)
 have tO:=zd1
 have tE:=z5n
 have mA:=z5w
 have a25:=zd0
 have aE:=zcz
 have v25:=zqw
 have f6:=zqx
 have f7:=zk9
 have mK:=z89
 have mE:=z87
 have mI:=z88
 have k27:=zk8
 have k25:=zk7
 have e27:=zk4
 have i25:=zk5
 have n8:=zk6 ⟨w.heap.size,0,none⟩ ⟨tb,0,none⟩ ((w.alloc (.cells #[.pointer (some ⟨tb,0,none⟩)] 80)).alloc (.cells #[.pointer (some ⟨18,80,none⟩),.pointer (some ⟨w.heap.size,0,none⟩),.int .u64 150] 110)) (by simp)
 have hg2:((w.alloc (.cells #[.pointer (some ⟨tb,0,none⟩)] 80)).alloc (.cells #[.pointer (some ⟨18,80,none⟩),.pointer (some ⟨w.heap.size,0,none⟩),.int .u64 150] 110)).cell? ⟨6,0,none⟩=some (.iface 141 (.agg #[.pointer (some ⟨18,55,none⟩)])):=by
  rw[World.cell?_alloc_lt _ _ ⟨6,0,none⟩ (by simp;omega),World.cell?_alloc_lt _ _ ⟨6,0,none⟩ hlt];exact hg
 have nE:=zvy
 have uE:=z6y
 have vE:=z5r
 go_enter Tryz.func36,Tryz.ntmps36
 go_wp2
 refine wp_loop_rounds 1 ?_
 rw[rounds_succ]
 go_wp2
 go_ret
 exact⟨rfl,rfl⟩
end
end Go.Proofs.YtmmaicpblnjdcaaGreatDoor
