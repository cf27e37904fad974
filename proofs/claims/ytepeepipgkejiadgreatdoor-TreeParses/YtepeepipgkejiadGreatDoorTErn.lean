/-
  errors.As at a fault: the model's entries for internal/reflectlite at this program's types, and Go's own text walked.
-/
import Derived.Test.YtepeepipgkejiadGreatDoorTIs
import Derived.WalkKit
import Derived.Test.YtepeepipgkejiadGreatDoorTRt
namespace Go.Proofs.YtepeepipgkejiadGreatDoor
open Go.RowKit Go.Extern.Stop Go.Stop Go.Extern
set_option linter.unusedVariables false

theorem asValT (t : Addr) (w : World) : (ReflectliteValue.unpack (.iface 68 (.pointer (some t)))).run Tryz.prog w
    = .ok (.agg #[.pointer (some ⟨15, 68, none⟩), .pointer (some ⟨w.heap.size, 0, none⟩), .int .u64 150]) (w.alloc (.cells #[.pointer (some t)] 68)) := by kernel_rfl
theorem asTypeT (a : Addr) (w : World) : (ReflectliteValue.methodAny (ReflectliteValue.valueError "reflectlite.Value.Type" 0) (fun t _ _ _ => ReflectliteType.toType t) #[.agg #[.pointer (some ⟨15, 68, none⟩), .pointer (some a), .int .u64 150]]).run Tryz.prog w
    = .ok (.iface 127 (.agg #[.pointer (some ⟨15, 68, none⟩)])) w := by kernel_rfl
theorem asMethodKind (h : Value) (w : World) : (Go.method 390 127 (.agg #[h]) "Kind").run Tryz.prog w = .ok (181, h) w := by kernel_rfl
theorem asKindT (w : World) : ((ReflectliteType.abiMethod fun t => (fun a : Nat => Value.int IntKind.u8 (a : Int)) <$> Rtype.kind t) #[.pointer (some ⟨15, 68, none⟩)]).run Tryz.prog w = .ok (.int .u8 22) w := by kernel_rfl
theorem asKindF (w : World) : ((ReflectliteType.abiMethod fun t => (fun a : Nat => Value.int IntKind.u8 (a : Int)) <$> Rtype.kind t) #[.pointer (some ⟨15, 66, none⟩)]).run Tryz.prog w = .ok (.int .u8 25) w := by kernel_rfl
theorem asPartsT (a : Addr) (w : World) : (ReflectliteValue.parts (.agg #[.pointer (some ⟨15, 68, none⟩), .pointer (some a), .int .u64 150])).run Tryz.prog w = .ok (some (68, a, 150)) w := by kernel_rfl
theorem asIsNil (a p : Addr) (W : World) (ha : W.cell? a = some (.pointer (some p))) :
    (ReflectliteValue.method (ReflectliteValue.valueError "reflectlite.Value.IsNil" 0) ReflectliteValue.isNil #[.agg #[.pointer (some ⟨15, 68, none⟩), .pointer (some a), .int .u64 150]]).run Tryz.prog W = .ok (.bool false) W := by
  change (bind (m := Sem) (ReflectliteValue.parts (.agg #[.pointer (some ⟨15, 68, none⟩), .pointer (some a), .int .u64 150])) _).run Tryz.prog W = _
  simp only [Sem.run_bind, asPartsT, Result.andThen]
  simp [ReflectliteValue.isNil, loadVar, isAgg, underlying, Tryz.underlying68, ha, Result.andThen]
theorem asMethodElem (h : Value) (w : World) : (Go.method 390 127 (.agg #[h]) "Elem").run Tryz.prog w = .ok (193, .agg #[h]) w := by kernel_rfl
theorem asMethodImpl (h : Value) (w : World) : (Go.method 390 127 (.agg #[h]) "Implements").run Tryz.prog w = .ok (194, .agg #[h]) w := by kernel_rfl
theorem asMethodAssign (h : Value) (w : World) : (Go.method 390 127 (.agg #[h]) "AssignableTo").run Tryz.prog w = .ok (191, .agg #[h]) w := by kernel_rfl
theorem asElemT (w : World) : (ReflectliteType.method ReflectliteType.elem #[.agg #[.pointer (some ⟨15, 68, none⟩)]]).run Tryz.prog w = .ok (.iface 127 (.agg #[.pointer (some ⟨15, 66, none⟩)])) w := by kernel_rfl
theorem asImplF (w : World) : (ReflectliteType.relation "Implements" ReflectliteType.implements_ #[.agg #[.pointer (some ⟨15, 66, none⟩)], .iface 127 (.agg #[.pointer (some ⟨15, 42, none⟩)])]).run Tryz.prog w = .ok (.bool true) w := by kernel_rfl
theorem asTypeOfF (v : Value) (w : World) : (ReflectliteType.typeOf #[.iface 66 v]).run Tryz.prog w = .ok (.iface 127 (.agg #[.pointer (some ⟨15, 66, none⟩)])) w := by kernel_rfl
theorem asAssignF (w : World) : (ReflectliteType.relation "AssignableTo" ReflectliteType.assignableTo #[.agg #[.pointer (some ⟨15, 66, none⟩)], .iface 127 (.agg #[.pointer (some ⟨15, 66, none⟩)])]).run Tryz.prog w = .ok (.bool true) w := by kernel_rfl
theorem asAssignE (w : World) : (ReflectliteType.relation "AssignableTo" ReflectliteType.assignableTo #[.agg #[.pointer (some ⟨15, 242, none⟩)], .iface 127 (.agg #[.pointer (some ⟨15, 66, none⟩)])]).run Tryz.prog w = .ok (.bool false) w := by kernel_rfl
theorem asValF (p : Int) (c : Value) (w : World) : (ReflectliteValue.unpack (.iface 66 (.agg #[.int .i64 p, c]))).run Tryz.prog w
    = .ok (.agg #[.pointer (some ⟨15, 66, none⟩), .pointer (some ⟨w.heap.size, 0, none⟩), .int .u64 153]) (w.alloc (.cells #[.int .i64 p, c] 66)) := by kernel_rfl
theorem asElemOfT (w : World) : (Rtype.elem? 68).run Tryz.prog w = .ok (some 66) w := by kernel_rfl
theorem asMkF (p : Addr) (w : World) : (ReflectliteValue.mk 66 p ReflectliteValue.flagAddr).run Tryz.prog w = .ok (.agg #[.pointer (some ⟨15, 66, none⟩), .pointer (some p), .int .u64 409]) w := by kernel_rfl
theorem asElemV (a p : Addr) (W : World) (ha : W.cell? a = some (.pointer (some p))) :
    (ReflectliteValue.method (ReflectliteValue.valueError "reflectlite.Value.Elem" 0) ReflectliteValue.elem #[.agg #[.pointer (some ⟨15, 68, none⟩), .pointer (some a), .int .u64 150]]).run Tryz.prog W
      = .ok (.agg #[.pointer (some ⟨15, 66, none⟩), .pointer (some p), .int .u64 409]) W := by
  change (bind (m := Sem) (ReflectliteValue.parts (.agg #[.pointer (some ⟨15, 68, none⟩), .pointer (some a), .int .u64 150])) _).run Tryz.prog W = _
  simp only [Sem.run_bind, asPartsT, Result.andThen]
  simp [ReflectliteValue.elem, loadVar, isAgg, underlying, Tryz.underlying68, ha, Result.andThen, asElemOfT, asMkF]
theorem asPartsA (a : Addr) (w : World) : (ReflectliteValue.parts (.agg #[.pointer (some ⟨15, 66, none⟩), .pointer (some a), .int .u64 409])).run Tryz.prog w = .ok (some (66, a, 409)) w := by kernel_rfl
theorem asPartsF (a : Addr) (w : World) : (ReflectliteValue.parts (.agg #[.pointer (some ⟨15, 66, none⟩), .pointer (some a), .int .u64 153])).run Tryz.prog w = .ok (some (66, a, 153)) w := by kernel_rfl
theorem asDirect (w : World) : (Rtype.directlyAssignable 66 66).run Tryz.prog w = .ok true w := by kernel_rfl
theorem asAgg (w : World) : (isAgg 66).run Tryz.prog w = .ok true w := by kernel_rfl
theorem asSize (w : World) : (sizeOf 66).run Tryz.prog w = .ok 2 w := by kernel_rfl
theorem asSet (tb bb : Nat) (p : Int) (c o0 o1 : Value) (W : World) (hb0 : W.cell? ⟨bb, 0, none⟩ = some (.int .i64 p)) (hb1 : W.cell? ⟨bb, 1, none⟩ = some c) (ht0 : W.cell? ⟨tb, 0, none⟩ = some o0) (ht1 : W.cell? ⟨tb, 1, none⟩ = some o1) (hf : ∀ j, W.frozen? ⟨tb, j, none⟩ = false) (hcl : c.oneCell' = true) :
    (ReflectliteValue.set #[.agg #[.pointer (some ⟨15, 66, none⟩), .pointer (some ⟨tb, 0, none⟩), .int .u64 409], .agg #[.pointer (some ⟨15, 66, none⟩), .pointer (some ⟨bb, 0, none⟩), .int .u64 153]]).run Tryz.prog W
      = .ok (.tuple #[]) ((W.setCell ⟨tb, 0, none⟩ (.int .i64 p)).setCell ⟨tb, 1, none⟩ c) := by
  change (bind (m := Sem) (ReflectliteValue.parts (.agg #[.pointer (some ⟨15, 66, none⟩), .pointer (some ⟨tb, 0, none⟩), .int .u64 409])) fun _ => bind (m := Sem) (ReflectliteValue.parts (.agg #[.pointer (some ⟨15, 66, none⟩), .pointer (some ⟨bb, 0, none⟩), .int .u64 153])) _).run Tryz.prog W = _
  simp only [Sem.run_bind, asPartsA, asPartsF, Result.andThen]
  simp [ReflectliteValue.flagAddr, loadVar, loadCells, loadCellsFrom, hb0, hb1, Result.andThen, asDirect, storeVar, Value.cells, storeCells, Addr.add]
  have e1 : (store ⟨tb, 0, none⟩ (.int .i64 p)).run Tryz.prog W = .ok () (W.setCell ⟨tb, 0, none⟩ (.int .i64 p)) := by
    rw [run_store Tryz.prog W ⟨tb, 0, none⟩ _ _ (by rfl)]
    simp [ht0, hf]
  have h1 : (W.setCell ⟨tb, 0, none⟩ (.int .i64 p)).cell? ⟨tb, 1, none⟩ = some o1 := (World.cell?_setCell_other _ _ _ _ (fun e => by injection e with _ e _; omega)).trans ht1
  have h2 : (W.setCell ⟨tb, 0, none⟩ (.int .i64 p)).frozen? ⟨tb, 1, none⟩ = false := (World.frozen?_setCell _ _ _ _).trans (hf 1)
  have e2 : (store ⟨tb, 1, none⟩ c).run Tryz.prog (W.setCell ⟨tb, 0, none⟩ (.int .i64 p)) = .ok () ((W.setCell ⟨tb, 0, none⟩ (.int .i64 p)).setCell ⟨tb, 1, none⟩ c) := by
    rw [run_store Tryz.prog _ ⟨tb, 1, none⟩ _ _ hcl]
    simp [h1, h2]
  rw [e1]
  simp only
  rw [e2]
end Go.Proofs.YtepeepipgkejiadGreatDoor

namespace Go.Proofs.YtepeepipgkejiadGreatDoor
open Go.RowKit Go.Extern.Stop Go.Stop Go.Extern
set_option linter.unusedVariables false

theorem noAsE (v : Value) (xT : TypeId) (w : World) : (Instr.typeAssert (.iface 242 v) xT 139 true).run Tryz.prog w = .ok (.tuple #[.nilIface, .bool false]) w := run_typeAssert_lacksB Tryz.underlying139 (by kernel_rfl) (by kernel_rfl) v xT w

set_option maxRecDepth 100000 in
set_option maxHeartbeats 8000000 in
theorem as_hit (tb : Nat) (p : Int) (c o0 o1 : Value) (w : World) (hlt : 7 < w.heap.size) (hg : w.cell? ⟨7, 0, none⟩ = some (.iface 127 (.agg #[.pointer (some ⟨15, 42, none⟩)]))) (htl : tb < w.heap.size) (ht0 : w.cell? ⟨tb, 0, none⟩ = some o0) (ht1 : w.cell? ⟨tb, 1, none⟩ = some o1) (hf0 : ∀ j, w.frozen? ⟨tb, j, none⟩ = false) (hcl : c.oneCell' = true) :
    Calls Tryz.prog 28 #[.iface 66 (.agg #[.int .i64 p, c]), .iface 68 (.pointer (some ⟨tb, 0, none⟩))] w fun ev w' => ev = .returned (.bool true) ∧ w' = ((((((w.alloc (.cells #[.pointer (some ⟨tb, 0, none⟩)] 68)).alloc (.cells #[.pointer (some ⟨15, 68, none⟩), .pointer (some ⟨w.heap.size, 0, none⟩), .int .u64 150] 101)).alloc (.cells #[.pointer (some ⟨15, 68, none⟩), .pointer (some ⟨w.heap.size, 0, none⟩), .int .u64 150] 101)).alloc (.cells #[.int .i64 p, c] 66)).setCell ⟨tb, 0, none⟩ (.int .i64 p)).setCell ⟨tb, 1, none⟩ c) := by
  have h6 := @run_callFunc_extern Tryz.prog 60 _ (fun args => ReflectliteValue.unpack (args.getD 0 (.tuple #[]))) Tryz.func60 (by kernel_rfl) (by kernel_rfl) (by kernel_rfl) (by kernel_rfl)
  have h7 := @run_callFunc_extern Tryz.prog 61 _ (ReflectliteValue.methodAny (ReflectliteValue.valueError "reflectlite.Value.Type" 0) (fun t _ _ _ => ReflectliteType.toType t)) Tryz.func61 (by kernel_rfl) (by kernel_rfl) (by kernel_rfl) (by kernel_rfl)
  have h8 := @run_callFunc_extern Tryz.prog 62 _ (ReflectliteValue.method (ReflectliteValue.valueError "reflectlite.Value.IsNil" 0) ReflectliteValue.isNil) Tryz.func62 (by kernel_rfl) (by kernel_rfl) (by kernel_rfl) (by kernel_rfl)
  have h27 := @run_callFunc_extern Tryz.prog 181 _ (ReflectliteType.abiMethod fun t => do pure (.int .u8 (← Rtype.kind t))) Tryz.func181 (by kernel_rfl) (by kernel_rfl) (by kernel_rfl) (by kernel_rfl)
  have h37 := @run_callFunc_extern Tryz.prog 193 _ (ReflectliteType.method ReflectliteType.elem) Tryz.func193 (by kernel_rfl) (by kernel_rfl) (by kernel_rfl) (by kernel_rfl)
  have h38 := @run_callFunc_extern Tryz.prog 194 _ (ReflectliteType.relation "Implements" ReflectliteType.implements_) Tryz.func194 (by kernel_rfl) (by kernel_rfl) (by kernel_rfl) (by kernel_rfl)
  have h10 := @run_callFunc_extern Tryz.prog 58 _ (ReflectliteType.typeOf) Tryz.func58 (by kernel_rfl) (by kernel_rfl) (by kernel_rfl) (by kernel_rfl)
  have h35 := @run_callFunc_extern Tryz.prog 191 _ (ReflectliteType.relation "AssignableTo" ReflectliteType.assignableTo) Tryz.func191 (by kernel_rfl) (by kernel_rfl) (by kernel_rfl) (by kernel_rfl)
  have h11 := @run_callFunc_extern Tryz.prog 87 _ (ReflectliteValue.method (ReflectliteValue.valueError "reflectlite.Value.Elem" 0) ReflectliteValue.elem) Tryz.func87 (by kernel_rfl) (by kernel_rfl) (by kernel_rfl) (by kernel_rfl)
  have h12 := @run_callFunc_extern Tryz.prog 88 _ (ReflectliteValue.set) Tryz.func88 (by kernel_rfl) (by kernel_rfl) (by kernel_rfl) (by kernel_rfl)
  have tO := asTypeOfF
  have tE := isTypeOf
  have mA := asMethodAssign
  have a25 := asAssignF
  have aE := asAssignE
  have v25 := asValF
  have f6 := asValT
  have f7 := asTypeT
  have mK := asMethodKind
  have mE := asMethodElem
  have mI := asMethodImpl
  have k27 := asKindT
  have k25 := asKindF
  have e27 := asElemT
  have i25 := asImplF
  have n8 := asIsNil ⟨w.heap.size, 0, none⟩ ⟨tb, 0, none⟩ ((w.alloc (.cells #[.pointer (some ⟨tb, 0, none⟩)] 68)).alloc (.cells #[.pointer (some ⟨15, 68, none⟩), .pointer (some ⟨w.heap.size, 0, none⟩), .int .u64 150] 101)) (by simp)
  have hg2 : ((w.alloc (.cells #[.pointer (some ⟨tb, 0, none⟩)] 68)).alloc (.cells #[.pointer (some ⟨15, 68, none⟩), .pointer (some ⟨w.heap.size, 0, none⟩), .int .u64 150] 101)).cell? ⟨7, 0, none⟩ = some (.iface 127 (.agg #[.pointer (some ⟨15, 42, none⟩)])) := by
    rw [World.cell?_alloc_lt _ _ ⟨7, 0, none⟩ (by simp; omega), World.cell?_alloc_lt _ _ ⟨7, 0, none⟩ hlt]; exact hg
  have el := asElemV ⟨w.heap.size, 0, none⟩ ⟨tb, 0, none⟩ (((w.alloc (.cells #[.pointer (some ⟨tb, 0, none⟩)] 68)).alloc (.cells #[.pointer (some ⟨15, 68, none⟩), .pointer (some ⟨w.heap.size, 0, none⟩), .int .u64 150] 101)).alloc (.cells #[.pointer (some ⟨15, 68, none⟩), .pointer (some ⟨w.heap.size, 0, none⟩), .int .u64 150] 101)) (by rw [World.cell?_alloc_lt _ _ ⟨w.heap.size, 0, none⟩ (by simp; omega)]; simp)
  have st := asSet tb (w.heap.size + 1 + 1 + 1) p c o0 o1 ((((w.alloc (.cells #[.pointer (some ⟨tb, 0, none⟩)] 68)).alloc (.cells #[.pointer (some ⟨15, 68, none⟩), .pointer (some ⟨w.heap.size, 0, none⟩), .int .u64 150] 101)).alloc (.cells #[.pointer (some ⟨15, 68, none⟩), .pointer (some ⟨w.heap.size, 0, none⟩), .int .u64 150] 101)).alloc (.cells #[.int .i64 p, c] 66))
    (by rw [World.cell?_alloc_at _ _ _ _ (by simp)]; rfl)
    (by rw [World.cell?_alloc_at _ _ _ _ (by simp)]; rfl)
    (by rw [World.cell?_alloc_lt _ _ ⟨tb, 0, none⟩ (by simp; omega), World.cell?_alloc_lt _ _ ⟨tb, 0, none⟩ (by simp; omega), World.cell?_alloc_lt _ _ ⟨tb, 0, none⟩ (by simp; omega), World.cell?_alloc_lt _ _ ⟨tb, 0, none⟩ htl]; exact ht0)
    (by rw [World.cell?_alloc_lt _ _ ⟨tb, 1, none⟩ (by simp; omega), World.cell?_alloc_lt _ _ ⟨tb, 1, none⟩ (by simp; omega), World.cell?_alloc_lt _ _ ⟨tb, 1, none⟩ (by simp; omega), World.cell?_alloc_lt _ _ ⟨tb, 1, none⟩ htl]; exact ht1)
    (fun j => by rw [World.frozen?_alloc_old _ _ ⟨tb, j, none⟩ (by simp; omega), World.frozen?_alloc_old _ _ ⟨tb, j, none⟩ (by simp; omega), World.frozen?_alloc_old _ _ ⟨tb, j, none⟩ (by simp; omega), World.frozen?_alloc_old _ _ ⟨tb, j, none⟩ (Nat.ne_of_lt htl)]; exact hf0 j) hcl
  go_enter Tryz.func28, Tryz.ntmps28
  go_wp2
  refine wp_loop_rounds 1 ?_
  rw [rounds_succ]
  go_wp2
  go_ret
  exact ⟨rfl, rfl⟩

set_option maxRecDepth 100000 in
set_option maxHeartbeats 8000000 in
theorem as_miss (tb : Nat) (a : Addr) (w : World) (hlt : 7 < w.heap.size) (hg : w.cell? ⟨7, 0, none⟩ = some (.iface 127 (.agg #[.pointer (some ⟨15, 42, none⟩)]))) :
    Calls Tryz.prog 28 #[.iface 242 (.pointer (some a)), .iface 68 (.pointer (some ⟨tb, 0, none⟩))] w fun ev w' => ev = .returned (.bool false) ∧ w' = (((w.alloc (.cells #[.pointer (some ⟨tb, 0, none⟩)] 68)).alloc (.cells #[.pointer (some ⟨15, 68, none⟩), .pointer (some ⟨w.heap.size, 0, none⟩), .int .u64 150] 101)).alloc (.cells #[.pointer (some ⟨15, 68, none⟩), .pointer (some ⟨w.heap.size, 0, none⟩), .int .u64 150] 101)) := by
  have h6 := @run_callFunc_extern Tryz.prog 60 _ (fun args => ReflectliteValue.unpack (args.getD 0 (.tuple #[]))) Tryz.func60 (by kernel_rfl) (by kernel_rfl) (by kernel_rfl) (by kernel_rfl)
  have h7 := @run_callFunc_extern Tryz.prog 61 _ (ReflectliteValue.methodAny (ReflectliteValue.valueError "reflectlite.Value.Type" 0) (fun t _ _ _ => ReflectliteType.toType t)) Tryz.func61 (by kernel_rfl) (by kernel_rfl) (by kernel_rfl) (by kernel_rfl)
  have h8 := @run_callFunc_extern Tryz.prog 62 _ (ReflectliteValue.method (ReflectliteValue.valueError "reflectlite.Value.IsNil" 0) ReflectliteValue.isNil) Tryz.func62 (by kernel_rfl) (by kernel_rfl) (by kernel_rfl) (by kernel_rfl)
  have h27 := @run_callFunc_extern Tryz.prog 181 _ (ReflectliteType.abiMethod fun t => do pure (.int .u8 (← Rtype.kind t))) Tryz.func181 (by kernel_rfl) (by kernel_rfl) (by kernel_rfl) (by kernel_rfl)
  have h37 := @run_callFunc_extern Tryz.prog 193 _ (ReflectliteType.method ReflectliteType.elem) Tryz.func193 (by kernel_rfl) (by kernel_rfl) (by kernel_rfl) (by kernel_rfl)
  have h38 := @run_callFunc_extern Tryz.prog 194 _ (ReflectliteType.relation "Implements" ReflectliteType.implements_) Tryz.func194 (by kernel_rfl) (by kernel_rfl) (by kernel_rfl) (by kernel_rfl)
  have h10 := @run_callFunc_extern Tryz.prog 58 _ (ReflectliteType.typeOf) Tryz.func58 (by kernel_rfl) (by kernel_rfl) (by kernel_rfl) (by kernel_rfl)
  have h35 := @run_callFunc_extern Tryz.prog 191 _ (ReflectliteType.relation "AssignableTo" ReflectliteType.assignableTo) Tryz.func191 (by kernel_rfl) (by kernel_rfl) (by kernel_rfl) (by kernel_rfl)
  have tO := asTypeOfF
  have tE := isTypeOf
  have mA := asMethodAssign
  have a25 := asAssignF
  have aE := asAssignE
  have v25 := asValF
  have f6 := asValT
  have f7 := asTypeT
  have mK := asMethodKind
  have mE := asMethodElem
  have mI := asMethodImpl
  have k27 := asKindT
  have k25 := asKindF
  have e27 := asElemT
  have i25 := asImplF
  have n8 := asIsNil ⟨w.heap.size, 0, none⟩ ⟨tb, 0, none⟩ ((w.alloc (.cells #[.pointer (some ⟨tb, 0, none⟩)] 68)).alloc (.cells #[.pointer (some ⟨15, 68, none⟩), .pointer (some ⟨w.heap.size, 0, none⟩), .int .u64 150] 101)) (by simp)
  have hg2 : ((w.alloc (.cells #[.pointer (some ⟨tb, 0, none⟩)] 68)).alloc (.cells #[.pointer (some ⟨15, 68, none⟩), .pointer (some ⟨w.heap.size, 0, none⟩), .int .u64 150] 101)).cell? ⟨7, 0, none⟩ = some (.iface 127 (.agg #[.pointer (some ⟨15, 42, none⟩)])) := by
    rw [World.cell?_alloc_lt _ _ ⟨7, 0, none⟩ (by simp; omega), World.cell?_alloc_lt _ _ ⟨7, 0, none⟩ hlt]; exact hg
  have nE := noAsE
  have uE := noUnwrapE
  have vE := noUnwrapsE
  go_enter Tryz.func28, Tryz.ntmps28
  go_wp2
  refine wp_loop_rounds 1 ?_
  rw [rounds_succ]
  go_wp2
  go_ret
  exact ⟨rfl, rfl⟩
end Go.Proofs.YtepeepipgkejiadGreatDoor

namespace Go.Proofs.YtepeepipgkejiadGreatDoor
open Go.RowKit
set_option linter.unusedVariables false

/-- What the errors' blocks are: seven, and apart. -/
structure Apart (W : World) (E : Nat → Addr) : Prop where
  blk : ∀ c, 1 ≤ c → c ≤ 7 → ∃ xs t, W.heap[(E c).block]? = some (.cells xs t (0, 0))
  inj : ∀ c d, 1 ≤ c → c ≤ 7 → 1 ≤ d → d ≤ 7 → c ≠ d → E c ≠ E d
theorem Apart.below {W W' : World} {E : Nat → Addr} (h : Apart W E) (hb : Below W.heap.size W W') : Apart W' E :=
  ⟨fun c h1 h2 => by
    obtain ⟨xs, t, hx⟩ := h.blk c h1 h2
    exact ⟨xs, t, (hb.block _ (Array.getElem?_eq_some_iff.1 hx).1).trans hx⟩, h.inj⟩
def errC : Option (Nat × Nat) → Nat
  | none => 1
  | some (c, _) => c
def errP : Option (Nat × Nat) → Nat
  | none => 0
  | some (_, p) => p
/-- errors.Is of a fault, and one of the seven. -/
theorem is_fault (p : Int) (c d : Nat) (E : Nat → Addr) (w : World) (hA : Apart w E) (hc : 1 ≤ c ∧ c ≤ 7) (hd : 1 ≤ d ∧ d ≤ 7) :
    Calls Tryz.prog 27 #[faultV p (errV (E c)), errV (E d)] w fun e w' => e = .returned (.bool (decide (c = d))) ∧ Below w.heap.size w w' := by
  by_cases h : c = d
  · subst h
    rw [decide_eq_true rfl]
    exact is_fault_same p (E c) w
  · rw [decide_eq_false h]
    obtain ⟨xs, t, hx⟩ := hA.blk c hc.1 hc.2
    obtain ⟨ys, u, hy⟩ := hA.blk d hd.1 hd.2
    exact is_fault_other p (E c) (E d) xs ys t u w (hA.inj c d hc.1 hc.2 hd.1 hd.2 h) hx hy
theorem Glo.cells {W W' : World} {E : Nat → Addr} (h : Glo W E) (hb : Below W.heap.size W W') : Glo W' E := by
  have sz := h.sz
  have c : ∀ (g : Nat) (v : Value), g < 12 → W.cell? ⟨g, 0, none⟩ = some v → W'.cell? ⟨g, 0, none⟩ = some v := fun g v hg hv => (hb.cell (p := ⟨g, 0, none⟩) (by show g < _; omega)).trans hv
  exact ⟨Nat.le_trans sz hb.size, fun j hj => (hb.cell (p := ⟨6, j, none⟩) (by show 6 < _; omega)).trans (h.kn j hj), c _ _ (by decide) h.g1, c _ _ (by decide) h.g2, c _ _ (by decide) h.g3, c _ _ (by decide) h.g4, c _ _ (by decide) h.g5, c _ _ (by decide) h.g6, c _ _ (by decide) h.g7⟩

set_option maxRecDepth 100000 in
theorem errno_long (E : Nat → Addr) (w : World) (hG : Glo w E) : Calls Tryz.prog 16 #[errV (E 1)] w fun e w' => e = .returned (.int .i64 1) ∧ w' = w := by
  have IS : Hid (Calls Tryz.prog 27 #[errV (E 1), errV (E 1)] w fun e w' => e = .returned (.bool true) ∧ w' = w) := is_same (E 1) w
  have g1 := hG.g1
  unfold errV at *
  go_enter Tryz.func16, Tryz.ntmps16
  go_wp2_with (go_at_call 27; refine Calls.mono IS.out ?_; rintro e w1 ⟨rfl, hw⟩; obtain rfl := hw.symm)
  go_ret
  exact ⟨rfl, rfl⟩

set_option maxRecDepth 100000 in
set_option maxHeartbeats 2000000 in
theorem errno_2 (p : Int) (E : Nat → Addr) (w : World) (hG : Glo w E) (hA : Apart w E) : Calls Tryz.prog 16 #[faultV p (errV (E 2))] w fun e w' => e = .returned (.int .i64 2) ∧ Below w.heap.size w w' := by
  have IS : Hid (∀ (d : Nat) (w' : World), Below w.heap.size w w' → 1 ≤ d ∧ d ≤ 7 → Calls Tryz.prog 27 #[faultV p (errV (E 2)), errV (E d)] w' fun e w'' => e = .returned (.bool (decide (2 = d))) ∧ Below w'.heap.size w' w'') := fun d w' hb hd => is_fault p 2 d E w' (hA.below hb) (by omega) hd
  have HG : Hid (∀ w', Below w.heap.size w w' → Glo w' E) := fun w' hb => hG.cells hb
  have B0 : Hid (Below w.heap.size w w) := Below.refl _ _
  have I1 : Hid (∀ w', Below w.heap.size w w' → Calls Tryz.prog 27 #[faultV p (errV (E 2)), errV (E 1)] w' fun e w'' => e = .returned (.bool false) ∧ Below w'.heap.size w' w'') := fun w' hb => IS.out 1 w' hb (by omega)
  have I3 : Hid (∀ w', Below w.heap.size w w' → Calls Tryz.prog 27 #[faultV p (errV (E 2)), errV (E 3)] w' fun e w'' => e = .returned (.bool false) ∧ Below w'.heap.size w' w'') := fun w' hb => IS.out 3 w' hb (by omega)
  have I4 : Hid (∀ w', Below w.heap.size w w' → Calls Tryz.prog 27 #[faultV p (errV (E 2)), errV (E 4)] w' fun e w'' => e = .returned (.bool false) ∧ Below w'.heap.size w' w'') := fun w' hb => IS.out 4 w' hb (by omega)
  have I5 : Hid (∀ w', Below w.heap.size w w' → Calls Tryz.prog 27 #[faultV p (errV (E 2)), errV (E 5)] w' fun e w'' => e = .returned (.bool false) ∧ Below w'.heap.size w' w'') := fun w' hb => IS.out 5 w' hb (by omega)
  have I6 : Hid (∀ w', Below w.heap.size w w' → Calls Tryz.prog 27 #[faultV p (errV (E 2)), errV (E 6)] w' fun e w'' => e = .returned (.bool false) ∧ Below w'.heap.size w' w'') := fun w' hb => IS.out 6 w' hb (by omega)
  have I7 : Hid (∀ w', Below w.heap.size w w' → Calls Tryz.prog 27 #[faultV p (errV (E 2)), errV (E 7)] w' fun e w'' => e = .returned (.bool false) ∧ Below w'.heap.size w' w'') := fun w' hb => IS.out 7 w' hb (by omega)
  have g0 := (HG.out w B0.out).g1
  clear hG hA IS
  unfold errV faultV at *
  go_enter Tryz.func16, Tryz.ntmps16
  go_wp2_with fail
  clear g0
  refine Calls.mono (I1.out _ B0.out) ?_
  rintro e w1 ⟨rfl, b1⟩
  have B1 : Hid (Below w.heap.size w w1) := B0.out.trans (b1.mono B0.out.size)
  clear b1
  have g1 := (HG.out w1 B1.out).g3
  unfold errV at g1
  go_wp2_with fail
  clear g1
  refine Calls.mono (I3.out _ B1.out) ?_
  rintro e w2 ⟨rfl, b2⟩
  have B2 : Hid (Below w.heap.size w w2) := B1.out.trans (b2.mono B1.out.size)
  clear b2
  have g2 := (HG.out w2 B2.out).g4
  unfold errV at g2
  go_wp2_with fail
  clear g2
  refine Calls.mono (I4.out _ B2.out) ?_
  rintro e w3 ⟨rfl, b3⟩
  have B3 : Hid (Below w.heap.size w w3) := B2.out.trans (b3.mono B2.out.size)
  clear b3
  have g3 := (HG.out w3 B3.out).g5
  unfold errV at g3
  go_wp2_with fail
  clear g3
  refine Calls.mono (I5.out _ B3.out) ?_
  rintro e w4 ⟨rfl, b4⟩
  have B4 : Hid (Below w.heap.size w w4) := B3.out.trans (b4.mono B3.out.size)
  clear b4
  have g4 := (HG.out w4 B4.out).g6
  unfold errV at g4
  go_wp2_with fail
  clear g4
  refine Calls.mono (I6.out _ B4.out) ?_
  rintro e w5 ⟨rfl, b5⟩
  have B5 : Hid (Below w.heap.size w w5) := B4.out.trans (b5.mono B4.out.size)
  clear b5
  have g5 := (HG.out w5 B5.out).g7
  unfold errV at g5
  go_wp2_with fail
  clear g5
  refine Calls.mono (I7.out _ B5.out) ?_
  rintro e w6 ⟨rfl, b6⟩
  have B6 : Hid (Below w.heap.size w w6) := B5.out.trans (b6.mono B5.out.size)
  clear b6
  go_wp2
  go_ret
  exact ⟨rfl, B6.out⟩

set_option maxRecDepth 100000 in
set_option maxHeartbeats 2000000 in
theorem errno_3 (p : Int) (E : Nat → Addr) (w : World) (hG : Glo w E) (hA : Apart w E) : Calls Tryz.prog 16 #[faultV p (errV (E 3))] w fun e w' => e = .returned (.int .i64 3) ∧ Below w.heap.size w w' := by
  have IS : Hid (∀ (d : Nat) (w' : World), Below w.heap.size w w' → 1 ≤ d ∧ d ≤ 7 → Calls Tryz.prog 27 #[faultV p (errV (E 3)), errV (E d)] w' fun e w'' => e = .returned (.bool (decide (3 = d))) ∧ Below w'.heap.size w' w'') := fun d w' hb hd => is_fault p 3 d E w' (hA.below hb) (by omega) hd
  have HG : Hid (∀ w', Below w.heap.size w w' → Glo w' E) := fun w' hb => hG.cells hb
  have B0 : Hid (Below w.heap.size w w) := Below.refl _ _
  have I1 : Hid (∀ w', Below w.heap.size w w' → Calls Tryz.prog 27 #[faultV p (errV (E 3)), errV (E 1)] w' fun e w'' => e = .returned (.bool false) ∧ Below w'.heap.size w' w'') := fun w' hb => IS.out 1 w' hb (by omega)
  have I3 : Hid (∀ w', Below w.heap.size w w' → Calls Tryz.prog 27 #[faultV p (errV (E 3)), errV (E 3)] w' fun e w'' => e = .returned (.bool true) ∧ Below w'.heap.size w' w'') := fun w' hb => IS.out 3 w' hb (by omega)
  have g0 := (HG.out w B0.out).g1
  clear hG hA IS
  unfold errV faultV at *
  go_enter Tryz.func16, Tryz.ntmps16
  go_wp2_with fail
  clear g0
  refine Calls.mono (I1.out _ B0.out) ?_
  rintro e w1 ⟨rfl, b1⟩
  have B1 : Hid (Below w.heap.size w w1) := B0.out.trans (b1.mono B0.out.size)
  clear b1
  have g1 := (HG.out w1 B1.out).g3
  unfold errV at g1
  go_wp2_with fail
  clear g1
  refine Calls.mono (I3.out _ B1.out) ?_
  rintro e w2 ⟨rfl, b2⟩
  have B2 : Hid (Below w.heap.size w w2) := B1.out.trans (b2.mono B1.out.size)
  clear b2
  go_wp2
  go_ret
  exact ⟨rfl, B2.out⟩

set_option maxRecDepth 100000 in
set_option maxHeartbeats 2000000 in
theorem errno_4 (p : Int) (E : Nat → Addr) (w : World) (hG : Glo w E) (hA : Apart w E) : Calls Tryz.prog 16 #[faultV p (errV (E 4))] w fun e w' => e = .returned (.int .i64 4) ∧ Below w.heap.size w w' := by
  have IS : Hid (∀ (d : Nat) (w' : World), Below w.heap.size w w' → 1 ≤ d ∧ d ≤ 7 → Calls Tryz.prog 27 #[faultV p (errV (E 4)), errV (E d)] w' fun e w'' => e = .returned (.bool (decide (4 = d))) ∧ Below w'.heap.size w' w'') := fun d w' hb hd => is_fault p 4 d E w' (hA.below hb) (by omega) hd
  have HG : Hid (∀ w', Below w.heap.size w w' → Glo w' E) := fun w' hb => hG.cells hb
  have B0 : Hid (Below w.heap.size w w) := Below.refl _ _
  have I1 : Hid (∀ w', Below w.heap.size w w' → Calls Tryz.prog 27 #[faultV p (errV (E 4)), errV (E 1)] w' fun e w'' => e = .returned (.bool false) ∧ Below w'.heap.size w' w'') := fun w' hb => IS.out 1 w' hb (by omega)
  have I3 : Hid (∀ w', Below w.heap.size w w' → Calls Tryz.prog 27 #[faultV p (errV (E 4)), errV (E 3)] w' fun e w'' => e = .returned (.bool false) ∧ Below w'.heap.size w' w'') := fun w' hb => IS.out 3 w' hb (by omega)
  have I4 : Hid (∀ w', Below w.heap.size w w' → Calls Tryz.prog 27 #[faultV p (errV (E 4)), errV (E 4)] w' fun e w'' => e = .returned (.bool true) ∧ Below w'.heap.size w' w'') := fun w' hb => IS.out 4 w' hb (by omega)
  have g0 := (HG.out w B0.out).g1
  clear hG hA IS
  unfold errV faultV at *
  go_enter Tryz.func16, Tryz.ntmps16
  go_wp2_with fail
  clear g0
  refine Calls.mono (I1.out _ B0.out) ?_
  rintro e w1 ⟨rfl, b1⟩
  have B1 : Hid (Below w.heap.size w w1) := B0.out.trans (b1.mono B0.out.size)
  clear b1
  have g1 := (HG.out w1 B1.out).g3
  unfold errV at g1
  go_wp2_with fail
  clear g1
  refine Calls.mono (I3.out _ B1.out) ?_
  rintro e w2 ⟨rfl, b2⟩
  have B2 : Hid (Below w.heap.size w w2) := B1.out.trans (b2.mono B1.out.size)
  clear b2
  have g2 := (HG.out w2 B2.out).g4
  unfold errV at g2
  go_wp2_with fail
  clear g2
  refine Calls.mono (I4.out _ B2.out) ?_
  rintro e w3 ⟨rfl, b3⟩
  have B3 : Hid (Below w.heap.size w w3) := B2.out.trans (b3.mono B2.out.size)
  clear b3
  go_wp2
  go_ret
  exact ⟨rfl, B3.out⟩

set_option maxRecDepth 100000 in
set_option maxHeartbeats 2000000 in
theorem errno_5 (p : Int) (E : Nat → Addr) (w : World) (hG : Glo w E) (hA : Apart w E) : Calls Tryz.prog 16 #[faultV p (errV (E 5))] w fun e w' => e = .returned (.int .i64 5) ∧ Below w.heap.size w w' := by
  have IS : Hid (∀ (d : Nat) (w' : World), Below w.heap.size w w' → 1 ≤ d ∧ d ≤ 7 → Calls Tryz.prog 27 #[faultV p (errV (E 5)), errV (E d)] w' fun e w'' => e = .returned (.bool (decide (5 = d))) ∧ Below w'.heap.size w' w'') := fun d w' hb hd => is_fault p 5 d E w' (hA.below hb) (by omega) hd
  have HG : Hid (∀ w', Below w.heap.size w w' → Glo w' E) := fun w' hb => hG.cells hb
  have B0 : Hid (Below w.heap.size w w) := Below.refl _ _
  have I1 : Hid (∀ w', Below w.heap.size w w' → Calls Tryz.prog 27 #[faultV p (errV (E 5)), errV (E 1)] w' fun e w'' => e = .returned (.bool false) ∧ Below w'.heap.size w' w'') := fun w' hb => IS.out 1 w' hb (by omega)
  have I3 : Hid (∀ w', Below w.heap.size w w' → Calls Tryz.prog 27 #[faultV p (errV (E 5)), errV (E 3)] w' fun e w'' => e = .returned (.bool false) ∧ Below w'.heap.size w' w'') := fun w' hb => IS.out 3 w' hb (by omega)
  have I4 : Hid (∀ w', Below w.heap.size w w' → Calls Tryz.prog 27 #[faultV p (errV (E 5)), errV (E 4)] w' fun e w'' => e = .returned (.bool false) ∧ Below w'.heap.size w' w'') := fun w' hb => IS.out 4 w' hb (by omega)
  have I5 : Hid (∀ w', Below w.heap.size w w' → Calls Tryz.prog 27 #[faultV p (errV (E 5)), errV (E 5)] w' fun e w'' => e = .returned (.bool true) ∧ Below w'.heap.size w' w'') := fun w' hb => IS.out 5 w' hb (by omega)
  have g0 := (HG.out w B0.out).g1
  clear hG hA IS
  unfold errV faultV at *
  go_enter Tryz.func16, Tryz.ntmps16
  go_wp2_with fail
  clear g0
  refine Calls.mono (I1.out _ B0.out) ?_
  rintro e w1 ⟨rfl, b1⟩
  have B1 : Hid (Below w.heap.size w w1) := B0.out.trans (b1.mono B0.out.size)
  clear b1
  have g1 := (HG.out w1 B1.out).g3
  unfold errV at g1
  go_wp2_with fail
  clear g1
  refine Calls.mono (I3.out _ B1.out) ?_
  rintro e w2 ⟨rfl, b2⟩
  have B2 : Hid (Below w.heap.size w w2) := B1.out.trans (b2.mono B1.out.size)
  clear b2
  have g2 := (HG.out w2 B2.out).g4
  unfold errV at g2
  go_wp2_with fail
  clear g2
  refine Calls.mono (I4.out _ B2.out) ?_
  rintro e w3 ⟨rfl, b3⟩
  have B3 : Hid (Below w.heap.size w w3) := B2.out.trans (b3.mono B2.out.size)
  clear b3
  have g3 := (HG.out w3 B3.out).g5
  unfold errV at g3
  go_wp2_with fail
  clear g3
  refine Calls.mono (I5.out _ B3.out) ?_
  rintro e w4 ⟨rfl, b4⟩
  have B4 : Hid (Below w.heap.size w w4) := B3.out.trans (b4.mono B3.out.size)
  clear b4
  go_wp2
  go_ret
  exact ⟨rfl, B4.out⟩

set_option maxRecDepth 100000 in
set_option maxHeartbeats 2000000 in
theorem errno_6 (p : Int) (E : Nat → Addr) (w : World) (hG : Glo w E) (hA : Apart w E) : Calls Tryz.prog 16 #[faultV p (errV (E 6))] w fun e w' => e = .returned (.int .i64 6) ∧ Below w.heap.size w w' := by
  have IS : Hid (∀ (d : Nat) (w' : World), Below w.heap.size w w' → 1 ≤ d ∧ d ≤ 7 → Calls Tryz.prog 27 #[faultV p (errV (E 6)), errV (E d)] w' fun e w'' => e = .returned (.bool (decide (6 = d))) ∧ Below w'.heap.size w' w'') := fun d w' hb hd => is_fault p 6 d E w' (hA.below hb) (by omega) hd
  have HG : Hid (∀ w', Below w.heap.size w w' → Glo w' E) := fun w' hb => hG.cells hb
  have B0 : Hid (Below w.heap.size w w) := Below.refl _ _
  have I1 : Hid (∀ w', Below w.heap.size w w' → Calls Tryz.prog 27 #[faultV p (errV (E 6)), errV (E 1)] w' fun e w'' => e = .returned (.bool false) ∧ Below w'.heap.size w' w'') := fun w' hb => IS.out 1 w' hb (by omega)
  have I3 : Hid (∀ w', Below w.heap.size w w' → Calls Tryz.prog 27 #[faultV p (errV (E 6)), errV (E 3)] w' fun e w'' => e = .returned (.bool false) ∧ Below w'.heap.size w' w'') := fun w' hb => IS.out 3 w' hb (by omega)
  have I4 : Hid (∀ w', Below w.heap.size w w' → Calls Tryz.prog 27 #[faultV p (errV (E 6)), errV (E 4)] w' fun e w'' => e = .returned (.bool false) ∧ Below w'.heap.size w' w'') := fun w' hb => IS.out 4 w' hb (by omega)
  have I5 : Hid (∀ w', Below w.heap.size w w' → Calls Tryz.prog 27 #[faultV p (errV (E 6)), errV (E 5)] w' fun e w'' => e = .returned (.bool false) ∧ Below w'.heap.size w' w'') := fun w' hb => IS.out 5 w' hb (by omega)
  have I6 : Hid (∀ w', Below w.heap.size w w' → Calls Tryz.prog 27 #[faultV p (errV (E 6)), errV (E 6)] w' fun e w'' => e = .returned (.bool true) ∧ Below w'.heap.size w' w'') := fun w' hb => IS.out 6 w' hb (by omega)
  have g0 := (HG.out w B0.out).g1
  clear hG hA IS
  unfold errV faultV at *
  go_enter Tryz.func16, Tryz.ntmps16
  go_wp2_with fail
  clear g0
  refine Calls.mono (I1.out _ B0.out) ?_
  rintro e w1 ⟨rfl, b1⟩
  have B1 : Hid (Below w.heap.size w w1) := B0.out.trans (b1.mono B0.out.size)
  clear b1
  have g1 := (HG.out w1 B1.out).g3
  unfold errV at g1
  go_wp2_with fail
  clear g1
  refine Calls.mono (I3.out _ B1.out) ?_
  rintro e w2 ⟨rfl, b2⟩
  have B2 : Hid (Below w.heap.size w w2) := B1.out.trans (b2.mono B1.out.size)
  clear b2
  have g2 := (HG.out w2 B2.out).g4
  unfold errV at g2
  go_wp2_with fail
  clear g2
  refine Calls.mono (I4.out _ B2.out) ?_
  rintro e w3 ⟨rfl, b3⟩
  have B3 : Hid (Below w.heap.size w w3) := B2.out.trans (b3.mono B2.out.size)
  clear b3
  have g3 := (HG.out w3 B3.out).g5
  unfold errV at g3
  go_wp2_with fail
  clear g3
  refine Calls.mono (I5.out _ B3.out) ?_
  rintro e w4 ⟨rfl, b4⟩
  have B4 : Hid (Below w.heap.size w w4) := B3.out.trans (b4.mono B3.out.size)
  clear b4
  have g4 := (HG.out w4 B4.out).g6
  unfold errV at g4
  go_wp2_with fail
  clear g4
  refine Calls.mono (I6.out _ B4.out) ?_
  rintro e w5 ⟨rfl, b5⟩
  have B5 : Hid (Below w.heap.size w w5) := B4.out.trans (b5.mono B4.out.size)
  clear b5
  go_wp2
  go_ret
  exact ⟨rfl, B5.out⟩

set_option maxRecDepth 100000 in
set_option maxHeartbeats 2000000 in
theorem errno_7 (p : Int) (E : Nat → Addr) (w : World) (hG : Glo w E) (hA : Apart w E) : Calls Tryz.prog 16 #[faultV p (errV (E 7))] w fun e w' => e = .returned (.int .i64 7) ∧ Below w.heap.size w w' := by
  have IS : Hid (∀ (d : Nat) (w' : World), Below w.heap.size w w' → 1 ≤ d ∧ d ≤ 7 → Calls Tryz.prog 27 #[faultV p (errV (E 7)), errV (E d)] w' fun e w'' => e = .returned (.bool (decide (7 = d))) ∧ Below w'.heap.size w' w'') := fun d w' hb hd => is_fault p 7 d E w' (hA.below hb) (by omega) hd
  have HG : Hid (∀ w', Below w.heap.size w w' → Glo w' E) := fun w' hb => hG.cells hb
  have B0 : Hid (Below w.heap.size w w) := Below.refl _ _
  have I1 : Hid (∀ w', Below w.heap.size w w' → Calls Tryz.prog 27 #[faultV p (errV (E 7)), errV (E 1)] w' fun e w'' => e = .returned (.bool false) ∧ Below w'.heap.size w' w'') := fun w' hb => IS.out 1 w' hb (by omega)
  have I3 : Hid (∀ w', Below w.heap.size w w' → Calls Tryz.prog 27 #[faultV p (errV (E 7)), errV (E 3)] w' fun e w'' => e = .returned (.bool false) ∧ Below w'.heap.size w' w'') := fun w' hb => IS.out 3 w' hb (by omega)
  have I4 : Hid (∀ w', Below w.heap.size w w' → Calls Tryz.prog 27 #[faultV p (errV (E 7)), errV (E 4)] w' fun e w'' => e = .returned (.bool false) ∧ Below w'.heap.size w' w'') := fun w' hb => IS.out 4 w' hb (by omega)
  have I5 : Hid (∀ w', Below w.heap.size w w' → Calls Tryz.prog 27 #[faultV p (errV (E 7)), errV (E 5)] w' fun e w'' => e = .returned (.bool false) ∧ Below w'.heap.size w' w'') := fun w' hb => IS.out 5 w' hb (by omega)
  have I6 : Hid (∀ w', Below w.heap.size w w' → Calls Tryz.prog 27 #[faultV p (errV (E 7)), errV (E 6)] w' fun e w'' => e = .returned (.bool false) ∧ Below w'.heap.size w' w'') := fun w' hb => IS.out 6 w' hb (by omega)
  have I7 : Hid (∀ w', Below w.heap.size w w' → Calls Tryz.prog 27 #[faultV p (errV (E 7)), errV (E 7)] w' fun e w'' => e = .returned (.bool true) ∧ Below w'.heap.size w' w'') := fun w' hb => IS.out 7 w' hb (by omega)
  have g0 := (HG.out w B0.out).g1
  clear hG hA IS
  unfold errV faultV at *
  go_enter Tryz.func16, Tryz.ntmps16
  go_wp2_with fail
  clear g0
  refine Calls.mono (I1.out _ B0.out) ?_
  rintro e w1 ⟨rfl, b1⟩
  have B1 : Hid (Below w.heap.size w w1) := B0.out.trans (b1.mono B0.out.size)
  clear b1
  have g1 := (HG.out w1 B1.out).g3
  unfold errV at g1
  go_wp2_with fail
  clear g1
  refine Calls.mono (I3.out _ B1.out) ?_
  rintro e w2 ⟨rfl, b2⟩
  have B2 : Hid (Below w.heap.size w w2) := B1.out.trans (b2.mono B1.out.size)
  clear b2
  have g2 := (HG.out w2 B2.out).g4
  unfold errV at g2
  go_wp2_with fail
  clear g2
  refine Calls.mono (I4.out _ B2.out) ?_
  rintro e w3 ⟨rfl, b3⟩
  have B3 : Hid (Below w.heap.size w w3) := B2.out.trans (b3.mono B2.out.size)
  clear b3
  have g3 := (HG.out w3 B3.out).g5
  unfold errV at g3
  go_wp2_with fail
  clear g3
  refine Calls.mono (I5.out _ B3.out) ?_
  rintro e w4 ⟨rfl, b4⟩
  have B4 : Hid (Below w.heap.size w w4) := B3.out.trans (b4.mono B3.out.size)
  clear b4
  have g4 := (HG.out w4 B4.out).g6
  unfold errV at g4
  go_wp2_with fail
  clear g4
  refine Calls.mono (I6.out _ B4.out) ?_
  rintro e w5 ⟨rfl, b5⟩
  have B5 : Hid (Below w.heap.size w w5) := B4.out.trans (b5.mono B4.out.size)
  clear b5
  have g5 := (HG.out w5 B5.out).g7
  unfold errV at g5
  go_wp2_with fail
  clear g5
  refine Calls.mono (I7.out _ B5.out) ?_
  rintro e w6 ⟨rfl, b6⟩
  have B6 : Hid (Below w.heap.size w w6) := B5.out.trans (b6.mono B5.out.size)
  clear b6
  go_wp2
  go_ret
  exact ⟨rfl, B6.out⟩

theorem errno_any (x : Option (Nat × Nat)) (E : Nat → Addr) (w : World) (hG : Glo w E) (hA : Apart w E) (hx : ∀ c p, x = some (c, p) → 2 ≤ c ∧ c ≤ 7) : Calls Tryz.prog 16 #[pv E x] w fun e w' => e = .returned (.int .i64 (errC x : Int)) ∧ Below w.heap.size w w' := by
  cases x with
  | none => exact Calls.mono (errno_long E w hG) (fun e w' h => ⟨h.1, by rw [h.2]; exact Below.refl _ _⟩)
  | some q =>
    obtain ⟨c, p⟩ := q
    have hc := hx c p rfl
    rcases (by omega : c = 2 ∨ c = 3 ∨ c = 4 ∨ c = 5 ∨ c = 6 ∨ c = 7) with rfl | rfl | rfl | rfl | rfl | rfl
    · exact errno_2 p E w hG hA
    · exact errno_3 p E w hG hA
    · exact errno_4 p E w hG hA
    · exact errno_5 p E w hG hA
    · exact errno_6 p E w hG hA
    · exact errno_7 p E w hG hA

/-- The type of errors, laid. -/
def ErT (W : World) : Prop := 7 < W.heap.size ∧ W.cell? ⟨7, 0, none⟩ = some (.iface 127 (.agg #[.pointer (some ⟨15, 42, none⟩)]))
theorem ErT.below {W W' : World} (h : ErT W) (hb : Below W.heap.size W W') : ErT W' := ⟨Nat.lt_of_lt_of_le h.1 hb.size, (hb.cell (p := ⟨7, 0, none⟩) h.1).trans h.2⟩

set_option maxRecDepth 100000 in
set_option maxHeartbeats 2000000 in
theorem place_fault (p : Int) (c : Value) (hcl : c.oneCell' = true) (w : World) (hT : ErT w) : Calls Tryz.prog 17 #[.iface 66 (.agg #[.int .i64 p, c])] w fun e w' => e = .returned (.int .i64 p) ∧ Below w.heap.size w w' := by
  obtain ⟨W0, hW0⟩ : ∃ q, w.alloc (.cells #[.int .i64 0, .nilIface] 66) = q := ⟨_, rfl⟩
  have hT0 : ErT W0 := by rw [← hW0]; exact hT.below ((Below.refl _ _).alloc (Nat.le_refl _) _)
  obtain ⟨S, hS⟩ : ∃ q, w.heap.size = q := ⟨_, rfl⟩
  have hb : W0.heap[S]? = some (.cells #[.int .i64 0, .nilIface] 66 (0, 0)) := by rw [← hW0, ← hS]; exact heap_alloc_new _ _
  have hl : S < W0.heap.size := (Array.getElem?_eq_some_iff.1 hb).1
  have AH := as_hit S p c (.int .i64 0) .nilIface W0 hT0.1 hT0.2 hl (by simp [World.cell?, hb]) (by simp [World.cell?, hb]) (fun j => frozen_of_row _ _ _ _ _ hb) hcl
  have HB : Hid (∀ w', w' = ((((((W0.alloc (.cells #[.pointer (some ⟨S, 0, none⟩)] 68)).alloc (.cells #[.pointer (some ⟨15, 68, none⟩), .pointer (some ⟨W0.heap.size, 0, none⟩), .int .u64 150] 101)).alloc (.cells #[.pointer (some ⟨15, 68, none⟩), .pointer (some ⟨W0.heap.size, 0, none⟩), .int .u64 150] 101)).alloc (.cells #[.int .i64 p, c] 66)).setCell ⟨S, 0, none⟩ (.int .i64 p)).setCell ⟨S, 1, none⟩ c) → Below w.heap.size w w' ∧ w'.cell? ⟨S, 0, none⟩ = some (.int .i64 p)) := by
    rintro w' rfl
    have b0 : Below w.heap.size w W0 := by rw [← hW0]; exact (Below.refl _ _).alloc (Nat.le_refl _) _
    have sz := b0.size
    have b4 := (((b0.alloc sz (.cells #[.pointer (some ⟨S, 0, none⟩)] 68)).alloc (by rw [World.size_alloc]; omega) (.cells #[.pointer (some ⟨15, 68, none⟩), .pointer (some ⟨W0.heap.size, 0, none⟩), .int .u64 150] 101)).alloc (by simp only [World.size_alloc]; omega) (.cells #[.pointer (some ⟨15, 68, none⟩), .pointer (some ⟨W0.heap.size, 0, none⟩), .int .u64 150] 101)).alloc (by simp only [World.size_alloc]; omega) (.cells #[.int .i64 p, c] 66)
    have hS1 : w.heap.size ≤ S := by omega
    refine ⟨(b4.setCell hS1 _).setCell hS1 _, ?_⟩
    have hc : (((((W0.alloc (.cells #[.pointer (some ⟨S, 0, none⟩)] 68)).alloc (.cells #[.pointer (some ⟨15, 68, none⟩), .pointer (some ⟨W0.heap.size, 0, none⟩), .int .u64 150] 101)).alloc (.cells #[.pointer (some ⟨15, 68, none⟩), .pointer (some ⟨W0.heap.size, 0, none⟩), .int .u64 150] 101)).alloc (.cells #[.int .i64 p, c] 66)).setCell ⟨S, 0, none⟩ (.int .i64 p)).cell? ⟨S, 0, none⟩ = some (.int .i64 p) := by
      refine World.cell?_setCell_same (u := .int .i64 0) _ _ _ ?_
      rw [World.cell?_alloc_lt _ _ ⟨S, 0, none⟩ (by simp only [World.size_alloc]; show S < _; omega), World.cell?_alloc_lt _ _ ⟨S, 0, none⟩ (by simp only [World.size_alloc]; show S < _; omega), World.cell?_alloc_lt _ _ ⟨S, 0, none⟩ (by simp only [World.size_alloc]; show S < _; omega), World.cell?_alloc_lt _ _ ⟨S, 0, none⟩ hl]
      simp [World.cell?, hb]
    rw [World.cell?_setCell_other _ _ _ _ (fun e => by injection e with _ e _; omega)]
    exact hc
  go_enter Tryz.func17, Tryz.ntmps17
  go_wp2_with fail
  refine Calls.mono AH ?_
  rintro e w1 ⟨rfl, hw1⟩
  have HW : Hid (Below w.heap.size w w1) := (HB.out w1 hw1).1
  have c0 := (HB.out w1 hw1).2
  clear hw1 HB AH hW0 hb hT0
  go_wp2
  go_ret
  exact ⟨rfl, HW.out⟩
set_option maxRecDepth 100000 in
set_option maxHeartbeats 2000000 in
theorem place_plain (a : Addr) (w : World) (hT : ErT w) : Calls Tryz.prog 17 #[.iface 242 (.pointer (some a))] w fun e w' => e = .returned (.int .i64 0) ∧ Below w.heap.size w w' := by
  obtain ⟨W0, hW0⟩ : ∃ q, w.alloc (.cells #[.int .i64 0, .nilIface] 66) = q := ⟨_, rfl⟩
  have b0 : Below w.heap.size w W0 := by rw [← hW0]; exact (Below.refl _ _).alloc (Nat.le_refl _) _
  have hT0 : ErT W0 := hT.below b0
  obtain ⟨S, hS⟩ : ∃ q, w.heap.size = q := ⟨_, rfl⟩
  have AM := as_miss S a W0 hT0.1 hT0.2
  have HB : Hid (∀ w', w' = (((W0.alloc (.cells #[.pointer (some ⟨S, 0, none⟩)] 68)).alloc (.cells #[.pointer (some ⟨15, 68, none⟩), .pointer (some ⟨W0.heap.size, 0, none⟩), .int .u64 150] 101)).alloc (.cells #[.pointer (some ⟨15, 68, none⟩), .pointer (some ⟨W0.heap.size, 0, none⟩), .int .u64 150] 101)) → Below w.heap.size w w') := by
    rintro w' rfl
    have sz := b0.size
    exact ((b0.alloc sz _).alloc (by rw [World.size_alloc]; omega) _).alloc (by simp only [World.size_alloc]; omega) _
  go_enter Tryz.func17, Tryz.ntmps17
  go_wp2_with fail
  refine Calls.mono AM ?_
  rintro e w1 ⟨rfl, hw1⟩
  have HW : Hid (Below w.heap.size w w1) := HB.out w1 hw1
  clear hw1 HB AM hW0 hT0 b0
  go_wp2
  go_ret
  exact ⟨rfl, HW.out⟩
theorem place_any (x : Option (Nat × Nat)) (E : Nat → Addr) (w : World) (hT : ErT w) : Calls Tryz.prog 17 #[pv E x] w fun e w' => e = .returned (.int .i64 (errP x : Int)) ∧ Below w.heap.size w w' := by
  cases x with
  | none => exact place_plain (E 1) w hT
  | some q => exact place_fault q.2 (errV (E q.1)) rfl w hT
end Go.Proofs.YtepeepipgkejiadGreatDoor
