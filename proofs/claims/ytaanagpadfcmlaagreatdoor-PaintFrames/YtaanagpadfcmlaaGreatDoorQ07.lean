import Derived.Test.YtaanagpadfcmlaaGreatDoorQ02
import Derived.Stop.Asserts
import Derived.RowKitTokens
set_option linter.all false
set_option maxRecDepth 100000
set_option maxHeartbeats 16000000
namespace Go.Proofs.YtaanagpadfcmlaaGreatDoor
open Go.RowKit Go.Proofs.Tryz
section
open Go.Extern.Stop Go.Stop Go.Extern
theorem ke v w:(Extern.ReflectliteType.typeOf #[.iface 376 v]).run prog w=.ok (.iface 258 (.agg #[.pointer (some (aj 18 376))])) w:=ns
theorem AR:∃M,Go.Extern.find Tryz.f340=some M/\∀w,(M #[.agg #[.pointer (some (aj 18 376))]]).run prog w=.ok (.bool true) w:=⟨(Go.Extern.find Tryz.f340).getD λ_=>pure (.bool false),ns,λw=>ns⟩
theorem ff v w:(Go.method 517 258 v "Comparable").run prog w=.ok (340,v) w:=ns
theorem Bl:(prog.info? 376).map (·.comparable)=some true:=ns
theorem Bn:(prog.info? 378).map (·.size)=some 1:=ns
theorem NJ v a w:(Instr.typeAssert (.iface 376 v) a 260 true).run prog w=.ok (.tuple #[.nilIface,.bool false]) w:=run_typeAssert_lacksB underlying260 ns ns v a w
theorem om v a w:(Instr.typeAssert (.iface 376 v) a 263 true).run prog w=.ok (.tuple #[.nilIface,.bool false]) w:=run_typeAssert_lacksB underlying263 ns ns v a w
theorem mg v a w:(Instr.typeAssert (.iface 376 v) a 265 true).run prog w=.ok (.tuple #[.nilIface,.bool false]) w:=run_typeAssert_lacksB underlying265 ns ns v a w
theorem NK v a w:(Instr.typeAssert (.iface 131 v) a 260 true).run prog w=.ok (.tuple #[.nilIface,.bool false]) w:=run_typeAssert_lacksB underlying260 ns ns v a w
theorem qR v a w:(Instr.typeAssert (.iface 131 v) a 263 true).run prog w=.ok (.tuple #[.iface 131 v,.bool true]) w:=run_typeAssert_hasB underlying263 ns v a w
theorem mY v w:(Go.method 517 131 v "Unwrap").run prog w=.ok (333,v) w:=ns
def QL:=PProd.mk (@run_callFunc_extern prog 98 _ ReflectliteType.typeOf func98 (by kernel_rfl) (by kernel_rfl) (by kernel_rfl) (by kernel_rfl)) ()
theorem LJ(a:Addr)(w:World):
 Cw 52 #[.iface 376 (.pointer (some a)),.iface 376 (.pointer (some a))] w λe w'=>e=Rw (.bool true)/\w'=w:=by obtain⟨i,hi,b⟩:=nJ.1 Bl;obtain⟨j,g,h⟩:=nJ.1 Bn;have l:=QL.1;obtain⟨M,d,k⟩:=AR;have c:=@run_callFunc_extern prog 340 _ M func340 ns ns ns d;have n:=ke;have m:=ff;have f:=run_eql_iface_ptr_same (P:=prog) w a underlying83 underlying376 hi b g;go_enter func52,ntmps52;go_wp2;refine wp_loop_rounds 1 ?_;rw[rounds_succ];go_wp2;go_ret;simp_all
theorem sV(p:Int)(b:Addr)(w:World):
 Cw 52 #[.iface 131 (.agg #[Iq p,.iface 376 (.pointer (some b))]),.iface 376 (.pointer (some b))] w λe w'=>e=Rw (.bool true)/\Bt w w':=by obtain⟨i,hi,a⟩:=nJ.1 Bl;obtain⟨j,g,h⟩:=nJ.1 Bn;have m:=QL.1;obtain⟨M,d,l⟩:=AR;have c:=@run_callFunc_extern prog 340 _ M func340 ns ns ns d;have s:=ke;have n:=ff;have q:=NJ;have t:=om;have v:=mg;have r:=NK;have u:=qR;have o:=mY;have f:=λw=>run_eql_iface_ptr_same (P:=prog) w b underlying83 underlying376 hi a g;have k:=run_eql_iface_types (P:=prog) 131 376 (.agg #[Iq p,.iface 376 (.pointer (some b))]) (.pointer (some b)) underlying83 (by decide);go_enter func52,ntmps52;go_wp2;refine wp_loop_rounds 2 ?_;rw[rounds_succ];go_wp2;rw[rounds_succ];go_wp2;go_ret;exact⟨rfl,(af _ _).alloc (ae _) _⟩
theorem qW(p:Int)(a b:Addr)(h k:Array Value)(s t:TypeId)(w:World)(d:a≠b)(f:w.heap[a.block]?=some (.cells h s (0,0)))(g:w.heap[b.block]?=some (.cells k t (0,0))):
 Cw 52 #[.iface 131 (.agg #[Iq p,.iface 376 (.pointer (some a))]),.iface 376 (.pointer (some b))] w λe w'=>e=Rw (.bool false)/\Bt w w':=by obtain⟨i,hi,c⟩:=nJ.1 Bl;obtain⟨j,o,q⟩:=nJ.1 Bn;have v:=QL.1;obtain⟨M,m,u⟩:=AR;have l:=@run_callFunc_extern prog 340 _ M func340 ns ns ns m;have B:=ke;have x:=ff;have z:=NJ;have C:=om;have E:=mg;have A:=NK;have D:=qR;have y:=mY;have n:=run_eql_iface_ptr_other (P:=prog) (w.alloc (.cells #[Iq p,.iface 376 (.pointer (some a))] 131)) underlying83 underlying376 hi c o dg d ((heap_alloc_old w _ (aD.1 f).1).trans f) ((heap_alloc_old w _ (aD.1 g).1).trans g);have r:=run_eql_iface_types (P:=prog) 131 376 (.agg #[Iq p,.iface 376 (.pointer (some a))]) (.pointer (some b)) underlying83 (by decide);go_enter func52,ntmps52;go_wp2;refine wp_loop_rounds 2 ?_;rw[rounds_succ];go_wp2;rw[rounds_succ];go_wp2;go_ret;exact⟨rfl,(af _ _).alloc (ae _) _⟩
theorem G5 t w:(ReflectliteValue.unpack (.iface 133 (.pointer (some t)))).run prog w
 =.ok (.agg #[.pointer (some (aj 18 133)),Pq w.heap.size,.int .u64 150]) (w.alloc (.cells #[.pointer (some t)] 133)):=ns
theorem C' a w:(ReflectliteValue.methodAny (ReflectliteValue.valueError "reflectlite.Value.Type" 0) (λt _ _ _=>ReflectliteType.toType t) #[.agg #[.pointer (some (aj 18 133)),.pointer (some a),.int .u64 150]]).run prog w
 =.ok (.iface 258 (.agg #[.pointer (some (aj 18 133))])) w:=ns
theorem mN h w:(Go.method 517 258 (.agg #[h]) "Kind").run prog w=.ok (328,h) w:=ns
theorem C_ w:((ReflectliteType.abiMethod λt=>(λa:Nat=>Value.int IntKind.u8 (a:Int))<$>Rtype.kind t) #[.pointer (some (aj 18 133))]).run prog w=.ok (.int .u8 22) w:=ns
theorem C9 w:((ReflectliteType.abiMethod λt=>(λa:Nat=>Value.int IntKind.u8 (a:Int))<$>Rtype.kind t) #[.pointer (some (aj 18 131))]).run prog w=.ok (.int .u8 25) w:=ns
theorem wG a w:(ReflectliteValue.parts (.agg #[.pointer (some (aj 18 133)),.pointer (some a),.int .u64 150])).run prog w=.ok (some (133,a,150)) w:=ns
theorem C8 a p W(b:W.cell? a=some (.pointer (some p))):
 (ReflectliteValue.method (ReflectliteValue.valueError "reflectlite.Value.IsNil" 0) ReflectliteValue.isNil #[.agg #[.pointer (some (aj 18 133)),.pointer (some a),.int .u64 150]]).run prog W=.ok (.bool false) W:=by change(bind (m:=Sem) (ReflectliteValue.parts (.agg #[.pointer (some (aj 18 133)),.pointer (some a),.int .u64 150])) _).run prog W=_;simp only[Sem.run_bind,wG,Result.andThen];simp[ReflectliteValue.isNil,loadVar,isAgg,underlying,underlying133,b,Result.andThen]
theorem mL h w:(Go.method 517 258 (.agg #[h]) "Elem").run prog w=.ok (341,.agg #[h]) w:=ns
theorem mM h w:(Go.method 517 258 (.agg #[h]) "Implements").run prog w=.ok (342,.agg #[h]) w:=ns
theorem jR h w:(Go.method 517 258 (.agg #[h]) "AssignableTo").run prog w=.ok (339,.agg #[h]) w:=ns
theorem C6 w:(ReflectliteType.method ReflectliteType.elem #[.agg #[.pointer (some (aj 18 133))]]).run prog w=.ok (.iface 258 (.agg #[.pointer (some (aj 18 131))])) w:=ns
theorem C7 w:(ReflectliteType.relation "Implements" ReflectliteType.implements_ #[.agg #[.pointer (some (aj 18 131))],.iface 258 (.agg #[.pointer (some (aj 18 83))])]).run prog w=.ok (.bool true) w:=ns
theorem tA v w:(ReflectliteType.typeOf #[.iface 131 v]).run prog w=.ok (.iface 258 (.agg #[.pointer (some (aj 18 131))])) w:=ns
theorem ty w:(ReflectliteType.relation "AssignableTo" ReflectliteType.assignableTo #[.agg #[.pointer (some (aj 18 131))],.iface 258 (.agg #[.pointer (some (aj 18 131))])]).run prog w=.ok (.bool true) w:=ns
theorem tu w:(ReflectliteType.relation "AssignableTo" ReflectliteType.assignableTo #[.agg #[.pointer (some (aj 18 376))],.iface 258 (.agg #[.pointer (some (aj 18 131))])]).run prog w=.ok (.bool false) w:=ns
theorem GZ p c w:(ReflectliteValue.unpack (.iface 131 (.agg #[Iq p,c]))).run prog w
 =.ok (.agg #[.pointer (some (aj 18 131)),Pq w.heap.size,.int .u64 153]) (w.alloc (.cells #[Iq p,c] 131)):=ns
theorem Es w:(Rtype.elem? 133).run prog w=.ok (some 131) w:=ns
theorem PU p w:(ReflectliteValue.mk 131 p ReflectliteValue.flagAddr).run prog w=.ok (.agg #[.pointer (some (aj 18 131)),.pointer (some p),.int .u64 409]) w:=ns
theorem K6 a p W(b:W.cell? a=some (.pointer (some p))):
 (ReflectliteValue.method (ReflectliteValue.valueError "reflectlite.Value.Elem" 0) ReflectliteValue.elem #[.agg #[.pointer (some (aj 18 133)),.pointer (some a),.int .u64 150]]).run prog W
  =.ok (.agg #[.pointer (some (aj 18 131)),.pointer (some p),.int .u64 409]) W:=by change(bind (m:=Sem) (ReflectliteValue.parts (.agg #[.pointer (some (aj 18 133)),.pointer (some a),.int .u64 150])) _).run prog W=_;simp only[Sem.run_bind,wG,Result.andThen];simp[ReflectliteValue.elem,loadVar,isAgg,underlying,underlying133,b,Result.andThen,Es,PU]
theorem GX a w:(ReflectliteValue.parts (.agg #[.pointer (some (aj 18 131)),.pointer (some a),.int .u64 409])).run prog w=.ok (some (131,a,409)) w:=ns
theorem GY a w:(ReflectliteValue.parts (.agg #[.pointer (some (aj 18 131)),.pointer (some a),.int .u64 153])).run prog w=.ok (some (131,a,153)) w:=ns
theorem GV w:(Rtype.directlyAssignable 131 131).run prog w=.ok true w:=ns
theorem PV a b p c o l W(d:W.cell? (aj b 0)=some (Iq p))(f:W.cell? (aj b 1)=some c)(h:W.cell? (aj a 0)=some o)(i:W.cell? (aj a 1)=some l)(k:∀j,W.frozen? (aj a j)=false)(g:c.oneCell'=true):
 (ReflectliteValue.set #[.agg #[.pointer (some (aj 18 131)),Pq a,.int .u64 409],.agg #[.pointer (some (aj 18 131)),Pq b,.int .u64 153]]).run prog W
  =.ok (.tuple #[]) ((W.setCell (aj a 0) (Iq p)).setCell (aj a 1) c):=by
 change(bind (m:=Sem) (ReflectliteValue.parts (.agg #[.pointer (some (aj 18 131)),Pq a,.int .u64 409])) λ_=>bind (m:=Sem) (ReflectliteValue.parts (.agg #[.pointer (some (aj 18 131)),Pq b,.int .u64 153])) _).run prog W=_;simp only[Sem.run_bind,GX,GY,Result.andThen];simp[ReflectliteValue.flagAddr,loadVar,loadCells,loadCellsFrom,d,f,Result.andThen,GV,storeVar,Value.cells,storeCells,Addr.add];have q:(store (aj a 0) (Iq p)).run prog W=.ok () (W.setCell (aj a 0) (Iq p)):=by rw[run_store prog W (aj a 0) _ _ (by rfl)];simp[h,k]
 have h1:(W.setCell (aj a 0) (Iq p)).cell? (aj a 1)=some l:=(c_ _ _ _ _ (λe=>rd)).trans i;have n:(W.setCell (aj a 0) (Iq p)).frozen? (aj a 1)=false:=(fI _ _ _ _).trans (k 1);have r:(store (aj a 1) c).run prog (W.setCell (aj a 0) (Iq p))=.ok () ((W.setCell (aj a 0) (Iq p)).setCell (aj a 1) c):=by rw[run_store prog _ (aj a 1) _ _ g];simp[h1,n]
 grind
theorem QE v a w:(Instr.typeAssert (.iface 376 v) a 270 true).run prog w=.ok (.tuple #[.nilIface,.bool false]) w:=run_typeAssert_lacksB underlying270 ns ns v a w
def VQ:=PProd.mk (@run_callFunc_extern prog 100 _ (λargs=>ReflectliteValue.unpack (args.getD 0 (.tuple #[]))) func100 (by kernel_rfl) (by kernel_rfl) (by kernel_rfl) (by kernel_rfl)) ()
def VR:=PProd.mk (@run_callFunc_extern prog 101 _ (ReflectliteValue.methodAny (ReflectliteValue.valueError "reflectlite.Value.Type" 0) (λt _ _ _=>ReflectliteType.toType t)) func101 (by kernel_rfl) (by kernel_rfl) (by kernel_rfl) (by kernel_rfl)) ()
def VT:=PProd.mk (@run_callFunc_extern prog 102 _ (ReflectliteValue.method (ReflectliteValue.valueError "reflectlite.Value.IsNil" 0) ReflectliteValue.isNil) func102 (by kernel_rfl) (by kernel_rfl) (by kernel_rfl) (by kernel_rfl)) ()
def VU:=PProd.mk (@run_callFunc_extern prog 328 _ (ReflectliteType.abiMethod λt=>do pure (.int .u8 (<-Rtype.kind t))) func328 (by kernel_rfl) (by kernel_rfl) (by kernel_rfl) (by kernel_rfl)) ()
def VV:=PProd.mk (@run_callFunc_extern prog 341 _ (ReflectliteType.method ReflectliteType.elem) func341 (by kernel_rfl) (by kernel_rfl) (by kernel_rfl) (by kernel_rfl)) ()
def VW:=PProd.mk (@run_callFunc_extern prog 342 _ (ReflectliteType.relation "Implements" ReflectliteType.implements_) func342 (by kernel_rfl) (by kernel_rfl) (by kernel_rfl) (by kernel_rfl)) ()
def VX:=PProd.mk (@run_callFunc_extern prog 339 _ (ReflectliteType.relation "AssignableTo" ReflectliteType.assignableTo) func339 (by kernel_rfl) (by kernel_rfl) (by kernel_rfl) (by kernel_rfl)) ()
def Zt:=PProd.mk (@run_callFunc_extern prog 176 _ (ReflectliteValue.method (ReflectliteValue.valueError "reflectlite.Value.Elem" 0) ReflectliteValue.elem) func176 (by kernel_rfl) (by kernel_rfl) (by kernel_rfl) (by kernel_rfl)) ()
def Zu:=PProd.mk (@run_callFunc_extern prog 177 _ (ReflectliteValue.set) func177 (by kernel_rfl) (by kernel_rfl) (by kernel_rfl) (by kernel_rfl)) ()
theorem N7(a:Nat)(p:Int)(c h i:Value)(w:World)(e:6<w.heap.size)(x:w.cell? (aj 6 0)=some (.iface 258 (.agg #[.pointer (some (aj 18 83))])))(b:a<w.heap.size)(f:w.cell? (aj a 0)=some h)(g:w.cell? (aj a 1)=some i)(v:∀j,w.frozen? (aj a j)=false)(d:c.oneCell'=true):
 Cw 53 #[.iface 131 (.agg #[Iq p,c]),.iface 133 (Pq a)] w λm w'=>m=Rw (.bool true)/\w'=((((((w.alloc (.cells #[Pq a] 133)).alloc (.cells #[.pointer (some (aj 18 133)),Pq w.heap.size,.int .u64 150] 184)).alloc (.cells #[.pointer (some (aj 18 133)),Pq w.heap.size,.int .u64 150] 184)).alloc (.cells #[Iq p,c] 131)).setCell (aj a 0) (Iq p)).setCell (aj a 1) c):=by
 have F:=VQ.1;have G:=VR.1;have H:=VT.1;have r:=VU.1;have t:=VV.1;have u:=VW.1;have n:=QL.1;have s:=VX.1;have o:=Zt.1;have q:=Zu.1;have N:=tA;have M:=ke;have I:=jR;have k:=ty;have D:=tu;have C:=GZ;have f6:=G5;have f7:=C';have K:=mN;have J:=mL;have mI:=mM;have B:=C_;have A:=C9;have l:=C6;have z:=C7;have L:=C8 (aj w.heap.size 0) (aj a 0) ((w.alloc (.cells #[Pq a] 133)).alloc (.cells #[.pointer (some (aj 18 133)),Pq w.heap.size,.int .u64 150] 184)) rn;have y:((w.alloc (.cells #[Pq a] 133)).alloc (.cells #[.pointer (some (aj 18 133)),Pq w.heap.size,.int .u64 150] 184)).cell? (aj 6 0)=some (.iface 258 (.agg #[.pointer (some (aj 18 83))])):=by rw[gw _ _ (aj 6 0) (by simp;omega),gw _ _ (aj 6 0) e];exact x
 have E:=K6 (aj w.heap.size 0) (aj a 0) (((w.alloc (.cells #[Pq a] 133)).alloc (.cells #[.pointer (some (aj 18 133)),Pq w.heap.size,.int .u64 150] 184)).alloc (.cells #[.pointer (some (aj 18 133)),Pq w.heap.size,.int .u64 150] 184)) (by rw[gw _ _ (aj w.heap.size 0) (by simp;omega)];simp);have st:=PV a (w.heap.size+1+1+1) p c h i ((((w.alloc (.cells #[Pq a] 133)).alloc (.cells #[.pointer (some (aj 18 133)),Pq w.heap.size,.int .u64 150] 184)).alloc (.cells #[.pointer (some (aj 18 133)),Pq w.heap.size,.int .u64 150] 184)).alloc (.cells #[Iq p,c] 131))
  (by rw[World.cell?_alloc_at _ _ _ _ rn];rfl)
  (by rw[World.cell?_alloc_at _ _ _ _ rn];rfl)
  (by rw[gw _ _ (aj a 0) (by simp;omega),gw _ _ (aj a 0) (by simp;omega),gw _ _ (aj a 0) (by simp;omega),gw _ _ (aj a 0) b];exact f)
  (by rw[gw _ _ (aj a 1) (by simp;omega),gw _ _ (aj a 1) (by simp;omega),gw _ _ (aj a 1) (by simp;omega),gw _ _ (aj a 1) b];exact g)
  (λj=>by rw[D9 _ _ (aj a j) (by simp;omega),D9 _ _ (aj a j) (by simp;omega),D9 _ _ (aj a j) (by simp;omega),D9 _ _ (aj a j) (Ai b)];grind) d;go_enter func53,ntmps53;go_wp2;refine wp_loop_rounds 1 ?_;rw[rounds_succ];go_wp2;go_ret;simp_all
theorem K7(b:Nat)(a:Addr)(w:World)(c:6<w.heap.size)(l:w.cell? (aj 6 0)=some (.iface 258 (.agg #[.pointer (some (aj 18 83))]))):
 Cw 53 #[.iface 376 (.pointer (some a)),.iface 133 (Pq b)] w λf w'=>f=Rw (.bool false)/\w'=(((w.alloc (.cells #[Pq b] 133)).alloc (.cells #[.pointer (some (aj 18 133)),Pq w.heap.size,.int .u64 150] 184)).alloc (.cells #[.pointer (some (aj 18 133)),Pq w.heap.size,.int .u64 150] 184)):=by
 have s:=VQ.1;have t:=VR.1;have u:=VT.1;have h:=VU.1;have j:=VV.1;have k:=VW.1;have g:=QL.1;have i:=VX.1;have C:=tA;have B:=ke;have v:=jR;have d:=ty;have r:=tu;have q:=GZ;have f6:=G5;have f7:=C';have y:=mN;have x:=mL;have mI:=mM;have p:=C_;have o:=C9;have e:=C6;have n:=C7;have z:=C8 (aj w.heap.size 0) (aj b 0) ((w.alloc (.cells #[Pq b] 133)).alloc (.cells #[.pointer (some (aj 18 133)),Pq w.heap.size,.int .u64 150] 184)) rn;have m:((w.alloc (.cells #[Pq b] 133)).alloc (.cells #[.pointer (some (aj 18 133)),Pq w.heap.size,.int .u64 150] 184)).cell? (aj 6 0)=some (.iface 258 (.agg #[.pointer (some (aj 18 83))])):=by rw[gw _ _ (aj 6 0) (by simp;omega),gw _ _ (aj 6 0) c];exact l
 have A:=QE;have D:=om;have E:=mg;go_enter func53,ntmps53;go_wp2;refine wp_loop_rounds 1 ?_;rw[rounds_succ];go_wp2;go_ret;simp_all
