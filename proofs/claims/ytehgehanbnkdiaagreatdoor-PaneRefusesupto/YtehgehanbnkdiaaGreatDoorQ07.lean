import Derived.Test.YtehgehanbnkdiaaGreatDoorQ02
import Derived.Stop.Asserts
import Derived.RowKitTokens
set_option linter.all false
set_option maxRecDepth 100000
set_option maxHeartbeats 16000000
namespace Go.Proofs.YtehgehanbnkdiaaGreatDoor
open Go.RowKit Go.Proofs.Tryz
section
open Go.Extern.Stop Go.Stop Go.Extern
def jg v w:(Extern.ReflectliteType.typeOf #[.iface 460 v]).run prog w=.ok (.iface 312 (.agg #[.pointer (some (aq 18 460))])) w:=pt
def yd:∃M,Go.Extern.find Tryz.f407=some M/\∀w,(M #[.agg #[.pointer (some (aq 18 460))]]).run prog w=.ok (.bool true) w:=⟨(Go.Extern.find Tryz.f407).getD λ_=>pure (.bool false),pt,λw=>pt⟩
def dY v w:(Go.method 589 312 v "Comparable").run prog w=.ok (407,v) w:=pt
def yC:(prog.info? 460).map (·.comparable)=some true:=pt
def yF:(prog.info? 462).map (·.size)=some 1:=pt
def N4 v a w:(Instr.typeAssert (.iface 460 v) a 314 true).run prog w=.ok (.tuple #[.nilIface,.bool false]) w:=run_typeAssert_lacksB underlying314 pt pt v a w
def mL v a w:(Instr.typeAssert (.iface 460 v) a 317 true).run prog w=.ok (.tuple #[.nilIface,.bool false]) w:=run_typeAssert_lacksB underlying317 pt pt v a w
def k7 v a w:(Instr.typeAssert (.iface 460 v) a 319 true).run prog w=.ok (.tuple #[.nilIface,.bool false]) w:=run_typeAssert_lacksB underlying319 pt pt v a w
def N5 v a w:(Instr.typeAssert (.iface 186 v) a 314 true).run prog w=.ok (.tuple #[.nilIface,.bool false]) w:=run_typeAssert_lacksB underlying314 pt pt v a w
def pB v a w:(Instr.typeAssert (.iface 186 v) a 317 true).run prog w=.ok (.tuple #[.iface 186 v,.bool true]) w:=run_typeAssert_hasB underlying317 pt v a w
def lM v w:(Go.method 589 186 v "Unwrap").run prog w=.ok (401,v) w:=pt
def RZ:=PProd.mk (@run_callFunc_extern prog 141 _ ReflectliteType.typeOf func141 (by kernel_rfl) (by kernel_rfl) (by kernel_rfl) (by kernel_rfl)) ()
def Lz(a:Addr)(w:AT):
 Cw 89 #[.iface 460 (.pointer (some a)),.iface 460 (.pointer (some a))] w λe w'=>e=Rw (.bool true)/\w'=w:=by obtain⟨i,hi,b⟩:=jy.1 yC;obtain⟨j,g,h⟩:=jy.1 yF;have l:=RZ.1;obtain⟨M,d,k⟩:=yd;have c:=@run_callFunc_extern prog 407 _ M func407 pt pt pt d;have n:=jg;have m:=dY;have f:=run_eql_iface_ptr_same (P:=prog) w a underlying133 underlying460 hi b g;go_enter func89,ntmps89;go_wp2;refine wp_loop_rounds 1 ?_;rw[rounds_succ];go_wp2;go_ret;simp_all
def q_(p:Int)(b:Addr)(w:AT):
 Cw 89 #[.iface 186 (.agg #[Iq p,.iface 460 (.pointer (some b))]),.iface 460 (.pointer (some b))] w λe w'=>e=Rw (.bool true)/\Bq w w':=by obtain⟨i,hi,a⟩:=jy.1 yC;obtain⟨j,g,h⟩:=jy.1 yF;have m:=RZ.1;obtain⟨M,d,l⟩:=yd;have c:=@run_callFunc_extern prog 407 _ M func407 pt pt pt d;have s:=jg;have n:=dY;have q:=N4;have t:=mL;have v:=k7;have r:=N5;have u:=pB;have o:=lM;have f:=λw=>run_eql_iface_ptr_same (P:=prog) w b underlying133 underlying460 hi a g;have k:=run_eql_iface_types (P:=prog) 186 460 (.agg #[Iq p,.iface 460 (.pointer (some b))]) (.pointer (some b)) underlying133 (by decide);go_enter func89,ntmps89;go_wp2;refine wp_loop_rounds 2 ?_;rw[rounds_succ];go_wp2;rw[rounds_succ];go_wp2;go_ret;exact⟨rfl,No⟩
def pG(p:Int)(a b:Addr)(h k:Array Fd)(s t:TypeId)(w:AT)(d:a≠b)(f:w.heap[a.block]?=some (.cells h s (0,0)))(g:w.heap[b.block]?=some (.cells k t (0,0))):
 Cw 89 #[.iface 186 (.agg #[Iq p,.iface 460 (.pointer (some a))]),.iface 460 (.pointer (some b))] w λe w'=>e=Rw (.bool false)/\Bq w w':=by obtain⟨i,hi,c⟩:=jy.1 yC;obtain⟨j,o,q⟩:=jy.1 yF;have v:=RZ.1;obtain⟨M,m,u⟩:=yd;have l:=@run_callFunc_extern prog 407 _ M func407 pt pt pt m;have B:=jg;have x:=dY;have z:=N4;have C:=mL;have E:=k7;have A:=N5;have D:=pB;have y:=lM;have n:=run_eql_iface_ptr_other (P:=prog) (w.alloc (.cells #[Iq p,.iface 460 (.pointer (some a))] 186)) underlying133 underlying460 hi c o dg d ((heap_alloc_old w _ (aj.1 f).1).trans f) ((heap_alloc_old w _ (aj.1 g).1).trans g);have r:=run_eql_iface_types (P:=prog) 186 460 (.agg #[Iq p,.iface 460 (.pointer (some a))]) (.pointer (some b)) underlying133 (by decide);go_enter func89,ntmps89;go_wp2;refine wp_loop_rounds 2 ?_;rw[rounds_succ];go_wp2;rw[rounds_succ];go_wp2;go_ret;exact⟨rfl,No⟩
def FG t w:(ReflectliteValue.unpack (.iface 188 (.pointer (some t)))).run prog w
 =.ok (.agg #[.pointer (some (aq 18 188)),Pq w.heap.size,.int .u64 150]) (w.alloc (.cells #[.pointer (some t)] 188)):=pt
def AW a w:(ReflectliteValue.methodAny (ReflectliteValue.valueError "reflectlite.Value.Type" 0) (λt _ _ _=>ReflectliteType.toType t) #[.agg #[.pointer (some (aq 18 188)),.pointer (some a),.int .u64 150]]).run prog w
 =.ok (.iface 312 (.agg #[.pointer (some (aq 18 188))])) w:=pt
def lD h w:(Go.method 589 312 (.agg #[h]) "Kind").run prog w=.ok (395,h) w:=pt
def AU w:((ReflectliteType.abiMethod λt=>(λa:Nat=>Value.int IntKind.u8 (a:Int))<$>Rtype.kind t) #[.pointer (some (aq 18 188))]).run prog w=.ok (.int .u8 22) w:=pt
def AR w:((ReflectliteType.abiMethod λt=>(λa:Nat=>Value.int IntKind.u8 (a:Int))<$>Rtype.kind t) #[.pointer (some (aq 18 186))]).run prog w=.ok (.int .u8 25) w:=pt
theorem uE a w:(ReflectliteValue.parts (.agg #[.pointer (some (aq 18 188)),.pointer (some a),.int .u64 150])).run prog w=.ok (some (188,a,150)) w:=pt
def AQ a p W(b:W.cell? a=some (.pointer (some p))):
 (ReflectliteValue.method (ReflectliteValue.valueError "reflectlite.Value.IsNil" 0) ReflectliteValue.isNil #[.agg #[.pointer (some (aq 18 188)),.pointer (some a),.int .u64 150]]).run prog W=.ok (.bool false) W:=by change(bind (m:=Sem) (ReflectliteValue.parts (.agg #[.pointer (some (aq 18 188)),.pointer (some a),.int .u64 150])) _).run prog W=_;simp only[Sem.run_bind,uE,Result.andThen];simp[ReflectliteValue.isNil,loadVar,isAgg,underlying,underlying188,b,Result.andThen]
def lB h w:(Go.method 589 312 (.agg #[h]) "Elem").run prog w=.ok (408,.agg #[h]) w:=pt
def lC h w:(Go.method 589 312 (.agg #[h]) "Implements").run prog w=.ok (409,.agg #[h]) w:=pt
def iY h w:(Go.method 589 312 (.agg #[h]) "AssignableTo").run prog w=.ok (406,.agg #[h]) w:=pt
def AO w:(ReflectliteType.method ReflectliteType.elem #[.agg #[.pointer (some (aq 18 188))]]).run prog w=.ok (.iface 312 (.agg #[.pointer (some (aq 18 186))])) w:=pt
def AP w:(ReflectliteType.relation "Implements" ReflectliteType.implements_ #[.agg #[.pointer (some (aq 18 186))],.iface 312 (.agg #[.pointer (some (aq 18 133))])]).run prog w=.ok (.bool true) w:=pt
def rD v w:(ReflectliteType.typeOf #[.iface 186 v]).run prog w=.ok (.iface 312 (.agg #[.pointer (some (aq 18 186))])) w:=pt
def rC w:(ReflectliteType.relation "AssignableTo" ReflectliteType.assignableTo #[.agg #[.pointer (some (aq 18 186))],.iface 312 (.agg #[.pointer (some (aq 18 186))])]).run prog w=.ok (.bool true) w:=pt
def rB w:(ReflectliteType.relation "AssignableTo" ReflectliteType.assignableTo #[.agg #[.pointer (some (aq 18 460))],.iface 312 (.agg #[.pointer (some (aq 18 186))])]).run prog w=.ok (.bool false) w:=pt
def FF p c w:(ReflectliteValue.unpack (.iface 186 (.agg #[Iq p,c]))).run prog w
 =.ok (.agg #[.pointer (some (aq 18 186)),Pq w.heap.size,.int .u64 153]) (w.alloc (.cells #[Iq p,c] 186)):=pt
theorem Dj w:(Rtype.elem? 188).run prog w=.ok (some 186) w:=pt
theorem Qw p w:(ReflectliteValue.mk 186 p ReflectliteValue.flagAddr).run prog w=.ok (.agg #[.pointer (some (aq 18 186)),.pointer (some p),.int .u64 409]) w:=pt
def Km a p W(b:W.cell? a=some (.pointer (some p))):
 (ReflectliteValue.method (ReflectliteValue.valueError "reflectlite.Value.Elem" 0) ReflectliteValue.elem #[.agg #[.pointer (some (aq 18 188)),.pointer (some a),.int .u64 150]]).run prog W
  =.ok (.agg #[.pointer (some (aq 18 186)),.pointer (some p),.int .u64 409]) W:=by change(bind (m:=Sem) (ReflectliteValue.parts (.agg #[.pointer (some (aq 18 188)),.pointer (some a),.int .u64 150])) _).run prog W=_;simp only[Sem.run_bind,uE,Result.andThen];simp[ReflectliteValue.elem,loadVar,isAgg,underlying,underlying188,b,Result.andThen,Dj,Qw]
theorem FD a w:(ReflectliteValue.parts (.agg #[.pointer (some (aq 18 186)),.pointer (some a),.int .u64 409])).run prog w=.ok (some (186,a,409)) w:=pt
theorem FE a w:(ReflectliteValue.parts (.agg #[.pointer (some (aq 18 186)),.pointer (some a),.int .u64 153])).run prog w=.ok (some (186,a,153)) w:=pt
theorem FB w:(Rtype.directlyAssignable 186 186).run prog w=.ok true w:=pt
def Qx a b p c q l W(d:W.cell? (aq b 0)=some (Iq p))(f:W.cell? (aq b 1)=some c)(h:W.cell? (aq a 0)=some q)(i:W.cell? (aq a 1)=some l)(k:∀j,W.frozen? (aq a j)=false)(g:c.oneCell'=true):
 (ReflectliteValue.set #[.agg #[.pointer (some (aq 18 186)),Pq a,.int .u64 409],.agg #[.pointer (some (aq 18 186)),Pq b,.int .u64 153]]).run prog W
  =.ok (.tuple #[]) ((W.setCell (aq a 0) (Iq p)).setCell (aq a 1) c):=by
 change(bind (m:=Sem) (ReflectliteValue.parts (.agg #[.pointer (some (aq 18 186)),Pq a,.int .u64 409])) λ_=>bind (m:=Sem) (ReflectliteValue.parts (.agg #[.pointer (some (aq 18 186)),Pq b,.int .u64 153])) _).run prog W=_;simp only[Sem.run_bind,FD,FE,Result.andThen];simp[ReflectliteValue.flagAddr,loadVar,loadCells,loadCellsFrom,d,f,Result.andThen,FB,storeVar,Value.cells,storeCells,Addr.add];have r:(store (aq a 0) (Iq p)).run prog W=.ok () (W.setCell (aq a 0) (Iq p)):=by rw[run_store prog W (aq a 0) _ _ (by rfl)];simp[h,k]
 have n:(W.setCell (aq a 0) (Iq p)).cell? (aq a 1)=some l:=(cu _ _ _ _ (λe=>rn)).trans i;have o:(W.setCell (aq a 0) (Iq p)).frozen? (aq a 1)=false:=(eS _ _ _ _).trans (k 1);have s:(store (aq a 1) c).run prog (W.setCell (aq a 0) (Iq p))=.ok () ((W.setCell (aq a 0) (Iq p)).setCell (aq a 1) c):=by rw[run_store prog _ (aq a 1) _ _ g];simp[n,o]
 grind
def RL v a w:(Instr.typeAssert (.iface 460 v) a 324 true).run prog w=.ok (.tuple #[.nilIface,.bool false]) w:=run_typeAssert_lacksB underlying324 pt pt v a w
def V':=PProd.mk (@run_callFunc_extern prog 143 _ (λargs=>ReflectliteValue.unpack (args.getD 0 (.tuple #[]))) func143 (by kernel_rfl) (by kernel_rfl) (by kernel_rfl) (by kernel_rfl)) ()
def Wa:=PProd.mk (@run_callFunc_extern prog 144 _ (ReflectliteValue.methodAny (ReflectliteValue.valueError "reflectlite.Value.Type" 0) (λt _ _ _=>ReflectliteType.toType t)) func144 (by kernel_rfl) (by kernel_rfl) (by kernel_rfl) (by kernel_rfl)) ()
def Wb:=PProd.mk (@run_callFunc_extern prog 145 _ (ReflectliteValue.method (ReflectliteValue.valueError "reflectlite.Value.IsNil" 0) ReflectliteValue.isNil) func145 (by kernel_rfl) (by kernel_rfl) (by kernel_rfl) (by kernel_rfl)) ()
def Wc:=PProd.mk (@run_callFunc_extern prog 395 _ (ReflectliteType.abiMethod λt=>do pure (.int .u8 (<-Rtype.kind t))) func395 (by kernel_rfl) (by kernel_rfl) (by kernel_rfl) (by kernel_rfl)) ()
def We:=PProd.mk (@run_callFunc_extern prog 408 _ (ReflectliteType.method ReflectliteType.elem) func408 (by kernel_rfl) (by kernel_rfl) (by kernel_rfl) (by kernel_rfl)) ()
def Wf:=PProd.mk (@run_callFunc_extern prog 409 _ (ReflectliteType.relation "Implements" ReflectliteType.implements_) func409 (by kernel_rfl) (by kernel_rfl) (by kernel_rfl) (by kernel_rfl)) ()
def Wg:=PProd.mk (@run_callFunc_extern prog 406 _ (ReflectliteType.relation "AssignableTo" ReflectliteType.assignableTo) func406 (by kernel_rfl) (by kernel_rfl) (by kernel_rfl) (by kernel_rfl)) ()
def Z5:=PProd.mk (@run_callFunc_extern prog 223 _ (ReflectliteValue.method (ReflectliteValue.valueError "reflectlite.Value.Elem" 0) ReflectliteValue.elem) func223 (by kernel_rfl) (by kernel_rfl) (by kernel_rfl) (by kernel_rfl)) ()
def Z6:=PProd.mk (@run_callFunc_extern prog 224 _ (ReflectliteValue.set) func224 (by kernel_rfl) (by kernel_rfl) (by kernel_rfl) (by kernel_rfl)) ()
def Ol(a:Nat)(p:Int)(c h i:Fd)(w:AT)(e:6<w.heap.size)(x:w.cell? (aq 6 0)=some (.iface 312 (.agg #[.pointer (some (aq 18 133))])))(b:a<w.heap.size)(f:w.cell? (aq a 0)=some h)(g:w.cell? (aq a 1)=some i)(v:∀j,w.frozen? (aq a j)=false)(d:c.oneCell'=true):
 Cw 90 #[.iface 186 (.agg #[Iq p,c]),.iface 188 (Pq a)] w λm w'=>m=Rw (.bool true)/\w'=((((((w.alloc (.cells #[Pq a] 188)).alloc (.cells #[.pointer (some (aq 18 188)),Pq w.heap.size,.int .u64 150] 248)).alloc (.cells #[.pointer (some (aq 18 188)),Pq w.heap.size,.int .u64 150] 248)).alloc (.cells #[Iq p,c] 186)).setCell (aq a 0) (Iq p)).setCell (aq a 1) c):=by
 have F:=V'.1;have G:=Wa.1;have H:=Wb.1;have r:=Wc.1;have t:=We.1;have u:=Wf.1;have n:=RZ.1;have s:=Wg.1;have o:=Z5.1;have q:=Z6.1;have N:=rD;have M:=jg;have I:=iY;have k:=rC;have D:=rB;have C:=FF;have f6:=FG;have f7:=AW;have K:=lD;have J:=lB;have mI:=lC;have B:=AU;have A:=AR;have l:=AO;have z:=AP;have L:=AQ (aq w.heap.size 0) (aq a 0) ((w.alloc (.cells #[Pq a] 188)).alloc (.cells #[.pointer (some (aq 18 188)),Pq w.heap.size,.int .u64 150] 248)) At;have y:((w.alloc (.cells #[Pq a] 188)).alloc (.cells #[.pointer (some (aq 18 188)),Pq w.heap.size,.int .u64 150] 248)).cell? (aq 6 0)=some (.iface 312 (.agg #[.pointer (some (aq 18 133))])):=by rw[fy _ _ (aq 6 0) (by simp;omega),fy _ _ (aq 6 0) e];exact x
 have E:=Km (aq w.heap.size 0) (aq a 0) (((w.alloc (.cells #[Pq a] 188)).alloc (.cells #[.pointer (some (aq 18 188)),Pq w.heap.size,.int .u64 150] 248)).alloc (.cells #[.pointer (some (aq 18 188)),Pq w.heap.size,.int .u64 150] 248)) (by rw[fy _ _ (aq w.heap.size 0) (by simp;omega)];simp);have st:=Qx a (w.heap.size+1+1+1) p c h i ((((w.alloc (.cells #[Pq a] 188)).alloc (.cells #[.pointer (some (aq 18 188)),Pq w.heap.size,.int .u64 150] 248)).alloc (.cells #[.pointer (some (aq 18 188)),Pq w.heap.size,.int .u64 150] 248)).alloc (.cells #[Iq p,c] 186))
  (by rw[World.cell?_alloc_at _ _ _ _ At];rfl)
  (by rw[World.cell?_alloc_at _ _ _ _ At];rfl)
  (by rw[fy _ _ (aq a 0) (by simp;omega),fy _ _ (aq a 0) (by simp;omega),fy _ _ (aq a 0) (by simp;omega),fy _ _ (aq a 0) b];exact f)
  (by rw[fy _ _ (aq a 1) (by simp;omega),fy _ _ (aq a 1) (by simp;omega),fy _ _ (aq a 1) (by simp;omega),fy _ _ (aq a 1) b];exact g)
  (λj=>by rw[Cq _ _ (aq a j) (by simp;omega),Cq _ _ (aq a j) (by simp;omega),Cq _ _ (aq a j) (by simp;omega),Cq _ _ (aq a j) (Nat.ne_of_lt b)];grind) d;go_enter func90,ntmps90;go_wp2;refine wp_loop_rounds 1 ?_;rw[rounds_succ];go_wp2;go_ret;simp_all
def Ko(b:Nat)(a:Addr)(w:AT)(c:6<w.heap.size)(l:w.cell? (aq 6 0)=some (.iface 312 (.agg #[.pointer (some (aq 18 133))]))):
 Cw 90 #[.iface 460 (.pointer (some a)),.iface 188 (Pq b)] w λf w'=>f=Rw (.bool false)/\w'=(((w.alloc (.cells #[Pq b] 188)).alloc (.cells #[.pointer (some (aq 18 188)),Pq w.heap.size,.int .u64 150] 248)).alloc (.cells #[.pointer (some (aq 18 188)),Pq w.heap.size,.int .u64 150] 248)):=by
 have s:=V'.1;have t:=Wa.1;have u:=Wb.1;have h:=Wc.1;have j:=We.1;have k:=Wf.1;have g:=RZ.1;have i:=Wg.1;have C:=rD;have B:=jg;have v:=iY;have d:=rC;have r:=rB;have q:=FF;have f6:=FG;have f7:=AW;have y:=lD;have x:=lB;have mI:=lC;have p:=AU;have o:=AR;have e:=AO;have n:=AP;have z:=AQ (aq w.heap.size 0) (aq b 0) ((w.alloc (.cells #[Pq b] 188)).alloc (.cells #[.pointer (some (aq 18 188)),Pq w.heap.size,.int .u64 150] 248)) At;have m:((w.alloc (.cells #[Pq b] 188)).alloc (.cells #[.pointer (some (aq 18 188)),Pq w.heap.size,.int .u64 150] 248)).cell? (aq 6 0)=some (.iface 312 (.agg #[.pointer (some (aq 18 133))])):=by rw[fy _ _ (aq 6 0) (by simp;omega),fy _ _ (aq 6 0) c];exact l
 have A:=RL;have D:=mL;have E:=k7;go_enter func90,ntmps90;go_wp2;refine wp_loop_rounds 1 ?_;rw[rounds_succ];go_wp2;go_ret;simp_all
