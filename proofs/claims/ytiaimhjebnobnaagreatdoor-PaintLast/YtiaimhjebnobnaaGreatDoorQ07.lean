import Derived.Test.YtiaimhjebnobnaaGreatDoorQ02
import Derived.Stop.Asserts
import Derived.RowKitTokens
set_option linter.all false
set_option maxRecDepth 100000
set_option maxHeartbeats 16000000
namespace Go.Proofs.YtiaimhjebnobnaaGreatDoor
open Go.RowKit Go.Proofs.Tryz
section
open Go.Extern.Stop Go.Stop Go.Extern
theorem mP  v   w  :(Extern.ReflectliteType.typeOf #[.iface 362 v]).run prog w=.ok (.iface 254 (.agg #[.pointer (some (az 18 362))])) w:=by kernel_rfl
theorem FW:∃M,Go.Extern.find Tryz.f331=some M/\∀w,(M #[.agg #[.pointer (some (az 18 362))]]).run prog w=.ok (.bool true) w:=⟨(Go.Extern.find Tryz.f331).getD fun _=>pure (.bool false),by kernel_rfl,fun w=>by kernel_rfl⟩
theorem gL  v   w  :(Go.method 503 254 v "Comparable").run prog w=.ok (331,v) w:=by kernel_rfl
theorem GB:(prog.info? 362).map (·.comparable)=some true:=by kernel_rfl
theorem GF:(prog.info? 364).map (·.size)=some 1:=by kernel_rfl
theorem Xu  v   xT   w  :(Instr.typeAssert (.iface 362 v) xT 256 true).run prog w=.ok (.tuple #[.nilIface,.bool false]) w:=run_typeAssert_lacksB underlying256 (by kernel_rfl) (by kernel_rfl) v xT w
theorem rI  v   xT   w  :(Instr.typeAssert (.iface 362 v) xT 259 true).run prog w=.ok (.tuple #[.nilIface,.bool false]) w:=run_typeAssert_lacksB underlying259 (by kernel_rfl) (by kernel_rfl) v xT w
theorem o7  v   xT   w  :(Instr.typeAssert (.iface 362 v) xT 261 true).run prog w=.ok (.tuple #[.nilIface,.bool false]) w:=run_typeAssert_lacksB underlying261 (by kernel_rfl) (by kernel_rfl) v xT w
theorem Xv  v   xT   w  :(Instr.typeAssert (.iface 132 v) xT 256 true).run prog w=.ok (.tuple #[.nilIface,.bool false]) w:=run_typeAssert_lacksB underlying256 (by kernel_rfl) (by kernel_rfl) v xT w
theorem vf  v   xT   w  :(Instr.typeAssert (.iface 132 v) xT 259 true).run prog w=.ok (.tuple #[.iface 132 v,.bool true]) w:=run_typeAssert_hasB underlying259 (by kernel_rfl) v xT w
theorem qd  v   w  :(Go.method 503 132 v "Unwrap").run prog w=.ok (324,v) w:=by kernel_rfl
def xf0:=PProd.mk (@run_callFunc_extern prog 114 _ ReflectliteType.typeOf func114 (by kernel_rfl) (by kernel_rfl) (by kernel_rfl) (by kernel_rfl)) ()
theorem US(a:Addr)(w:World):
 Cw 62 #[.iface 362 (.pointer (some a)),.iface 362 (.pointer (some a))] w fun e w'=>e=Rw (.bool true)/\w'=w:=by obtain⟨i,hi,hcmp⟩:=qO.1 GB;obtain⟨j,hj,oe⟩:=qO.1 GF;have h8:=xf0.1;obtain⟨M,hM,cT⟩:=FW;have Dd:=@run_callFunc_extern prog 331 _ M func331 (by kernel_rfl) (by kernel_rfl) (by kernel_rfl) hM;have tT:=mP;have mR:=gL;have _4:=run_eql_iface_ptr_same (P:=prog) w a underlying92 underlying362 hi hcmp hj;go_enter func62,ntmps62;go_wp2;refine wp_loop_rounds 1 ?_;rw[rounds_succ];go_wp2;go_ret;simp_all
theorem xL(p:Int)(b:Addr)(w:World):
 Cw 62 #[.iface 132 (.agg #[Iq p,.iface 362 (.pointer (some b))]),.iface 362 (.pointer (some b))] w fun e w'=>e=Rw (.bool true)/\Bt w w':=by obtain⟨i,hi,hcmp⟩:=qO.1 GB;obtain⟨j,hj,oe⟩:=qO.1 GF;have h8:=xf0.1;obtain⟨M,hM,cT⟩:=FW;have Dd:=@run_callFunc_extern prog 331 _ M func331 (by kernel_rfl) (by kernel_rfl) (by kernel_rfl) hM;have tT:=mP;have mR:=gL;have nE:=Xu;have uE:=rI;have vE:=o7;have nF:=Xv;have uF:=vf;have mU:=qd;have _4:=fun w=>run_eql_iface_ptr_same (P:=prog) w b underlying92 underlying362 hi hcmp hj;have hty:=run_eql_iface_types (P:=prog) 132 362 (.agg #[Iq p,.iface 362 (.pointer (some b))]) (.pointer (some b)) underlying92 (by decide);go_enter func62,ntmps62;go_wp2;refine wp_loop_rounds 2 ?_;rw[rounds_succ];go_wp2;rw[rounds_succ];go_wp2;go_ret;exact⟨rfl,(aj _ _).alloc (ai _) _⟩
theorem vx(p:Int)(a b:Addr)(ca cb:Array Value)(ta tb:TypeId)(w:World)(bZ:a≠b)(ha:w.heap[a.block]?=some (.cells ca ta (0,0)))(hb:w.heap[b.block]?=some (.cells cb tb (0,0))):
 Cw 62 #[.iface 132 (.agg #[Iq p,.iface 362 (.pointer (some a))]),.iface 362 (.pointer (some b))] w fun e w'=>e=Rw (.bool false)/\Bt w w':=by obtain⟨i,hi,hcmp⟩:=qO.1 GB;obtain⟨j,hj,oe⟩:=qO.1 GF;have h8:=xf0.1;obtain⟨M,hM,cT⟩:=FW;have Dd:=@run_callFunc_extern prog 331 _ M func331 (by kernel_rfl) (by kernel_rfl) (by kernel_rfl) hM;have tT:=mP;have mR:=gL;have nE:=Xu;have uE:=rI;have vE:=o7;have nF:=Xv;have uF:=vf;have mU:=qd;have _4:=run_eql_iface_ptr_other (P:=prog) (w.alloc (.cells #[Iq p,.iface 362 (.pointer (some a))] 132)) underlying92 underlying362 hi hcmp hj (by omega) bZ ((heap_alloc_old w _ (aM.1 ha).1).trans ha) ((heap_alloc_old w _ (aM.1 hb).1).trans hb);have hty:=run_eql_iface_types (P:=prog) 132 362 (.agg #[Iq p,.iface 362 (.pointer (some a))]) (.pointer (some b)) underlying92 (by decide);go_enter func62,ntmps62;go_wp2;refine wp_loop_rounds 2 ?_;rw[rounds_succ];go_wp2;rw[rounds_succ];go_wp2;go_ret;exact⟨rfl,(aj _ _).alloc (ai _) _⟩
theorem NZ  t   w  :(ReflectliteValue.unpack (.iface 134 (.pointer (some t)))).run prog w
 =.ok (.agg #[.pointer (some (az 18 134)),Pq w.heap.size,.int .u64 150]) (w.alloc (.cells #[.pointer (some t)] 134)):=by kernel_rfl
theorem Iv  a   w  :(ReflectliteValue.methodAny (ReflectliteValue.valueError "reflectlite.Value.Type" 0) (fun t _ _ _=>ReflectliteType.toType t) #[.agg #[.pointer (some (az 18 134)),.pointer (some a),.int .u64 150]]).run prog w
 =.ok (.iface 254 (.agg #[.pointer (some (az 18 134))])) w:=by kernel_rfl
theorem pN  h   w  :(Go.method 503 254 (.agg #[h]) "Kind").run prog w=.ok (319,h) w:=by kernel_rfl
theorem Iu  w  :((ReflectliteType.abiMethod fun t=>(fun a:Nat=>Value.int IntKind.u8 (a:Int))<$>Rtype.kind t) #[.pointer (some (az 18 134))]).run prog w=.ok (.int .u8 22) w:=by kernel_rfl
theorem It  w  :((ReflectliteType.abiMethod fun t=>(fun a:Nat=>Value.int IntKind.u8 (a:Int))<$>Rtype.kind t) #[.pointer (some (az 18 132))]).run prog w=.ok (.int .u8 25) w:=by kernel_rfl
theorem Cf  a   w  :(ReflectliteValue.parts (.agg #[.pointer (some (az 18 134)),.pointer (some a),.int .u64 150])).run prog w=.ok (some (134,a,150)) w:=by kernel_rfl
theorem Is  a p   W  (ha:W.cell? a=some (.pointer (some p))):
 (ReflectliteValue.method (ReflectliteValue.valueError "reflectlite.Value.IsNil" 0) ReflectliteValue.isNil #[.agg #[.pointer (some (az 18 134)),.pointer (some a),.int .u64 150]]).run prog W=.ok (.bool false) W:=by change(bind (m:=Sem) (ReflectliteValue.parts (.agg #[.pointer (some (az 18 134)),.pointer (some a),.int .u64 150])) _).run prog W=_;simp only[Sem.run_bind,Cf,Result.andThen];simp[ReflectliteValue.isNil,loadVar,isAgg,underlying,underlying134,ha,Result.andThen]
theorem pL  h   w  :(Go.method 503 254 (.agg #[h]) "Elem").run prog w=.ok (332,.agg #[h]) w:=by kernel_rfl
theorem pM  h   w  :(Go.method 503 254 (.agg #[h]) "Implements").run prog w=.ok (333,.agg #[h]) w:=by kernel_rfl
theorem mq  h   w  :(Go.method 503 254 (.agg #[h]) "AssignableTo").run prog w=.ok (330,.agg #[h]) w:=by kernel_rfl
theorem Ip  w  :(ReflectliteType.method ReflectliteType.elem #[.agg #[.pointer (some (az 18 134))]]).run prog w=.ok (.iface 254 (.agg #[.pointer (some (az 18 132))])) w:=by kernel_rfl
theorem Ir  w  :(ReflectliteType.relation "Implements" ReflectliteType.implements_ #[.agg #[.pointer (some (az 18 132))],.iface 254 (.agg #[.pointer (some (az 18 92))])]).run prog w=.ok (.bool true) w:=by kernel_rfl
theorem yj  v   w  :(ReflectliteType.typeOf #[.iface 132 v]).run prog w=.ok (.iface 254 (.agg #[.pointer (some (az 18 132))])) w:=by kernel_rfl
theorem yi  w  :(ReflectliteType.relation "AssignableTo" ReflectliteType.assignableTo #[.agg #[.pointer (some (az 18 132))],.iface 254 (.agg #[.pointer (some (az 18 132))])]).run prog w=.ok (.bool true) w:=by kernel_rfl
theorem yh  w  :(ReflectliteType.relation "AssignableTo" ReflectliteType.assignableTo #[.agg #[.pointer (some (az 18 362))],.iface 254 (.agg #[.pointer (some (az 18 132))])]).run prog w=.ok (.bool false) w:=by kernel_rfl
theorem NY  p   c   w  :(ReflectliteValue.unpack (.iface 132 (.agg #[Iq p,c]))).run prog w
 =.ok (.agg #[.pointer (some (az 18 132)),Pq w.heap.size,.int .u64 153]) (w.alloc (.cells #[Iq p,c] 132)):=by kernel_rfl
theorem J_  w  :(Rtype.elem? 134).run prog w=.ok (some 132) w:=by kernel_rfl
theorem zby  p   w  :(ReflectliteValue.mk 132 p ReflectliteValue.flagAddr).run prog w=.ok (.agg #[.pointer (some (az 18 132)),.pointer (some p),.int .u64 409]) w:=by kernel_rfl
theorem Ty  a p   W  (ha:W.cell? a=some (.pointer (some p))):
 (ReflectliteValue.method (ReflectliteValue.valueError "reflectlite.Value.Elem" 0) ReflectliteValue.elem #[.agg #[.pointer (some (az 18 134)),.pointer (some a),.int .u64 150]]).run prog W
  =.ok (.agg #[.pointer (some (az 18 132)),.pointer (some p),.int .u64 409]) W:=by change(bind (m:=Sem) (ReflectliteValue.parts (.agg #[.pointer (some (az 18 134)),.pointer (some a),.int .u64 150])) _).run prog W=_;simp only[Sem.run_bind,Cf,Result.andThen];simp[ReflectliteValue.elem,loadVar,isAgg,underlying,underlying134,ha,Result.andThen,J_,zby]
theorem NV  a   w  :(ReflectliteValue.parts (.agg #[.pointer (some (az 18 132)),.pointer (some a),.int .u64 409])).run prog w=.ok (some (132,a,409)) w:=by kernel_rfl
theorem NX  a   w  :(ReflectliteValue.parts (.agg #[.pointer (some (az 18 132)),.pointer (some a),.int .u64 153])).run prog w=.ok (some (132,a,153)) w:=by kernel_rfl
theorem NS  w  :(Rtype.directlyAssignable 132 132).run prog w=.ok true w:=by kernel_rfl
theorem zbz  tb bb   p   c o0 o1   W  (hb0:W.cell? (az bb 0)=some (Iq p)) (hb1:W.cell? (az bb 1)=some c) (UE:W.cell? (az tb 0)=some o0) (Pp:W.cell? (az tb 1)=some o1) (hf:∀j,W.frozen? (az tb j)=false) (hcl:c.oneCell'=true):
 (ReflectliteValue.set #[.agg #[.pointer (some (az 18 132)),Pq tb,.int .u64 409],.agg #[.pointer (some (az 18 132)),Pq bb,.int .u64 153]]).run prog W
  =.ok (.tuple #[]) ((W.setCell (az tb 0) (Iq p)).setCell (az tb 1) c):=by
 change(bind (m:=Sem) (ReflectliteValue.parts (.agg #[.pointer (some (az 18 132)),Pq tb,.int .u64 409])) fun _=>bind (m:=Sem) (ReflectliteValue.parts (.agg #[.pointer (some (az 18 132)),Pq bb,.int .u64 153])) _).run prog W=_;simp only[Sem.run_bind,NV,NX,Result.andThen];simp[ReflectliteValue.flagAddr,loadVar,loadCells,loadCellsFrom,hb0,hb1,Result.andThen,NS,storeVar,Value.cells,storeCells,Addr.add];have e1:(store (az tb 0) (Iq p)).run prog W=.ok () (W.setCell (az tb 0) (Iq p)):=by rw[run_store prog W (az tb 0) _ _ (by rfl)];simp[UE,hf]
 have h1:(W.setCell (az tb 0) (Iq p)).cell? (az tb 1)=some o1:=(eu _ _ _ _ (fun e=>by grind)).trans Pp;have h2:(W.setCell (az tb 0) (Iq p)).frozen? (az tb 1)=false:=(ij _ _ _ _).trans (hf 1);have e2:(store (az tb 1) c).run prog (W.setCell (az tb 0) (Iq p))=.ok () ((W.setCell (az tb 0) (Iq p)).setCell (az tb 1) c):=by rw[run_store prog _ (az tb 1) _ _ hcl];simp[h1,h2]
 grind
theorem zdx  v   xT   w  :(Instr.typeAssert (.iface 362 v) xT 266 true).run prog w=.ok (.tuple #[.nilIface,.bool false]) w:=run_typeAssert_lacksB underlying266 (by kernel_rfl) (by kernel_rfl) v xT w
def xf1:=PProd.mk (@run_callFunc_extern prog 116 _ (fun args=>ReflectliteValue.unpack (args.getD 0 (.tuple #[]))) func116 (by kernel_rfl) (by kernel_rfl) (by kernel_rfl) (by kernel_rfl)) ()
def xf2:=PProd.mk (@run_callFunc_extern prog 117 _ (ReflectliteValue.methodAny (ReflectliteValue.valueError "reflectlite.Value.Type" 0) (fun t _ _ _=>ReflectliteType.toType t)) func117 (by kernel_rfl) (by kernel_rfl) (by kernel_rfl) (by kernel_rfl)) ()
def xf3:=PProd.mk (@run_callFunc_extern prog 118 _ (ReflectliteValue.method (ReflectliteValue.valueError "reflectlite.Value.IsNil" 0) ReflectliteValue.isNil) func118 (by kernel_rfl) (by kernel_rfl) (by kernel_rfl) (by kernel_rfl)) ()
def xf4:=PProd.mk (@run_callFunc_extern prog 319 _ (ReflectliteType.abiMethod fun t=>do pure (.int .u8 (<-Rtype.kind t))) func319 (by kernel_rfl) (by kernel_rfl) (by kernel_rfl) (by kernel_rfl)) ()
def xf5:=PProd.mk (@run_callFunc_extern prog 332 _ (ReflectliteType.method ReflectliteType.elem) func332 (by kernel_rfl) (by kernel_rfl) (by kernel_rfl) (by kernel_rfl)) ()
def xf6:=PProd.mk (@run_callFunc_extern prog 333 _ (ReflectliteType.relation "Implements" ReflectliteType.implements_) func333 (by kernel_rfl) (by kernel_rfl) (by kernel_rfl) (by kernel_rfl)) ()
def xf7:=PProd.mk (@run_callFunc_extern prog 330 _ (ReflectliteType.relation "AssignableTo" ReflectliteType.assignableTo) func330 (by kernel_rfl) (by kernel_rfl) (by kernel_rfl) (by kernel_rfl)) ()
def xf8:=PProd.mk (@run_callFunc_extern prog 175 _ (ReflectliteValue.method (ReflectliteValue.valueError "reflectlite.Value.Elem" 0) ReflectliteValue.elem) func175 (by kernel_rfl) (by kernel_rfl) (by kernel_rfl) (by kernel_rfl)) ()
def xf9:=PProd.mk (@run_callFunc_extern prog 176 _ (ReflectliteValue.set) func176 (by kernel_rfl) (by kernel_rfl) (by kernel_rfl) (by kernel_rfl)) ()
theorem Yo(tb:Nat)(p:Int)(c o0 o1:Value)(w:World)(hlt:6<w.heap.size)(hg:w.cell? (az 6 0)=some (.iface 254 (.agg #[.pointer (some (az 18 92))])))(uf:tb<w.heap.size)(UE:w.cell? (az tb 0)=some o0)(Pp:w.cell? (az tb 1)=some o1)(WU:∀j,w.frozen? (az tb j)=false)(hcl:c.oneCell'=true):
 Cw 63 #[.iface 132 (.agg #[Iq p,c]),.iface 134 (Pq tb)] w fun ev w'=>ev=Rw (.bool true)/\w'=((((((w.alloc (.cells #[Pq tb] 134)).alloc (.cells #[.pointer (some (az 18 134)),Pq w.heap.size,.int .u64 150] 192)).alloc (.cells #[.pointer (some (az 18 134)),Pq w.heap.size,.int .u64 150] 192)).alloc (.cells #[Iq p,c] 132)).setCell (az tb 0) (Iq p)).setCell (az tb 1) c):=by
 have h6:=xf1.1;have h7:=xf2.1;have h8:=xf3.1;have h27:=xf4.1;have h37:=xf5.1;have h38:=xf6.1;have dI:=xf0.1;have h35:=xf7.1;have h11:=xf8.1;have h12:=xf9.1;have tO:=yj;have tE:=mP;have mA:=mq;have a25:=yi;have aE:=yh;have v25:=NY;have f6:=NZ;have f7:=Iv;have mK:=pN;have mE:=pL;have mI:=pM;have k27:=Iu;have k25:=It;have e27:=Ip;have i25:=Ir;have n8:=Is (az w.heap.size 0) (az tb 0) ((w.alloc (.cells #[Pq tb] 134)).alloc (.cells #[.pointer (some (az 18 134)),Pq w.heap.size,.int .u64 150] 192)) (by simp);have kU:((w.alloc (.cells #[Pq tb] 134)).alloc (.cells #[.pointer (some (az 18 134)),Pq w.heap.size,.int .u64 150] 192)).cell? (az 6 0)=some (.iface 254 (.agg #[.pointer (some (az 18 92))])):=by rw[ja _ _ (az 6 0) (by simp;omega),ja _ _ (az 6 0) hlt];exact hg
 have el:=Ty (az w.heap.size 0) (az tb 0) (((w.alloc (.cells #[Pq tb] 134)).alloc (.cells #[.pointer (some (az 18 134)),Pq w.heap.size,.int .u64 150] 192)).alloc (.cells #[.pointer (some (az 18 134)),Pq w.heap.size,.int .u64 150] 192)) (by rw[ja _ _ (az w.heap.size 0) (by simp;omega)];simp);have st:=zbz tb (w.heap.size+1+1+1) p c o0 o1 ((((w.alloc (.cells #[Pq tb] 134)).alloc (.cells #[.pointer (some (az 18 134)),Pq w.heap.size,.int .u64 150] 192)).alloc (.cells #[.pointer (some (az 18 134)),Pq w.heap.size,.int .u64 150] 192)).alloc (.cells #[Iq p,c] 132))
  (by rw[World.cell?_alloc_at _ _ _ _ (by simp)];rfl)
  (by rw[World.cell?_alloc_at _ _ _ _ (by simp)];rfl)
  (by rw[ja _ _ (az tb 0) (by simp;omega),ja _ _ (az tb 0) (by simp;omega),ja _ _ (az tb 0) (by simp;omega),ja _ _ (az tb 0) uf];exact UE)
  (by rw[ja _ _ (az tb 1) (by simp;omega),ja _ _ (az tb 1) (by simp;omega),ja _ _ (az tb 1) (by simp;omega),ja _ _ (az tb 1) uf];exact Pp)
  (fun j=>by rw[JF _ _ (az tb j) (by simp;omega),JF _ _ (az tb j) (by simp;omega),JF _ _ (az tb j) (by simp;omega),JF _ _ (az tb j) (Nat.ne_of_lt uf)];grind) hcl;go_enter func63,ntmps63;go_wp2;refine wp_loop_rounds 1 ?_;rw[rounds_succ];go_wp2;go_ret;simp_all
theorem Tz(tb:Nat)(a:Addr)(w:World)(hlt:6<w.heap.size)(hg:w.cell? (az 6 0)=some (.iface 254 (.agg #[.pointer (some (az 18 92))]))):
 Cw 63 #[.iface 362 (.pointer (some a)),.iface 134 (Pq tb)] w fun ev w'=>ev=Rw (.bool false)/\w'=(((w.alloc (.cells #[Pq tb] 134)).alloc (.cells #[.pointer (some (az 18 134)),Pq w.heap.size,.int .u64 150] 192)).alloc (.cells #[.pointer (some (az 18 134)),Pq w.heap.size,.int .u64 150] 192)):=by
 have h6:=xf1.1;have h7:=xf2.1;have h8:=xf3.1;have h27:=xf4.1;have h37:=xf5.1;have h38:=xf6.1;have dI:=xf0.1;have h35:=xf7.1;have tO:=yj;have tE:=mP;have mA:=mq;have a25:=yi;have aE:=yh;have v25:=NY;have f6:=NZ;have f7:=Iv;have mK:=pN;have mE:=pL;have mI:=pM;have k27:=Iu;have k25:=It;have e27:=Ip;have i25:=Ir;have n8:=Is (az w.heap.size 0) (az tb 0) ((w.alloc (.cells #[Pq tb] 134)).alloc (.cells #[.pointer (some (az 18 134)),Pq w.heap.size,.int .u64 150] 192)) (by simp);have kU:((w.alloc (.cells #[Pq tb] 134)).alloc (.cells #[.pointer (some (az 18 134)),Pq w.heap.size,.int .u64 150] 192)).cell? (az 6 0)=some (.iface 254 (.agg #[.pointer (some (az 18 92))])):=by rw[ja _ _ (az 6 0) (by simp;omega),ja _ _ (az 6 0) hlt];exact hg
 have nE:=zdx;have uE:=rI;have vE:=o7;go_enter func63,ntmps63;go_wp2;refine wp_loop_rounds 1 ?_;rw[rounds_succ];go_wp2;go_ret;simp_all
