import Derived.Test.YtadhgppeafpdgaaGreatDoorQ03
import Derived.Stop.Asserts
import Derived.RowKitTokens
set_option linter.all false
set_option maxRecDepth 100000
set_option maxHeartbeats 16000000
namespace Go.Proofs.YtadhgppeafpdgaaGreatDoor
open Go.RowKit Go.Proofs.Tryz
section
open Go.Extern.Stop Go.Stop Go.Extern
theorem lC  v   w  :(Extern.ReflectliteType.typeOf #[.iface 371 v]).run prog w=.ok (.iface 239 (.agg #[.pointer (some (aq 18 371))])) w:=by kernel_rfl
theorem EH:∃M,Go.Extern.find Tryz.f318=some M/\∀w,(M #[.agg #[.pointer (some (aq 18 371))]]).run prog w=.ok (.bool true) w:=⟨(Go.Extern.find Tryz.f318).getD fun _=>pure (.bool false),by kernel_rfl,fun w=>by kernel_rfl⟩
theorem fC  v   w  :(Go.method 503 239 v "Comparable").run prog w=.ok (318,v) w:=by kernel_rfl
theorem Fi:(prog.info? 371).map (·.comparable)=some true:=by kernel_rfl
theorem Fo:(prog.info? 373).map (·.size)=some 1:=by kernel_rfl
theorem WJ  v   xT   w  :(Instr.typeAssert (.iface 371 v) xT 241 true).run prog w=.ok (.tuple #[.nilIface,.bool false]) w:=run_typeAssert_lacksB underlying241 (by kernel_rfl) (by kernel_rfl) v xT w
theorem qC  v   xT   w  :(Instr.typeAssert (.iface 371 v) xT 244 true).run prog w=.ok (.tuple #[.nilIface,.bool false]) w:=run_typeAssert_lacksB underlying244 (by kernel_rfl) (by kernel_rfl) v xT w
theorem nX  v   xT   w  :(Instr.typeAssert (.iface 371 v) xT 246 true).run prog w=.ok (.tuple #[.nilIface,.bool false]) w:=run_typeAssert_lacksB underlying246 (by kernel_rfl) (by kernel_rfl) v xT w
theorem WK  v   xT   w  :(Instr.typeAssert (.iface 138 v) xT 241 true).run prog w=.ok (.tuple #[.nilIface,.bool false]) w:=run_typeAssert_lacksB underlying241 (by kernel_rfl) (by kernel_rfl) v xT w
theorem um  v   xT   w  :(Instr.typeAssert (.iface 138 v) xT 244 true).run prog w=.ok (.tuple #[.iface 138 v,.bool true]) w:=run_typeAssert_hasB underlying244 (by kernel_rfl) v xT w
theorem oU  v   w  :(Go.method 503 138 v "Unwrap").run prog w=.ok (312,v) w:=by kernel_rfl
def xf0:=PProd.mk (@run_callFunc_extern prog 90 _ ReflectliteType.typeOf func90 (by kernel_rfl) (by kernel_rfl) (by kernel_rfl) (by kernel_rfl)) ()
theorem T4(a:Addr)(w:World):
 Cw 56 #[.iface 371 (.pointer (some a)),.iface 371 (.pointer (some a))] w fun e w'=>e=Rw (.bool true)/\w'=w:=by obtain⟨i,hi,hcmp⟩:=kP.1 Fi;obtain⟨j,hj,ut⟩:=kP.1 Fo;have h8:=xf0.1;obtain⟨M,hM,cT⟩:=EH;have LW:=@run_callFunc_extern prog 318 _ M func318 (by kernel_rfl) (by kernel_rfl) (by kernel_rfl) hM;have tT:=lC;have mR:=fC;have heq:=run_eql_iface_ptr_same (P:=prog) w a underlying87 underlying371 hi hcmp hj;go_enter func56,ntmps56;go_wp2;refine wp_loop_rounds 1 ?_;rw[rounds_succ];go_wp2;go_ret;simp_all
theorem wK(p:Int)(b:Addr)(w:World):
 Cw 56 #[.iface 138 (.agg #[Iq p,.iface 371 (.pointer (some b))]),.iface 371 (.pointer (some b))] w fun e w'=>e=Rw (.bool true)/\Bt w w':=by obtain⟨i,hi,hcmp⟩:=kP.1 Fi;obtain⟨j,hj,ut⟩:=kP.1 Fo;have h8:=xf0.1;obtain⟨M,hM,cT⟩:=EH;have LW:=@run_callFunc_extern prog 318 _ M func318 (by kernel_rfl) (by kernel_rfl) (by kernel_rfl) hM;have tT:=lC;have mR:=fC;have nE:=WJ;have uE:=qC;have vE:=nX;have nF:=WK;have uF:=um;have mU:=oU;have heq:=fun w=>run_eql_iface_ptr_same (P:=prog) w b underlying87 underlying371 hi hcmp hj;have hty:=run_eql_iface_types (P:=prog) 138 371 (.agg #[Iq p,.iface 371 (.pointer (some b))]) (.pointer (some b)) underlying87 (by decide);go_enter func56,ntmps56;go_wp2;refine wp_loop_rounds 2 ?_;rw[rounds_succ];go_wp2;rw[rounds_succ];go_wp2;go_ret;exact⟨rfl,(ag _ _).alloc (ae _) _⟩
theorem uG(p:Int)(a b:Addr)(ca cb:Array Value)(ta tb:TypeId)(w:World)(bj:a≠b)(ha:w.heap[a.block]?=some (.cells ca ta (0,0)))(hb:w.heap[b.block]?=some (.cells cb tb (0,0))):
 Cw 56 #[.iface 138 (.agg #[Iq p,.iface 371 (.pointer (some a))]),.iface 371 (.pointer (some b))] w fun e w'=>e=Rw (.bool false)/\Bt w w':=by obtain⟨i,hi,hcmp⟩:=kP.1 Fi;obtain⟨j,hj,ut⟩:=kP.1 Fo;have h8:=xf0.1;obtain⟨M,hM,cT⟩:=EH;have LW:=@run_callFunc_extern prog 318 _ M func318 (by kernel_rfl) (by kernel_rfl) (by kernel_rfl) hM;have tT:=lC;have mR:=fC;have nE:=WJ;have uE:=qC;have vE:=nX;have nF:=WK;have uF:=um;have mU:=oU;have heq:=run_eql_iface_ptr_other (P:=prog) (w.alloc (.cells #[Iq p,.iface 371 (.pointer (some a))] 138)) underlying87 underlying371 hi hcmp hj (by omega) bj ((heap_alloc_old w _ (az.1 ha).1).trans ha) ((heap_alloc_old w _ (az.1 hb).1).trans hb);have hty:=run_eql_iface_types (P:=prog) 138 371 (.agg #[Iq p,.iface 371 (.pointer (some a))]) (.pointer (some b)) underlying87 (by decide);go_enter func56,ntmps56;go_wp2;refine wp_loop_rounds 2 ?_;rw[rounds_succ];go_wp2;rw[rounds_succ];go_wp2;go_ret;exact⟨rfl,(ag _ _).alloc (ae _) _⟩
theorem Ni  t   w  :(ReflectliteValue.unpack (.iface 140 (.pointer (some t)))).run prog w
 =.ok (.agg #[.pointer (some (aq 18 140)),Pq w.heap.size,.int .u64 150]) (w.alloc (.cells #[.pointer (some t)] 140)):=by kernel_rfl
theorem GZ  a   w  :(ReflectliteValue.methodAny (ReflectliteValue.valueError "reflectlite.Value.Type" 0) (fun t _ _ _=>ReflectliteType.toType t) #[.agg #[.pointer (some (aq 18 140)),.pointer (some a),.int .u64 150]]).run prog w
 =.ok (.iface 239 (.agg #[.pointer (some (aq 18 140))])) w:=by kernel_rfl
theorem oz  h   w  :(Go.method 503 239 (.agg #[h]) "Kind").run prog w=.ok (306,h) w:=by kernel_rfl
theorem GY  w  :((ReflectliteType.abiMethod fun t=>(fun a:Nat=>Value.int IntKind.u8 (a:Int))<$>Rtype.kind t) #[.pointer (some (aq 18 140))]).run prog w=.ok (.int .u8 22) w:=by kernel_rfl
theorem GV  w  :((ReflectliteType.abiMethod fun t=>(fun a:Nat=>Value.int IntKind.u8 (a:Int))<$>Rtype.kind t) #[.pointer (some (aq 18 138))]).run prog w=.ok (.int .u8 25) w:=by kernel_rfl
theorem AZ  a   w  :(ReflectliteValue.parts (.agg #[.pointer (some (aq 18 140)),.pointer (some a),.int .u64 150])).run prog w=.ok (some (140,a,150)) w:=by kernel_rfl
theorem GU  a p   W  (ha:W.cell? a=some (.pointer (some p))):
 (ReflectliteValue.method (ReflectliteValue.valueError "reflectlite.Value.IsNil" 0) ReflectliteValue.isNil #[.agg #[.pointer (some (aq 18 140)),.pointer (some a),.int .u64 150]]).run prog W=.ok (.bool false) W:=by change(bind (m:=Sem) (ReflectliteValue.parts (.agg #[.pointer (some (aq 18 140)),.pointer (some a),.int .u64 150])) _).run prog W=_;simp only[Sem.run_bind,AZ,Result.andThen];simp[ReflectliteValue.isNil,loadVar,isAgg,underlying,underlying140,ha,Result.andThen]
theorem ox  h   w  :(Go.method 503 239 (.agg #[h]) "Elem").run prog w=.ok (319,.agg #[h]) w:=by kernel_rfl
theorem oy  h   w  :(Go.method 503 239 (.agg #[h]) "Implements").run prog w=.ok (320,.agg #[h]) w:=by kernel_rfl
theorem li  h   w  :(Go.method 503 239 (.agg #[h]) "AssignableTo").run prog w=.ok (317,.agg #[h]) w:=by kernel_rfl
theorem GR  w  :(ReflectliteType.method ReflectliteType.elem #[.agg #[.pointer (some (aq 18 140))]]).run prog w=.ok (.iface 239 (.agg #[.pointer (some (aq 18 138))])) w:=by kernel_rfl
theorem GS  w  :(ReflectliteType.relation "Implements" ReflectliteType.implements_ #[.agg #[.pointer (some (aq 18 138))],.iface 239 (.agg #[.pointer (some (aq 18 87))])]).run prog w=.ok (.bool true) w:=by kernel_rfl
theorem xm  v   w  :(ReflectliteType.typeOf #[.iface 138 v]).run prog w=.ok (.iface 239 (.agg #[.pointer (some (aq 18 138))])) w:=by kernel_rfl
theorem xj  w  :(ReflectliteType.relation "AssignableTo" ReflectliteType.assignableTo #[.agg #[.pointer (some (aq 18 138))],.iface 239 (.agg #[.pointer (some (aq 18 138))])]).run prog w=.ok (.bool true) w:=by kernel_rfl
theorem xi  w  :(ReflectliteType.relation "AssignableTo" ReflectliteType.assignableTo #[.agg #[.pointer (some (aq 18 371))],.iface 239 (.agg #[.pointer (some (aq 18 138))])]).run prog w=.ok (.bool false) w:=by kernel_rfl
theorem Nh  p   c   w  :(ReflectliteValue.unpack (.iface 138 (.agg #[Iq p,c]))).run prog w
 =.ok (.agg #[.pointer (some (aq 18 138)),Pq w.heap.size,.int .u64 153]) (w.alloc (.cells #[Iq p,c] 138)):=by kernel_rfl
theorem JG  w  :(Rtype.elem? 140).run prog w=.ok (some 138) w:=by kernel_rfl
theorem zaM  p   w  :(ReflectliteValue.mk 138 p ReflectliteValue.flagAddr).run prog w=.ok (.agg #[.pointer (some (aq 18 138)),.pointer (some p),.int .u64 409]) w:=by kernel_rfl
theorem SH  a p   W  (ha:W.cell? a=some (.pointer (some p))):
 (ReflectliteValue.method (ReflectliteValue.valueError "reflectlite.Value.Elem" 0) ReflectliteValue.elem #[.agg #[.pointer (some (aq 18 140)),.pointer (some a),.int .u64 150]]).run prog W
  =.ok (.agg #[.pointer (some (aq 18 138)),.pointer (some p),.int .u64 409]) W:=by change(bind (m:=Sem) (ReflectliteValue.parts (.agg #[.pointer (some (aq 18 140)),.pointer (some a),.int .u64 150])) _).run prog W=_;simp only[Sem.run_bind,AZ,Result.andThen];simp[ReflectliteValue.elem,loadVar,isAgg,underlying,underlying140,ha,Result.andThen,JG,zaM]
theorem Nf  a   w  :(ReflectliteValue.parts (.agg #[.pointer (some (aq 18 138)),.pointer (some a),.int .u64 409])).run prog w=.ok (some (138,a,409)) w:=by kernel_rfl
theorem Ng  a   w  :(ReflectliteValue.parts (.agg #[.pointer (some (aq 18 138)),.pointer (some a),.int .u64 153])).run prog w=.ok (some (138,a,153)) w:=by kernel_rfl
theorem Nb  w  :(Rtype.directlyAssignable 138 138).run prog w=.ok true w:=by kernel_rfl
theorem zaN  tb bb   p   c o0 o1   W  (wC:W.cell? (aq bb 0)=some (Iq p)) (hb1:W.cell? (aq bb 1)=some c) (TN:W.cell? (aq tb 0)=some o0) (OP:W.cell? (aq tb 1)=some o1) (hf:∀j,W.frozen? (aq tb j)=false) (hcl:c.oneCell'=true):
 (ReflectliteValue.set #[.agg #[.pointer (some (aq 18 138)),Pq tb,.int .u64 409],.agg #[.pointer (some (aq 18 138)),Pq bb,.int .u64 153]]).run prog W
  =.ok (.tuple #[]) ((W.setCell (aq tb 0) (Iq p)).setCell (aq tb 1) c):=by
 change(bind (m:=Sem) (ReflectliteValue.parts (.agg #[.pointer (some (aq 18 138)),Pq tb,.int .u64 409])) fun _=>bind (m:=Sem) (ReflectliteValue.parts (.agg #[.pointer (some (aq 18 138)),Pq bb,.int .u64 153])) _).run prog W=_;simp only[Sem.run_bind,Nf,Ng,Result.andThen];simp[ReflectliteValue.flagAddr,loadVar,loadCells,loadCellsFrom,wC,hb1,Result.andThen,Nb,storeVar,Value.cells,storeCells,Addr.add];have e1:(store (aq tb 0) (Iq p)).run prog W=.ok () (W.setCell (aq tb 0) (Iq p)):=by rw[run_store prog W (aq tb 0) _ _ (by rfl)];simp[TN,hf]
 have h1:(W.setCell (aq tb 0) (Iq p)).cell? (aq tb 1)=some o1:=(dy _ _ _ _ (fun e=>by grind)).trans OP;have h2:(W.setCell (aq tb 0) (Iq p)).frozen? (aq tb 1)=false:=(kO _ _ _ _).trans (hf 1);have e2:(store (aq tb 1) c).run prog (W.setCell (aq tb 0) (Iq p))=.ok () ((W.setCell (aq tb 0) (Iq p)).setCell (aq tb 1) c):=by rw[run_store prog _ (aq tb 1) _ _ hcl];simp[h1,h2]
 grind
theorem zcG  v   xT   w  :(Instr.typeAssert (.iface 371 v) xT 251 true).run prog w=.ok (.tuple #[.nilIface,.bool false]) w:=run_typeAssert_lacksB underlying251 (by kernel_rfl) (by kernel_rfl) v xT w
def xf1:=PProd.mk (@run_callFunc_extern prog 92 _ (fun args=>ReflectliteValue.unpack (args.getD 0 (.tuple #[]))) func92 (by kernel_rfl) (by kernel_rfl) (by kernel_rfl) (by kernel_rfl)) ()
def xf2:=PProd.mk (@run_callFunc_extern prog 93 _ (ReflectliteValue.methodAny (ReflectliteValue.valueError "reflectlite.Value.Type" 0) (fun t _ _ _=>ReflectliteType.toType t)) func93 (by kernel_rfl) (by kernel_rfl) (by kernel_rfl) (by kernel_rfl)) ()
def xf3:=PProd.mk (@run_callFunc_extern prog 94 _ (ReflectliteValue.method (ReflectliteValue.valueError "reflectlite.Value.IsNil" 0) ReflectliteValue.isNil) func94 (by kernel_rfl) (by kernel_rfl) (by kernel_rfl) (by kernel_rfl)) ()
def xf4:=PProd.mk (@run_callFunc_extern prog 306 _ (ReflectliteType.abiMethod fun t=>do pure (.int .u8 (<-Rtype.kind t))) func306 (by kernel_rfl) (by kernel_rfl) (by kernel_rfl) (by kernel_rfl)) ()
def xf5:=PProd.mk (@run_callFunc_extern prog 319 _ (ReflectliteType.method ReflectliteType.elem) func319 (by kernel_rfl) (by kernel_rfl) (by kernel_rfl) (by kernel_rfl)) ()
def xf6:=PProd.mk (@run_callFunc_extern prog 320 _ (ReflectliteType.relation "Implements" ReflectliteType.implements_) func320 (by kernel_rfl) (by kernel_rfl) (by kernel_rfl) (by kernel_rfl)) ()
def xf7:=PProd.mk (@run_callFunc_extern prog 317 _ (ReflectliteType.relation "AssignableTo" ReflectliteType.assignableTo) func317 (by kernel_rfl) (by kernel_rfl) (by kernel_rfl) (by kernel_rfl)) ()
def xf8:=PProd.mk (@run_callFunc_extern prog 147 _ (ReflectliteValue.method (ReflectliteValue.valueError "reflectlite.Value.Elem" 0) ReflectliteValue.elem) func147 (by kernel_rfl) (by kernel_rfl) (by kernel_rfl) (by kernel_rfl)) ()
def xf9:=PProd.mk (@run_callFunc_extern prog 148 _ (ReflectliteValue.set) func148 (by kernel_rfl) (by kernel_rfl) (by kernel_rfl) (by kernel_rfl)) ()
theorem XB(tb:Nat)(p:Int)(c o0 o1:Value)(w:World)(hlt:8<w.heap.size)(hg:w.cell? (aq 8 0)=some (.iface 239 (.agg #[.pointer (some (aq 18 87))])))(OQ:tb<w.heap.size)(TN:w.cell? (aq tb 0)=some o0)(OP:w.cell? (aq tb 1)=some o1)(hf0:∀j,w.frozen? (aq tb j)=false)(hcl:c.oneCell'=true):
 Cw 57 #[.iface 138 (.agg #[Iq p,c]),.iface 140 (Pq tb)] w fun ev w'=>ev=Rw (.bool true)/\w'=((((((w.alloc (.cells #[Pq tb] 140)).alloc (.cells #[.pointer (some (aq 18 140)),Pq w.heap.size,.int .u64 150] 184)).alloc (.cells #[.pointer (some (aq 18 140)),Pq w.heap.size,.int .u64 150] 184)).alloc (.cells #[Iq p,c] 138)).setCell (aq tb 0) (Iq p)).setCell (aq tb 1) c):=by
 have h6:=xf1.1;have h7:=xf2.1;have h8:=xf3.1;have ZY:=xf4.1;have h37:=xf5.1;have h38:=xf6.1;have fM:=xf0.1;have h35:=xf7.1;have h11:=xf8.1;have ZX:=xf9.1;have tO:=xm;have tE:=lC;have mA:=li;have a25:=xj;have aE:=xi;have v25:=Nh;have f6:=Ni;have f7:=GZ;have mK:=oz;have mE:=ox;have mI:=oy;have k27:=GY;have k25:=GV;have e27:=GR;have i25:=GS;have n8:=GU (aq w.heap.size 0) (aq tb 0) ((w.alloc (.cells #[Pq tb] 140)).alloc (.cells #[.pointer (some (aq 18 140)),Pq w.heap.size,.int .u64 150] 184)) (by simp);have lz:((w.alloc (.cells #[Pq tb] 140)).alloc (.cells #[.pointer (some (aq 18 140)),Pq w.heap.size,.int .u64 150] 184)).cell? (aq 8 0)=some (.iface 239 (.agg #[.pointer (some (aq 18 87))])):=by rw[g_ _ _ (aq 8 0) (by simp;omega),g_ _ _ (aq 8 0) hlt];exact hg
 have el:=SH (aq w.heap.size 0) (aq tb 0) (((w.alloc (.cells #[Pq tb] 140)).alloc (.cells #[.pointer (some (aq 18 140)),Pq w.heap.size,.int .u64 150] 184)).alloc (.cells #[.pointer (some (aq 18 140)),Pq w.heap.size,.int .u64 150] 184)) (by rw[g_ _ _ (aq w.heap.size 0) (by simp;omega)];simp);have st:=zaN tb (w.heap.size+1+1+1) p c o0 o1 ((((w.alloc (.cells #[Pq tb] 140)).alloc (.cells #[.pointer (some (aq 18 140)),Pq w.heap.size,.int .u64 150] 184)).alloc (.cells #[.pointer (some (aq 18 140)),Pq w.heap.size,.int .u64 150] 184)).alloc (.cells #[Iq p,c] 138))
  (by rw[World.cell?_alloc_at _ _ _ _ (by simp)];rfl)
  (by rw[World.cell?_alloc_at _ _ _ _ (by simp)];rfl)
  (by rw[g_ _ _ (aq tb 0) (by simp;omega),g_ _ _ (aq tb 0) (by simp;omega),g_ _ _ (aq tb 0) (by simp;omega),g_ _ _ (aq tb 0) OQ];exact TN)
  (by rw[g_ _ _ (aq tb 1) (by simp;omega),g_ _ _ (aq tb 1) (by simp;omega),g_ _ _ (aq tb 1) (by simp;omega),g_ _ _ (aq tb 1) OQ];exact OP)
  (fun j=>by rw[IY _ _ (aq tb j) (by simp;omega),IY _ _ (aq tb j) (by simp;omega),IY _ _ (aq tb j) (by simp;omega),IY _ _ (aq tb j) (Nat.ne_of_lt OQ)];grind) hcl;go_enter func57,ntmps57;go_wp2;refine wp_loop_rounds 1 ?_;rw[rounds_succ];go_wp2;go_ret;simp_all
theorem SI(tb:Nat)(a:Addr)(w:World)(hlt:8<w.heap.size)(hg:w.cell? (aq 8 0)=some (.iface 239 (.agg #[.pointer (some (aq 18 87))]))):
 Cw 57 #[.iface 371 (.pointer (some a)),.iface 140 (Pq tb)] w fun ev w'=>ev=Rw (.bool false)/\w'=(((w.alloc (.cells #[Pq tb] 140)).alloc (.cells #[.pointer (some (aq 18 140)),Pq w.heap.size,.int .u64 150] 184)).alloc (.cells #[.pointer (some (aq 18 140)),Pq w.heap.size,.int .u64 150] 184)):=by
 have h6:=xf1.1;have h7:=xf2.1;have h8:=xf3.1;have ZY:=xf4.1;have h37:=xf5.1;have h38:=xf6.1;have fM:=xf0.1;have h35:=xf7.1;have tO:=xm;have tE:=lC;have mA:=li;have a25:=xj;have aE:=xi;have v25:=Nh;have f6:=Ni;have f7:=GZ;have mK:=oz;have mE:=ox;have mI:=oy;have k27:=GY;have k25:=GV;have e27:=GR;have i25:=GS;have n8:=GU (aq w.heap.size 0) (aq tb 0) ((w.alloc (.cells #[Pq tb] 140)).alloc (.cells #[.pointer (some (aq 18 140)),Pq w.heap.size,.int .u64 150] 184)) (by simp);have lz:((w.alloc (.cells #[Pq tb] 140)).alloc (.cells #[.pointer (some (aq 18 140)),Pq w.heap.size,.int .u64 150] 184)).cell? (aq 8 0)=some (.iface 239 (.agg #[.pointer (some (aq 18 87))])):=by rw[g_ _ _ (aq 8 0) (by simp;omega),g_ _ _ (aq 8 0) hlt];exact hg
 have nE:=zcG;have uE:=qC;have vE:=nX;go_enter func57,ntmps57;go_wp2;refine wp_loop_rounds 1 ?_;rw[rounds_succ];go_wp2;go_ret;simp_all
