import Derived.Test.YtbeiapdobffpiaaGreatDoorQ07
import Derived.Stop.Asserts
import Derived.RowKitTokens
set_option linter.all false
set_option maxRecDepth 100000
set_option maxHeartbeats 16000000
namespace Go.Proofs.YtbeiapdobffpiaaGreatDoor
open Go.RowKit Go.Proofs.Tryz
section
open Go.Extern.Stop Go.Stop Go.Extern
theorem kM  v   w  :(Extern.ReflectliteType.typeOf #[.iface 365 v]).run prog w=.ok (.iface 206 (.agg #[.pointer (some (az 18 365))])) w:=by kernel_rfl
theorem B7:∃M,Go.Extern.find Tryz.f319=some M/\∀w,(M #[.agg #[.pointer (some (az 18 365))]]).run prog w=.ok (.bool true) w:=⟨(Go.Extern.find Tryz.f319).getD fun _=>pure (.bool false),by kernel_rfl,fun w=>by kernel_rfl⟩
theorem fH  v   w  :(Go.method 510 206 v "Comparable").run prog w=.ok (319,v) w:=by kernel_rfl
theorem C6:(prog.info? 365).map (·.comparable)=some true:=by kernel_rfl
theorem C8:(prog.info? 367).map (·.size)=some 1:=by kernel_rfl
theorem Rk  v   xT   w  :(Instr.typeAssert (.iface 365 v) xT 208 true).run prog w=.ok (.tuple #[.nilIface,.bool false]) w:=run_typeAssert_lacksB underlying208 (by kernel_rfl) (by kernel_rfl) v xT w
theorem ph  v   xT   w  :(Instr.typeAssert (.iface 365 v) xT 211 true).run prog w=.ok (.tuple #[.nilIface,.bool false]) w:=run_typeAssert_lacksB underlying211 (by kernel_rfl) (by kernel_rfl) v xT w
theorem mH  v   xT   w  :(Instr.typeAssert (.iface 365 v) xT 213 true).run prog w=.ok (.tuple #[.nilIface,.bool false]) w:=run_typeAssert_lacksB underlying213 (by kernel_rfl) (by kernel_rfl) v xT w
theorem Rl  v   xT   w  :(Instr.typeAssert (.iface 124 v) xT 208 true).run prog w=.ok (.tuple #[.nilIface,.bool false]) w:=run_typeAssert_lacksB underlying208 (by kernel_rfl) (by kernel_rfl) v xT w
theorem rV  v   xT   w  :(Instr.typeAssert (.iface 124 v) xT 211 true).run prog w=.ok (.tuple #[.iface 124 v,.bool true]) w:=run_typeAssert_hasB underlying211 (by kernel_rfl) v xT w
theorem nG  v   w  :(Go.method 510 124 v "Unwrap").run prog w=.ok (313,v) w:=by kernel_rfl
def YA:=PProd.mk (@run_callFunc_extern prog 64 _ ReflectliteType.typeOf func64 (by kernel_rfl) (by kernel_rfl) (by kernel_rfl) (by kernel_rfl)) ()
theorem O6(a:Addr)(w:World):
 Cw 41 #[.iface 365 (.pointer (some a)),.iface 365 (.pointer (some a))] w fun e w'=>e=Rw (.bool true)/\w'=w:=by obtain⟨i,hi,hcmp⟩:=oA.1 C6;obtain⟨j,hj,nu⟩:=oA.1 C8;have h8:=YA.1;obtain⟨M,hM,cT⟩:=B7;have yP:=@run_callFunc_extern prog 319 _ M func319 (by kernel_rfl) (by kernel_rfl) (by kernel_rfl) hM;have tT:=kM;have mR:=fH;have UT:=run_eql_iface_ptr_same (P:=prog) w a underlying92 underlying365 hi hcmp hj;go_enter func41,ntmps41;go_wp2;refine wp_loop_rounds 1 ?_;rw[rounds_succ];go_wp2;go_ret;simp_all
theorem tW(p:Int)(b:Addr)(w:World):
 Cw 41 #[.iface 124 (.agg #[Iq p,.iface 365 (.pointer (some b))]),.iface 365 (.pointer (some b))] w fun e w'=>e=Rw (.bool true)/\Bt w w':=by obtain⟨i,hi,hcmp⟩:=oA.1 C6;obtain⟨j,hj,nu⟩:=oA.1 C8;have h8:=YA.1;obtain⟨M,hM,cT⟩:=B7;have yP:=@run_callFunc_extern prog 319 _ M func319 (by kernel_rfl) (by kernel_rfl) (by kernel_rfl) hM;have tT:=kM;have mR:=fH;have nE:=Rk;have uE:=ph;have vE:=mH;have nF:=Rl;have uF:=rV;have mU:=nG;have UT:=fun w=>run_eql_iface_ptr_same (P:=prog) w b underlying92 underlying365 hi hcmp hj;have hty:=run_eql_iface_types (P:=prog) 124 365 (.agg #[Iq p,.iface 365 (.pointer (some b))]) (.pointer (some b)) underlying92 (by decide);go_enter func41,ntmps41;go_wp2;refine wp_loop_rounds 2 ?_;rw[rounds_succ];go_wp2;rw[rounds_succ];go_wp2;go_ret;exact⟨rfl,(ag _ _).alloc (ai _) _⟩
theorem sj(p:Int)(a b:Addr)(ca cb:Array Value)(ta tb:TypeId)(w:World)(bG:a≠b)(ha:w.heap[a.block]?=some (.cells ca ta (0,0)))(hb:w.heap[b.block]?=some (.cells cb tb (0,0))):
 Cw 41 #[.iface 124 (.agg #[Iq p,.iface 365 (.pointer (some a))]),.iface 365 (.pointer (some b))] w fun e w'=>e=Rw (.bool false)/\Bt w w':=by obtain⟨i,hi,hcmp⟩:=oA.1 C6;obtain⟨j,hj,nu⟩:=oA.1 C8;have h8:=YA.1;obtain⟨M,hM,cT⟩:=B7;have yP:=@run_callFunc_extern prog 319 _ M func319 (by kernel_rfl) (by kernel_rfl) (by kernel_rfl) hM;have tT:=kM;have mR:=fH;have nE:=Rk;have uE:=ph;have vE:=mH;have nF:=Rl;have uF:=rV;have mU:=nG;have UT:=run_eql_iface_ptr_other (P:=prog) (w.alloc (.cells #[Iq p,.iface 365 (.pointer (some a))] 124)) underlying92 underlying365 hi hcmp hj (by omega) bG ((heap_alloc_old w _ (aS.1 ha).1).trans ha) ((heap_alloc_old w _ (aS.1 hb).1).trans hb);have hty:=run_eql_iface_types (P:=prog) 124 365 (.agg #[Iq p,.iface 365 (.pointer (some a))]) (.pointer (some b)) underlying92 (by decide);go_enter func41,ntmps41;go_wp2;refine wp_loop_rounds 2 ?_;rw[rounds_succ];go_wp2;rw[rounds_succ];go_wp2;go_ret;exact⟨rfl,(ag _ _).alloc (ai _) _⟩
theorem Ji  t   w  :(ReflectliteValue.unpack (.iface 126 (.pointer (some t)))).run prog w
 =.ok (.agg #[.pointer (some (az 18 126)),Pq w.heap.size,.int .u64 150]) (w.alloc (.cells #[.pointer (some t)] 126)):=by kernel_rfl
theorem Eg  a   w  :(ReflectliteValue.methodAny (ReflectliteValue.valueError "reflectlite.Value.Type" 0) (fun t _ _ _=>ReflectliteType.toType t) #[.agg #[.pointer (some (az 18 126)),.pointer (some a),.int .u64 150]]).run prog w
 =.ok (.iface 206 (.agg #[.pointer (some (az 18 126))])) w:=by kernel_rfl
theorem ng  h   w  :(Go.method 510 206 (.agg #[h]) "Kind").run prog w=.ok (304,h) w:=by kernel_rfl
theorem Ef  w  :((ReflectliteType.abiMethod fun t=>(fun a:Nat=>Value.int IntKind.u8 (a:Int))<$>Rtype.kind t) #[.pointer (some (az 18 126))]).run prog w=.ok (.int .u8 22) w:=by kernel_rfl
theorem Ee  w  :((ReflectliteType.abiMethod fun t=>(fun a:Nat=>Value.int IntKind.u8 (a:Int))<$>Rtype.kind t) #[.pointer (some (az 18 124))]).run prog w=.ok (.int .u8 25) w:=by kernel_rfl
theorem ym  a   w  :(ReflectliteValue.parts (.agg #[.pointer (some (az 18 126)),.pointer (some a),.int .u64 150])).run prog w=.ok (some (126,a,150)) w:=by kernel_rfl
theorem Ed  a p   W  (ha:W.cell? a=some (.pointer (some p))):
 (ReflectliteValue.method (ReflectliteValue.valueError "reflectlite.Value.IsNil" 0) ReflectliteValue.isNil #[.agg #[.pointer (some (az 18 126)),.pointer (some a),.int .u64 150]]).run prog W=.ok (.bool false) W:=by change(bind (m:=Sem) (ReflectliteValue.parts (.agg #[.pointer (some (az 18 126)),.pointer (some a),.int .u64 150])) _).run prog W=_;simp only[Sem.run_bind,ym,Result.andThen];simp[ReflectliteValue.isNil,loadVar,isAgg,underlying,underlying126,ha,Result.andThen]
theorem nc  h   w  :(Go.method 510 206 (.agg #[h]) "Elem").run prog w=.ok (320,.agg #[h]) w:=by kernel_rfl
theorem nf  h   w  :(Go.method 510 206 (.agg #[h]) "Implements").run prog w=.ok (321,.agg #[h]) w:=by kernel_rfl
theorem kt  h   w  :(Go.method 510 206 (.agg #[h]) "AssignableTo").run prog w=.ok (318,.agg #[h]) w:=by kernel_rfl
theorem Eb  w  :(ReflectliteType.method ReflectliteType.elem #[.agg #[.pointer (some (az 18 126))]]).run prog w=.ok (.iface 206 (.agg #[.pointer (some (az 18 124))])) w:=by kernel_rfl
theorem Ec  w  :(ReflectliteType.relation "Implements" ReflectliteType.implements_ #[.agg #[.pointer (some (az 18 124))],.iface 206 (.agg #[.pointer (some (az 18 92))])]).run prog w=.ok (.bool true) w:=by kernel_rfl
theorem uu  v   w  :(ReflectliteType.typeOf #[.iface 124 v]).run prog w=.ok (.iface 206 (.agg #[.pointer (some (az 18 124))])) w:=by kernel_rfl
theorem ut  w  :(ReflectliteType.relation "AssignableTo" ReflectliteType.assignableTo #[.agg #[.pointer (some (az 18 124))],.iface 206 (.agg #[.pointer (some (az 18 124))])]).run prog w=.ok (.bool true) w:=by kernel_rfl
theorem ur  w  :(ReflectliteType.relation "AssignableTo" ReflectliteType.assignableTo #[.agg #[.pointer (some (az 18 365))],.iface 206 (.agg #[.pointer (some (az 18 124))])]).run prog w=.ok (.bool false) w:=by kernel_rfl
theorem Jh  p   c   w  :(ReflectliteValue.unpack (.iface 124 (.agg #[Iq p,c]))).run prog w
 =.ok (.agg #[.pointer (some (az 18 124)),Pq w.heap.size,.int .u64 153]) (w.alloc (.cells #[Iq p,c] 124)):=by kernel_rfl
theorem FF  w  :(Rtype.elem? 126).run prog w=.ok (some 124) w:=by kernel_rfl
theorem Wp  p   w  :(ReflectliteValue.mk 124 p ReflectliteValue.flagAddr).run prog w=.ok (.agg #[.pointer (some (az 18 124)),.pointer (some p),.int .u64 409]) w:=by kernel_rfl
theorem NP  a p   W  (ha:W.cell? a=some (.pointer (some p))):
 (ReflectliteValue.method (ReflectliteValue.valueError "reflectlite.Value.Elem" 0) ReflectliteValue.elem #[.agg #[.pointer (some (az 18 126)),.pointer (some a),.int .u64 150]]).run prog W
  =.ok (.agg #[.pointer (some (az 18 124)),.pointer (some p),.int .u64 409]) W:=by change(bind (m:=Sem) (ReflectliteValue.parts (.agg #[.pointer (some (az 18 126)),.pointer (some a),.int .u64 150])) _).run prog W=_;simp only[Sem.run_bind,ym,Result.andThen];simp[ReflectliteValue.elem,loadVar,isAgg,underlying,underlying126,ha,Result.andThen,FF,Wp]
theorem Jf  a   w  :(ReflectliteValue.parts (.agg #[.pointer (some (az 18 124)),.pointer (some a),.int .u64 409])).run prog w=.ok (some (124,a,409)) w:=by kernel_rfl
theorem Jg  a   w  :(ReflectliteValue.parts (.agg #[.pointer (some (az 18 124)),.pointer (some a),.int .u64 153])).run prog w=.ok (some (124,a,153)) w:=by kernel_rfl
theorem Jd  w  :(Rtype.directlyAssignable 124 124).run prog w=.ok true w:=by kernel_rfl
theorem Wr  tb bb   p   c o0 o1   W  (hb0:W.cell? (az bb 0)=some (Iq p)) (hb1:W.cell? (az bb 1)=some c) (XY:W.cell? (az tb 0)=some o0) (Kl:W.cell? (az tb 1)=some o1) (hf:∀j,W.frozen? (az tb j)=false) (hcl:c.oneCell'=true):
 (ReflectliteValue.set #[.agg #[.pointer (some (az 18 124)),Pq tb,.int .u64 409],.agg #[.pointer (some (az 18 124)),Pq bb,.int .u64 153]]).run prog W
  =.ok (.tuple #[]) ((W.setCell (az tb 0) (Iq p)).setCell (az tb 1) c):=by
 change(bind (m:=Sem) (ReflectliteValue.parts (.agg #[.pointer (some (az 18 124)),Pq tb,.int .u64 409])) fun _=>bind (m:=Sem) (ReflectliteValue.parts (.agg #[.pointer (some (az 18 124)),Pq bb,.int .u64 153])) _).run prog W=_;simp only[Sem.run_bind,Jf,Jg,Result.andThen];simp[ReflectliteValue.flagAddr,loadVar,loadCells,loadCellsFrom,hb0,hb1,Result.andThen,Jd,storeVar,Value.cells,storeCells,Addr.add];have e1:(store (az tb 0) (Iq p)).run prog W=.ok () (W.setCell (az tb 0) (Iq p)):=by rw[run_store prog W (az tb 0) _ _ (by rfl)];simp[XY,hf]
 have h1:(W.setCell (az tb 0) (Iq p)).cell? (az tb 1)=some o1:=(dX _ _ _ _ (fun e=>by grind)).trans Kl;have h2:(W.setCell (az tb 0) (Iq p)).frozen? (az tb 1)=false:=(gN _ _ _ _).trans (hf 1);have e2:(store (az tb 1) c).run prog (W.setCell (az tb 0) (Iq p))=.ok () ((W.setCell (az tb 0) (Iq p)).setCell (az tb 1) c):=by rw[run_store prog _ (az tb 1) _ _ hcl];simp[h1,h2]
 grind
theorem Yk  v   xT   w  :(Instr.typeAssert (.iface 365 v) xT 218 true).run prog w=.ok (.tuple #[.nilIface,.bool false]) w:=run_typeAssert_lacksB underlying218 (by kernel_rfl) (by kernel_rfl) v xT w
def xf1:=PProd.mk (@run_callFunc_extern prog 66 _ (fun args=>ReflectliteValue.unpack (args.getD 0 (.tuple #[]))) func66 (by kernel_rfl) (by kernel_rfl) (by kernel_rfl) (by kernel_rfl)) ()
def xf2:=PProd.mk (@run_callFunc_extern prog 67 _ (ReflectliteValue.methodAny (ReflectliteValue.valueError "reflectlite.Value.Type" 0) (fun t _ _ _=>ReflectliteType.toType t)) func67 (by kernel_rfl) (by kernel_rfl) (by kernel_rfl) (by kernel_rfl)) ()
def xf3:=PProd.mk (@run_callFunc_extern prog 68 _ (ReflectliteValue.method (ReflectliteValue.valueError "reflectlite.Value.IsNil" 0) ReflectliteValue.isNil) func68 (by kernel_rfl) (by kernel_rfl) (by kernel_rfl) (by kernel_rfl)) ()
def xf4:=PProd.mk (@run_callFunc_extern prog 304 _ (ReflectliteType.abiMethod fun t=>do pure (.int .u8 (<-Rtype.kind t))) func304 (by kernel_rfl) (by kernel_rfl) (by kernel_rfl) (by kernel_rfl)) ()
def xf5:=PProd.mk (@run_callFunc_extern prog 320 _ (ReflectliteType.method ReflectliteType.elem) func320 (by kernel_rfl) (by kernel_rfl) (by kernel_rfl) (by kernel_rfl)) ()
def xf6:=PProd.mk (@run_callFunc_extern prog 321 _ (ReflectliteType.relation "Implements" ReflectliteType.implements_) func321 (by kernel_rfl) (by kernel_rfl) (by kernel_rfl) (by kernel_rfl)) ()
def xf7:=PProd.mk (@run_callFunc_extern prog 318 _ (ReflectliteType.relation "AssignableTo" ReflectliteType.assignableTo) func318 (by kernel_rfl) (by kernel_rfl) (by kernel_rfl) (by kernel_rfl)) ()
def xf8:=PProd.mk (@run_callFunc_extern prog 124 _ (ReflectliteValue.method (ReflectliteValue.valueError "reflectlite.Value.Elem" 0) ReflectliteValue.elem) func124 (by kernel_rfl) (by kernel_rfl) (by kernel_rfl) (by kernel_rfl)) ()
def xf9:=PProd.mk (@run_callFunc_extern prog 125 _ (ReflectliteValue.set) func125 (by kernel_rfl) (by kernel_rfl) (by kernel_rfl) (by kernel_rfl)) ()
theorem Sf(tb:Nat)(p:Int)(c o0 o1:Value)(w:World)(hlt:6<w.heap.size)(hg:w.cell? (az 6 0)=some (.iface 206 (.agg #[.pointer (some (az 18 92))])))(zj:tb<w.heap.size)(XY:w.cell? (az tb 0)=some o0)(Kl:w.cell? (az tb 1)=some o1)(QQ:∀j,w.frozen? (az tb j)=false)(hcl:c.oneCell'=true):
 Cw 42 #[.iface 124 (.agg #[Iq p,c]),.iface 126 (Pq tb)] w fun ev w'=>ev=Rw (.bool true)/\w'=((((((w.alloc (.cells #[Pq tb] 126)).alloc (.cells #[.pointer (some (az 18 126)),Pq w.heap.size,.int .u64 150] 159)).alloc (.cells #[.pointer (some (az 18 126)),Pq w.heap.size,.int .u64 150] 159)).alloc (.cells #[Iq p,c] 124)).setCell (az tb 0) (Iq p)).setCell (az tb 1) c):=by
 have h6:=xf1.1;have h7:=xf2.1;have h8:=xf3.1;have h27:=xf4.1;have h37:=xf5.1;have h38:=xf6.1;have eq:=YA.1;have h35:=xf7.1;have h11:=xf8.1;have h12:=xf9.1;have tO:=uu;have tE:=kM;have mA:=kt;have a25:=ut;have aE:=ur;have v25:=Jh;have f6:=Ji;have f7:=Eg;have mK:=ng;have mE:=nc;have mI:=nf;have k27:=Ef;have k25:=Ee;have e27:=Eb;have i25:=Ec;have n8:=Ed (az w.heap.size 0) (az tb 0) ((w.alloc (.cells #[Pq tb] 126)).alloc (.cells #[.pointer (some (az 18 126)),Pq w.heap.size,.int .u64 150] 159)) (by simp);have lN:((w.alloc (.cells #[Pq tb] 126)).alloc (.cells #[.pointer (some (az 18 126)),Pq w.heap.size,.int .u64 150] 159)).cell? (az 6 0)=some (.iface 206 (.agg #[.pointer (some (az 18 92))])):=by rw[gP _ _ (az 6 0) (by simp;omega),gP _ _ (az 6 0) hlt];exact hg
 have el:=NP (az w.heap.size 0) (az tb 0) (((w.alloc (.cells #[Pq tb] 126)).alloc (.cells #[.pointer (some (az 18 126)),Pq w.heap.size,.int .u64 150] 159)).alloc (.cells #[.pointer (some (az 18 126)),Pq w.heap.size,.int .u64 150] 159)) (by rw[gP _ _ (az w.heap.size 0) (by simp;omega)];simp);have st:=Wr tb (w.heap.size+1+1+1) p c o0 o1 ((((w.alloc (.cells #[Pq tb] 126)).alloc (.cells #[.pointer (some (az 18 126)),Pq w.heap.size,.int .u64 150] 159)).alloc (.cells #[.pointer (some (az 18 126)),Pq w.heap.size,.int .u64 150] 159)).alloc (.cells #[Iq p,c] 124))
  (by rw[World.cell?_alloc_at _ _ _ _ (by simp)];rfl)
  (by rw[World.cell?_alloc_at _ _ _ _ (by simp)];rfl)
  (by rw[gP _ _ (az tb 0) (by simp;omega),gP _ _ (az tb 0) (by simp;omega),gP _ _ (az tb 0) (by simp;omega),gP _ _ (az tb 0) zj];exact XY)
  (by rw[gP _ _ (az tb 1) (by simp;omega),gP _ _ (az tb 1) (by simp;omega),gP _ _ (az tb 1) (by simp;omega),gP _ _ (az tb 1) zj];exact Kl)
  (fun j=>by rw[Fb _ _ (az tb j) (by simp;omega),Fb _ _ (az tb j) (by simp;omega),Fb _ _ (az tb j) (by simp;omega),Fb _ _ (az tb j) (Nat.ne_of_lt zj)];grind) hcl;go_enter func42,ntmps42;go_wp2;refine wp_loop_rounds 1 ?_;rw[rounds_succ];go_wp2;go_ret;simp_all
theorem NQ(tb:Nat)(a:Addr)(w:World)(hlt:6<w.heap.size)(hg:w.cell? (az 6 0)=some (.iface 206 (.agg #[.pointer (some (az 18 92))]))):
 Cw 42 #[.iface 365 (.pointer (some a)),.iface 126 (Pq tb)] w fun ev w'=>ev=Rw (.bool false)/\w'=(((w.alloc (.cells #[Pq tb] 126)).alloc (.cells #[.pointer (some (az 18 126)),Pq w.heap.size,.int .u64 150] 159)).alloc (.cells #[.pointer (some (az 18 126)),Pq w.heap.size,.int .u64 150] 159)):=by
 have h6:=xf1.1;have h7:=xf2.1;have h8:=xf3.1;have h27:=xf4.1;have h37:=xf5.1;have h38:=xf6.1;have eq:=YA.1;have h35:=xf7.1;have tO:=uu;have tE:=kM;have mA:=kt;have a25:=ut;have aE:=ur;have v25:=Jh;have f6:=Ji;have f7:=Eg;have mK:=ng;have mE:=nc;have mI:=nf;have k27:=Ef;have k25:=Ee;have e27:=Eb;have i25:=Ec;have n8:=Ed (az w.heap.size 0) (az tb 0) ((w.alloc (.cells #[Pq tb] 126)).alloc (.cells #[.pointer (some (az 18 126)),Pq w.heap.size,.int .u64 150] 159)) (by simp);have lN:((w.alloc (.cells #[Pq tb] 126)).alloc (.cells #[.pointer (some (az 18 126)),Pq w.heap.size,.int .u64 150] 159)).cell? (az 6 0)=some (.iface 206 (.agg #[.pointer (some (az 18 92))])):=by rw[gP _ _ (az 6 0) (by simp;omega),gP _ _ (az 6 0) hlt];exact hg
 have nE:=Yk;have uE:=ph;have vE:=mH;go_enter func42,ntmps42;go_wp2;refine wp_loop_rounds 1 ?_;rw[rounds_succ];go_wp2;go_ret;simp_all
