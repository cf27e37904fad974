import Derived.Laws.CopyOwn
import Derived.Test.YtnponhbgicbkcaaGreatDoorL16
import Derived.Shelf.Bits.Mul64
import Derived.Test.YtnponhbgicbkcaaGreatDoorL18
set_option linter.unusedVariables false
set_option maxRecDepth 100000
set_option maxHeartbeats 16000000
namespace Go.Proofs.YtnponhbgicbkcaaGreatDoor
section
open Go.RowKit
theorem run_copy_sz{P} w  dT sT ty elem  s g o dLen dCap  a  sLen sCap  cur  t  cs  n 
 (hu:P.underlying dT=some (.slice elem)) (hs:(P.info? elem).map (·.size)=some s)
 (hg:w.heap[g]?=some (.cells cur.toArray t (0,0))) (hn:n=Nat.min sLen dLen) (hcs:cs.length=n*s)
 (hsrc:∀j v,cs[j]?=some v->w.cell? (a.add j)=some v) (hfit:o+cs.length≤cur.length) (h1:∀v∈cs,v.oneCell'=true):
 (Builtin.copy_ #[dT,sT] ty #[.slice (some ⟨g,o,none⟩) dLen dCap,.slice (some a) sLen sCap]).run P w=
  .ok (goInt n) (w.setRow g (splice cur o cs).toArray):=by
 have hl:=run_loadCells_list (P:=P) w a cs hsrc;have hst:=run_storeCells_at P g o t cs 0 cur.toArray w hg (by simpa using hfit) h1;cases hq:P.info? elem with
 |none=>simp[hq]at hs
 |some i=>
  have hi:i.size=s:=by simpa[hq]using hs
  rw[hcs]at hl;simp[Builtin.copy_,run_underlying hu,Builtin.lenOf,Builtin.firstCells,sizeOf,typeInfo,hq,hi,<-hn,hl,hst,splice]
end
section
open Go.Shelf Go.RowKit Go.Proofs.Tryz
def clibRen:Go.Shelf.Ren:=⟨fun|212=>151|263=>174|264=>175|n=>n,fun|46=>186|51=>250|53=>253|146=>251|148=>254|n=>n,fun|n=>n⟩
theorem clays212:Go.Proofs.Lays.n212 prog clibRen:={
 mixed:=by kernel_rfl
 f212:=func151.trans (congrArg some (by kernel_rfl))
 f263:=func174.trans (congrArg some (by kernel_rfl))
 f264:=func175.trans (congrArg some (by kernel_rfl))
 t46:=underlying186
 a46:=isAgg186
 z46:=sizeOf186
 v46:=zeroValue186
 t51:=underlying250
 a51:=isAgg250
 z51:=sizeOf250
 v51:=zeroValue250
 t53:=underlying253
 a53:=isAgg253
 z53:=sizeOf253
 v53:=zeroValue253
 t146:=underlying251
 a146:=isAgg251
 z146:=sizeOf251
 v146:=zeroValue251
 t148:=underlying254
 a148:=isAgg254
 z148:=sizeOf254
 v148:=zeroValue254}
theorem mul_lib(x y:Nat)(hx:x<18446744073709551616)(hy:y<18446744073709551616) w :
 Calls prog 151 #[.int .u64 x,.int .u64 y] w fun e w'=>e=.returned (.tuple #[.int .u64 ((x*y/18446744073709551616:Nat):Int),.int .u64 ((x*y %18446744073709551616:Nat):Int)])∧w'=w:=Any.bits_Mul clays212 x y hx hy w
end
section
open Go.RowKit Go.Sort Go.Proofs.Tryz
theorem infoE1:(prog.info? 3).map (fun i=>(i.zero,i.size,i.bytes))=some (some (Iq 0),1,8):=by kernel_rfl
theorem sizeE1:(prog.info? 3).map (·.size)=some 1:=by kernel_rfl
def Fl1(L:List Value)(N m:Nat)(es:List Value):Prop:=L.length=N*1∧∀i k u,i<m->es[k]?=some u->L[i*1+k]?=some u
theorem Fl1.take{L}{N m cnt}{es}(he:es.length=1)(h:Fl1 L N m es)(hm:m≤N)(hc:cnt≤m)(hN:m+cnt≤N):Fl1 (splice L (m*1) (L.take (cnt*1))) N (m+cnt) es:=by
 have hl:(L.take (cnt*1)).length=cnt*1:=by rw[List.length_take,h.1];omega
 refine⟨by rw[length_splice _ _ _ (by rw[hl,h.1];omega)];exact h.1,fun i k u hi hu=>?_⟩;have hk:k<1:=by have:=(List.getElem?_eq_some_iff.1 hu).1;omega
 unfold splice;by_cases h1:i<m;·rw[List.getElem?_append_left (by rw[List.length_take,h.1];omega),List.getElem?_take,if_pos (by omega)];exact h.2 i k u h1 hu
 ·have hlm:(L.take (m*1)).length=m*1:=by rw[List.length_take,h.1];omega
  rw[List.getElem?_append_right (by rw[hlm];omega),hlm,show i*1+k-m*1=(i-m)*1+k by omega,List.getElem?_append_left (by rw[hl];omega),List.getElem?_take,if_pos (by omega)];exact h.2 (i-m) k u (by omega) hu
theorem Fl1.first{L}{N}{es}(he:es.length=1)(h:L.length=N*1)(hN:1≤N):Fl1 (splice L 0 es) N 1 es:=by
 refine⟨by rw[length_splice _ _ _ (by rw[h,he];omega)];exact h,fun i k u hi hu=>?_⟩;have hk:=(List.getElem?_eq_some_iff.1 hu).1;obtain rfl:i=0:=by omega
 unfold splice;rw[List.take_zero,List.nil_append,List.getElem?_append_left (by omega),Nat.zero_mul,Nat.zero_add];exact hu
theorem Fl1.one{L}{N m}{es}(he:es.length=1)(h1:∀v∈es,v.oneCell'=true)(h:Fl1 L N m es){cnt}(hc:cnt≤m):∀v∈L.take (cnt*1),v.oneCell'=true:=by
 intro v hv;obtain⟨j,hj⟩:=List.mem_iff_getElem?.1 hv;rw[List.getElem?_take]at hj;split at hj
 ·rename_i hj5;have hk:j %1<es.length:=by omega
  have:=h.2 (j/1) (j %1) _ (by omega) (List.getElem?_eq_getElem hk);rw[show j/1*1+j %1=j by omega,hj]at this;injection this with this;rw[this];exact h1 _ (List.getElem_mem hk)
 ·exact absurd hj (by simp)
theorem rep1_any w  x (B N:Nat)(hN:1≤N∧N≤160000)(hB:B<w.heap.size)(hc:∀(k:Nat) u,([Iq x]:List Value)[k]?=some u->w.cell? ⟨B,k,none⟩=some u):
 Calls prog 141 #[Sq B 1 1,Iq N] w fun r w'=>r=.returned (Sq w.heap.size N N)∧(∃L,w'.heap[w.heap.size]?=some (.cells L.toArray 3 (0,0))∧Fl1 L N N [Iq x])∧Below w.heap.size w w':=by
 have MU:Hid (∀w,Calls prog 151 #[.int .u64 1,.int .u64 N] w fun r w'=>r=.returned (.tuple #[.int .u64 0,.int .u64 N])∧w'=w):=fun w=>by have:=mul_lib 1 N (by omega) (by omega) w;rw[show 1*N/18446744073709551616=0 by omega,show 1*N %18446744073709551616=N by omega]at this;exact this
 obtain⟨i0,hi,hz0,hz1,hz2⟩:=info_parts infoE1;obtain⟨Z0,hZl,hmk⟩:∃Z0:List Value,Hid (Z0.length=N*1)∧∀W:World,(Instr.makeSlice 67 (Iq (N:Int)) (Iq (N:Int))).run prog W=.ok (Sq W.heap.size N N) (W.alloc (.cells Z0.toArray 3)):=by refine⟨(madeCells (Value.cells (Iq 0)) (N*1)).toList,(by show _=_;rw[Array.length_toList,size_madeCells]:_),fun W=>?_⟩;have:=run_make (P:=prog) W 67 3 i0 _ underlying67 hi hz0 .i64 .i64 N N (by omega) (Int.le_refl _) (by rw[hz2];omega) (by omega);rw[hz1,Int.toNat_natCast]at this;rw[Array.toArray_toList];exact this
 obtain⟨es,hes⟩:∃es:List Value,[Iq x]=es:=⟨_,rfl⟩;have hel:es.length=1:=by rw[<-hes];rfl
 have h1c:∀v∈es,v.oneCell'=true:=by rw[<-hes];exact(by intro v hv;simp at hv;subst hv;rfl)
 rw[hes]at hc⊢;have HC:=qH<|hc;have HB:=qH<|hB;have HEL:=qH<|hel;clear hc hB hi hz0 hz1 hz2 hes;have nN:¬(N:Int)<0:=by omega
 obtain⟨S,hS⟩:=nmd w.heap.size;have HS:=qH<|hS;go_enter func141,ntmps141;have nb:decide (9223372036854775807<(N:Int))=false:=decide_eq_false (by omega);have HSRC:Hid (∀(j:Nat) v,es[j]?=some v->(w.alloc (.cells Z0.toArray 3)).cell? ((⟨B,0,none⟩:Addr).add j)=some v):=fun j v hv=>by
  have ea:(⟨B,0,none⟩:Addr).add j=⟨B,j,none⟩:=by unfold Addr.add;split<;>simp_all
  rw[ea];exact(World.cell?_of_block (a:=⟨B,j,none⟩) (((Gr.refl w).alloc _).block HB)).trans (HC j v hv)
 have HNEW:Hid ((w.alloc (.cells Z0.toArray 3)).heap[S]?=some (.cells Z0.toArray 3 (0,0))):=by rw[<-hS];exact heap_alloc_new _ _
 have HBEL:Hid (Below S w (w.alloc (.cells Z0.toArray 3))):=by rw[<-hS];exact((Gr.refl w).alloc _).below
 have H1C:=qH<|h1c;have HF:=qH<|(by rw[hZl.out,hel];omega:0+es.length≤Z0.length);obtain⟨w2,hcp,hg2,hb2⟩:∃w2,(Builtin.copy_ #[67,67] 3 #[Sq S N N,Sq B 1 1]).run prog (w.alloc (.cells Z0.toArray 3))=.ok (goInt 1) w2∧Hid (w2.heap[S]?=some (.cells (splice Z0 0 es).toArray 3 (0,0)))∧Hid (Below S w w2):=
  ⟨_,run_copy_sz (P:=prog) (w.alloc (.cells Z0.toArray 3)) 67 67 3 3 1 S 0 N N ⟨B,0,none⟩ 1 1 Z0 3 es 1 underlying67 sizeE1 HNEW (by show 1=min 1 N;omega) (by omega) HSRC HF H1C,setRow_heap _ S _ _ 3 _ HNEW,below_setRow HBEL (Nat.le_refl _) _⟩;have HL:Hid (∃L,w2.heap[S]?=some (.cells L.toArray 3 (0,0))∧Fl1 L N 1 es):=⟨_,hg2,Fl1.first hel hZl hN.1⟩;clear hg2 hel h1c;go_wp2_with(first|(go_at_call 151;refine Calls.mono (MU _) ?_;rintro r w1 ⟨rfl,hw1⟩;obtain rfl:=hw1.symm));clear hS hcp hmk;go_loopw[8] (fun nv wr=>∃m:Nat,1≤m∧m≤N∧nv=Iq m∧Hid (∃L,wr.heap[S]?=some (.cells L.toArray 3 (0,0))∧Fl1 L N m es)∧Hid (Below S w wr)) (fun nv _=>N-(intOf nv).toNat);case atStart=>exact⟨1,Nat.le_refl _,hN.1,rfl,HL,hb2⟩
 case round=>
  obtain⟨m,hm1,hm2,rfl,HR,HBR⟩:=hrel;by_cases hlt:m<N
  ·obtain⟨L,hL,hF⟩:=HR.out;have HLL:=qH<|hL;have HFF:=qH<|hF;obtain⟨cnt,hcnt⟩:=nmd (Nat.min m (N-m));have hcn:cnt≤m∧cnt≤N-m∧1≤cnt:=by have:min m (N-m)=cnt:=hcnt;omega
   have HCN:=qH<|hcnt.symm;have HTL:=qH<|(by rw[List.length_take,hF.1];omega:(L.take (cnt*1)).length=cnt*1);have HSR:Hid (∀(j:Nat) v,(L.take (cnt*1))[j]?=some v->wr.drew.cell? ((⟨S,0,none⟩:Addr).add j)=some v):=fun j v hv=>by
    have ea:(⟨S,0,none⟩:Addr).add j=⟨S,j,none⟩:=by unfold Addr.add;split<;>simp_all
    rw[ea];rw[List.getElem?_take]at hv;split at hv;·show wr.cell? ⟨S,j,none⟩=some v;simp[World.cell?,hL,hv]
    ·exact absurd hv (by simp)
   obtain⟨cs,hcs⟩:=nmd (L.take (cnt*1));have HON:Hid (∀v∈cs,v.oneCell'=true):=by rw[<-hcs];exact hF.one HEL H1C hcn.1
   have HFI:Hid (Fl1 (splice L (m) cs) N (m+cnt) es):=by rw[<-hcs];have:=hF.take HEL hm2 hcn.1 (by omega);rw[Nat.mul_one]at this;exact this
   have HLE:Hid (m+cs.length≤L.length):=by rw[<-hcs];exact(by rw[HTL.out,hF.1];omega:m+(L.take (cnt*1)).length≤L.length)
   rw[hcs]at HTL HSR;clear hcs hL hF HR hcnt HL hb2;have hlt':(m:Int)<(N:Int):=by omega
   have e1:¬N=m:=by omega
   have e2:¬N-m=0:=by omega
   obtain⟨w4,hcp2,hg4,HB4⟩:∃w4,(Builtin.copy_ #[67,67] 3 #[.slice (some ⟨S,m,none⟩) (N-m) (N-m),Sq S m N]).run prog wr.drew=.ok (Iq (cnt:Int)) w4∧Hid (w4.heap[S]?=some (.cells (splice L (m) cs).toArray 3 (0,0)))∧Hid (Below S w w4):=
    ⟨_,run_copy_sz (P:=prog) wr.drew 67 67 3 3 1 S (m) (N-m) (N-m) ⟨S,0,none⟩ m N L 3 cs cnt underlying67 sizeE1 HLL HCN HTL HSR HLE HON,setRow_heap _ S _ _ 3 _ HLL,below_setRow HBR.drew (Nat.le_refl _) _⟩;have ww:IntKind.i64.wrap ((m:Int)+(cnt:Int))=(m:Int)+(cnt:Int):=by rw[IntKind.wrap_i64];omega
   go_wp2_with fail;go_region;all_goals
    go_wp2;go_roundw;case rel=>exact⟨m+cnt,by omega,by omega,by go_num,⟨_,hg4,HFI⟩,HB4⟩
    case measure=>simp[intOf];omega
  ·have hlt':¬(m:Int)<(N:Int):=by omega
   obtain rfl:m=N:=by omega
   go_wp2;go_ret;exact⟨by rw[HS.out];rfl,by rw[HS.out];exact HR,by rw[HS.out];exact HBR⟩
theorem rep1_zero w  B :
 Calls prog 141 #[Sq B 1 1,Iq 0] w fun r w'=>∃p c,r=.returned (.slice p 0 c)∧Below w.heap.size w w':=by
 have MU:Hid (∀w,Calls prog 151 #[.int .u64 1,.int .u64 0] w fun r w'=>r=.returned (.tuple #[.int .u64 0,.int .u64 0])∧w'=w):=fun w=>mul_lib 1 0 (by omega) (by omega) w;obtain⟨i0,hi,hz0,hz1,hz2⟩:=info_parts infoE1;have hmk:∀W:World,(Instr.makeSlice 67 (Iq (0:Int)) (Iq (0:Int))).run prog W=.ok (Sq W.heap.size 0 0) (W.alloc (.cells #[] 3)):=fun W=>by have:=run_make (P:=prog) W 67 3 i0 _ underlying67 hi hz0 .i64 .i64 0 0 (by omega) (Int.le_refl _) (by rw[hz2];omega) (by omega);have e0:∀c,madeCells c (Int.toNat 0*1)=#[]:=fun c=>Array.eq_empty_of_size_eq_zero (by rw[size_madeCells];rfl);rw[hz1,e0]at this;exact this
 obtain⟨S,hS⟩:=nmd w.heap.size;have HS:=qH<|hS;have HNEW:Hid ((w.alloc (.cells #[] 3)).heap[S]?=some (.cells ([]:List Value).toArray 3 (0,0))):=by rw[<-hS];exact heap_alloc_new _ _
 have HBEL:Hid (Below S w (w.alloc (.cells #[] 3))):=by rw[<-hS];exact((Gr.refl w).alloc _).below
 obtain⟨w2,hcp,hb2⟩:∃w2,(Builtin.copy_ #[67,67] 3 #[Sq S 0 0,Sq B 1 1]).run prog (w.alloc (.cells #[] 3))=.ok (Iq 0) w2∧Hid (Below S w w2):=
  ⟨_,run_copy_sz (P:=prog) (w.alloc (.cells #[] 3)) 67 67 3 3 1 S 0 0 0 ⟨B,0,none⟩ 1 1 [] 3 [] 0 underlying67 sizeE1 HNEW rfl rfl (fun j v hv=>by cases hv) (Nat.le_refl _) (fun v hv=>by cases hv),below_setRow HBEL (Nat.le_refl _) _⟩;clear hi hz0 hz1 hz2;go_enter func141,ntmps141;go_wp2_with(first|(go_at_call 151;refine Calls.mono (MU _) ?_;rintro r w1 ⟨rfl,hw1⟩;obtain rfl:=hw1.symm));clear hS hcp hmk;go_loopw[8] (fun nv wr=>nv=Iq 0∧Hid (Below S w wr)) (fun nv _=>0);case atStart=>exact⟨rfl,hb2⟩
 case round=>obtain⟨rfl,HBR⟩:=hrel;go_wp2;go_ret;exact⟨_,_,rfl,by rw[HS.out];exact HBR⟩
theorem infoE4:(prog.info? 48).map (fun i=>(i.zero,i.size,i.bytes))=some (some (.agg #[Iq 0,Iq 0,Iq 0,Iq 0]),4,32):=by kernel_rfl
theorem sizeE4:(prog.info? 48).map (·.size)=some 4:=by kernel_rfl
def Fl4(L:List Value)(N m:Nat)(es:List Value):Prop:=L.length=N*4∧∀i k u,i<m->es[k]?=some u->L[i*4+k]?=some u
theorem Fl4.take{L}{N m cnt}{es}(he:es.length=4)(h:Fl4 L N m es)(hm:m≤N)(hc:cnt≤m)(hN:m+cnt≤N):Fl4 (splice L (m*4) (L.take (cnt*4))) N (m+cnt) es:=by
 have hl:(L.take (cnt*4)).length=cnt*4:=by rw[List.length_take,h.1];omega
 refine⟨by rw[length_splice _ _ _ (by rw[hl,h.1];omega)];exact h.1,fun i k u hi hu=>?_⟩;have hk:k<4:=by have:=(List.getElem?_eq_some_iff.1 hu).1;omega
 unfold splice;by_cases h1:i<m;·rw[List.getElem?_append_left (by rw[List.length_take,h.1];omega),List.getElem?_take,if_pos (by omega)];exact h.2 i k u h1 hu
 ·have hlm:(L.take (m*4)).length=m*4:=by rw[List.length_take,h.1];omega
  rw[List.getElem?_append_right (by rw[hlm];omega),hlm,show i*4+k-m*4=(i-m)*4+k by omega,List.getElem?_append_left (by rw[hl];omega),List.getElem?_take,if_pos (by omega)];exact h.2 (i-m) k u (by omega) hu
theorem Fl4.first{L}{N}{es}(he:es.length=4)(h:L.length=N*4)(hN:1≤N):Fl4 (splice L 0 es) N 1 es:=by
 refine⟨by rw[length_splice _ _ _ (by rw[h,he];omega)];exact h,fun i k u hi hu=>?_⟩;have hk:k<es.length:=(List.getElem?_eq_some_iff.1 hu).1;obtain rfl:i=0:=by omega
 unfold splice;rw[List.take_zero,List.nil_append,List.getElem?_append_left (by omega),Nat.zero_mul,Nat.zero_add];exact hu
theorem Fl4.one{L}{N m}{es}(he:es.length=4)(h1:∀v∈es,v.oneCell'=true)(h:Fl4 L N m es){cnt}(hc:cnt≤m):∀v∈L.take (cnt*4),v.oneCell'=true:=by
 intro v hv;obtain⟨j,hj⟩:=List.mem_iff_getElem?.1 hv;rw[List.getElem?_take]at hj;split at hj
 ·rename_i hj5;have hk:j %4<es.length:=by omega
  have:=h.2 (j/4) (j %4) _ (by omega) (List.getElem?_eq_getElem hk);rw[show j/4*4+j %4=j by omega,hj]at this;injection this with this;rw[this];exact h1 _ (List.getElem_mem hk)
 ·exact absurd hj (by simp)
theorem rep4_any w  x y a b (B N:Nat)(hN:1≤N∧N≤160000)(hB:B<w.heap.size)(hc:∀(k:Nat) u,([Iq x,Iq y,Iq a,Iq b]:List Value)[k]?=some u->w.cell? ⟨B,k,none⟩=some u):
 Calls prog 102 #[Sq B 1 1,Iq N] w fun r w'=>r=.returned (Sq w.heap.size N N)∧(∃L,w'.heap[w.heap.size]?=some (.cells L.toArray 48 (0,0))∧Fl4 L N N [Iq x,Iq y,Iq a,Iq b])∧Below w.heap.size w w':=by
 have MU:Hid (∀w,Calls prog 151 #[.int .u64 1,.int .u64 N] w fun r w'=>r=.returned (.tuple #[.int .u64 0,.int .u64 N])∧w'=w):=fun w=>by have:=mul_lib 1 N (by omega) (by omega) w;rw[show 1*N/18446744073709551616=0 by omega,show 1*N %18446744073709551616=N by omega]at this;exact this
 obtain⟨i0,hi,hz0,hz1,hz2⟩:=info_parts infoE4;obtain⟨Z0,hZl,hmk⟩:∃Z0:List Value,Hid (Z0.length=N*4)∧∀W:World,(Instr.makeSlice 130 (Iq (N:Int)) (Iq (N:Int))).run prog W=.ok (Sq W.heap.size N N) (W.alloc (.cells Z0.toArray 48)):=by refine⟨(madeCells (Value.cells (.agg #[Iq 0,Iq 0,Iq 0,Iq 0])) (N*4)).toList,(by show _=_;rw[Array.length_toList,size_madeCells]:_),fun W=>?_⟩;have:=run_make (P:=prog) W 130 48 i0 _ underlying130 hi hz0 .i64 .i64 N N (by omega) (Int.le_refl _) (by rw[hz2];omega) (by omega);rw[hz1,Int.toNat_natCast]at this;rw[Array.toArray_toList];exact this
 obtain⟨es,hes⟩:∃es:List Value,[Iq x,Iq y,Iq a,Iq b]=es:=⟨_,rfl⟩;have hel:es.length=4:=by rw[<-hes];rfl
 have h1c:∀v∈es,v.oneCell'=true:=by rw[<-hes];exact(by intro v hv;simp at hv;rcases hv with rfl|rfl|rfl|rfl<;>rfl)
 rw[hes]at hc⊢;have HC:Hid (∀(k:Nat) u,es[k]?=some u->w.cell? ⟨B,k,none⟩=some u):=hc;have HB:Hid (B<w.heap.size):=hB;have HEL:Hid (es.length=4):=hel;clear hc hB hi hz0 hz1 hz2 hes;have nN:¬(N:Int)<0:=by omega
 obtain⟨S,hS⟩:=nmd w.heap.size;have HS:Hid (w.heap.size=S):=hS;go_enter func102,ntmps102;have nb:decide (9223372036854775807<(N:Int))=false:=decide_eq_false (by omega);have HSRC:Hid (∀(j:Nat) v,es[j]?=some v->(w.alloc (.cells Z0.toArray 48)).cell? ((⟨B,0,none⟩:Addr).add j)=some v):=fun j v hv=>by
  have ea:(⟨B,0,none⟩:Addr).add j=⟨B,j,none⟩:=by unfold Addr.add;split<;>simp_all
  rw[ea];exact(World.cell?_of_block (a:=⟨B,j,none⟩) (((Gr.refl w).alloc _).block HB)).trans (HC j v hv)
 have HNEW:Hid ((w.alloc (.cells Z0.toArray 48)).heap[S]?=some (.cells Z0.toArray 48 (0,0))):=by rw[<-hS];exact heap_alloc_new _ _
 have HBEL:Hid (Below S w (w.alloc (.cells Z0.toArray 48))):=by rw[<-hS];exact((Gr.refl w).alloc _).below
 have H1C:Hid (∀v∈es,v.oneCell'=true):=h1c;have HF:Hid (0+es.length≤Z0.length):=(by rw[hZl.out,hel];omega:0+es.length≤Z0.length);obtain⟨w2,hcp,hg2,hb2⟩:∃w2,(Builtin.copy_ #[130,130] 3 #[Sq S N N,Sq B 1 1]).run prog (w.alloc (.cells Z0.toArray 48))=.ok (goInt 1) w2∧Hid (w2.heap[S]?=some (.cells (splice Z0 0 es).toArray 48 (0,0)))∧Hid (Below S w w2):=
  ⟨_,run_copy_sz (P:=prog) (w.alloc (.cells Z0.toArray 48)) 130 130 3 48 4 S 0 N N ⟨B,0,none⟩ 1 1 Z0 48 es 1 underlying130 sizeE4 HNEW (by show 1=min 1 N;omega) (by omega) HSRC HF H1C,setRow_heap _ S _ _ 48 _ HNEW,below_setRow HBEL (Nat.le_refl _) _⟩;have HL:Hid (∃L,w2.heap[S]?=some (.cells L.toArray 48 (0,0))∧Fl4 L N 1 es):=⟨_,hg2,Fl4.first hel hZl hN.1⟩;clear hg2 hel h1c;go_wp2_with(first|(go_at_call 151;refine Calls.mono (MU _) ?_;rintro r w1 ⟨rfl,hw1⟩;obtain rfl:=hw1.symm));clear hS hcp hmk;go_loopw[8] (fun nv wr=>∃m:Nat,1≤m∧m≤N∧nv=Iq m∧Hid (∃L,wr.heap[S]?=some (.cells L.toArray 48 (0,0))∧Fl4 L N m es)∧Hid (Below S w wr)) (fun nv _=>N-(intOf nv).toNat);case atStart=>exact⟨1,Nat.le_refl _,hN.1,rfl,HL,hb2⟩
 case round=>
  obtain⟨m,hm1,hm2,rfl,HR,HBR⟩:=hrel;by_cases hlt:m<N
  ·obtain⟨L,hL,hF⟩:=HR.out;have HLL:Hid (wr.heap[S]?=some (.cells L.toArray 48 (0,0))):=hL;have HFF:Hid (Fl4 L N m es):=hF;obtain⟨cnt,hcnt⟩:=nmd (Nat.min m (N-m));have hcn:cnt≤m∧cnt≤N-m∧1≤cnt:=by have:min m (N-m)=cnt:=hcnt;omega
   have HCN:Hid (cnt=Nat.min m (N-m)):=hcnt.symm;have HTL:Hid ((L.take (cnt*4)).length=cnt*4):=(by rw[List.length_take,hF.1];omega:(L.take (cnt*4)).length=cnt*4);have HSR:Hid (∀(j:Nat) v,(L.take (cnt*4))[j]?=some v->wr.drew.cell? ((⟨S,0,none⟩:Addr).add j)=some v):=fun j v hv=>by
    have ea:(⟨S,0,none⟩:Addr).add j=⟨S,j,none⟩:=by unfold Addr.add;split<;>simp_all
    rw[ea];rw[List.getElem?_take]at hv;split at hv;·show wr.cell? ⟨S,j,none⟩=some v;simp[World.cell?,hL,hv]
    ·exact absurd hv (by simp)
   obtain⟨cs,hcs⟩:=nmd (L.take (cnt*4));have HON:Hid (∀v∈cs,v.oneCell'=true):=by rw[<-hcs];exact hF.one HEL H1C hcn.1
   have HFI:Hid (Fl4 (splice L (m*4) cs) N (m+cnt) es):=by rw[<-hcs];have:=hF.take HEL hm2 hcn.1 (by omega);  exact this
   have HLE:Hid (m*4+cs.length≤L.length):=by rw[<-hcs];exact(by rw[HTL.out,hF.1];omega:m*4+(L.take (cnt*4)).length≤L.length)
   rw[hcs]at HTL HSR;clear hcs hL hF HR hcnt HL hb2;have hlt':(m:Int)<(N:Int):=by omega
   have e1:¬N=m:=by omega
   have e2:¬N-m=0:=by omega
   obtain⟨w4,hcp2,hg4,HB4⟩:∃w4,(Builtin.copy_ #[130,130] 3 #[.slice (some ⟨S,m*4,none⟩) (N-m) (N-m),Sq S m N]).run prog wr.drew=.ok (Iq (cnt:Int)) w4∧Hid (w4.heap[S]?=some (.cells (splice L (m*4) cs).toArray 48 (0,0)))∧Hid (Below S w w4):=
    ⟨_,run_copy_sz (P:=prog) wr.drew 130 130 3 48 4 S (m*4) (N-m) (N-m) ⟨S,0,none⟩ m N L 48 cs cnt underlying130 sizeE4 HLL HCN HTL HSR HLE HON,setRow_heap _ S _ _ 48 _ HLL,below_setRow HBR.drew (Nat.le_refl _) _⟩;have ww:IntKind.i64.wrap ((m:Int)+(cnt:Int))=(m:Int)+(cnt:Int):=by rw[IntKind.wrap_i64];omega
   go_wp2_with fail;go_region;all_goals
    go_wp2;go_roundw;case rel=>exact⟨m+cnt,by omega,by omega,by go_num,⟨_,hg4,HFI⟩,HB4⟩
    case measure=>simp[intOf];omega
  ·have hlt':¬(m:Int)<(N:Int):=by omega
   obtain rfl:m=N:=by omega
   go_wp2;go_ret;exact⟨by rw[HS.out];rfl,by rw[HS.out];exact HR,by rw[HS.out];exact HBR⟩
theorem rep4_zero w  B :
 Calls prog 102 #[Sq B 1 1,Iq 0] w fun r w'=>∃p c,r=.returned (.slice p 0 c)∧Below w.heap.size w w':=by
 have MU:Hid (∀w,Calls prog 151 #[.int .u64 1,.int .u64 0] w fun r w'=>r=.returned (.tuple #[.int .u64 0,.int .u64 0])∧w'=w):=fun w=>mul_lib 1 0 (by omega) (by omega) w;obtain⟨i0,hi,hz0,hz1,hz2⟩:=info_parts infoE4;have hmk:∀W:World,(Instr.makeSlice 130 (Iq (0:Int)) (Iq (0:Int))).run prog W=.ok (Sq W.heap.size 0 0) (W.alloc (.cells #[] 48)):=fun W=>by have:=run_make (P:=prog) W 130 48 i0 _ underlying130 hi hz0 .i64 .i64 0 0 (by omega) (Int.le_refl _) (by rw[hz2];omega) (by omega);have e0:∀c,madeCells c (Int.toNat 0*4)=#[]:=fun c=>Array.eq_empty_of_size_eq_zero (by rw[size_madeCells];rfl);rw[hz1,e0]at this;exact this
 obtain⟨S,hS⟩:=nmd w.heap.size;have HS:Hid (w.heap.size=S):=hS;have HNEW:Hid ((w.alloc (.cells #[] 48)).heap[S]?=some (.cells ([]:List Value).toArray 48 (0,0))):=by rw[<-hS];exact heap_alloc_new _ _
 have HBEL:Hid (Below S w (w.alloc (.cells #[] 48))):=by rw[<-hS];exact((Gr.refl w).alloc _).below
 obtain⟨w2,hcp,hb2⟩:∃w2,(Builtin.copy_ #[130,130] 3 #[Sq S 0 0,Sq B 1 1]).run prog (w.alloc (.cells #[] 48))=.ok (Iq 0) w2∧Hid (Below S w w2):=
  ⟨_,run_copy_sz (P:=prog) (w.alloc (.cells #[] 48)) 130 130 3 48 4 S 0 0 0 ⟨B,0,none⟩ 1 1 [] 48 [] 0 underlying130 sizeE4 HNEW rfl rfl (fun j v hv=>by cases hv) (Nat.le_refl _) (fun v hv=>by cases hv),below_setRow HBEL (Nat.le_refl _) _⟩;clear hi hz0 hz1 hz2;go_enter func102,ntmps102;go_wp2_with(first|(go_at_call 151;refine Calls.mono (MU _) ?_;rintro r w1 ⟨rfl,hw1⟩;obtain rfl:=hw1.symm));clear hS hcp hmk;go_loopw[8] (fun nv wr=>nv=Iq 0∧Hid (Below S w wr)) (fun nv _=>0);case atStart=>exact⟨rfl,hb2⟩
 case round=>obtain⟨rfl,HBR⟩:=hrel;go_wp2;go_ret;exact⟨_,_,rfl,by rw[HS.out];exact HBR⟩
