import Derived.Test.YtmbefonnkkhfgaaGreatDoorQ00
import Derived.Test.YtmbefonnkkhfgaaGreatDoorQ21
import Derived.Test.YtmbefonnkkhfgaaGreatDoorQ03
import Derived.Deep.RegionLaw
import Derived.Test.YtmbefonnkkhfgaaGreatDoorQ20
set_option linter.unusedVariables false
set_option maxRecDepth 100000
set_option maxHeartbeats 16000000
namespace Go.Proofs.YtmbefonnkkhfgaaGreatDoor
section
open Go.RowKit Go.Sort Go.Proofs.Tryz
theorem infoE1:(prog.info? 3).map (fun i=>(i.zero,i.size,i.bytes))=some (some (Iq 0),1,8):=by kernel_rfl
theorem sizeE1:(prog.info? 3).map (·.size)=some 1:=by kernel_rfl
def Fl1(L:List Value)(N m:Nat)(es:List Value):Prop:=L.length=N*1∧∀i k u,i<m->es[k]?=some u->L[i*1+k]?=some u
theorem Fl1.take{L:List Value}{N m cnt:Nat}{es:List Value}(he:es.length=1)(h:Fl1 L N m es)(hm:m≤N)(hc:cnt≤m)(hN:m+cnt≤N):Fl1 (splice L (m*1) (L.take (cnt*1))) N (m+cnt) es:=by
 have hl:(L.take (cnt*1)).length=cnt*1:=by rw[List.length_take,h.1];omega
 refine⟨by rw[length_splice _ _ _ (by rw[hl,h.1];omega)];exact h.1,fun i k u hi hu=>?_⟩;have hk:k<1:=by have:=(List.getElem?_eq_some_iff.1 hu).1;omega
 unfold splice;by_cases h1:i<m;·rw[List.getElem?_append_left (by rw[List.length_take,h.1];omega),List.getElem?_take,if_pos (by omega)];exact h.2 i k u h1 hu
 ·have hlm:(L.take (m*1)).length=m*1:=by rw[List.length_take,h.1];omega
  rw[List.getElem?_append_right (by rw[hlm];omega),hlm,show i*1+k-m*1=(i-m)*1+k by omega,List.getElem?_append_left (by rw[hl];omega),List.getElem?_take,if_pos (by omega)];exact h.2 (i-m) k u (by omega) hu
theorem Fl1.first{L:List Value}{N:Nat}{es:List Value}(he:es.length=1)(h:L.length=N*1)(hN:1≤N):Fl1 (splice L 0 es) N 1 es:=by
 refine⟨by rw[length_splice _ _ _ (by rw[h,he];omega)];exact h,fun i k u hi hu=>?_⟩;have hk:=(List.getElem?_eq_some_iff.1 hu).1;obtain rfl:i=0:=by omega
 unfold splice;rw[List.take_zero,List.nil_append,List.getElem?_append_left (by omega),Nat.zero_mul,Nat.zero_add];exact hu
theorem Fl1.one{L:List Value}{N m:Nat}{es:List Value}(he:es.length=1)(h1:∀v∈es,v.oneCell'=true)(h:Fl1 L N m es){cnt:Nat}(hc:cnt≤m):∀v∈L.take (cnt*1),v.oneCell'=true:=by
 intro v hv;obtain⟨j,hj⟩:=List.mem_iff_getElem?.1 hv;rw[List.getElem?_take]at hj;split at hj
 ·rename_i hj5;have hk:j %1<es.length:=by omega
  have:=h.2 (j/1) (j %1) _ (by omega) (List.getElem?_eq_getElem hk);rw[show j/1*1+j %1=j by omega,hj]at this;injection this with this;rw[this];exact h1 _ (List.getElem_mem hk)
 ·exact absurd hj (by simp)
theorem rep1_any(w:World)(x:Int)(B N:Nat)(hN:1≤N∧N≤160000)(hB:B<w.heap.size)(hc:∀(k:Nat) u,([Iq x]:List Value)[k]?=some u->w.cell? ⟨B,k,none⟩=some u):
 Calls prog 179 #[Sq B 1 1,Iq N] w fun r w'=>r=.returned (Sq w.heap.size N N)∧(∃L,w'.heap[w.heap.size]?=some (.cells L.toArray 3 (0,0))∧Fl1 L N N [Iq x])∧Below w.heap.size w w':=by
 have MU:Hid (∀w,Calls prog 61 #[.int .u64 1,.int .u64 N] w fun r w'=>r=.returned (.tuple #[.int .u64 0,.int .u64 N])∧w'=w):=fun w=>by have:=mul_lib 1 N (by omega) (by omega) w;rw[show 1*N/18446744073709551616=0 by omega,show 1*N %18446744073709551616=N by omega]at this;exact this
 obtain⟨i0,hi,hz0,hz1,hz2⟩:=info_parts infoE1;obtain⟨Z0,hZl,hmk⟩:∃Z0:List Value,Hid (Z0.length=N*1)∧∀W:World,(Instr.makeSlice 59 (Iq (N:Int)) (Iq (N:Int))).run prog W=.ok (Sq W.heap.size N N) (W.alloc (.cells Z0.toArray 3)):=by refine⟨(madeCells (Value.cells (Iq 0)) (N*1)).toList,(by show _=_;rw[Array.length_toList,size_madeCells]:_),fun W=>?_⟩;have:=run_make (P:=prog) W 59 3 i0 _ underlying59 hi hz0 .i64 .i64 N N (by omega) (Int.le_refl _) (by rw[hz2];omega) (by omega);rw[hz1,Int.toNat_natCast]at this;rw[Array.toArray_toList];exact this
 obtain⟨es,hes⟩:∃es:List Value,[Iq x]=es:=⟨_,rfl⟩;have hel:es.length=1:=by rw[<-hes];rfl
 have h1c:∀v∈es,v.oneCell'=true:=by rw[<-hes];exact(by intro v hv;simp at hv;subst hv;rfl)
 rw[hes]at hc⊢;have HC:=qH<|hc;have HB:=qH<|hB;have HEL:=qH<|hel;clear hc hB hi hz0 hz1 hz2 hes;have nN:¬(N:Int)<0:=by omega
 obtain⟨S,hS⟩:=nmd w.heap.size;have HS:=qH<|hS;go_enter func179,ntmps179;have nb:decide (9223372036854775807<(N:Int))=false:=decide_eq_false (by omega);have HSRC:Hid (∀(j:Nat) v,es[j]?=some v->(w.alloc (.cells Z0.toArray 3)).cell? ((⟨B,0,none⟩:Addr).add j)=some v):=fun j v hv=>by
  have ea:(⟨B,0,none⟩:Addr).add j=⟨B,j,none⟩:=by unfold Addr.add;split<;>simp_all
  rw[ea];exact(World.cell?_of_block (a:=⟨B,j,none⟩) (((Gr.refl w).alloc _).block HB)).trans (HC j v hv)
 have HNEW:Hid ((w.alloc (.cells Z0.toArray 3)).heap[S]?=some (.cells Z0.toArray 3 (0,0))):=by rw[<-hS];exact heap_alloc_new _ _
 have HBEL:Hid (Below S w (w.alloc (.cells Z0.toArray 3))):=by rw[<-hS];exact((Gr.refl w).alloc _).below
 have H1C:=qH<|h1c;have HF:=qH<|(by rw[hZl.out,hel];omega:0+es.length≤Z0.length);obtain⟨w2,hcp,hg2,hb2⟩:∃w2,(Builtin.copy_ #[59,59] 3 #[Sq S N N,Sq B 1 1]).run prog (w.alloc (.cells Z0.toArray 3))=.ok (goInt 1) w2∧Hid (w2.heap[S]?=some (.cells (splice Z0 0 es).toArray 3 (0,0)))∧Hid (Below S w w2):=
  ⟨_,run_copy_sz (P:=prog) (w.alloc (.cells Z0.toArray 3)) 59 59 3 3 1 S 0 N N ⟨B,0,none⟩ 1 1 Z0 3 es 1 underlying59 sizeE1 HNEW (by show 1=min 1 N;omega) (by omega) HSRC HF H1C,setRow_heap _ S _ _ 3 _ HNEW,below_setRow HBEL (Nat.le_refl _) _⟩;have HL:Hid (∃L,w2.heap[S]?=some (.cells L.toArray 3 (0,0))∧Fl1 L N 1 es):=⟨_,hg2,Fl1.first hel hZl hN.1⟩;clear hg2 hel h1c;go_wp2_with(first|(go_at_call 61;refine Calls.mono (MU _) ?_;rintro r w1 ⟨rfl,hw1⟩;obtain rfl:=hw1.symm));clear hS hcp hmk;go_loopw[8] (fun nv wr=>∃m:Nat,1≤m∧m≤N∧nv=Iq m∧Hid (∃L,wr.heap[S]?=some (.cells L.toArray 3 (0,0))∧Fl1 L N m es)∧Hid (Below S w wr)) (fun nv _=>N-(intOf nv).toNat);case atStart=>exact⟨1,Nat.le_refl _,hN.1,rfl,HL,hb2⟩
 case round=>
  obtain⟨m,hm1,hm2,rfl,HR,HBR⟩:=hrel;by_cases hlt:m<N
  ·obtain⟨L,hL,hF⟩:=HR.out;have HLL:=qH<|hL;have HFF:=qH<|hF;obtain⟨cnt,hcnt⟩:=nmd (Nat.min m (N-m));have hcn:cnt≤m∧cnt≤N-m∧1≤cnt:=by have:min m (N-m)=cnt:=hcnt;omega
   have HCN:=qH<|hcnt.symm;have HTL:=qH<|(by rw[List.length_take,hF.1];omega:(L.take (cnt*1)).length=cnt*1);have HSR:Hid (∀(j:Nat) v,(L.take (cnt*1))[j]?=some v->wr.drew.cell? ((⟨S,0,none⟩:Addr).add j)=some v):=fun j v hv=>by
    have ea:(⟨S,0,none⟩:Addr).add j=⟨S,j,none⟩:=by unfold Addr.add;split<;>simp_all
    rw[ea];rw[List.getElem?_take]at hv;split at hv;·show wr.cell? ⟨S,j,none⟩=some v;simp[World.cell?,hL,hv]
    ·exact absurd hv (by simp)
   obtain⟨cs,hcs⟩:=nmd (L.take (cnt*1));have HON:Hid (∀v∈cs,v.oneCell'=true):=by rw[<-hcs];exact hF.one HEL H1C hcn.1
   have HFI:Hid (Fl1 (splice L (m) cs) N (m+cnt) es):=by rw[<-hcs];have:=hF.take HEL hm2 hcn.1 (by omega);rw[Nat.mul_one]at this;exact this
   have HLE:Hid (m+cs.length≤L.length):=by rw[<-hcs];exact(by rw[HTL.out,hF.1];omega:m+(L.take (cnt*1)).length≤L.length)
   rw[hcs]at HTL HSR;clear hcs hL hF HR hcnt HL hb2;have hlt':(m:Int)<(N:Int):=by omega
   have e1:¬N=m:=by omega
   have e2:¬N-m=0:=by omega
   obtain⟨w4,hcp2,hg4,HB4⟩:∃w4,(Builtin.copy_ #[59,59] 3 #[.slice (some ⟨S,m,none⟩) (N-m) (N-m),Sq S m N]).run prog wr.drew=.ok (Iq (cnt:Int)) w4∧Hid (w4.heap[S]?=some (.cells (splice L (m) cs).toArray 3 (0,0)))∧Hid (Below S w w4):=
    ⟨_,run_copy_sz (P:=prog) wr.drew 59 59 3 3 1 S (m) (N-m) (N-m) ⟨S,0,none⟩ m N L 3 cs cnt underlying59 sizeE1 HLL HCN HTL HSR HLE HON,setRow_heap _ S _ _ 3 _ HLL,below_setRow HBR.drew (Nat.le_refl _) _⟩;have ww:IntKind.i64.wrap ((m:Int)+(cnt:Int))=(m:Int)+(cnt:Int):=by rw[IntKind.wrap_i64];omega
   go_wp2_with fail;go_region;all_goals
    go_wp2;go_roundw;case rel=>exact⟨m+cnt,by omega,by omega,by go_num,⟨_,hg4,HFI⟩,HB4⟩
    case measure=>simp[intOf];omega
  ·have hlt':¬(m:Int)<(N:Int):=by omega
   obtain rfl:m=N:=by omega
   go_wp2;go_ret;exact⟨by rw[HS.out];rfl,by rw[HS.out];exact HR,by rw[HS.out];exact HBR⟩
theorem rep1_zero(w:World)(B:Nat):
 Calls prog 179 #[Sq B 1 1,Iq 0] w fun r w'=>∃p c,r=.returned (.slice p 0 c)∧Below w.heap.size w w':=by
 have MU:Hid (∀w,Calls prog 61 #[.int .u64 1,.int .u64 0] w fun r w'=>r=.returned (.tuple #[.int .u64 0,.int .u64 0])∧w'=w):=fun w=>mul_lib 1 0 (by omega) (by omega) w;obtain⟨i0,hi,hz0,hz1,hz2⟩:=info_parts infoE1;have hmk:∀W:World,(Instr.makeSlice 59 (Iq (0:Int)) (Iq (0:Int))).run prog W=.ok (Sq W.heap.size 0 0) (W.alloc (.cells #[] 3)):=fun W=>by have:=run_make (P:=prog) W 59 3 i0 _ underlying59 hi hz0 .i64 .i64 0 0 (by omega) (Int.le_refl _) (by rw[hz2];omega) (by omega);have e0:∀c,madeCells c (Int.toNat 0*1)=#[]:=fun c=>Array.eq_empty_of_size_eq_zero (by rw[size_madeCells];rfl);rw[hz1,e0]at this;exact this
 obtain⟨S,hS⟩:=nmd w.heap.size;have HS:=qH<|hS;have HNEW:Hid ((w.alloc (.cells #[] 3)).heap[S]?=some (.cells ([]:List Value).toArray 3 (0,0))):=by rw[<-hS];exact heap_alloc_new _ _
 have HBEL:Hid (Below S w (w.alloc (.cells #[] 3))):=by rw[<-hS];exact((Gr.refl w).alloc _).below
 obtain⟨w2,hcp,hb2⟩:∃w2,(Builtin.copy_ #[59,59] 3 #[Sq S 0 0,Sq B 1 1]).run prog (w.alloc (.cells #[] 3))=.ok (Iq 0) w2∧Hid (Below S w w2):=
  ⟨_,run_copy_sz (P:=prog) (w.alloc (.cells #[] 3)) 59 59 3 3 1 S 0 0 0 ⟨B,0,none⟩ 1 1 [] 3 [] 0 underlying59 sizeE1 HNEW rfl rfl (fun j v hv=>by cases hv) (Nat.le_refl _) (fun v hv=>by cases hv),below_setRow HBEL (Nat.le_refl _) _⟩;clear hi hz0 hz1 hz2;go_enter func179,ntmps179;go_wp2_with(first|(go_at_call 61;refine Calls.mono (MU _) ?_;rintro r w1 ⟨rfl,hw1⟩;obtain rfl:=hw1.symm));clear hS hcp hmk;go_loopw[8] (fun nv wr=>nv=Iq 0∧Hid (Below S w wr)) (fun nv _=>0);case atStart=>exact⟨rfl,hb2⟩
 case round=>obtain⟨rfl,HBR⟩:=hrel;go_wp2;go_ret;exact⟨_,_,rfl,by rw[HS.out];exact HBR⟩
end
section
open Go.RowKit Go.Sort Go.Proofs.Tryz
theorem infoE4:(prog.info? 56).map (fun i=>(i.zero,i.size,i.bytes))=some (some (.agg #[Iq 0,Iq 0,Iq 0,Iq 0]),4,32):=by kernel_rfl
theorem sizeE4:(prog.info? 56).map (·.size)=some 4:=by kernel_rfl
def Fl4(L:List Value)(N m:Nat)(es:List Value):Prop:=L.length=N*4∧∀i k u,i<m->es[k]?=some u->L[i*4+k]?=some u
theorem Fl4.take{L:List Value}{N m cnt:Nat}{es:List Value}(he:es.length=4)(h:Fl4 L N m es)(hm:m≤N)(hc:cnt≤m)(hN:m+cnt≤N):Fl4 (splice L (m*4) (L.take (cnt*4))) N (m+cnt) es:=by
 have hl:(L.take (cnt*4)).length=cnt*4:=by rw[List.length_take,h.1];omega
 refine⟨by rw[length_splice _ _ _ (by rw[hl,h.1];omega)];exact h.1,fun i k u hi hu=>?_⟩;have hk:k<4:=by have:=(List.getElem?_eq_some_iff.1 hu).1;omega
 unfold splice;by_cases h1:i<m;·rw[List.getElem?_append_left (by rw[List.length_take,h.1];omega),List.getElem?_take,if_pos (by omega)];exact h.2 i k u h1 hu
 ·have hlm:(L.take (m*4)).length=m*4:=by rw[List.length_take,h.1];omega
  rw[List.getElem?_append_right (by rw[hlm];omega),hlm,show i*4+k-m*4=(i-m)*4+k by omega,List.getElem?_append_left (by rw[hl];omega),List.getElem?_take,if_pos (by omega)];exact h.2 (i-m) k u (by omega) hu
theorem Fl4.first{L:List Value}{N:Nat}{es:List Value}(he:es.length=4)(h:L.length=N*4)(hN:1≤N):Fl4 (splice L 0 es) N 1 es:=by
 refine⟨by rw[length_splice _ _ _ (by rw[h,he];omega)];exact h,fun i k u hi hu=>?_⟩;have hk:k<es.length:=(List.getElem?_eq_some_iff.1 hu).1;obtain rfl:i=0:=by omega
 unfold splice;rw[List.take_zero,List.nil_append,List.getElem?_append_left (by omega),Nat.zero_mul,Nat.zero_add];exact hu
theorem Fl4.one{L:List Value}{N m:Nat}{es:List Value}(he:es.length=4)(h1:∀v∈es,v.oneCell'=true)(h:Fl4 L N m es){cnt:Nat}(hc:cnt≤m):∀v∈L.take (cnt*4),v.oneCell'=true:=by
 intro v hv;obtain⟨j,hj⟩:=List.mem_iff_getElem?.1 hv;rw[List.getElem?_take]at hj;split at hj
 ·rename_i hj5;have hk:j %4<es.length:=by omega
  have:=h.2 (j/4) (j %4) _ (by omega) (List.getElem?_eq_getElem hk);rw[show j/4*4+j %4=j by omega,hj]at this;injection this with this;rw[this];exact h1 _ (List.getElem_mem hk)
 ·exact absurd hj (by simp)
theorem rep4_any(w:World)(x y a b:Int)(B N:Nat)(hN:1≤N∧N≤160000)(hB:B<w.heap.size)(hc:∀(k:Nat) u,([Iq x,Iq y,Iq a,Iq b]:List Value)[k]?=some u->w.cell? ⟨B,k,none⟩=some u):
 Calls prog 88 #[Sq B 1 1,Iq N] w fun r w'=>r=.returned (Sq w.heap.size N N)∧(∃L,w'.heap[w.heap.size]?=some (.cells L.toArray 56 (0,0))∧Fl4 L N N [Iq x,Iq y,Iq a,Iq b])∧Below w.heap.size w w':=by
 have MU:Hid (∀w,Calls prog 61 #[.int .u64 1,.int .u64 N] w fun r w'=>r=.returned (.tuple #[.int .u64 0,.int .u64 N])∧w'=w):=fun w=>by have:=mul_lib 1 N (by omega) (by omega) w;rw[show 1*N/18446744073709551616=0 by omega,show 1*N %18446744073709551616=N by omega]at this;exact this
 obtain⟨i0,hi,hz0,hz1,hz2⟩:=info_parts infoE4;obtain⟨Z0,hZl,hmk⟩:∃Z0:List Value,Hid (Z0.length=N*4)∧∀W:World,(Instr.makeSlice 112 (Iq (N:Int)) (Iq (N:Int))).run prog W=.ok (Sq W.heap.size N N) (W.alloc (.cells Z0.toArray 56)):=by refine⟨(madeCells (Value.cells (.agg #[Iq 0,Iq 0,Iq 0,Iq 0])) (N*4)).toList,(by show _=_;rw[Array.length_toList,size_madeCells]:_),fun W=>?_⟩;have:=run_make (P:=prog) W 112 56 i0 _ underlying112 hi hz0 .i64 .i64 N N (by omega) (Int.le_refl _) (by rw[hz2];omega) (by omega);rw[hz1,Int.toNat_natCast]at this;rw[Array.toArray_toList];exact this
 obtain⟨es,hes⟩:∃es:List Value,[Iq x,Iq y,Iq a,Iq b]=es:=⟨_,rfl⟩;have hel:es.length=4:=by rw[<-hes];rfl
 have h1c:∀v∈es,v.oneCell'=true:=by rw[<-hes];exact(by intro v hv;simp at hv;rcases hv with rfl|rfl|rfl|rfl<;>rfl)
 rw[hes]at hc⊢;have HC:Hid (∀(k:Nat) u,es[k]?=some u->w.cell? ⟨B,k,none⟩=some u):=hc;have HB:Hid (B<w.heap.size):=hB;have HEL:Hid (es.length=4):=hel;clear hc hB hi hz0 hz1 hz2 hes;have nN:¬(N:Int)<0:=by omega
 obtain⟨S,hS⟩:=nmd w.heap.size;have HS:Hid (w.heap.size=S):=hS;go_enter func88,ntmps88;have nb:decide (9223372036854775807<(N:Int))=false:=decide_eq_false (by omega);have HSRC:Hid (∀(j:Nat) v,es[j]?=some v->(w.alloc (.cells Z0.toArray 56)).cell? ((⟨B,0,none⟩:Addr).add j)=some v):=fun j v hv=>by
  have ea:(⟨B,0,none⟩:Addr).add j=⟨B,j,none⟩:=by unfold Addr.add;split<;>simp_all
  rw[ea];exact(World.cell?_of_block (a:=⟨B,j,none⟩) (((Gr.refl w).alloc _).block HB)).trans (HC j v hv)
 have HNEW:Hid ((w.alloc (.cells Z0.toArray 56)).heap[S]?=some (.cells Z0.toArray 56 (0,0))):=by rw[<-hS];exact heap_alloc_new _ _
 have HBEL:Hid (Below S w (w.alloc (.cells Z0.toArray 56))):=by rw[<-hS];exact((Gr.refl w).alloc _).below
 have H1C:Hid (∀v∈es,v.oneCell'=true):=h1c;have HF:Hid (0+es.length≤Z0.length):=(by rw[hZl.out,hel];omega:0+es.length≤Z0.length);obtain⟨w2,hcp,hg2,hb2⟩:∃w2,(Builtin.copy_ #[112,112] 3 #[Sq S N N,Sq B 1 1]).run prog (w.alloc (.cells Z0.toArray 56))=.ok (goInt 1) w2∧Hid (w2.heap[S]?=some (.cells (splice Z0 0 es).toArray 56 (0,0)))∧Hid (Below S w w2):=
  ⟨_,run_copy_sz (P:=prog) (w.alloc (.cells Z0.toArray 56)) 112 112 3 56 4 S 0 N N ⟨B,0,none⟩ 1 1 Z0 56 es 1 underlying112 sizeE4 HNEW (by show 1=min 1 N;omega) (by omega) HSRC HF H1C,setRow_heap _ S _ _ 56 _ HNEW,below_setRow HBEL (Nat.le_refl _) _⟩;have HL:Hid (∃L,w2.heap[S]?=some (.cells L.toArray 56 (0,0))∧Fl4 L N 1 es):=⟨_,hg2,Fl4.first hel hZl hN.1⟩;clear hg2 hel h1c;go_wp2_with(first|(go_at_call 61;refine Calls.mono (MU _) ?_;rintro r w1 ⟨rfl,hw1⟩;obtain rfl:=hw1.symm));clear hS hcp hmk;go_loopw[8] (fun nv wr=>∃m:Nat,1≤m∧m≤N∧nv=Iq m∧Hid (∃L,wr.heap[S]?=some (.cells L.toArray 56 (0,0))∧Fl4 L N m es)∧Hid (Below S w wr)) (fun nv _=>N-(intOf nv).toNat);case atStart=>exact⟨1,Nat.le_refl _,hN.1,rfl,HL,hb2⟩
 case round=>
  obtain⟨m,hm1,hm2,rfl,HR,HBR⟩:=hrel;by_cases hlt:m<N
  ·obtain⟨L,hL,hF⟩:=HR.out;have HLL:Hid (wr.heap[S]?=some (.cells L.toArray 56 (0,0))):=hL;have HFF:Hid (Fl4 L N m es):=hF;obtain⟨cnt,hcnt⟩:=nmd (Nat.min m (N-m));have hcn:cnt≤m∧cnt≤N-m∧1≤cnt:=by have:min m (N-m)=cnt:=hcnt;omega
   have HCN:Hid (cnt=Nat.min m (N-m)):=hcnt.symm;have HTL:Hid ((L.take (cnt*4)).length=cnt*4):=(by rw[List.length_take,hF.1];omega:(L.take (cnt*4)).length=cnt*4);have HSR:Hid (∀(j:Nat) v,(L.take (cnt*4))[j]?=some v->wr.drew.cell? ((⟨S,0,none⟩:Addr).add j)=some v):=fun j v hv=>by
    have ea:(⟨S,0,none⟩:Addr).add j=⟨S,j,none⟩:=by unfold Addr.add;split<;>simp_all
    rw[ea];rw[List.getElem?_take]at hv;split at hv;·show wr.cell? ⟨S,j,none⟩=some v;simp[World.cell?,hL,hv]
    ·exact absurd hv (by simp)
   obtain⟨cs,hcs⟩:=nmd (L.take (cnt*4));have HON:Hid (∀v∈cs,v.oneCell'=true):=by rw[<-hcs];exact hF.one HEL H1C hcn.1
   have HFI:Hid (Fl4 (splice L (m*4) cs) N (m+cnt) es):=by rw[<-hcs];have:=hF.take HEL hm2 hcn.1 (by omega);  exact this
   have HLE:Hid (m*4+cs.length≤L.length):=by rw[<-hcs];exact(by rw[HTL.out,hF.1];omega:m*4+(L.take (cnt*4)).length≤L.length)
   rw[hcs]at HTL HSR;clear hcs hL hF HR hcnt HL hb2;have hlt':(m:Int)<(N:Int):=by omega
   have e1:¬N=m:=by omega
   have e2:¬N-m=0:=by omega
   obtain⟨w4,hcp2,hg4,HB4⟩:∃w4,(Builtin.copy_ #[112,112] 3 #[.slice (some ⟨S,m*4,none⟩) (N-m) (N-m),Sq S m N]).run prog wr.drew=.ok (Iq (cnt:Int)) w4∧Hid (w4.heap[S]?=some (.cells (splice L (m*4) cs).toArray 56 (0,0)))∧Hid (Below S w w4):=
    ⟨_,run_copy_sz (P:=prog) wr.drew 112 112 3 56 4 S (m*4) (N-m) (N-m) ⟨S,0,none⟩ m N L 56 cs cnt underlying112 sizeE4 HLL HCN HTL HSR HLE HON,setRow_heap _ S _ _ 56 _ HLL,below_setRow HBR.drew (Nat.le_refl _) _⟩;have ww:IntKind.i64.wrap ((m:Int)+(cnt:Int))=(m:Int)+(cnt:Int):=by rw[IntKind.wrap_i64];omega
   go_wp2_with fail;go_region;all_goals
    go_wp2;go_roundw;case rel=>exact⟨m+cnt,by omega,by omega,by go_num,⟨_,hg4,HFI⟩,HB4⟩
    case measure=>simp[intOf];omega
  ·have hlt':¬(m:Int)<(N:Int):=by omega
   obtain rfl:m=N:=by omega
   go_wp2;go_ret;exact⟨by rw[HS.out];rfl,by rw[HS.out];exact HR,by rw[HS.out];exact HBR⟩
theorem rep4_zero(w:World)(B:Nat):
 Calls prog 88 #[Sq B 1 1,Iq 0] w fun r w'=>∃p c,r=.returned (.slice p 0 c)∧Below w.heap.size w w':=by
 have MU:Hid (∀w,Calls prog 61 #[.int .u64 1,.int .u64 0] w fun r w'=>r=.returned (.tuple #[.int .u64 0,.int .u64 0])∧w'=w):=fun w=>mul_lib 1 0 (by omega) (by omega) w;obtain⟨i0,hi,hz0,hz1,hz2⟩:=info_parts infoE4;have hmk:∀W:World,(Instr.makeSlice 112 (Iq (0:Int)) (Iq (0:Int))).run prog W=.ok (Sq W.heap.size 0 0) (W.alloc (.cells #[] 56)):=fun W=>by have:=run_make (P:=prog) W 112 56 i0 _ underlying112 hi hz0 .i64 .i64 0 0 (by omega) (Int.le_refl _) (by rw[hz2];omega) (by omega);have e0:∀c,madeCells c (Int.toNat 0*4)=#[]:=fun c=>Array.eq_empty_of_size_eq_zero (by rw[size_madeCells];rfl);rw[hz1,e0]at this;exact this
 obtain⟨S,hS⟩:=nmd w.heap.size;have HS:Hid (w.heap.size=S):=hS;have HNEW:Hid ((w.alloc (.cells #[] 56)).heap[S]?=some (.cells ([]:List Value).toArray 56 (0,0))):=by rw[<-hS];exact heap_alloc_new _ _
 have HBEL:Hid (Below S w (w.alloc (.cells #[] 56))):=by rw[<-hS];exact((Gr.refl w).alloc _).below
 obtain⟨w2,hcp,hb2⟩:∃w2,(Builtin.copy_ #[112,112] 3 #[Sq S 0 0,Sq B 1 1]).run prog (w.alloc (.cells #[] 56))=.ok (Iq 0) w2∧Hid (Below S w w2):=
  ⟨_,run_copy_sz (P:=prog) (w.alloc (.cells #[] 56)) 112 112 3 56 4 S 0 0 0 ⟨B,0,none⟩ 1 1 [] 56 [] 0 underlying112 sizeE4 HNEW rfl rfl (fun j v hv=>by cases hv) (Nat.le_refl _) (fun v hv=>by cases hv),below_setRow HBEL (Nat.le_refl _) _⟩;clear hi hz0 hz1 hz2;go_enter func88,ntmps88;go_wp2_with(first|(go_at_call 61;refine Calls.mono (MU _) ?_;rintro r w1 ⟨rfl,hw1⟩;obtain rfl:=hw1.symm));clear hS hcp hmk;go_loopw[8] (fun nv wr=>nv=Iq 0∧Hid (Below S w wr)) (fun nv _=>0);case atStart=>exact⟨rfl,hb2⟩
 case round=>obtain⟨rfl,HBR⟩:=hrel;go_wp2;go_ret;exact⟨_,_,rfl,by rw[HS.out];exact HBR⟩
end
end Go.Proofs.YtmbefonnkkhfgaaGreatDoor
