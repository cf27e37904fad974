import Derived.Test.YtmbefonnkkhfgaaGreatDoorQ21
import Derived.Test.YtmbefonnkkhfgaaGreatDoorQ03
import Derived.Test.YtmbefonnkkhfgaaGreatDoorQ17
import Derived.Laws.MakeOwn
import Derived.OwnWalk
import Derived.Deep.RegionLaw
import Derived.Test.YtmbefonnkkhfgaaGreatDoorQ00
import Derived.Laws.AppendOwn
import Derived.Lib.SliceRun
set_option linter.unusedVariables false
set_option maxRecDepth 100000
set_option maxHeartbeats 16000000
namespace Go.Proofs.YtmbefonnkkhfgaaGreatDoor
section
open Go.RowKit Go.Sort Go.Proofs.Tryz
theorem infoC:(prog.info? 34).map (fun i=>(i.zero,i.size,i.bytes))=some (some (.agg #[.string ⟨#[]⟩,Iq 0,Iq 0,Iq 0,Iq 0]),5,48):=by kernel_rfl
theorem sizeC:(prog.info? 34).map (·.size)=some 5:=by kernel_rfl
theorem repeat_any(w:World)(e:Ce)(B N:Nat)(hN:1≤N∧N≤160000)(hB:B<w.heap.size)(hc:∀(k:Nat) u,(c5 e)[k]?=some u->w.cell? ⟨B,k,none⟩=some u):
 Calls prog 31 #[Sq B 1 1,Iq N] w fun r w'=>r=.returned (Sq w.heap.size N N)∧(∃L,w'.heap[w.heap.size]?=some (.cells L.toArray 34 (0,0))∧Fl L N N e)∧Below w.heap.size w w':=by
 have MU:Hid (∀w,Calls prog 61 #[.int .u64 1,.int .u64 N] w fun r w'=>r=.returned (.tuple #[.int .u64 0,.int .u64 N])∧w'=w):=fun w=>by have:=mul_lib 1 N (by omega) (by omega) w;rw[show 1*N/18446744073709551616=0 by omega,show 1*N %18446744073709551616=N by omega]at this;exact this
 obtain⟨i0,hi,hz0,hz1,hz2⟩:=info_parts infoC;obtain⟨Z0,hZl,hmk⟩:∃Z0:List Value,Hid (Z0.length=N*5)∧∀W:World,(Instr.makeSlice 24 (Iq (N:Int)) (Iq (N:Int))).run prog W=.ok (Sq W.heap.size N N) (W.alloc (.cells Z0.toArray 34)):=by refine⟨(madeCells (Value.agg #[.string ⟨#[]⟩,Iq 0,Iq 0,Iq 0,Iq 0]).cells (N*5)).toList,(by show _=_;rw[Array.length_toList,size_madeCells]:_),fun W=>?_⟩;have:=run_make (P:=prog) W 24 34 i0 _ underlying24 hi hz0 .i64 .i64 N N (by omega) (Int.le_refl _) (by rw[hz2];omega) (by omega);rw[hz1,Int.toNat_natCast]at this;rw[Array.toArray_toList];exact this
 have HC:Hid (∀(k:Nat) u,(c5 e)[k]?=some u->w.cell? ⟨B,k,none⟩=some u):=hc;have HB:Hid (B<w.heap.size):=hB;clear hc hB hi hz0 hz1 hz2;have nN:¬(N:Int)<0:=by omega
 obtain⟨S,hS⟩:=nmd w.heap.size;have HS:Hid (w.heap.size=S):=hS;go_enter func31,ntmps31;have nb:decide (9223372036854775807<(N:Int))=false:=decide_eq_false (by omega);have HSRC:Hid (∀(j:Nat) v,(c5 e)[j]?=some v->(w.alloc (.cells Z0.toArray 34)).cell? ((⟨B,0,none⟩:Addr).add j)=some v):=fun j v hv=>by
  have ea:(⟨B,0,none⟩:Addr).add j=⟨B,j,none⟩:=by unfold Addr.add;split<;>simp_all
  rw[ea];exact(World.cell?_of_block (a:=⟨B,j,none⟩) (((Gr.refl w).alloc _).block HB)).trans (HC j v hv)
 have HNEW:Hid ((w.alloc (.cells Z0.toArray 34)).heap[S]?=some (.cells Z0.toArray 34 (0,0))):=by rw[<-hS];exact heap_alloc_new _ _
 have HBEL:Hid (Below S w (w.alloc (.cells Z0.toArray 34))):=by rw[<-hS];exact((Gr.refl w).alloc _).below
 have h1c:∀v∈c5 e,v.oneCell'=true:=by intro v hv;simp[c5]at hv;rcases hv with rfl|rfl|rfl|rfl|rfl<;>rfl
 have H1C:Hid (∀v∈c5 e,v.oneCell'=true):=h1c;have HF:Hid (0+(c5 e).length≤Z0.length):=(by rw[hZl.out,c5_len];omega:0+(c5 e).length≤Z0.length);clear h1c;obtain⟨w2,hcp,hg2,hb2⟩:∃w2,(Builtin.copy_ #[24,24] 3 #[Sq S N N,Sq B 1 1]).run prog (w.alloc (.cells Z0.toArray 34))=.ok (goInt 1) w2∧Hid (w2.heap[S]?=some (.cells (splice Z0 0 (c5 e)).toArray 34 (0,0)))∧Hid (Below S w w2):=
  ⟨_,run_copy_sz (P:=prog) (w.alloc (.cells Z0.toArray 34)) 24 24 3 34 5 S 0 N N ⟨B,0,none⟩ 1 1 Z0 34 (c5 e) 1 underlying24 sizeC HNEW (by show 1=min 1 N;omega) rfl HSRC HF H1C,setRow_heap _ S _ _ 34 _ HNEW,below_setRow HBEL (Nat.le_refl _) _⟩;have HL:Hid (∃L,w2.heap[S]?=some (.cells L.toArray 34 (0,0))∧Fl L N 1 e):=⟨_,hg2,Fl.first hZl hN.1⟩;clear hg2;go_wp2_with(first|(go_at_call 61;refine Calls.mono (MU _) ?_;rintro r w1 ⟨rfl,hw1⟩;obtain rfl:=hw1.symm));clear hS hcp hmk;go_loopw[8] (fun nv wr=>∃m:Nat,1≤m∧m≤N∧nv=Iq m∧Hid (∃L,wr.heap[S]?=some (.cells L.toArray 34 (0,0))∧Fl L N m e)∧Hid (Below S w wr)) (fun nv _=>N-(intOf nv).toNat);case atStart=>exact⟨1,Nat.le_refl _,hN.1,rfl,HL,hb2⟩
 case round=>
  obtain⟨m,hm1,hm2,rfl,HR,HBR⟩:=hrel;by_cases hlt:m<N
  ·obtain⟨L,hL,hF⟩:=HR.out;have HLL:Hid (wr.heap[S]?=some (.cells L.toArray 34 (0,0))):=hL;have HFF:Hid (Fl L N m e):=hF;obtain⟨cnt,hcnt⟩:=nmd (Nat.min m (N-m));have hcn:cnt≤m∧cnt≤N-m∧1≤cnt:=by have:min m (N-m)=cnt:=hcnt;omega
   have HCN:Hid (cnt=Nat.min m (N-m)):=hcnt.symm;have HTL:Hid ((L.take (cnt*5)).length=cnt*5):=(by rw[List.length_take,hF.1];omega:(L.take (cnt*5)).length=cnt*5);have HSR:Hid (∀(j:Nat) v,(L.take (cnt*5))[j]?=some v->wr.drew.cell? ((⟨S,0,none⟩:Addr).add j)=some v):=fun j v hv=>by
    have ea:(⟨S,0,none⟩:Addr).add j=⟨S,j,none⟩:=by unfold Addr.add;split<;>simp_all
    rw[ea];rw[List.getElem?_take]at hv;split at hv;·show wr.cell? ⟨S,j,none⟩=some v;simp[World.cell?,hL,hv]
    ·exact absurd hv (by simp)
   obtain⟨cs,hcs⟩:=nmd (L.take (cnt*5));have HON:Hid (∀v∈cs,v.oneCell'=true):=by rw[<-hcs];exact hF.one hcn.1
   have HFI:Hid (Fl (splice L (m*5) cs) N (m+cnt) e):=by rw[<-hcs];exact hF.take hm2 hcn.1 (by omega)
   have HLE:Hid (m*5+cs.length≤L.length):=by rw[<-hcs];exact(by rw[HTL.out,hF.1];omega:m*5+(L.take (cnt*5)).length≤L.length)
   rw[hcs]at HTL HSR;clear hcs hL hF HR hcnt HL hb2;have hlt':(m:Int)<(N:Int):=by omega
   have e1:¬N=m:=by omega
   have e2:¬N-m=0:=by omega
   obtain⟨w4,hcp2,hg4,HB4⟩:∃w4,(Builtin.copy_ #[24,24] 3 #[.slice (some ⟨S,m*5,none⟩) (N-m) (N-m),Sq S m N]).run prog wr.drew=.ok (Iq (cnt:Int)) w4∧Hid (w4.heap[S]?=some (.cells (splice L (m*5) cs).toArray 34 (0,0)))∧Hid (Below S w w4):=
    ⟨_,run_copy_sz (P:=prog) wr.drew 24 24 3 34 5 S (m*5) (N-m) (N-m) ⟨S,0,none⟩ m N L 34 cs cnt underlying24 sizeC HLL HCN HTL HSR HLE HON,setRow_heap _ S _ _ 34 _ HLL,below_setRow HBR.drew (Nat.le_refl _) _⟩;have ww:IntKind.i64.wrap ((m:Int)+(cnt:Int))=(m:Int)+(cnt:Int):=by rw[IntKind.wrap_i64];omega
   go_wp2_with fail;go_region;all_goals
    go_wp2;go_roundw;case rel=>exact⟨m+cnt,by omega,by omega,by go_num,⟨_,hg4,HFI⟩,HB4⟩
    case measure=>simp[intOf];omega
  ·have hlt':¬(m:Int)<(N:Int):=by omega
   obtain rfl:m=N:=by omega
   go_wp2;go_ret;exact⟨by rw[HS.out];rfl,by rw[HS.out];exact HR,by rw[HS.out];exact HBR⟩
end
section
open Go.RowKit Go.Sort Go.Proofs.Tryz
theorem Cv.below{T:TypeId}{Q Q':World}{M W H:Nat}{c:Nat->Nat->Ce}(h:Cv T Q M W H c)(g:Below Q.heap.size Q Q'):Cv T Q' M W H c:=h.keep (g.block M h.lt)
theorem CS.below{TK T:TypeId}{Q Q':World}{K M cap W H:Nat}{c:Nat->Nat->Ce}(h:CS TK T Q K M cap W H c)(g:Below Q.heap.size Q Q'):CS TK T Q' K M cap W H c:=⟨(g.block K h.klt).trans h.kb,h.cv.below g,h.ne,h.hc⟩
theorem cv_of_fl{T:TypeId}{Q:World}{M W H:Nat}{e:Ce}{L:List Value}(h:Q.heap[M]?=some (.cells L.toArray T (0,0)))(hf:Fl L (W*H) (W*H) e):Cv T Q M W H (fun _ _=>e):=by
 refine⟨⟨_,h⟩,fun y x hy hx k u hu=>?_⟩;have hi:y*W+x<W*H:=by have:(y+1)*W≤H*W:=Nat.mul_le_mul_right _ (by omega);rw[Nat.add_mul]at this;rw[Nat.mul_comm W H];omega
 have:=hf.2 (y*W+x) k u hi hu;rw[show(y*W+x)*5+k=y*W*5+x*5+k by rw[Nat.add_mul]]at this;simp[World.cell?,h,this]
theorem r5_cells{T:TypeId}{Q:World}{b:Nat}{e:Ce}(h:R5 T Q b e)(k:Nat)(u:Value)(hu:(c5 e)[k]?=some u):Q.cell? ⟨b,k,none⟩=some u:=by
 unfold R5 at h;have:(#[.string e.t,Iq e.f,Iq e.g,Iq e.b,Iq e.p]:Array Value)[k]?=some u:=by rw[<-hu];unfold c5;simp
 simp[World.cell?,h,this]
theorem new_ok(W H:Nat)(w:World)(hW:1≤W∧W≤400)(hH:1≤H∧H≤400):Calls prog 14 #[Iq W,Iq H] w fun e w'=>∃K M,e=.returned (.tuple #[Pq K,Iq 0])∧CS 89 34 w' K M (W*H) W H (fun _ _=>bk 0 0 0)∧w.heap.size≤K∧w.heap.size≤M∧Below w.heap.size w w':=by
 have SD:Hid (∀n w,Calls prog 30 #[Iq n] w fun e w'=>e=.returned (.bool (decide (1≤n∧n≤400)))∧w'=w):=side_any;have S1:=SD W;have S2:=SD H;rw[decide_eq_true (by omega)]at S1 S2;have BL:Hid (∀w,Calls prog 32 #[sv 0 0 0] w fun e w'=>e=.returned (cev (bk 0 0 0))∧Gr w w'):=cblank_any 0 0 0;obtain⟨e,he⟩:=nmd (bk 0 0 0);rw[he]at BL⊢;unfold sv cev at BL;obtain⟨n,hn⟩:=nmd (W*H);have nb:1≤n∧n≤160000:=by rw[<-hn];exact⟨Nat.mul_le_mul hW.1 hH.1,Nat.mul_le_mul hW.2 hH.2⟩
 have e1:(W:Int)*(H:Int)=(n:Int):=by rw[<-hn];simp
 have HN:Hid (W*H=n):=hn;rw[hn];clear hn he;go_enter func14,ntmps14;go_wp2_with fail;refine Calls.mono (S1 _) ?_;rintro e1 w1 ⟨rfl,hw1⟩;obtain rfl:=hw1.symm;go_wp2_with fail;refine Calls.mono (S2 _) ?_;rintro e2 w2 ⟨rfl,hw2⟩;obtain rfl:=hw2.symm;go_wp2_with fail;refine Calls.mono (BL _) ?_;rintro e3 w3 ⟨rfl,g3⟩;have G3:Hid (Gr w w3):=g3;clear g3;have B0:Hid (R5 34 (w3.alloc (.cells #[.string e.t,Iq e.f,Iq e.g,Iq e.b,Iq e.p] 34)) w3.heap.size e):=R5.new w3 e _;go_wp2_with fail;refine Calls.mono (repeat_any _ e w3.heap.size n nb B0.lt (r5_cells B0)) ?_;rintro e4 w4 ⟨rfl,⟨L,hL,hF⟩,b4⟩;have HL:Hid (w4.heap[w3.heap.size+1]?=some (.cells L.toArray 34 (0,0))∧Fl L n n e∧Below (w3.heap.size+1) (w3.alloc (.cells #[.string e.t,Iq e.f,Iq e.g,Iq e.b,Iq e.p] 34)) w4):=by simp only[World.size_alloc]at hL b4;exact⟨hL,hF,b4⟩
 clear hL hF b4;simp only[World.size_alloc];obtain⟨M,hM⟩:=nmd (w3.heap.size+1);rw[hM]at HL;rw[hM];have HM:Hid (w3.heap.size+1=M):=hM;clear hM;go_wp2;go_ret2;refine⟨w4.heap.size,M,rfl,?_,?_,?_,?_⟩
 ·have hlt:M<w4.heap.size:=(Array.getElem?_eq_some_iff.1 HL.1).1;refine⟨?_,?_,by omega,by rw[HN.out];exact Nat.le_refl _⟩;·rw[HN.out];exact heap_alloc_new _ _
  ·refine Cv.gr ?_ ((Gr.refl w4).alloc _);refine cv_of_fl HL.1 ?_;rw[HN.out];exact HL.2.1
 ·have:=G3.size;have:=HL.2.2.size;simp only[World.size_alloc]at this;omega
 ·have:=G3.size;have:=HM.out;omega
 ·have hz:=G3.size;have b1:Below w.heap.size w (w3.alloc (.cells #[.string e.t,Iq e.f,Iq e.g,Iq e.b,Iq e.p] 34)):=(G3.alloc _).below;have b2:Below w.heap.size w w4:=b1.trans (HL.2.2.mono (by have:=HM.out;omega));exact b2.alloc (by have:=HL.2.2.size;simp only[World.size_alloc]at this;omega) _
end
section
open Go.RowKit Go.Sort Go.Proofs.Tryz
def lin(c:Nat->Nat->Ce)(W:Nat):Nat->List Value
 |0=>[]
 |n+1=>lin c W n++c5 (c (n/W) (n %W))
theorem lin_len(c:Nat->Nat->Ce)(W n:Nat):(lin c W n).length=n*5:=by
 induction n with
 |zero=>rfl
 |succ n ih=>rw[lin,List.length_append,ih,c5_len];omega
theorem lin_get(c:Nat->Nat->Ce)(W:Nat):∀n i k,i<n->k<5->(lin c W n)[i*5+k]?=(c5 (c (i/W) (i %W)))[k]?
 |0,i,k,hi,hk=>absurd hi (by omega)
 |n+1,i,k,hi,hk=>by
  rw[lin];by_cases h:i<n;·rw[List.getElem?_append_left (by rw[lin_len];omega)];exact lin_get c W n i k h hk
  ·obtain rfl:i=n:=by omega
   rw[List.getElem?_append_right (by rw[lin_len];omega),lin_len,show i*5+k-i*5=k by omega]
theorem lin_one(c:Nat->Nat->Ce)(W n:Nat):∀v∈lin c W n,v.oneCell'=true:=by
 intro v hv;obtain⟨j,hj⟩:=List.mem_iff_getElem?.1 hv;have hl:j<n*5:=by rw[<-lin_len c W n];exact(List.getElem?_eq_some_iff.1 hj).1
 have:=lin_get c W n (j/5) (j %5) (by omega) (by omega);rw[show j/5*5+j %5=j by omega,hj]at this;have hm:=List.mem_of_getElem? this.symm;simp[c5]at hm;rcases hm with rfl|rfl|rfl|rfl|rfl<;>rfl
theorem div_lt{i W H:Nat}(h:i<W*H):i/W<H:=Nat.div_lt_of_lt_mul h
theorem W_pos{i W H:Nat}(h:i<W*H):0<W:=by
 rcases Nat.eq_zero_or_pos W with e|e;·rw[e,Nat.zero_mul]at h;omega
 ·exact e
theorem lin_off(i W:Nat):i/W*W*5+i %W*5=i*5:=by have:=Nat.div_add_mod i W;rw[<-Nat.add_mul,Nat.mul_comm (i/W) W,this]
theorem cv_lin{T:TypeId}{Q:World}{M W H:Nat}{c:Nat->Nat->Ce}(h:Cv T Q M W H c)(j:Nat)(v:Value)(hj:(lin c W (W*H))[j]?=some v):Q.cell? ((⟨M,0,none⟩:Addr).add j)=some v:=by
 have ea:(⟨M,0,none⟩:Addr).add j=⟨M,j,none⟩:=by unfold Addr.add;split<;>simp_all
 have hl:j<W*H*5:=by rw[<-lin_len c W (W*H)];exact(List.getElem?_eq_some_iff.1 hj).1
 have hi:j/5<W*H:=by omega
 have hg:=lin_get c W (W*H) (j/5) (j %5) hi (by omega);rw[show j/5*5+j %5=j by omega,hj]at hg;have:=h.cell (j/5/W) (j/5 %W) (div_lt hi) (Nat.mod_lt _ (W_pos hi)) (j %5) v hg.symm;rw[lin_off,show j/5*5+j %5=j by omega]at this;rw[ea];exact this
theorem cv_own{T:TypeId}{Q:World}{B W H:Nat}{c:Nat->Nat->Ce}{v:Value}(h:Q.ownsRow B T 5 v (W*H) (lin c W (W*H)))(hp:0<W*H):∃N cap,v=Sq N (W*H) cap∧B≤N∧Cv T Q N W H c:=by
 rcases h.2 with⟨_,h0⟩|⟨g,cap,cur,hv,hb,hg,_⟩;·omega
 ·refine⟨g,cap,hv,hb,⟨_,hg⟩,fun y x hy hx k u hu=>?_⟩;have hk:k<5:=(List.getElem?_eq_some_iff.1 hu).1;have hi:y*W+x<W*H:=by have:(y+1)*W≤H*W:=Nat.mul_le_mul_right _ (by omega);rw[Nat.add_mul]at this;rw[Nat.mul_comm W H];omega
  have hy':(y*W+x)/W=y:=by rw[Nat.mul_comm,Nat.mul_add_div (by omega),Nat.div_eq_of_lt hx,Nat.add_zero]
  have hx':(y*W+x) %W=x:=by rw[Nat.mul_comm,Nat.mul_add_mod,Nat.mod_eq_of_lt hx]
  have hl:=lin_get c W (W*H) (y*W+x) k hi hk;rw[hy',hx',hu]at hl;have:=h.cells (g:=g) (by rw[hv];rfl) _ _ hl;have ea:(⟨g,0,none⟩:Addr).add ((y*W+x)*5+k)=⟨g,y*W*5+x*5+k,none⟩:=by rw[Nat.add_mul];unfold Addr.add;split<;>simp_all
  rwa[ea]at this
section
variable{K M cap W H:Nat} {c:Nat->Nat->Ce}
theorem clone_any(w:World)(h:Cv 34 w M W H c)(hW:1≤W∧W≤400)(hH:1≤H∧H≤400):Calls prog 37 #[Sq M (W*H) cap] w fun e w'=>∃N cap',e=.returned (Sq N (W*H) cap')∧Cv 34 w' N W H c∧w.heap.size≤N∧Below w.heap.size w w':=by
 obtain⟨i0,hi,hz0,hz1,hz2⟩:=info_parts infoC;obtain⟨n,hn⟩:=nmd (W*H);have nb:1≤n∧n≤160000:=by rw[<-hn];exact⟨Nat.mul_le_mul hW.1 hH.1,Nat.mul_le_mul hW.2 hH.2⟩
 have HN:Hid (W*H=n):=hn;have HV:Hid (Cv 34 w M W H c):=h;obtain⟨L,hL⟩:=nmd (lin c W n);have HL:Hid (lin c W (W*H)=L):=by show _=_;rw[hn];exact hL
 have HLen:Hid (L.length=n*5):=by rw[<-hL];exact lin_len c W n
 have HOne:Hid (∀v∈L,v.oneCell'=true):=by rw[<-hL];exact lin_one c W n
 rw[hn];clear h hn hL;have ML:M<w.heap.size:=HV.lt;have qs:∀(w:World) (a:Option Addr) (n c n' c':Nat),(binOp .eql 24 (.slice a n c) (.slice none n' c')).run prog w=.ok (.bool a.isNone) w:=fun w a n c n' c'=>Lib.run_eql_slice_nil w _ _ a n c n' c' underlying24;have HCell:Hid (∀(j:Nat) u,L[j]?=some u->(w.alloc (.cells #[] 34)).cell? ((⟨M,0,none⟩:Addr).add j)=some u):=fun j u hj=>by rw[<-HL.out]at hj;exact cv_lin (HV.gr ((Gr.refl w).alloc _)) j u hj
 go_enter func37,ntmps37;go_wp2_with(at_builtin;refine wpList_append_own _ rfl _ _ 24 rfl w.heap.size 34 i0 (.agg #[.string ⟨#[]⟩,Iq 0,Iq 0,Iq 0,Iq 0]) 5 48 underlying24 hi hz0 hz1 hz2 rfl (by decide) _ _ _ rfl (World.ownsRow_made w #[] 0 (Nat.le_refl _) (Nat.zero_le _) rfl) ⟨M,0,none⟩ n cap L rfl HLen HCell HOne (by unfold maxLen;omega) (by omega) (by simp) ?_);intro v' w1 hown hgrow hnil;have HO:Hid (w1.ownsRow w.heap.size 34 5 v' n L):=hown;have HG:Hid (Below w.heap.size w w1):=((Below.refl _ w).alloc (Nat.le_refl _) _).grown hgrow (by simp) (by intro k hk;simp[Value.ownBlock]at hk;omega);clear hown hgrow hnil;go_wp2;go_ret;have hO:=HO.out;rw[<-HN.out,<-HL.out]at hO;obtain⟨N,cap',hv,hb,hcv⟩:=cv_own hO (by rw[HN.out];omega);exact⟨N,cap',by rw[<-HN.out];exact congrArg Ending.returned hv,hcv,hb,HG⟩
theorem cells_any(w:World)(h:CS 89 34 w K M cap W H c)(hW:1≤W∧W≤400)(hH:1≤H∧H≤400):Calls prog 17 #[Pq K] w fun e w'=>∃N cap',e=.returned (Sq N (W*H) cap')∧Cv 34 w' N W H c∧w.heap.size≤N∧Below w.heap.size w w':=by have CL:Hid (Calls prog 37 #[Sq M (W*H) cap] w fun e w'=>∃N cap',e=.returned (Sq N (W*H) cap')∧Cv 34 w' N W H c∧w.heap.size≤N∧Below w.heap.size w w'):=clone_any w h.cv hW hH;have k2:=h.k2;obtain⟨n,hn⟩:=nmd (W*H);rw[hn]at CL k2⊢;clear h hn;go_enter func17,ntmps17;go_wp2_with fail;refine Calls.mono CL ?_;rintro e w1 ⟨N,cap',rfl,h1,h2,h3⟩;have HH:Hid (Cv 34 w1 N W H c∧w.heap.size≤N∧Below w.heap.size w w1):=⟨h1,h2,h3⟩;clear h1 h2 h3;go_wp2;go_ret;exact⟨N,cap',rfl,HH⟩
end
end
section
open Go.RowKit Go.Sort Go.Proofs.Tryz
section
variable{N cap W H:Nat} {c:Nat->Nat->Ce}
theorem paired_yes(w:World)(h:Cv 34 w N W H c)(hp:PAll W H c)(hW:1≤W∧W≤400)(hH:1≤H∧H≤400):Calls prog 10 #[Sq N (W*H) cap,Iq W] w fun e w'=>e=.returned (.bool true)∧Gr w w':=by
 obtain⟨n,hn⟩:=nmd (W*H);have nb:1≤n∧n≤160000:=by rw[<-hn];exact⟨Nat.mul_le_mul hW.1 hH.1,Nat.mul_le_mul hW.2 hH.2⟩
 have HN:Hid (W*H=n):=hn;rw[hn];have HV:Hid (Cv 34 w N W H c):=h;have HP:Hid (PAll W H c):=hp;clear hn h hp;go_enter func10,ntmps10;go_wp2_with fail;go_loopw[5] (fun iv wr=>∃i:Nat,i≤n∧iv=Iq i∧Hid (Gr w wr)) (fun iv _=>n-(intOf iv).toNat);case atStart=>exact⟨0,by omega,rfl,Gr.refl w⟩
 case round=>
  obtain⟨i,hi,rfl,HG⟩:=hrel;by_cases hlt:i<n
  ·have hlt':(i:Int)<(n:Int):=by omega
   have HI:Hid (i<W*H):=by rw[HN.out];exact hlt
   obtain⟨y,hy⟩:=nmd (i/W);obtain⟨x,hx⟩:=nmd (i %W);have hyH:y<H:=by rw[<-hy];exact div_lt HI
   have hxW:x<W:=by rw[<-hx];exact Nat.mod_lt _ (by omega)
   have eo:y*W*5+x*5=i*5:=by rw[<-hy,<-hx];exact lin_off i W
   have er:(i:Int) %(W:Int)=(x:Int):=by rw[<-hx];omega
   have V1:=HV.gr HG;have PR:=HP y hyH;obtain⟨e,he⟩:=nmd (c y x);have c4:=V1.c4 hyH hxW;rw[eo,he]at c4;rcases PR.part x hxW with h0|h1|h2
   ·rw[he]at h0;rw[h0]at c4;clear hy hx eo V1 PR he;go_wp2_with fail;go_quiet(fail);go_wp2;go_roundw;case rel=>exact⟨i+1,by omega,by go_num,HG.drewN _⟩
    case measure=>simp[intOf];omega
   ·obtain⟨q1,q2,q3,q4,q5⟩:=PR.head x hxW h1;rw[he]at h1 q3 q4 q5;rw[h1]at c4;have en1:y*W*5+(x+1)*5=(i+1)*5:=by omega
    have il:i+1<n:=by
     rw[<-HN.out];have hm:(y+1)*W≤H*W:=Nat.mul_le_mul_right _ (by omega);rw[Nat.add_mul,Nat.mul_comm H W]at hm;have:i=y*W+x:=by omega
     omega
    have s1:=V1.c1 hyH hxW;have s2:=V1.c2 hyH hxW;have s3:=V1.c3 hyH hxW;rw[eo,he]at s1 s2 s3;have t1:=V1.c1 hyH q1;have t2:=V1.c2 hyH q1;have t3:=V1.c3 hyH q1;have t4:=V1.c4 hyH q1;rw[en1]at t1 t2 t3 t4;rw[q2]at t4;rw[q3]at t1;rw[q4]at t2;rw[q5]at t3;have nw:((x:Int)==(W:Int)-1)=false:=by simp;omega
    have il':(i:Int)+1<(n:Int):=by omega
    clear hy hx eo V1 PR he en1 q2 q3 q4 q5;obtain⟨f,hf⟩:=nmd e.f;obtain⟨g,hg⟩:=nmd e.g;obtain⟨b,hb⟩:=nmd e.b;rw[hf]at s1 t1;rw[hg]at s2 t2;rw[hb]at s3 t3;clear hf hg hb h1;go_wp2_with fail;go_quiet(fail);go_wp2;go_roundw;case rel=>exact⟨i+1,by omega,by go_num,HG.drewN _⟩
    case measure=>simp[intOf];omega
   ·obtain⟨k,hk,q1,q2⟩:=PR.tail x hxW h2;rw[he]at h2 q2;rw[h2]at c4;subst hk;obtain⟨j,rfl⟩:∃j,i=j+1:=⟨i-1,by omega⟩;have en1:y*W*5+k*5=j*5:=by omega
    have t4:=V1.c4 hyH (show k<W by omega);rw[en1,q1]at t4;have s0:=V1.c0 hyH hxW;rw[eo,he,q2]at s0;unfold ept at s0;have nw:(((k:Int)+1)==0)=false:=by simp;omega
    have er':((j:Int)+1) %(W:Int)=(k:Int)+1:=er;clear er;clear hy hx eo V1 PR he en1 q1 q2 h2;go_wp2_with fail;go_quiet(fail);go_wp2;go_roundw;case rel=>exact⟨j+1+1,by omega,by go_num,HG.drewN _⟩
    case measure=>simp[intOf];omega
  ·have hlt':¬(i:Int)<(n:Int):=by omega
   go_wp2;go_ret;exact⟨rfl,HG⟩
end
end
end Go.Proofs.YtmbefonnkkhfgaaGreatDoor
