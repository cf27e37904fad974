import Derived.Laws.CopyOwn
import Derived.Test.YtadhgppeafpdgaaGreatDoorQ08
import Derived.Shelf.Bits.Mul64
import Derived.DeepKeys4
import Derived.Test.YtadhgppeafpdgaaGreatDoorQ25
set_option linter.all false
set_option maxRecDepth 100000
set_option maxHeartbeats 16000000
namespace Go.Proofs.YtadhgppeafpdgaaGreatDoor
open Go.RowKit Go.Sort Go.Proofs.Tryz
theorem lL{P}  w   dT sT ty elem   s g o zaX zfE   a   zcL zh8   cM   t   cs   n 
 (hu:P.underlying dT=some (.slice elem)) (hs:(P.info? elem).map (·.size)=some s)
 (hg:w.heap[g]?=some (.cells cM.toArray t (0,0))) (hn:n=Nat.min zcL zaX) (iD:cs.length=n*s)
 (YI:∀j v,cs[j]?=some v->w.cell? (a.add j)=some v) (Ky:o+cs.length<=cM.length) (h1:∀v∈cs,v.oneCell'=true):
 (Builtin.copy_ #[dT,sT] ty #[.slice (some (aq g o)) zaX zfE,.slice (some a) zcL zh8]).run P w=
  .ok (goInt n) (w.setRow g (splice cM o cs).toArray):=by
 have hl:=run_loadCells_list (P:=P) w a cs YI;have uy:=run_storeCells_at P g o t cs 0 cM.toArray w hg (by omega) h1;cases hq:P.info? elem with
 |none=>grind
 |some i=>
  have hi:i.size=s:=by simpa[hq]using hs
  rw[iD]at hl;simp[Builtin.copy_,run_underlying hu,Builtin.lenOf,Builtin.firstCells,sizeOf,typeInfo,hq,hi,<-hn,hl,uy,splice]
section
open Go.Shelf
def SU:Go.Shelf.Ren:=⟨fun|212=>50|263=>78|264=>79|n=>n,fun|46=>126|51=>158|53=>161|146=>159|148=>162|n=>n,fun|n=>n⟩
theorem NH:Go.Proofs.Lays.n212 prog SU:={
 mixed:=by kernel_rfl
 f212:=func50.trans (congrArg some (by kernel_rfl))
 f263:=func78.trans (congrArg some (by kernel_rfl))
 f264:=func79.trans (congrArg some (by kernel_rfl))
 t46:=underlying126
 a46:=isAgg126
 z46:=sizeOf126
 v46:=zeroValue126
 t51:=underlying158
 a51:=isAgg158
 z51:=sizeOf158
 v51:=zeroValue158
 t53:=underlying161
 a53:=isAgg161
 z53:=sizeOf161
 v53:=zeroValue161
 t146:=underlying159
 a146:=isAgg159
 z146:=sizeOf159
 v146:=zeroValue159
 t148:=underlying162
 a148:=isAgg162
 z148:=sizeOf162
 v148:=zeroValue162}
theorem zI(x y:Nat)(hx:x<18446744073709551616)(hy:y<18446744073709551616)  w  :
 Cw 50 #[.int .u64 x,.int .u64 y] w fun e w'=>e=Rw (.tuple #[.int .u64 ((x*y/18446744073709551616:Nat):Int),.int .u64 ((x*y %18446744073709551616:Nat):Int)])/\w'=w:=Any.bits_Mul NH x y hx hy w
end
def Eg(s:Nat)(L:List Value)(N m:Nat)(es:List Value):Prop:=L.length=N*s/\∀i k u,i<m->es[k]?=some u->L[i*s+k]?=some u
section
variable{s N m cnt:Nat} {L es:List Value}
theorem Eg.take(hs:s=1\/s=4\/s=5)(he:es.length=s)(h:Eg s L N m es)(hm:m<=N)(hc:cnt<=m)(hN:m+cnt<=N):Eg s (splice L (m*s) (L.take (cnt*s))) N (m+cnt) es:=by rcases hs with rfl|rfl|rfl;all_goals obtain⟨h1,h2⟩:=h;refine⟨by rw[length_splice _ _ _ (by grind)];exact h1,fun i k u hi hu=>?_⟩;have hk:=(np.1 hu).1;have a:=fun q=>h2 i k u q hu;have b:=fun q=>h2 (i-m) k u q hu;unfold splice;rw[List.getElem?_append,List.getElem?_append,bU,bU,iq,iq,h1];grind
theorem Eg.first(hs:s=1\/s=4\/s=5)(he:es.length=s)(h:L.length=N*s)(hN:1<=N):Eg s (splice L 0 es) N 1 es:=by rcases hs with rfl|rfl|rfl;all_goals refine⟨by rw[length_splice _ _ _ (by omega)];exact h,fun i k u hi hu=>?_⟩;unfold splice;grind
theorem Eg.one(hs:s=1\/s=4\/s=5)(he:es.length=s)(h1:∀v∈es,v.oneCell'=true)(h:Eg s L N m es)(hc:cnt<=m):∀v∈L.take (cnt*s),v.oneCell'=true:=by
 intro v hv;obtain⟨j,hj⟩:=I8.1 hv;rw[iq]at hj;have h2:=h.2;rcases hs with rfl|rfl|rfl;·have:=h2 (j/1) (j %1);grind
 ·have:=h2 (j/4) (j %4);grind
 ·have:=h2 (j/5) (j %5);grind
end
abbrev VU (f:FuncId) (sl el:TypeId) (s:Nat):Prop:=(f=253/\sl=34/\el=3/\s=1)\/(f=165/\sl=212/\el=100/\s=4)\/(f=29/\sl=42/\el=47/\s=5)
theorem VU.facts{f:FuncId}{sl el:TypeId}{s:Nat}(h:VU f sl el s):(s=1\/s=4\/s=5)/\prog.underlying sl=some (.slice el)/\∃z b,(prog.info? el).map (fun i=>(i.zero,i.size,i.bytes))=some (some z,s,b)/\b<=48:=by
 rcases h with⟨rfl,rfl,rfl,rfl⟩|⟨rfl,rfl,rfl,rfl⟩|⟨rfl,rfl,rfl,rfl⟩;·exact⟨by omega,underlying34,Iq 0,8,by kernel_rfl,by omega⟩
 ·exact⟨by omega,underlying212,.agg #[Iq 0,Iq 0,Iq 0,Iq 0],32,by kernel_rfl,by omega⟩
 ·exact⟨by omega,underlying42,.agg #[.string ⟨#[]⟩,Iq 0,Iq 0,Iq 0,Iq 0],48,by kernel_rfl,by omega⟩
theorem zaJ(B j:Nat):((aq B 0):Addr).add j=(aq B j):=by unfold Addr.add;split<;>simp_all
section
variable{f:FuncId} {sl el:TypeId} {s:Nat}
theorem VU.made(hk:VU f sl el s)(N:Nat)(hN:N<=160000):∃Z:List Value,Hid (Z.length=N*s)/\∀W:World,(Instr.makeSlice sl (Iq (N:Int)) (Iq (N:Int))).run prog W=.ok (Sq W.heap.size N N) (W.alloc (.cells Z.toArray el)):=by obtain⟨hs,hu,z,b,Yu,hb⟩:=hk.facts;obtain⟨i0,hi,dJ,fy,fB⟩:=info_parts Yu;refine⟨(madeCells z.cells (N*s)).toList,(by show _=_;rw[gc,size_madeCells]:_),fun W=>?_⟩;have hm:=pJ hb hN;have:=run_make (P:=prog) W sl el i0 _ hu hi dJ .i64 .i64 N N (by omega) (lV _) (by rw[fB];omega) (by omega);rw[fy,lW]at this;rw[Array.toArray_toList];exact this
theorem VU.copy(hk:VU f sl el s)(W w0:World)(S off dn dc:Nat)(ad:Addr)(sn sc n:Nat)(L cs:List Value)(hg:W.heap[S]?=some (.cells L.toArray el (0,0)))(hn:n=Nat.min sn dn)(hc:cs.length=n*s)(YI:∀j v,cs[j]?=some v->W.cell? (ad.add j)=some v)(hf:off+cs.length<=L.length)(h1:∀v∈cs,v.oneCell'=true)(hb:Below S w0 W):
 ∃W',(Builtin.copy_ #[sl,sl] 3 #[.slice (some (aq S off)) dn dc,.slice (some ad) sn sc]).run prog W=.ok (goInt n) W'/\W'.heap[S]?=some (.cells (splice L off cs).toArray el (0,0))/\Below S w0 W':=by obtain⟨_,hu,z,b,Yu,_⟩:=hk.facts;obtain⟨i0,hi,_,fy,_⟩:=info_parts Yu;exact⟨_,lL (P:=prog) W sl sl 3 el s S off dn dc ad sn sc L el cs n hu (by rw[hi,<-fy];rfl) hg hn hc YI hf h1,setRow_heap _ S _ _ el _ hg,below_setRow hb (ae _) _⟩
theorem zS(hk:VU f sl el s)(w:World)(es:List Value)(Z':es.length=s)(RI:∀v∈es,v.oneCell'=true)(B N:Nat)(hN:1<=N/\N<=160000)(hB:B<w.heap.size)(hc:∀(k:Nat) u,es[k]?=some u->w.cell? (aq B k)=some u):
 Cw f #[Sq B 1 1,Iq N] w fun r w'=>r=Rw (Sq w.heap.size N N)/\(∃L,w'.heap[w.heap.size]?=some (.cells L.toArray el (0,0))/\Eg s L N N es)/\Bt w w':=by
 have MU:Hid (∀w,Cw 50 #[.int .u64 1,.int .u64 N] w fun r w'=>r=Rw (.tuple #[.int .u64 0,.int .u64 N])/\w'=w):=fun w=>by have:=zI 1 N (by omega) (by omega) w;rw[show 1*N/18446744073709551616=0 by omega,show 1*N %18446744073709551616=N by omega]at this;exact this
 have hs:=hk.facts.1;obtain⟨Z,hZ,mw⟩:=hk.made N hN.2;obtain⟨S,hS⟩:=af w.heap.size;obtain⟨Q,hQ⟩:∃Q:World->Nat->Prop,(fun wr m=>∃L,wr.heap[S]?=some (.cells L.toArray el (0,0))/\Eg s L N m es)=Q:=⟨_,rfl⟩;obtain⟨w2,Tu,HL,dE⟩:∃w2,(Builtin.copy_ #[sl,sl] 3 #[Sq S N N,Sq B 1 1]).run prog (w.alloc (.cells Z.toArray el))=.ok (goInt 1) w2/\Hid (Q w2 1)/\Hid (Below S w w2):=by obtain⟨w2,q1,q2,q3⟩:=hk.copy (w.alloc (.cells Z.toArray el)) w S 0 N N (aq B 0) 1 1 1 Z es (by rw[<-hS];exact heap_alloc_new _ _) (by show 1=min 1 N;omega) (by omega) (fun j v hv=>by rw[zaJ];exact(ba (a:=(aq B j)) (((Gr.refl w).alloc _).block hB)).trans (hc j v hv)) (by rw[hZ.out,Z'];rcases hs with rfl|rfl|rfl<;>omega) RI (by rw[<-hS];exact((Gr.refl w).alloc _).below);exact⟨w2,q1,by rw[<-hQ];exact⟨_,q2,Eg.first hs Z' hZ hN.1⟩,q3⟩
 have HST:Hid (∀wr (m:Nat),Q wr m->Below S w wr->1<=m->m<N->∃(cnt:Nat) (w4:World),(1<=cnt/\m+cnt<=N)/\(Builtin.copy_ #[sl,sl] 3 #[.slice (some (aq S (m*s))) (N-m) (N-m),Sq S m N]).run prog wr.drew=.ok (Iq (cnt:Int)) w4/\Q w4 (m+cnt)/\Below S w w4):=fun wr m hq Yg rj hlt=>by
  rw[<-hQ]at hq⊢;obtain⟨L,hL,hF⟩:=hq;obtain⟨cnt,nQ⟩:=af (min m (N-m));have Yy:(L.take (cnt*s)).length=cnt*s:=by rw[bU,hF.1];rcases hs with rfl|rfl|rfl<;>omega
  obtain⟨w4,q1,q2,q3⟩:=hk.copy wr.drew w S (m*s) (N-m) (N-m) (aq S 0) m N cnt L (L.take (cnt*s)) hL nQ.symm Yy (fun j v hv=>by
   rw[zaJ];rw[iq]at hv;split at hv;·show wr.cell? (aq S j)=some v;simp[World.cell?,hL,hv]
   ·cases hv) (by rw[Yy,hF.1];rcases hs with rfl|rfl|rfl<;>omega) (Eg.one hs Z' RI hF (by omega)) Yg.drew;exact⟨cnt,w4,by omega,q1,⟨_,q2,Eg.take hs Z' hF (by omega) (by omega) (by omega)⟩,q3⟩
 have HQ:=qH hQ;have HS:=qH hS;have nN:¬(N:Int)<0:=by omega
 have nb:decide (9223372036854775807<(N:Int))=false:=decide_eq_false (by omega);clear hc hB Z' RI hQ hs hZ;rcases hk with⟨rfl,rfl,rfl,rfl⟩|⟨rfl,rfl,rfl,rfl⟩|⟨rfl,rfl,rfl,rfl⟩;all_goals
  first
   |go_enter func253,ntmps253
   |go_enter func165,ntmps165
   |go_enter func29,ntmps29
  go_wp2_with(first|(go_at_call 50;refine ai (MU _) ?_;rintro r w1 ⟨rfl,iO⟩;obtain rfl:=iO.symm));clear hS Tu mw;go_loopw[8] (fun nv wr=>∃m:Nat,1<=m/\m<=N/\nv=Iq m/\Hid (Q wr m)/\Hid (Below S w wr)) (fun nv _=>N-(intOf nv).toNat);case atStart=>exact⟨1,ae _,hN.1,rfl,HL,dE⟩
  case round=>
   obtain⟨m,rj,hm2,rfl,HR,Xh⟩:=hrel;by_cases hlt:m<N
   ·obtain⟨cnt,w4,Z8,zbt,hq4,Tp⟩:=HST wr m HR Xh rj hlt;have HQ4:=qH hq4;have HB4:=qH Tp;try rw[Ea]at zbt
    clear hq4 Tp;have aR:(m:Int)<(N:Int):=by omega
    have e1:¬N=m:=by omega
    have e2:¬N-m=0:=by omega
    have ww:IntKind.i64.wrap ((m:Int)+(cnt:Int))=(m:Int)+(cnt:Int):=by rw[IntKind.wrap_i64];omega
    go_wp2_with fail;go_region;all_goals
     go_wp2;go_roundw;case rel=>exact⟨m+cnt,by omega,by omega,by go_num,HQ4,HB4⟩
     case measure=>simp[intOf];omega
   ·have aR:¬(m:Int)<(N:Int):=by omega
    obtain rfl:m=N:=by omega
    go_wp2;go_ret;have hr:=HR.out;rw[<-HQ.out]at hr;exact⟨by rw[HS.out];rfl,by rw[HS.out];exact hr,by have:=HS.out;subst this;exact Xh⟩
theorem Ds(hk:VU f sl el s)(w:World)(B:Nat):
 Cw f #[Sq B 1 1,Iq 0] w fun r w'=>∃p c,r=Rw (.slice p 0 c)/\Bt w w':=by
 have MU:Hid (∀w,Cw 50 #[.int .u64 1,.int .u64 0] w fun r w'=>r=Rw (.tuple #[.int .u64 0,.int .u64 0])/\w'=w):=fun w=>zI 1 0 (by omega) (by omega) w;obtain⟨Z,hZ,mw⟩:=hk.made 0 (by omega);rw[show((0:Nat):Int)=0 from rfl]at mw;obtain⟨S,hS⟩:=af w.heap.size;obtain⟨w2,Tu,dE⟩:∃w2,(Builtin.copy_ #[sl,sl] 3 #[Sq S 0 0,Sq B 1 1]).run prog (w.alloc (.cells Z.toArray el))=.ok (Iq 0) w2/\Hid (Below S w w2):=by obtain⟨w2,q1,_,q3⟩:=hk.copy (w.alloc (.cells Z.toArray el)) w S 0 0 0 (aq B 0) 1 1 0 Z [] (by rw[<-hS];exact heap_alloc_new _ _) rfl (by rw[I9];rfl) (fun j v hv=>by cases hv) (bm _) (fun v hv=>by cases hv) (by rw[<-hS];exact((Gr.refl w).alloc _).below);exact⟨w2,q1,q3⟩
 have HS:=qH hS;clear hZ;rcases hk with⟨rfl,rfl,rfl,rfl⟩|⟨rfl,rfl,rfl,rfl⟩|⟨rfl,rfl,rfl,rfl⟩;all_goals
  first
   |go_enter func253,ntmps253
   |go_enter func165,ntmps165
   |go_enter func29,ntmps29
  go_wp2_with(first|(go_at_call 50;refine ai (MU _) ?_;rintro r w1 ⟨rfl,iO⟩;obtain rfl:=iO.symm));clear hS Tu mw;go_loopw[8] (fun nv wr=>nv=Iq 0/\Hid (Below S w wr)) (fun nv _=>0);case atStart=>exact⟨rfl,dE⟩
  case round=>obtain⟨rfl,Xh⟩:=hrel;go_wp2;go_ret;exact⟨_,_,rfl,by have:=HS.out;subst this;exact Xh⟩
end
theorem Cv.below{T}{Q Q'}{M W H}{c}(h:Cv T Q M W H c)(g:Bt Q Q'):Cv T Q' M W H c:=h.keep (g.block M h.lt)
theorem CS.below{TK T}{Q Q'}{K M cap W H}{c}(h:CS TK T Q K M cap W H c)(g:Bt Q Q'):CS TK T Q' K M cap W H c:=⟨(g.block K h.klt).trans h.kb,h.cv.below g,h.ne,h.hc⟩
theorem NV{T:TypeId}{Q:World}{M W H:Nat}{e:Ce}{L:List Value}(h:Q.heap[M]?=some (.cells L.toArray T (0,0)))(hf:Eg 5 L (W*H) (W*H) (c5 e)):Cv T Q M W H (fun _ _=>e):=by
 refine⟨⟨_,h⟩,fun y x hy hx k u hu=>?_⟩;have hi:y*W+x<W*H:=by have:(y+1)*W<=H*W:=jw _ (by omega);rw[fL]at this;rw[jc W H];omega
 have:=hf.2 (y*W+x) k u hi hu;rw[show(y*W+x)*5+k=y*W*5+x*5+k by omega]at this;simp[World.cell?,h,this]
theorem Qh{T}{Q}{b}{e}(h:R5 T Q b e)  k   u  (hu:(c5 e)[k]?=some u):Q.cell? (aq b k)=some u:=by
 unfold R5 at h;have:(#[.string e.t,Iq e.f,Iq e.g,Iq e.b,Iq e.p]:Array Value)[k]?=some u:=by rw[<-hu];unfold c5;simp
 simp[World.cell?,h,this]
theorem Uv(W H:Int)(w:World)(h:¬((1<=W/\W<=400)/\(1<=H/\H<=400))):Cw 16 #[Iq W,Iq H] w fun e w'=>e=Rw (.tuple #[.pointer none,Iq 6])/\w'=w:=by
 have SD:Hid (∀n w,Cw 28 #[Iq n] w fun e w'=>e=Rw (.bool (decide (1<=n/\n<=400)))/\w'=w):=DB;have S1:=SD W;have S2:=SD H;by_cases h1:1<=W/\W<=400;·have h2:¬(1<=H/\H<=400):=fun q=>h ⟨h1,q⟩;rw[decide_eq_true h1]at S1;rw[decide_eq_false h2]at S2;clear h;go_enter func16,ntmps16;go_wp2_with fail;refine ai (S1 _) ?_;rintro e w1 ⟨rfl,iO⟩;obtain rfl:=iO.symm;go_wp2_with fail;refine ai (S2 _) ?_;rintro e w2 ⟨rfl,sW⟩;obtain rfl:=sW.symm;go_wp2;go_ret2;simp_all
 ·rw[decide_eq_false h1]at S1;clear h;go_enter func16,ntmps16;go_wp2_with fail;refine ai (S1 _) ?_;rintro e w1 ⟨rfl,iO⟩;obtain rfl:=iO.symm;go_wp2;go_ret2;simp_all
theorem Pz(W H:Nat)(w:World)(hW:1<=W/\W<=400)(hH:1<=H/\H<=400):Cw 16 #[Iq W,Iq H] w fun e w'=>∃K M,e=Rw (.tuple #[Pq K,Iq 0])/\CS 84 47 w' K M (W*H) W H (fun _ _=>bk 0 0 0)/\w.heap.size<=K/\w.heap.size<=M/\Bt w w':=by
 have SD:Hid (∀n w,Cw 28 #[Iq n] w fun e w'=>e=Rw (.bool (decide (1<=n/\n<=400)))/\w'=w):=DB;have S1:=SD W;have S2:=SD H;rw[decide_eq_true (by omega)]at S1 S2;have BL:Hid (∀w,Cw 30 #[sv 0 0 0] w fun e w'=>e=Rw (NG (bk 0 0 0))/\Gr w w'):=nK 0 0 0;obtain⟨e,he⟩:=af (bk 0 0 0);rw[he]at BL⊢;unfold sv NG at BL;obtain⟨n,hn⟩:=af (W*H);have nb:1<=n/\n<=160000:=by rw[<-hn];exact⟨pJ hW.1 hH.1,pJ hW.2 hH.2⟩
 have e1:(W:Int)*(H:Int)=(n:Int):=by rw[<-hn];simp
 have HN:Hid (W*H=n):=hn;rw[hn];clear hn he;go_enter func16,ntmps16;go_wp2_with fail;refine ai (S1 _) ?_;rintro e1 w1 ⟨rfl,iO⟩;obtain rfl:=iO.symm;go_wp2_with fail;refine ai (S2 _) ?_;rintro e2 w2 ⟨rfl,sW⟩;obtain rfl:=sW.symm;go_wp2_with fail;refine ai (BL _) ?_;rintro e3 w3 ⟨rfl,g3⟩;have G3:Hid (Gr w w3):=g3;clear g3;have B0:Hid (R5 47 (w3.alloc (.cells #[.string e.t,Iq e.f,Iq e.g,Iq e.b,Iq e.p] 47)) w3.heap.size e):=R5.new w3 e _;go_wp2_with fail;refine ai (zS (.inr (.inr ⟨rfl,rfl,rfl,rfl⟩)) _ (c5 e) rfl (by simp[c5,Value.oneCell']) w3.heap.size n nb B0.lt (Qh B0)) ?_;rintro e4 w4 ⟨rfl,⟨L,hL,hF⟩,b4⟩;have HL:Hid (w4.heap[w3.heap.size+1]?=some (.cells L.toArray 47 (0,0))/\Eg 5 L n n (c5 e)/\Below (w3.heap.size+1) (w3.alloc (.cells #[.string e.t,Iq e.f,Iq e.g,Iq e.b,Iq e.p] 47)) w4):=by simp only[aA]at hL;exact⟨hL,hF,b4.mono (by simp)⟩
 clear hL hF b4;simp only[aA];obtain⟨M,hM⟩:=af (w3.heap.size+1);rw[hM]at HL;rw[hM];have HM:Hid (w3.heap.size+1=M):=hM;clear hM;go_wp2;go_ret2;refine⟨w4.heap.size,M,rfl,?_,?_,?_,?_⟩
 ·have hlt:=(az.1 HL.1).1;refine⟨?_,?_,by omega,by omega⟩;·rw[HN.out];exact heap_alloc_new _ _
  ·refine Cv.gr ?_ ((Gr.refl w4).alloc _);refine NV HL.1 ?_;rw[HN.out];exact HL.2.1
 ·have:=G3.size;have:=HL.2.2.size;simp only[aA]at this;omega
 ·have:=G3.size;have:=HM.out;omega
 ·have hz:=G3.size;have b1:Bt w (w3.alloc (.cells #[.string e.t,Iq e.f,Iq e.g,Iq e.b,Iq e.p] 47)):=(G3.alloc _).below;have b2:=b1.trans (HL.2.2.mono (by have:=HM.out;omega));exact b2.alloc (by have:=HL.2.2.size;simp only[aA]at this;omega) _
def R9(c:Nat->Nat->Ce)(W:Nat):Nat->List Value
 |0=>[]
 |n+1=>R9 c W n++c5 (c (n/W) (n %W))
theorem oT  c   W n  :(R9 c W n).length=n*5:=by
 induction n with
 |zero=>rfl
 |succ n ih=>grind[R9,yU]
theorem sY  c   W  :∀n i k,i<n->k<5->(R9 c W n)[i*5+k]?=(c5 (c (i/W) (i %W)))[k]?
 |0,i,k,hi,hk=>absurd hi (by omega)
 |n+1,i,k,hi,hk=>by
  rw[R9];by_cases h:i<n;·rw[vG (by rw[oT];omega)];exact sY c W n i k h hk
  grind[oT]
theorem Uj  c   W n  :∀v∈R9 c W n,v.oneCell'=true:=by
 intro v hv;obtain⟨j,hj⟩:=I8.1 hv;have hl:j<n*5:=by rw[<-oT c W n];exact(np.1 hj).1
 have:=sY c W n (j/5) (j %5) (by omega) (by omega);rw[show j/5*5+j %5=j by omega,hj]at this;have hm:=Rf this.symm;simp[c5]at hm;rcases hm with rfl|rfl|rfl|rfl|rfl<;>rfl
theorem XP{i W H:Nat}(h:i<W*H):i/W<H:=Eb h
theorem zaH{i W H}(h:i<W*H):0<W:=by grind
theorem Ui  i W  :i/W*W*5+i %W*5=i*5:=by have:=Rg i W;grind
theorem XM{T}{Q}{M W H}{c}(h:Cv T Q M W H c)  j   v  (hj:(R9 c W (W*H))[j]?=some v):Q.cell? (((aq M 0):Addr).add j)=some v:=by
 have ea:((aq M 0):Addr).add j=(aq M j):=by unfold Addr.add;split<;>simp_all
 have hl:j<W*H*5:=by rw[<-oT c W (W*H)];exact(np.1 hj).1
 have hi:j/5<W*H:=by omega
 have hg:=sY c W (W*H) (j/5) (j %5) hi (by omega);rw[show j/5*5+j %5=j by omega,hj]at hg;have:=h.cell (j/5/W) (j/5 %W) (XP hi) (I_ _ (zaH hi)) (j %5) v hg.symm;grind[Ui]
theorem XN{T}{Q}{B W H}{c}{v}(h:Q.ownsRow B T 5 v (W*H) (R9 c W (W*H)))(hp:0<W*H):∃N cap,v=Sq N (W*H) cap/\B<=N/\Cv T Q N W H c/\W*H<=cap/\cap<=9223372036854775807:=by
 rcases h.2 with⟨_,h0⟩|⟨g,cap,cM,hv,hb,hg,k1,k2,_⟩;·omega
 ·refine⟨g,cap,hv,hb,⟨⟨_,hg⟩,fun y x hy hx k u hu=>?_⟩,k1,k2⟩;have hk:k<5:=(np.1 hu).1;have hi:y*W+x<W*H:=by have:(y+1)*W<=H*W:=jw _ (by omega);rw[fL]at this;rw[jc W H];omega
  have WB:(y*W+x)/W=y:=by rw[jc,Q7 (by omega),yi hx,vJ]
  have hx':(y*W+x) %W=x:=by rw[jc,Nat.mul_add_mod,I' hx]
  have hl:=sY c W (W*H) (y*W+x) k hi hk;rw[WB,hx',hu]at hl;have:=h.cells (g:=g) (by rw[hv];rfl) _ _ hl;have ea:((aq g 0):Addr).add ((y*W+x)*5+k)=(aq g (y*W*5+x*5+k)):=by rw[fL];unfold Addr.add;split<;>simp_all
  grind
theorem O3:(prog.info? 47).map (fun i=>(i.zero,i.size,i.bytes))=some (some (.agg #[.string ⟨#[]⟩,Iq 0,Iq 0,Iq 0,Iq 0]),5,48):=by kernel_rfl
section
variable{K M cap W H:Nat} {c:Nat->Nat->Ce}
theorem JS(w:World)(h:Cv 47 w M W H c)(hW:1<=W/\W<=400)(hH:1<=H/\H<=400):Cw 49 #[Sq M (W*H) cap] w fun e w'=>∃N cH,e=Rw (Sq N (W*H) cH)/\Cv 47 w' N W H c/\w.heap.size<=N/\Bt w w'/\W*H<=cH/\cH<=9223372036854775807:=by
 obtain⟨i0,hi,dJ,fy,fB⟩:=info_parts O3;obtain⟨n,hn⟩:=af (W*H);have nb:1<=n/\n<=160000:=by rw[<-hn];exact⟨pJ hW.1 hH.1,pJ hW.2 hH.2⟩
 have HN:Hid (W*H=n):=hn;have HV:Hid (Cv 47 w M W H c):=h;obtain⟨L,hL⟩:=af (R9 c W n);have HL:Hid (R9 c W (W*H)=L):=by show _=_;rw[hn];exact hL
 have zeS:Hid (L.length=n*5):=by rw[<-hL];exact oT c W n
 have ze4:Hid (∀v∈L,v.oneCell'=true):=by rw[<-hL];exact Uj c W n
 rw[hn];clear h hn hL;have ML:=HV.lt;have qs:∀(w:World) (a:Option Addr) (n c n' c':Nat),(binOp .eql 42 (.slice a n c) (.slice none n' c')).run prog w=.ok (.bool a.isNone) w:=fun w a n c n' c'=>Lib.run_eql_slice_nil w _ _ a n c n' c' underlying42;have _1:Hid (∀(j:Nat) u,L[j]?=some u->(w.alloc (.cells #[] 47)).cell? (((aq M 0):Addr).add j)=some u):=fun j u hj=>by rw[<-HL.out]at hj;exact XM (HV.gr ((Gr.refl w).alloc _)) j u hj
 go_enter func49,ntmps49;go_wp2_with(at_builtin;refine wpList_append_own _ rfl _ _ 42 rfl w.heap.size 47 i0 (.agg #[.string ⟨#[]⟩,Iq 0,Iq 0,Iq 0,Iq 0]) 5 48 underlying42 hi dJ fy fB rfl (by decide) _ _ _ rfl (World.ownsRow_made w #[] 0 (ae _) (bm _) rfl) (aq M 0) n cap L rfl zeS _1 ze4 (by unfold maxLen;omega) (by omega) (by simp) ?_);intro v' w1 bC jo zhb;have HO:Hid (w1.ownsRow w.heap.size 47 5 v' n L):=bC;have HG:Hid (Bt w w1):=((ag _ w).alloc (ae _) _).grown jo (by simp) (by intro k hk;simp[Value.ownBlock]at hk;omega);clear bC jo zhb;go_wp2;go_ret;have hO:=HO.out;rw[<-HN.out,<-HL.out]at hO;obtain⟨N,cH,hv,hb,Z9,k1,k2⟩:=XN hO (by rw[HN.out];omega);exact⟨N,cH,by rw[<-HN.out];simp_all,Z9,hb,HG,by rw[<-HN.out];exact k1,k2⟩
theorem xr(w:World)(h:CS 84 47 w K M cap W H c)(hW:1<=W/\W<=400)(hH:1<=H/\H<=400):Cw 27 #[Pq K] w fun e w'=>∃N cH,e=Rw (Sq N (W*H) cH)/\Cv 47 w' N W H c/\w.heap.size<=N/\Bt w w'/\W*H<=cH/\cH<=9223372036854775807:=by have CL:Hid (Cw 49 #[Sq M (W*H) cap] w fun e w'=>∃N cH,e=Rw (Sq N (W*H) cH)/\Cv 47 w' N W H c/\w.heap.size<=N/\Bt w w'/\W*H<=cH/\cH<=9223372036854775807):=JS w h.cv hW hH;have k2:=h.k2;obtain⟨n,hn⟩:=af (W*H);rw[hn]at CL k2⊢;clear h hn;go_enter func27,ntmps27;go_wp2_with fail;refine ai CL ?_;rintro e w1 ⟨N,cH,rfl,h1,h2,h3⟩;have HH:Hid (Cv 47 w1 N W H c/\w.heap.size<=N/\Bt w w1/\n<=cH/\cH<=9223372036854775807):=⟨h1,h2,h3⟩;clear h1 h2 h3;go_wp2;go_ret;exact⟨N,cH,rfl,HH⟩
theorem JR(w:World)(h:CS 84 47 w K M cap W H c)(hW:1<=W/\W<=400)(hH:1<=H/\H<=400):Cw 27 #[Pq K] w fun e w'=>∃N cH,e=Rw (Sq N (W*H) cH)/\Cv 47 w' N W H c/\w.heap.size<=N/\Bt w w':=(xr w h hW hH).mono fun e w' ⟨N,cH,h0,h1,h2,h3,_⟩=>⟨N,cH,h0,h1,h2,h3⟩
end
def Fl(L:List Value)(N m:Nat)(e:Ce):Prop:=L.length=N*5/\∀i k u,i<m->(c5 e)[k]?=some u->L[i*5+k]?=some u
theorem Fl.take{L:List Value}{N m cnt:Nat}{e:Ce}(h:Fl L N m e)(hm:m<=N)(hc:cnt<=m)(hN:m+cnt<=N):Fl (splice L (m*5) (L.take (cnt*5))) N (m+cnt) e:=by
 have hl:(L.take (cnt*5)).length=cnt*5:=by rw[bU,h.1];omega
 refine⟨by rw[length_splice _ _ _ (by rw[hl,h.1];omega)];exact h.1,fun i k u hi hu=>?_⟩;have hk:k<5:=(np.1 hu).1;unfold splice;by_cases h1:i<m;·rw[vG (by rw[bU,h.1];omega),iq,if_pos (by omega)];exact h.2 i k u h1 hu
 ·have BU:(L.take (m*5)).length=m*5:=by rw[bU,h.1];omega
  rw[yg (by omega),BU,show i*5+k-m*5=(i-m)*5+k by omega,vG (by omega),iq,if_pos (by omega)];exact h.2 (i-m) k u (by omega) hu
theorem Fl.first{L:List Value}{N:Nat}{e:Ce}(h:L.length=N*5)(hN:1<=N):Fl (splice L 0 (c5 e)) N 1 e:=by
 refine⟨by rw[length_splice _ _ _ (by grind[yU])];exact h,fun i k u hi hu=>?_⟩;have hk:k<5:=(np.1 hu).1;obtain rfl:i=0:=by omega
 unfold splice;grind
theorem Fl.one{L:List Value}{N m:Nat}{e:Ce}(h:Fl L N m e){cnt:Nat}(hc:cnt<=m):∀v∈L.take (cnt*5),v.oneCell'=true:=by
 intro v hv;obtain⟨j,hj⟩:=I8.1 hv;rw[iq]at hj;split at hj
 ·rename_i hj5;have hk:j %5<(c5 e).length:=by rw[yU];omega
  have:=h.2 (j/5) (j %5) _ (by omega) (di hk);rw[show j/5*5+j %5=j by omega,hj]at this;injection this with this;rw[this];have:∀v∈c5 e,v.oneCell'=true:=by intro v hv;simp[c5]at hv;rcases hv with rfl|rfl|rfl|rfl|rfl<;>rfl
  grind
 grind
theorem WY:(prog.info? 47).map (·.size)=some 5:=by kernel_rfl
theorem FY(w:World)(e:Ce)(B N:Nat)(hN:1<=N/\N<=160000)(hB:B<w.heap.size)(hc:∀(k:Nat) u,(c5 e)[k]?=some u->w.cell? (aq B k)=some u):
 Cw 29 #[Sq B 1 1,Iq N] w fun r w'=>r=Rw (Sq w.heap.size N N)/\(∃L,w'.heap[w.heap.size]?=some (.cells L.toArray 47 (0,0))/\Fl L N N e)/\Bt w w':=by
 have MU:Hid (∀w,Cw 50 #[.int .u64 1,.int .u64 N] w fun r w'=>r=Rw (.tuple #[.int .u64 0,.int .u64 N])/\w'=w):=fun w=>by have:=zI 1 N (by omega) (by omega) w;rw[show 1*N/18446744073709551616=0 by omega,show 1*N %18446744073709551616=N by omega]at this;exact this
 obtain⟨i0,hi,dJ,fy,fB⟩:=info_parts O3;obtain⟨Z0,hZl,mw⟩:∃Z0:List Value,Hid (Z0.length=N*5)/\∀W:World,(Instr.makeSlice 42 (Iq (N:Int)) (Iq (N:Int))).run prog W=.ok (Sq W.heap.size N N) (W.alloc (.cells Z0.toArray 47)):=by refine⟨(madeCells (Value.agg #[.string ⟨#[]⟩,Iq 0,Iq 0,Iq 0,Iq 0]).cells (N*5)).toList,(by show _=_;rw[gc,size_madeCells]:_),fun W=>?_⟩;have:=run_make (P:=prog) W 42 47 i0 _ underlying42 hi dJ .i64 .i64 N N (by omega) (lV _) (by grind) (by omega);simp_all
 have HC:Hid (∀(k:Nat) u,(c5 e)[k]?=some u->w.cell? (aq B k)=some u):=hc;have HB:Hid (B<w.heap.size):=hB;clear hc hB hi dJ fy fB;have nN:¬(N:Int)<0:=by omega
 obtain⟨S,hS⟩:=af w.heap.size;have HS:Hid (w.heap.size=S):=hS;go_enter func29,ntmps29;have nb:decide (9223372036854775807<(N:Int))=false:=decide_eq_false (by omega);have zfc:Hid (∀(j:Nat) v,(c5 e)[j]?=some v->(w.alloc (.cells Z0.toArray 47)).cell? (((aq B 0):Addr).add j)=some v):=fun j v hv=>by
  have ea:((aq B 0):Addr).add j=(aq B j):=by unfold Addr.add;split<;>simp_all
  rw[ea];exact(ba (a:=(aq B j)) (((Gr.refl w).alloc _).block HB)).trans (HC j v hv)
 have _9:Hid ((w.alloc (.cells Z0.toArray 47)).heap[S]?=some (.cells Z0.toArray 47 (0,0))):=by rw[<-hS];exact heap_alloc_new _ _
 have zen:Hid (Below S w (w.alloc (.cells Z0.toArray 47))):=by rw[<-hS];exact((Gr.refl w).alloc _).below
 have RI:∀v∈c5 e,v.oneCell'=true:=by intro v hv;simp[c5]at hv;rcases hv with rfl|rfl|rfl|rfl|rfl<;>rfl
 have H1C:Hid (∀v∈c5 e,v.oneCell'=true):=RI;have HF:Hid (0+(c5 e).length<=Z0.length):=(by rw[hZl.out,yU];omega:0+(c5 e).length<=Z0.length);clear RI;obtain⟨w2,Tu,lz,dE⟩:∃w2,(Builtin.copy_ #[42,42] 3 #[Sq S N N,Sq B 1 1]).run prog (w.alloc (.cells Z0.toArray 47))=.ok (goInt 1) w2/\Hid (w2.heap[S]?=some (.cells (splice Z0 0 (c5 e)).toArray 47 (0,0)))/\Hid (Below S w w2):=
  ⟨_,lL (P:=prog) (w.alloc (.cells Z0.toArray 47)) 42 42 3 47 5 S 0 N N (aq B 0) 1 1 Z0 47 (c5 e) 1 underlying42 WY _9 (by grind) rfl zfc HF H1C,setRow_heap _ S _ _ 47 _ _9,below_setRow zen (ae _) _⟩;have HL:Hid (∃L,w2.heap[S]?=some (.cells L.toArray 47 (0,0))/\Fl L N 1 e):=⟨_,lz,Fl.first hZl hN.1⟩;clear lz;go_wp2_with(first|(go_at_call 50;refine ai (MU _) ?_;rintro r w1 ⟨rfl,iO⟩;obtain rfl:=iO.symm));clear hS Tu mw;go_loopw[8] (fun nv wr=>∃m:Nat,1<=m/\m<=N/\nv=Iq m/\Hid (∃L,wr.heap[S]?=some (.cells L.toArray 47 (0,0))/\Fl L N m e)/\Hid (Below S w wr)) (fun nv _=>N-(intOf nv).toNat);case atStart=>exact⟨1,ae _,hN.1,rfl,HL,dE⟩
 case round=>
  obtain⟨m,rj,hm2,rfl,HR,Xh⟩:=hrel;by_cases hlt:m<N
  ·obtain⟨L,hL,hF⟩:=HR.out;have Jn:Hid (wr.heap[S]?=some (.cells L.toArray 47 (0,0))):=hL;have HFF:Hid (Fl L N m e):=hF;obtain⟨cnt,nQ⟩:=af (Nat.min m (N-m));have Z8:cnt<=m/\cnt<=N-m/\1<=cnt:=by have:min m (N-m)=cnt:=nQ;omega
   have HCN:Hid (cnt=Nat.min m (N-m)):=nQ.symm;have VJ:Hid ((L.take (cnt*5)).length=cnt*5):=(by rw[bU,hF.1];omega:(L.take (cnt*5)).length=cnt*5);have HSR:Hid (∀(j:Nat) v,(L.take (cnt*5))[j]?=some v->wr.drew.cell? (((aq S 0):Addr).add j)=some v):=fun j v hv=>by
    have ea:((aq S 0):Addr).add j=(aq S j):=by unfold Addr.add;split<;>simp_all
    rw[ea];rw[iq]at hv;split at hv;·show wr.cell? (aq S j)=some v;simp[World.cell?,hL,hv]
    grind
   obtain⟨cs,iD⟩:=af (L.take (cnt*5));have Ss:Hid (∀v∈cs,v.oneCell'=true):=by rw[<-iD];exact hF.one Z8.1
   have HFI:Hid (Fl (splice L (m*5) cs) N (m+cnt) e):=by rw[<-iD];exact hF.take hm2 Z8.1 (by omega)
   have HLE:Hid (m*5+cs.length<=L.length):=by rw[<-iD];exact(by rw[VJ.out,hF.1];omega:m*5+(L.take (cnt*5)).length<=L.length)
   rw[iD]at VJ HSR;clear iD hL hF HR nQ HL dE;have aR:(m:Int)<(N:Int):=by omega
   have e1:¬N=m:=by omega
   have e2:¬N-m=0:=by omega
   obtain⟨w4,zbt,hg4,HB4⟩:∃w4,(Builtin.copy_ #[42,42] 3 #[.slice (some (aq S (m*5))) (N-m) (N-m),Sq S m N]).run prog wr.drew=.ok (Iq (cnt:Int)) w4/\Hid (w4.heap[S]?=some (.cells (splice L (m*5) cs).toArray 47 (0,0)))/\Hid (Below S w w4):=
    ⟨_,lL (P:=prog) wr.drew 42 42 3 47 5 S (m*5) (N-m) (N-m) (aq S 0) m N L 47 cs cnt underlying42 WY Jn HCN VJ HSR HLE Ss,setRow_heap _ S _ _ 47 _ Jn,below_setRow Xh.drew (ae _) _⟩;have ww:IntKind.i64.wrap ((m:Int)+(cnt:Int))=(m:Int)+(cnt:Int):=by rw[IntKind.wrap_i64];omega
   go_wp2_with fail;go_region;all_goals
    go_wp2;go_roundw;case rel=>exact⟨m+cnt,by omega,by omega,by go_num,⟨_,hg4,HFI⟩,HB4⟩
    case measure=>simp[intOf];omega
  ·have aR:¬(m:Int)<(N:Int):=by omega
   obtain rfl:m=N:=by omega
   go_wp2;go_ret;exact⟨by rw[HS.out];rfl,by rw[HS.out];exact HR,by dsimp only[Bt];rw[HS.out];exact Xh⟩
