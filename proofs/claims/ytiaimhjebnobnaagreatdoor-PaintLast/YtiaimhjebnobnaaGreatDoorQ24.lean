import Derived.Laws.CopyOwn
import Derived.Test.YtiaimhjebnobnaaGreatDoorQ11
import Derived.Shelf.Bits.Mul64
import Derived.Test.YtiaimhjebnobnaaGreatDoorQ23
set_option linter.all false
set_option maxRecDepth 100000
set_option maxHeartbeats 16000000
namespace Go.Proofs.YtiaimhjebnobnaaGreatDoor
open Go.RowKit Go.Sort Go.Proofs.Tryz
theorem Ew{P}  w   dT sT ty elem   s g o zbM zg1   a   zdD zjl   ik   t   cs   n 
 (hu:P.underlying dT=some (.slice elem)) (hs:(P.info? elem).map (·.size)=some s)
 (hg:w.heap[g]?=some (.cells ik.toArray t (0,0))) (hn:n=Nat.min zdD zbM) (pB:cs.length=n*s)
 (Zl:∀j v,cs[j]?=some v->w.cell? (a.add j)=some v) (ro:o+cs.length<=ik.length) (h1:∀v∈cs,v.oneCell'=true):
 (Builtin.copy_ #[dT,sT] ty #[.slice (some (az g o)) zbM zg1,.slice (some a) zdD zjl]).run P w=
  .ok (goInt n) (w.setRow g (splice ik o cs).toArray):=by
 have hl:=run_loadCells_list (P:=P) w a cs Zl;have hst:=run_storeCells_at P g o t cs 0 ik.toArray w hg (by omega) h1;cases hq:P.info? elem with
 |none=>grind
 |some i=>
  have hi:i.size=s:=by simpa[hq]using hs
  rw[pB]at hl;simp[Builtin.copy_,run_underlying hu,Builtin.lenOf,Builtin.firstCells,sizeOf,typeInfo,hq,hi,<-hn,hl,hst,splice]
section
open Go.Shelf
def TG:Go.Shelf.Ren:=⟨fun|212=>68|263=>142|264=>143|n=>n,fun|46=>140|51=>211|53=>214|146=>212|148=>215|n=>n,fun|n=>n⟩
theorem Oc:Go.Proofs.Lays.n212 prog TG:={
 mixed:=by kernel_rfl
 f212:=func68.trans (congrArg some (by kernel_rfl))
 f263:=func142.trans (congrArg some (by kernel_rfl))
 f264:=func143.trans (congrArg some (by kernel_rfl))
 t46:=underlying140
 a46:=isAgg140
 z46:=sizeOf140
 v46:=zeroValue140
 t51:=underlying211
 a51:=isAgg211
 z51:=sizeOf211
 v51:=zeroValue211
 t53:=underlying214
 a53:=isAgg214
 z53:=sizeOf214
 v53:=zeroValue214
 t146:=underlying212
 a146:=isAgg212
 z146:=sizeOf212
 v146:=zeroValue212
 t148:=underlying215
 a148:=isAgg215
 z148:=sizeOf215
 v148:=zeroValue215}
theorem Je(x y:Nat)(hx:x<18446744073709551616)(hy:y<18446744073709551616)  w  :
 Cw 68 #[.int .u64 x,.int .u64 y] w fun e w'=>e=Rw (.tuple #[.int .u64 ((x*y/18446744073709551616:Nat):Int),.int .u64 ((x*y %18446744073709551616:Nat):Int)])/\w'=w:=Any.bits_Mul Oc x y hx hy w
end
def Fh(s:Nat)(L:List Value)(N m:Nat)(es:List Value):Prop:=L.length=N*s/\∀i k u,i<m->es[k]?=some u->L[i*s+k]?=some u
section
variable{s N m cnt:Nat} {L es:List Value}
theorem Fh.take(hs:s=1\/s=4\/s=5)(he:es.length=s)(h:Fh s L N m es)(hm:m<=N)(hc:cnt<=m)(hN:m+cnt<=N):Fh s (splice L (m*s) (L.take (cnt*s))) N (m+cnt) es:=by rcases hs with rfl|rfl|rfl;all_goals obtain⟨h1,h2⟩:=h;refine⟨by rw[length_splice _ _ _ (by grind)];exact h1,fun i k u hi hu=>?_⟩;have hk:=(qM.1 hu).1;have a:=fun q=>h2 i k u q hu;have b:=fun q=>h2 (i-m) k u q hu;unfold splice;rw[List.getElem?_append,List.getElem?_append,cX,cX,zl,zl,h1];grind
theorem Fh.first(hs:s=1\/s=4\/s=5)(he:es.length=s)(h:L.length=N*s)(hN:1<=N):Fh s (splice L 0 es) N 1 es:=by rcases hs with rfl|rfl|rfl;all_goals refine⟨by rw[length_splice _ _ _ (by omega)];exact h,fun i k u hi hu=>?_⟩;unfold splice;grind
theorem Fh.one(hs:s=1\/s=4\/s=5)(he:es.length=s)(h1:∀v∈es,v.oneCell'=true)(h:Fh s L N m es)(hc:cnt<=m):∀v∈L.take (cnt*s),v.oneCell'=true:=by
 intro v hv;obtain⟨j,hj⟩:=RM.1 hv;rw[zl]at hj;have h2:=h.2;rcases hs with rfl|rfl|rfl;·have:=h2 (j/1) (j %1);grind
 ·have:=h2 (j/4) (j %4);grind
 ·have:=h2 (j/5) (j %5);grind
end
abbrev Ws (f:FuncId) (sl el:TypeId) (s:Nat):Prop:=(f=226/\sl=61/\el=3/\s=1)\/(f=112/\sl=127/\el=58/\s=4)\/(f=36/\sl=24/\el=42/\s=5)
theorem Ws.facts{f:FuncId}{sl el:TypeId}{s:Nat}(h:Ws f sl el s):(s=1\/s=4\/s=5)/\prog.underlying sl=some (.slice el)/\∃z b,(prog.info? el).map (fun i=>(i.zero,i.size,i.bytes))=some (some z,s,b)/\b<=48:=by
 rcases h with⟨rfl,rfl,rfl,rfl⟩|⟨rfl,rfl,rfl,rfl⟩|⟨rfl,rfl,rfl,rfl⟩;·exact⟨by omega,underlying61,Iq 0,8,by kernel_rfl,by omega⟩
 ·exact⟨by omega,underlying127,.agg #[Iq 0,Iq 0,Iq 0,Iq 0],32,by kernel_rfl,by omega⟩
 ·exact⟨by omega,underlying24,.agg #[.string ⟨#[]⟩,Iq 0,Iq 0,Iq 0,Iq 0],48,by kernel_rfl,by omega⟩
theorem zbs(B j:Nat):((az B 0):Addr).add j=(az B j):=by unfold Addr.add;split<;>simp_all
section
variable{f:FuncId} {sl el:TypeId} {s:Nat}
theorem Ws.made(hk:Ws f sl el s)(N:Nat)(hN:N<=160000):∃Z:List Value,Hid (Z.length=N*s)/\∀W:World,(Instr.makeSlice sl (Iq (N:Int)) (Iq (N:Int))).run prog W=.ok (Sq W.heap.size N N) (W.alloc (.cells Z.toArray el)):=by obtain⟨hs,hu,z,b,Y6,hb⟩:=hk.facts;obtain⟨i0,hi,eG,fs,gd⟩:=info_parts Y6;refine⟨(madeCells z.cells (N*s)).toList,(by show _=_;rw[fV,size_madeCells]:_),fun W=>?_⟩;have hm:=tc hb hN;have:=run_make (P:=prog) W sl el i0 _ hu hi eG .i64 .i64 N N (by omega) (li _) (by rw[gd];omega) (by omega);rw[fs,lY]at this;rw[Array.toArray_toList];exact this
theorem Ws.copy(hk:Ws f sl el s)(W w0:World)(S off dn dc:Nat)(ad:Addr)(sn sc n:Nat)(L cs:List Value)(hg:W.heap[S]?=some (.cells L.toArray el (0,0)))(hn:n=Nat.min sn dn)(hc:cs.length=n*s)(Zl:∀j v,cs[j]?=some v->W.cell? (ad.add j)=some v)(hf:off+cs.length<=L.length)(h1:∀v∈cs,v.oneCell'=true)(hb:Below S w0 W):
 ∃W',(Builtin.copy_ #[sl,sl] 3 #[.slice (some (az S off)) dn dc,.slice (some ad) sn sc]).run prog W=.ok (goInt n) W'/\W'.heap[S]?=some (.cells (splice L off cs).toArray el (0,0))/\Below S w0 W':=by obtain⟨_,hu,z,b,Y6,_⟩:=hk.facts;obtain⟨i0,hi,_,fs,_⟩:=info_parts Y6;exact⟨_,Ew (P:=prog) W sl sl 3 el s S off dn dc ad sn sc L el cs n hu (by rw[hi,<-fs];rfl) hg hn hc Zl hf h1,setRow_heap _ S _ _ el _ hg,below_setRow hb (ai _) _⟩
theorem AQ(hk:Ws f sl el s)(w:World)(es:List Value)(O2:es.length=s)(YG:∀v∈es,v.oneCell'=true)(B N:Nat)(hN:1<=N/\N<=160000)(hB:B<w.heap.size)(hc:∀(k:Nat) u,es[k]?=some u->w.cell? (az B k)=some u):
 Cw f #[Sq B 1 1,Iq N] w fun r w'=>r=Rw (Sq w.heap.size N N)/\(∃L,w'.heap[w.heap.size]?=some (.cells L.toArray el (0,0))/\Fh s L N N es)/\Bt w w':=by
 have MU:Hid (∀w,Cw 68 #[.int .u64 1,.int .u64 N] w fun r w'=>r=Rw (.tuple #[.int .u64 0,.int .u64 N])/\w'=w):=fun w=>by have:=Je 1 N (by omega) (by omega) w;rw[show 1*N/18446744073709551616=0 by omega,show 1*N %18446744073709551616=N by omega]at this;exact this
 have hs:=hk.facts.1;obtain⟨Z,hZ,iU⟩:=hk.made N hN.2;obtain⟨S,hS⟩:=ag w.heap.size;obtain⟨Q,hQ⟩:∃Q:World->Nat->Prop,(fun wr m=>∃L,wr.heap[S]?=some (.cells L.toArray el (0,0))/\Fh s L N m es)=Q:=⟨_,rfl⟩;obtain⟨w2,hcp,HL,hb2⟩:∃w2,(Builtin.copy_ #[sl,sl] 3 #[Sq S N N,Sq B 1 1]).run prog (w.alloc (.cells Z.toArray el))=.ok (goInt 1) w2/\Hid (Q w2 1)/\Hid (Below S w w2):=by obtain⟨w2,q1,q2,q3⟩:=hk.copy (w.alloc (.cells Z.toArray el)) w S 0 N N (az B 0) 1 1 1 Z es (by rw[<-hS];exact heap_alloc_new _ _) (by show 1=min 1 N;omega) (by omega) (fun j v hv=>by rw[zbs];exact(bU (a:=(az B j)) (((Gr.refl w).alloc _).block hB)).trans (hc j v hv)) (by rw[hZ.out,O2];rcases hs with rfl|rfl|rfl<;>omega) YG (by rw[<-hS];exact((Gr.refl w).alloc _).below);exact⟨w2,q1,by rw[<-hQ];exact⟨_,q2,Fh.first hs O2 hZ hN.1⟩,q3⟩
 have HST:Hid (∀wr (m:Nat),Q wr m->Below S w wr->1<=m->m<N->∃(cnt:Nat) (w4:World),(1<=cnt/\m+cnt<=N)/\(Builtin.copy_ #[sl,sl] 3 #[.slice (some (az S (m*s))) (N-m) (N-m),Sq S m N]).run prog wr.drew=.ok (Iq (cnt:Int)) w4/\Q w4 (m+cnt)/\Below S w w4):=fun wr m hq Sw og hlt=>by
  rw[<-hQ]at hq⊢;obtain⟨L,hL,hF⟩:=hq;obtain⟨cnt,vk⟩:=ag (min m (N-m));have WY:(L.take (cnt*s)).length=cnt*s:=by rw[cX,hF.1];rcases hs with rfl|rfl|rfl<;>omega
  obtain⟨w4,q1,q2,q3⟩:=hk.copy wr.drew w S (m*s) (N-m) (N-m) (az S 0) m N cnt L (L.take (cnt*s)) hL vk.symm WY (fun j v hv=>by
   rw[zbs];rw[zl]at hv;split at hv;·show wr.cell? (az S j)=some v;simp[World.cell?,hL,hv]
   ·cases hv) (by rw[WY,hF.1];rcases hs with rfl|rfl|rfl<;>omega) (Fh.one hs O2 YG hF (by omega)) Sw.drew;exact⟨cnt,w4,by omega,q1,⟨_,q2,Fh.take hs O2 hF (by omega) (by omega) (by omega)⟩,q3⟩
 have HQ:=qH hQ;have HS:=qH hS;have nN:¬(N:Int)<0:=by omega
 have nb:decide (9223372036854775807<(N:Int))=false:=decide_eq_false (by omega);clear hc hB O2 YG hQ hs hZ;rcases hk with⟨rfl,rfl,rfl,rfl⟩|⟨rfl,rfl,rfl,rfl⟩|⟨rfl,rfl,rfl,rfl⟩;all_goals
  first
   |go_enter func226,ntmps226
   |go_enter func112,ntmps112
   |go_enter func36,ntmps36
  go_wp2_with(first|(go_at_call 68;refine ao (MU _) ?_;rintro r w1 ⟨rfl,eQ⟩;obtain rfl:=eQ.symm));clear hS hcp iU;go_loopw[8] (fun nv wr=>∃m:Nat,1<=m/\m<=N/\nv=Iq m/\Hid (Q wr m)/\Hid (Below S w wr)) (fun nv _=>N-(intOf nv).toNat);case atStart=>exact⟨1,ai _,hN.1,rfl,HL,hb2⟩
  case round=>
   obtain⟨m,og,hm2,rfl,HR,HBR⟩:=hrel;by_cases hlt:m<N
   ·obtain⟨cnt,w4,hcn,zhN,hq4,MI⟩:=HST wr m HR HBR og hlt;have Tk:=qH hq4;have HB4:=qH MI;try rw[Nat.mul_one]at zhN
    clear hq4 MI;have aN:(m:Int)<(N:Int):=by omega
    have e1:¬N=m:=by omega
    have e2:¬N-m=0:=by omega
    have ww:IntKind.i64.wrap ((m:Int)+(cnt:Int))=(m:Int)+(cnt:Int):=by rw[RN];omega
    go_wp2_with fail;go_region;all_goals
     go_wp2;go_roundw;case rel=>exact⟨m+cnt,by omega,by omega,by go_num,Tk,HB4⟩
     case measure=>simp[intOf];omega
   ·have aN:¬(m:Int)<(N:Int):=by omega
    obtain rfl:m=N:=by omega
    go_wp2;go_ret;have hr:=HR.out;rw[<-HQ.out]at hr;exact⟨by rw[HS.out];rfl,by rw[HS.out];exact hr,by have:=HS.out;subst this;exact HBR⟩
theorem Ep(hk:Ws f sl el s)(w:World)(B:Nat):
 Cw f #[Sq B 1 1,Iq 0] w fun r w'=>∃p c,r=Rw (.slice p 0 c)/\Bt w w':=by
 have MU:Hid (∀w,Cw 68 #[.int .u64 1,.int .u64 0] w fun r w'=>r=Rw (.tuple #[.int .u64 0,.int .u64 0])/\w'=w):=fun w=>Je 1 0 (by omega) (by omega) w;obtain⟨Z,hZ,iU⟩:=hk.made 0 (by omega);rw[show((0:Nat):Int)=0 from rfl]at iU;obtain⟨S,hS⟩:=ag w.heap.size;obtain⟨w2,hcp,hb2⟩:∃w2,(Builtin.copy_ #[sl,sl] 3 #[Sq S 0 0,Sq B 1 1]).run prog (w.alloc (.cells Z.toArray el))=.ok (Iq 0) w2/\Hid (Below S w w2):=by obtain⟨w2,q1,_,q3⟩:=hk.copy (w.alloc (.cells Z.toArray el)) w S 0 0 0 (az B 0) 1 1 0 Z [] (by rw[<-hS];exact heap_alloc_new _ _) rfl (by rw[Nat.zero_mul];rfl) (fun j v hv=>by cases hv) (aZ _) (fun v hv=>by cases hv) (by rw[<-hS];exact((Gr.refl w).alloc _).below);exact⟨w2,q1,q3⟩
 have HS:=qH hS;clear hZ;rcases hk with⟨rfl,rfl,rfl,rfl⟩|⟨rfl,rfl,rfl,rfl⟩|⟨rfl,rfl,rfl,rfl⟩;all_goals
  first
   |go_enter func226,ntmps226
   |go_enter func112,ntmps112
   |go_enter func36,ntmps36
  go_wp2_with(first|(go_at_call 68;refine ao (MU _) ?_;rintro r w1 ⟨rfl,eQ⟩;obtain rfl:=eQ.symm));clear hS hcp iU;go_loopw[8] (fun nv wr=>nv=Iq 0/\Hid (Below S w wr)) (fun nv _=>0);case atStart=>exact⟨rfl,hb2⟩
  case round=>obtain⟨rfl,HBR⟩:=hrel;go_wp2;go_ret;exact⟨_,_,rfl,by have:=HS.out;subst this;exact HBR⟩
end
theorem Cv.below{T}{Q Q'}{M W H}{c}(h:Cv T Q M W H c)(g:Bt Q Q'):Cv T Q' M W H c:=h.keep (g.block M h.lt)
theorem CS.below{TK T}{Q Q'}{K M cap W H}{c}(h:CS TK T Q K M cap W H c)(g:Bt Q Q'):CS TK T Q' K M cap W H c:=⟨(g.block K h.klt).trans h.kb,h.cv.below g,h.ne,h.hc⟩
theorem On{T:TypeId}{Q:World}{M W H:Nat}{e:Ce}{L:List Value}(h:Q.heap[M]?=some (.cells L.toArray T (0,0)))(hf:Fh 5 L (W*H) (W*H) (c5 e)):Cv T Q M W H (fun _ _=>e):=by
 refine⟨⟨_,h⟩,fun y x hy hx k u hu=>?_⟩;have hi:y*W+x<W*H:=by have:(y+1)*W<=H*W:=sW _ (by omega);rw[sX]at this;rw[s_ W H];omega
 have:=hf.2 (y*W+x) k u hi hu;rw[show(y*W+x)*5+k=y*W*5+x*5+k by omega]at this;simp[World.cell?,h,this]
theorem QE{T}{Q}{b}{e}(h:R5 T Q b e)  k   u  (hu:(c5 e)[k]?=some u):Q.cell? (az b k)=some u:=by
 unfold R5 at h;have:(#[.string e.t,Iq e.f,Iq e.g,Iq e.b,Iq e.p]:Array Value)[k]?=some u:=by rw[<-hu];unfold c5;simp
 simp[World.cell?,h,this]
theorem ZQ(W H:Nat)(w:World)(hW:1<=W/\W<=400)(hH:1<=H/\H<=400):Cw 15 #[Iq W,Iq H] w fun e w'=>∃K M,e=Rw (.tuple #[Pq K,Iq 0])/\CS 100 42 w' K M (W*H) W H (fun _ _=>bk 0 0 0)/\w.heap.size<=K/\w.heap.size<=M/\Bt w w':=by
 have SD:Hid (∀n w,Cw 35 #[Iq n] w fun e w'=>e=Rw (.bool (decide (1<=n/\n<=400)))/\w'=w):=QU;have S1:=SD W;have S2:=SD H;rw[decide_eq_true (by omega)]at S1 S2;have BL:Hid (∀w,Cw 37 #[sv 0 0 0] w fun e w'=>e=Rw (TF (bk 0 0 0))/\Gr w w'):=oR 0 0 0;obtain⟨e,he⟩:=ag (bk 0 0 0);rw[he]at BL⊢;unfold sv TF at BL;obtain⟨n,hn⟩:=ag (W*H);have nb:1<=n/\n<=160000:=by rw[<-hn];exact⟨tc hW.1 hH.1,tc hW.2 hH.2⟩
 have e1:(W:Int)*(H:Int)=(n:Int):=by rw[<-hn];simp
 have HN:Hid (W*H=n):=hn;rw[hn];clear hn he;go_enter func15,ntmps15;go_wp2_with fail;refine ao (S1 _) ?_;rintro e1 w1 ⟨rfl,eQ⟩;obtain rfl:=eQ.symm;go_wp2_with fail;refine ao (S2 _) ?_;rintro e2 w2 ⟨rfl,vt⟩;obtain rfl:=vt.symm;go_wp2_with fail;refine ao (BL _) ?_;rintro e3 w3 ⟨rfl,g3⟩;have G3:Hid (Gr w w3):=g3;clear g3;have B0:Hid (R5 42 (w3.alloc (.cells #[.string e.t,Iq e.f,Iq e.g,Iq e.b,Iq e.p] 42)) w3.heap.size e):=R5.new w3 e _;go_wp2_with fail;refine ao (AQ (.inr (.inr ⟨rfl,rfl,rfl,rfl⟩)) _ (c5 e) rfl (by simp[c5,Value.oneCell']) w3.heap.size n nb B0.lt (QE B0)) ?_;rintro e4 w4 ⟨rfl,⟨L,hL,hF⟩,b4⟩;have HL:Hid (w4.heap[w3.heap.size+1]?=some (.cells L.toArray 42 (0,0))/\Fh 5 L n n (c5 e)/\Below (w3.heap.size+1) (w3.alloc (.cells #[.string e.t,Iq e.f,Iq e.g,Iq e.b,Iq e.p] 42)) w4):=by simp only[aI]at hL;exact⟨hL,hF,b4.mono (by simp)⟩
 clear hL hF b4;simp only[aI];obtain⟨M,hM⟩:=ag (w3.heap.size+1);rw[hM]at HL;rw[hM];have HM:Hid (w3.heap.size+1=M):=hM;clear hM;go_wp2;go_ret2;refine⟨w4.heap.size,M,rfl,?_,?_,?_,?_⟩
 ·have hlt:=(aM.1 HL.1).1;refine⟨?_,?_,by omega,by omega⟩;·rw[HN.out];exact heap_alloc_new _ _
  ·refine Cv.gr ?_ ((Gr.refl w4).alloc _);refine On HL.1 ?_;rw[HN.out];exact HL.2.1
 ·have:=G3.size;have:=HL.2.2.size;simp only[aI]at this;omega
 ·have:=G3.size;have:=HM.out;omega
 ·have hz:=G3.size;have b1:Bt w (w3.alloc (.cells #[.string e.t,Iq e.f,Iq e.g,Iq e.b,Iq e.p] 42)):=(G3.alloc _).below;have b2:=b1.trans (HL.2.2.mono (by have:=HM.out;omega));exact b2.alloc (by have:=HL.2.2.size;simp only[aI]at this;omega) _
def SR(c:Nat->Nat->Ce)(W:Nat):Nat->List Value
 |0=>[]
 |n+1=>SR c W n++c5 (c (n/W) (n %W))
theorem qc  c   W n  :(SR c W n).length=n*5:=by
 induction n with
 |zero=>rfl
 |succ n ih=>grind[SR,Yr]
theorem ui  c   W  :∀n i k,i<n->k<5->(SR c W n)[i*5+k]?=(c5 (c (i/W) (i %W)))[k]?
 |0,i,k,hi,hk=>absurd hi (by omega)
 |n+1,i,k,hi,hk=>by
  rw[SR];by_cases h:i<n;·rw[XH (by rw[qc];omega)];exact ui c W n i k h hk
  grind[qc]
theorem U_  c   W n  :∀v∈SR c W n,v.oneCell'=true:=by
 intro v hv;obtain⟨j,hj⟩:=RM.1 hv;have hl:j<n*5:=by rw[<-qc c W n];exact(qM.1 hj).1
 have:=ui c W n (j/5) (j %5) (by omega) (by omega);rw[show j/5*5+j %5=j by omega,hj]at this;have hm:=RO this.symm;simp[c5]at hm;rcases hm with rfl|rfl|rfl|rfl|rfl<;>rfl
theorem Yx{i W H:Nat}(h:i<W*H):i/W<H:=Nat.div_lt_of_lt_mul h
theorem zbp{i W H}(h:i<W*H):0<W:=by grind
theorem U9  i W  :i/W*W*5+i %W*5=i*5:=by have:=Nat.div_add_mod i W;grind
theorem Yu{T}{Q}{M W H}{c}(h:Cv T Q M W H c)  j   v  (hj:(SR c W (W*H))[j]?=some v):Q.cell? (((az M 0):Addr).add j)=some v:=by
 have ea:((az M 0):Addr).add j=(az M j):=by unfold Addr.add;split<;>simp_all
 have hl:j<W*H*5:=by rw[<-qc c W (W*H)];exact(qM.1 hj).1
 have hi:j/5<W*H:=by omega
 have hg:=ui c W (W*H) (j/5) (j %5) hi (by omega);rw[show j/5*5+j %5=j by omega,hj]at hg;have:=h.cell (j/5/W) (j/5 %W) (Yx hi) (Nat.mod_lt _ (zbp hi)) (j %5) v hg.symm;grind[U9]
theorem Yv{T}{Q}{B W H}{c}{v}(h:Q.ownsRow B T 5 v (W*H) (SR c W (W*H)))(hp:0<W*H):∃N cap,v=Sq N (W*H) cap/\B<=N/\Cv T Q N W H c/\W*H<=cap/\cap<=9223372036854775807:=by
 rcases h.2 with⟨_,h0⟩|⟨g,cap,ik,hv,hb,hg,k1,k2,_⟩;·omega
 ·refine⟨g,cap,hv,hb,⟨⟨_,hg⟩,fun y x hy hx k u hu=>?_⟩,k1,k2⟩;have hk:k<5:=(qM.1 hu).1;have hi:y*W+x<W*H:=by have:(y+1)*W<=H*W:=sW _ (by omega);rw[sX]at this;rw[s_ W H];omega
  have Xk:(y*W+x)/W=y:=by rw[s_,Ry (by omega),Rz hx,w_]
  have hx':(y*W+x) %W=x:=by rw[s_,Nat.mul_add_mod,Nat.mod_eq_of_lt hx]
  have hl:=ui c W (W*H) (y*W+x) k hi hk;rw[Xk,hx',hu]at hl;have:=h.cells (g:=g) (by rw[hv];rfl) _ _ hl;have ea:((az g 0):Addr).add ((y*W+x)*5+k)=(az g (y*W*5+x*5+k)):=by rw[sX];unfold Addr.add;split<;>simp_all
  grind
theorem zdo:(prog.info? 42).map (fun i=>(i.zero,i.size,i.bytes))=some (some (.agg #[.string ⟨#[]⟩,Iq 0,Iq 0,Iq 0,Iq 0]),5,48):=by kernel_rfl
section
variable{K M cap W H:Nat} {c:Nat->Nat->Ce}
theorem Kj(w:World)(h:Cv 42 w M W H c)(hW:1<=W/\W<=400)(hH:1<=H/\H<=400):Cw 42 #[Sq M (W*H) cap] w fun e w'=>∃N dD,e=Rw (Sq N (W*H) dD)/\Cv 42 w' N W H c/\w.heap.size<=N/\Bt w w'/\W*H<=dD/\dD<=9223372036854775807:=by
 obtain⟨i0,hi,eG,fs,gd⟩:=info_parts zdo;obtain⟨n,hn⟩:=ag (W*H);have nb:1<=n/\n<=160000:=by rw[<-hn];exact⟨tc hW.1 hH.1,tc hW.2 hH.2⟩
 have HN:Hid (W*H=n):=hn;have HV:Hid (Cv 42 w M W H c):=h;obtain⟨L,hL⟩:=ag (SR c W n);have HL:Hid (SR c W (W*H)=L):=by show _=_;rw[hn];exact hL
 have zf3:Hid (L.length=n*5):=by rw[<-hL];exact qc c W n
 have zgg:Hid (∀v∈L,v.oneCell'=true):=by rw[<-hL];exact U_ c W n
 rw[hn];clear h hn hL;have ML:=HV.lt;have qs:∀(w:World) (a:Option Addr) (n c n' c':Nat),(binOp .eql 24 (.slice a n c) (.slice none n' c')).run prog w=.ok (.bool a.isNone) w:=fun w a n c n' c'=>Lib.run_eql_slice_nil w _ _ a n c n' c' underlying24;have zaH:Hid (∀(j:Nat) u,L[j]?=some u->(w.alloc (.cells #[] 42)).cell? (((az M 0):Addr).add j)=some u):=fun j u hj=>by rw[<-HL.out]at hj;exact Yu (HV.gr ((Gr.refl w).alloc _)) j u hj
 go_enter func42,ntmps42;go_wp2_with(at_builtin;refine wpList_append_own _ rfl _ _ 24 rfl w.heap.size 42 i0 (.agg #[.string ⟨#[]⟩,Iq 0,Iq 0,Iq 0,Iq 0]) 5 48 underlying24 hi eG fs gd rfl (by decide) _ _ _ rfl (World.ownsRow_made w #[] 0 (ai _) (aZ _) rfl) (az M 0) n cap L rfl zf3 zaH zgg (by unfold maxLen;omega) (by omega) (by simp) ?_);intro v' w1 bu oz ziz;have HO:Hid (w1.ownsRow w.heap.size 42 5 v' n L):=bu;have HG:Hid (Bt w w1):=((aj _ w).alloc (ai _) _).grown oz (by simp) (by intro k hk;simp[Value.ownBlock]at hk;omega);clear bu oz ziz;go_wp2;go_ret;have hO:=HO.out;rw[<-HN.out,<-HL.out]at hO;obtain⟨N,dD,hv,hb,OY,k1,k2⟩:=Yv hO (by rw[HN.out];omega);exact⟨N,dD,by rw[<-HN.out];simp_all,OY,hb,HG,by rw[<-HN.out];exact k1,k2⟩
theorem yp(w:World)(h:CS 100 42 w K M cap W H c)(hW:1<=W/\W<=400)(hH:1<=H/\H<=400):Cw 18 #[Pq K] w fun e w'=>∃N dD,e=Rw (Sq N (W*H) dD)/\Cv 42 w' N W H c/\w.heap.size<=N/\Bt w w'/\W*H<=dD/\dD<=9223372036854775807:=by have CL:Hid (Cw 42 #[Sq M (W*H) cap] w fun e w'=>∃N dD,e=Rw (Sq N (W*H) dD)/\Cv 42 w' N W H c/\w.heap.size<=N/\Bt w w'/\W*H<=dD/\dD<=9223372036854775807):=Kj w h.cv hW hH;have k2:=h.k2;obtain⟨n,hn⟩:=ag (W*H);rw[hn]at CL k2⊢;clear h hn;go_enter func18,ntmps18;go_wp2_with fail;refine ao CL ?_;rintro e w1 ⟨N,dD,rfl,h1,h2,h3⟩;have HH:Hid (Cv 42 w1 N W H c/\w.heap.size<=N/\Bt w w1/\n<=dD/\dD<=9223372036854775807):=⟨h1,h2,h3⟩;clear h1 h2 h3;go_wp2;go_ret;exact⟨N,dD,rfl,HH⟩
theorem _R(w:World)(h:CS 100 42 w K M cap W H c)(hW:1<=W/\W<=400)(hH:1<=H/\H<=400):Cw 18 #[Pq K] w fun e w'=>∃N dD,e=Rw (Sq N (W*H) dD)/\Cv 42 w' N W H c/\w.heap.size<=N/\Bt w w':=(yp w h hW hH).mono fun e w' ⟨N,dD,h0,h1,h2,h3,_⟩=>⟨N,dD,h0,h1,h2,h3⟩
end
