import Derived.Laws.CopyOwn
import Derived.Test.YtbeiapdobffpiaaGreatDoorQ17
import Derived.Shelf.Bits.Mul64
import Derived.Test.YtbeiapdobffpiaaGreatDoorQ19
set_option linter.all false
set_option maxRecDepth 100000
set_option maxHeartbeats 16000000
namespace Go.Proofs.YtbeiapdobffpiaaGreatDoor
open Go.RowKit Go.Sort Go.Proofs.Tryz
theorem Al{P}  w   dT sT ty elem   s g o Wz zaT   a   Yq zdp   iT   t   cs   n 
 (hu:P.underlying dT=some (.slice elem)) (hs:(P.info? elem).map (·.size)=some s)
 (hg:w.heap[g]?=some (.cells iT.toArray t (0,0))) (hn:n=Nat.min Yq Wz) (qB:cs.length=n*s)
 (Tl:∀j v,cs[j]?=some v->w.cell? (a.add j)=some v) (rZ:o+cs.length<=iT.length) (h1:∀v∈cs,v.oneCell'=true):
 (Builtin.copy_ #[dT,sT] ty #[.slice (some (az g o)) Wz zaT,.slice (some a) Yq zdp]).run P w=
  .ok (goInt n) (w.setRow g (splice iT o cs).toArray):=by
 have hl:=run_loadCells_list (P:=P) w a cs Tl;have hst:=run_storeCells_at P g o t cs 0 iT.toArray w hg (by omega) h1;cases hq:P.info? elem with
 |none=>grind
 |some i=>
  have hi:i.size=s:=by simpa[hq]using hs
  rw[qB]at hl;simp[Builtin.copy_,run_underlying hu,Builtin.lenOf,Builtin.firstCells,sizeOf,typeInfo,hq,hi,<-hn,hl,hst,splice]
section
open Go.Shelf
def N2:Go.Shelf.Ren:=⟨fun|212=>142|263=>180|264=>181|n=>n,fun|46=>166|51=>250|53=>252|146=>280|148=>282|n=>n,fun|n=>n⟩
theorem Jy:Go.Proofs.Lays.n212 prog N2:={
 mixed:=by kernel_rfl
 f212:=func142.trans (congrArg some (by kernel_rfl))
 f263:=func180.trans (congrArg some (by kernel_rfl))
 f264:=func181.trans (congrArg some (by kernel_rfl))
 t46:=underlying166
 a46:=isAgg166
 z46:=sizeOf166
 v46:=zeroValue166
 t51:=underlying250
 a51:=isAgg250
 z51:=sizeOf250
 v51:=zeroValue250
 t53:=underlying252
 a53:=isAgg252
 z53:=sizeOf252
 v53:=zeroValue252
 t146:=underlying280
 a146:=isAgg280
 z146:=sizeOf280
 v146:=zeroValue280
 t148:=underlying282
 a148:=isAgg282
 z148:=sizeOf282
 v148:=zeroValue282}
theorem EM(x y:Nat)(hx:x<18446744073709551616)(hy:y<18446744073709551616)  w  :
 Cw 142 #[.int .u64 x,.int .u64 y] w fun e w'=>e=Rw (.tuple #[.int .u64 ((x*y/18446744073709551616:Nat):Int),.int .u64 ((x*y %18446744073709551616:Nat):Int)])/\w'=w:=Any.bits_Mul Jy x y hx hy w
end
def DX(s:Nat)(L:List Value)(N m:Nat)(es:List Value):Prop:=L.length=N*s/\∀i k u,i<m->es[k]?=some u->L[i*s+k]?=some u
section
variable{s N m cnt:Nat} {L es:List Value}
theorem DX.take(hs:s=1\/s=4\/s=5)(he:es.length=s)(h:DX s L N m es)(hm:m<=N)(hc:cnt<=m)(hN:m+cnt<=N):DX s (splice L (m*s) (L.take (cnt*s))) N (m+cnt) es:=by rcases hs with rfl|rfl|rfl;all_goals obtain⟨h1,h2⟩:=h;refine⟨by rw[length_splice _ _ _ (by grind)];exact h1,fun i k u hi hu=>?_⟩;have hk:=(Bd.1 hu).1;have a:=fun q=>h2 i k u q hu;have b:=fun q=>h2 (i-m) k u q hu;unfold splice;rw[List.getElem?_append,List.getElem?_append,cX,cX,vA,vA,h1];grind
theorem DX.first(hs:s=1\/s=4\/s=5)(he:es.length=s)(h:L.length=N*s)(hN:1<=N):DX s (splice L 0 es) N 1 es:=by rcases hs with rfl|rfl|rfl;all_goals refine⟨by rw[length_splice _ _ _ (by omega)];exact h,fun i k u hi hu=>?_⟩;unfold splice;grind
theorem DX.one(hs:s=1\/s=4\/s=5)(he:es.length=s)(h1:∀v∈es,v.oneCell'=true)(h:DX s L N m es)(hc:cnt<=m):∀v∈L.take (cnt*s),v.oneCell'=true:=by
 intro v hv;obtain⟨j,hj⟩:=List.mem_iff_getElem?.1 hv;rw[vA]at hj;have h2:=h.2;rcases hs with rfl|rfl|rfl;·have:=h2 (j/1) (j %1);grind
 ·have:=h2 (j/4) (j %4);grind
 ·have:=h2 (j/5) (j %5);grind
end
abbrev Qw (f:FuncId) (sl el:TypeId) (s:Nat):Prop:=(f=206/\sl=98/\el=3/\s=1)\/(f=108/\sl=146/\el=74/\s=4)\/(f=108/\sl=146/\el=74/\s=4)
theorem Qw.facts{f:FuncId}{sl el:TypeId}{s:Nat}(h:Qw f sl el s):(s=1\/s=4\/s=5)/\prog.underlying sl=some (.slice el)/\∃z b,(prog.info? el).map (fun i=>(i.zero,i.size,i.bytes))=some (some z,s,b)/\b<=48:=by
 rcases h with⟨rfl,rfl,rfl,rfl⟩|⟨rfl,rfl,rfl,rfl⟩|⟨rfl,rfl,rfl,rfl⟩;·exact⟨by omega,underlying98,Iq 0,8,by kernel_rfl,by omega⟩
 ·exact⟨by omega,underlying146,.agg #[Iq 0,Iq 0,Iq 0,Iq 0],32,by kernel_rfl,by omega⟩
 ·exact⟨by omega,underlying146,.agg #[Iq 0,Iq 0,Iq 0,Iq 0],32,by kernel_rfl,by omega⟩
theorem Wk(B j:Nat):((az B 0):Addr).add j=(az B j):=by unfold Addr.add;split<;>simp_all
section
variable{f:FuncId} {sl el:TypeId} {s:Nat}
theorem Qw.made(hk:Qw f sl el s)(N:Nat)(hN:N<=160000):∃Z:List Value,Hid (Z.length=N*s)/\∀W:World,(Instr.makeSlice sl (Iq (N:Int)) (Iq (N:Int))).run prog W=.ok (Sq W.heap.size N N) (W.alloc (.cells Z.toArray el)):=by obtain⟨hs,hu,z,b,S4,hb⟩:=hk.facts;obtain⟨i0,hi,eK,fZ,iD⟩:=info_parts S4;refine⟨(madeCells z.cells (N*s)).toList,(by show _=_;rw[j9,size_madeCells]:_),fun W=>?_⟩;have hm:=Fj hb hN;have:=run_make (P:=prog) W sl el i0 _ hu hi eK .i64 .i64 N N (by omega) (jL _) (by rw[iD];omega) (by omega);rw[fZ,oy]at this;rw[Array.toArray_toList];exact this
theorem Qw.copy(hk:Qw f sl el s)(W w0:World)(S off dn dc:Nat)(ad:Addr)(sn sc n:Nat)(L cs:List Value)(hg:W.heap[S]?=some (.cells L.toArray el (0,0)))(hn:n=Nat.min sn dn)(hc:cs.length=n*s)(Tl:∀j v,cs[j]?=some v->W.cell? (ad.add j)=some v)(hf:off+cs.length<=L.length)(h1:∀v∈cs,v.oneCell'=true)(hb:Below S w0 W):
 ∃W',(Builtin.copy_ #[sl,sl] 3 #[.slice (some (az S off)) dn dc,.slice (some ad) sn sc]).run prog W=.ok (goInt n) W'/\W'.heap[S]?=some (.cells (splice L off cs).toArray el (0,0))/\Below S w0 W':=by obtain⟨_,hu,z,b,S4,_⟩:=hk.facts;obtain⟨i0,hi,_,fZ,_⟩:=info_parts S4;exact⟨_,Al (P:=prog) W sl sl 3 el s S off dn dc ad sn sc L el cs n hu (by rw[hi,<-fZ];rfl) hg hn hc Tl hf h1,setRow_heap _ S _ _ el _ hg,below_setRow hb (ai _) _⟩
theorem EZ(hk:Qw f sl el s)(w:World)(es:List Value)(MV:es.length=s)(WL:∀v∈es,v.oneCell'=true)(B N:Nat)(hN:1<=N/\N<=160000)(hB:B<w.heap.size)(hc:∀(k:Nat) u,es[k]?=some u->w.cell? (az B k)=some u):
 Cw f #[Sq B 1 1,Iq N] w fun r w'=>r=Rw (Sq w.heap.size N N)/\(∃L,w'.heap[w.heap.size]?=some (.cells L.toArray el (0,0))/\DX s L N N es)/\Bt w w':=by
 have MU:Hid (∀w,Cw 142 #[.int .u64 1,.int .u64 N] w fun r w'=>r=Rw (.tuple #[.int .u64 0,.int .u64 N])/\w'=w):=fun w=>by have:=EM 1 N (by omega) (by omega) w;rw[show 1*N/18446744073709551616=0 by omega,show 1*N %18446744073709551616=N by omega]at this;exact this
 have hs:=hk.facts.1;obtain⟨Z,hZ,gR⟩:=hk.made N hN.2;obtain⟨S,hS⟩:=aj w.heap.size;obtain⟨Q,hQ⟩:∃Q:World->Nat->Prop,(fun wr m=>∃L,wr.heap[S]?=some (.cells L.toArray el (0,0))/\DX s L N m es)=Q:=⟨_,rfl⟩;obtain⟨w2,hcp,HL,hb2⟩:∃w2,(Builtin.copy_ #[sl,sl] 3 #[Sq S N N,Sq B 1 1]).run prog (w.alloc (.cells Z.toArray el))=.ok (goInt 1) w2/\Hid (Q w2 1)/\Hid (Below S w w2):=by obtain⟨w2,q1,q2,q3⟩:=hk.copy (w.alloc (.cells Z.toArray el)) w S 0 N N (az B 0) 1 1 1 Z es (by rw[<-hS];exact heap_alloc_new _ _) (by show 1=min 1 N;omega) (by omega) (fun j v hv=>by rw[Wk];exact(bU (a:=(az B j)) (((Gr.refl w).alloc _).block hB)).trans (hc j v hv)) (by rw[hZ.out,MV];rcases hs with rfl|rfl|rfl<;>omega) WL (by rw[<-hS];exact((Gr.refl w).alloc _).below);exact⟨w2,q1,by rw[<-hQ];exact⟨_,q2,DX.first hs MV hZ hN.1⟩,q3⟩
 have HST:Hid (∀wr (m:Nat),Q wr m->Below S w wr->1<=m->m<N->∃(cnt:Nat) (w4:World),(1<=cnt/\m+cnt<=N)/\(Builtin.copy_ #[sl,sl] 3 #[.slice (some (az S (m*s))) (N-m) (N-m),Sq S m N]).run prog wr.drew=.ok (Iq (cnt:Int)) w4/\Q w4 (m+cnt)/\Below S w w4):=fun wr m hq hbr kI hlt=>by
  rw[<-hQ]at hq⊢;obtain⟨L,hL,hF⟩:=hq;obtain⟨cnt,kH⟩:=aj (min m (N-m));have QU:(L.take (cnt*s)).length=cnt*s:=by rw[cX,hF.1];rcases hs with rfl|rfl|rfl<;>omega
  obtain⟨w4,q1,q2,q3⟩:=hk.copy wr.drew w S (m*s) (N-m) (N-m) (az S 0) m N cnt L (L.take (cnt*s)) hL kH.symm QU (fun j v hv=>by
   rw[Wk];rw[vA]at hv;split at hv;·show wr.cell? (az S j)=some v;simp[World.cell?,hL,hv]
   ·cases hv) (by rw[QU,hF.1];rcases hs with rfl|rfl|rfl<;>omega) (DX.one hs MV WL hF (by omega)) hbr.drew;exact⟨cnt,w4,by omega,q1,⟨_,q2,DX.take hs MV hF (by omega) (by omega) (by omega)⟩,q3⟩
 have HQ:=qH hQ;have HS:=qH hS;have nN:¬(N:Int)<0:=by omega
 have nb:decide (9223372036854775807<(N:Int))=false:=decide_eq_false (by omega);clear hc hB MV WL hQ hs hZ;rcases hk with⟨rfl,rfl,rfl,rfl⟩|⟨rfl,rfl,rfl,rfl⟩|⟨rfl,rfl,rfl,rfl⟩;all_goals
  first
   |go_enter func206,ntmps206
   |go_enter func108,ntmps108
  go_wp2_with(first|(go_at_call 142;refine am (MU _) ?_;rintro r w1 ⟨rfl,eu⟩;obtain rfl:=eu.symm));clear hS hcp gR;go_loopw[8] (fun nv wr=>∃m:Nat,1<=m/\m<=N/\nv=Iq m/\Hid (Q wr m)/\Hid (Below S w wr)) (fun nv _=>N-(intOf nv).toNat);case atStart=>exact⟨1,ai _,hN.1,rfl,HL,hb2⟩
  case round=>
   obtain⟨m,kI,hm2,rfl,HR,YH⟩:=hrel;by_cases hlt:m<N
   ·obtain⟨cnt,w4,hcn,zbJ,hq4,Ih⟩:=HST wr m HR YH kI hlt;have Nu:=qH hq4;have DZ:=qH Ih;try rw[Nat.mul_one]at zbJ
    clear hq4 Ih;have aK:(m:Int)<(N:Int):=by omega
    have e1:¬N=m:=by omega
    have e2:¬N-m=0:=by omega
    have ww:IntKind.i64.wrap ((m:Int)+(cnt:Int))=(m:Int)+(cnt:Int):=by rw[IntKind.wrap_i64];omega
    go_wp2_with fail;go_region;all_goals
     go_wp2;go_roundw;case rel=>exact⟨m+cnt,by omega,by omega,by go_num,Nu,DZ⟩
     case measure=>simp[intOf];omega
   ·have aK:¬(m:Int)<(N:Int):=by omega
    obtain rfl:m=N:=by omega
    go_wp2;go_ret;have hr:=HR.out;rw[<-HQ.out]at hr;exact⟨by rw[HS.out];rfl,by rw[HS.out];exact hr,by have:=HS.out;subst this;exact YH⟩
theorem Ae(hk:Qw f sl el s)(w:World)(B:Nat):
 Cw f #[Sq B 1 1,Iq 0] w fun r w'=>∃p c,r=Rw (.slice p 0 c)/\Bt w w':=by
 have MU:Hid (∀w,Cw 142 #[.int .u64 1,.int .u64 0] w fun r w'=>r=Rw (.tuple #[.int .u64 0,.int .u64 0])/\w'=w):=fun w=>EM 1 0 (by omega) (by omega) w;obtain⟨Z,hZ,gR⟩:=hk.made 0 (by omega);rw[show((0:Nat):Int)=0 from rfl]at gR;obtain⟨S,hS⟩:=aj w.heap.size;obtain⟨w2,hcp,hb2⟩:∃w2,(Builtin.copy_ #[sl,sl] 3 #[Sq S 0 0,Sq B 1 1]).run prog (w.alloc (.cells Z.toArray el))=.ok (Iq 0) w2/\Hid (Below S w w2):=by obtain⟨w2,q1,_,q3⟩:=hk.copy (w.alloc (.cells Z.toArray el)) w S 0 0 0 (az B 0) 1 1 0 Z [] (by rw[<-hS];exact heap_alloc_new _ _) rfl (by rw[Nat.zero_mul];rfl) (fun j v hv=>by cases hv) (bc _) (fun v hv=>by cases hv) (by rw[<-hS];exact((Gr.refl w).alloc _).below);exact⟨w2,q1,q3⟩
 have HS:=qH hS;clear hZ;rcases hk with⟨rfl,rfl,rfl,rfl⟩|⟨rfl,rfl,rfl,rfl⟩|⟨rfl,rfl,rfl,rfl⟩;all_goals
  first
   |go_enter func206,ntmps206
   |go_enter func108,ntmps108
  go_wp2_with(first|(go_at_call 142;refine am (MU _) ?_;rintro r w1 ⟨rfl,eu⟩;obtain rfl:=eu.symm));clear hS hcp gR;go_loopw[8] (fun nv wr=>nv=Iq 0/\Hid (Below S w wr)) (fun nv _=>0);case atStart=>exact⟨rfl,hb2⟩
  case round=>obtain⟨rfl,YH⟩:=hrel;go_wp2;go_ret;exact⟨_,_,rfl,by have:=HS.out;subst this;exact YH⟩
end
