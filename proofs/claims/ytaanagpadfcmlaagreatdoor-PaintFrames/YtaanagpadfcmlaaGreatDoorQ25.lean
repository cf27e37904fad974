import Derived.Laws.CopyOwn
import Derived.Test.YtaanagpadfcmlaaGreatDoorQ11
import Derived.Shelf.Bits.Mul64
import Derived.Test.YtaanagpadfcmlaaGreatDoorQ24
set_option linter.all false
set_option maxRecDepth 100000
set_option maxHeartbeats 16000000
namespace Go.Proofs.YtaanagpadfcmlaaGreatDoor
open Go.RowKit Go.Sort Go.Proofs.Tryz
theorem yG{P}w u D E elem s g o d k a e p b t h n(hu:P.underlying u=some (.slice elem))(C:(P.info? elem).map (·.size)=some s)(A:w.heap[g]?=some (.cells b.toArray t (0,0)))(B:n=Nat.min e d)(q:h.length=n*s)(l:∀j v,h[j]?=some v->w.cell? (a.add j)=some v)(x:o+h.length<=b.length)(h1:∀v∈h,v.oneCell'=true):
 (Builtin.copy_ #[u,D] E #[.slice (some (aj g o)) d k,.slice (some a) e p]).run P w=
  .ok (goInt n) (w.setRow g (splice b o h).toArray):=by
 have y:=run_loadCells_list (P:=P) w a h l;have r:=run_storeCells_at P g o t h 0 b.toArray w A dg h1;cases z:P.info? elem with
 |none=>grind
 |some i=>
  have hi:i.size=s:=by simpa[z]using C
  rw[q]at y;simp[Builtin.copy_,run_underlying hu,Builtin.lenOf,Builtin.firstCells,sizeOf,typeInfo,z,hi,<-B,y,r,splice]
section
open Go.Shelf
def Lb:Go.Shelf.Ren:=⟨fun|212=>58|263=>126|264=>127|n=>n,fun|46=>140|51=>206|53=>209|146=>207|148=>210|n=>n,fun|n=>n⟩
theorem Hk:Go.Proofs.Lays.n212 prog Lb:={
 mixed:=ns
 f212:=func58.trans (congrArg some ns)
 f263:=func126.trans (congrArg some ns)
 f264:=func127.trans (congrArg some ns)
 t46:=underlying140
 a46:=isAgg140
 z46:=sizeOf140
 v46:=zeroValue140
 t51:=underlying206
 a51:=isAgg206
 z51:=sizeOf206
 v51:=zeroValue206
 t53:=underlying209
 a53:=isAgg209
 z53:=sizeOf209
 v53:=zeroValue209
 t146:=underlying207
 a146:=isAgg207
 z146:=sizeOf207
 v146:=zeroValue207
 t148:=underlying210
 a148:=isAgg210
 z148:=sizeOf210
 v148:=zeroValue210}
theorem Dx(x y:Nat)(a:x<18446744073709551616)(hy:y<18446744073709551616)w:
 Cw 58 #[.int .u64 x,.int .u64 y] w λe w'=>e=Rw (.tuple #[.int .u64 ((x*y/18446744073709551616:Nat):Int),.int .u64 ((x*y %18446744073709551616:Nat):Int)])/\w'=w:=Any.bits_Mul Hk x y a hy w
end
def Az(s:Nat)(L:List Value)(N m:Nat)(es:List Value):Prop:=L.length=N*s/\∀i k u,i<m->es[k]?=some u->L[i*s+k]?=some u
section
variable{s N m cnt:Nat} {L es:List Value}
theorem Az.take(e:s=1\/s=4\/s=5)(l:es.length=s)(h:Az s L N m es)(o:m<=N)(j:cnt<=m)(g:m+cnt<=N):Az s (splice L (m*s) (L.take (cnt*s))) N (m+cnt) es:=by rcases e with rfl|rfl|rfl;all_goals obtain⟨h1,d⟩:=h;refine⟨by rw[length_splice _ _ _ rd];exact h1,λi k u hi hu=>?_⟩;have n:=(lQ.1 hu).1;have a:=λq=>d i k u q hu;have b:=λq=>d (i-m) k u q hu;unfold splice;rw[List.getElem?_append,List.getElem?_append,b_,b_,uz,uz,h1];grind
theorem Az.first(a:s=1\/s=4\/s=5)(d:es.length=s)(h:L.length=N*s)(b:1<=N):Az s (splice L 0 es) N 1 es:=by rcases a with rfl|rfl|rfl;all_goals refine⟨by rw[length_splice _ _ _ dg];exact h,λi k u hi hu=>?_⟩;unfold splice;grind
theorem Az.one(d:s=1\/s=4\/s=5)(i:es.length=s)(h1:∀v∈es,v.oneCell'=true)(h:Az s L N m es)(g:cnt<=m):∀v∈L.take (cnt*s),v.oneCell'=true:=by
 intro v e;obtain⟨j,b⟩:=Kw.1 e;rw[uz]at b;have a:=h.2;rcases d with rfl|rfl|rfl;·have:=a (j/1) (j %1);grind
 ·have:=a (j/4) (j %4);grind
 ·have:=a (j/5) (j %5);grind
end
abbrev Nc(f:FuncId)(sl el:TypeId)(s:Nat):Prop:=(f=235/\sl=55/\el=3/\s=1)\/(f=96/\sl=126/\el=52/\s=4)\/(f=27/\sl=25/\el=73/\s=5)
theorem Nc.facts{f:FuncId}{sl el:TypeId}{s:Nat}(h:Nc f sl el s):(s=1\/s=4\/s=5)/\prog.underlying sl=some (.slice el)/\∃z b,(prog.info? el).map (λi=>(i.zero,i.size,i.bytes))=some (some z,s,b)/\b<=48:=by
 rcases h with⟨rfl,rfl,rfl,rfl⟩|⟨rfl,rfl,rfl,rfl⟩|⟨rfl,rfl,rfl,rfl⟩;·exact⟨dg,underlying55,Iq 0,8,ns,dg⟩
 ·exact⟨dg,underlying126,.agg #[Iq 0,Iq 0,Iq 0,Iq 0],32,ns,dg⟩
 ·exact⟨dg,underlying25,.agg #[.string ⟨#[]⟩,Iq 0,Iq 0,Iq 0,Iq 0],48,ns,dg⟩
theorem PI(B j:Nat):((aj B 0):Addr).add j=(aj B j):=by unfold Addr.add;split<;>simp_all
section
variable{f:FuncId} {sl el:TypeId} {s:Nat}
theorem Nc.made(j:Nc f sl el s)(N:Nat)(h:N<=160000):∃Z:List Value,Hid (Z.length=N*s)/\∀W:World,(Instr.makeSlice sl (Iq (N:Int)) (Iq (N:Int))).run prog W=.ok (Sq W.heap.size N N) (W.alloc (.cells Z.toArray el)):=by obtain⟨n,hu,z,b,a,i⟩:=j.facts;obtain⟨k,hi,d,e,g⟩:=info_parts a;refine⟨(madeCells z.cells (N*s)).toList,(by show _=_;rw[dZ,size_madeCells]:_),λW=>?_⟩;have l:=jJ i h;have:=run_make (P:=prog) W sl el k _ hu hi d .i64 .i64 N N dg (iD _) (by rw[g];omega) dg;rw[e,jG]at this;rw[Array.toArray_toList];exact this
theorem Nc.copy(x:Nc f sl el s)(W r:World)(S off i o:Nat)(h:Addr)(l q n:Nat)(L a:List Value)(p:W.heap[S]?=some (.cells L.toArray el (0,0)))(y:n=Nat.min l i)(u:a.length=n*s)(e:∀j v,a[j]?=some v->W.cell? (h.add j)=some v)(w:off+a.length<=L.length)(h1:∀v∈a,v.oneCell'=true)(t:Below S r W):
 ∃g,(Builtin.copy_ #[sl,sl] 3 #[.slice (some (aj S off)) i o,.slice (some h) l q]).run prog W=.ok (goInt n) g/\g.heap[S]?=some (.cells (splice L off a).toArray el (0,0))/\Below S r g:=by obtain⟨_,hu,z,b,d,_⟩:=x.facts;obtain⟨A,hi,_,k,_⟩:=info_parts d;exact⟨_,yG (P:=prog) W sl sl 3 el s S off i o h l q L el a n hu (by rw[hi,<-k];rfl) p y u e w h1,setRow_heap _ S _ _ el _ p,below_setRow t (ae _) _⟩
theorem vB(q:Nc f sl el s)(w:World)(es:List Value)(b:es.length=s)(d:∀v∈es,v.oneCell'=true)(B N:Nat)(I:1<=N/\N<=160000)(hB:B<w.heap.size)(hc:∀(k:Nat) u,es[k]?=some u->w.cell? (aj B k)=some u):
 Cw f #[Sq B 1 1,Iq N] w λr w'=>r=Rw (Sq w.heap.size N N)/\(∃L,w'.heap[w.heap.size]?=some (.cells L.toArray el (0,0))/\Az s L N N es)/\Bt w w':=by
 have MU:Hid (∀w,Cw 58 #[.int .u64 1,.int .u64 N] w λr w'=>r=Rw (.tuple #[.int .u64 0,.int .u64 N])/\w'=w):=λw=>by have:=Dx 1 N dg dg w;rw[show 1*N/18446744073709551616=0 by omega,show 1*N %18446744073709551616=N by omega]at this;exact this
 have e:=q.facts.1;obtain⟨Z,J,T⟩:=q.made N I.2;obtain⟨S,hS⟩:=ad w.heap.size;obtain⟨Q,C⟩:∃Q:World->Nat->Prop,(λwr m=>∃L,wr.heap[S]?=some (.cells L.toArray el (0,0))/\Az s L N m es)=Q:=⟨_,rfl⟩;obtain⟨h,R,HL,O⟩:∃h,(Builtin.copy_ #[sl,sl] 3 #[Sq S N N,Sq B 1 1]).run prog (w.alloc (.cells Z.toArray el))=.ok (goInt 1) h/\Hid (Q h 1)/\Hid (Below S w h):=by obtain⟨h,X,Y,q3⟩:=q.copy (w.alloc (.cells Z.toArray el)) w S 0 N N (aj B 0) 1 1 1 Z es (by rw[<-hS];exact heap_alloc_new _ _) (by show 1=min 1 N;omega) dg (λj v g=>by rw[PI];exact(bf (a:=(aj B j)) (((Gr.refl w).alloc _).block hB)).trans (hc j v g)) (by rw[J.out,b];rcases e with rfl|rfl|rfl<;>omega) d (by rw[<-hS];exact((Gr.refl w).alloc _).below);exact⟨h,X,by rw[<-C];exact⟨_,Y,Az.first e b J I.1⟩,q3⟩
 have G:Hid (∀wr (m:Nat),Q wr m->Below S w wr->1<=m->m<N->∃(cnt:Nat) (i:World),(1<=cnt/\m+cnt<=N)/\(Builtin.copy_ #[sl,sl] 3 #[.slice (some (aj S (m*s))) (N-m) (N-m),Sq S m N]).run prog wr.drew=.ok (Iq (cnt:Int)) i/\Q i (m+cnt)/\Below S w i):=λwr m hq P z x=>by
  rw[<-C]at hq⊢;obtain⟨L,hL,hF⟩:=hq;obtain⟨cnt,o⟩:=ad (min m (N-m));have t:(L.take (cnt*s)).length=cnt*s:=by rw[b_,hF.1];rcases e with rfl|rfl|rfl<;>omega
  obtain⟨i,X,Y,q3⟩:=q.copy wr.drew w S (m*s) (N-m) (N-m) (aj S 0) m N cnt L (L.take (cnt*s)) hL o.symm t (λj v g=>by
   rw[PI];rw[uz]at g;split at g;·show wr.cell? (aj S j)=some v;simp[World.cell?,hL,g]
   ·cases g) (by rw[t,hF.1];rcases e with rfl|rfl|rfl<;>omega) (Az.one e b d hF dg) P.drew;exact⟨cnt,i,dg,X,⟨_,Y,Az.take e b hF dg dg dg⟩,q3⟩
 have HQ:=qH C;have F:=qH hS;have nN:¬(N:Int)<0:=dg;have nb:decide (9223372036854775807<(N:Int))=false:=decide_eq_false dg;clear hc hB b d C e J;rcases q with⟨rfl,rfl,rfl,rfl⟩|⟨rfl,rfl,rfl,rfl⟩|⟨rfl,rfl,rfl,rfl⟩;all_goals
  first
   |go_enter func235,ntmps235
   |go_enter func96,ntmps96
   |go_enter func27,ntmps27
  go_wp2_with(first|(go_at_call 58;refine ag (MU _) ?_;rintro r w1 ⟨rfl,U⟩;obtain rfl:=U.symm));clear hS R T;go_loopw[8] (λV wr=>∃m:Nat,1<=m/\m<=N/\V=Iq m/\Hid (Q wr m)/\Hid (Below S w wr)) (λV _=>N-(intOf V).toNat);case atStart=>exact⟨1,ae _,I.1,rfl,HL,O⟩
  case round=>
   obtain⟨m,z,zb,rfl,HR,l⟩:=hrel;by_cases x:m<N
   ·obtain⟨cnt,i,za,p,A,n⟩:=G wr m HR l z x;have E:=qH A;have D:=qH n;try rw[Nat.mul_one]at p
    clear A n;have y:(m:Int)<(N:Int):=dg;have e1:¬N=m:=dg;have e2:¬N-m=0:=dg;have ww:IntKind.i64.wrap ((m:Int)+(cnt:Int))=(m:Int)+(cnt:Int):=by rw[IntKind.wrap_i64];omega
    go_wp2_with fail;go_region;all_goals
     go_wp2;go_roundw;case rel=>exact⟨m+cnt,dg,dg,by go_num,E,D⟩
     case measure=>simp[intOf];omega
   ·have y:¬(m:Int)<(N:Int):=dg
    obtain rfl:m=N:=dg;go_wp2;go_ret;have hr:=HR.out;rw[<-HQ.out]at hr;exact⟨by rw[F.out];rfl,by rw[F.out];exact hr,by have:=F.out;subst this;exact l⟩
theorem yy(h:Nc f sl el s)(w:World)(B:Nat):
 Cw f #[Sq B 1 1,Iq 0] w λr w'=>∃p c,r=Rw (.slice p 0 c)/\Bt w w':=by
 have o:Hid (∀w,Cw 58 #[.int .u64 1,.int .u64 0] w λr w'=>r=Rw (.tuple #[.int .u64 0,.int .u64 0])/\w'=w):=λw=>Dx 1 0 dg dg w;obtain⟨Z,q,a⟩:=h.made 0 dg;rw[show((0:Nat):Int)=0 from rfl]at a;obtain⟨S,hS⟩:=ad w.heap.size;obtain⟨b,g,e⟩:∃b,(Builtin.copy_ #[sl,sl] 3 #[Sq S 0 0,Sq B 1 1]).run prog (w.alloc (.cells Z.toArray el))=.ok (Iq 0) b/\Hid (Below S w b):=by obtain⟨b,t,_,u⟩:=h.copy (w.alloc (.cells Z.toArray el)) w S 0 0 0 (aj B 0) 1 1 0 Z [] (by rw[<-hS];exact heap_alloc_new _ _) rfl (by rw[Nat.zero_mul];rfl) (λj v i=>by cases i) (aR _) (λv i=>by cases i) (by rw[<-hS];exact((Gr.refl w).alloc _).below);exact⟨b,t,u⟩
 have n:=qH hS;clear q;rcases h with⟨rfl,rfl,rfl,rfl⟩|⟨rfl,rfl,rfl,rfl⟩|⟨rfl,rfl,rfl,rfl⟩;all_goals
  first
   |go_enter func235,ntmps235
   |go_enter func96,ntmps96
   |go_enter func27,ntmps27
  go_wp2_with(first|(go_at_call 58;refine ag (o _) ?_;rintro r x ⟨rfl,k⟩;obtain rfl:=k.symm));clear hS g a;go_loopw[8] (λl wr=>l=Iq 0/\Hid (Below S w wr)) (λl _=>0);case atStart=>exact⟨rfl,e⟩
  case round=>obtain⟨rfl,d⟩:=hrel;go_wp2;go_ret;exact⟨_,_,rfl,by have:=n.out;subst this;exact d⟩
end
theorem Cv.below{T}{Q Q'}{M W H}{c}(h:Cv T Q M W H c)(g:Bt Q Q'):Cv T Q' M W H c:=h.keep (g.block M h.lt)
theorem CS.below{a T}{Q Q'}{K M cap W H}{c}(h:CS a T Q K M cap W H c)(g:Bt Q Q'):CS a T Q' K M cap W H c:=⟨(g.block K h.klt).trans h.kb,h.cv.below g,h.ne,h.hc⟩
theorem Hv{T:TypeId}{Q:World}{M W H:Nat}{e:Ce}{L:List Value}(h:Q.heap[M]?=some (.cells L.toArray T (0,0)))(a:Az 5 L (W*H) (W*H) (c5 e)):Cv T Q M W H (λ_ _=>e):=by
 refine⟨⟨_,h⟩,λy x hy b k u hu=>?_⟩;have hi:y*W+x<W*H:=by have:(y+1)*W<=H*W:=lR _ dg;rw[kN]at this;rw[nM W H];omega
 have:=a.2 (y*W+x) k u hi hu;rw[show(y*W+x)*5+k=y*W*5+x*5+k by omega]at this;simp[World.cell?,h,this]
theorem Ju{T}{Q}{b}{e}(h:R5 T Q b e)k u(hu:(c5 e)[k]?=some u):Q.cell? (aj b k)=some u:=by
 unfold R5 at h;have:(#[.string e.t,Iq e.f,Iq e.g,Iq e.b,Iq e.p]:Array Value)[k]?=some u:=by rw[<-hu];unfold c5;simp
 simp[World.cell?,h,this]
theorem OH(W H:Nat)(w:World)(D:1<=W/\W<=400)(C:1<=H/\H<=400):Cw 11 #[Iq W,Iq H] w λe w'=>∃K M,e=Rw (.tuple #[Pq K,Iq 0])/\CS 91 73 w' K M (W*H) W H (λ_ _=>bk 0 0 0)/\w.heap.size<=K/\w.heap.size<=M/\Bt w w':=by
 have z:Hid (∀n w,Cw 26 #[Iq n] w λe w'=>e=Rw (.bool (decide (1<=n/\n<=400)))/\w'=w):=JL;have x:=z W;have y:=z H;rw[decide_eq_true dg]at x y;have k:Hid (∀w,Cw 28 #[sv 0 0 0] w λe w'=>e=Rw (Dg (bk 0 0 0))/\Gr w w'):=lZ 0 0 0;obtain⟨e,E⟩:=ad (bk 0 0 0);rw[E]at k⊢;unfold sv Dg at k;obtain⟨n,d⟩:=ad (W*H);have O:1<=n/\n<=160000:=by rw[<-d];exact⟨jJ D.1 C.1,jJ D.2 C.2⟩
 have I:(W:Int)*(H:Int)=(n:Int):=by rw[<-d];simp
 have v:Hid (W*H=n):=d;rw[d];clear d E;go_enter func11,ntmps11;go_wp2_with fail;refine ag (x _) ?_;rintro I T ⟨rfl,o⟩;obtain rfl:=o.symm;go_wp2_with fail;refine ag (y _) ?_;rintro P U ⟨rfl,q⟩;obtain rfl:=q.symm;go_wp2_with fail;refine ag (k _) ?_;rintro Q w3 ⟨rfl,B⟩;have h:Hid (Gr w w3):=B;clear B;have r:Hid (R5 73 (w3.alloc (.cells #[.string e.t,Iq e.f,Iq e.g,Iq e.b,Iq e.p] 73)) w3.heap.size e):=R5.new w3 e _;go_wp2_with fail;refine ag (vB (.inr (.inr ⟨rfl,rfl,rfl,rfl⟩)) _ (c5 e) rfl (by simp[c5,Value.oneCell']) w3.heap.size n O r.lt (Ju r)) ?_;rintro R j ⟨rfl,⟨L,l,hF⟩,A⟩;have a:Hid (j.heap[w3.heap.size+1]?=some (.cells L.toArray 73 (0,0))/\Az 5 L n n (c5 e)/\Below (w3.heap.size+1) (w3.alloc (.cells #[.string e.t,Iq e.f,Iq e.g,Iq e.b,Iq e.p] 73)) j):=by simp only[au]at l;exact⟨l,hF,A.mono rn⟩
 clear l hF A;simp only[au];obtain⟨M,i⟩:=ad (w3.heap.size+1);rw[i]at a;rw[i];have u:Hid (w3.heap.size+1=M):=i;clear i;go_wp2;go_ret2;refine⟨j.heap.size,M,rfl,?_,?_,?_,?_⟩
 ·have J:=(aD.1 a.1).1;refine⟨?_,?_,dg,dg⟩;·rw[v.out];exact heap_alloc_new _ _
  ·refine Cv.gr ?_ ((Gr.refl j).alloc _);refine Hv a.1 ?_;rw[v.out];exact a.2.1
 ·have:=h.size;have:=a.2.2.size;simp only[au]at this;omega
 ·have:=h.size;have:=u.out;omega
 ·have S:=h.size;have F:Bt w (w3.alloc (.cells #[.string e.t,Iq e.f,Iq e.g,Iq e.b,Iq e.p] 73)):=(h.alloc _).below;have G:=F.trans (a.2.2.mono (by have:=u.out;omega));exact G.alloc (by have:=a.2.2.size;simp only[au]at this;omega) _
def KL(c:Nat->Nat->Ce)(W:Nat):Nat->List Value
 |0=>[]
 |n+1=>KL c W n++c5 (c (n/W) (n %W))
theorem mX c W n:(KL c W n).length=n*5:=by
 induction n with
 |zero=>rfl
 |succ n a=>grind[KL,Hd]
theorem pY c W:∀n i k,i<n->k<5->(KL c W n)[i*5+k]?=(c5 (c (i/W) (i %W)))[k]?
 |0,i,k,hi,a=>absurd hi dg
 |n+1,i,k,hi,a=>by
  rw[KL];by_cases h:i<n;·rw[NQ (by rw[mX];omega)];exact pY c W n i k h a
  grind[mX]
theorem L7 c W n:∀v∈KL c W n,v.oneCell'=true:=by
 intro v d;obtain⟨j,a⟩:=Kw.1 d;have e:j<n*5:=by rw[<-mX c W n];exact(lQ.1 a).1
 have:=pY c W n (j/5) (j %5) dg dg;rw[show j/5*5+j %5=j by omega,a]at this;have b:=Kx this.symm;simp[c5]at b;rcases b with rfl|rfl|rfl|rfl|rfl<;>rfl
theorem Od{i W H:Nat}(h:i<W*H):i/W<H:=Nat.div_lt_of_lt_mul h
theorem PH{i W H}(h:i<W*H):0<W:=rd
theorem L6 i W:i/W*W*5+i %W*5=i*5:=by have:=Nat.div_add_mod i W;grind
theorem Oa{T}{Q}{M W H}{c}(h:Cv T Q M W H c)j v(b:(KL c W (W*H))[j]?=some v):Q.cell? (((aj M 0):Addr).add j)=some v:=by
 have d:((aj M 0):Addr).add j=(aj M j):=by unfold Addr.add;split<;>simp_all
 have e:j<W*H*5:=by rw[<-mX c W (W*H)];exact(lQ.1 b).1
 have hi:j/5<W*H:=dg;have a:=pY c W (W*H) (j/5) (j %5) hi dg;rw[show j/5*5+j %5=j by omega,b]at a;have:=h.cell (j/5/W) (j/5 %W) (Od hi) (Nat.mod_lt _ (PH hi)) (j %5) v a.symm;grind[L6]
theorem Ob{T}{Q}{B W H}{c}{v}(h:Q.ownsRow B T 5 v (W*H) (KL c W (W*H)))(hp:0<W*H):∃N cap,v=Sq N (W*H) cap/\B<=N/\Cv T Q N W H c/\W*H<=cap/\cap<=9223372036854775807:=by
 rcases h.2 with⟨_,t⟩|⟨g,cap,j,e,l,n,p,q,_⟩;·omega
 ·refine⟨g,cap,e,l,⟨⟨_,n⟩,λy x hy i k u hu=>?_⟩,p,q⟩;have o:k<5:=(lQ.1 hu).1;have hi:y*W+x<W*H:=by have:(y+1)*W<=H*W:=lR _ dg;rw[kN]at this;rw[nM W H];omega
  have b:(y*W+x)/W=y:=by rw[nM,Ko dg,Kq i,nK]
  have a:(y*W+x) %W=x:=by rw[nM,Nat.mul_add_mod,Nat.mod_eq_of_lt i]
  have d:=pY c W (W*H) (y*W+x) k hi o;rw[b,a,hu]at d;have:=h.cells (g:=g) (by rw[e];rfl) _ _ d;have r:((aj g 0):Addr).add ((y*W+x)*5+k)=(aj g (y*W*5+x*5+k)):=by rw[kN];unfold Addr.add;split<;>simp_all
  grind
theorem Qx:(prog.info? 73).map (λi=>(i.zero,i.size,i.bytes))=some (some (.agg #[.string ⟨#[]⟩,Iq 0,Iq 0,Iq 0,Iq 0]),5,48):=ns
section
variable{K M cap W H:Nat} {c:Nat->Nat->Ce}
theorem EL(w:World)(h:Cv 73 w M W H c)(I:1<=W/\W<=400)(F:1<=H/\H<=400):Cw 33 #[Sq M (W*H) cap] w λe w'=>∃N b,e=Rw (Sq N (W*H) b)/\Cv 73 w' N W H c/\w.heap.size<=N/\Bt w w'/\W*H<=b/\b<=9223372036854775807:=by
 obtain⟨T,hi,z,A,B⟩:=info_parts Qx;obtain⟨n,p⟩:=ad (W*H);have nb:1<=n/\n<=160000:=by rw[<-p];exact⟨jJ I.1 F.1,jJ I.2 F.2⟩
 have r:Hid (W*H=n):=p;have E:Hid (Cv 73 w M W H c):=h;obtain⟨L,t⟩:=ad (KL c W n);have D:Hid (KL c W (W*H)=L):=by show _=_;rw[p];exact t
 have l:Hid (L.length=n*5):=by rw[<-t];exact mX c W n
 have o:Hid (∀v∈L,v.oneCell'=true):=by rw[<-t];exact L7 c W n
 rw[p];clear h p t;have Y:=E.lt;have qs:∀(w:World) (a:Option Addr) (n c C x:Nat),(binOp .eql 25 (.slice a n c) (.slice none C x)).run prog w=.ok (.bool a.isNone) w:=λw a n c C x=>Lib.run_eql_slice_nil w _ _ a n c C x underlying25;have i:Hid (∀(j:Nat) u,L[j]?=some u->(w.alloc (.cells #[] 73)).cell? (((aj M 0):Addr).add j)=some u):=λj u J=>by rw[<-D.out]at J;exact Oa (E.gr ((Gr.refl w).alloc _)) j u J
 go_enter func33,ntmps33;go_wp2_with(at_builtin;refine wpList_append_own _ rfl _ _ 25 rfl w.heap.size 73 T (.agg #[.string ⟨#[]⟩,Iq 0,Iq 0,Iq 0,Iq 0]) 5 48 underlying25 hi z A B rfl (by decide) _ _ _ rfl (World.ownsRow_made w #[] 0 (ae _) (aR _) rfl) (aj M 0) n cap L rfl l i o (by unfold maxLen;omega) dg rn ?_);intro X O g d q;have Q:Hid (O.ownsRow w.heap.size 73 5 X n L):=g;have P:Hid (Bt w O):=((af _ w).alloc (ae _) _).grown d rn (by intro k S;simp[Value.ownBlock]at S;omega);clear g d q;go_wp2;go_ret;have G:=Q.out;rw[<-r.out,<-D.out]at G;obtain⟨N,b,Z,R,y,U,V⟩:=Ob G (by rw[r.out];omega);exact⟨N,b,by rw[<-r.out];simp_all,y,R,P,by rw[<-r.out];exact U,V⟩
theorem EJ(w:World)(h:CS 91 73 w K M cap W H c)(o:1<=W/\W<=400)(l:1<=H/\H<=400):Cw 14 #[Pq K] w λe w'=>∃N a,e=Rw (Sq N (W*H) a)/\Cv 73 w' N W H c/\w.heap.size<=N/\Bt w w'/\W*H<=a/\a<=9223372036854775807:=by have b:Hid (Cw 33 #[Sq M (W*H) cap] w λe w'=>∃N a,e=Rw (Sq N (W*H) a)/\Cv 73 w' N W H c/\w.heap.size<=N/\Bt w w'/\W*H<=a/\a<=9223372036854775807):=EL w h.cv o l;have p:=h.k2;obtain⟨n,i⟩:=ad (W*H);rw[i]at b p⊢;clear h i;go_enter func14,ntmps14;go_wp2_with fail;refine ag b ?_;rintro e j ⟨N,a,rfl,h1,d,g⟩;have k:Hid (Cv 73 j N W H c/\w.heap.size<=N/\Bt w j/\n<=a/\a<=9223372036854775807):=⟨h1,d,g⟩;clear h1 d g;go_wp2;go_ret;exact⟨N,a,rfl,k⟩
end
