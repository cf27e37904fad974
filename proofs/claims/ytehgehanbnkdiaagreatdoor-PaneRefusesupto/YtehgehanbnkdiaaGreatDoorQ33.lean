import Derived.Laws.CopyOwn
import Derived.Test.YtehgehanbnkdiaaGreatDoorQ10
import Derived.Shelf.Bits.Mul64
import Derived.Test.YtehgehanbnkdiaaGreatDoorQ32
set_option linter.all false
set_option maxRecDepth 100000
set_option maxHeartbeats 16000000
namespace Go.Proofs.YtehgehanbnkdiaaGreatDoor
open Go.RowKit Go.Sort Go.Proofs.Tryz
def xf{P}w u E F elem s g o d k a e p b t h n(hu:P.underlying u=some (.slice elem))(D:(P.info? elem).map (·.size)=some s)(B:w.heap[g]?=some (.cells b.toArray t (0,0)))(C:n=Nat.min e d)(q:h.length=n*s)(l:∀j v,h[j]?=some v->w.cell? (a.add j)=some v)(x:o+h.length<=b.length)(A:∀v∈h,v.oneCell'=true):
 (Builtin.copy_ #[u,E] F #[.slice (some (aq g o)) d k,.slice (some a) e p]).run P w=
  .ok (goInt n) (w.setRow g (splice b o h).toArray):=by
 have y:=run_loadCells_list (P:=P) w a h l;have r:=run_storeCells_at P g o t h 0 b.toArray w B dg A;cases z:P.info? elem with
 |none=>grind
 |some i=>
  have hi:i.size=s:=by simpa[z]using D
  rw[q]at y;simp[Builtin.copy_,run_underlying hu,Builtin.lenOf,Builtin.firstCells,sizeOf,typeInfo,z,hi,<-C,y,r,splice]
section
open Go.Shelf
def KH:Go.Shelf.Ren:=⟨fun|212=>108|263=>183|264=>184|n=>n,fun|46=>203|51=>277|53=>280|146=>278|148=>281|n=>n,fun|n=>n⟩
def Gc:Go.Proofs.Lays.n212 prog KH:={
 mixed:=pt
 f212:=func108.trans (congrArg some pt)
 f263:=func183.trans (congrArg some pt)
 f264:=func184.trans (congrArg some pt)
 t46:=underlying203
 a46:=isAgg203
 z46:=sizeOf203
 v46:=zeroValue203
 t51:=underlying277
 a51:=isAgg277
 z51:=sizeOf277
 v51:=zeroValue277
 t53:=underlying280
 a53:=isAgg280
 z53:=sizeOf280
 v53:=zeroValue280
 t146:=underlying278
 a146:=isAgg278
 z146:=sizeOf278
 v146:=zeroValue278
 t148:=underlying281
 a148:=isAgg281
 z148:=sizeOf281
 v148:=zeroValue281}
def BH(x y:Nat)(a:x<18446744073709551616)(hy:y<18446744073709551616)w:
 Cw 108 #[.int .u64 x,.int .u64 y] w λe w'=>e=Rw (.tuple #[.int .u64 ((x*y/18446744073709551616:Nat):Int),.int .u64 ((x*y %18446744073709551616:Nat):Int)])/\w'=w:=Any.bits_Mul Gc x y a hy w
end
def xS(s:Nat)(L:List Fd)(N m:Nat)(es:List Fd):Prop:=L.length=N*s/\∀i k u,i<m->es[k]?=some u->L[i*s+k]?=some u
section
variable{s N m cnt:Nat} {L es:List Fd}
def xS.take(g:s=1\/s=4\/s=5)(n:es.length=s)(h:xS s L N m es)(p:m<=N)(l:cnt<=m)(j:m+cnt<=N):xS s (splice L (m*s) (L.take (cnt*s))) N (m+cnt) es:=by rcases g with rfl|rfl|rfl;all_goals obtain⟨d,e⟩:=h;refine⟨by rw[length_splice _ _ _ rn];exact d,λi k u hi hu=>?_⟩;have o:=(nP.1 hu).1;have a:=λq=>e i k u q hu;have b:=λq=>e (i-m) k u q hu;unfold splice;rw[List.getElem?_append,List.getElem?_append,cL,cL,qI,qI,d];grind
def xS.first(a:s=1\/s=4\/s=5)(d:es.length=s)(h:L.length=N*s)(b:1<=N):xS s (splice L 0 es) N 1 es:=by rcases a with rfl|rfl|rfl;all_goals refine⟨by rw[length_splice _ _ _ dg];exact h,λi k u hi hu=>?_⟩;unfold splice;grind
def xS.one(d:s=1\/s=4\/s=5)(k:es.length=s)(g:∀v∈es,v.oneCell'=true)(h:xS s L N m es)(i:cnt<=m):∀v∈L.take (cnt*s),v.oneCell'=true:=by
 intro v e;obtain⟨j,b⟩:=JU.1 e;rw[qI]at b;have a:=h.2;rcases d with rfl|rfl|rfl;.have:=a (j/1) (j %1);grind
 .have:=a (j/4) (j %4);grind
 .have:=a (j/5) (j %5);grind
end
abbrev Ny(f:FuncId)(sl el:TypeId)(s:Nat):Prop:=(f=335/\sl=26/\el=3/\s=1)\/(f=197/\sl=216/\el=93/\s=4)\/(f=68/\sl=40/\el=46/\s=5)
def Ny.facts{f:FuncId}{sl el:TypeId}{s:Nat}(h:Ny f sl el s):(s=1\/s=4\/s=5)/\prog.underlying sl=some (.slice el)/\∃z b,(prog.info? el).map (λi=>(i.zero,i.size,i.bytes))=some (some z,s,b)/\b<=48:=by
 rcases h with⟨rfl,rfl,rfl,rfl⟩|⟨rfl,rfl,rfl,rfl⟩|⟨rfl,rfl,rfl,rfl⟩;.exact⟨dg,underlying26,Iq 0,8,pt,dg⟩
 .exact⟨dg,underlying216,.agg #[Iq 0,Iq 0,Iq 0,Iq 0],32,pt,dg⟩
 .exact⟨dg,underlying40,.agg #[.string ⟨#[]⟩,Iq 0,Iq 0,Iq 0,Iq 0],48,pt,dg⟩
def Qt(B j:Nat):((aq B 0):Addr).add j=(aq B j):=by unfold Addr.add;split<;>simp_all
section
variable{f:FuncId} {sl el:TypeId} {s:Nat}
def Ny.made(j:Ny f sl el s)(N:Nat)(h:N<=160000):∃Z:List Fd,Hid (Z.length=N*s)/\∀W:AT,(Instr.makeSlice sl (Iq (N:Int)) (Iq (N:Int))).run prog W=.ok (Sq W.heap.size N N) (W.alloc (.cells Z.toArray el)):=by obtain⟨n,hu,z,b,a,i⟩:=j.facts;obtain⟨k,hi,d,e,g⟩:=info_parts a;refine⟨(madeCells z.cells (N*s)).toList,(by show _=_;rw[eK,size_madeCells]:_),λW=>?_⟩;have l:=ik i h;have:=run_make (P:=prog) W sl el k _ hu hi d .i64 .i64 N N dg (ie _) (by rw[g];omega) dg;rw[e,iO]at this;rw[Array.toArray_toList];exact this
def Ny.copy(x:Ny f sl el s)(W q:AT)(S off i dc:Nat)(h:Addr)(l p n:Nat)(L a:List Fd)(o:W.heap[S]?=some (.cells L.toArray el (0,0)))(y:n=Nat.min l i)(u:a.length=n*s)(e:∀j v,a[j]?=some v->W.cell? (h.add j)=some v)(w:off+a.length<=L.length)(r:∀v∈a,v.oneCell'=true)(t:Below S q W):
 ∃g,(Builtin.copy_ #[sl,sl] 3 #[.slice (some (aq S off)) i dc,.slice (some h) l p]).run prog W=.ok (goInt n) g/\g.heap[S]?=some (.cells (splice L off a).toArray el (0,0))/\Below S q g:=by obtain⟨_,hu,z,b,d,_⟩:=x.facts;obtain⟨A,hi,_,k,_⟩:=info_parts d;exact⟨_,xf (P:=prog) W sl sl 3 el s S off i dc h l p L el a n hu (by rw[hi,<-k];rfl) o y u e w r,setRow_heap _ S _ _ el _ o,below_setRow t LE _⟩
def oK(q:Ny f sl el s)(w:AT)(es:List Fd)(b:es.length=s)(d:∀v∈es,v.oneCell'=true)(B N:Nat)(I:1<=N/\N<=160000)(hB:B<w.heap.size)(hc:∀(k:Nat) u,es[k]?=some u->w.cell? (aq B k)=some u):
 Cw f #[Sq B 1 1,Iq N] w λr w'=>r=Rw (Sq w.heap.size N N)/\(∃L,w'.heap[w.heap.size]?=some (.cells L.toArray el (0,0))/\xS s L N N es)/\Bq w w':=by
 have MU:Hid (∀w,Cw 108 #[.int .u64 1,.int .u64 N] w λr w'=>r=Rw (.tuple #[.int .u64 0,.int .u64 N])/\w'=w):=λw=>by have:=BH 1 N dg dg w;rw[show 1*N/18446744073709551616=0 by omega,show 1*N %18446744073709551616=N by omega]at this;exact this
 have e:=q.facts.1;obtain⟨Z,J,T⟩:=q.made N I.2;obtain⟨S,hS⟩:=af w.heap.size;obtain⟨Q,C⟩:∃Q:AT->Nat->Prop,(λwr m=>∃L,wr.heap[S]?=some (.cells L.toArray el (0,0))/\xS s L N m es)=Q:=⟨_,rfl⟩;obtain⟨h,R,HL,O⟩:∃h,(Builtin.copy_ #[sl,sl] 3 #[Sq S N N,Sq B 1 1]).run prog (w.alloc (.cells Z.toArray el))=.ok (goInt 1) h/\Hid (Q h 1)/\Hid (Below S w h):=by obtain⟨h,X,Y,q3⟩:=q.copy (w.alloc (.cells Z.toArray el)) w S 0 N N (aq B 0) 1 1 1 Z es (by rw[<-hS];exact heap_alloc_new _ _) (by show 1=min 1 N;omega) dg (λj v g=>by rw[Qt];exact(aQ (a:=(aq B j)) (((Gr.refl w).alloc _).block hB)).trans (hc j v g)) (by rw[J.out,b];rcases e with rfl|rfl|rfl<;>omega) d (by rw[<-hS];exact((Gr.refl w).alloc _).below);exact⟨h,X,by rw[<-C];exact⟨_,Y,xS.first e b J I.1⟩,q3⟩
 have G:Hid (∀wr (m:Nat),Q wr m->Below S w wr->1<=m->m<N->∃(cnt:Nat) (i:AT),(1<=cnt/\m+cnt<=N)/\(Builtin.copy_ #[sl,sl] 3 #[.slice (some (aq S (m*s))) (N-m) (N-m),Sq S m N]).run prog wr.drew=.ok (Iq (cnt:Int)) i/\Q i (m+cnt)/\Below S w i):=λwr m hq P z x=>by
  rw[<-C]at hq|-;obtain⟨L,hL,hF⟩:=hq;obtain⟨cnt,o⟩:=af (min m (N-m));have t:(L.take (cnt*s)).length=cnt*s:=by rw[cL,hF.1];rcases e with rfl|rfl|rfl<;>omega
  obtain⟨i,X,Y,q3⟩:=q.copy wr.drew w S (m*s) (N-m) (N-m) (aq S 0) m N cnt L (L.take (cnt*s)) hL o.symm t (λj v g=>by
   rw[Qt];rw[qI]at g;split at g;.show wr.cell? (aq S j)=some v;simp[World.cell?,hL,g]
   .cases g) (by rw[t,hF.1];rcases e with rfl|rfl|rfl<;>omega) (xS.one e b d hF dg) P.drew;exact⟨cnt,i,dg,X,⟨_,Y,xS.take e b hF dg dg dg⟩,q3⟩
 have HQ:=qH C;have F:=qH hS;have nN:¬(N:Int)<0:=dg;have nb:decide (9223372036854775807<(N:Int))=false:=decide_eq_false dg;clear hc hB b d C e J;rcases q with⟨rfl,rfl,rfl,rfl⟩|⟨rfl,rfl,rfl,rfl⟩|⟨rfl,rfl,rfl,rfl⟩;all_goals
  first
   |go_enter func335,ntmps335
   |go_enter func197,ntmps197
   |go_enter func68,ntmps68
  go_wp2_with(first|(go_at_call 108;refine ag (MU _) ?_;rintro r w1 ⟨rfl,U⟩;obtain rfl:=U.symm));clear hS R T;go_loopw[8] (λV wr=>∃m:Nat,1<=m/\m<=N/\V=Iq m/\Hid (Q wr m)/\Hid (Below S w wr)) (λV _=>N-(intOf V).toNat);.exact⟨1,LE,I.1,rfl,HL,O⟩
  obtain⟨m,z,zg,rfl,HR,l⟩:=hrel;by_cases x:m<N
  .obtain⟨cnt,i,ze,p,A,n⟩:=G wr m HR l z x;have E:=qH A;have D:=qH n;try rw[C6]at p
   clear A n;have y:(m:Int)<(N:Int):=dg;have e1:¬N=m:=dg;have e2:¬N-m=0:=dg;have ww:IntKind.i64.wrap ((m:Int)+(cnt:Int))=(m:Int)+(cnt:Int):=by rw[IntKind.wrap_i64];omega
   go_wp2_with fail;go_region;all_goals
    go_wp2;go_roundw;.exact⟨m+cnt,dg,dg,by go_num,E,D⟩
    .simp[intOf];omega
  .have y:¬(m:Int)<(N:Int):=dg;obtain rfl:m=N:=dg;go_wp2;go_ret;have hr:=HR.out;rw[<-HQ.out]at hr;exact⟨by rw[F.out];rfl,by rw[F.out];exact hr,by have:=F.out;subst this;exact l⟩
def xa(h:Ny f sl el s)(w:AT)(B:Nat):
 Cw f #[Sq B 1 1,Iq 0] w λr w'=>∃p c,r=Rw (.slice p 0 c)/\Bq w w':=by
 have o:Hid (∀w,Cw 108 #[.int .u64 1,.int .u64 0] w λr w'=>r=Rw (.tuple #[.int .u64 0,.int .u64 0])/\w'=w):=λw=>BH 1 0 dg dg w;obtain⟨Z,q,a⟩:=h.made 0 dg;rw[show((0:Nat):Int)=0 from rfl]at a;obtain⟨S,hS⟩:=af w.heap.size;obtain⟨b,g,e⟩:∃b,(Builtin.copy_ #[sl,sl] 3 #[Sq S 0 0,Sq B 1 1]).run prog (w.alloc (.cells Z.toArray el))=.ok (Iq 0) b/\Hid (Below S w b):=by obtain⟨b,t,_,u⟩:=h.copy (w.alloc (.cells Z.toArray el)) w S 0 0 0 (aq B 0) 1 1 0 Z [] (by rw[<-hS];exact heap_alloc_new _ _) rfl (by rw[Nat.zero_mul];rfl) (λj v i=>by cases i) LT (λv i=>by cases i) (by rw[<-hS];exact((Gr.refl w).alloc _).below);exact⟨b,t,u⟩
 have n:=qH hS;clear q;rcases h with⟨rfl,rfl,rfl,rfl⟩|⟨rfl,rfl,rfl,rfl⟩|⟨rfl,rfl,rfl,rfl⟩;all_goals
  first
   |go_enter func335,ntmps335
   |go_enter func197,ntmps197
   |go_enter func68,ntmps68
  go_wp2_with(first|(go_at_call 108;refine ag (o _) ?_;rintro r x ⟨rfl,k⟩;obtain rfl:=k.symm));clear hS g a;go_loopw[8] (λl wr=>l=Iq 0/\Hid (Below S w wr)) (λl _=>0);.exact⟨rfl,e⟩
  obtain⟨rfl,d⟩:=hrel;go_wp2;go_ret;exact⟨_,_,rfl,by have:=n.out;subst this;exact d⟩
end
def Cv.below{T}{Q Q'}{M W H}{c}(h:Cv T Q M W H c)(g:Bq Q Q'):Cv T Q' M W H c:=h.keep (g.block M h.lt)
def CS.below{a T}{Q Q'}{K M cap W H}{c}(h:CS a T Q K M cap W H c)(g:Bq Q Q'):CS a T Q' K M cap W H c:=⟨(g.block K h.klt).trans h.kb,h.cv.below g,h.ne,h.hc⟩
def Gl{T:TypeId}{Q:AT}{M W H:Nat}{e:Ce}{L:List Fd}(h:Q.heap[M]?=some (.cells L.toArray T (0,0)))(a:xS 5 L (W*H) (W*H) (c5 e)):Cv T Q M W H (λ_ _=>e):=by
 refine⟨⟨_,h⟩,λy x hy b k u hu=>?_⟩;have hi:y*W+x<W*H:=by have:(y+1)*W<=H*W:=iN _ dg;rw[fx]at this;rw[eJ W H];omega
 have:=a.2 (y*W+x) k u hi hu;rw[show(y*W+x)*5+k=y*W*5+x*5+k by omega]at this;simp[World.cell?,h,this]
def I3{T}{Q}{b}{e}(h:R5 T Q b e)k u(hu:(c5 e)[k]?=some u):Q.cell? (aq b k)=some u:=by
 unfold R5 at h;have:(#[.string e.t,Iq e.f,Iq e.g,Iq e.b,Iq e.p]:Array Fd)[k]?=some u:=by rw[<-hu];unfold c5;simp
 simp[World.cell?,h,this]
def Po(W H:Nat)(w:AT)(D:1<=W/\W<=400)(C:1<=H/\H<=400):Cw 60 #[Iq W,Iq H] w λe w'=>∃K M,e=Rw (.tuple #[Pq K,Iq 0])/\CS 196 46 w' K M (W*H) W H (λ_ _=>bk 0 0 0)/\w.heap.size<=K/\w.heap.size<=M/\Bq w w':=by
 have z:Hid (∀n w,Cw 95 #[Iq n] w λe w'=>e=Rw (.bool (decide (1<=n/\n<=400)))/\w'=w):=Jf;have x:=z W;have y:=z H;rw[decide_eq_true dg]at x y;have k:Hid (∀w,Cw 96 #[sv 0 0 0] w λe w'=>e=Rw (Ba (bk 0 0 0))/\Gr w w'):=kR 0 0 0;obtain⟨e,E⟩:=af (bk 0 0 0);rw[E]at k|-;unfold sv Ba at k;obtain⟨n,d⟩:=af (W*H);have nb:1<=n/\n<=160000:=by rw[<-d];exact⟨ik D.1 C.1,ik D.2 C.2⟩
 have I:(W:Int)*(H:Int)=(n:Int):=by rw[<-d];simp
 have v:Hid (W*H=n):=d;rw[d];clear d E;go_enter func60,ntmps60;go_wp2_with fail;refine ag (x _) ?_;rintro I S ⟨rfl,o⟩;obtain rfl:=o.symm;go_wp2_with fail;refine ag (y _) ?_;rintro O T ⟨rfl,q⟩;obtain rfl:=q.symm;go_wp2_with fail;refine ag (k _) ?_;rintro P w3 ⟨rfl,B⟩;have h:Hid (Gr w w3):=B;clear B;have r:Hid (R5 46 (w3.alloc (.cells #[.string e.t,Iq e.f,Iq e.g,Iq e.b,Iq e.p] 46)) w3.heap.size e):=R5.new w3 e _;go_wp2_with fail;refine ag (oK (.inr (.inr ⟨rfl,rfl,rfl,rfl⟩)) _ (c5 e) rfl (by simp[c5,Value.oneCell']) w3.heap.size n nb r.lt (I3 r)) ?_;rintro Q j ⟨rfl,⟨L,l,hF⟩,A⟩;have a:Hid (j.heap[w3.heap.size+1]?=some (.cells L.toArray 46 (0,0))/\xS 5 L n n (c5 e)/\Below (w3.heap.size+1) (w3.alloc (.cells #[.string e.t,Iq e.f,Iq e.g,Iq e.b,Iq e.p] 46)) j):=by simp only[ai]at l;exact⟨l,hF,A.mono At⟩
 clear l hF A;simp only[ai];obtain⟨M,i⟩:=af (w3.heap.size+1);rw[i]at a;rw[i];have u:Hid (w3.heap.size+1=M):=i;clear i;go_wp2;go_ret2;refine⟨j.heap.size,M,rfl,?_,?_,?_,?_⟩
 .have J:=(aj.1 a.1).1;refine⟨?_,?_,dg,dg⟩;.rw[v.out];exact heap_alloc_new _ _
  .refine Cv.gr ?_ ((Gr.refl j).alloc _);refine Gl a.1 ?_;rw[v.out];exact a.2.1
 .have:=h.size;have:=a.2.2.size;simp only[ai]at this;omega
 .have:=h.size;have:=u.out;omega
 .have R:=h.size;have F:Bq w (w3.alloc (.cells #[.string e.t,Iq e.f,Iq e.g,Iq e.b,Iq e.p] 46)):=(h.alloc _).below;have G:=F.trans (a.2.2.mono (by have:=u.out;omega));exact G.alloc (by have:=a.2.2.size;simp only[ai]at this;omega) _
def lin(c:zzd)(W:Nat):Nat->List Fd
 |0=>[]
 |n+1=>lin c W n++c5 (c (n/W) (n %W))
theorem lL c W n:(lin c W n).length=n*5:=by
 induction n with
 |zero=>rfl
 |succ n a=>grind[lin,On]
def oF c W:∀n i k,i<n->k<5->(lin c W n)[i*5+k]?=(c5 (c (i/W) (i %W)))[k]?
 |0,i,k,hi,a=>absurd hi dg
 |n+1,i,k,hi,a=>by
  rw[lin];by_cases h:i<n;.rw[Cn (by rw[lL];omega)];exact oF c W n i k h a
  grind[lL]
def Mi c W n:∀v∈lin c W n,v.oneCell'=true:=by
 intro v d;obtain⟨j,a⟩:=JU.1 d;have e:j<n*5:=by rw[<-lL c W n];exact(nP.1 a).1
 have:=oF c W n (j/5) (j %5) dg dg;rw[show j/5*5+j %5=j by omega,a]at this;have b:=nQ this.symm;simp[c5]at b;rcases b with rfl|rfl|rfl|rfl|rfl<;>rfl
def Oz{i W H:Nat}(h:i<W*H):i/W<H:=Cy h
def Qs{i W H}(h:i<W*H):0<W:=rn
theorem Mh i W:i/W*W*5+i %W*5=i*5:=by have:=Cz i W;grind
def Ow{T}{Q}{M W H}{c}(h:Cv T Q M W H c)j v(b:(lin c W (W*H))[j]?=some v):Q.cell? (((aq M 0):Addr).add j)=some v:=by
 have d:((aq M 0):Addr).add j=(aq M j):=by unfold Addr.add;split<;>simp_all
 have e:j<W*H*5:=by rw[<-lL c W (W*H)];exact(nP.1 b).1
 have hi:j/5<W*H:=dg;have a:=oF c W (W*H) (j/5) (j %5) hi dg;rw[show j/5*5+j %5=j by omega,b]at a;have:=h.cell (j/5/W) (j/5 %W) (Oz hi) (Cx _ (Qs hi)) (j %5) v a.symm;grind[Mh]
def Ox{T}{Q}{B W H}{c}{v}(h:Q.ownsRow B T 5 v (W*H) (lin c W (W*H)))(w:0<W*H):∃N cap,v=Sq N (W*H) cap/\B<=N/\Cv T Q N W H c/\W*H<=cap/\cap<=9223372036854775807:=by
 rcases h.2 with⟨_,t⟩|⟨g,cap,j,e,l,n,p,q,_⟩;.omega
 .refine⟨g,cap,e,l,⟨⟨_,n⟩,λy x hy i k u hu=>?_⟩,p,q⟩;have o:k<5:=(nP.1 hu).1;have hi:y*W+x<W*H:=by have:(y+1)*W<=H*W:=iN _ dg;rw[fx]at this;rw[eJ W H];omega
  have b:(y*W+x)/W=y:=by rw[eJ,JL dg,Ct i,qC]
  have a:(y*W+x) %W=x:=by rw[eJ,Nat.mul_add_mod,Nat.mod_eq_of_lt i]
  have d:=oF c W (W*H) (y*W+x) k hi o;rw[b,a,hu]at d;have:=h.cells (g:=g) (by rw[e];rfl) _ _ d;have r:((aq g 0):Addr).add ((y*W+x)*5+k)=(aq g (y*W*5+x*5+k)):=by rw[fx];unfold Addr.add;split<;>simp_all
  grind
def Q_:(prog.info? 46).map (λi=>(i.zero,i.size,i.bytes))=some (some (.agg #[.string ⟨#[]⟩,Iq 0,Iq 0,Iq 0,Iq 0]),5,48):=pt
section
variable{K M cap W H:Nat} {c:zzd}
def Ds(w:AT)(h:Cv 46 w M W H c)(I:1<=W/\W<=400)(F:1<=H/\H<=400):Cw 101 #[Sq M (W*H) cap] w λe w'=>∃N b,e=Rw (Sq N (W*H) b)/\Cv 46 w' N W H c/\w.heap.size<=N/\Bq w w'/\W*H<=b/\b<=9223372036854775807:=by
 obtain⟨T,hi,z,A,B⟩:=info_parts Q_;obtain⟨n,p⟩:=af (W*H);have nb:1<=n/\n<=160000:=by rw[<-p];exact⟨ik I.1 F.1,ik I.2 F.2⟩
 have r:Hid (W*H=n):=p;have E:Hid (Cv 46 w M W H c):=h;obtain⟨L,t⟩:=af (lin c W n);have D:Hid (lin c W (W*H)=L):=qH<|by rw[p];exact t
 have l:Hid (L.length=n*5):=by rw[<-t];exact lL c W n
 have o:Hid (∀v∈L,v.oneCell'=true):=by rw[<-t];exact Mi c W n
 rw[p];clear h p t;have Y:=E.lt;have qs:∀(w:AT) (a:zze) (n c C x:Nat),(binOp .eql 40 (.slice a n c) (.slice none C x)).run prog w=.ok (.bool a.isNone) w:=λw a n c C x=>Lib.run_eql_slice_nil w _ _ a n c C x underlying40;have i:Hid (∀(j:Nat) u,L[j]?=some u->(w.alloc (.cells #[] 46)).cell? (((aq M 0):Addr).add j)=some u):=λj u J=>by rw[<-D.out]at J;exact Ow (E.gr ((Gr.refl w).alloc _)) j u J
 go_enter func101,ntmps101;go_wp2_with(at_builtin;refine wpList_append_own _ rfl _ _ 40 rfl w.heap.size 46 T (.agg #[.string ⟨#[]⟩,Iq 0,Iq 0,Iq 0,Iq 0]) 5 48 underlying40 hi z A B rfl (by decide) _ _ _ rfl (World.ownsRow_made w #[] 0 LE LT rfl) (aq M 0) n cap L rfl l i o (by unfold maxLen;omega) dg At ?_);intro X O g d q;have Q:Hid (O.ownsRow w.heap.size 46 5 X n L):=g;have P:Hid (Bq w O):=((ac _ w).alloc LE _).grown d At (by intro k S;simp[Value.ownBlock]at S;omega);clear g d q;go_wp2;go_ret;have G:=Q.out;rw[<-r.out,<-D.out]at G;obtain⟨N,b,Z,R,y,U,V⟩:=Ox G (by rw[r.out];omega);exact⟨N,b,by rw[<-r.out];simp_all,y,R,P,by rw[<-r.out];exact U,V⟩
def Dr(w:AT)(h:CS 196 46 w K M cap W H c)(o:1<=W/\W<=400)(l:1<=H/\H<=400):Cw 63 #[Pq K] w λe w'=>∃N a,e=Rw (Sq N (W*H) a)/\Cv 46 w' N W H c/\w.heap.size<=N/\Bq w w'/\W*H<=a/\a<=9223372036854775807:=by have CL:Hid (Cw 101 #[Sq M (W*H) cap] w λe w'=>∃N a,e=Rw (Sq N (W*H) a)/\Cv 46 w' N W H c/\w.heap.size<=N/\Bq w w'/\W*H<=a/\a<=9223372036854775807):=Ds w h.cv o l;have p:=h.k2;obtain⟨n,i⟩:=af (W*H);rw[i]at CL p|-;clear h i;go_enter func63,ntmps63;go_wp2_with fail;refine ag CL ?_;rintro e j ⟨N,a,rfl,b,d,g⟩;have k:Hid (Cv 46 j N W H c/\w.heap.size<=N/\Bq w j/\n<=a/\a<=9223372036854775807):=⟨b,d,g⟩;clear b d g;go_wp2;go_ret;exact⟨N,a,rfl,k⟩
end
