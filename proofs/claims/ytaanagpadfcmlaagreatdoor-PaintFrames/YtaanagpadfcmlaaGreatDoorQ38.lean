import Derived.Test.YtaanagpadfcmlaaGreatDoorRows
import Derived.Test.YtaanagpadfcmlaaGreatDoorQ30
import Derived.LaidLaws
import Derived.LaidSub
import Derived.Lib.LaidTab
set_option linter.all false
set_option maxRecDepth 100000
set_option maxHeartbeats 16000000
namespace Go.Proofs.YtaanagpadfcmlaaGreatDoor
open Go.RowKit Go.Proofs.Tryz
section
open Go.ChangeShapes Go.WideShapes
def ft:List (String×DataW Unit):=Rows.paintFramesRow.laid
def pD(i:Nat):String×DataW Unit:=(ft[i]?).getD ("",.nil)
theorem mW{P}{w}:∀{l} {c},DataW.LaidVars P w l c->∀x∈l,∃g t b a p,P.globalNamed x.1=some g/\(P.globals[g]?).map (·.type)=some t/\w.var? P x.1=some b/\DataW.trod (λ_=>()) P w 0 (λ_=>true) false a t b.toList=some (x.2,p)/\∀y∈MemPlace.row (aj g 0) b.size++p,y∈c
 |[],c,_,x,f=>by cases f
 |(n,d)::r,c,h,x,f=>by
  obtain⟨g,t,b,a,p,q,h1,A,B,C,k,rfl⟩:=h;rcases gE.1 f with rfl|i;·grind
  ·obtain⟨z,E,j,e,D,m,o,s,u,v⟩:=mW k x i;grind
def H_:String:=match(pD 9).2 with
 |.iface n _=>n
 |_=>""
theorem Oj u(h:prog.typeName? 3 u=some H_):u=376:=
 typeName_ptr_named (P:=prog) (nm:="errors.errorString") ns ns (by decide) u (h.trans ns)
theorem j_{W:World}{l:List (String×DataW Unit)}(h:laidMet prog l W)(x:String×DataW Unit)(E:x∈l)(g:Nat)(text:List UInt8)(i:prog.globalNamed x.1=some g)(D:(prog.globals[g]?).map (·.type)=some 83)(hd:x.2=.iface H_ (.ptr (.agg [.lit (.string text)]))):
 ∃a s,W.cell? (aj g 0)=some (bi a)/\W.cell? a=some (.string s)/\s.data.toList=text/\∃c t,W.heap[a.block]?=some (.cells c t (0,0)):=by
 obtain⟨G,A,B,b⟩:=h;obtain⟨F,t,o,q,p,r,w,k,m,n⟩:=mW A x E;obtain rfl:=kK (i.symm.trans r);obtain rfl:=kK (D.symm.trans w);rw[hd]at m;obtain⟨a,s,f,z,C,_,hp⟩:=errorString_of_trod (P:=prog) (tp:=376) (te:=378) (ts:=9) underlying83 Oj underlying376 underlying378 rfl rfl underlying9 ns ns m
  (λu v e=>by
   have j:o.size=1:=by have:=congrArg List.length e;simpa using this
   have d:=Ay i k 0;have y:o[0]?=some (.iface u v):=by rw[<-Array.getElem?_toList,e];rfl
   exact(b g 0 (n _ (gF.2 (.inl (by rw[j];simp[MemPlace.row]))))).2 u v (by rw[d,y]));refine⟨a,s,?_,z,C,?_⟩;·rw[Ay i k 0,<-Array.getElem?_toList,f];rfl
 ·exact(b a.block a.off (n _ (gF.2 (.inr (by rw[hp];simp[MemPlace.row]))))).1
theorem sQ{P}{w}{a}{t e}{n}{d}{c:List (List UInt8)}{p}(u:P.underlying t=some (.array n e))(q:P.underlying e=some .string)(f:P.cellsOf e=1)(g:P.cellsOf t=n)(h:DataW.trod (λ_=>()) P w 0 (λ_=>true) false a t d=some (.agg (c.map λz=>.lit (.string z)),p)):∀(i:Nat) z,c[i]?=some z->d[i]?=some (.string ⟨z.toArray⟩):=by
 cases a with
 |zero=>simp[DataW.trod]at h
 |succ a=>
  simp only[DataW.trod,u,f,g,Nat.mul_one]at h;split at h
  ·rename_i C;obtain⟨k,l,v⟩:=nJ.1 h;have j:k.map (·.1)=c.map λz=>(DataW.lit (.string z):DataW Unit):=by have:=congrArg Prod.fst v;simpa using this
   have x:k.length=n:=by simpa using Lib.mapM_length l
   have A:c.length=n:=by have:=congrArg List.length j;simp at this;omega
   intro i z y;have hi:i<n:=by have:=(lQ.1 y).1;omega
   obtain⟨b,m,r⟩:=Lib.mapM_at l i i (by simp[hi]);obtain⟨s,o,rfl,_⟩:=DataW.trod_string q r;have h1:d[i]?=some (.string s):=by have:=congrArg (·[0]?) o;simpa[uz,Ao]using this
   have B:(k.map (·.1))[i]?=some (DataW.lit (.string s.data.toList):DataW Unit):=by simp[m]
   simp_all
  ·cases h
def TI:DataW Unit->List UInt8
 |.iface _ (.ptr (.agg [.lit (.string z)]))=>z
 |_=>[]
def txU(c:Nat):List UInt8:=TI (pD (c+8)).2
theorem O4 c d(h1:1<=c)(b:c<=7)(e:1<=d)(f:d<=7)(h:c≠d):txU c≠txU d:=by
 have a:((List.range 8).all λc=>(List.range 8).all λd=>c==d||c==0||d==0||txU c !=txU d)=true:=ns
 have g:=Kc.1 (Kc.1 a c (uA.2 dg)) d (uA.2 dg);grind
theorem lt_of_cell{W:World}{g}(h:W.cell? (aj g 0)≠none):g<W.heap.size:=by
 by_cases e:g<W.heap.size;·exact e
 ·exact absurd (by simp[World.cell?,Kz (KA e)]) h
theorem iL i(h:ft[i]?=some (pD i))(a:((pD i).2.handleName?).isNone=true):pD i∈ft.filter λx=>x.2.handleName?.isNone:=KF.2 ⟨Kx h,a⟩
theorem qY{W}(h:laidMet prog (ft.filter λx=>x.2.handleName?.isNone) W):Kn W:=by
 obtain⟨w,o,q,e⟩:=h;obtain⟨g,t,u,d,p,i,k,l,c,s⟩:=mW o (pD 8) (iL 8 ns ns);have f:prog.globalNamed (pD 8).1=some 8:=ns;have r:(prog.globals[8]?).map (·.type)=some 274:=ns
 obtain rfl:=kK (f.symm.trans i);obtain rfl:=kK (r.symm.trans k);have hd:(pD 8).2=.agg ((bU.map λb=>b.data.toList).map λz=>.lit (.string z)):=ns;rw[hd]at c;have a:=sQ (P:=prog) underlying274 underlying9 ns ns c;have n:bU.length=7:=by decide
 intro j v;have m:bU[j]?=some (bU[j]' dg):=dI _;rw[Ay f l j,<-Array.getElem?_toList,a j ((bU[j]' dg).data.toList) rd,m];rfl
theorem wZ{W}(h:handlesMet prog (ft.filter λx=>x.2.handleName?.isSome) W):vX W:=by
 have n:pD 5∈ft.filter λx=>x.2.handleName?.isSome:=KF.2 ⟨Kx (by kernel_rfl:ft[5]?=some (pD 5)),ns⟩;have d:=h (pD 5) n;have l:(pD 5).2.funcsIn?=none:=ns
 rw[l]at d;obtain⟨name,u,o,e,f,g,i,c⟩:=d;have j:name=[101,114,114,111,114]:=kK (e.symm.trans (by kernel_rfl:(pD 5).2.handleName?=some [101,114,114,111,114]));subst j;obtain rfl:258=u:=kK (Eq.trans ns f);have b:((List.range prog.types.size).filter λt=>prog.rowNamed t [101,114,114,111,114])=[83]:=ns
 have a:o∈(List.range prog.types.size).filter λt=>prog.rowNamed t [101,114,114,111,114]:=KF.2 ⟨uA.2 g,i⟩;rw[b]at a;obtain rfl:=lS.1 a;have hh:typeHandle prog 83=.pointer (some (aj 18 83)):=ns;rw[hh]at c;have m:prog.globalNamed (pD 5).1=some 6:=ns;have k:=Ay m c 0;refine⟨?_,by rw[k];rfl⟩;simp_all[lt_of_cell]
theorem xi{W}(h:laidMetH prog ft W):∃E,vY W E/\gM W E/\vX W:=by
 obtain⟨hd,hh⟩:=laidMetH_iff.1 h;obtain⟨v,F,l,t1,M,C⟩:=j_ hd (pD 9) (iL 9 ns ns) 0 _ ns ns (by rfl);obtain⟨w,G,m,t2,N,D⟩:=j_ hd (pD 10) (iL 10 ns ns) 7 _ ns ns (by rfl);obtain⟨x,H,n,t3,O,U⟩:=j_ hd (pD 11) (iL 11 ns ns) 1 _ ns ns (by rfl);obtain⟨y,I,o,t4,P,V⟩:=j_ hd (pD 12) (iL 12 ns ns) 2 _ ns ns (by rfl);obtain⟨z,J,p,t5,Q,X⟩:=j_ hd (pD 13) (iL 13 ns ns) 3 _ ns ns (by rfl);obtain⟨A,K,q,t6,R,Y⟩:=j_ hd (pD 14) (iL 14 ns ns) 4 _ ns ns (by rfl);obtain⟨B,L,r,t7,S,Z⟩:=j_ hd (pD 15) (iL 15 ns ns) 5 _ ns ns (by rfl);obtain⟨T,s8,g8,_⟩:=j_ hd (pD 7) (iL 7 ns ns) 13 _ ns ns (by rfl);have k:9<=W.heap.size:=by have q1:0<W.heap.size:=lt_of_cell (by rw[l];simp);have q2:7<W.heap.size:=lt_of_cell (by rw[m];simp);have q3:1<W.heap.size:=lt_of_cell (by rw[n];simp);have q4:2<W.heap.size:=lt_of_cell (by rw[o];simp);have q5:3<W.heap.size:=lt_of_cell (by rw[p];simp);have q6:4<W.heap.size:=lt_of_cell (by rw[q];simp);have q7:5<W.heap.size:=lt_of_cell (by rw[r];simp);have q8:8<W.heap.size:=lt_of_cell (by rw[qY hd 0 (by decide)];simp);omega
 have j:∀(a b:Addr) (s t:ByteArray),W.cell? a=some (.string s)->W.cell? b=some (.string t)->s.data.toList≠t.data.toList->a≠b:=λa b s t h1 f g e=>rd;let E:Nat->Addr:=λc=>match c with
  |1=>v
  |2=>w
  |3=>x
  |4=>y
  |5=>z
  |6=>A
  |_=>B;refine⟨E,⟨k,qY hd,l,m,n,o,p,q,r⟩,⟨λc h1 f=>?_,λc d h1 f g u i=>?_⟩,wZ hh⟩
 ·have:c=1\/c=2\/c=3\/c=4\/c=5\/c=6\/c=7:=dg
  rcases this with rfl|rfl|rfl|rfl|rfl|rfl|rfl;·exact C
  ·exact D
  all_goals omega
 ·have hS:∀c,1<=c->c<=7->∃s,W.cell? (E c)=some (.string s)/\s.data.toList=txU c:=λc h1 f=>by
   have:c=1\/c=2\/c=3\/c=4\/c=5\/c=6\/c=7:=dg;rcases this with rfl|rfl|rfl|rfl|rfl|rfl|rfl;·exact⟨F,t1,M⟩
   ·exact⟨G,t2,N⟩
   ·exact⟨H,t3,O⟩
   ·exact⟨I,t4,P⟩
   ·exact⟨J,t5,Q⟩
   ·exact⟨K,t6,R⟩
   ·exact⟨L,t7,S⟩
  obtain⟨s,u1,u2⟩:=hS c h1 f;obtain⟨t,v1,v2⟩:=hS d g u;exact j _ _ s t u1 v1 (by rw[u2,v2];exact O4 c d h1 f g u i)
