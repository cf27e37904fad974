import Derived.Test.YtehgehanbnkdiaaGreatDoorRows
import Derived.Test.YtehgehanbnkdiaaGreatDoorQ28
import Derived.LaidLaws
import Derived.LaidSub
import Derived.Lib.LaidTab
set_option linter.all false
set_option maxRecDepth 100000
set_option maxHeartbeats 16000000
namespace Go.Proofs.YtehgehanbnkdiaaGreatDoor
open Go.RowKit Go.Proofs.Tryz
section
open Go.ChangeShapes Go.WideShapes
def dL:List (String×DataW Unit):=Rows.paneForgetsRow.laid
def lm(i:Nat):String×DataW Unit:=(dL[i]?).getD ("",.nil)
def jh{P}{w}:∀{l} {c},DataW.LaidVars P w l c->∀x∈l,∃g t b a p,P.globalNamed x.1=some g/\(P.globals[g]?).map (·.type)=some t/\w.var? P x.1=some b/\DataW.trod (λ_=>()) P w 0 (λ_=>true) false a t b.toList=some (x.2,p)/\∀y∈MemPlace.row (aq g 0) b.size++p,y∈c
 |[],c,_,x,f=>by cases f
 |(n,d)::r,c,h,x,f=>by
  obtain⟨g,t,b,a,p,q,A,B,C,D,k,rfl⟩:=h;rcases kD.1 f with rfl|i;.grind
  .obtain⟨z,F,j,e,E,m,o,s,u,v⟩:=jh k x i;grind
def Gx:String:=match(lm 9).2 with
 |.iface n _=>n
 |_=>""
def OG u(h:prog.typeName? 3 u=some Gx):u=460:=
 typeName_ptr_named (P:=prog) (nm:="errors.errorString") pt pt (by decide) u (h.trans pt)
def jd{W:AT}{l:List (String×DataW Unit)}(h:laidMet prog l W)(x:String×DataW Unit)(F:x∈l)(g:Nat)(text:zzf)(i:prog.globalNamed x.1=some g)(E:(prog.globals[g]?).map (·.type)=some 133)(hd:x.2=.iface Gx (.ptr (.agg [.lit (.string text)]))):
 ∃a s,W.cell? (aq g 0)=some (aT a)/\W.cell? a=some (.string s)/\s.data.toList=text/\∃c t,W.heap[a.block]?=some (.cells c t (0,0)):=by
 obtain⟨H,A,B,b⟩:=h;obtain⟨G,t,o,q,p,r,w,k,m,n⟩:=jh A x F;obtain rfl:=ic (i.symm.trans r);obtain rfl:=ic (E.symm.trans w);rw[hd]at m;obtain⟨a,s,f,z,D,_,C⟩:=errorString_of_trod (P:=prog) (tp:=460) (te:=462) (ts:=9) underlying133 OG underlying460 underlying462 rfl rfl underlying9 pt pt m
  (λu v e=>by
   have j:o.size=1:=by have:=congrArg List.length e;simpa using this
   have d:=sR i k 0;have y:o[0]?=some (.iface u v):=by rw[<-Array.getElem?_toList,e];rfl
   exact(b g 0 (n _ (jA.2 (.inl (by rw[j];simp[MemPlace.row]))))).2 u v (by rw[d,y]));refine⟨a,s,?_,z,D,?_⟩;.rw[sR i k 0,<-Array.getElem?_toList,f];rfl
 .exact(b a.block a.off (n _ (jA.2 (.inr (by rw[C];simp[MemPlace.row]))))).1
def qS{P}{w}{a}{t e}{n}{d}{c:List (List UInt8)}{p}(u:P.underlying t=some (.array n e))(q:P.underlying e=some .string)(f:P.cellsOf e=1)(g:P.cellsOf t=n)(h:DataW.trod (λ_=>()) P w 0 (λ_=>true) false a t d=some (.agg (c.map λz=>.lit (.string z)),p)):∀(i:Nat) z,c[i]?=some z->d[i]?=some (.string ⟨z.toArray⟩):=by
 cases a with
 |zero=>simp[DataW.trod]at h
 |succ a=>
  simp only[DataW.trod,u,f,g,C6]at h;split at h
  .rename_i D;obtain⟨k,l,v⟩:=jy.1 h;have j:k.map (·.1)=c.map λz=>(DataW.lit (.string z):DataW Unit):=by have:=congrArg Prod.fst v;simpa using this
   have x:k.length=n:=by simpa using Lib.mapM_length l
   have A:c.length=n:=by have:=congrArg List.length j;simp at this;omega
   intro i z y;have hi:i<n:=by have:=(nP.1 y).1;omega
   obtain⟨b,m,r⟩:=Lib.mapM_at l i i (by simp[hi]);obtain⟨s,o,rfl,_⟩:=DataW.trod_string q r;have B:d[i]?=some (.string s):=by have:=congrArg (·[0]?) o;simpa[qI,CY]using this
   have C:(k.map (·.1))[i]?=some (DataW.lit (.string s.data.toList):DataW Unit):=by simp[m]
   simp_all
  .cases h
def Uu:DataW Unit->List UInt8
 |.iface _ (.ptr (.agg [.lit (.string z)]))=>z
 |_=>[]
def txU(c:Nat):List UInt8:=Uu (lm (c+8)).2
def PH c d(b:1<=c)(e:c<=7)(f:1<=d)(g:d<=7)(h:c≠d):txU c≠txU d:=by have a:((List.range 8).all λc=>(List.range 8).all λd=>c==d||c==0||d==0||txU c !=txU d)=true:=pt;have i:=Ck.1 (Ck.1 a c (xQ.2 dg)) d (xQ.2 dg);grind
theorem lt_of_cell{W:AT}{g}(h:W.cell? (aq g 0)≠none):g<W.heap.size:=by
 by_cases e:g<W.heap.size;.exact e
 .exact absurd (by simp[World.cell?,C0 (C' e)]) h
def fX i(h:dL[i]?=some (lm i))(a:((lm i).2.handleName?).isNone=true):lm i∈dL.filter λx=>x.2.handleName?.isNone:=xR.2 ⟨nQ h,a⟩
def pM{W}(h:laidMet prog (dL.filter λx=>x.2.handleName?.isNone) W):Kn W:=by
 obtain⟨w,o,q,e⟩:=h;obtain⟨g,t,u,d,p,i,k,l,c,s⟩:=jh o (lm 8) (fX 8 pt pt);have f:prog.globalNamed (lm 8).1=some 8:=pt;have r:(prog.globals[8]?).map (·.type)=some 328:=pt;obtain rfl:=ic (f.symm.trans i);obtain rfl:=ic (r.symm.trans k);have hd:(lm 8).2=.agg ((cK.map λb=>b.data.toList).map λz=>.lit (.string z)):=pt;rw[hd]at c;have a:=qS (P:=prog) underlying328 underlying9 pt pt c;have n:cK.length=7:=by decide
 intro j v;have m:cK[j]?=some (cK[j]' dg):=da _;rw[sR f l j,<-Array.getElem?_toList,a j ((cK[j]' dg).data.toList) rn,m];rfl
def uW{W}(h:handlesMet prog (dL.filter λx=>x.2.handleName?.isSome) W):qJ W:=by have n:lm 5∈dL.filter λx=>x.2.handleName?.isSome:=xR.2 ⟨nQ (by kernel_rfl:dL[5]?=some (lm 5)),pt⟩;have d:=h (lm 5) n;have l:(lm 5).2.funcsIn?=none:=pt;rw[l]at d;obtain⟨name,u,o,e,f,g,i,c⟩:=d;have j:name=[101,114,114,111,114]:=ic (e.symm.trans (by kernel_rfl:(lm 5).2.handleName?=some [101,114,114,111,114]));subst j;obtain rfl:312=u:=ic (Eq.trans pt f);have b:((List.range prog.types.size).filter λt=>prog.rowNamed t [101,114,114,111,114])=[133]:=pt;have a:o∈(List.range prog.types.size).filter λt=>prog.rowNamed t [101,114,114,111,114]:=xR.2 ⟨xQ.2 g,i⟩;rw[b]at a;obtain rfl:=CF.1 a;have hh:typeHandle prog 133=.pointer (some (aq 18 133)):=pt;rw[hh]at c;have m:prog.globalNamed (lm 5).1=some 6:=pt;have k:=sR m c 0;refine⟨?_,by rw[k];rfl⟩;simp_all[lt_of_cell]
def vd{W}(h:laidMetH prog dL W):∃E,qK W E/\ee W E/\qJ W:=by
 obtain⟨hd,hh⟩:=laidMetH_iff.1 h;obtain⟨w,G,m,t1,N,D⟩:=jd hd (lm 9) (fX 9 pt pt) 0 _ pt pt (by rfl);obtain⟨x,H,n,t2,O,F⟩:=jd hd (lm 10) (fX 10 pt pt) 7 _ pt pt (by rfl);obtain⟨y,I,o,t3,P,V⟩:=jd hd (lm 11) (fX 11 pt pt) 1 _ pt pt (by rfl);obtain⟨z,J,p,t4,Q,X⟩:=jd hd (lm 12) (fX 12 pt pt) 2 _ pt pt (by rfl);obtain⟨A,K,q,t5,R,Y⟩:=jd hd (lm 13) (fX 13 pt pt) 3 _ pt pt (by rfl);obtain⟨B,L,r,t6,S,Z⟩:=jd hd (lm 14) (fX 14 pt pt) 4 _ pt pt (by rfl);obtain⟨C,M,u,t7,T,b7⟩:=jd hd (lm 15) (fX 15 pt pt) 5 _ pt pt (by rfl);obtain⟨U,s8,g8,_⟩:=jd hd (lm 7) (fX 7 pt pt) 14 _ pt pt (by rfl);have l:9<=W.heap.size:=by have q1:0<W.heap.size:=lt_of_cell (by rw[m];simp);have q2:7<W.heap.size:=lt_of_cell (by rw[n];simp);have q3:1<W.heap.size:=lt_of_cell (by rw[o];simp);have q4:2<W.heap.size:=lt_of_cell (by rw[p];simp);have q5:3<W.heap.size:=lt_of_cell (by rw[q];simp);have q6:4<W.heap.size:=lt_of_cell (by rw[r];simp);have q7:5<W.heap.size:=lt_of_cell (by rw[u];simp);have q8:8<W.heap.size:=lt_of_cell (by rw[pM hd 0 (by decide)];simp);omega
 have k:∀(a b:Addr) (s t:BY),W.cell? a=some (.string s)->W.cell? b=some (.string t)->s.data.toList≠t.data.toList->a≠b:=λa b s t f g i e=>rn;let E:Nat->Addr:=λc=>match c with
  |1=>w
  |2=>x
  |3=>y
  |4=>z
  |5=>A
  |6=>B
  |_=>C;refine⟨E,⟨l,pM hd,m,n,o,p,q,r,u⟩,⟨λc f g=>?_,λc d f g i v j=>?_⟩,uW hh⟩
 .have:c=1\/c=2\/c=3\/c=4\/c=5\/c=6\/c=7:=dg;rcases this with rfl|rfl|rfl|rfl|rfl|rfl|rfl;.exact D
  .exact F
  all_goals omega
 .have hS:∀c,1<=c->c<=7->∃s,W.cell? (E c)=some (.string s)/\s.data.toList=txU c:=λc f g=>by
   have:c=1\/c=2\/c=3\/c=4\/c=5\/c=6\/c=7:=dg;rcases this with rfl|rfl|rfl|rfl|rfl|rfl|rfl;.exact⟨G,t1,N⟩
   .exact⟨H,t2,O⟩
   .exact⟨I,t3,P⟩
   .exact⟨J,t4,Q⟩
   .exact⟨K,t5,R⟩
   .exact⟨L,t6,S⟩
   .exact⟨M,t7,T⟩
  obtain⟨s,u1,u2⟩:=hS c f g;obtain⟨t,v1,v2⟩:=hS d i v;exact k _ _ s t u1 v1 (by rw[u2,v2];exact PH c d f g i v j)
