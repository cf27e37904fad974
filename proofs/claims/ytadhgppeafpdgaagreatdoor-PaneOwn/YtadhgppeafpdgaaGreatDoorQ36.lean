import Derived.Test.YtadhgppeafpdgaaGreatDoorRows
import Derived.Test.YtadhgppeafpdgaaGreatDoorQ21
import Derived.LaidLaws
import Derived.LaidSub
import Derived.Lib.LaidTab
set_option linter.all false
set_option maxRecDepth 100000
set_option maxHeartbeats 16000000
namespace Go.Proofs.YtadhgppeafpdgaaGreatDoor
open Go.RowKit Go.Proofs.Tryz
section
open Go.ChangeShapes Go.WideShapes
def dK:List (String×DataW Unit):=Rows.paneOwnRow.laid
def kW (i:Nat):String×DataW Unit:=(dK[i]?).getD ("",.nil)
theorem iS{P}{w}:∀{l} {ps},DataW.LaidVars P w l ps->∀x∈l,∃g t cs fuel p,P.globalNamed x.1=some g/\(P.globals[g]?).map (·.type)=some t/\w.var? P x.1=some cs/\DataW.trod (fun _=>()) P w 0 (fun _=>true) false fuel t cs.toList=some (x.2,p)/\∀y∈MemPlace.row (aq g 0) cs.size++p,y∈ps
 |[],ps,_,x,hx=>by cases hx
 |(n,d)::r,ps,h,x,hx=>by
  obtain⟨g,t,cs,fuel,p,q,h1,h2,h3,h4,h5,rfl⟩:=h;rcases ja.1 hx with rfl|hx';·grind
  ·obtain⟨g',t',cs',zjG,p',a1,a2,a3,a4,a5⟩:=iS h5 x hx';grind
def N7:String:=match(kW 9).2 with
 |.iface n _=>n
 |_=>""
theorem XT  u  (h:prog.typeName? 3 u=some N7):u=371:=
 typeName_ptr_named (P:=prog) (nm:="errors.errorString") (by kernel_rfl) (by kernel_rfl) (by decide) u (h.trans (by kernel_rfl))
theorem lp{W:World}{l:List (String×DataW Unit)}(h:laidMet prog l W)(x:String×DataW Unit)(hx:x∈l)(g:Nat)(text:List UInt8)(hg:prog.globalNamed x.1=some g)(ht:(prog.globals[g]?).map (·.type)=some 87)
 (hd:x.2=.iface N7 (.ptr (.agg [.lit (.string text)]))):
 ∃a s,W.cell? (aq g 0)=some (aT a)/\W.cell? a=some (.string s)/\s.data.toList=text/\∃c t,W.heap[a.block]?=some (.cells c t (0,0)):=by
 obtain⟨ps,hl,gC,fU⟩:=h;obtain⟨g',t,cs,fuel,p,a1,a2,a3,a4,a5⟩:=iS hl x hx;obtain rfl:=gZ (hg.symm.trans a1);obtain rfl:=gZ (ht.symm.trans a2);rw[hd]at a4;obtain⟨a,s,iD,hc,hs,_,hp⟩:=errorString_of_trod (P:=prog) (tp:=371) (te:=373) (ts:=9) underlying87 XT underlying371 underlying373 rfl rfl underlying9 (by kernel_rfl) (by kernel_rfl) a4
  (fun u v e=>by
   have eV:cs.size=1:=by have:=congrArg List.length e;simpa using this
   have gT:=rZ hg a3 0;have e0:cs[0]?=some (.iface u v):=by rw[<-Array.getElem?_toList,e];rfl
   exact(fU g 0 (a5 _ (lX.2 (.inl (by rw[eV];simp[MemPlace.row]))))).2 u v (by rw[gT,e0]));refine⟨a,s,?_,hc,hs,?_⟩;·rw[rZ hg a3 0,<-Array.getElem?_toList,iD];rfl
 ·exact(fU a.block a.off (a5 _ (lX.2 (.inr (by rw[hp];simp[MemPlace.row]))))).1
theorem wh{P}{w}{fuel}{t e}{n}{cs}{zs:List (List UInt8)}{p}
 (ht:P.underlying t=some (.array n e)) (he:P.underlying e=some .string) (Z7:P.cellsOf e=1) (Wl:P.cellsOf t=n)
 (h:DataW.trod (fun _=>()) P w 0 (fun _=>true) false fuel t cs=some (.agg (zs.map fun z=>.lit (.string z)),p)):∀(i:Nat) z,zs[i]?=some z->cs[i]?=some (.string ⟨z.toArray⟩):=by
 cases fuel with
 |zero=>simp[DataW.trod]at h
 |succ fuel=>
  simp only[DataW.trod,ht,Z7,Wl,Ea]at h;split at h
  ·rename_i hl;obtain⟨xs,hm,hx⟩:=kP.1 h;have hxs:xs.map (·.1)=zs.map fun z=>(DataW.lit (.string z):DataW Unit):=by have:=congrArg Prod.fst hx;simpa using this
   have WA:xs.length=n:=by simpa using Lib.mapM_length hm
   have _E:zs.length=n:=by have:=congrArg List.length hxs;simp at this;omega
   intro i z hz;have hi:i<n:=by have:=(np.1 hz).1;omega
   obtain⟨b,hb,hf⟩:=Lib.mapM_at hm i i (by simp[hi]);obtain⟨s,hc,rfl,_⟩:=DataW.trod_string he hf;have h1:cs[i]?=some (.string s):=by have:=congrArg (·[0]?) hc;simpa[iq,yn]using this
   have h2:(xs.map (·.1))[i]?=some (DataW.lit (.string s.data.toList):DataW Unit):=by simp[hb]
   simp_all
  ·cases h
def zid:DataW Unit->List UInt8
 |.iface _ (.ptr (.agg [.lit (.string z)]))=>z
 |_=>[]
def txU(c:Nat):List UInt8:=zid (kW (c+8)).2
theorem Zp  c d  (h1:1<=c) (h2:c<=7) (h3:1<=d) (h4:d<=7) (h:c≠d):txU c≠txU d:=by
 have key:((List.range 8).all fun c=>(List.range 8).all fun d=>c==d||c==0||d==0||txU c !=txU d)=true:=by kernel_rfl
 have k1:=QV.1 (QV.1 key c (Ed.2 (by omega))) d (Ed.2 (by omega));grind
theorem lt_of_cell{W:World}{g}(h:W.cell? (aq g 0)≠none):g<W.heap.size:=by
 by_cases e:g<W.heap.size;·exact e
 ·exact absurd (by simp[World.cell?,Je (Jf e)]) h
theorem gE  i  (h:dK[i]?=some (kW i)) (hn:((kW i).2.handleName?).isNone=true):kW i∈dK.filter fun x=>x.2.handleName?.isNone:=Ee.2 ⟨Rf h,hn⟩
theorem uL{W}(h:laidMet prog (dK.filter fun x=>x.2.handleName?.isNone) W):Kn W:=by
 obtain⟨ps,hl,gC,fU⟩:=h;obtain⟨g,t,cs,fuel,p,a1,a2,a3,a4,a5⟩:=iS hl (kW 8) (gE 8 (by kernel_rfl) (by kernel_rfl));have hg:prog.globalNamed (kW 8).1=some 11:=by kernel_rfl
 have ht:(prog.globals[11]?).map (·.type)=some 255:=by kernel_rfl
 obtain rfl:=gZ (hg.symm.trans a1);obtain rfl:=gZ (ht.symm.trans a2);have hd:(kW 8).2=.agg ((eh.map fun b=>b.data.toList).map fun z=>.lit (.string z)):=by kernel_rfl
 rw[hd]at a4;have key:=wh (P:=prog) underlying255 underlying9 (by kernel_rfl) (by kernel_rfl) a4;have cZ:eh.length=7:=by decide
 intro j hj;have hk:eh[j]?=some (eh[j]'(by omega)):=di _;rw[rZ hg a3 j,<-Array.getElem?_toList,key j ((eh[j]'(by omega)).data.toList) (by grind),hk];rfl
theorem Br{W}(h:handlesMet prog (dK.filter fun x=>x.2.handleName?.isSome) W):xd W:=by
 have hm:kW 5∈dK.filter fun x=>x.2.handleName?.isSome:=Ee.2 ⟨Rf (by kernel_rfl:dK[5]?=some (kW 5)),by kernel_rfl⟩;have h3:=h (kW 5) hm;have hf:(kW 5).2.funcsIn?=none:=by kernel_rfl
 rw[hf]at h3;obtain⟨name,u,ty,e1,e2,e3,e4,e5⟩:=h3;have en:name=[101,114,114,111,114]:=gZ (e1.symm.trans (by kernel_rfl:(kW 5).2.handleName?=some [101,114,114,111,114]));subst en;obtain rfl:239=u:=gZ (Eq.trans (by kernel_rfl) e2);have OM:((List.range prog.types.size).filter fun t=>prog.rowNamed t [101,114,114,111,114])=[87]:=by kernel_rfl
 have Fa:ty∈(List.range prog.types.size).filter fun t=>prog.rowNamed t [101,114,114,111,114]:=Ee.2 ⟨Ed.2 e3,e4⟩;rw[OM]at Fa;obtain rfl:=pI.1 Fa;have hh:typeHandle prog 87=.pointer (some (aq 18 87)):=by kernel_rfl
 rw[hh]at e5;have hg:prog.globalNamed (kW 5).1=some 8:=by kernel_rfl
 have hc:=rZ hg e5 0;refine⟨?_,by rw[hc];rfl⟩;simp_all[lt_of_cell]
theorem BH{W}(h:laidMetH prog dK W):∃E,xe W E/\gj W E/\xd W:=by
 obtain⟨hd,hh⟩:=laidMetH_iff.1 h;obtain⟨a1,s1,g1,t1,x1,b1⟩:=lp hd (kW 9) (gE 9 (by kernel_rfl) (by kernel_rfl)) 0 _ (by kernel_rfl) (by kernel_rfl) (by rfl);obtain⟨a2,s2,g2,t2,x2,b2⟩:=lp hd (kW 10) (gE 10 (by kernel_rfl) (by kernel_rfl)) 9 _ (by kernel_rfl) (by kernel_rfl) (by rfl);obtain⟨a3,s3,g3,t3,x3,b3⟩:=lp hd (kW 11) (gE 11 (by kernel_rfl) (by kernel_rfl)) 1 _ (by kernel_rfl) (by kernel_rfl) (by rfl);obtain⟨a4,s4,g4,t4,x4,b4⟩:=lp hd (kW 12) (gE 12 (by kernel_rfl) (by kernel_rfl)) 2 _ (by kernel_rfl) (by kernel_rfl) (by rfl);obtain⟨a5,s5,g5,t5,x5,b5⟩:=lp hd (kW 13) (gE 13 (by kernel_rfl) (by kernel_rfl)) 3 _ (by kernel_rfl) (by kernel_rfl) (by rfl);obtain⟨a6,s6,g6,t6,x6,b6⟩:=lp hd (kW 14) (gE 14 (by kernel_rfl) (by kernel_rfl)) 4 _ (by kernel_rfl) (by kernel_rfl) (by rfl);obtain⟨a7,s7,g7,t7,x7,b7⟩:=lp hd (kW 15) (gE 15 (by kernel_rfl) (by kernel_rfl)) 5 _ (by kernel_rfl) (by kernel_rfl) (by rfl);obtain⟨a8,s8,g8,_⟩:=lp hd (kW 7) (gE 7 (by kernel_rfl) (by kernel_rfl)) 14 _ (by kernel_rfl) (by kernel_rfl) (by rfl);have eV:12<=W.heap.size:=by have q1:0<W.heap.size:=lt_of_cell (by rw[g1];simp);have q2:9<W.heap.size:=lt_of_cell (by rw[g2];simp);have q3:1<W.heap.size:=lt_of_cell (by rw[g3];simp);have q4:2<W.heap.size:=lt_of_cell (by rw[g4];simp);have q5:3<W.heap.size:=lt_of_cell (by rw[g5];simp);have q6:4<W.heap.size:=lt_of_cell (by rw[g6];simp);have q7:5<W.heap.size:=lt_of_cell (by rw[g7];simp);have q8:11<W.heap.size:=lt_of_cell (by rw[uL hd 0 (by decide)];simp);omega
 have bj:∀(a b:Addr) (s t:ByteArray),W.cell? a=some (.string s)->W.cell? b=some (.string t)->s.data.toList≠t.data.toList->a≠b:=fun a b s t h1 h2 h3 e=>by grind
 let E:Nat->Addr:=fun c=>match c with
  |1=>a1
  |2=>a2
  |3=>a3
  |4=>a4
  |5=>a5
  |6=>a6
  |_=>a7;refine⟨E,⟨eV,uL hd,g1,g2,g3,g4,g5,g6,g7⟩,⟨fun c h1 h2=>?_,fun c d h1 h2 h3 h4 Wj=>?_⟩,Br hh⟩
 ·have:c=1\/c=2\/c=3\/c=4\/c=5\/c=6\/c=7:=by omega
  rcases this with rfl|rfl|rfl|rfl|rfl|rfl|rfl;·exact b1
  ·exact b2
  all_goals omega
 ·have hS:∀c,1<=c->c<=7->∃s,W.cell? (E c)=some (.string s)/\s.data.toList=txU c:=fun c h1 h2=>by
   have:c=1\/c=2\/c=3\/c=4\/c=5\/c=6\/c=7:=by omega
   rcases this with rfl|rfl|rfl|rfl|rfl|rfl|rfl;·exact⟨s1,t1,x1⟩
   ·exact⟨s2,t2,x2⟩
   ·exact⟨s3,t3,x3⟩
   ·exact⟨s4,t4,x4⟩
   ·exact⟨s5,t5,x5⟩
   ·exact⟨s6,t6,x6⟩
   ·exact⟨s7,t7,x7⟩
  obtain⟨s,u1,u2⟩:=hS c h1 h2;obtain⟨t,v1,v2⟩:=hS d h3 h4;exact bj _ _ s t u1 v1 (by rw[u2,v2];exact Zp c d h1 h2 h3 h4 Wj)
