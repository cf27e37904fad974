import Derived.Test.YtmbefonnkkhfgaaGreatDoorRows
import Derived.Test.YtmbefonnkkhfgaaGreatDoorQ32
import Derived.LaidLaws
import Derived.LaidSub
import Derived.LaidHandle
import Derived.Lib.LaidTab
set_option linter.unusedVariables false
set_option maxRecDepth 100000
set_option maxHeartbeats 16000000
namespace Go.Proofs.YtmbefonnkkhfgaaGreatDoor
section
open Go.ChangeShapes Go.WideShapes Go.RowKit Go.Proofs.Tryz
def laids:List (String×DataW Unit):=Rows.paintPairsRow.laid
def lay (i:Nat):String×DataW Unit:=(laids[i]?).getD ("",.nil)
theorem laid_mem{P:Program}{w:World}:∀{l:List (String×DataW Unit)} {ps:List MemPlace},DataW.LaidVars P w l ps->∀x∈l,∃g t cs fuel p,P.globalNamed x.1=some g∧(P.globals[g]?).map (·.type)=some t∧w.var? P x.1=some cs∧DataW.trod (fun _=>()) P w 0 (fun _=>true) false fuel t cs.toList=some (x.2,p)∧∀y∈MemPlace.row ⟨g,0,none⟩ cs.size++p,y∈ps
 |[],ps,_,x,hx=>by cases hx
 |(n,d)::r,ps,h,x,hx=>by
  obtain⟨g,t,cs,fuel,p,q,h1,h2,h3,h4,h5,rfl⟩:=h;rcases List.mem_cons.1 hx with rfl|hx';·exact⟨g,t,cs,fuel,p,h1,h2,h3,h4,fun y hy=>List.mem_append.2 (.inl hy)⟩
  ·obtain⟨g',t',cs',fuel',p',a1,a2,a3,a4,a5⟩:=laid_mem h5 x hx';exact⟨g',t',cs',fuel',p',a1,a2,a3,a4,fun y hy=>List.mem_append.2 (.inr (a5 y hy))⟩
def esName:String:=match(lay 9).2 with
 |.iface n _=>n
 |_=>""
theorem esType(u:TypeId)(h:prog.typeName? 3 u=some esName):u=311:=
 typeName_ptr_named (P:=prog) (nm:="errors.errorString") (by kernel_rfl) (by kernel_rfl) (by decide) u (h.trans (by kernel_rfl))
theorem err_at{W:World}{l:List (String×DataW Unit)}(h:laidMet prog l W)(x:String×DataW Unit)(hx:x∈l)(g:Nat)(text:List UInt8)(hg:prog.globalNamed x.1=some g)(ht:(prog.globals[g]?).map (·.type)=some 81)
 (hd:x.2=.iface esName (.ptr (.agg [.lit (.string text)]))):
 ∃a s,W.cell? ⟨g,0,none⟩=some (errV a)∧W.cell? a=some (.string s)∧s.data.toList=text∧∃c t,W.heap[a.block]?=some (.cells c t (0,0)):=by
 obtain⟨ps,hl,hnd,hall⟩:=h;obtain⟨g',t,cs,fuel,p,a1,a2,a3,a4,a5⟩:=laid_mem hl x hx;obtain rfl:=Option.some.inj (hg.symm.trans a1);obtain rfl:=Option.some.inj (ht.symm.trans a2);rw[hd]at a4;obtain⟨a,s,hcs,hc,hs,_,hp⟩:=errorString_of_trod (P:=prog) (tp:=311) (te:=313) (ts:=9) underlying81 esType underlying311 underlying313 rfl rfl underlying9 (by kernel_rfl) (by kernel_rfl) a4
  (fun u v e=>by
   have hsz:cs.size=1:=by have:=congrArg List.length e;simpa using this
   have hcell:=World.var?_cell hg a3 0;have e0:cs[0]?=some (.iface u v):=by rw[<-Array.getElem?_toList,e];rfl
   exact(hall g 0 (a5 _ (List.mem_append.2 (.inl (by rw[hsz];simp[MemPlace.row]))))).2 u v (by rw[hcell,e0]));refine⟨a,s,?_,hc,hs,?_⟩;·rw[World.var?_cell hg a3 0,<-Array.getElem?_toList,hcs];rfl
 ·exact(hall a.block a.off (a5 _ (List.mem_append.2 (.inr (by rw[hp];simp[MemPlace.row]))))).1
theorem cells_of_strs{P:Program}{w:World}{fuel:Nat}{t e:TypeId}{n:Nat}{cs:List Value}{zs:List (List UInt8)}{p:List MemPlace}
 (ht:P.underlying t=some (.array n e)) (he:P.underlying e=some .string) (hce:P.cellsOf e=1) (hct:P.cellsOf t=n)
 (h:DataW.trod (fun _=>()) P w 0 (fun _=>true) false fuel t cs=some (.agg (zs.map fun z=>.lit (.string z)),p)):∀(i:Nat) z,zs[i]?=some z->cs[i]?=some (.string ⟨z.toArray⟩):=by
 cases fuel with
 |zero=>simp[DataW.trod]at h
 |succ fuel=>
  simp only[DataW.trod,ht,hce,hct,Nat.mul_one]at h;split at h
  ·rename_i hl;obtain⟨xs,hm,hx⟩:=Option.map_eq_some_iff.1 h;have hxs:xs.map (·.1)=zs.map fun z=>(DataW.lit (.string z):DataW Unit):=by have:=congrArg Prod.fst hx;simpa using this
   have hxl:xs.length=n:=by simpa using Lib.mapM_length hm
   have hzl:zs.length=n:=by have:=congrArg List.length hxs;simp at this;omega
   intro i z hz;have hi:i<n:=by have:=(List.getElem?_eq_some_iff.1 hz).1;omega
   obtain⟨b,hb,hf⟩:=Lib.mapM_at hm i i (by simp[hi]);obtain⟨s,hc,rfl,_⟩:=DataW.trod_string he hf;have h1:cs[i]?=some (.string s):=by have:=congrArg (·[0]?) hc;simpa[List.getElem?_take,List.getElem?_drop]using this
   have h2:(xs.map (·.1))[i]?=some (DataW.lit (.string s.data.toList):DataW Unit):=by simp[hb]
   rw[hxs,List.getElem?_map,hz]at h2;have h3:z=s.data.toList:=by simp only[Option.map_some,Option.some.injEq,DataW.lit.injEq,Lit.string.injEq]at h2;exact h2
   rw[h1,h3]
  ·cases h
def txOf:DataW Unit->List UInt8
 |.iface _ (.ptr (.agg [.lit (.string z)]))=>z
 |_=>[]
def txU(c:Nat):List UInt8:=txOf (lay (c+8)).2
theorem tx_inj(c d:Nat)(h1:1≤c)(h2:c≤7)(h3:1≤d)(h4:d≤7)(h:c≠d):txU c≠txU d:=by
 have key:((List.range 8).all fun c=>(List.range 8).all fun d=>c==d||c==0||d==0||txU c !=txU d)=true:=by kernel_rfl
 have k1:=List.all_eq_true.1 (List.all_eq_true.1 key c (List.mem_range.2 (by omega))) d (List.mem_range.2 (by omega));intro he;rw[he]at k1;simp at k1;omega
theorem lt_of_cell{W:World}{g:Nat}(h:W.cell? ⟨g,0,none⟩≠none):g<W.heap.size:=by
 by_cases e:g<W.heap.size;·exact e
 ·exact absurd (by simp[World.cell?,Array.getElem?_eq_none (Nat.le_of_not_lt e)]) h
theorem lay_in(i:Nat)(h:laids[i]?=some (lay i))(hn:((lay i).2.handleName?).isNone=true):lay i∈laids.filter fun x=>x.2.handleName?.isNone:=List.mem_filter.2 ⟨List.mem_of_getElem? h,hn⟩
theorem kn_of_laid{W:World}(h:laidMet prog (laids.filter fun x=>x.2.handleName?.isNone) W):Kn W:=by
 obtain⟨ps,hl,hnd,hall⟩:=h;obtain⟨g,t,cs,fuel,p,a1,a2,a3,a4,a5⟩:=laid_mem hl (lay 8) (lay_in 8 (by kernel_rfl) (by kernel_rfl));have hg:prog.globalNamed (lay 8).1=some 9:=by kernel_rfl
 have ht:(prog.globals[9]?).map (·.type)=some 231:=by kernel_rfl
 obtain rfl:=Option.some.inj (hg.symm.trans a1);obtain rfl:=Option.some.inj (ht.symm.trans a2);have hd:(lay 8).2=.agg ((kindsL.map fun b=>b.data.toList).map fun z=>.lit (.string z)):=by kernel_rfl
 rw[hd]at a4;have key:=cells_of_strs (P:=prog) underlying231 underlying9 (by kernel_rfl) (by kernel_rfl) a4;have hkl:kindsL.length=7:=by decide
 intro j hj;have hk:kindsL[j]?=some (kindsL[j]'(by omega)):=List.getElem?_eq_getElem _;rw[World.var?_cell hg a3 j,<-Array.getElem?_toList,key j ((kindsL[j]'(by omega)).data.toList) (by rw[List.getElem?_map,hk];rfl),hk];rfl
theorem ert_of_laid{W:World}(h:handlesMet prog (laids.filter fun x=>x.2.handleName?.isSome) W):ErT W:=by
 have hm:lay 5∈laids.filter fun x=>x.2.handleName?.isSome:=List.mem_filter.2 ⟨List.mem_of_getElem? (by kernel_rfl:laids[5]?=some (lay 5)),by kernel_rfl⟩;have h3:=h (lay 5) hm;have hf:(lay 5).2.funcsIn?=none:=by kernel_rfl
 rw[hf]at h3;obtain⟨name,u,ty,e1,e2,e3,e4,e5⟩:=h3;have en:name=[101,114,114,111,114]:=Option.some.inj (e1.symm.trans (by kernel_rfl:(lay 5).2.handleName?=some [101,114,114,111,114]));subst en;obtain rfl:215=u:=Option.some.inj (Eq.trans (by kernel_rfl) e2);have hone:((List.range prog.types.size).filter fun t=>prog.rowNamed t [101,114,114,111,114])=[81]:=by kernel_rfl
 have hmem:ty∈(List.range prog.types.size).filter fun t=>prog.rowNamed t [101,114,114,111,114]:=List.mem_filter.2 ⟨List.mem_range.2 e3,e4⟩;rw[hone]at hmem;obtain rfl:=List.mem_singleton.1 hmem;have hh:typeHandle prog 81=.pointer (some ⟨18,81,none⟩):=by kernel_rfl
 rw[hh]at e5;have hg:prog.globalNamed (lay 5).1=some 7:=by kernel_rfl
 have hc:=World.var?_cell hg e5 0;refine⟨?_,by rw[hc];rfl⟩;have:W.cell? ⟨7,0,none⟩≠none:=by rw[hc];simp
 exact lt_of_cell this
theorem glo_of_laid{W:World}(h:laidMetH prog laids W):∃E,Glo W E∧Apart W E∧ErT W:=by
 obtain⟨hd,hh⟩:=laidMetH_iff.1 h;obtain⟨a1,s1,g1,t1,x1,b1⟩:=err_at hd (lay 9) (lay_in 9 (by kernel_rfl) (by kernel_rfl)) 0 _ (by kernel_rfl) (by kernel_rfl) (by rfl);obtain⟨a2,s2,g2,t2,x2,b2⟩:=err_at hd (lay 10) (lay_in 10 (by kernel_rfl) (by kernel_rfl)) 8 _ (by kernel_rfl) (by kernel_rfl) (by rfl);obtain⟨a3,s3,g3,t3,x3,b3⟩:=err_at hd (lay 11) (lay_in 11 (by kernel_rfl) (by kernel_rfl)) 1 _ (by kernel_rfl) (by kernel_rfl) (by rfl);obtain⟨a4,s4,g4,t4,x4,b4⟩:=err_at hd (lay 12) (lay_in 12 (by kernel_rfl) (by kernel_rfl)) 2 _ (by kernel_rfl) (by kernel_rfl) (by rfl);obtain⟨a5,s5,g5,t5,x5,b5⟩:=err_at hd (lay 13) (lay_in 13 (by kernel_rfl) (by kernel_rfl)) 3 _ (by kernel_rfl) (by kernel_rfl) (by rfl);obtain⟨a6,s6,g6,t6,x6,b6⟩:=err_at hd (lay 14) (lay_in 14 (by kernel_rfl) (by kernel_rfl)) 4 _ (by kernel_rfl) (by kernel_rfl) (by rfl);obtain⟨a7,s7,g7,t7,x7,b7⟩:=err_at hd (lay 15) (lay_in 15 (by kernel_rfl) (by kernel_rfl)) 5 _ (by kernel_rfl) (by kernel_rfl) (by rfl);obtain⟨a8,s8,g8,_⟩:=err_at hd (lay 7) (lay_in 7 (by kernel_rfl) (by kernel_rfl)) 13 _ (by kernel_rfl) (by kernel_rfl) (by rfl);have hsz:10≤W.heap.size:=by have q1:0<W.heap.size:=lt_of_cell (by rw[g1];simp);have q2:8<W.heap.size:=lt_of_cell (by rw[g2];simp);have q3:1<W.heap.size:=lt_of_cell (by rw[g3];simp);have q4:2<W.heap.size:=lt_of_cell (by rw[g4];simp);have q5:3<W.heap.size:=lt_of_cell (by rw[g5];simp);have q6:4<W.heap.size:=lt_of_cell (by rw[g6];simp);have q7:5<W.heap.size:=lt_of_cell (by rw[g7];simp);have q8:9<W.heap.size:=lt_of_cell (by rw[kn_of_laid hd 0 (by decide)];simp);omega
 have hne:∀(a b:Addr) (s t:ByteArray),W.cell? a=some (.string s)->W.cell? b=some (.string t)->s.data.toList≠t.data.toList->a≠b:=fun a b s t h1 h2 h3 e=>by subst e;rw[h1]at h2;injection h2 with h2;injection h2 with h2;exact h3 (by rw[h2])
 let E:Nat->Addr:=fun c=>match c with
  |1=>a1
  |2=>a2
  |3=>a3
  |4=>a4
  |5=>a5
  |6=>a6
  |_=>a7;refine⟨E,⟨hsz,kn_of_laid hd,g1,g2,g3,g4,g5,g6,g7⟩,⟨fun c h1 h2=>?_,fun c d h1 h2 h3 h4 hcd=>?_⟩,ert_of_laid hh⟩
 ·have:c=1∨c=2∨c=3∨c=4∨c=5∨c=6∨c=7:=by omega
  rcases this with rfl|rfl|rfl|rfl|rfl|rfl|rfl;·exact b1
  ·exact b2
  ·exact b3
  ·exact b4
  ·exact b5
  ·exact b6
  ·exact b7
 ·have hS:∀c,1≤c->c≤7->∃s,W.cell? (E c)=some (.string s)∧s.data.toList=txU c:=fun c h1 h2=>by
   have:c=1∨c=2∨c=3∨c=4∨c=5∨c=6∨c=7:=by omega
   rcases this with rfl|rfl|rfl|rfl|rfl|rfl|rfl;·exact⟨s1,t1,x1⟩
   ·exact⟨s2,t2,x2⟩
   ·exact⟨s3,t3,x3⟩
   ·exact⟨s4,t4,x4⟩
   ·exact⟨s5,t5,x5⟩
   ·exact⟨s6,t6,x6⟩
   ·exact⟨s7,t7,x7⟩
  obtain⟨s,u1,u2⟩:=hS c h1 h2;obtain⟨t,v1,v2⟩:=hS d h3 h4;exact hne _ _ s t u1 v1 (by rw[u2,v2];exact tx_inj c d h1 h2 h3 h4 hcd)
end
end Go.Proofs.YtmbefonnkkhfgaaGreatDoor
