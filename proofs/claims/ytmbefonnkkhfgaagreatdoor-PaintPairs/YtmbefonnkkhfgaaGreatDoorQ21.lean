import Derived.Laws.CopyOwn
import Derived.Laws.Tables
import Derived.Laws.MakeOwn
import Derived.OwnWalk
import Derived.Below
import Derived.Test.YtmbefonnkkhfgaaGreatDoorQ17
set_option linter.unusedVariables false
set_option maxRecDepth 100000
set_option maxHeartbeats 16000000
namespace Go.Proofs.YtmbefonnkkhfgaaGreatDoor
section
open Go.RowKit
theorem run_copy_sz{P:Program}(w:World)(dT sT ty elem:TypeId)(s g o dLen dCap:Nat)(a:Addr)(sLen sCap:Nat)(cur:List Value)(t:TypeId)(cs:List Value)(n:Nat)
 (hu:P.underlying dT=some (.slice elem)) (hs:(P.info? elem).map (·.size)=some s)
 (hg:w.heap[g]?=some (.cells cur.toArray t (0,0))) (hn:n=Nat.min sLen dLen) (hcs:cs.length=n*s)
 (hsrc:∀j v,cs[j]?=some v->w.cell? (a.add j)=some v) (hfit:o+cs.length≤cur.length) (h1:∀v∈cs,v.oneCell'=true):
 (Builtin.copy_ #[dT,sT] ty #[.slice (some ⟨g,o,none⟩) dLen dCap,.slice (some a) sLen sCap]).run P w=
  .ok (goInt n) (w.setRow g (splice cur o cs).toArray):=by
 have hl:=run_loadCells_list (P:=P) w a cs hsrc;have hst:=run_storeCells_at P g o t cs 0 cur.toArray w hg (by simpa using hfit) h1;cases hq:P.info? elem with
 |none=>simp[hq]at hs
 |some i=>
  have hi:i.size=s:=by simpa[hq]using hs
  rw[hcs]at hl;simp[Builtin.copy_,run_underlying hu,Builtin.lenOf,Builtin.firstCells,sizeOf,typeInfo,hq,hi,<-hn,hl,hst,splice]
end
section
open Go.RowKit
def Fl(L:List Value)(N m:Nat)(e:Ce):Prop:=L.length=N*5∧∀i k u,i<m->(c5 e)[k]?=some u->L[i*5+k]?=some u
theorem Fl.take{L:List Value}{N m cnt:Nat}{e:Ce}(h:Fl L N m e)(hm:m≤N)(hc:cnt≤m)(hN:m+cnt≤N):Fl (splice L (m*5) (L.take (cnt*5))) N (m+cnt) e:=by
 have hl:(L.take (cnt*5)).length=cnt*5:=by rw[List.length_take,h.1];omega
 refine⟨by rw[length_splice _ _ _ (by rw[hl,h.1];omega)];exact h.1,fun i k u hi hu=>?_⟩;have hk:k<5:=(List.getElem?_eq_some_iff.1 hu).1;unfold splice;by_cases h1:i<m;·rw[List.getElem?_append_left (by rw[List.length_take,h.1];omega),List.getElem?_take,if_pos (by omega)];exact h.2 i k u h1 hu
 ·have hlm:(L.take (m*5)).length=m*5:=by rw[List.length_take,h.1];omega
  rw[List.getElem?_append_right (by rw[hlm];omega),hlm,show i*5+k-m*5=(i-m)*5+k by omega,List.getElem?_append_left (by rw[hl];omega),List.getElem?_take,if_pos (by omega)];exact h.2 (i-m) k u (by omega) hu
theorem Fl.first{L:List Value}{N:Nat}{e:Ce}(h:L.length=N*5)(hN:1≤N):Fl (splice L 0 (c5 e)) N 1 e:=by
 refine⟨by rw[length_splice _ _ _ (by rw[h,c5_len];omega)];exact h,fun i k u hi hu=>?_⟩;have hk:k<5:=(List.getElem?_eq_some_iff.1 hu).1;obtain rfl:i=0:=by omega
 unfold splice;rw[List.take_zero,List.nil_append,List.getElem?_append_left (by rw[c5_len];omega),Nat.zero_mul,Nat.zero_add];exact hu
theorem Fl.one{L:List Value}{N m:Nat}{e:Ce}(h:Fl L N m e){cnt:Nat}(hc:cnt≤m):∀v∈L.take (cnt*5),v.oneCell'=true:=by
 intro v hv;obtain⟨j,hj⟩:=List.mem_iff_getElem?.1 hv;rw[List.getElem?_take]at hj;split at hj
 ·rename_i hj5;have hk:j %5<(c5 e).length:=by rw[c5_len];omega
  have:=h.2 (j/5) (j %5) _ (by omega) (List.getElem?_eq_getElem hk);rw[show j/5*5+j %5=j by omega,hj]at this;injection this with this;rw[this];have:∀v∈c5 e,v.oneCell'=true:=by intro v hv;simp[c5]at hv;rcases hv with rfl|rfl|rfl|rfl|rfl<;>rfl
  exact this _ (List.getElem_mem hk)
 ·exact absurd hj (by simp)
end
end Go.Proofs.YtmbefonnkkhfgaaGreatDoor
