import Derived.Test.YtnponhbgicbkcaaGreatDoorD33
import Derived.Test.YtnponhbgicbkcaaGreatDoorD31
import Derived.Deep.Slices
import Derived.ChangeSame
import Derived.ProofKit
import Derived.OpenShut
import Derived.ShutString
import Derived.ChangeOld
import Derived.Below
import Derived.SizedLaws
set_option linter.unusedVariables false
set_option maxRecDepth 100000
set_option maxHeartbeats 16000000
namespace Go.Proofs.YtnponhbgicbkcaaGreatDoor
section
open Go.ChangeShapes Go.WideShapes Go.ChangeAt Go.RowKit Go.Deep
theorem btab_of{W:World}(h0:laidMetH Tryz.prog laids W):TabAt W:=by
 obtain⟨hd0,hh⟩:=laidMetH_iff.1 h0;obtain⟨ps,hl,hnd,hall⟩:=hd0;obtain⟨g',t',cs,fuel,p,hg',ht',hvar,hd,_⟩:=laid_mem hl (lay 4) (lay_in 4 (by kernel_rfl) (by kernel_rfl));have gSpans:Tryz.prog.globalNamed (lay 4).1=some 12:=by kernel_rfl
 obtain rfl:=Option.some.inj (gSpans.symm.trans hg');obtain rfl:=Option.some.inj (gSpansType.symm.trans ht');have hd':DataW.trod (fun _=>()) Tryz.prog W 0 (fun _=>true) false fuel 293 cs.toList=some ((Rows.laid_pane_glyph_spans:DataW Unit),p):=hd;clear hd;have hd:=hd';rw[laid_eq]at hd;obtain⟨xs,n,_,hx,_,hl,hf⟩:=DataW.trod_array Tryz.underlying293 hd;have hx':xs.map (·.1)=spansL.map fun s=>(.agg [.lit (.int .i64 s.1),.lit (.int .i64 s.2.1),.lit (.int .i64 s.2.2)]:DataW Unit):=by have:=congrArg Prod.fst hx;simp only[DataW.agg.injEq]at this;exact this.symm
 intro i hi;have f:=hf i hi;rw[cellsSpan]at f;have hs:spansL[i]?=some (spanAt i):=by unfold spanAt;have:i<spansL.length:=hi;rw[List.getD_eq_getElem?_getD,List.getElem?_eq_getElem this];rfl
 have e:(xs.map (·.1))[i]?=some (.agg [.lit (.int .i64 (spanAt i).1),.lit (.int .i64 (spanAt i).2.1),.lit (.int .i64 (spanAt i).2.2)]:DataW Unit):=by rw[hx',List.getElem?_map,hs];rfl
 rw[List.getElem?_map]at e;obtain⟨y,hy,ey⟩:=Option.map_eq_some_iff.1 e;rw[hy]at f;obtain⟨d,pl⟩:=y;simp only at ey;subst ey;obtain⟨k0,k1,k2⟩:=span_cells f;have at':∀k v,k<3->((cs.toList.drop (i*3)).take 3)[k]?=some v->cs[i*3+k]?=some v:=by intro k v hk hv;rw[List.getElem?_take,if_pos hk,List.getElem?_drop,Array.getElem?_toList]at hv;exact hv
 have c:=fun k=>World.var?_cell gSpans hvar k;exact⟨(c (i*3)).trans (at' 0 _ (by omega) k0),(c (i*3+1)).trans (at' 1 _ (by omega) k1),(c (i*3+2)).trans (at' 2 _ (by omega) k2)⟩
end
end Go.Proofs.YtnponhbgicbkcaaGreatDoor
