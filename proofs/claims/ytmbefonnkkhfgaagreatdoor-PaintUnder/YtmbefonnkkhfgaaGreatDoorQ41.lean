import Derived.Test.YtmbefonnkkhfgaaGreatDoorQ36
import Derived.Test.YtmbefonnkkhfgaaGreatDoorQ34
import Derived.Deep.Slices
import Derived.ChangeSame
import Derived.ProofKit
import Derived.OpenShut
import Derived.ShutString
import Derived.ChangeOld
import Derived.Below
import Derived.SizedLaws
import Derived.Test.YtmbefonnkkhfgaaGreatDoorQ40
set_option linter.unusedVariables false
set_option maxRecDepth 100000
set_option maxHeartbeats 16000000
namespace Go.Proofs.YtmbefonnkkhfgaaGreatDoor
section
open Go.ChangeShapes Go.WideShapes Go.ChangeAt Go.RowKit Go.Deep Go.Proofs.Tryz
theorem btab_of{W:World}(h0:laidMetH prog laids W):TabAt W:=by
 obtain⟨hd0,hh⟩:=laidMetH_iff.1 h0;obtain⟨ps,hl,hnd,hall⟩:=hd0;obtain⟨g',t',cs,fuel,p,hg',ht',hvar,hd,_⟩:=laid_mem hl (lay 4) (lay_in 4 (by kernel_rfl) (by kernel_rfl));have gSpans:prog.globalNamed (lay 4).1=some 6:=by kernel_rfl
 obtain rfl:=Option.some.inj (gSpans.symm.trans hg');obtain rfl:=Option.some.inj (gSpansType.symm.trans ht');have hd':DataW.trod (fun _=>()) prog W 0 (fun _=>true) false fuel 139 cs.toList=some ((Rows.laid_pane_glyph_spans:DataW Unit),p):=hd;clear hd;have hd:=hd';rw[laid_eq]at hd;obtain⟨xs,n,_,hx,_,hl,hf⟩:=DataW.trod_array underlying139 hd;have hx':xs.map (·.1)=spansL.map fun s=>(.agg [.lit (.int .i64 s.1),.lit (.int .i64 s.2.1),.lit (.int .i64 s.2.2)]:DataW Unit):=by have:=congrArg Prod.fst hx;simp only[DataW.agg.injEq]at this;exact this.symm
 intro i hi;have f:=hf i hi;rw[cellsSpan]at f;have hs:spansL[i]?=some (spanAt i):=by unfold spanAt;have:i<spansL.length:=hi;rw[List.getD_eq_getElem?_getD,List.getElem?_eq_getElem this];rfl
 have e:(xs.map (·.1))[i]?=some (.agg [.lit (.int .i64 (spanAt i).1),.lit (.int .i64 (spanAt i).2.1),.lit (.int .i64 (spanAt i).2.2)]:DataW Unit):=by rw[hx',List.getElem?_map,hs];rfl
 rw[List.getElem?_map]at e;obtain⟨y,hy,ey⟩:=Option.map_eq_some_iff.1 e;rw[hy]at f;obtain⟨d,pl⟩:=y;simp only at ey;subst ey;obtain⟨k0,k1,k2⟩:=span_cells f;have at':∀k v,k<3->((cs.toList.drop (i*3)).take 3)[k]?=some v->cs[i*3+k]?=some v:=by intro k v hk hv;rw[List.getElem?_take,if_pos hk,List.getElem?_drop,Array.getElem?_toList]at hv;exact hv
 have c:=fun k=>World.var?_cell gSpans hvar k;exact⟨(c (i*3)).trans (at' 0 _ (by omega) k0),(c (i*3+1)).trans (at' 1 _ (by omega) k1),(c (i*3+2)).trans (at' 2 _ (by omega) k2)⟩
end
section
open Go.ChangeShapes Go.WideShapes Go.ChangeAt Go.RowKit Go.Deep Go.Proofs.Tryz
theorem bytesOff:prog.bytesOf 67=16:=by kernel_rfl
theorem cellsOff:prog.cellsOf 67=2:=by kernel_rfl
theorem bcellsInt:prog.cellsOf 3=1:=by kernel_rfl
section
variable{H:Type} {enc:TypeId×Value->H} {w:World} {base:Nat} {spare:Nat->Bool} {held:Bool}
theorem oint_of{v:Value}{n:Nat}{y:DataW H×List MemPlace}(h:DataW.trod enc prog w base spare held n 3 [v]=some y):∃x:Int,v=Iq x:=by obtain⟨x,e,_⟩:=DataW.trod_int underlying3 h;injection e with e;exact⟨x,e⟩
theorem open_offs{fuel:Nat}{p:Option Addr}{len cap:Nat}{x:DataW H×List MemPlace}(h:DataW.trod enc prog w base spare held fuel 22 [.slice p len cap]=some x):
 ∃a b:Nat->Int,Scr w p len a b∧(x.1=.nil∧len=0∨∃e s,x.1=.slice e s∧e.length=len):=by
 rcases open_slice underlying22 h with⟨h0,hx⟩|⟨ad,l,cp,m,n,D,Pl,h0,hb,hl,hm,hmm,rfl,hx⟩;·injection h0 with h0;injection h0 with h1 h2 h3;subst h1 h2 h3;exact⟨fun _=>0,fun _=>0,.inl rfl,.inl ⟨by rw[hx],rfl⟩⟩
 ·injection h0 with h0;injection h0 with h1 h2 h3;subst h1 h2 h3;have hlm:len≤m:=by rw[hmm];split<;>omega
  have each:∀i,i<m->∃q:Int×Int,w.cell? (ad.add (i*2))=some (Iq q.1)∧w.cell? (ad.add (i*2+1))=some (Iq q.2):=by
   intro i hi;obtain⟨cs',h1,h2⟩:=hx i hi;rw[cellsOff]at h1;obtain⟨_,hlen,hcell⟩:=World.cells?_some h1;obtain⟨xs,k,hk,hxy,_,hxl,hf⟩:=DataW.trod_struct underlying67 h2;match xs,hxl,cs',hlen with
   |[y0,y1],_,[v0,v1],_=>have g0:=hf 0 _ rfl;have g1:=hf 1 _ rfl;simp[bcellsInt]at g0 g1;obtain⟨x0,rfl⟩:=oint_of g0;obtain⟨x1,rfl⟩:=oint_of g1;have e0:=hcell 0 (by omega);have e1:=hcell 1 (by omega);rw[add_add]at e0 e1;exact⟨(x0,x1),by simpa using e0,by simpa using e1⟩
  obtain⟨q,hq⟩:=choose_lt each;refine⟨fun i=>(q i).1,fun i=>(q i).2,?_,.inr ⟨_,_,rfl,by simp⟩⟩;by_cases hz:len=0;·exact .inl hz
  ·right;obtain⟨b,off,spot⟩:=ad;have hspot:spot=none:=by simpa[Addr.add]using World.cell?_spot (hq 0 (by omega)).1
   subst hspot;refine⟨b,off,rfl,World.block_lt_of_cell? w ⟨b,off+0*2,none⟩ (by rw[<-Go.WideShapes.add_plain];exact(hq 0 (by omega)).1),fun j hj=>?_⟩;have:=hq j (by omega);rw[Go.WideShapes.add_plain,Go.WideShapes.add_plain]at this;exact⟨this.1,by rw[Nat.add_assoc];exact this.2⟩
end
end
end Go.Proofs.YtmbefonnkkhfgaaGreatDoor
