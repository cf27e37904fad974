import Derived.Test.YtnponhbgicbkcaaGreatDoorC37
import Derived.Test.YtnponhbgicbkcaaGreatDoorC35
import Derived.Test.YtnponhbgicbkcaaGreatDoorC39
import Derived.Deep.Slices
import Derived.ChangeSame
import Derived.ProofKit
import Derived.OpenShut
import Derived.ShutString
import Derived.ChangeOld
import Derived.Below
import Derived.SizedLaws
set_option linter.unusedVariables false
set_option maxRecDepth 100000
set_option maxHeartbeats 16000000
namespace Go.Proofs.YtnponhbgicbkcaaGreatDoor
section
open Go.ChangeShapes Go.WideShapes Go.ChangeAt Go.RowKit Go.Deep
theorem zrk{W:World}(h0:laidMetH Tryz.prog z41 W):z0y W:=by
 obtain⟨hd0,hh⟩:=laidMetH_iff.1 h0
 obtain⟨ps,hl,hnd,hall⟩:=hd0
 obtain⟨g',t',cs,fuel,p,hg',ht',hvar,hd,_⟩:=z8i hl (lay 4) (z5r 4 (by kernel_rfl) (by kernel_rfl))
 have gSpans:Tryz.prog.globalNamed (lay 4).1=some 12:=by kernel_rfl
 obtain rfl:=Option.some.inj (gSpans.symm.trans hg')
 obtain rfl:=Option.some.inj (zas.symm.trans ht')
 have hd':DataW.trod (fun _=>()) Tryz.prog W 0 (fun _=>true) false fuel 293 cs.toList=some ((Rows.laid_pane_glyph_spans:DataW Unit),p):=hd
 clear hd
 have hd:=hd'
 rw[zm0] at hd
 obtain⟨xs,n,_,hx,_,hl,hf⟩:=DataW.trod_array Tryz.underlying293 hd
 have hx':xs.map (·.1)=z2x.map fun s=>(.agg [.lit (.int .i64 s.1),.lit (.int .i64 s.2.1),.lit (.int .i64 s.2.2)]:DataW Unit):=by
  have:=congrArg Prod.fst hx
  simp only[DataW.agg.injEq] at this
  exact this.symm
 intro i hi
 have f:=hf i hi
 rw[zd3] at f
 have hs:z2x[i]?=some (z17 i):=by
  unfold z17
  have:i<z2x.length:=hi
  rw[List.getD_eq_getElem?_getD,List.getElem?_eq_getElem this];rfl
 have e:(xs.map (·.1))[i]?=some (.agg [.lit (.int .i64 (z17 i).1),.lit (.int .i64 (z17 i).2.1),.lit (.int .i64 (z17 i).2.2)]:DataW Unit):=by
  rw[hx',List.getElem?_map,hs];rfl
 rw[List.getElem?_map] at e
 obtain⟨y,hy,ey⟩:=Option.map_eq_some_iff.1 e
 rw[hy] at f
 obtain⟨d,pl⟩:=y
 simp only at ey
 subst ey
 obtain⟨k0,k1,k2⟩:=zb6 f
 have at':∀k v,k<3->((cs.toList.drop (i*3)).take 3)[k]?=some v->cs[i*3+k]?=some v:=by
  intro k v hk hv
  rw[List.getElem?_take,if_pos hk,List.getElem?_drop,Array.getElem?_toList] at hv
  exact hv
 have c:=fun k=>World.var?_cell gSpans hvar k
 exact⟨(c (i*3)).trans (at' 0 _ (by omega) k0),(c (i*3+1)).trans (at' 1 _ (by omega) k1),(c (i*3+2)).trans (at' 2 _ (by omega) k2)⟩
theorem zo8:Tryz.prog.bytesOf 43=16:=by kernel_rfl
theorem zoc:Tryz.prog.cellsOf 43=2:=by kernel_rfl
theorem zk1:Tryz.prog.cellsOf 3=1:=by kernel_rfl
section
variable {H : Type} {enc : TypeId × Value -> H} {w : World} {base : Nat} {spare : Nat -> Bool} {held : Bool}
theorem zmf{v:Value}{n:Nat}{y:DataW H×List MemPlace}(h:DataW.trod enc Tryz.prog w base spare held n 3 [v]=some y):∃x:Int,v=.int .i64 x:=by
 obtain⟨x,e,_⟩:=DataW.trod_int Tryz.underlying3 h
 injection e with e
 exact⟨x,e⟩
theorem zmh{fuel:Nat}{p:Option Addr}{len cap:Nat}{x:DataW H×List MemPlace}(h:DataW.trod enc Tryz.prog w base spare held fuel 32 [.slice p len cap]=some x) :
 ∃a b:Nat->Int,Scr w p len a b∧(x.1=.nil∧len=0∨∃e s,x.1=.slice e s∧e.length=len):=by
 rcases open_slice Tryz.underlying32 h with ⟨h0,hx⟩|⟨ad,l,cp,m,n,D,Pl,h0,hb,hl,hm,hmm,rfl,hx⟩
 ·injection h0 with h0
  injection h0 with h1 h2 h3
  subst h1 h2 h3
  exact⟨fun _=>0,fun _=>0,.inl rfl,.inl ⟨by rw[hx],rfl⟩⟩
 ·injection h0 with h0
  injection h0 with h1 h2 h3
  subst h1 h2 h3
  have hlm:len≤m:=by rw[hmm];split <;> omega
  have each:∀i,i<m->∃q:Int×Int,w.cell? (ad.add (i*2))=some (.int .i64 q.1)∧w.cell? (ad.add (i*2+1))=some (.int .i64 q.2):=by
   intro i hi
   obtain⟨cs',h1,h2⟩:=hx i hi
   rw[zoc] at h1
   obtain⟨_,hlen,hcell⟩:=World.cells?_some h1
   obtain⟨xs,k,hk,hxy,_,hxl,hf⟩:=DataW.trod_struct Tryz.underlying43 h2
   match xs,hxl,cs',hlen with
   | [y0,y1],_,[v0,v1],_ =>
    have g0:=hf 0 _ rfl
    have g1:=hf 1 _ rfl
    simp[zk1] at g0 g1
    obtain⟨x0,rfl⟩:=zmf g0
    obtain⟨x1,rfl⟩:=zmf g1
    have e0:=hcell 0 (by omega)
    have e1:=hcell 1 (by omega)
    rw[add_add] at e0 e1
    exact⟨(x0,x1),by simpa using e0,by simpa using e1⟩
  obtain⟨q,hq⟩:=choose_lt each
  refine⟨fun i=>(q i).1,fun i=>(q i).2,?_,.inr ⟨_,_,rfl,by simp⟩⟩
  by_cases hz:len=0
  ·exact .inl hz
  ·right
   obtain⟨b,off,spot⟩:=ad
   have hspot:spot=none:=by simpa [Addr.add] using World.cell?_spot (hq 0 (by omega)).1
   subst hspot
   refine⟨b,off,rfl,World.block_lt_of_cell? w ⟨b,off+0*2,none⟩ (by rw[<-Go.WideShapes.add_plain];exact (hq 0 (by omega)).1),fun j hj=>?_⟩
   have:=hq j (by omega)
   rw[Go.WideShapes.add_plain,Go.WideShapes.add_plain] at this
   exact⟨this.1,by rw[Nat.add_assoc];exact this.2⟩
end
end
end Go.Proofs.YtnponhbgicbkcaaGreatDoor
