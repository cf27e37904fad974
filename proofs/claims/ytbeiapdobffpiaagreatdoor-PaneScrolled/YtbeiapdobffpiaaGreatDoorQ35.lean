import Derived.Test.YtbeiapdobffpiaaGreatDoorQ33
import Derived.Test.YtbeiapdobffpiaaGreatDoorQ31
import Derived.Deep.Slices
import Derived.ShutString
set_option linter.all false
set_option maxRecDepth 100000
set_option maxHeartbeats 16000000
namespace Go.Proofs.YtbeiapdobffpiaaGreatDoor
open Go.RowKit Go.Proofs.Tryz
section
open Go.ChangeShapes Go.WideShapes Go.ChangeAt Go.Deep
theorem NY{W:World}(h0:laidMetH prog fN W):dC W:=by
 obtain⟨Cq,hh⟩:=laidMetH_iff.1 h0;obtain⟨ps,hl,gS,eI⟩:=Cq;obtain⟨g',t',cs,jh,p,wM,ht',zcX,hd,_⟩:=nD hl (qJ 4) (jm 4 (by kernel_rfl) (by kernel_rfl));have JT:prog.globalNamed (qJ 4).1=some 12:=by kernel_rfl
 obtain rfl:=lh (JT.symm.trans wM);obtain rfl:=lh (Ck.symm.trans ht');have hd':DataW.trod (fun _=>()) prog W 0 (fun _=>true) false jh 343 cs.toList=some ((Rows.laid_pane_glyph_spans:DataW Unit),p):=hd;clear hd;have hd:=hd';rw[O_]at hd;obtain⟨xs,n,_,hx,_,hl,hf⟩:=DataW.trod_array underlying343 hd;have hx':xs.map (·.1)=gA.map fun s=>(.agg [.lit (.int .i64 s.1),.lit (.int .i64 s.2.1),.lit (.int .i64 s.2.2)]:DataW Unit):=by have:=congrArg Prod.fst hx;simp only[DataW.agg.injEq]at this;exact this.symm
 intro i hi;have f:=hf i hi;rw[FO]at f;have hs:gA[i]?=some (cU i):=by unfold cU;have:i<gA.length:=hi;rw[E_,dN this];rfl
 have e:(xs.map (·.1))[i]?=some (.agg [.lit (.int .i64 (cU i).1),.lit (.int .i64 (cU i).2.1),.lit (.int .i64 (cU i).2.2)]:DataW Unit):=by rw[hx',List.getElem?_map,hs];rfl
 rw[List.getElem?_map]at e;obtain⟨y,hy,ey⟩:=oA.1 e;rw[hy]at f;obtain⟨d,pl⟩:=y;simp only at ey;subst ey;obtain⟨k0,k1,k2⟩:=DK f;have at':∀k v,k<3->((cs.toList.drop (i*3)).take 3)[k]?=some v->cs[i*3+k]?=some v:=by intro k v hk hv;rw[vA,if_pos hk,Bb,Mb]at hv;exact hv
 have c:=fun k=>Bk JT zcX k;grind
