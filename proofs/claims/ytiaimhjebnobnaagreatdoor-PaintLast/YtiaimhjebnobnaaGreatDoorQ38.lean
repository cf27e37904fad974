import Derived.Test.YtiaimhjebnobnaaGreatDoorQ37
import Derived.Test.YtiaimhjebnobnaaGreatDoorQ31
import Derived.Deep.Slices
import Derived.ShutString
import Derived.Test.YtiaimhjebnobnaaGreatDoorQ36
set_option linter.all false
set_option maxRecDepth 100000
set_option maxHeartbeats 16000000
namespace Go.Proofs.YtiaimhjebnobnaaGreatDoor
open Go.RowKit Go.Proofs.Tryz
section
open Go.ChangeShapes Go.WideShapes Go.ChangeAt Go.Deep
theorem TE{W:World}(h0:laidMetH prog gS W):cG W:=by
 obtain⟨Sx,hh⟩:=laidMetH_iff.1 h0;obtain⟨ps,hl,jc,ef⟩:=Sx;obtain⟨g',t',cs,fuel,p,Ad,ht',ziY,hd,_⟩:=p_ hl (sH 4) (kF 4 (by kernel_rfl) (by kernel_rfl));have OI:prog.globalNamed (sH 4).1=some 10:=by kernel_rfl
 obtain rfl:=ng (OI.symm.trans Ad);obtain rfl:=ng (Ga.symm.trans ht');have hd':DataW.trod (fun _=>()) prog W 0 (fun _=>true) false fuel 318 cs.toList=some ((Rows.laid_pane_glyph_spans:DataW Unit),p):=hd;clear hd;have hd:=hd';rw[UY]at hd;obtain⟨xs,n,_,hx,_,hl,hf⟩:=DataW.trod_array underlying318 hd;have hx':xs.map (·.1)=iI.map fun s=>(.agg [.lit (.int .i64 s.1),.lit (.int .i64 s.2.1),.lit (.int .i64 s.2.2)]:DataW Unit):=by have:=congrArg Prod.fst hx;simp only[DataW.agg.injEq]at this;exact this.symm
 intro i hi;have f:=hf i hi;rw[Ki]at f;have hs:iI[i]?=some (dx i):=by unfold dx;have:i<iI.length:=hi;rw[JM,eR this];rfl
 have e:(xs.map (·.1))[i]?=some (.agg [.lit (.int .i64 (dx i).1),.lit (.int .i64 (dx i).2.1),.lit (.int .i64 (dx i).2.2)]:DataW Unit):=by rw[hx',List.getElem?_map,hs];rfl
 rw[List.getElem?_map]at e;obtain⟨y,hy,ey⟩:=qO.1 e;rw[hy]at f;obtain⟨d,pl⟩:=y;simp only at ey;subst ey;obtain⟨k0,k1,k2⟩:=Hy f;have at':∀k v,k<3->((cs.toList.drop (i*3)).take 3)[k]?=some v->cs[i*3+k]?=some v:=by intro k v hk hv;rw[zl,if_pos hk,Fc,RG]at hv;exact hv
 have c:=fun k=>Fg OI ziY k;grind
theorem N9:prog.bytesOf 69=16:=by kernel_rfl
theorem Ob:prog.cellsOf 69=2:=by kernel_rfl
theorem Kc:prog.cellsOf 3=1:=by kernel_rfl
section
variable{H:Type} {enc:TypeId×Value->H} {w:World} {base:Nat} {spare:Nat->Bool} {held:Bool}
theorem Jh{v}{n}{y}(h:DataW.trod enc prog w base spare held n 3 [v]=some y):∃x,v=Iq x:=by obtain⟨x,e,_⟩:=JP underlying3 h;grind
theorem LJ{fuel:Nat}{p:Option Addr}{len cap:Nat}{x:DataW H×List MemPlace}(h:DataW.trod enc prog w base spare held fuel 22 [.slice p len cap]=some x):
 ∃a b:Nat->Int,mg w p len a b/\(x.1=.nil/\len=0\/∃e s,x.1=.slice e s/\e.length=len):=by
 rcases open_slice underlying22 h with⟨h0,hx⟩|⟨ad,l,cp,m,n,D,Pl,h0,hb,hl,hm,hmm,rfl,hx⟩;·injection h0 with h0;injection h0 with h1 h2 h3;subst h1 h2 h3;exact⟨fun _=>0,fun _=>0,.inl rfl,.inl ⟨by rw[hx],rfl⟩⟩
 ·injection h0 with h0;injection h0 with h1 h2 h3;subst h1 h2 h3;have Zd:len<=m:=by rw[hmm];split<;>omega
  have each:∀i,i<m->∃q:Int×Int,w.cell? (ad.add (i*2))=some (Iq q.1)/\w.cell? (ad.add (i*2+1))=some (Iq q.2):=by
   intro i hi;obtain⟨cs',h1,h2⟩:=hx i hi;rw[Ob]at h1;obtain⟨_,bY,lQ⟩:=World.cells?_some h1;obtain⟨xs,k,hk,Ll,_,UJ,hf⟩:=DataW.trod_struct underlying69 h2;match xs,UJ,cs',bY with
   |[y0,y1],_,[v0,v1],_=>have g0:=hf 0 _ rfl;have g1:=hf 1 _ rfl;simp[Kc]at g0 g1;obtain⟨x0,rfl⟩:=Jh g0;obtain⟨x1,rfl⟩:=Jh g1;have e0:=lQ 0 (by omega);have e1:=lQ 1 (by omega);rw[add_add]at e0 e1;simp_all
  obtain⟨q,hq⟩:=choose_lt each;refine⟨fun i=>(q i).1,fun i=>(q i).2,?_,.inr ⟨_,_,rfl,by simp⟩⟩;by_cases hz:len=0;·exact .inl hz
  ·right;obtain⟨b,off,zjq⟩:=ad;have zc8:zjq=none:=by simpa[Addr.add]using World.cell?_spot (hq 0 (by omega)).1
   subst zc8;refine⟨b,off,rfl,l8 w ⟨b,off+0*2,none⟩ (by rw[<-Go.WideShapes.add_plain];exact(hq 0 (by omega)).1),fun j hj=>?_⟩;have:=hq j (by omega);rw[Go.WideShapes.add_plain,Go.WideShapes.add_plain]at this;omega
end
