import Derived.Test.YtadhgppeafpdgaaGreatDoorQ36
import Derived.Test.YtadhgppeafpdgaaGreatDoorQ28
import Derived.Deep.Slices
import Derived.ShutString
import Derived.Test.YtadhgppeafpdgaaGreatDoorQ47
set_option linter.all false
set_option maxRecDepth 100000
set_option maxHeartbeats 16000000
namespace Go.Proofs.YtadhgppeafpdgaaGreatDoor
open Go.RowKit Go.Proofs.Tryz
section
open Go.ChangeShapes Go.WideShapes Go.ChangeAt Go.Deep
theorem SQ{W:World}(h0:laidMetH prog dK W):aL W:=by
 obtain⟨Hp,hh⟩:=laidMetH_iff.1 h0;obtain⟨ps,hl,gC,fU⟩:=Hp;obtain⟨g',t',cs,fuel,p,ur,ht',zhI,hd,_⟩:=iS hl (kW 4) (gE 4 (by kernel_rfl) (by kernel_rfl));have Oe:prog.globalNamed (kW 4).1=some 10:=by kernel_rfl
 obtain rfl:=gZ (Oe.symm.trans ur);obtain rfl:=gZ (EV.symm.trans ht');have hd':DataW.trod (fun _=>()) prog W 0 (fun _=>true) false fuel 236 cs.toList=some ((Rows.laid_pane_glyph_spans:DataW Unit),p):=hd;clear hd;have hd:=hd';rw[T_]at hd;obtain⟨xs,n,_,hx,_,hl,hf⟩:=DataW.trod_array underlying236 hd;have hx':xs.map (·.1)=gG.map fun s=>(.agg [.lit (.int .i64 s.1),.lit (.int .i64 s.2.1),.lit (.int .i64 s.2.2)]:DataW Unit):=by have:=congrArg Prod.fst hx;simp only[Jc]at this;exact this.symm
 intro i hi;have f:=hf i hi;rw[JQ]at f;have hs:gG[i]?=some (cF i):=by unfold cF;have:i<gG.length:=hi;rw[ia,di this];rfl
 have e:(xs.map (·.1))[i]?=some (.agg [.lit (.int .i64 (cF i).1),.lit (.int .i64 (cF i).2.1),.lit (.int .i64 (cF i).2.2)]:DataW Unit):=by rw[hx',vK,hs];rfl
 rw[vK]at e;obtain⟨y,hy,ey⟩:=kP.1 e;rw[hy]at f;obtain⟨d,pl⟩:=y;simp only at ey;subst ey;obtain⟨k0,k1,k2⟩:=Gb f;have at':∀k v,k<3->((cs.toList.drop (i*3)).take 3)[k]?=some v->cs[i*3+k]?=some v:=by intro k v hk hv;rw[iq,if_pos hk,yn,D8]at hv;exact hv
 have c:=fun k=>rZ Oe zhI k;grind
end
section
open Go.ChangeShapes Go.WideShapes
theorem lG{W:World}{g:Nat}(h:W.cell? (aq g 0)≠none):g<W.heap.size:=by
 by_cases e:g<W.heap.size;·exact e
 ·exact absurd (by simp[World.cell?,Je (Jf e)]) h
def za1:List Int:=(List.range 256).map fun c=>(ug c:Int)
theorem N_{W:World}(h:laidMetH prog dK W):∀c,c<256->W.cell? (aq 6 c)=some (.int .u8 (ug c)):=by
 obtain⟨ps,hl,gC,fU⟩:=(laidMetH_iff.1 h).1;obtain⟨g,t,cs,fuel,p,a1,a2,a3,a4,a5⟩:=iS hl (kW 16) (gE 16 (by kernel_rfl) (by kernel_rfl));have hg:prog.globalNamed (kW 16).1=some 6:=by kernel_rfl
 have ht:(prog.globals[6]?).map (·.type)=some 167:=by kernel_rfl
 obtain rfl:=gZ (hg.symm.trans a1);obtain rfl:=gZ (ht.symm.trans a2);have hd:(kW 16).2=.agg (za1.map fun z=>.lit (.int .u8 z)):=by kernel_rfl
 rw[hd]at a4;have key:=Lib.cells_of_tab (P:=prog) underlying167 underlying5 (by kernel_rfl) (by kernel_rfl) a4;intro c hc;rw[rZ hg a3 c,<-Array.getElem?_toList,key];simp[za1,hc]
theorem Ik{α:Type}{l:List α}{k:Nat}{x:α}(h:(l.drop k).take 1=[x]):l[k]?=some x:=by have:=congrArg (·[0]?) h;simpa[iq,yn]using this
theorem SS:prog.cellsOf 5=1:=by kernel_rfl
theorem NE:prog.cellsOf 169=2:=by kernel_rfl
theorem FQ{W:World}{base:Nat}{sp:Nat->Bool}{held:Bool}{fuel:Nat}{cs:List Value}{a b:Int}{p:List MemPlace}
 (h:DataW.trod (fun _=>()) prog W base sp held fuel 169 cs=some (.agg [.lit (.int .u8 a),.lit (.int .u8 b)],p)):
 cs[0]?=some (.int .u8 a)/\cs[1]?=some (.int .u8 b):=by
 obtain⟨xs,n,_,hx,_,hl,hf⟩:=Rj underlying169 h;have uu:xs.length=2:=hl;match xs,uu with
 |[x0,x1],_=>have hx':=congrArg Prod.fst hx;simp only[yq,List.map_nil,Jc,List.cons.injEq,and_true]at hx';obtain⟨e0,e1⟩:=hx';have f0:DataW.trod (fun _=>()) prog W base sp held n 5 ((cs.drop 0).take (prog.cellsOf 5))=some x0:=hf 0 _ rfl;have f1:DataW.trod (fun _=>()) prog W base sp held n 5 ((cs.drop 1).take (prog.cellsOf 5))=some x1:=hf 1 _ rfl;rw[SS]at f0 f1;obtain⟨z0,h0,y0,_⟩:=yt underlying5 f0;obtain⟨z1,h1,y1,_⟩:=yt underlying5 f1;have g0:=Ik h0;have g1:=Ik h1;rw[y0]at e0;rw[y1]at e1;simp only[DataW.lit.injEq,Lit.int.injEq,true_and]at e0 e1;subst e0 e1;exact⟨g0,g1⟩
def zaI(i:Nat):DataW Unit:=.agg [.lit (.int .u8 (MT i)),.lit (.int .u8 (MS i))]
theorem Jz{W:World}(h:laidMetH prog dK W):∀i,i<5->W.cell? (aq 7 (i*2))=some (.int .u8 (MT i))/\W.cell? (aq 7 (i*2+1))=some (.int .u8 (MS i)):=by
 obtain⟨ps,hl,gC,fU⟩:=(laidMetH_iff.1 h).1;obtain⟨g,t,cs,fuel,p,a1,a2,a3,a4,a5⟩:=iS hl (kW 3) (gE 3 (by kernel_rfl) (by kernel_rfl));have hg:prog.globalNamed (kW 3).1=some 7:=by kernel_rfl
 have ht:(prog.globals[7]?).map (·.type)=some 170:=by kernel_rfl
 obtain rfl:=gZ (hg.symm.trans a1);obtain rfl:=gZ (ht.symm.trans a2);obtain⟨ys,hys⟩:∃ys,(kW 3).2=.agg ys:=⟨_,rfl⟩;have hy5:∀i,i<5->ys[i]?=some (zaI i):=by
  have e:(match(kW 3).2 with|.agg l=>l|_=>[])=ys:=by rw[hys]
  intro i hi;rw[<-e];have:i=0\/i=1\/i=2\/i=3\/i=4:=by omega
  rcases this with rfl|rfl|rfl|rfl|rfl<;>rfl
 rw[hys]at a4;obtain⟨xs,n,_,hx,_,WA,hf⟩:=DataW.trod_array underlying170 a4;have hx':xs.map (·.1)=ys:=by have:=congrArg Prod.fst hx;simp only[Jc]at this;exact this.symm
 intro i hi;have f:=hf i (by omega);rw[NE]at f;have e:(xs.map (·.1))[i]?=some (zaI i):=by rw[hx'];exact hy5 i hi
 rw[vK]at e;obtain⟨y,hy,ey⟩:=kP.1 e;rw[hy]at f;obtain⟨d,pl⟩:=y;simp only at ey;subst ey;obtain⟨k0,k1⟩:=FQ f;have at':∀k v,k<2->((cs.toList.drop (i*2)).take 2)[k]?=some v->cs[i*2+k]?=some v:=by intro k v hk hv;rw[iq,if_pos hk,yn,D8]at hv;exact hv
 have c:=fun k=>rZ hg a3 k;exact⟨(c (i*2)).trans (at' 0 _ (by omega) k0),(c (i*2+1)).trans (at' 1 _ (by omega) k1)⟩
theorem Zs{W:World}(h:laidMetH prog dK W):Aj W:=by have h1:=N_ h;have h2:=Jz h;exact⟨⟨lG (by rw[h1 0 (by decide)];simp),lG (by rw[show((aq 7 0):Addr)=(aq 7 (0*2))from rfl,(h2 0 (by decide)).1];simp)⟩,h1,fun i hi=>(h2 i hi).1,fun i hi=>(h2 i hi).2⟩
theorem Vj{W:World}(h:laidMetH prog dK W):dC W/\12<W.heap.size:=by
 obtain⟨ps,hl,gC,fU⟩:=(laidMetH_iff.1 h).1;obtain⟨g,t,cs,fuel,p,a1,a2,a3,a4,a5⟩:=iS hl (kW 2) (gE 2 (by kernel_rfl) (by kernel_rfl));have hg:prog.globalNamed (kW 2).1=some 12:=by kernel_rfl
 have ht:(prog.globals[12]?).map (·.type)=some 349:=by kernel_rfl
 obtain rfl:=gZ (hg.symm.trans a1);obtain rfl:=gZ (ht.symm.trans a2);have hd:(kW 2).2=.agg (Lib.pow10Tab.map fun z=>.lit (.int .u64 z)):=by kernel_rfl
 rw[hd]at a4;have key:=Lib.cells_of_tab (P:=prog) underlying349 underlying161 (by kernel_rfl) (by kernel_rfl) a4;have hv:W.var? prog (kW 2).1=some (Lib.pow10Tab.map fun z=>Value.int .u64 z).toArray:=by rw[a3,<-key]
 refine⟨⟨(kW 2).1,hg,hv⟩,?_⟩;have c:=rZ hg a3 0;refine rS W (aq 12 0) (u:=.int .u64 1) ?_;rw[c,<-Array.getElem?_toList,key];rfl
theorem P5{W:World}(h:laidMetH prog dK W):∃E,nH W E:=by obtain⟨E,hG,hAp,hT⟩:=BH (W:=W) h;obtain⟨t1,t2⟩:=Vj h;have hs:=SQ h;exact⟨E,hG,hAp,hT,hs,t1,Zs h,t2,lG (by rw[show((aq 10 0):Addr)=(aq 10 (0*3))from rfl,(hs 0 (by decide)).1];simp)⟩
