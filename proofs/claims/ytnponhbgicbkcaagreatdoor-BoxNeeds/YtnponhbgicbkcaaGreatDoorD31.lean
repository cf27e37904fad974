import Derived.Test.YtnponhbgicbkcaaGreatDoorD20
import Derived.Test.YtnponhbgicbkcaaGreatDoorRows
import Derived.ProofKit
import Derived.OpenShut
import Derived.Lib.LaidTab
import Derived.Test.YtnponhbgicbkcaaGreatDoorD00
import Derived.Test.YtnponhbgicbkcaaGreatDoorD05
set_option linter.unusedVariables false
set_option maxRecDepth 100000
set_option maxHeartbeats 16000000
namespace Go.Proofs.YtnponhbgicbkcaaGreatDoor
section
open Go.RowKit
theorem gSpansType:(Tryz.prog.globals[12]?).map (·.type)=some 293:=by kernel_rfl
theorem cellsSpan:Tryz.prog.cellsOf 292=3:=by kernel_rfl
theorem cellsInt:Tryz.prog.cellsOf 3=1:=by kernel_rfl
theorem laid_eq{H:Type}:(Rows.laid_pane_glyph_spans:DataW H)=.agg (spansL.map fun s=>.agg [.lit (.int .i64 s.1),.lit (.int .i64 s.2.1),.lit (.int .i64 s.2.2)]):=rfl
theorem one_of{α:Type}{l:List α}{k:Nat}{x:α}(h:(l.drop k).take 1=[x]):l[k]?=some x:=by have:=congrArg (·[0]?) h;simpa[List.getElem?_take,List.getElem?_drop]using this
theorem span_cells{W:World}{base:Nat}{sp:Nat->Bool}{held:Bool}{fuel:Nat}{cs:List Value}{a b c:Int}{p:List MemPlace}
 (h:DataW.trod (fun _=>()) Tryz.prog W base sp held fuel 292 cs=some (.agg [.lit (.int .i64 a),.lit (.int .i64 b),.lit (.int .i64 c)],p)):
 cs[0]?=some (.int .i64 a)∧cs[1]?=some (.int .i64 b)∧cs[2]?=some (.int .i64 c):=by
 obtain⟨xs,n,_,hx,_,hl,hf⟩:=DataW.trod_struct Tryz.underlying292 h;have hl3:xs.length=3:=hl;match xs,hl3 with
 |[x0,x1,x2],_=>have hx':=congrArg Prod.fst hx;simp only[List.map_cons,List.map_nil,DataW.agg.injEq,List.cons.injEq,and_true]at hx';obtain⟨e0,e1,e2⟩:=hx';have f0:DataW.trod (fun _=>()) Tryz.prog W base sp held n 3 ((cs.drop 0).take (Tryz.prog.cellsOf 3))=some x0:=hf 0 _ rfl;have f1:DataW.trod (fun _=>()) Tryz.prog W base sp held n 3 ((cs.drop 1).take (Tryz.prog.cellsOf 3))=some x1:=hf 1 _ rfl;have f2:DataW.trod (fun _=>()) Tryz.prog W base sp held n 3 ((cs.drop 2).take (Tryz.prog.cellsOf 3))=some x2:=hf 2 _ rfl;rw[cellsInt]at f0 f1 f2;obtain⟨z0,h0,y0,_⟩:=DataW.trod_int Tryz.underlying3 f0;obtain⟨z1,h1,y1,_⟩:=DataW.trod_int Tryz.underlying3 f1;obtain⟨z2,h2,y2,_⟩:=DataW.trod_int Tryz.underlying3 f2;have g0:=one_of h0;have g1:=one_of h1;have g2:=one_of h2;rw[y0]at e0;rw[y1]at e1;rw[y2]at e2;simp only[DataW.lit.injEq,Lit.int.injEq,true_and]at e0 e1 e2;subst e0 e1 e2;exact⟨g0,g1,g2⟩
theorem tab_of{W:World}{nm:String}(gSpans:Tryz.prog.globalNamed nm=some 12)(h:laidMet Tryz.prog [(nm,Rows.laid_pane_glyph_spans)] W):TabAt W:=by
 obtain⟨ps,⟨g',t',cs,fuel,p,q,hg',ht',hvar,hd,_,_⟩,_⟩:=h;obtain rfl:=Option.some.inj (gSpans.symm.trans hg');obtain rfl:=Option.some.inj (gSpansType.symm.trans ht');rw[laid_eq]at hd;obtain⟨xs,n,_,hx,_,hl,hf⟩:=DataW.trod_array Tryz.underlying293 hd;have hx':xs.map (·.1)=spansL.map fun s=>(.agg [.lit (.int .i64 s.1),.lit (.int .i64 s.2.1),.lit (.int .i64 s.2.2)]:DataW Unit):=by have:=congrArg Prod.fst hx;simp only[DataW.agg.injEq]at this;exact this.symm
 intro i hi;have f:=hf i hi;rw[cellsSpan]at f;have hs:spansL[i]?=some (spanAt i):=by unfold spanAt;have:i<spansL.length:=hi;rw[List.getD_eq_getElem?_getD,List.getElem?_eq_getElem this];rfl
 have e:(xs.map (·.1))[i]?=some (.agg [.lit (.int .i64 (spanAt i).1),.lit (.int .i64 (spanAt i).2.1),.lit (.int .i64 (spanAt i).2.2)]:DataW Unit):=by rw[hx',List.getElem?_map,hs];rfl
 rw[List.getElem?_map]at e;obtain⟨y,hy,ey⟩:=Option.map_eq_some_iff.1 e;rw[hy]at f;obtain⟨d,pl⟩:=y;simp only at ey;subst ey;obtain⟨k0,k1,k2⟩:=span_cells f;have at':∀k v,k<3->((cs.toList.drop (i*3)).take 3)[k]?=some v->cs[i*3+k]?=some v:=by intro k v hk hv;rw[List.getElem?_take,if_pos hk,List.getElem?_drop,Array.getElem?_toList]at hv;exact hv
 have c:=fun k=>World.var?_cell gSpans hvar k;exact⟨(c (i*3)).trans (at' 0 _ (by omega) k0),(c (i*3+1)).trans (at' 1 _ (by omega) k1),(c (i*3+2)).trans (at' 2 _ (by omega) k2)⟩
theorem TabAt.below{w w':World}(h:TabAt w)(hb:Below w.heap.size w w'):TabAt w':=by intro i hi;obtain⟨a,b,c⟩:=h i hi;have ha:=World.block_lt_of_cell? w _ a;exact⟨(hb.cell ha).trans a,(hb.cell (p:=⟨12,i*3+1,none⟩) ha).trans b,(hb.cell (p:=⟨12,i*3+2,none⟩) ha).trans c⟩
def tabObj:Obj->Obj
 |.cells _ t frozen=>.cells ((spansL.flatMap fun s=>[Value.int .i64 s.1,.int .i64 s.2.1,.int .i64 s.2.2]).toArray) t frozen
 |o=>o
def withTab(w:World):World:={w with heap:=w.heap.modify 12 tabObj}
end
section
open Go.RowKit
theorem isMark_is(r:Int)(w:World)(ht:TabAt w)(b:Bool)(hb:isMk r=b):
 Calls Tryz.prog 198 #[.int .i64 r] w fun e w'=>e=.returned (.bool b)∧w'=w:=by
 have HT:=qH<|ht;clear ht;by_cases h10:r=10
 ·have e:b=false:=by rw[<-hb,isMk_false];omega
  subst e;subst h10;clear hb;go_enter Tryz.func198,Tryz.ntmps198;go_wp2;go_ret;exact⟨rfl,rfl⟩
 ·have h10':(r !=10)=true:=by simp[h10]
  obtain⟨k,hk⟩:∃k,wid r=k:=⟨_,rfl⟩;have G:Hid (Calls Tryz.prog 200 #[.int .i64 r] w fun e w'=>e=.returned (.int .i64 k)∧w'=w):=by show Calls _ _ _ _ _;rw[<-hk];exact gWidth_any r w HT.out
  have hk0:Hid (b=(k==0)):=by show _=_;rw[<-hb,<-hk,Bool.eq_iff_iff,isMk_iff];simp[h10]
  clear hb hk h10;go_enter Tryz.func198,Tryz.ntmps198;go_wp2_with fail;refine G.out.mono ?_;rintro e w1 ⟨rfl,rfl⟩;go_wp2;go_ret;rw[hk0.out];exact⟨rfl,rfl⟩
def keep(L:List Int)(k:Nat):List Int:=(L.take k).take 4
theorem keep_add(L:List Int)(k:Nat)(h:k<L.length)(h4:k<4):keep L (k+1)=keep L k++[L[k]]:=by unfold keep;rw[List.take_take,List.take_take,Nat.min_eq_right (by omega),Nat.min_eq_right (by omega),List.take_succ_eq_append_getElem h]
theorem keep_full(L:List Int)(k:Nat)(h4:4≤k):keep L (k+1)=keep L k:=by unfold keep;rw[List.take_take,List.take_take,Nat.min_eq_left (by omega),Nat.min_eq_left (by omega)]
theorem keep_length(L:List Int)(k:Nat)(h:k≤L.length):(keep L k).length=min 4 k:=by unfold keep;rw[List.length_take,List.length_take,Nat.min_eq_left h]
theorem own_start(w:World)(o:Obj)(b:Int):((w.alloc o).alloc (.cells #[.int .i64 b] 3)).ownsRow (w.heap.size+1) 3 1 (.slice (some ⟨w.heap.size+1,0,none⟩) 1 1) (1+0) ([b].map (Value.int .i64)):=by refine⟨rfl,.inr ⟨w.heap.size+1,1,#[.int .i64 b],rfl,Nat.le_refl _,?_,by omega,by unfold maxLen;omega,rfl,rfl⟩⟩;have:=heap_alloc_new (w.alloc o) (.cells #[.int .i64 b] 3);rw[World.size_alloc]at this;exact this
theorem infoInt:(Tryz.prog.info? 3).map (fun i=>(i.zero,i.size,i.bytes))=some (some (.int .i64 0),1,8):=by kernel_rfl
theorem first_ten(R:List Int)(b off cap:Nat)(w:World)(hne:R≠[])(hb:b<w.heap.size)(hc:∀j,j<R.length->w.cell? ⟨b,off+j,none⟩=some (.int .i64 (R[j]?.getD 0)))(h10:R[0]?.getD 0=10):
 Calls Tryz.prog 183 #[.slice (some ⟨b,off,none⟩) R.length cap] w fun e w'=>e=.returned (.tuple #[.agg #[.string ⟨#[10]⟩,.int .i64 0],.int .i64 1])∧Below w.heap.size w w':=by
 have hp:=List.length_pos_iff.2 hne;have h0:w.cell? ⟨b,off,none⟩=some (.int .i64 10):=by have:=hc 0 hp;rw[h10]at this;exact this
 have hp':(0:Int)<(R.length:Int):=by omega
 have h0':(w.alloc (.cells #[.string ⟨#[]⟩,.int .i64 0] 239)).cell? ⟨b,off,none⟩=some (.int .i64 10):=(((Below.refl w.heap.size w).alloc (Nat.le_refl _) _).cell (p:=⟨b,off,none⟩) hb).trans h0;clear hc h10 hne;go_enter Tryz.func183,Tryz.ntmps183;go_wp2;exact bodyPost_ret (v:=.tuple #[.agg #[.string ⟨#[10]⟩,.int .i64 0],.int .i64 1]) (by simp[results,Tryz.results183,go_sem]) rfl ⟨rfl,(Below.refl _ _).alloc (Nat.le_refl _) _⟩
theorem first_mark(R:List Int)(r:Int)(b off cap:Nat)(w:World)(ht:TabAt w)(hne:R≠[])(hlen:R.length≤17592186044416)(hb:b<w.heap.size)(hc:∀j,j<R.length->w.cell? ⟨b,off+j,none⟩=some (.int .i64 (R[j]?.getD 0)))
 (hr:R[0]?.getD 0=r) (L:List Int) (hL:R.drop 0=L) (h10:r≠10) (hm:isMk r=true) (n:Nat) (hn:n=0+(mks L).length) (T:List UInt8) (hT:T=enc (32::(mks L).take 4)) (W:Int) (hW:W=wid 32):
 Calls Tryz.prog 183 #[.slice (some ⟨b,off,none⟩) R.length cap] w fun e w'=>e=.returned (.tuple #[.agg #[.string ⟨T.toArray⟩,.int .i64 W],.int .i64 n])∧Below w.heap.size w w':=by
 obtain⟨i0,hi,hz0,hz1,hz2⟩:=info_parts infoInt;have hp:=List.length_pos_iff.2 hne;have HT:=qH<|ht;have hLn:L.length+0=R.length:=by rw[<-hL,List.length_drop];omega
 have hL1:L.length+0≤R.length:=by omega
 have hL2:R.length≤L.length+0:=by omega
 have HC:Hid (∀k (hk:k<L.length),w.cell? ⟨b,off+(k),none⟩=some (.int .i64 L[k])):=by
  intro k hk;have e:L[k]=R[k]'(by omega):=by subst hL;first|(simp;done)|(rw[List.getElem_drop])
  rw[hc (k) (by omega),List.getElem?_eq_getElem (by omega),e];rfl
 have HN:=qH<|hn;have HTx:=qH<|hT;have HW:=qH<|hW;have HM:=qH<|hm;have hp':(0:Int)<(R.length:Int):=by omega
 have h10':(r==10)=false:=by simp[h10]
 have hb0:Below w.heap.size w (w.alloc (.cells #[.string ⟨#[]⟩,.int .i64 0] 239)):=(Below.refl _ _).alloc (Nat.le_refl _) _;have h0:(w.alloc (.cells #[.string ⟨#[]⟩,.int .i64 0] 239)).cell? ⟨b,off,none⟩=some (.int .i64 r):=(hb0.cell (p:=⟨b,off,none⟩) hb).trans (by have:=hc 0 hp;rw[hr]at this;exact this);have HT0:=qH<|ht.below hb0;clear hc hn hT hW hm ht h10 hr hne hb0 hL hLn;go_enter Tryz.func183,Tryz.ntmps183;go_wp2_with(go_at_call 198;refine(isMark_is r _ HT0.out _ HM.out).mono ?_;rintro e w' ⟨rfl,rfl⟩);go_loopw[5,6] (fun q v wr=>∃k:Nat,k≤L.length∧q=.int .i64 (k:Nat)∧wr.ownsRow (w.heap.size+1) 3 1 v (1+min 4 k) ((32::keep L k).map (Value.int .i64))∧wr.heap[w.heap.size]?=some (.cells #[.string ⟨#[]⟩,.int .i64 0] 239 (0,0))∧Below w.heap.size w wr∧Hid (∀j (hj:j<L.length),j<k->isMk (L[j])=true)) (fun q _ _=>R.length-(intOf q).toNat);case atStart=>refine⟨0,by omega,rfl,own_start w _ 32,?_,((Below.refl _ _).alloc (Nat.le_refl _) _).alloc (by simp) _,fun j hj h=>by omega⟩;rw[Below.heap_alloc _ _ _ (by simp)];exact heap_alloc_new w _
 case round=>
  obtain⟨k,hk,rfl,hown,hres,hbw,hmk⟩:=hrel;have hsz:=(Array.getElem?_eq_some_iff.1 hres).1;have HTr:=qH<|HT.out.below hbw;by_cases hlt:k<L.length
  ·obtain⟨x,hx⟩:∃x,L[k]=x:=⟨_,rfl⟩;have hcx:wr.cell? ⟨b,off+(k),none⟩=some (.int .i64 x):=(hbw.cell (p:=⟨b,off+(k),none⟩) hb).trans (by have:=HC.out k hlt;rw[hx]at this;exact this);have HX:=qH<|hx;have hlt':((k:Nat):Int)<(R.length:Int):=by omega
   clear hx;by_cases hxm:isMk x=true
   ·have HXM:=qH<|hxm;clear hxm;have hmk':Hid (∀j (hj:j<L.length),j<k+1->isMk (L[j])=true):=by
     intro j hj h;by_cases ej:j=k;·subst ej;rw[HX.out];exact HXM.out
     ·exact hmk.out j hj (by omega)
    by_cases h4:k<4
    ·have hmin:min 4 k=k:=by omega
     rw[hmin]at hown;have HKA:Hid (keep L (k+1)=keep L k++[x]):=by show _=_;rw[keep_add _ _ hlt h4,HX.out]
     obtain⟨g,cp,rfl⟩:∃g cp,u6=.slice (some ⟨g,0,none⟩) (1+k) cp:=by
      rcases hown.2 with⟨_,h⟩|⟨g,cp,cur,h,_⟩;·omega
      ·exact⟨g,cp,h⟩
     have h4':((1+k:Nat):Int)≤4:=by omega
     clear hmk HX;go_wp2_with(first
      |(go_at_call 198;refine(isMark_is x _ HTr.out _ HXM.out).mono ?_;rintro e w' ⟨rfl,rfl⟩)
      |(at_builtin;refine wpList_append_own _ rfl _ _ 67 rfl (w.heap.size+1) 3 i0 (.int .i64 0) 1 8 Tryz.underlying67 hi hz0 hz1 hz2 rfl (by decide) _ _ _ rfl (hown.alloc _) _ 1 1 [.int .i64 x] rfl rfl ?c1k3 ?c2k3 ?c3k3 ?c4k3 ?c5k3 ?_));try case c1k3=>exact cell_one_new _ _ _
     case c2k3=>first|(intro u hu;simp at hu;subst hu;rfl)|rfl|(simp;done)
     case c3k3=>first|(unfold maxLen;omega)|omega
     case c4k3=>omega
     case c5k3=>first|omega|(rw[World.size_alloc];omega)
     intro v' w1 hown' hg _;have hrow:=fun q hq=>(hown.lt q hq).1;have hb1:=(hbw.alloc (by omega) _).grown hg (by rw[World.size_alloc];omega) (fun q hq=>by have:=hrow q hq;omega);have hres1:w1.heap[w.heap.size]?=some (.cells #[.string ⟨#[]⟩,.int .i64 0] 239 (0,0)):=by rw[hg.block w.heap.size (by rw[World.size_alloc];omega) (fun e=>by have:=hrow _ e.symm;omega),Below.heap_alloc _ _ _ (by omega)];exact hres
     clear hg hrow hown hbw hres HTr hcx;go_wp2;go_roundw;case rel=>refine⟨k+1,by omega,by go_num,?_,hres1,hb1,hmk'⟩;rw[HKA.out,<-List.cons_append,List.map_append,show 1+min 4 (k+1)=1+k+1 by omega];exact hown'
     case measure=>simp[intOf];omega
    ·have hmin:min 4 k=4:=by omega
     have HKF:Hid (keep L (k+1)=keep L k):=keep_full _ _ (by omega);rw[hmin]at hown;obtain⟨g,cp,rfl⟩:∃g cp,u6=.slice (some ⟨g,0,none⟩) (1+4) cp:=by
      rcases hown.2 with⟨_,h⟩|⟨g,cp,cur,h,_⟩;·omega
      ·exact⟨g,cp,h⟩
     clear hmk HX;go_wp2_with(go_at_call 198;refine(isMark_is x _ HTr.out _ HXM.out).mono ?_;rintro e w' ⟨rfl,rfl⟩);go_roundw;case rel=>refine⟨k+1,by omega,by go_num,?_,hres,hbw,hmk'⟩;rw[HKF.out,show 1+min 4 (k+1)=1+4 by omega];exact hown
     case measure=>simp[intOf];omega
   ·have HXM:Hid (isMk x=false):=by show _=_;simpa using hxm
    have HMK:Hid (mks L=L.take k):=takeWhile_stop isMk _ k hk hmk.out (fun hj=>by rw[HX.out];exact HXM.out);have HNk:Hid (n=0+k):=by show _=_;rw[HN.out,HMK.out,List.length_take];omega
    have HTk:Hid (enc (32::keep L k)=T):=by show _=_;rw[HTx.out,HMK.out];rfl
    have hI:=ints_own' hown;have HI:=qH<|hI;have hkl:=keep_length L k hk;have HKL:Hid ((32::keep L k).length≤17592186044416):=by show _≤_;rw[List.length_cons,hkl];omega
    clear hxm hmk hI hown hkl;go_wp2_with(go_at_call 198;refine(isMark_is x _ HTr.out _ HXM.out).mono ?_;rintro e w' ⟨rfl,rfl⟩);refine(gEncode_all _ _ _ HI.out HKL.out).mono ?_;rintro e w2 ⟨rfl,b2⟩;rw[HTk.out];have hres2:w2.heap[w.heap.size]?=some (.cells #[.string ⟨#[]⟩,.int .i64 0] 239 (0,0)):=by rw[b2.block _ hsz];exact hres
    have G2:Hid (Calls Tryz.prog 200 #[.int .i64 32] w2 fun e w'=>e=.returned (.int .i64 W)∧w'=w2):=by show Calls _ _ _ _ _;rw[HW.out];exact gWidth_any 32 w2 (HTr.out.below b2)
    have q0:w2.cell? ⟨w.heap.size,0,none⟩=some (.string ⟨#[]⟩):=by rw[cell_of_row _ _ _ _ _ _ hres2];rfl
    have q1:w2.cell? ⟨w.heap.size,1,none⟩=some (.int .i64 0):=by rw[cell_of_row _ _ _ _ _ _ hres2];rfl
    have f0:=frozen_of_row w2 w.heap.size 0 _ _ hres2;have f1:=frozen_of_row w2 w.heap.size 1 _ _ hres2;have hB2:=hbw.trans (b2.mono (by omega));have hsz2:=Nat.lt_of_lt_of_le hsz b2.size;clear b2 hres hbw HI HTr;go_wp2_with fail;refine G2.out.mono ?_;rintro e w3 ⟨rfl,rfl⟩;go_wp2;rw[HNk.out];refine bodyPost_ret (v:=.tuple #[.agg #[.string ⟨T.toArray⟩,.int .i64 W],.int .i64 ((k:Nat):Int)]) ?_ rfl ⟨by simp,(hB2.setCell (p:=⟨w.heap.size,0,none⟩) (Nat.le_refl _) _).setCell (p:=⟨w.heap.size,1,none⟩) (Nat.le_refl _) _⟩;simp[results,Tryz.results183,go_sem,q0,q1]
  ·have hlt':¬((k:Nat):Int)<(R.length:Int):=by omega
   have HMK:Hid (mks L=L.take k):=takeWhile_stop isMk _ k hk hmk.out (fun hj=>absurd hj hlt);have HNk:Hid (n=0+k):=by show _=_;rw[HN.out,HMK.out,List.length_take];omega
   have HTk:Hid (enc (32::keep L k)=T):=by show _=_;rw[HTx.out,HMK.out];rfl
   have hI:=ints_own' hown;have HI:=qH<|hI;have hkl:=keep_length L k hk;have HKL:Hid ((32::keep L k).length≤17592186044416):=by show _≤_;rw[List.length_cons,hkl];omega
   clear hmk hI hown hkl;go_wp2_with fail;refine(gEncode_all _ _ _ HI.out HKL.out).mono ?_;rintro e w2 ⟨rfl,b2⟩;rw[HTk.out];have hres2:w2.heap[w.heap.size]?=some (.cells #[.string ⟨#[]⟩,.int .i64 0] 239 (0,0)):=by rw[b2.block _ hsz];exact hres
   have G2:Hid (Calls Tryz.prog 200 #[.int .i64 32] w2 fun e w'=>e=.returned (.int .i64 W)∧w'=w2):=by show Calls _ _ _ _ _;rw[HW.out];exact gWidth_any 32 w2 (HTr.out.below b2)
   have q0:w2.cell? ⟨w.heap.size,0,none⟩=some (.string ⟨#[]⟩):=by rw[cell_of_row _ _ _ _ _ _ hres2];rfl
   have q1:w2.cell? ⟨w.heap.size,1,none⟩=some (.int .i64 0):=by rw[cell_of_row _ _ _ _ _ _ hres2];rfl
   have f0:=frozen_of_row w2 w.heap.size 0 _ _ hres2;have f1:=frozen_of_row w2 w.heap.size 1 _ _ hres2;have hB2:=hbw.trans (b2.mono (by omega));have hsz2:=Nat.lt_of_lt_of_le hsz b2.size;clear b2 hres hbw HI HTr;go_wp2_with fail;refine G2.out.mono ?_;rintro e w3 ⟨rfl,rfl⟩;go_wp2;rw[HNk.out];refine bodyPost_ret (v:=.tuple #[.agg #[.string ⟨T.toArray⟩,.int .i64 W],.int .i64 ((k:Nat):Int)]) ?_ rfl ⟨by simp,(hB2.setCell (p:=⟨w.heap.size,0,none⟩) (Nat.le_refl _) _).setCell (p:=⟨w.heap.size,1,none⟩) (Nat.le_refl _) _⟩;simp[results,Tryz.results183,go_sem,q0,q1]
theorem first_base(R:List Int)(r:Int)(b off cap:Nat)(w:World)(ht:TabAt w)(hne:R≠[])(hlen:R.length≤17592186044416)(hb:b<w.heap.size)(hc:∀j,j<R.length->w.cell? ⟨b,off+j,none⟩=some (.int .i64 (R[j]?.getD 0)))
 (hr:R[0]?.getD 0=r) (L:List Int) (hL:R.drop 1=L) (h10:r≠10) (hm:isMk r=false) (n:Nat) (hn:n=1+(mks L).length) (T:List UInt8) (hT:T=enc (r::(mks L).take 4)) (W:Int) (hW:W=wid r):
 Calls Tryz.prog 183 #[.slice (some ⟨b,off,none⟩) R.length cap] w fun e w'=>e=.returned (.tuple #[.agg #[.string ⟨T.toArray⟩,.int .i64 W],.int .i64 n])∧Below w.heap.size w w':=by
 obtain⟨i0,hi,hz0,hz1,hz2⟩:=info_parts infoInt;have hp:=List.length_pos_iff.2 hne;have HT:=qH<|ht;have hLn:L.length+1=R.length:=by rw[<-hL,List.length_drop];omega
 have hL1:L.length+1≤R.length:=by omega
 have hL2:R.length≤L.length+1:=by omega
 have HC:Hid (∀k (hk:k<L.length),w.cell? ⟨b,off+(1+k),none⟩=some (.int .i64 L[k])):=by
  intro k hk;have e:L[k]=R[1+k]'(by omega):=by subst hL;first|(simp;done)|(rw[List.getElem_drop])
  rw[hc (1+k) (by omega),List.getElem?_eq_getElem (by omega),e];rfl
 have HN:=qH<|hn;have HTx:=qH<|hT;have HW:=qH<|hW;have HM:=qH<|hm;have hp':(0:Int)<(R.length:Int):=by omega
 have h10':(r==10)=false:=by simp[h10]
 have hb0:Below w.heap.size w (w.alloc (.cells #[.string ⟨#[]⟩,.int .i64 0] 239)):=(Below.refl _ _).alloc (Nat.le_refl _) _;have h0:(w.alloc (.cells #[.string ⟨#[]⟩,.int .i64 0] 239)).cell? ⟨b,off,none⟩=some (.int .i64 r):=(hb0.cell (p:=⟨b,off,none⟩) hb).trans (by have:=hc 0 hp;rw[hr]at this;exact this);have HT0:=qH<|ht.below hb0;clear hc hn hT hW hm ht h10 hr hne hb0 hL hLn;go_enter Tryz.func183,Tryz.ntmps183;go_wp2_with(go_at_call 198;refine(isMark_is r _ HT0.out _ HM.out).mono ?_;rintro e w' ⟨rfl,rfl⟩);go_loopw[5,6] (fun q v wr=>∃k:Nat,k≤L.length∧q=.int .i64 (1+k:Nat)∧wr.ownsRow (w.heap.size+1) 3 1 v (1+min 4 k) ((r::keep L k).map (Value.int .i64))∧wr.heap[w.heap.size]?=some (.cells #[.string ⟨#[]⟩,.int .i64 0] 239 (0,0))∧Below w.heap.size w wr∧Hid (∀j (hj:j<L.length),j<k->isMk (L[j])=true)) (fun q _ _=>R.length-(intOf q).toNat);case atStart=>refine⟨0,by omega,rfl,own_start w _ r,?_,((Below.refl _ _).alloc (Nat.le_refl _) _).alloc (by simp) _,fun j hj h=>by omega⟩;rw[Below.heap_alloc _ _ _ (by simp)];exact heap_alloc_new w _
 case round=>
  obtain⟨k,hk,rfl,hown,hres,hbw,hmk⟩:=hrel;have hsz:=(Array.getElem?_eq_some_iff.1 hres).1;have HTr:=qH<|HT.out.below hbw;by_cases hlt:k<L.length
  ·obtain⟨x,hx⟩:∃x,L[k]=x:=⟨_,rfl⟩;have hcx:wr.cell? ⟨b,off+(1+k),none⟩=some (.int .i64 x):=(hbw.cell (p:=⟨b,off+(1+k),none⟩) hb).trans (by have:=HC.out k hlt;rw[hx]at this;exact this);have HX:=qH<|hx;have hlt':((1+k:Nat):Int)<(R.length:Int):=by omega
   clear hx;by_cases hxm:isMk x=true
   ·have HXM:=qH<|hxm;clear hxm;have hmk':Hid (∀j (hj:j<L.length),j<k+1->isMk (L[j])=true):=by
     intro j hj h;by_cases ej:j=k;·subst ej;rw[HX.out];exact HXM.out
     ·exact hmk.out j hj (by omega)
    by_cases h4:k<4
    ·have hmin:min 4 k=k:=by omega
     rw[hmin]at hown;have HKA:Hid (keep L (k+1)=keep L k++[x]):=by show _=_;rw[keep_add _ _ hlt h4,HX.out]
     obtain⟨g,cp,rfl⟩:∃g cp,u6=.slice (some ⟨g,0,none⟩) (1+k) cp:=by
      rcases hown.2 with⟨_,h⟩|⟨g,cp,cur,h,_⟩;·omega
      ·exact⟨g,cp,h⟩
     have h4':((1+k:Nat):Int)≤4:=by omega
     clear hmk HX;go_wp2_with(first
      |(go_at_call 198;refine(isMark_is x _ HTr.out _ HXM.out).mono ?_;rintro e w' ⟨rfl,rfl⟩)
      |(at_builtin;refine wpList_append_own _ rfl _ _ 67 rfl (w.heap.size+1) 3 i0 (.int .i64 0) 1 8 Tryz.underlying67 hi hz0 hz1 hz2 rfl (by decide) _ _ _ rfl (hown.alloc _) _ 1 1 [.int .i64 x] rfl rfl ?c1k4 ?c2k4 ?c3k4 ?c4k4 ?c5k4 ?_));try case c1k4=>exact cell_one_new _ _ _
     case c2k4=>first|(intro u hu;simp at hu;subst hu;rfl)|rfl|(simp;done)
     case c3k4=>first|(unfold maxLen;omega)|omega
     case c4k4=>omega
     case c5k4=>first|omega|(rw[World.size_alloc];omega)
     intro v' w1 hown' hg _;have hrow:=fun q hq=>(hown.lt q hq).1;have hb1:=(hbw.alloc (by omega) _).grown hg (by rw[World.size_alloc];omega) (fun q hq=>by have:=hrow q hq;omega);have hres1:w1.heap[w.heap.size]?=some (.cells #[.string ⟨#[]⟩,.int .i64 0] 239 (0,0)):=by rw[hg.block w.heap.size (by rw[World.size_alloc];omega) (fun e=>by have:=hrow _ e.symm;omega),Below.heap_alloc _ _ _ (by omega)];exact hres
     clear hg hrow hown hbw hres HTr hcx;go_wp2;go_roundw;case rel=>refine⟨k+1,by omega,by go_num,?_,hres1,hb1,hmk'⟩;rw[HKA.out,<-List.cons_append,List.map_append,show 1+min 4 (k+1)=1+k+1 by omega];exact hown'
     case measure=>simp[intOf];omega
    ·have hmin:min 4 k=4:=by omega
     have HKF:Hid (keep L (k+1)=keep L k):=keep_full _ _ (by omega);rw[hmin]at hown;obtain⟨g,cp,rfl⟩:∃g cp,u6=.slice (some ⟨g,0,none⟩) (1+4) cp:=by
      rcases hown.2 with⟨_,h⟩|⟨g,cp,cur,h,_⟩;·omega
      ·exact⟨g,cp,h⟩
     clear hmk HX;go_wp2_with(go_at_call 198;refine(isMark_is x _ HTr.out _ HXM.out).mono ?_;rintro e w' ⟨rfl,rfl⟩);go_roundw;case rel=>refine⟨k+1,by omega,by go_num,?_,hres,hbw,hmk'⟩;rw[HKF.out,show 1+min 4 (k+1)=1+4 by omega];exact hown
     case measure=>simp[intOf];omega
   ·have HXM:Hid (isMk x=false):=by show _=_;simpa using hxm
    have HMK:Hid (mks L=L.take k):=takeWhile_stop isMk _ k hk hmk.out (fun hj=>by rw[HX.out];exact HXM.out);have HNk:Hid (n=1+k):=by show _=_;rw[HN.out,HMK.out,List.length_take];omega
    have HTk:Hid (enc (r::keep L k)=T):=by show _=_;rw[HTx.out,HMK.out];rfl
    have hI:=ints_own' hown;have HI:=qH<|hI;have hkl:=keep_length L k hk;have HKL:Hid ((r::keep L k).length≤17592186044416):=by show _≤_;rw[List.length_cons,hkl];omega
    clear hxm hmk hI hown hkl;go_wp2_with(go_at_call 198;refine(isMark_is x _ HTr.out _ HXM.out).mono ?_;rintro e w' ⟨rfl,rfl⟩);refine(gEncode_all _ _ _ HI.out HKL.out).mono ?_;rintro e w2 ⟨rfl,b2⟩;rw[HTk.out];have hres2:w2.heap[w.heap.size]?=some (.cells #[.string ⟨#[]⟩,.int .i64 0] 239 (0,0)):=by rw[b2.block _ hsz];exact hres
    have G2:Hid (Calls Tryz.prog 200 #[.int .i64 r] w2 fun e w'=>e=.returned (.int .i64 W)∧w'=w2):=by show Calls _ _ _ _ _;rw[HW.out];exact gWidth_any r w2 (HTr.out.below b2)
    have q0:w2.cell? ⟨w.heap.size,0,none⟩=some (.string ⟨#[]⟩):=by rw[cell_of_row _ _ _ _ _ _ hres2];rfl
    have q1:w2.cell? ⟨w.heap.size,1,none⟩=some (.int .i64 0):=by rw[cell_of_row _ _ _ _ _ _ hres2];rfl
    have f0:=frozen_of_row w2 w.heap.size 0 _ _ hres2;have f1:=frozen_of_row w2 w.heap.size 1 _ _ hres2;have hB2:=hbw.trans (b2.mono (by omega));have hsz2:=Nat.lt_of_lt_of_le hsz b2.size;clear b2 hres hbw HI HTr;go_wp2_with fail;refine G2.out.mono ?_;rintro e w3 ⟨rfl,rfl⟩;go_wp2;rw[HNk.out];refine bodyPost_ret (v:=.tuple #[.agg #[.string ⟨T.toArray⟩,.int .i64 W],.int .i64 ((1+k:Nat):Int)]) ?_ rfl ⟨by simp,(hB2.setCell (p:=⟨w.heap.size,0,none⟩) (Nat.le_refl _) _).setCell (p:=⟨w.heap.size,1,none⟩) (Nat.le_refl _) _⟩;simp[results,Tryz.results183,go_sem,q0,q1]
  ·have hlt':¬((1+k:Nat):Int)<(R.length:Int):=by omega
   have HMK:Hid (mks L=L.take k):=takeWhile_stop isMk _ k hk hmk.out (fun hj=>absurd hj hlt);have HNk:Hid (n=1+k):=by show _=_;rw[HN.out,HMK.out,List.length_take];omega
   have HTk:Hid (enc (r::keep L k)=T):=by show _=_;rw[HTx.out,HMK.out];rfl
   have hI:=ints_own' hown;have HI:=qH<|hI;have hkl:=keep_length L k hk;have HKL:Hid ((r::keep L k).length≤17592186044416):=by show _≤_;rw[List.length_cons,hkl];omega
   clear hmk hI hown hkl;go_wp2_with fail;refine(gEncode_all _ _ _ HI.out HKL.out).mono ?_;rintro e w2 ⟨rfl,b2⟩;rw[HTk.out];have hres2:w2.heap[w.heap.size]?=some (.cells #[.string ⟨#[]⟩,.int .i64 0] 239 (0,0)):=by rw[b2.block _ hsz];exact hres
   have G2:Hid (Calls Tryz.prog 200 #[.int .i64 r] w2 fun e w'=>e=.returned (.int .i64 W)∧w'=w2):=by show Calls _ _ _ _ _;rw[HW.out];exact gWidth_any r w2 (HTr.out.below b2)
   have q0:w2.cell? ⟨w.heap.size,0,none⟩=some (.string ⟨#[]⟩):=by rw[cell_of_row _ _ _ _ _ _ hres2];rfl
   have q1:w2.cell? ⟨w.heap.size,1,none⟩=some (.int .i64 0):=by rw[cell_of_row _ _ _ _ _ _ hres2];rfl
   have f0:=frozen_of_row w2 w.heap.size 0 _ _ hres2;have f1:=frozen_of_row w2 w.heap.size 1 _ _ hres2;have hB2:=hbw.trans (b2.mono (by omega));have hsz2:=Nat.lt_of_lt_of_le hsz b2.size;clear b2 hres hbw HI HTr;go_wp2_with fail;refine G2.out.mono ?_;rintro e w3 ⟨rfl,rfl⟩;go_wp2;rw[HNk.out];refine bodyPost_ret (v:=.tuple #[.agg #[.string ⟨T.toArray⟩,.int .i64 W],.int .i64 ((1+k:Nat):Int)]) ?_ rfl ⟨by simp,(hB2.setCell (p:=⟨w.heap.size,0,none⟩) (Nat.le_refl _) _).setCell (p:=⟨w.heap.size,1,none⟩) (Nat.le_refl _) _⟩;simp[results,Tryz.results183,go_sem,q0,q1]
end
section
open Go.RowKit
theorem first_any(R:List Int)(v:Value)(w:World)(ht:TabAt w)(hne:R≠[])(hlen:R.length≤17592186044416)(h:Ints w v R):
 Calls Tryz.prog 183 #[v] w fun e w'=>e=.returned (.tuple #[.agg #[.string ⟨(cText R).toArray⟩,.int .i64 (cWide R)],.int .i64 (cNum R)])∧Below w.heap.size w w':=by
 obtain⟨a,cap,rfl,hh⟩:=h;obtain⟨b,off,rfl,hb,hc⟩:=hh.resolve_left hne;match R,hne with
 |r::t,hne=>
  by_cases h10:r=10;·have:=first_ten (r::t) b off cap w hne hb hc (by simpa using h10);simp only[cText,cWide,cNum,if_pos h10];exact this
  ·by_cases hm:isMk r=true
   ·have e1:cOwn (r::t)=0:=by simp only[cOwn,if_pos hm]
    have e2:cBase (r::t)=32:=by simp only[cBase,if_pos hm]
    have e3:cMarks (r::t)=mks (r::t):=by unfold cMarks;rw[e1];rfl
    simp only[cText,cWide,cNum,if_neg h10,e1,e2,e3];exact first_mark (r::t) r b off cap w ht hne hlen hb hc rfl (r::t) rfl h10 hm _ rfl _ rfl _ rfl
   ·have e1:cOwn (r::t)=1:=by simp only[cOwn,if_neg hm]
    have e2:cBase (r::t)=r:=by simp only[cBase,if_neg hm]
    have e3:cMarks (r::t)=mks t:=by unfold cMarks;rw[e1];rfl
    simp only[cText,cWide,cNum,if_neg h10,e1,e2,e3];exact first_base (r::t) r b off cap w ht hne hlen hb hc rfl t rfl h10 (by simpa using hm) _ rfl _ rfl _ rfl
def cCells(l:List (List UInt8×Int)):List Value:=l.flatMap fun c=>[.string ⟨c.1.toArray⟩,.int .i64 c.2]
theorem cCells_append(a b:List (List UInt8×Int)):cCells (a++b)=cCells a++cCells b:=by simp[cCells]
theorem infoCluster:(Tryz.prog.info? 239).map (fun i=>(i.zero,i.size,i.bytes))=some (some (.agg #[.string ⟨#[]⟩,.int .i64 0]),2,24):=by kernel_rfl
def lenOfV:Value->Nat
 |.slice _ n _=>n
 |_=>0
def IntsC(w:World)(v:Value)(zs:List Int):Prop:=
 ∃a cap,v=.slice a zs.length cap∧zs.length≤cap∧cap≤maxLen∧(zs=[]∨∃b off,a=some ⟨b,off,none⟩∧b<w.heap.size∧∀j,j<zs.length->w.cell? ⟨b,off+j,none⟩=some (.int .i64 (zs[j]?.getD 0)))
theorem intsC_own{w:World}{B n:Nat}{v:Value}{zs:List Int}(h:w.ownsRow B 3 1 v n (zs.map (Value.int .i64))):IntsC w v zs:=by
 have hl:zs.length=n:=by have:=h.1;simpa using this
 obtain⟨a,cap,hv,hh⟩:=ints_own' h;rcases h.2 with⟨rfl,rfl⟩|⟨g,cap',cur,rfl,_,hg,h1,h2,_⟩;·have hz:=List.length_eq_zero_iff.1 hl;subst hz;exact⟨none,0,rfl,Nat.le_refl _,by unfold maxLen;omega,.inl rfl⟩
 ·simp only[Value.slice.injEq]at hv;obtain⟨rfl,_,rfl⟩:=hv;exact⟨_,_,by rw[hl],by omega,h2,hh⟩
theorem own_below2{w w':World}{B n size:Nat}{e:TypeId}{v:Value}{xs:List Value}(h:w.ownsRow B e size v n xs)(hb:Below w.heap.size w w'):w'.ownsRow B e size v n xs:=by
 refine⟨h.1,?_⟩;rcases h.2 with h2|⟨g,cap,cur,a,b,c,d⟩;·exact .inl h2
 ·exact .inr ⟨g,cap,cur,a,b,by rw[hb.block g (Array.getElem?_eq_some_iff.1 c).1];exact c,d⟩
theorem intsC_drop{w:World}{b off cap n:Nat}{zs:List Int}(hn:n≤zs.length)(hcap:zs.length≤cap)(hmax:cap≤maxLen)(hb:b<w.heap.size)(hc:∀j,j<zs.length->w.cell? ⟨b,off+j,none⟩=some (.int .i64 (zs[j]?.getD 0))):
 IntsC w (.slice (if cap=n then some ⟨b,off,none⟩else some ⟨b,off+n,none⟩) (zs.length-n) (cap-n)) (zs.drop n):=by
 refine⟨_,_,by rw[List.length_drop],by rw[List.length_drop];omega,by omega,?_⟩;by_cases e:cap=n;·left;exact List.drop_eq_nil_of_le (by omega)
 ·right;rw[if_neg e];refine⟨b,off+n,rfl,hb,fun j hj=>?_⟩;rw[List.length_drop]at hj;rw[Nat.add_assoc,hc (n+j) (by omega),List.getElem?_drop]
theorem gClusters_any(s:ByteArray)(w:World)(ht:TabAt w)(hs:s.size≤1099511627776):
 Calls Tryz.prog 162 #[.string s] w fun e w'=>∃v,e=.returned v∧w'.ownsRow w.heap.size 239 2 v (clus (runes s.data.toList)).length (cCells (clus (runes s.data.toList)))∧Below w.heap.size w w':=by
 obtain⟨i0,hi,hz0,hz1,hz2⟩:=info_parts infoCluster;have HT:=qH<|ht;clear ht;have hR:=runes_length s.data.toList;have hsl:s.data.toList.length=s.size:=by rw[Array.length_toList];rfl
 rw[hsl]at hR;go_enter Tryz.func162,Tryz.ntmps162;go_wp2_with fail;refine(gDecode_any s _ (by omega)).mono ?_;rintro e w1 ⟨v1,rfl,o1,b1⟩;obtain⟨R,hRe⟩:∃R,runes s.data.toList=R:=⟨_,rfl⟩;rw[hRe]at o1 hR;have HRe:=qH<|hRe;have I1:=qH<|intsC_own o1;have HT1:=qH<|HT.out.below b1;clear o1 hRe hsl;have hs1:=b1.size;go_wp2;go_loopw[3,4] (fun v rest wr=>∃(R':List Int) (acc:List (List UInt8×Int)),Hid (IntsC w1 rest R')∧wr.ownsRow w1.heap.size 239 2 v acc.length (cCells acc)∧Below w1.heap.size w1 wr∧Hid (acc++clus R'=clus R)∧acc.length+R'.length≤R.length) (fun _ rest _=>lenOfV rest);case atStart=>exact⟨R,[],I1.out,World.ownsRow_nil _ _ _ _,Below.refl _ _,rfl,by simp⟩
 case round=>
  obtain⟨R',acc,hI,hown,hbw,hacc,hlen⟩:=hrel;obtain⟨a,cap,rfl,hcap,hmax,hh⟩:=hI.out;by_cases hne:R'=[];·subst hne;have e:=hacc.out;rw[clus_nil,List.append_nil]at e;have HE:=qH<|e;clear e hh hI hacc;go_wp2;go_ret;rw[HRe.out,<-HE.out];exact⟨_,rfl,ownsRow_base hown hs1,b1.trans (hbw.mono hs1)⟩
  ·have hp:=List.length_pos_iff.2 hne;have hp':(0:Int)<(R'.length:Int):=by omega
   obtain⟨b,off,rfl,hb,hc⟩:=hh.resolve_left hne;have hsz:=hbw.size;have F:=qH<|
    first_any R' _ wr (HT1.out.below hbw) hne (by omega) ⟨_,cap,rfl,.inr ⟨b,off,rfl,by omega,fun j hj=>(hbw.cell (p:=⟨b,off+j,none⟩) hb).trans (hc j hj)⟩⟩;have hnl:=cNum_le R';have hn1:=cNum_pos hne;have HS:Hid ((acc++[(cText R',cWide R')])++clus (R'.drop (cNum R'))=clus R):=by show _=_;rw[<-hacc.out,clus_step hne];simp
   obtain⟨T,hT⟩:∃T,cText R'=T:=⟨_,rfl⟩;obtain⟨W,hW⟩:∃W,cWide R'=W:=⟨_,rfl⟩;obtain⟨n,hn⟩:∃n,cNum R'=n:=⟨_,rfl⟩;rw[hT,hW,hn]at F;rw[hT,hW,hn]at HS;rw[hn]at hnl hn1;have HC:=qH<|hc;unfold maxLen at hmax;clear hT hW hn hacc hI hh hc hne;go_wp2_with fail;refine F.out.mono ?_;rintro e w2 ⟨rfl,b2⟩;have hs2:=b2.size;have hown2:=own_below2 hown b2;have hB2:=hbw.trans (b2.mono hsz);clear b2 F hown hbw;go_wp2_with(at_builtin;refine wpList_append_own _ rfl _ _ 237 rfl w1.heap.size 239 i0 (.agg #[.string ⟨#[]⟩,.int .i64 0]) 2 24 Tryz.underlying237 hi hz0 hz1 hz2 rfl (by decide) _ _ _ rfl ((hown2.alloc _).alloc _) _ 1 1 [.string ⟨T.toArray⟩,.int .i64 W] rfl rfl ?c1 ?c2 ?c3 ?c4 ?c5 ?_);case c1=>have:=cell_two_new (w2.alloc (.cells #[.string ⟨T.toArray⟩,.int .i64 W] 239)) (.string ⟨T.toArray⟩) (.int .i64 W) 239;rw[World.size_alloc]at this;exact this
   case c2=>intro u hu;simp at hu;rcases hu with rfl|rfl<;>rfl
   case c3=>unfold maxLen;omega
   case c4=>omega
   case c5=>rw[World.size_alloc,World.size_alloc];omega
   intro v' w3 hown' hg _;have hrow:=fun q hq=>(hown2.lt q hq).1;have hs12:=hB2.size;have hB3:=((hB2.alloc hs12 _).alloc (by rw[World.size_alloc];omega) _).grown hg (by rw[World.size_alloc,World.size_alloc];omega) hrow;clear hg hrow hown2 hB2;have hnl':(n:Int)≤(R'.length:Int):=by omega
   have hcl':(R'.length:Int)≤(cap:Int):=by omega
   have HD:=qH<|intsC_drop hnl hcap (by unfold maxLen;exact hmax) hb HC.out;go_wp2;go_roundw;case rel=>refine⟨R'.drop n,acc++[(T,W)],HD.out,?_,hB3,HS.out,by rw[List.length_append,List.length_drop];simp;omega⟩;rw[List.length_append,cCells_append];exact hown'
   case measure=>show R'.length-n<R'.length;omega
end
end Go.Proofs.YtnponhbgicbkcaaGreatDoor
