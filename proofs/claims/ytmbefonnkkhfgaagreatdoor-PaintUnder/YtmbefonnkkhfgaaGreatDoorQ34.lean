import Derived.Test.YtmbefonnkkhfgaaGreatDoorQ24
import Derived.Test.YtmbefonnkkhfgaaGreatDoorRows
import Derived.ProofKit
import Derived.OpenShut
import Derived.Lib.LaidTab
import Derived.Test.YtmbefonnkkhfgaaGreatDoorQ00
import Derived.Test.YtmbefonnkkhfgaaGreatDoorQ06
set_option linter.unusedVariables false
set_option maxRecDepth 100000
set_option maxHeartbeats 16000000
namespace Go.Proofs.YtmbefonnkkhfgaaGreatDoor
section
open Go.RowKit Go.Proofs.Tryz
theorem gSpansType:(prog.globals[6]?).map (·.type)=some 139:=by kernel_rfl
theorem cellsSpan:prog.cellsOf 138=3:=by kernel_rfl
theorem cellsInt:prog.cellsOf 3=1:=by kernel_rfl
theorem laid_eq{H:Type}:(Rows.laid_pane_glyph_spans:DataW H)=.agg (spansL.map fun s=>.agg [.lit (.int .i64 s.1),.lit (.int .i64 s.2.1),.lit (.int .i64 s.2.2)]):=rfl
theorem one_of{α:Type}{l:List α}{k:Nat}{x:α}(h:(l.drop k).take 1=[x]):l[k]?=some x:=by have:=congrArg (·[0]?) h;simpa[List.getElem?_take,List.getElem?_drop]using this
theorem span_cells{W:World}{base:Nat}{sp:Nat->Bool}{held:Bool}{fuel:Nat}{cs:List Value}{a b c:Int}{p:List MemPlace}
 (h:DataW.trod (fun _=>()) prog W base sp held fuel 138 cs=some (.agg [.lit (.int .i64 a),.lit (.int .i64 b),.lit (.int .i64 c)],p)):
 cs[0]?=some (Iq a)∧cs[1]?=some (Iq b)∧cs[2]?=some (Iq c):=by
 obtain⟨xs,n,_,hx,_,hl,hf⟩:=DataW.trod_struct underlying138 h;have hl3:xs.length=3:=hl;match xs,hl3 with
 |[x0,x1,x2],_=>have hx':=congrArg Prod.fst hx;simp only[List.map_cons,List.map_nil,DataW.agg.injEq,List.cons.injEq,and_true]at hx';obtain⟨e0,e1,e2⟩:=hx';have f0:DataW.trod (fun _=>()) prog W base sp held n 3 ((cs.drop 0).take (prog.cellsOf 3))=some x0:=hf 0 _ rfl;have f1:DataW.trod (fun _=>()) prog W base sp held n 3 ((cs.drop 1).take (prog.cellsOf 3))=some x1:=hf 1 _ rfl;have f2:DataW.trod (fun _=>()) prog W base sp held n 3 ((cs.drop 2).take (prog.cellsOf 3))=some x2:=hf 2 _ rfl;rw[cellsInt]at f0 f1 f2;obtain⟨z0,h0,y0,_⟩:=DataW.trod_int underlying3 f0;obtain⟨z1,h1,y1,_⟩:=DataW.trod_int underlying3 f1;obtain⟨z2,h2,y2,_⟩:=DataW.trod_int underlying3 f2;have g0:=one_of h0;have g1:=one_of h1;have g2:=one_of h2;rw[y0]at e0;rw[y1]at e1;rw[y2]at e2;simp only[DataW.lit.injEq,Lit.int.injEq,true_and]at e0 e1 e2;subst e0 e1 e2;exact⟨g0,g1,g2⟩
theorem TabAt.below{w w':World}(h:TabAt w)(hb:Below w.heap.size w w'):TabAt w':=by intro i hi;obtain⟨a,b,c⟩:=h i hi;have ha:=World.block_lt_of_cell? w _ a;exact⟨(hb.cell ha).trans a,(hb.cell (p:=⟨6,i*3+1,none⟩) ha).trans b,(hb.cell (p:=⟨6,i*3+2,none⟩) ha).trans c⟩
end
section
open Go.RowKit Go.Proofs.Tryz
theorem isMark_is(r:Int)(w:World)(ht:TabAt w)(b:Bool)(hb:isMk r=b):
 Calls prog 39 #[Iq r] w fun e w'=>e=.returned (.bool b)∧w'=w:=by
 have HT:=qH<|ht;clear ht;by_cases h10:r=10
 ·have e:b=false:=by rw[<-hb,isMk_false];omega
  subst e;subst h10;clear hb;go_enter func39,ntmps39;go_wp2;go_ret;exact⟨rfl,rfl⟩
 ·have h10':(r !=10)=true:=by simp[h10]
  obtain⟨k,hk⟩:=nmd (wid r);have G:Hid (Calls prog 41 #[Iq r] w fun e w'=>e=.returned (Iq k)∧w'=w):=by show Calls _ _ _ _ _;rw[<-hk];exact gWidth_any r w HT
  have hk0:Hid (b=(k==0)):=by show _=_;rw[<-hb,<-hk,Bool.eq_iff_iff,isMk_iff];simp[h10]
  clear hb hk h10;go_enter func39,ntmps39;go_wp2_with fail;refine G.mono ?_;rintro e w1 ⟨rfl,rfl⟩;go_wp2;go_ret;rw[hk0.out];exact⟨rfl,rfl⟩
def keep(L:List Int)(k:Nat):List Int:=(L.take k).take 4
theorem keep_add(L:List Int)(k:Nat)(h:k<L.length)(h4:k<4):keep L (k+1)=keep L k++[L[k]]:=by unfold keep;rw[List.take_take,List.take_take,Nat.min_eq_right (by omega),Nat.min_eq_right (by omega),List.take_succ_eq_append_getElem h]
theorem keep_full(L:List Int)(k:Nat)(h4:4≤k):keep L (k+1)=keep L k:=by unfold keep;rw[List.take_take,List.take_take,Nat.min_eq_left (by omega),Nat.min_eq_left (by omega)]
theorem keep_length(L:List Int)(k:Nat)(h:k≤L.length):(keep L k).length=min 4 k:=by unfold keep;rw[List.length_take,List.length_take,Nat.min_eq_left h]
theorem own_start(w:World)(o:Obj)(b:Int):((w.alloc o).alloc (.cells #[Iq b] 3)).ownsRow (w.heap.size+1) 3 1 (Sq (w.heap.size+1) 1 1) (1+0) ([b].map (Value.int .i64)):=by refine⟨rfl,.inr ⟨w.heap.size+1,1,#[Iq b],rfl,Nat.le_refl _,?_,by omega,by unfold maxLen;omega,rfl,rfl⟩⟩;have:=heap_alloc_new (w.alloc o) (.cells #[Iq b] 3);rw[World.size_alloc]at this;exact this
theorem infoInt:(prog.info? 3).map (fun i=>(i.zero,i.size,i.bytes))=some (some (Iq 0),1,8):=by kernel_rfl
theorem first_ten(R:List Int)(b off cap:Nat)(w:World)(hne:R≠[])(hb:b<w.heap.size)(hc:∀j,j<R.length->w.cell? ⟨b,off+j,none⟩=some (Iq (R[j]?.getD 0)))(h10:R[0]?.getD 0=10):
 Calls prog 19 #[.slice (some ⟨b,off,none⟩) R.length cap] w fun e w'=>e=.returned (.tuple #[.agg #[.string ⟨#[10]⟩,Iq 0],Iq 1])∧Below w.heap.size w w':=by
 have hp:=List.length_pos_iff.2 hne;have h0:w.cell? ⟨b,off,none⟩=some (Iq 10):=by have:=hc 0 hp;rw[h10]at this;exact this
 have hp':(0:Int)<(R.length:Int):=by omega
 have h0':(w.alloc (.cells #[.string ⟨#[]⟩,Iq 0] 38)).cell? ⟨b,off,none⟩=some (Iq 10):=(((Below.refl w.heap.size w).alloc (Nat.le_refl _) _).cell (p:=⟨b,off,none⟩) hb).trans h0;clear hc h10 hne;go_enter func19,ntmps19;go_wp2;exact bodyPost_ret (v:=.tuple #[.agg #[.string ⟨#[10]⟩,Iq 0],Iq 1]) (by simp[results,Tryz.results19,go_sem]) rfl ⟨rfl,(Below.refl _ _).alloc (Nat.le_refl _) _⟩
theorem first_gen(R:List Int)(r:Int)(b off cap:Nat)(w:World)(ht:TabAt w)(hne:R≠[])(hlen:R.length≤17592186044416)(hb:b<w.heap.size)(hc:∀j,j<R.length->w.cell? ⟨b,off+j,none⟩=some (Iq (R[j]?.getD 0)))
 (hr:R[0]?.getD 0=r) (o:Nat) (c:Int) (L:List Int) (hL:R.drop o=L) (h10:r≠10) (hcs:o=0∧isMk r=true∧c=32∨o=1∧isMk r=false∧c=r) (n:Nat) (hn:n=o+(mks L).length) (T:List UInt8) (hT:T=enc (c::(mks L).take 4)) (W:Int) (hW:W=wid c):
 Calls prog 19 #[.slice (some ⟨b,off,none⟩) R.length cap] w fun e w'=>e=.returned (.tuple #[.agg #[.string ⟨T.toArray⟩,Iq W],Iq n])∧Below w.heap.size w w':=by
 obtain⟨i0,hi,hz0,hz1,hz2⟩:=info_parts infoInt;have hp:=List.length_pos_iff.2 hne;have HT:=qH<|ht;have ho1:o≤1:=by rcases hcs with⟨h,_⟩|⟨h,_⟩<;>omega
 have hLn:L.length+o=R.length:=by rw[<-hL,List.length_drop];omega
 have hL1:L.length+o≤R.length:=by omega
 have hL2:R.length≤L.length+o:=by omega
 have HC:Hid (∀k (hk:k<L.length),w.cell? ⟨b,off+(o+k),none⟩=some (Iq L[k])):=by
  intro k hk;have e:L[k]=R[o+k]'(by omega):=by subst hL;first|(simp;done)|(rw[List.getElem_drop])
  rw[hc (o+k) (by omega),List.getElem?_eq_getElem (by omega),e];rfl
 have HN:=qH<|hn;have HTx:=qH<|hT;have HW:=qH<|hW;have hp':(0:Int)<(R.length:Int):=by omega
 have h10':(r==10)=false:=by simp[h10]
 have hb0:Below w.heap.size w (w.alloc (.cells #[.string ⟨#[]⟩,Iq 0] 38)):=(Below.refl _ _).alloc (Nat.le_refl _) _;have h0:(w.alloc (.cells #[.string ⟨#[]⟩,Iq 0] 38)).cell? ⟨b,off,none⟩=some (Iq r):=(hb0.cell (p:=⟨b,off,none⟩) hb).trans (by have:=hc 0 hp;rw[hr]at this;exact this);have HT0:=qH<|ht.below hb0;clear hc hn hT hW ht h10 hr hne hb0 hL hLn;rcases hcs with⟨ho,hm,hcc⟩|⟨ho,hm,hcc⟩;all_goals
  have HM:=qH<|hm;have HO:=qH<|ho;have HCc:=qH<|hcc;clear hm ho hcc;go_enter func19,ntmps19;go_wp2_with(go_at_call 39;refine(isMark_is r _ HT0 _ HM).mono ?_;rintro e w' ⟨rfl,rfl⟩);go_loopw[5,6] (fun q v wr=>∃k:Nat,k≤L.length∧q=Iq (o+k:Nat)∧wr.ownsRow (w.heap.size+1) 3 1 v (1+min 4 k) ((c::keep L k).map (Value.int .i64))∧wr.heap[w.heap.size]?=some (.cells #[.string ⟨#[]⟩,Iq 0] 38 (0,0))∧Below w.heap.size w wr∧Hid (∀j (hj:j<L.length),j<k->isMk (L[j])=true)) (fun q _ _=>R.length-(intOf q).toNat);case atStart=>refine⟨0,by omega,by rw[HO.out];rfl,by rw[HCc.out];exact own_start w _ _,?_,((Below.refl _ _).alloc (Nat.le_refl _) _).alloc (by simp) _,fun j hj h=>by omega⟩;rw[Below.heap_alloc _ _ _ (by simp)];exact heap_alloc_new w _
  case round=>
   obtain⟨k,hk,rfl,hown,hres,hbw,hmk⟩:=hrel;have hsz:=(Array.getElem?_eq_some_iff.1 hres).1;have HTr:=qH<|HT.below hbw;by_cases hlt:k<L.length
   ·obtain⟨x,hx⟩:=nmd (L[k]);have hcx:wr.cell? ⟨b,off+(o+k),none⟩=some (Iq x):=(hbw.cell (p:=⟨b,off+(o+k),none⟩) hb).trans (by have:=HC k hlt;rw[hx]at this;exact this);have HX:=qH<|hx;have hlt':((o+k:Nat):Int)<(R.length:Int):=by omega
    clear hx;by_cases hxm:isMk x=true
    ·have HXM:=qH<|hxm;clear hxm;have hmk':Hid (∀j (hj:j<L.length),j<k+1->isMk (L[j])=true):=by
      intro j hj h;by_cases ej:j=k;·subst ej;rw[HX.out];exact HXM
      ·exact hmk j hj (by omega)
     by_cases h4:k<4
     ·have hmin:min 4 k=k:=by omega
      rw[hmin]at hown;have HKA:Hid (keep L (k+1)=keep L k++[x]):=by show _=_;rw[keep_add _ _ hlt h4,HX.out]
      obtain⟨g,cp,rfl⟩:∃g cp,u6=Sq g (1+k) cp:=by
       rcases hown.2 with⟨_,h⟩|⟨g,cp,cur,h,_⟩;·omega
       ·exact⟨g,cp,h⟩
      have h4':((1+k:Nat):Int)≤4:=by omega
      clear hmk HX;go_wp2_with(first
       |(go_at_call 39;refine(isMark_is x _ HTr _ HXM).mono ?_;rintro e w' ⟨rfl,rfl⟩)
       |(at_builtin;refine wpList_append_own _ rfl _ _ 59 rfl (w.heap.size+1) 3 i0 (Iq 0) 1 8 underlying59 hi hz0 hz1 hz2 rfl (by decide) _ _ _ rfl (hown.alloc _) _ 1 1 [Iq x] rfl rfl ?c1k3 ?c2k3 ?c3k3 ?c4k3 ?c5k3 ?_));try case c1k3=>exact cell_one_new _ _ _
      case c2k3=>first|(intro u hu;simp at hu;subst hu;rfl)|rfl|(simp;done)
      case c3k3=>first|(unfold maxLen;omega)|omega
      case c4k3=>omega
      case c5k3=>first|omega|(rw[World.size_alloc];omega)
      intro v' w1 hown' hg _;have hrow:=fun q hq=>(hown.lt q hq).1;have hb1:=(hbw.alloc (by omega) _).grown hg (by rw[World.size_alloc];omega) (fun q hq=>by have:=hrow q hq;omega);have hres1:w1.heap[w.heap.size]?=some (.cells #[.string ⟨#[]⟩,Iq 0] 38 (0,0)):=by rw[hg.block w.heap.size (by rw[World.size_alloc];omega) (fun e=>by have:=hrow _ e.symm;omega),Below.heap_alloc _ _ _ (by omega)];exact hres
      clear hg hrow hown hbw hres HTr hcx;go_wp2;go_roundw;case rel=>refine⟨k+1,by omega,by go_num,?_,hres1,hb1,hmk'⟩;rw[HKA.out,<-List.cons_append,List.map_append,show 1+min 4 (k+1)=1+k+1 by omega];exact hown'
      case measure=>simp[intOf];omega
     ·have hmin:min 4 k=4:=by omega
      have HKF:Hid (keep L (k+1)=keep L k):=keep_full _ _ (by omega);rw[hmin]at hown;obtain⟨g,cp,rfl⟩:∃g cp,u6=Sq g (1+4) cp:=by
       rcases hown.2 with⟨_,h⟩|⟨g,cp,cur,h,_⟩;·omega
       ·exact⟨g,cp,h⟩
      clear hmk HX;go_wp2_with(go_at_call 39;refine(isMark_is x _ HTr _ HXM).mono ?_;rintro e w' ⟨rfl,rfl⟩);go_roundw;case rel=>refine⟨k+1,by omega,by go_num,?_,hres,hbw,hmk'⟩;rw[HKF.out,show 1+min 4 (k+1)=1+4 by omega];exact hown
      case measure=>simp[intOf];omega
    ·have HXM:Hid (isMk x=false):=by show _=_;simpa using hxm
     have HMK:Hid (mks L=L.take k):=takeWhile_stop isMk _ k hk hmk (fun hj=>by rw[HX.out];exact HXM);have HNk:Hid (n=o+k):=by show _=_;rw[HN.out,HMK.out,List.length_take];omega
     have HTk:Hid (enc (c::keep L k)=T):=by show _=_;rw[HTx.out,HMK.out];rfl
     have hI:=ints_own' hown;have HI:=qH<|hI;have hkl:=keep_length L k hk;have HKL:Hid ((c::keep L k).length≤17592186044416):=by show _≤_;rw[List.length_cons,hkl];omega
     clear hxm hmk hI hown hkl;go_wp2_with(go_at_call 39;refine(isMark_is x _ HTr _ HXM).mono ?_;rintro e w' ⟨rfl,rfl⟩);refine(gEncode_all _ _ _ HI HKL).mono ?_;rintro e w2 ⟨rfl,b2⟩;rw[HTk.out];have hres2:w2.heap[w.heap.size]?=some (.cells #[.string ⟨#[]⟩,Iq 0] 38 (0,0)):=by rw[b2.block _ hsz];exact hres
     have G2:Hid (Calls prog 41 #[Iq c] w2 fun e w'=>e=.returned (Iq W)∧w'=w2):=by show Calls _ _ _ _ _;rw[HW.out];exact gWidth_any c w2 (HTr.below b2)
     rw[HCc.out]at G2;have q0:w2.cell? ⟨w.heap.size,0,none⟩=some (.string ⟨#[]⟩):=by rw[cell_of_row _ _ _ _ _ _ hres2];rfl
     have q1:w2.cell? ⟨w.heap.size,1,none⟩=some (Iq 0):=by rw[cell_of_row _ _ _ _ _ _ hres2];rfl
     have f0:=frozen_of_row w2 w.heap.size 0 _ _ hres2;have f1:=frozen_of_row w2 w.heap.size 1 _ _ hres2;have hB2:=hbw.trans (b2.mono (by omega));have hsz2:=Nat.lt_of_lt_of_le hsz b2.size;clear b2 hres hbw HI HTr;go_wp2_with fail;refine G2.mono ?_;rintro e w3 ⟨rfl,rfl⟩;go_wp2;rw[HNk.out];refine bodyPost_ret (v:=.tuple #[.agg #[.string ⟨T.toArray⟩,Iq W],Iq ((o+k:Nat):Int)]) ?_ rfl ⟨by simp,(hB2.setCell (p:=⟨w.heap.size,0,none⟩) (Nat.le_refl _) _).setCell (p:=⟨w.heap.size,1,none⟩) (Nat.le_refl _) _⟩;simp[results,Tryz.results19,go_sem,q0,q1]
   ·have hlt':¬((o+k:Nat):Int)<(R.length:Int):=by omega
    have HMK:Hid (mks L=L.take k):=takeWhile_stop isMk _ k hk hmk (fun hj=>absurd hj hlt);have HNk:Hid (n=o+k):=by show _=_;rw[HN.out,HMK.out,List.length_take];omega
    have HTk:Hid (enc (c::keep L k)=T):=by show _=_;rw[HTx.out,HMK.out];rfl
    have hI:=ints_own' hown;have HI:=qH<|hI;have hkl:=keep_length L k hk;have HKL:Hid ((c::keep L k).length≤17592186044416):=by show _≤_;rw[List.length_cons,hkl];omega
    clear hmk hI hown hkl;go_wp2_with fail;refine(gEncode_all _ _ _ HI HKL).mono ?_;rintro e w2 ⟨rfl,b2⟩;rw[HTk.out];have hres2:w2.heap[w.heap.size]?=some (.cells #[.string ⟨#[]⟩,Iq 0] 38 (0,0)):=by rw[b2.block _ hsz];exact hres
    have G2:Hid (Calls prog 41 #[Iq c] w2 fun e w'=>e=.returned (Iq W)∧w'=w2):=by show Calls _ _ _ _ _;rw[HW.out];exact gWidth_any c w2 (HTr.below b2)
    rw[HCc.out]at G2;have q0:w2.cell? ⟨w.heap.size,0,none⟩=some (.string ⟨#[]⟩):=by rw[cell_of_row _ _ _ _ _ _ hres2];rfl
    have q1:w2.cell? ⟨w.heap.size,1,none⟩=some (Iq 0):=by rw[cell_of_row _ _ _ _ _ _ hres2];rfl
    have f0:=frozen_of_row w2 w.heap.size 0 _ _ hres2;have f1:=frozen_of_row w2 w.heap.size 1 _ _ hres2;have hB2:=hbw.trans (b2.mono (by omega));have hsz2:=Nat.lt_of_lt_of_le hsz b2.size;clear b2 hres hbw HI HTr;go_wp2_with fail;refine G2.mono ?_;rintro e w3 ⟨rfl,rfl⟩;go_wp2;rw[HNk.out];refine bodyPost_ret (v:=.tuple #[.agg #[.string ⟨T.toArray⟩,Iq W],Iq ((o+k:Nat):Int)]) ?_ rfl ⟨by simp,(hB2.setCell (p:=⟨w.heap.size,0,none⟩) (Nat.le_refl _) _).setCell (p:=⟨w.heap.size,1,none⟩) (Nat.le_refl _) _⟩;simp[results,Tryz.results19,go_sem,q0,q1]
end
section
open Go.RowKit Go.Proofs.Tryz
theorem first_any(R:List Int)(v:Value)(w:World)(ht:TabAt w)(hne:R≠[])(hlen:R.length≤17592186044416)(h:Ints w v R):
 Calls prog 19 #[v] w fun e w'=>e=.returned (.tuple #[.agg #[.string ⟨(cText R).toArray⟩,Iq (cWide R)],Iq (cNum R)])∧Below w.heap.size w w':=by
 obtain⟨a,cap,rfl,hh⟩:=h;obtain⟨b,off,rfl,hb,hc⟩:=hh.resolve_left hne;match R,hne with
 |r::t,hne=>
  by_cases h10:r=10;·have:=first_ten (r::t) b off cap w hne hb hc (by simpa using h10);simp only[cText,cWide,cNum,if_pos h10];exact this
  ·by_cases hm:isMk r=true
   ·have e1:cOwn (r::t)=0:=by simp only[cOwn,if_pos hm]
    have e2:cBase (r::t)=32:=by simp only[cBase,if_pos hm]
    have e3:cMarks (r::t)=mks (r::t):=by unfold cMarks;rw[e1];rfl
    simp only[cText,cWide,cNum,if_neg h10,e1,e2,e3];exact first_gen (r::t) r b off cap w ht hne hlen hb hc rfl 0 32 (r::t) rfl h10 (.inl ⟨rfl,hm,rfl⟩) _ rfl _ rfl _ rfl
   ·have e1:cOwn (r::t)=1:=by simp only[cOwn,if_neg hm]
    have e2:cBase (r::t)=r:=by simp only[cBase,if_neg hm]
    have e3:cMarks (r::t)=mks t:=by unfold cMarks;rw[e1];rfl
    simp only[cText,cWide,cNum,if_neg h10,e1,e2,e3];exact first_gen (r::t) r b off cap w ht hne hlen hb hc rfl 1 r t rfl h10 (.inr ⟨rfl,by simpa using hm,rfl⟩) _ rfl _ rfl _ rfl
def cCells(l:List (List UInt8×Int)):List Value:=l.flatMap fun c=>[.string ⟨c.1.toArray⟩,Iq c.2]
theorem cCells_append(a b:List (List UInt8×Int)):cCells (a++b)=cCells a++cCells b:=by simp[cCells]
theorem infoCluster:(prog.info? 38).map (fun i=>(i.zero,i.size,i.bytes))=some (some (.agg #[.string ⟨#[]⟩,Iq 0]),2,24):=by kernel_rfl
def lenOfV:Value->Nat
 |.slice _ n _=>n
 |_=>0
def IntsC(w:World)(v:Value)(zs:List Int):Prop:=
 ∃a cap,v=.slice a zs.length cap∧zs.length≤cap∧cap≤maxLen∧(zs=[]∨∃b off,a=some ⟨b,off,none⟩∧b<w.heap.size∧∀j,j<zs.length->w.cell? ⟨b,off+j,none⟩=some (Iq (zs[j]?.getD 0)))
theorem intsC_own{w:World}{B n:Nat}{v:Value}{zs:List Int}(h:w.ownsRow B 3 1 v n (zs.map (Value.int .i64))):IntsC w v zs:=by
 have hl:zs.length=n:=by have:=h.1;simpa using this
 obtain⟨a,cap,hv,hh⟩:=ints_own' h;rcases h.2 with⟨rfl,rfl⟩|⟨g,cap',cur,rfl,_,hg,h1,h2,_⟩;·have hz:=List.length_eq_zero_iff.1 hl;subst hz;exact⟨none,0,rfl,Nat.le_refl _,by unfold maxLen;omega,.inl rfl⟩
 ·simp only[Value.slice.injEq]at hv;obtain⟨rfl,_,rfl⟩:=hv;exact⟨_,_,by rw[hl],by omega,h2,hh⟩
theorem own_below2{w w':World}{B n size:Nat}{e:TypeId}{v:Value}{xs:List Value}(h:w.ownsRow B e size v n xs)(hb:Below w.heap.size w w'):w'.ownsRow B e size v n xs:=by
 refine⟨h.1,?_⟩;rcases h.2 with h2|⟨g,cap,cur,a,b,c,d⟩;·exact .inl h2
 ·exact .inr ⟨g,cap,cur,a,b,by rw[hb.block g (Array.getElem?_eq_some_iff.1 c).1];exact c,d⟩
theorem intsC_drop{w:World}{b off cap n:Nat}{zs:List Int}(hn:n≤zs.length)(hcap:zs.length≤cap)(hmax:cap≤maxLen)(hb:b<w.heap.size)(hc:∀j,j<zs.length->w.cell? ⟨b,off+j,none⟩=some (Iq (zs[j]?.getD 0))):
 IntsC w (.slice (if cap=n then some ⟨b,off,none⟩else some ⟨b,off+n,none⟩) (zs.length-n) (cap-n)) (zs.drop n):=by
 refine⟨_,_,by rw[List.length_drop],by rw[List.length_drop];omega,by omega,?_⟩;by_cases e:cap=n;·left;exact List.drop_eq_nil_of_le (by omega)
 ·right;rw[if_neg e];refine⟨b,off+n,rfl,hb,fun j hj=>?_⟩;rw[List.length_drop]at hj;rw[Nat.add_assoc,hc (n+j) (by omega),List.getElem?_drop]
theorem gClusters_any(s:ByteArray)(w:World)(ht:TabAt w)(hs:s.size≤1099511627776):
 Calls prog 9 #[.string s] w fun e w'=>∃v,e=.returned v∧w'.ownsRow w.heap.size 38 2 v (clus (runes s.data.toList)).length (cCells (clus (runes s.data.toList)))∧Below w.heap.size w w':=by
 obtain⟨i0,hi,hz0,hz1,hz2⟩:=info_parts infoCluster;have HT:=qH<|ht;clear ht;have hR:=runes_length s.data.toList;have hsl:s.data.toList.length=s.size:=by rw[Array.length_toList];rfl
 rw[hsl]at hR;go_enter func9,ntmps9;go_wp2_with fail;refine(gDecode_any s _ (by omega)).mono ?_;rintro e w1 ⟨v1,rfl,o1,b1⟩;obtain⟨R,hRe⟩:=nmd (runes s.data.toList);rw[hRe]at o1 hR;have HRe:=qH<|hRe;have I1:=qH<|intsC_own o1;have HT1:=qH<|HT.below b1;clear o1 hRe hsl;have hs1:=b1.size;go_wp2;go_loopw[3,4] (fun v rest wr=>∃(R':List Int) (acc:List (List UInt8×Int)),Hid (IntsC w1 rest R')∧wr.ownsRow w1.heap.size 38 2 v acc.length (cCells acc)∧Below w1.heap.size w1 wr∧Hid (acc++clus R'=clus R)∧acc.length+R'.length≤R.length) (fun _ rest _=>lenOfV rest);case atStart=>exact⟨R,[],I1,World.ownsRow_nil _ _ _ _,Below.refl _ _,rfl,by simp⟩
 case round=>
  obtain⟨R',acc,hI,hown,hbw,hacc,hlen⟩:=hrel;obtain⟨a,cap,rfl,hcap,hmax,hh⟩:=hI.out;by_cases hne:R'=[];·subst hne;have e:=hacc.out;rw[clus_nil,List.append_nil]at e;have HE:=qH<|e;clear e hh hI hacc;go_wp2;go_ret;rw[HRe.out,<-HE.out];exact⟨_,rfl,ownsRow_base hown hs1,b1.trans (hbw.mono hs1)⟩
  ·have hp:=List.length_pos_iff.2 hne;have hp':(0:Int)<(R'.length:Int):=by omega
   obtain⟨b,off,rfl,hb,hc⟩:=hh.resolve_left hne;have hsz:=hbw.size;have F:=qH<|
    first_any R' _ wr (HT1.below hbw) hne (by omega) ⟨_,cap,rfl,.inr ⟨b,off,rfl,by omega,fun j hj=>(hbw.cell (p:=⟨b,off+j,none⟩) hb).trans (hc j hj)⟩⟩;have hnl:=cNum_le R';have hn1:=cNum_pos hne;have HS:Hid ((acc++[(cText R',cWide R')])++clus (R'.drop (cNum R'))=clus R):=by show _=_;rw[<-hacc.out,clus_step hne];simp
   obtain⟨T,hT⟩:=nmd (cText R');obtain⟨W,hW⟩:=nmd (cWide R');obtain⟨n,hn⟩:=nmd (cNum R');rw[hT,hW,hn]at F;rw[hT,hW,hn]at HS;rw[hn]at hnl hn1;have HC:=qH<|hc;unfold maxLen at hmax;clear hT hW hn hacc hI hh hc hne;go_wp2_with fail;refine F.mono ?_;rintro e w2 ⟨rfl,b2⟩;have hs2:=b2.size;have hown2:=own_below2 hown b2;have hB2:=hbw.trans (b2.mono hsz);clear b2 F hown hbw;go_wp2_with(at_builtin;refine wpList_append_own _ rfl _ _ 35 rfl w1.heap.size 38 i0 (.agg #[.string ⟨#[]⟩,Iq 0]) 2 24 underlying35 hi hz0 hz1 hz2 rfl (by decide) _ _ _ rfl ((hown2.alloc _).alloc _) _ 1 1 [.string ⟨T.toArray⟩,Iq W] rfl rfl ?c1 ?c2 ?c3 ?c4 ?c5 ?_);case c1=>have:=cell_two_new (w2.alloc (.cells #[.string ⟨T.toArray⟩,Iq W] 38)) (.string ⟨T.toArray⟩) (Iq W) 38;rw[World.size_alloc]at this;exact this
   case c2=>intro u hu;simp at hu;rcases hu with rfl|rfl<;>rfl
   case c3=>unfold maxLen;omega
   case c4=>omega
   case c5=>rw[World.size_alloc,World.size_alloc];omega
   intro v' w3 hown' hg _;have hrow:=fun q hq=>(hown2.lt q hq).1;have hs12:=hB2.size;have hB3:=((hB2.alloc hs12 _).alloc (by rw[World.size_alloc];omega) _).grown hg (by rw[World.size_alloc,World.size_alloc];omega) hrow;clear hg hrow hown2 hB2;have hnl':(n:Int)≤(R'.length:Int):=by omega
   have hcl':(R'.length:Int)≤(cap:Int):=by omega
   have HD:=qH<|intsC_drop hnl hcap (by unfold maxLen;exact hmax) hb HC;go_wp2;go_roundw;case rel=>refine⟨R'.drop n,acc++[(T,W)],HD,?_,hB3,HS,by rw[List.length_append,List.length_drop];simp;omega⟩;rw[List.length_append,cCells_append];exact hown'
   case measure=>show R'.length-n<R'.length;omega
end
end Go.Proofs.YtmbefonnkkhfgaaGreatDoor
