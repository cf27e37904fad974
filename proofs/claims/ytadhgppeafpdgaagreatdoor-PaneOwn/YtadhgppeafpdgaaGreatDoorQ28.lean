import Derived.Test.YtadhgppeafpdgaaGreatDoorQ16
import Derived.ProofKit
import Derived.OpenShut
import Derived.Lib.LaidTab
set_option linter.all false
set_option maxRecDepth 100000
set_option maxHeartbeats 16000000
namespace Go.Proofs.YtadhgppeafpdgaaGreatDoor
open Go.RowKit Go.Proofs.Tryz
theorem EV:(prog.globals[10]?).map (·.type)=some 236:=by kernel_rfl
theorem JQ:prog.cellsOf 235=3:=by kernel_rfl
theorem NF:prog.cellsOf 3=1:=by kernel_rfl
theorem T_{H}:(Rows.laid_pane_glyph_spans:DataW H)=.agg (gG.map fun s=>.agg [.lit (.int .i64 s.1),.lit (.int .i64 s.2.1),.lit (.int .i64 s.2.2)]):=rfl
theorem Zc{α:Type}{l:List α}{k}{x}(h:(l.drop k).take 1=[x]):l[k]?=some x:=by have:=congrArg (·[0]?) h;grind
theorem Gb{W}{base}{sp}{held}{fuel}{cs}{a b c}{p}
 (h:DataW.trod (fun _=>()) prog W base sp held fuel 235 cs=some (.agg [.lit (.int .i64 a),.lit (.int .i64 b),.lit (.int .i64 c)],p)):
 cs[0]?=some (Iq a)/\cs[1]?=some (Iq b)/\cs[2]?=some (Iq c):=by
 obtain⟨xs,n,_,hx,_,hl,hf⟩:=Rj underlying235 h;have TC:xs.length=3:=hl;match xs,TC with
 |[x0,x1,x2],_=>have hx':=congrArg Prod.fst hx;simp only[yq,List.map_nil,Jc,List.cons.injEq,and_true]at hx';obtain⟨e0,e1,e2⟩:=hx';have f0:DataW.trod (fun _=>()) prog W base sp held n 3 ((cs.drop 0).take (prog.cellsOf 3))=some x0:=hf 0 _ rfl;have f1:DataW.trod (fun _=>()) prog W base sp held n 3 ((cs.drop 1).take (prog.cellsOf 3))=some x1:=hf 1 _ rfl;have f2:DataW.trod (fun _=>()) prog W base sp held n 3 ((cs.drop 2).take (prog.cellsOf 3))=some x2:=hf 2 _ rfl;rw[NF]at f0 f1 f2;obtain⟨z0,h0,y0,_⟩:=yt underlying3 f0;obtain⟨z1,h1,y1,_⟩:=yt underlying3 f1;obtain⟨z2,h2,y2,_⟩:=yt underlying3 f2;grind[Zc]
theorem aL.below{w w'}(h:aL w)(hb:Bt w w'):aL w':=by intro i hi;obtain⟨a,b,c⟩:=h i hi;have ha:=rS w _ a;exact⟨(hb.cell ha).trans a,(hb.cell (p:=(aq 10 (i*3+1))) ha).trans b,(hb.cell (p:=(aq 10 (i*3+2))) ha).trans c⟩
theorem mC(r:Int)(w:World)(ht:aL w)(b:Bool)(hb:gh r=b):
 Cw 235 #[Iq r] w fun e w'=>e=Rw (.bool b)/\w'=w:=by
 have HT:=qH<|ht;clear ht;by_cases fM:r=10
 ·have e:b=false:=by rw[<-hb,uC];omega
  subst e;subst fM;clear hb;go_enter func235,ntmps235;go_wp2;go_ret;simp_all
 ·have EX:(r !=10)=true:=by simp[fM]
  obtain⟨k,hk⟩:=af (kY r);have G:Hid (Cw 86 #[Iq r] w fun e w'=>e=Rw (Iq k)/\w'=w):=by show Calls _ _ _ _ _;rw[<-hk];exact ku r w HT
  have hk0:Hid (b=(k==0)):=by show _=_;rw[<-hb,<-hk,D9,oQ];simp[fM]
  clear hb hk fM;go_enter func235,ntmps235;go_wp2_with fail;refine G.mono ?_;rintro e w1 ⟨rfl,rfl⟩;go_wp2;go_ret;rw[hk0.out];simp_all
def keep(L:List Int)(k:Nat):List Int:=(L.take k).take 4
theorem Pd  L   k  (h:k<L.length) (h4:k<4):keep L (k+1)=keep L k++[L[k]]:=by unfold keep;rw[List.take_take,List.take_take,Nat.min_eq_right (by omega),Nat.min_eq_right (by omega),ip h]
theorem KO  L   k  (h4:4<=k):keep L (k+1)=keep L k:=by grind[keep]
theorem rp  L   k  (h:k<=L.length):(keep L k).length=min 4 k:=by grind[keep]
theorem K7(w:World)  o   b  :((w.alloc o).alloc (.cells #[Iq b] 3)).ownsRow (w.heap.size+1) 3 1 (Sq (w.heap.size+1) 1 1) (1+0) ([b].map (Value.int .i64)):=by refine⟨rfl,.inr ⟨w.heap.size+1,1,#[Iq b],rfl,ae _,?_,by omega,by unfold maxLen;omega,rfl,rfl⟩⟩;have:=heap_alloc_new (w.alloc o) (.cells #[Iq b] 3);simp_all
theorem TV:(prog.info? 3).map (fun i=>(i.zero,i.size,i.bytes))=some (some (Iq 0),1,8):=by kernel_rfl
theorem Kh(R:List Int)(b off cap:Nat)(w:World)(bj:R≠[])(hb:b<w.heap.size)(hc:∀j,j<R.length->w.cell? (aq b (off+j))=some (Iq (R[j]?.getD 0)))(fM:R[0]?.getD 0=10):
 Cw 205 #[.slice (some (aq b off)) R.length cap] w fun e w'=>e=Rw (.tuple #[.agg #[.string ⟨#[10]⟩,Iq 0],Iq 1])/\Bt w w':=by
 have hp:=io.2 bj;have h0:w.cell? (aq b off)=some (Iq 10):=by have:=hc 0 hp;rw[fM]at this;exact this
 have _q:(0:Int)<(R.length:Int):=by omega
 have ZV:(w.alloc (.cells #[.string ⟨#[]⟩,Iq 0] 57)).cell? (aq b off)=some (Iq 10):=(((ag w.heap.size w).alloc (ae _) _).cell (p:=(aq b off)) hb).trans h0;clear hc fM bj;go_enter func205,ntmps205;go_wp2;exact bodyPost_ret (v:=.tuple #[.agg #[.string ⟨#[10]⟩,Iq 0],Iq 1]) (by simp[results,Tryz.results205,go_sem]) rfl ⟨rfl,(ag _ _).alloc (ae _) _⟩
theorem xy(R:List Int)(r:Int)(b off cap:Nat)(w:World)(ht:aL w)(bj:R≠[])(aO:R.length<=17592186044416)(hb:b<w.heap.size)(hc:∀j,j<R.length->w.cell? (aq b (off+j))=some (Iq (R[j]?.getD 0)))
 (hr:R[0]?.getD 0=r) (o:Nat) (c:Int) (L:List Int) (hL:R.drop o=L) (fM:r≠10) (iD:o=0/\gh r=true/\c=32\/o=1/\gh r=false/\c=r) (n:Nat) (hn:n=o+(Er L).length) (T:List UInt8) (hT:T=enc (c::(Er L).take 4)) (W:Int) (hW:W=kY c):
 Cw 205 #[.slice (some (aq b off)) R.length cap] w fun e w'=>e=Rw (.tuple #[.agg #[.string ⟨T.toArray⟩,Iq W],Iq n])/\Bt w w':=by
 obtain⟨i0,hi,dJ,fy,fB⟩:=info_parts TV;have hp:=io.2 bj;have HT:=qH<|ht;have ho1:o<=1:=by rcases iD with⟨h,_⟩|⟨h,_⟩<;>omega
 have hLn:L.length+o=R.length:=by rw[<-hL,dL];omega
 have vP:L.length+o<=R.length:=by omega
 have hL2:R.length<=L.length+o:=by omega
 have HC:Hid (∀k (hk:k<L.length),w.cell? (aq b (off+(o+k)))=some (Iq L[k])):=by
  intro k hk;have e:L[k]=R[o+k]'(by omega):=by subst hL;first|grind|(rw[List.getElem_drop])
  rw[hc (o+k) (by omega),di (by omega),e];rfl
 have HN:=qH<|hn;have HTx:=qH<|hT;have HW:=qH<|hW;have _q:(0:Int)<(R.length:Int):=by omega
 have EX:(r==10)=false:=by simp[fM]
 have wC:Bt w (w.alloc (.cells #[.string ⟨#[]⟩,Iq 0] 57)):=(ag _ _).alloc (ae _) _;have h0:(w.alloc (.cells #[.string ⟨#[]⟩,Iq 0] 57)).cell? (aq b off)=some (Iq r):=(wC.cell (p:=(aq b off)) hb).trans (by grind);have HT0:=qH<|ht.below wC;clear hc hn hT hW ht fM hr bj wC hL hLn;rcases iD with⟨ho,hm,hcc⟩|⟨ho,hm,hcc⟩;all_goals
  have HM:=qH<|hm;have HO:=qH<|ho;have HCc:=qH<|hcc;clear hm ho hcc;go_enter func205,ntmps205;go_wp2_with(go_at_call 235;refine(mC r _ HT0 _ HM).mono ?_;rintro e w' ⟨rfl,rfl⟩);go_loopw[5,6] (fun q v wr=>∃k:Nat,k<=L.length/\q=Iq (o+k:Nat)/\wr.ownsRow (w.heap.size+1) 3 1 v (1+min 4 k) ((c::keep L k).map (Value.int .i64))/\wr.heap[w.heap.size]?=some (.cells #[.string ⟨#[]⟩,Iq 0] 57 (0,0))/\Bt w wr/\Hid (∀j (hj:j<L.length),j<k->gh (L[j])=true)) (fun q _ _=>R.length-(intOf q).toNat);case atStart=>refine⟨0,by omega,by rw[HO.out];rfl,by rw[HCc.out];exact K7 w _ _,?_,((ag _ _).alloc (ae _) _).alloc (by simp) _,fun j hj h=>by omega⟩;rw[cG _ _ _ (by simp)];exact heap_alloc_new w _
  case round=>
   obtain⟨k,hk,rfl,bC,BZ,b_,mw⟩:=hrel;have eV:=(az.1 BZ).1;have VL:=qH<|HT.below b_;by_cases hlt:k<L.length
   ·obtain⟨x,hx⟩:=af (L[k]);have Yn:wr.cell? (aq b (off+(o+k)))=some (Iq x):=(b_.cell (p:=(aq b (off+(o+k)))) hb).trans (by have:=HC k hlt;grind);have HX:=qH<|hx;have aR:((o+k:Nat):Int)<(R.length:Int):=by omega
    clear hx;by_cases hxm:gh x=true
    ·have ZJ:=qH<|hxm;clear hxm;have zbS:Hid (∀j (hj:j<L.length),j<k+1->gh (L[j])=true):=by
      intro j hj h;by_cases ej:j=k;·subst ej;rw[HX.out];exact ZJ
      ·exact mw j hj (by omega)
     by_cases h4:k<4
     ·have OJ:min 4 k=k:=by omega
      rw[OJ]at bC;have HKA:Hid (keep L (k+1)=keep L k++[x]):=by show _=_;rw[Pd _ _ hlt h4,HX.out]
      obtain⟨g,cp,rfl⟩:∃g cp,u6=Sq g (1+k) cp:=by rcases bC.2 with⟨_,h⟩|⟨g,cp,cM,h,_⟩;all_goals grind
      have h4':((1+k:Nat):Int)<=4:=by omega
      clear mw HX;go_wp2_with(first
       |(go_at_call 235;refine(mC x _ VL _ ZJ).mono ?_;rintro e w' ⟨rfl,rfl⟩)
       |(at_builtin;refine wpList_append_own _ rfl _ _ 34 rfl (w.heap.size+1) 3 i0 (Iq 0) 1 8 underlying34 hi dJ fy fB rfl (by decide) _ _ _ rfl (bC.alloc _) _ 1 1 [Iq x] rfl rfl ?c1k3 ?c2k3 ?c3k3 ?c4k3 ?c5k3 ?_));try case c1k3=>exact cell_one_new _ _ _
      case c2k3=>first|(intro u hu;simp at hu;subst hu;rfl)|rfl|(simp;done)
      case c3k3=>first|(unfold maxLen;omega)|omega
      case c4k3=>omega
      case c5k3=>first|omega|(rw[aA];omega)
      intro v' w1 bS hg _;have hrow:=fun q hq=>(bC.lt q hq).1;have hb1:=(b_.alloc (by omega) _).grown hg (by rw[aA];omega) (fun q hq=>by grind);have zb9:w1.heap[w.heap.size]?=some (.cells #[.string ⟨#[]⟩,Iq 0] 57 (0,0)):=by rw[hg.block w.heap.size (by rw[aA];omega) (fun e=>by grind),cG _ _ _ (by omega)];exact BZ
      clear hg hrow bC b_ BZ VL Yn;go_wp2;go_roundw;case rel=>refine⟨k+1,by omega,by go_num,?_,zb9,hb1,zbS⟩;rw[HKA.out,<-List.cons_append,pK,show 1+min 4 (k+1)=1+k+1 by omega];grind
      case measure=>simp[intOf];omega
     ·have OJ:min 4 k=4:=by omega
      have HKF:Hid (keep L (k+1)=keep L k):=KO _ _ (by omega);rw[OJ]at bC;obtain⟨g,cp,rfl⟩:∃g cp,u6=Sq g (1+4) cp:=by rcases bC.2 with⟨_,h⟩|⟨g,cp,cM,h,_⟩;all_goals grind
      clear mw HX;go_wp2_with(go_at_call 235;refine(mC x _ VL _ ZJ).mono ?_;rintro e w' ⟨rfl,rfl⟩);go_roundw;case rel=>refine⟨k+1,by omega,by go_num,?_,BZ,b_,zbS⟩;rw[HKF.out,show 1+min 4 (k+1)=1+4 by omega];omega
      case measure=>simp[intOf];omega
    ·have ZJ:Hid (gh x=false):=by show _=_;simpa using hxm
     have VH:Hid (Er L=L.take k):=lT gh _ k hk mw (fun hj=>by rw[HX.out];exact ZJ);have HNk:Hid (n=o+k):=by show _=_;rw[HN.out,VH.out,bU];omega
     have HTk:Hid (enc (c::keep L k)=T):=by show _=_;rw[HTx.out,VH.out];rfl
     have hI:=qq bC;have HI:=qH<|hI;have cZ:=rp L k hk;have HKL:Hid ((c::keep L k).length<=17592186044416):=by show _<=_;rw[cP,cZ];omega
     clear hxm mw hI bC cZ;go_wp2_with(go_at_call 235;refine(mC x _ VL _ ZJ).mono ?_;rintro e w' ⟨rfl,rfl⟩);refine(lq _ _ _ HI HKL).mono ?_;rintro e w2 ⟨rfl,b2⟩;rw[HTk.out];have oL:w2.heap[w.heap.size]?=some (.cells #[.string ⟨#[]⟩,Iq 0] 57 (0,0)):=by rw[b2.block _ eV];exact BZ
     have G2:Hid (Cw 86 #[Iq c] w2 fun e w'=>e=Rw (Iq W)/\w'=w2):=by show Calls _ _ _ _ _;rw[HW.out];exact ku c w2 (VL.below b2)
     rw[HCc.out]at G2;have q0:w2.cell? (aq w.heap.size 0)=some (.string ⟨#[]⟩):=by rw[cell_of_row _ _ _ _ _ _ oL];rfl
     have q1:w2.cell? (aq w.heap.size 1)=some (Iq 0):=by rw[cell_of_row _ _ _ _ _ _ oL];rfl
     have f0:=frozen_of_row w2 w.heap.size 0 _ _ oL;have f1:=frozen_of_row w2 w.heap.size 1 _ _ oL;have sS:=b_.trans (b2.mono (by omega));have hsz2:=zz007 eV b2.size;clear b2 BZ b_ HI VL;go_wp2_with fail;refine G2.mono ?_;rintro e w3 ⟨rfl,rfl⟩;go_wp2;rw[HNk.out];refine bodyPost_ret (v:=.tuple #[.agg #[.string ⟨T.toArray⟩,Iq W],Iq ((o+k:Nat):Int)]) ?_ rfl ⟨by simp,(sS.setCell (p:=(aq w.heap.size 0)) (ae _) _).setCell (p:=(aq w.heap.size 1)) (ae _) _⟩;simp[results,Tryz.results205,go_sem,q0,q1]
   ·have aR:¬((o+k:Nat):Int)<(R.length:Int):=by omega
    have VH:Hid (Er L=L.take k):=lT gh _ k hk mw (fun hj=>absurd hj hlt);have HNk:Hid (n=o+k):=by show _=_;rw[HN.out,VH.out,bU];omega
    have HTk:Hid (enc (c::keep L k)=T):=by show _=_;rw[HTx.out,VH.out];rfl
    have hI:=qq bC;have HI:=qH<|hI;have cZ:=rp L k hk;have HKL:Hid ((c::keep L k).length<=17592186044416):=by show _<=_;rw[cP,cZ];omega
    clear mw hI bC cZ;go_wp2_with fail;refine(lq _ _ _ HI HKL).mono ?_;rintro e w2 ⟨rfl,b2⟩;rw[HTk.out];have oL:w2.heap[w.heap.size]?=some (.cells #[.string ⟨#[]⟩,Iq 0] 57 (0,0)):=by rw[b2.block _ eV];exact BZ
    have G2:Hid (Cw 86 #[Iq c] w2 fun e w'=>e=Rw (Iq W)/\w'=w2):=by show Calls _ _ _ _ _;rw[HW.out];exact ku c w2 (VL.below b2)
    rw[HCc.out]at G2;have q0:w2.cell? (aq w.heap.size 0)=some (.string ⟨#[]⟩):=by rw[cell_of_row _ _ _ _ _ _ oL];rfl
    have q1:w2.cell? (aq w.heap.size 1)=some (Iq 0):=by rw[cell_of_row _ _ _ _ _ _ oL];rfl
    have f0:=frozen_of_row w2 w.heap.size 0 _ _ oL;have f1:=frozen_of_row w2 w.heap.size 1 _ _ oL;have sS:=b_.trans (b2.mono (by omega));have hsz2:=zz007 eV b2.size;clear b2 BZ b_ HI VL;go_wp2_with fail;refine G2.mono ?_;rintro e w3 ⟨rfl,rfl⟩;go_wp2;rw[HNk.out];refine bodyPost_ret (v:=.tuple #[.agg #[.string ⟨T.toArray⟩,Iq W],Iq ((o+k:Nat):Int)]) ?_ rfl ⟨by simp,(sS.setCell (p:=(aq w.heap.size 0)) (ae _) _).setCell (p:=(aq w.heap.size 1)) (ae _) _⟩;simp[results,Tryz.results205,go_sem,q0,q1]
theorem Kg  R   v   w  (ht:aL w) (bj:R≠[]) (aO:R.length<=17592186044416) (h:nG w v R):
 Cw 205 #[v] w fun e w'=>e=Rw (.tuple #[.agg #[.string ⟨(eY R).toArray⟩,Iq (fR R)],Iq (jh R)])/\Bt w w':=by
 obtain⟨a,cap,rfl,hh⟩:=h;obtain⟨b,off,rfl,hb,hc⟩:=hh.resolve_left bj;match R,bj with
 |r::t,bj=>
  by_cases fM:r=10;·grind[Kh,eY,fR,jh]
  ·by_cases hm:gh r=true
   ·have e1:wg (r::t)=0:=by simp only[wg,if_pos hm]
    have e2:dO (r::t)=32:=by simp only[dO,if_pos hm]
    have e3:dk (r::t)=Er (r::t):=by unfold dk;rw[e1];rfl
    simp only[eY,fR,jh,if_neg fM,e1,e2,e3];exact xy (r::t) r b off cap w ht bj aO hb hc rfl 0 32 (r::t) rfl fM (.inl ⟨rfl,hm,rfl⟩) _ rfl _ rfl _ rfl
   ·have e1:wg (r::t)=1:=by simp only[wg,if_neg hm]
    have e2:dO (r::t)=r:=by simp only[dO,if_neg hm]
    have e3:dk (r::t)=Er t:=by unfold dk;rw[e1];rfl
    simp only[eY,fR,jh,if_neg fM,e1,e2,e3];exact xy (r::t) r b off cap w ht bj aO hb hc rfl 1 r t rfl fM (.inr ⟨rfl,by grind,rfl⟩) _ rfl _ rfl _ rfl
def dN(l:List (List UInt8×Int)):List Value:=l.flatMap fun c=>[.string ⟨c.1.toArray⟩,Iq c.2]
theorem we  a b  :dN (a++b)=dN a++dN b:=by simp[dN]
theorem B8:(prog.info? 57).map (fun i=>(i.zero,i.size,i.bytes))=some (some (.agg #[.string ⟨#[]⟩,Iq 0]),2,24):=by kernel_rfl
def YY:Value->Nat
 |.slice _ n _=>n
 |_=>0
def MC(w:World)(v:Value)(zs:List Int):Prop:=
 ∃a cap,v=.slice a zs.length cap/\zs.length<=cap/\cap<=maxLen/\(zs=[]\/∃b off,a=some (aq b off)/\b<w.heap.size/\∀j,j<zs.length->w.cell? (aq b (off+j))=some (Iq (zs[j]?.getD 0)))
theorem intsC_own{w}{B n}{v}{zs}(h:w.ownsRow B 3 1 v n (zs.map (Value.int .i64))):MC w v zs:=by
 have hl:zs.length=n:=by have:=h.1;simpa using this
 obtain⟨a,cap,hv,hh⟩:=qq h;rcases h.2 with⟨rfl,rfl⟩|⟨g,cH,cM,rfl,_,hg,h1,h2,_⟩;·have hz:=jy.1 hl;subst hz;exact⟨none,0,rfl,ae _,by omega,.inl rfl⟩
 ·simp only[D6]at hv;obtain⟨rfl,_,rfl⟩:=hv;exact⟨_,_,by rw[hl],by omega,h2,hh⟩
theorem FK{w w'}{B n size}{e}{v}{xs}(h:w.ownsRow B e size v n xs)(hb:Bt w w'):w'.ownsRow B e size v n xs:=by
 refine⟨h.1,?_⟩;rcases h.2 with h2|⟨g,cap,cM,a,b,c,d⟩;·grind
 ·exact .inr ⟨g,cap,cM,a,b,by rw[hb.block g (az.1 c).1];exact c,d⟩
theorem intsC_drop{w}{b off cap n}{zs:List Int}(hn:n<=zs.length)(un:zs.length<=cap)(uw:cap<=maxLen)(hb:b<w.heap.size)(hc:∀j,j<zs.length->w.cell? (aq b (off+j))=some (Iq (zs[j]?.getD 0))):
 MC w (.slice (if cap=n then some (aq b off)else some (aq b (off+n))) (zs.length-n) (cap-n)) (zs.drop n):=by
 refine⟨_,_,by rw[dL],by grind,by omega,?_⟩;by_cases e:cap=n;·grind
 ·right;rw[if_neg e];grind
theorem e_(s:ByteArray)(w:World)(ht:aL w)(hs:s.size<=1099511627776):
 Cw 167 #[.string s] w fun e w'=>∃v,e=Rw v/\w'.ownsRow w.heap.size 57 2 v (bi (ap s.data.toList)).length (dN (bi (ap s.data.toList)))/\Bt w w':=by
 obtain⟨i0,hi,dJ,fy,fB⟩:=info_parts B8;have HT:=qH<|ht;clear ht;have hR:=bp s.data.toList;have pR:s.data.toList.length=s.size:=by rw[gc];rfl
 rw[pR]at hR;go_enter func167,ntmps167;go_wp2_with fail;refine(jn s _ (by omega)).mono ?_;rintro e w1 ⟨v1,rfl,o1,b1⟩;obtain⟨R,hRe⟩:=af (ap s.data.toList);rw[hRe]at o1 hR;have HRe:=qH<|hRe;have I1:=qH<|intsC_own o1;have HT1:=qH<|HT.below b1;clear o1 hRe pR;have hs1:=b1.size;go_wp2;go_loopw[3,4] (fun v rest wr=>∃(R':List Int) (acc:List (List UInt8×Int)),Hid (MC w1 rest R')/\wr.ownsRow w1.heap.size 57 2 v acc.length (dN acc)/\Bt w1 wr/\Hid (acc++bi R'=bi R)/\acc.length+R'.length<=R.length) (fun _ rest _=>YY rest);case atStart=>exact⟨R,[],I1,jb _ _ _ _,ag _ _,rfl,by simp⟩
 case round=>
  obtain⟨R',acc,hI,bC,b_,zo,aO⟩:=hrel;obtain⟨a,cap,rfl,un,uw,hh⟩:=hI.out;by_cases bj:R'=[];·subst bj;have e:=zo.out;rw[gS,ik]at e;have HE:=qH<|e;clear e hh hI zo;go_wp2;go_ret;rw[HRe.out,<-HE.out];exact⟨_,rfl,o_ bC hs1,b1.trans (b_.mono hs1)⟩
  ·have hp:=io.2 bj;have _q:(0:Int)<(R'.length:Int):=by omega
   obtain⟨b,off,rfl,hb,hc⟩:=hh.resolve_left bj;have eV:=b_.size;have F:=qH<|
    Kg R' _ wr (HT1.below b_) bj (by omega) ⟨_,cap,rfl,.inr ⟨b,off,rfl,by omega,fun j hj=>(b_.cell (p:=(aq b (off+j))) hb).trans (hc j hj)⟩⟩;have TF:=G8 R';have zv:=dZ bj;have HS:Hid ((acc++[(eY R',fR R')])++bi (R'.drop (jh R'))=bi R):=by show _=_;rw[<-zo.out,eI bj];simp
   obtain⟨T,hT⟩:=af (eY R');obtain⟨W,hW⟩:=af (fR R');obtain⟨n,hn⟩:=af (jh R');rw[hT,hW,hn]at F;rw[hT,hW,hn]at HS;rw[hn]at TF zv;have HC:=qH<|hc;unfold maxLen at uw;clear hT hW hn zo hI hh hc bj;go_wp2_with fail;refine F.mono ?_;rintro e w2 ⟨rfl,b2⟩;have jD:=b2.size;have jT:=FK bC b2;have sS:=b_.trans (b2.mono eV);clear b2 F bC b_;go_wp2_with(at_builtin;refine wpList_append_own _ rfl _ _ 268 rfl w1.heap.size 57 i0 (.agg #[.string ⟨#[]⟩,Iq 0]) 2 24 underlying268 hi dJ fy fB rfl (by decide) _ _ _ rfl ((jT.alloc _).alloc _) _ 1 1 [.string ⟨T.toArray⟩,Iq W] rfl rfl ?c1 ?c2 ?c3 ?c4 ?c5 ?_);case c1=>have:=cell_two_new (w2.alloc (.cells #[.string ⟨T.toArray⟩,Iq W] 57)) (.string ⟨T.toArray⟩) (Iq W) 57;simp_all
   case c2=>intro u hu;simp at hu;rcases hu with rfl|rfl<;>rfl
   case c3=>unfold maxLen;omega
   case c4=>omega
   case c5=>rw[aA,aA];omega
   intro v' w3 bS hg _;have hrow:=fun q hq=>(jT.lt q hq).1;have zhu:=sS.size;have Wg:=((sS.alloc zhu _).alloc (by rw[aA];omega) _).grown hg (by rw[aA,aA];omega) hrow;clear hg hrow jT sS;have zoM:(n:Int)<=(R'.length:Int):=by omega
   have znR:(R'.length:Int)<=(cap:Int):=by omega
   have HD:=qH<|intsC_drop TF un (by unfold maxLen;omega) hb HC;go_wp2;go_roundw;case rel=>refine⟨R'.drop n,acc++[(T,W)],HD,?_,Wg,HS,by grind⟩;rw[aI,we];exact bS
   case measure=>show R'.length-n<R'.length;omega
