import Derived.Test.YtiaimhjebnobnaaGreatDoorQ17
import Derived.ProofKit
import Derived.OpenShut
import Derived.Lib.LaidTab
set_option linter.all false
set_option maxRecDepth 100000
set_option maxHeartbeats 16000000
namespace Go.Proofs.YtiaimhjebnobnaaGreatDoor
open Go.RowKit Go.Proofs.Tryz
theorem Ga:(prog.globals[10]?).map (·.type)=some 318:=by kernel_rfl
theorem Ki:prog.cellsOf 317=3:=by kernel_rfl
theorem Oa:prog.cellsOf 3=1:=by kernel_rfl
theorem UY{H}:(Rows.laid_pane_glyph_spans:DataW H)=.agg (iI.map fun s=>.agg [.lit (.int .i64 s.1),.lit (.int .i64 s.2.1),.lit (.int .i64 s.2.2)]):=rfl
theorem ZY{α:Type}{l:List α}{k}{x}(h:(l.drop k).take 1=[x]):l[k]?=some x:=by have:=congrArg (·[0]?) h;grind
theorem Hy{W}{base}{sp}{held}{fuel}{cs}{a b c}{p}
 (h:DataW.trod (fun _=>()) prog W base sp held fuel 317 cs=some (.agg [.lit (.int .i64 a),.lit (.int .i64 b),.lit (.int .i64 c)],p)):
 cs[0]?=some (Iq a)/\cs[1]?=some (Iq b)/\cs[2]?=some (Iq c):=by
 obtain⟨xs,n,_,hx,_,hl,hf⟩:=DataW.trod_struct underlying317 h;have Fx:xs.length=3:=hl;match xs,Fx with
 |[x0,x1,x2],_=>have hx':=congrArg Prod.fst hx;simp only[List.map_cons,List.map_nil,DataW.agg.injEq,List.cons.injEq,and_true]at hx';obtain⟨e0,e1,e2⟩:=hx';have f0:DataW.trod (fun _=>()) prog W base sp held n 3 ((cs.drop 0).take (prog.cellsOf 3))=some x0:=hf 0 _ rfl;have f1:DataW.trod (fun _=>()) prog W base sp held n 3 ((cs.drop 1).take (prog.cellsOf 3))=some x1:=hf 1 _ rfl;have f2:DataW.trod (fun _=>()) prog W base sp held n 3 ((cs.drop 2).take (prog.cellsOf 3))=some x2:=hf 2 _ rfl;rw[Oa]at f0 f1 f2;obtain⟨z0,h0,y0,_⟩:=JP underlying3 f0;obtain⟨z1,h1,y1,_⟩:=JP underlying3 f1;obtain⟨z2,h2,y2,_⟩:=JP underlying3 f2;grind[ZY]
theorem cG.below{w w'}(h:cG w)(hb:Bt w w'):cG w':=by intro i hi;obtain⟨a,b,c⟩:=h i hi;have ha:=l8 w _ a;exact⟨(hb.cell ha).trans a,(hb.cell (p:=(az 10 (i*3+1))) ha).trans b,(hb.cell (p:=(az 10 (i*3+2))) ha).trans c⟩
theorem nJ(r:Int)(w:World)(ht:cG w)(b:Bool)(hb:eZ r=b):
 Cw 214 #[Iq r] w fun e w'=>e=Rw (.bool b)/\w'=w:=by
 have HT:=qH<|ht;clear ht;by_cases dI:r=10
 ·have e:b=false:=by rw[<-hb,fJ];omega
  subst e;subst dI;clear hb;go_enter func214,ntmps214;go_wp2;go_ret;simp_all
 ·have pT:(r !=10)=true:=by simp[dI]
  obtain⟨k,hk⟩:=ag (lW r);have G:Hid (Cw 216 #[Iq r] w fun e w'=>e=Rw (Iq k)/\w'=w):=by show Calls _ _ _ _ _;rw[<-hk];exact oV r w HT
  have Y':Hid (b=(k==0)):=by show _=_;rw[<-hb,<-hk,Fe,pY];simp[dI]
  clear hb hk dI;go_enter func214,ntmps214;go_wp2_with fail;refine G.mono ?_;rintro e w1 ⟨rfl,rfl⟩;go_wp2;go_ret;rw[Y'.out];simp_all
def keep(L:List Int)(k:Nat):List Int:=(L.take k).take 4
theorem DB  L   k  (h:k<L.length) (h4:k<4):keep L (k+1)=keep L k++[L[k]]:=by unfold keep;rw[List.take_take,List.take_take,Nat.min_eq_right (by omega),Nat.min_eq_right (by omega),lk h]
theorem yF  L   k  (h4:4<=k):keep L (k+1)=keep L k:=by grind[keep]
theorem mQ  L   k  (h:k<=L.length):(keep L k).length=min 4 k:=by grind[keep]
theorem LP(w:World)  o   b  :((w.alloc o).alloc (.cells #[Iq b] 3)).ownsRow (w.heap.size+1) 3 1 (Sq (w.heap.size+1) 1 1) (1+0) ([b].map (Value.int .i64)):=by refine⟨rfl,.inr ⟨w.heap.size+1,1,#[Iq b],rfl,ai _,?_,by omega,by unfold maxLen;omega,rfl,rfl⟩⟩;have:=heap_alloc_new (w.alloc o) (.cells #[Iq b] 3);simp_all
theorem UM:(prog.info? 3).map (fun i=>(i.zero,i.size,i.bytes))=some (some (Iq 0),1,8):=by kernel_rfl
theorem KN(R:List Int)(b off cap:Nat)(w:World)(bZ:R≠[])(hb:b<w.heap.size)(hc:∀j,j<R.length->w.cell? (az b (off+j))=some (Iq (R[j]?.getD 0)))(dI:R[0]?.getD 0=10):
 Cw 187 #[.slice (some (az b off)) R.length cap] w fun e w'=>e=Rw (.tuple #[.agg #[.string ⟨#[10]⟩,Iq 0],Iq 1])/\Bt w w':=by
 have hp:=l6.2 bZ;have h0:w.cell? (az b off)=some (Iq 10):=by have:=hc 0 hp;rw[dI]at this;exact this
 have hp':(0:Int)<(R.length:Int):=by omega
 have YF:(w.alloc (.cells #[.string ⟨#[]⟩,Iq 0] 227)).cell? (az b off)=some (Iq 10):=(((aj w.heap.size w).alloc (ai _) _).cell (p:=(az b off)) hb).trans h0;clear hc dI bZ;go_enter func187,ntmps187;go_wp2;exact bodyPost_ret (v:=.tuple #[.agg #[.string ⟨#[10]⟩,Iq 0],Iq 1]) (by simp[results,Tryz.results187,go_sem]) rfl ⟨rfl,(aj _ _).alloc (ai _) _⟩
theorem yu(R:List Int)(r:Int)(b off cap:Nat)(w:World)(ht:cG w)(bZ:R≠[])(bY:R.length<=17592186044416)(hb:b<w.heap.size)(hc:∀j,j<R.length->w.cell? (az b (off+j))=some (Iq (R[j]?.getD 0)))
 (hr:R[0]?.getD 0=r) (o:Nat) (c:Int) (L:List Int) (hL:R.drop o=L) (dI:r≠10) (pB:o=0/\eZ r=true/\c=32\/o=1/\eZ r=false/\c=r) (n:Nat) (hn:n=o+(xm L).length) (T:List UInt8) (hT:T=enc (c::(xm L).take 4)) (W:Int) (hW:W=lW c):
 Cw 187 #[.slice (some (az b off)) R.length cap] w fun e w'=>e=Rw (.tuple #[.agg #[.string ⟨T.toArray⟩,Iq W],Iq n])/\Bt w w':=by
 obtain⟨i0,hi,eG,fs,gd⟩:=info_parts UM;have hp:=l6.2 bZ;have HT:=qH<|ht;have Zf:o<=1:=by rcases pB with⟨h,_⟩|⟨h,_⟩<;>omega
 have hLn:L.length+o=R.length:=by rw[<-hL,dq];omega
 have qQ:L.length+o<=R.length:=by omega
 have hL2:R.length<=L.length+o:=by omega
 have HC:Hid (∀k (hk:k<L.length),w.cell? (az b (off+(o+k)))=some (Iq L[k])):=by
  intro k hk;have e:L[k]=R[o+k]'(by omega):=by subst hL;first|grind|(rw[List.getElem_drop])
  rw[hc (o+k) (by omega),eR (by omega),e];rfl
 have HN:=qH<|hn;have HTx:=qH<|hT;have HW:=qH<|hW;have hp':(0:Int)<(R.length:Int):=by omega
 have pT:(r==10)=false:=by simp[dI]
 have hb0:Bt w (w.alloc (.cells #[.string ⟨#[]⟩,Iq 0] 227)):=(aj _ _).alloc (ai _) _;have h0:(w.alloc (.cells #[.string ⟨#[]⟩,Iq 0] 227)).cell? (az b off)=some (Iq r):=(hb0.cell (p:=(az b off)) hb).trans (by grind);have HT0:=qH<|ht.below hb0;clear hc hn hT hW ht dI hr bZ hb0 hL hLn;rcases pB with⟨ho,hm,hcc⟩|⟨ho,hm,hcc⟩;all_goals
  have HM:=qH<|hm;have HO:=qH<|ho;have _m:=qH<|hcc;clear hm ho hcc;go_enter func187,ntmps187;go_wp2_with(go_at_call 214;refine(nJ r _ HT0 _ HM).mono ?_;rintro e w' ⟨rfl,rfl⟩);go_loopw[5,6] (fun q v wr=>∃k:Nat,k<=L.length/\q=Iq (o+k:Nat)/\wr.ownsRow (w.heap.size+1) 3 1 v (1+min 4 k) ((c::keep L k).map (Value.int .i64))/\wr.heap[w.heap.size]?=some (.cells #[.string ⟨#[]⟩,Iq 0] 227 (0,0))/\Bt w wr/\Hid (∀j (hj:j<L.length),j<k->eZ (L[j])=true)) (fun q _ _=>R.length-(intOf q).toNat);case atStart=>refine⟨0,by omega,by rw[HO.out];rfl,by rw[_m.out];exact LP w _ _,?_,((aj _ _).alloc (ai _) _).alloc (by simp) _,fun j hj h=>by omega⟩;rw[du _ _ _ (by simp)];exact heap_alloc_new w _
  case round=>
   obtain⟨k,hk,rfl,bu,hres,hbw,iU⟩:=hrel;have f_:=(aM.1 hres).1;have Wk:=qH<|HT.below hbw;by_cases hlt:k<L.length
   ·obtain⟨x,hx⟩:=ag (L[k]);have YZ:wr.cell? (az b (off+(o+k)))=some (Iq x):=(hbw.cell (p:=(az b (off+(o+k)))) hb).trans (by have:=HC k hlt;grind);have HX:=qH<|hx;have aN:((o+k:Nat):Int)<(R.length:Int):=by omega
    clear hx;by_cases hxm:eZ x=true
    ·have Wl:=qH<|hxm;clear hxm;have Pc:Hid (∀j (hj:j<L.length),j<k+1->eZ (L[j])=true):=by
      intro j hj h;by_cases ej:j=k;·subst ej;rw[HX.out];exact Wl
      ·exact iU j hj (by omega)
     by_cases h4:k<4
     ·have Pb:min 4 k=k:=by omega
      rw[Pb]at bu;have HKA:Hid (keep L (k+1)=keep L k++[x]):=by show _=_;rw[DB _ _ hlt h4,HX.out]
      obtain⟨g,cp,rfl⟩:∃g cp,u6=Sq g (1+k) cp:=by rcases bu.2 with⟨_,h⟩|⟨g,cp,ik,h,_⟩;all_goals grind
      have h4':((1+k:Nat):Int)<=4:=by omega
      clear iU HX;go_wp2_with(first
       |(go_at_call 214;refine(nJ x _ Wk _ Wl).mono ?_;rintro e w' ⟨rfl,rfl⟩)
       |(at_builtin;refine wpList_append_own _ rfl _ _ 61 rfl (w.heap.size+1) 3 i0 (Iq 0) 1 8 underlying61 hi eG fs gd rfl (by decide) _ _ _ rfl (bu.alloc _) _ 1 1 [Iq x] rfl rfl ?c1k3 ?c2k3 ?c3k3 ?c4k3 ?c5k3 ?_));try case c1k3=>exact cell_one_new _ _ _
      case c2k3=>first|(intro u hu;simp at hu;subst hu;rfl)|rfl|(simp;done)
      case c3k3=>first|(unfold maxLen;omega)|omega
      case c4k3=>omega
      case c5k3=>first|omega|(rw[aI];omega)
      intro v' w1 bD hg _;have hrow:=fun q hq=>(bu.lt q hq).1;have hb1:=(hbw.alloc (by omega) _).grown hg (by rw[aI];omega) (fun q hq=>by grind);have zc3:w1.heap[w.heap.size]?=some (.cells #[.string ⟨#[]⟩,Iq 0] 227 (0,0)):=by rw[hg.block w.heap.size (by rw[aI];omega) (fun e=>by grind),du _ _ _ (by omega)];exact hres
      clear hg hrow bu hbw hres Wk YZ;go_wp2;go_roundw;case rel=>refine⟨k+1,by omega,by go_num,?_,zc3,hb1,Pc⟩;rw[HKA.out,<-List.cons_append,np,show 1+min 4 (k+1)=1+k+1 by omega];grind
      case measure=>simp[intOf];omega
     ·have Pb:min 4 k=4:=by omega
      have S8:Hid (keep L (k+1)=keep L k):=yF _ _ (by omega);rw[Pb]at bu;obtain⟨g,cp,rfl⟩:∃g cp,u6=Sq g (1+4) cp:=by rcases bu.2 with⟨_,h⟩|⟨g,cp,ik,h,_⟩;all_goals grind
      clear iU HX;go_wp2_with(go_at_call 214;refine(nJ x _ Wk _ Wl).mono ?_;rintro e w' ⟨rfl,rfl⟩);go_roundw;case rel=>refine⟨k+1,by omega,by go_num,?_,hres,hbw,Pc⟩;rw[S8.out,show 1+min 4 (k+1)=1+4 by omega];omega
      case measure=>simp[intOf];omega
    ·have Wl:Hid (eZ x=false):=by show _=_;simpa using hxm
     have Bn:Hid (xm L=L.take k):=fR eZ _ k hk iU (fun hj=>by rw[HX.out];exact Wl);have HNk:Hid (n=o+k):=by show _=_;rw[HN.out,Bn.out,cX];omega
     have HTk:Hid (enc (c::keep L k)=T):=by show _=_;rw[HTx.out,Bn.out];rfl
     have hI:=nG bu;have HI:=qH<|hI;have dj:=mQ L k hk;have XX:Hid ((c::keep L k).length<=17592186044416):=by show _<=_;rw[e_,dj];omega
     clear hxm iU hI bu dj;go_wp2_with(go_at_call 214;refine(nJ x _ Wk _ Wl).mono ?_;rintro e w' ⟨rfl,rfl⟩);refine(sq _ _ _ HI XX).mono ?_;rintro e w2 ⟨rfl,b2⟩;rw[HTk.out];have pX:w2.heap[w.heap.size]?=some (.cells #[.string ⟨#[]⟩,Iq 0] 227 (0,0)):=by rw[b2.block _ f_];exact hres
     have G2:Hid (Cw 216 #[Iq c] w2 fun e w'=>e=Rw (Iq W)/\w'=w2):=by show Calls _ _ _ _ _;rw[HW.out];exact oV c w2 (Wk.below b2)
     rw[_m.out]at G2;have q0:w2.cell? (az w.heap.size 0)=some (.string ⟨#[]⟩):=by rw[cell_of_row _ _ _ _ _ _ pX];rfl
     have q1:w2.cell? (az w.heap.size 1)=some (Iq 0):=by rw[cell_of_row _ _ _ _ _ _ pX];rfl
     have f0:=frozen_of_row w2 w.heap.size 0 _ _ pX;have f1:=frozen_of_row w2 w.heap.size 1 _ _ pX;have oy:=hbw.trans (b2.mono (by omega));have hsz2:=zz008 f_ b2.size;clear b2 hres hbw HI Wk;go_wp2_with fail;refine G2.mono ?_;rintro e w3 ⟨rfl,rfl⟩;go_wp2;rw[HNk.out];refine bodyPost_ret (v:=.tuple #[.agg #[.string ⟨T.toArray⟩,Iq W],Iq ((o+k:Nat):Int)]) ?_ rfl ⟨by simp,(oy.setCell (p:=(az w.heap.size 0)) (ai _) _).setCell (p:=(az w.heap.size 1)) (ai _) _⟩;simp[results,Tryz.results187,go_sem,q0,q1]
   ·have aN:¬((o+k:Nat):Int)<(R.length:Int):=by omega
    have Bn:Hid (xm L=L.take k):=fR eZ _ k hk iU (fun hj=>absurd hj hlt);have HNk:Hid (n=o+k):=by show _=_;rw[HN.out,Bn.out,cX];omega
    have HTk:Hid (enc (c::keep L k)=T):=by show _=_;rw[HTx.out,Bn.out];rfl
    have hI:=nG bu;have HI:=qH<|hI;have dj:=mQ L k hk;have XX:Hid ((c::keep L k).length<=17592186044416):=by show _<=_;rw[e_,dj];omega
    clear iU hI bu dj;go_wp2_with fail;refine(sq _ _ _ HI XX).mono ?_;rintro e w2 ⟨rfl,b2⟩;rw[HTk.out];have pX:w2.heap[w.heap.size]?=some (.cells #[.string ⟨#[]⟩,Iq 0] 227 (0,0)):=by rw[b2.block _ f_];exact hres
    have G2:Hid (Cw 216 #[Iq c] w2 fun e w'=>e=Rw (Iq W)/\w'=w2):=by show Calls _ _ _ _ _;rw[HW.out];exact oV c w2 (Wk.below b2)
    rw[_m.out]at G2;have q0:w2.cell? (az w.heap.size 0)=some (.string ⟨#[]⟩):=by rw[cell_of_row _ _ _ _ _ _ pX];rfl
    have q1:w2.cell? (az w.heap.size 1)=some (Iq 0):=by rw[cell_of_row _ _ _ _ _ _ pX];rfl
    have f0:=frozen_of_row w2 w.heap.size 0 _ _ pX;have f1:=frozen_of_row w2 w.heap.size 1 _ _ pX;have oy:=hbw.trans (b2.mono (by omega));have hsz2:=zz008 f_ b2.size;clear b2 hres hbw HI Wk;go_wp2_with fail;refine G2.mono ?_;rintro e w3 ⟨rfl,rfl⟩;go_wp2;rw[HNk.out];refine bodyPost_ret (v:=.tuple #[.agg #[.string ⟨T.toArray⟩,Iq W],Iq ((o+k:Nat):Int)]) ?_ rfl ⟨by simp,(oy.setCell (p:=(az w.heap.size 0)) (ai _) _).setCell (p:=(az w.heap.size 1)) (ai _) _⟩;simp[results,Tryz.results187,go_sem,q0,q1]
theorem KL  R   v   w  (ht:cG w) (bZ:R≠[]) (bY:R.length<=17592186044416) (h:FN w v R):
 Cw 187 #[v] w fun e w'=>e=Rw (.tuple #[.agg #[.string ⟨(fE R).toArray⟩,Iq (fF R)],Iq (iq R)])/\Bt w w':=by
 obtain⟨a,cap,rfl,hh⟩:=h;obtain⟨b,off,rfl,hb,hc⟩:=hh.resolve_left bZ;match R,bZ with
 |r::t,bZ=>
  by_cases dI:r=10;·grind[KN,fE,fF,iq]
  ·by_cases hm:eZ r=true
   ·have e1:od (r::t)=0:=by simp only[od,if_pos hm]
    have e2:fm (r::t)=32:=by simp only[fm,if_pos hm]
    have e3:dH (r::t)=xm (r::t):=by unfold dH;rw[e1];rfl
    simp only[fE,fF,iq,if_neg dI,e1,e2,e3];exact yu (r::t) r b off cap w ht bZ bY hb hc rfl 0 32 (r::t) rfl dI (.inl ⟨rfl,hm,rfl⟩) _ rfl _ rfl _ rfl
   ·have e1:od (r::t)=1:=by simp only[od,if_neg hm]
    have e2:fm (r::t)=r:=by simp only[fm,if_neg hm]
    have e3:dH (r::t)=xm t:=by unfold dH;rw[e1];rfl
    simp only[fE,fF,iq,if_neg dI,e1,e2,e3];exact yu (r::t) r b off cap w ht bZ bY hb hc rfl 1 r t rfl dI (.inr ⟨rfl,by grind,rfl⟩) _ rfl _ rfl _ rfl
def eE(l:List (List UInt8×Int)):List Value:=l.flatMap fun c=>[.string ⟨c.1.toArray⟩,Iq c.2]
theorem gx  a b  :eE (a++b)=eE a++eE b:=by simp[eE]
theorem Dv:(prog.info? 227).map (fun i=>(i.zero,i.size,i.bytes))=some (some (.agg #[.string ⟨#[]⟩,Iq 0]),2,24):=by kernel_rfl
def ZD:Value->Nat
 |.slice _ n _=>n
 |_=>0
def Nu(w:World)(v:Value)(zs:List Int):Prop:=
 ∃a cap,v=.slice a zs.length cap/\zs.length<=cap/\cap<=maxLen/\(zs=[]\/∃b off,a=some (az b off)/\b<w.heap.size/\∀j,j<zs.length->w.cell? (az b (off+j))=some (Iq (zs[j]?.getD 0)))
theorem intsC_own{w}{B n}{v}{zs}(h:w.ownsRow B 3 1 v n (zs.map (Value.int .i64))):Nu w v zs:=by
 have hl:zs.length=n:=by have:=h.1;simpa using this
 obtain⟨a,cap,hv,hh⟩:=nG h;rcases h.2 with⟨rfl,rfl⟩|⟨g,dD,ik,rfl,_,hg,h1,h2,_⟩;·have hz:=ln.1 hl;subst hz;exact⟨none,0,rfl,ai _,by omega,.inl rfl⟩
 ·simp only[Fb]at hv;obtain⟨rfl,_,rfl⟩:=hv;exact⟨_,_,by rw[hl],by omega,h2,hh⟩
theorem gO{w w'}{B n size}{e}{v}{xs}(h:w.ownsRow B e size v n xs)(hb:Bt w w'):w'.ownsRow B e size v n xs:=by
 refine⟨h.1,?_⟩;rcases h.2 with h2|⟨g,cap,ik,a,b,c,d⟩;·grind
 ·exact .inr ⟨g,cap,ik,a,b,by rw[hb.block g (aM.1 c).1];exact c,d⟩
theorem intsC_drop{w}{b off cap n}{zs:List Int}(hn:n<=zs.length)(kB:zs.length<=cap)(oh:cap<=maxLen)(hb:b<w.heap.size)(hc:∀j,j<zs.length->w.cell? (az b (off+j))=some (Iq (zs[j]?.getD 0))):
 Nu w (.slice (if cap=n then some (az b off)else some (az b (off+n))) (zs.length-n) (cap-n)) (zs.drop n):=by
 refine⟨_,_,by rw[dq],by grind,by omega,?_⟩;by_cases e:cap=n;·grind
 ·right;rw[if_neg e];grind
theorem iO(s:ByteArray)(w:World)(ht:cG w)(hs:s.size<=1099511627776):
 Cw 151 #[.string s] w fun e w'=>∃v,e=Rw v/\w'.ownsRow w.heap.size 227 2 v (a_ (aD s.data.toList)).length (eE (a_ (aD s.data.toList)))/\Bt w w':=by
 obtain⟨i0,hi,eG,fs,gd⟩:=info_parts Dv;have HT:=qH<|ht;clear ht;have hR:=bK s.data.toList;have lq:s.data.toList.length=s.size:=by rw[fV];rfl
 rw[lq]at hR;go_enter func151,ntmps151;go_wp2_with fail;refine(CZ s _ (by omega)).mono ?_;rintro e w1 ⟨v1,rfl,o1,b1⟩;obtain⟨R,hRe⟩:=ag (aD s.data.toList);rw[hRe]at o1 hR;have HRe:=qH<|hRe;have I1:=qH<|intsC_own o1;have HT1:=qH<|HT.below b1;clear o1 hRe lq;have hs1:=b1.size;go_wp2;go_loopw[3,4] (fun v rest wr=>∃(R':List Int) (acc:List (List UInt8×Int)),Hid (Nu w1 rest R')/\wr.ownsRow w1.heap.size 227 2 v acc.length (eE acc)/\Bt w1 wr/\Hid (acc++a_ R'=a_ R)/\acc.length+R'.length<=R.length) (fun _ rest _=>ZD rest);case atStart=>exact⟨R,[],I1,gF _ _ _ _,aj _ _,rfl,by simp⟩
 case round=>
  obtain⟨R',acc,hI,bu,hbw,jp,bY⟩:=hrel;obtain⟨a,cap,rfl,kB,oh,hh⟩:=hI.out;by_cases bZ:R'=[];·subst bZ;have e:=jp.out;rw[jA,lZ]at e;have HE:=qH<|e;clear e hh hI jp;go_wp2;go_ret;rw[HRe.out,<-HE.out];exact⟨_,rfl,jr bu hs1,b1.trans (hbw.mono hs1)⟩
  ·have hp:=l6.2 bZ;have hp':(0:Int)<(R'.length:Int):=by omega
   obtain⟨b,off,rfl,hb,hc⟩:=hh.resolve_left bZ;have f_:=hbw.size;have F:=qH<|
    KL R' _ wr (HT1.below hbw) bZ (by omega) ⟨_,cap,rfl,.inr ⟨b,off,rfl,by omega,fun j hj=>(hbw.cell (p:=(az b (off+j))) hb).trans (hc j hj)⟩⟩;have Pf:=Ix R';have xi:=fD bZ;have HS:Hid ((acc++[(fE R',fF R')])++a_ (R'.drop (iq R'))=a_ R):=by show _=_;rw[<-jp.out,dN bZ];simp
   obtain⟨T,hT⟩:=ag (fE R');obtain⟨W,hW⟩:=ag (fF R');obtain⟨n,hn⟩:=ag (iq R');rw[hT,hW,hn]at F;rw[hT,hW,hn]at HS;rw[hn]at Pf xi;have HC:=qH<|hc;unfold maxLen at oh;clear hT hW hn jp hI hh hc bZ;go_wp2_with fail;refine F.mono ?_;rintro e w2 ⟨rfl,b2⟩;have oi:=b2.size;have gq:=gO bu b2;have oy:=hbw.trans (b2.mono f_);clear b2 F bu hbw;go_wp2_with(at_builtin;refine wpList_append_own _ rfl _ _ 225 rfl w1.heap.size 227 i0 (.agg #[.string ⟨#[]⟩,Iq 0]) 2 24 underlying225 hi eG fs gd rfl (by decide) _ _ _ rfl ((gq.alloc _).alloc _) _ 1 1 [.string ⟨T.toArray⟩,Iq W] rfl rfl ?c1 ?c2 ?c3 ?c4 ?c5 ?_);case c1=>have:=cell_two_new (w2.alloc (.cells #[.string ⟨T.toArray⟩,Iq W] 227)) (.string ⟨T.toArray⟩) (Iq W) 227;simp_all
   case c2=>intro u hu;simp at hu;rcases hu with rfl|rfl<;>rfl
   case c3=>unfold maxLen;omega
   case c4=>omega
   case c5=>rw[aI,aI];omega
   intro v' w3 bD hg _;have hrow:=fun q hq=>(gq.lt q hq).1;have Pn:=oy.size;have Gc:=((oy.alloc Pn _).alloc (by rw[aI];omega) _).grown hg (by rw[aI,aI];omega) hrow;clear hg hrow gq oy;have zp':(n:Int)<=(R'.length:Int):=by omega
   have zpi:(R'.length:Int)<=(cap:Int):=by omega
   have HD:=qH<|intsC_drop Pf kB (by unfold maxLen;omega) hb HC;go_wp2;go_roundw;case rel=>refine⟨R'.drop n,acc++[(T,W)],HD,?_,Gc,HS,by grind⟩;rw[bm,gx];exact bD
   case measure=>show R'.length-n<R'.length;omega
