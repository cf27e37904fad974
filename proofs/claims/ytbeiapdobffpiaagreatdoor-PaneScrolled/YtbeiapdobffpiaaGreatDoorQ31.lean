import Derived.Test.YtbeiapdobffpiaaGreatDoorQ21
import Derived.ProofKit
import Derived.OpenShut
import Derived.Lib.LaidTab
set_option linter.all false
set_option maxRecDepth 100000
set_option maxHeartbeats 16000000
namespace Go.Proofs.YtbeiapdobffpiaaGreatDoor
open Go.RowKit Go.Proofs.Tryz
theorem Ck:(prog.globals[12]?).map (·.type)=some 343:=by kernel_rfl
theorem FO:prog.cellsOf 342=3:=by kernel_rfl
theorem Jw:prog.cellsOf 3=1:=by kernel_rfl
theorem O_{H}:(Rows.laid_pane_glyph_spans:DataW H)=.agg (gA.map fun s=>.agg [.lit (.int .i64 s.1),.lit (.int .i64 s.2.1),.lit (.int .i64 s.2.2)]):=rfl
theorem TW{α:Type}{l:List α}{k}{x}(h:(l.drop k).take 1=[x]):l[k]?=some x:=by have:=congrArg (·[0]?) h;grind
theorem DK{W}{base}{sp}{held}{jh}{cs}{a b c}{p}
 (h:DataW.trod (fun _=>()) prog W base sp held jh 342 cs=some (.agg [.lit (.int .i64 a),.lit (.int .i64 b),.lit (.int .i64 c)],p)):
 cs[0]?=some (Iq a)/\cs[1]?=some (Iq b)/\cs[2]?=some (Iq c):=by
 obtain⟨xs,n,_,hx,_,hl,hf⟩:=DataW.trod_struct underlying342 h;have BE:xs.length=3:=hl;match xs,BE with
 |[x0,x1,x2],_=>have hx':=congrArg Prod.fst hx;simp only[List.map_cons,List.map_nil,DataW.agg.injEq,List.cons.injEq,and_true]at hx';obtain⟨e0,e1,e2⟩:=hx';have f0:DataW.trod (fun _=>()) prog W base sp held n 3 ((cs.drop 0).take (prog.cellsOf 3))=some x0:=hf 0 _ rfl;have f1:DataW.trod (fun _=>()) prog W base sp held n 3 ((cs.drop 1).take (prog.cellsOf 3))=some x1:=hf 1 _ rfl;have f2:DataW.trod (fun _=>()) prog W base sp held n 3 ((cs.drop 2).take (prog.cellsOf 3))=some x2:=hf 2 _ rfl;rw[Jw]at f0 f1 f2;obtain⟨z0,h0,y0,_⟩:=DataW.trod_int underlying3 f0;obtain⟨z1,h1,y1,_⟩:=DataW.trod_int underlying3 f1;obtain⟨z2,h2,y2,_⟩:=DataW.trod_int underlying3 f2;grind[TW]
theorem dC.below{w w'}(h:dC w)(hb:Bt w w'):dC w':=by intro i hi;obtain⟨a,b,c⟩:=h i hi;have ha:=ln w _ a;exact⟨(hb.cell ha).trans a,(hb.cell (p:=(az 12 (i*3+1))) ha).trans b,(hb.cell (p:=(az 12 (i*3+2))) ha).trans c⟩
theorem lC(r:Int)(w:World)(ht:dC w)(b:Bool)(hb:gy r=b):
 Cw 223 #[Iq r] w fun e w'=>e=Rw (.bool b)/\w'=w:=by
 have HT:=qH<|ht;clear ht;by_cases eq:r=10
 ·have e:b=false:=by rw[<-hb,jQ];omega
  subst e;subst eq;clear hb;go_enter func223,ntmps223;go_wp2;go_ret;simp_all
 ·have tL:(r !=10)=true:=by simp[eq]
  obtain⟨k,hk⟩:=aj (oI r);have G:Hid (Cw 225 #[Iq r] w fun e w'=>e=Rw (Iq k)/\w'=w):=by show Calls _ _ _ _ _;rw[<-hk];exact mq r w HT
  have S9:Hid (b=(k==0)):=by show _=_;rw[<-hb,<-hk,Bc,nz];simp[eq]
  clear hb hk eq;go_enter func223,ntmps223;go_wp2_with fail;refine G.mono ?_;rintro e w1 ⟨rfl,rfl⟩;go_wp2;go_ret;rw[S9.out];simp_all
def keep(L:List Int)(k:Nat):List Int:=(L.take k).take 4
theorem zv  L   k  (h:k<L.length) (h4:k<4):keep L (k+1)=keep L k++[L[k]]:=by unfold keep;rw[List.take_take,List.take_take,Nat.min_eq_right (by omega),Nat.min_eq_right (by omega),l_ h]
theorem uO  L   k  (h4:4<=k):keep L (k+1)=keep L k:=by grind[keep]
theorem kO  L   k  (h:k<=L.length):(keep L k).length=min 4 k:=by grind[keep]
theorem G7(w:World)  o   b  :((w.alloc o).alloc (.cells #[Iq b] 3)).ownsRow (w.heap.size+1) 3 1 (Sq (w.heap.size+1) 1 1) (1+0) ([b].map (Value.int .i64)):=by refine⟨rfl,.inr ⟨w.heap.size+1,1,#[Iq b],rfl,ai _,?_,by omega,by unfold maxLen;omega,rfl,rfl⟩⟩;have:=heap_alloc_new (w.alloc o) (.cells #[Iq b] 3);simp_all
theorem O1:(prog.info? 3).map (fun i=>(i.zero,i.size,i.bytes))=some (some (Iq 0),1,8):=by kernel_rfl
theorem F7(R:List Int)(b off al:Nat)(w:World)(bG:R≠[])(hb:b<w.heap.size)(hc:∀j,j<R.length->w.cell? (az b (off+j))=some (Iq (R[j]?.getD 0)))(eq:R[0]?.getD 0=10):
 Cw 203 #[.slice (some (az b off)) R.length al] w fun e w'=>e=Rw (.tuple #[.agg #[.string ⟨#[10]⟩,Iq 0],Iq 1])/\Bt w w':=by
 have hp:=ou.2 bG;have h0:w.cell? (az b off)=some (Iq 10):=by have:=hc 0 hp;rw[eq]at this;exact this
 have ZQ:(0:Int)<(R.length:Int):=by omega
 have Zp:(w.alloc (.cells #[.string ⟨#[]⟩,Iq 0] 273)).cell? (az b off)=some (Iq 10):=(((ag w.heap.size w).alloc (ai _) _).cell (p:=(az b off)) hb).trans h0;clear hc eq bG;go_enter func203,ntmps203;go_wp2;exact bodyPost_ret (v:=.tuple #[.agg #[.string ⟨#[10]⟩,Iq 0],Iq 1]) (by simp[results,Tryz.results203,go_sem]) rfl ⟨rfl,(ag _ _).alloc (ai _) _⟩
theorem uC(R:List Int)(r:Int)(b off al:Nat)(w:World)(ht:dC w)(bG:R≠[])(bH:R.length<=17592186044416)(hb:b<w.heap.size)(hc:∀j,j<R.length->w.cell? (az b (off+j))=some (Iq (R[j]?.getD 0)))
 (hr:R[0]?.getD 0=r) (o:Nat) (c:Int) (L:List Int) (hL:R.drop o=L) (eq:r≠10) (qB:o=0/\gy r=true/\c=32\/o=1/\gy r=false/\c=r) (n:Nat) (hn:n=o+(zE L).length) (T:List UInt8) (hT:T=enc (c::(zE L).take 4)) (W:Int) (hW:W=oI c):
 Cw 203 #[.slice (some (az b off)) R.length al] w fun e w'=>e=Rw (.tuple #[.agg #[.string ⟨T.toArray⟩,Iq W],Iq n])/\Bt w w':=by
 obtain⟨i0,hi,eK,fZ,iD⟩:=info_parts O1;have hp:=ou.2 bG;have HT:=qH<|ht;have Te:o<=1:=by rcases qB with⟨h,_⟩|⟨h,_⟩<;>omega
 have hLn:L.length+o=R.length:=by rw[<-hL,cW];omega
 have oD:L.length+o<=R.length:=by omega
 have W8:R.length<=L.length+o:=by omega
 have HC:Hid (∀k (hk:k<L.length),w.cell? (az b (off+(o+k)))=some (Iq L[k])):=by
  intro k hk;have e:L[k]=R[o+k]'(by omega):=by subst hL;first|grind|(rw[List.getElem_drop])
  rw[hc (o+k) (by omega),dN (by omega),e];rfl
 have HN:=qH<|hn;have HTx:=qH<|hT;have HW:=qH<|hW;have ZQ:(0:Int)<(R.length:Int):=by omega
 have tL:(r==10)=false:=by simp[eq]
 have hb0:Bt w (w.alloc (.cells #[.string ⟨#[]⟩,Iq 0] 273)):=(ag _ _).alloc (ai _) _;have h0:(w.alloc (.cells #[.string ⟨#[]⟩,Iq 0] 273)).cell? (az b off)=some (Iq r):=(hb0.cell (p:=(az b off)) hb).trans (by grind);have HT0:=qH<|ht.below hb0;clear hc hn hT hW ht eq hr bG hb0 hL hLn;rcases qB with⟨ho,hm,hcc⟩|⟨ho,hm,hcc⟩;all_goals
  have HM:=qH<|hm;have HO:=qH<|ho;have Ug:=qH<|hcc;clear hm ho hcc;go_enter func203,ntmps203;go_wp2_with(go_at_call 223;refine(lC r _ HT0 _ HM).mono ?_;rintro e w' ⟨rfl,rfl⟩);go_loopw[5,6] (fun q v wr=>∃k:Nat,k<=L.length/\q=Iq (o+k:Nat)/\wr.ownsRow (w.heap.size+1) 3 1 v (1+min 4 k) ((c::keep L k).map (Value.int .i64))/\wr.heap[w.heap.size]?=some (.cells #[.string ⟨#[]⟩,Iq 0] 273 (0,0))/\Bt w wr/\Hid (∀j (hj:j<L.length),j<k->gy (L[j])=true)) (fun q _ _=>R.length-(intOf q).toNat);case atStart=>refine⟨0,by omega,by rw[HO.out];rfl,by rw[Ug.out];exact G7 w _ _,?_,((ag _ _).alloc (ai _) _).alloc (by simp) _,fun j hj h=>by omega⟩;rw[fC _ _ _ (by simp)];exact heap_alloc_new w _
  case round=>
   obtain⟨k,hk,rfl,bi,hres,hbw,gR⟩:=hrel;have fT:=(aS.1 hres).1;have Qp:=qH<|HT.below hbw;by_cases hlt:k<L.length
   ·obtain⟨x,hx⟩:=aj (L[k]);have UR:wr.cell? (az b (off+(o+k)))=some (Iq x):=(hbw.cell (p:=(az b (off+(o+k)))) hb).trans (by have:=HC k hlt;grind);have HX:=qH<|hx;have aK:((o+k:Nat):Int)<(R.length:Int):=by omega
    clear hx;by_cases hxm:gy x=true
    ·have Qr:=qH<|hxm;clear hxm;have Kd:Hid (∀j (hj:j<L.length),j<k+1->gy (L[j])=true):=by
      intro j hj h;by_cases ej:j=k;·subst ej;rw[HX.out];exact Qr
      ·exact gR j hj (by omega)
     by_cases h4:k<4
     ·have Kb:min 4 k=k:=by omega
      rw[Kb]at bi;have YQ:Hid (keep L (k+1)=keep L k++[x]):=by show _=_;rw[zv _ _ hlt h4,HX.out]
      obtain⟨g,cp,rfl⟩:∃g cp,u6=Sq g (1+k) cp:=by rcases bi.2 with⟨_,h⟩|⟨g,cp,iT,h,_⟩;all_goals grind
      have h4':((1+k:Nat):Int)<=4:=by omega
      clear gR HX;go_wp2_with(first
       |(go_at_call 223;refine(lC x _ Qp _ Qr).mono ?_;rintro e w' ⟨rfl,rfl⟩)
       |(at_builtin;refine wpList_append_own _ rfl _ _ 98 rfl (w.heap.size+1) 3 i0 (Iq 0) 1 8 underlying98 hi eK fZ iD rfl (by decide) _ _ _ rfl (bi.alloc _) _ 1 1 [Iq x] rfl rfl ?c1k3 ?c2k3 ?c3k3 ?c4k3 ?c5k3 ?_));try case c1k3=>exact cell_one_new _ _ _
      case c2k3=>first|(intro u hu;simp at hu;subst hu;rfl)|rfl|(simp;done)
      case c3k3=>first|(unfold maxLen;omega)|omega
      case c4k3=>omega
      case c5k3=>first|omega|(rw[aO];omega)
      intro v' w1 bK hg _;have hrow:=fun q hq=>(bi.lt q hq).1;have hb1:=(hbw.alloc (by omega) _).grown hg (by rw[aO];omega) (fun q hq=>by grind);have XV:w1.heap[w.heap.size]?=some (.cells #[.string ⟨#[]⟩,Iq 0] 273 (0,0)):=by rw[hg.block w.heap.size (by rw[aO];omega) (fun e=>by grind),fC _ _ _ (by omega)];exact hres
      clear hg hrow bi hbw hres Qp UR;go_wp2;go_roundw;case rel=>refine⟨k+1,by omega,by go_num,?_,XV,hb1,Kd⟩;rw[YQ.out,<-List.cons_append,li,show 1+min 4 (k+1)=1+k+1 by omega];grind
      case measure=>simp[intOf];omega
     ·have Kb:min 4 k=4:=by omega
      have Ng:Hid (keep L (k+1)=keep L k):=uO _ _ (by omega);rw[Kb]at bi;obtain⟨g,cp,rfl⟩:∃g cp,u6=Sq g (1+4) cp:=by rcases bi.2 with⟨_,h⟩|⟨g,cp,iT,h,_⟩;all_goals grind
      clear gR HX;go_wp2_with(go_at_call 223;refine(lC x _ Qp _ Qr).mono ?_;rintro e w' ⟨rfl,rfl⟩);go_roundw;case rel=>refine⟨k+1,by omega,by go_num,?_,hres,hbw,Kd⟩;rw[Ng.out,show 1+min 4 (k+1)=1+4 by omega];omega
      case measure=>simp[intOf];omega
    ·have Qr:Hid (gy x=false):=by show _=_;simpa using hxm
     have xH:Hid (zE L=L.take k):=eV gy _ k hk gR (fun hj=>by rw[HX.out];exact Qr);have _4:Hid (n=o+k):=by show _=_;rw[HN.out,xH.out,cX];omega
     have HTk:Hid (enc (c::keep L k)=T):=by show _=_;rw[HTx.out,xH.out];rfl
     have hI:=lA bi;have HI:=qH<|hI;have dD:=kO L k hk;have RM:Hid ((c::keep L k).length<=17592186044416):=by show _<=_;rw[fB,dD];omega
     clear hxm gR hI bi dD;go_wp2_with(go_at_call 223;refine(lC x _ Qp _ Qr).mono ?_;rintro e w' ⟨rfl,rfl⟩);refine(pO _ _ _ HI RM).mono ?_;rintro e w2 ⟨rfl,b2⟩;rw[HTk.out];have nw:w2.heap[w.heap.size]?=some (.cells #[.string ⟨#[]⟩,Iq 0] 273 (0,0)):=by rw[b2.block _ fT];exact hres
     have G2:Hid (Cw 225 #[Iq c] w2 fun e w'=>e=Rw (Iq W)/\w'=w2):=by show Calls _ _ _ _ _;rw[HW.out];exact mq c w2 (Qp.below b2)
     rw[Ug.out]at G2;have q0:w2.cell? (az w.heap.size 0)=some (.string ⟨#[]⟩):=by rw[cell_of_row _ _ _ _ _ _ nw];rfl
     have q1:w2.cell? (az w.heap.size 1)=some (Iq 0):=by rw[cell_of_row _ _ _ _ _ _ nw];rfl
     have f0:=frozen_of_row w2 w.heap.size 0 _ _ nw;have f1:=frozen_of_row w2 w.heap.size 1 _ _ nw;have lU:=hbw.trans (b2.mono (by omega));have hsz2:=bn fT b2.size;clear b2 hres hbw HI Qp;go_wp2_with fail;refine G2.mono ?_;rintro e w3 ⟨rfl,rfl⟩;go_wp2;rw[_4.out];refine bodyPost_ret (v:=.tuple #[.agg #[.string ⟨T.toArray⟩,Iq W],Iq ((o+k:Nat):Int)]) ?_ rfl ⟨by simp,(lU.setCell (p:=(az w.heap.size 0)) (ai _) _).setCell (p:=(az w.heap.size 1)) (ai _) _⟩;simp[results,Tryz.results203,go_sem,q0,q1]
   ·have aK:¬((o+k:Nat):Int)<(R.length:Int):=by omega
    have xH:Hid (zE L=L.take k):=eV gy _ k hk gR (fun hj=>absurd hj hlt);have _4:Hid (n=o+k):=by show _=_;rw[HN.out,xH.out,cX];omega
    have HTk:Hid (enc (c::keep L k)=T):=by show _=_;rw[HTx.out,xH.out];rfl
    have hI:=lA bi;have HI:=qH<|hI;have dD:=kO L k hk;have RM:Hid ((c::keep L k).length<=17592186044416):=by show _<=_;rw[fB,dD];omega
    clear gR hI bi dD;go_wp2_with fail;refine(pO _ _ _ HI RM).mono ?_;rintro e w2 ⟨rfl,b2⟩;rw[HTk.out];have nw:w2.heap[w.heap.size]?=some (.cells #[.string ⟨#[]⟩,Iq 0] 273 (0,0)):=by rw[b2.block _ fT];exact hres
    have G2:Hid (Cw 225 #[Iq c] w2 fun e w'=>e=Rw (Iq W)/\w'=w2):=by show Calls _ _ _ _ _;rw[HW.out];exact mq c w2 (Qp.below b2)
    rw[Ug.out]at G2;have q0:w2.cell? (az w.heap.size 0)=some (.string ⟨#[]⟩):=by rw[cell_of_row _ _ _ _ _ _ nw];rfl
    have q1:w2.cell? (az w.heap.size 1)=some (Iq 0):=by rw[cell_of_row _ _ _ _ _ _ nw];rfl
    have f0:=frozen_of_row w2 w.heap.size 0 _ _ nw;have f1:=frozen_of_row w2 w.heap.size 1 _ _ nw;have lU:=hbw.trans (b2.mono (by omega));have hsz2:=bn fT b2.size;clear b2 hres hbw HI Qp;go_wp2_with fail;refine G2.mono ?_;rintro e w3 ⟨rfl,rfl⟩;go_wp2;rw[_4.out];refine bodyPost_ret (v:=.tuple #[.agg #[.string ⟨T.toArray⟩,Iq W],Iq ((o+k:Nat):Int)]) ?_ rfl ⟨by simp,(lU.setCell (p:=(az w.heap.size 0)) (ai _) _).setCell (p:=(az w.heap.size 1)) (ai _) _⟩;simp[results,Tryz.results203,go_sem,q0,q1]
theorem F6  R   v   w  (ht:dC w) (bG:R≠[]) (bH:R.length<=17592186044416) (h:BQ w v R):
 Cw 203 #[v] w fun e w'=>e=Rw (.tuple #[.agg #[.string ⟨(gX R).toArray⟩,Iq (gH R)],Iq (jr R)])/\Bt w w':=by
 obtain⟨a,al,rfl,hh⟩:=h;obtain⟨b,off,rfl,hb,hc⟩:=hh.resolve_left bG;match R,bG with
 |r::t,bG=>
  by_cases eq:r=10;·grind[F7,gX,gH,jr]
  ·by_cases hm:gy r=true
   ·have e1:qv (r::t)=0:=by simp only[qv,if_pos hm]
    have e2:kz (r::t)=32:=by simp only[kz,if_pos hm]
    have e3:gu (r::t)=zE (r::t):=by unfold gu;rw[e1];rfl
    simp only[gX,gH,jr,if_neg eq,e1,e2,e3];exact uC (r::t) r b off al w ht bG bH hb hc rfl 0 32 (r::t) rfl eq (.inl ⟨rfl,hm,rfl⟩) _ rfl _ rfl _ rfl
   ·have e1:qv (r::t)=1:=by simp only[qv,if_neg hm]
    have e2:kz (r::t)=r:=by simp only[kz,if_neg hm]
    have e3:gu (r::t)=zE t:=by unfold gu;rw[e1];rfl
    simp only[gX,gH,jr,if_neg eq,e1,e2,e3];exact uC (r::t) r b off al w ht bG bH hb hc rfl 1 r t rfl eq (.inr ⟨rfl,by grind,rfl⟩) _ rfl _ rfl _ rfl
def dF(l:List (List UInt8×Int)):List Value:=l.flatMap fun c=>[.string ⟨c.1.toArray⟩,Iq c.2]
theorem fm  a b  :dF (a++b)=dF a++dF b:=by simp[dF]
theorem zn:(prog.info? 273).map (fun i=>(i.zero,i.size,i.bytes))=some (some (.agg #[.string ⟨#[]⟩,Iq 0]),2,24):=by kernel_rfl
def TG:Value->Nat
 |.slice _ n _=>n
 |_=>0
def IQ(w:World)(v:Value)(zs:List Int):Prop:=
 ∃a al,v=.slice a zs.length al/\zs.length<=al/\al<=maxLen/\(zs=[]\/∃b off,a=some (az b off)/\b<w.heap.size/\∀j,j<zs.length->w.cell? (az b (off+j))=some (Iq (zs[j]?.getD 0)))
theorem intsC_own{w}{B n}{v}{zs}(h:w.ownsRow B 3 1 v n (zs.map (Value.int .i64))):IQ w v zs:=by
 have hl:zs.length=n:=by have:=h.1;simpa using this
 obtain⟨a,al,hv,hh⟩:=lA h;rcases h.2 with⟨rfl,rfl⟩|⟨g,mg,iT,rfl,_,hg,h1,h2,_⟩;·have hz:=ot.1 hl;subst hz;exact⟨none,0,rfl,ai _,by omega,.inl rfl⟩
 ·simp only[Bj]at hv;obtain⟨rfl,_,rfl⟩:=hv;exact⟨_,_,by rw[hl],by omega,h2,hh⟩
theorem fJ{w w'}{B n size}{e}{v}{xs}(h:w.ownsRow B e size v n xs)(hb:Bt w w'):w'.ownsRow B e size v n xs:=by
 refine⟨h.1,?_⟩;rcases h.2 with h2|⟨g,al,iT,a,b,c,d⟩;·grind
 ·exact .inr ⟨g,al,iT,a,b,by rw[hb.block g (aS.1 c).1];exact c,d⟩
theorem intsC_drop{w}{b off al n}{zs:List Int}(hn:n<=zs.length)(kG:zs.length<=al)(r_:al<=maxLen)(hb:b<w.heap.size)(hc:∀j,j<zs.length->w.cell? (az b (off+j))=some (Iq (zs[j]?.getD 0))):
 IQ w (.slice (if al=n then some (az b off)else some (az b (off+n))) (zs.length-n) (al-n)) (zs.drop n):=by
 refine⟨_,_,by rw[cW],by grind,by omega,?_⟩;by_cases e:al=n;·grind
 ·right;rw[if_neg e];grind
theorem lT(s:ByteArray)(w:World)(ht:dC w)(hs:s.size<=1099511627776):
 Cw 171 #[.string s] w fun e w'=>∃v,e=Rw v/\w'.ownsRow w.heap.size 273 2 v (cL (aZ s.data.toList)).length (dF (cL (aZ s.data.toList)))/\Bt w w':=by
 obtain⟨i0,hi,eK,fZ,iD⟩:=info_parts zn;have HT:=qH<|ht;clear ht;have hR:=du s.data.toList;have uM:s.data.toList.length=s.size:=by rw[j9];rfl
 rw[uM]at hR;go_enter func171,ntmps171;go_wp2_with fail;refine(yE s _ (by omega)).mono ?_;rintro e w1 ⟨v1,rfl,o1,b1⟩;obtain⟨R,hRe⟩:=aj (aZ s.data.toList);rw[hRe]at o1 hR;have HRe:=qH<|hRe;have I1:=qH<|intsC_own o1;have HT1:=qH<|HT.below b1;clear o1 hRe uM;have hs1:=b1.size;go_wp2;go_loopw[3,4] (fun v rest wr=>∃(R':List Int) (acc:List (List UInt8×Int)),Hid (IQ w1 rest R')/\wr.ownsRow w1.heap.size 273 2 v acc.length (dF acc)/\Bt w1 wr/\Hid (acc++cL R'=cL R)/\acc.length+R'.length<=R.length) (fun _ rest _=>TG rest);case atStart=>exact⟨R,[],I1,gM _ _ _ _,ag _ _,rfl,by simp⟩
 case round=>
  obtain⟨R',acc,hI,bi,hbw,ic,bH⟩:=hrel;obtain⟨a,al,rfl,kG,r_,hh⟩:=hI.out;by_cases bG:R'=[];·subst bG;have e:=ic.out;rw[kC,j_]at e;have HE:=qH<|e;clear e hh hI ic;go_wp2;go_ret;rw[HRe.out,<-HE.out];exact⟨_,rfl,ij bi hs1,b1.trans (hbw.mono hs1)⟩
  ·have hp:=ou.2 bG;have ZQ:(0:Int)<(R'.length:Int):=by omega
   obtain⟨b,off,rfl,hb,hc⟩:=hh.resolve_left bG;have fT:=hbw.size;have F:=qH<|
    F6 R' _ wr (HT1.below hbw) bG (by omega) ⟨_,al,rfl,.inr ⟨b,off,rfl,by omega,fun j hj=>(hbw.cell (p:=(az b (off+j))) hb).trans (hc j hj)⟩⟩;have QY:=NZ R';have ED:=js bG;have HS:Hid ((acc++[(gX R',gH R')])++cL (R'.drop (jr R'))=cL R):=by show _=_;rw[<-ic.out,gw bG];simp
   obtain⟨T,hT⟩:=aj (gX R');obtain⟨W,hW⟩:=aj (gH R');obtain⟨n,hn⟩:=aj (jr R');rw[hT,hW,hn]at F;rw[hT,hW,hn]at HS;rw[hn]at QY ED;have HC:=qH<|hc;unfold maxLen at r_;clear hT hW hn ic hI hh hc bG;go_wp2_with fail;refine F.mono ?_;rintro e w2 ⟨rfl,b2⟩;have mZ:=b2.size;have fj:=fJ bi b2;have lU:=hbw.trans (b2.mono fT);clear b2 F bi hbw;go_wp2_with(at_builtin;refine wpList_append_own _ rfl _ _ 270 rfl w1.heap.size 273 i0 (.agg #[.string ⟨#[]⟩,Iq 0]) 2 24 underlying270 hi eK fZ iD rfl (by decide) _ _ _ rfl ((fj.alloc _).alloc _) _ 1 1 [.string ⟨T.toArray⟩,Iq W] rfl rfl ?c1 ?c2 ?c3 ?c4 ?c5 ?_);case c1=>have:=cell_two_new (w2.alloc (.cells #[.string ⟨T.toArray⟩,Iq W] 273)) (.string ⟨T.toArray⟩) (Iq W) 273;simp_all
   case c2=>intro u hu;simp at hu;rcases hu with rfl|rfl<;>rfl
   case c3=>unfold maxLen;omega
   case c4=>omega
   case c5=>rw[aO,aO];omega
   intro v' w3 bK hg _;have hrow:=fun q hq=>(fj.lt q hq).1;have Kj:=lU.size;have Cm:=((lU.alloc Kj _).alloc (by rw[aO];omega) _).grown hg (by rw[aO,aO];omega) hrow;clear hg hrow fj lU;have zjY:(n:Int)<=(R'.length:Int):=by omega
   have zi9:(R'.length:Int)<=(al:Int):=by omega
   have HD:=qH<|intsC_drop QY kG (by unfold maxLen;omega) hb HC;go_wp2;go_roundw;case rel=>refine⟨R'.drop n,acc++[(T,W)],HD,?_,Cm,HS,by grind⟩;rw[bf,fm];exact bK
   case measure=>show R'.length-n<R'.length;omega
