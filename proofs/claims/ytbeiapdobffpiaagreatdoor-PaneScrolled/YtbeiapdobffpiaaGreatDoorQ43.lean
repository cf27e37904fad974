import Derived.Test.YtbeiapdobffpiaaGreatDoorQ42
import Derived.Test.YtbeiapdobffpiaaGreatDoorQ34
set_option linter.all false
set_option maxRecDepth 100000
set_option maxHeartbeats 16000000
namespace Go.Proofs.YtbeiapdobffpiaaGreatDoor
open Go.RowKit Go.Sort Go.Proofs.Tryz
theorem yW{s:ByteArray}{L:List Nd}{Wd:Nat->Int}{H:Nat->Int->Int}(hT:dk s L)(hZ:Sz L Wd H)(g al k:Nat)(h2:k<L.length)(w:Int)(hw0:0<=w)(eu:w<=100000)(U:World)(hN:ip U g L.length (ae L))(h5:(ae L k).kind=5):
 Cw 120 #[Sq g L.length al,Iq (k:Int),Iq w] U fun e U'=>e=Rw (Iq (H k w))/\Hid (Bt U U'):=by
 have oV:prog.follows .mixedOrders=true:=by kernel_rfl
 have GE:=qH<|greatest_any;have CL:=qH<|rCl_any;obtain⟨ab,kp,kc,W1,An,cE,hAn,HB1,⟨c0,c1,c2,c3,c4⟩,cH,gd,-⟩:=hN.opens h2;have kJ:=(hT.vl.nv k h2).bd;have zj:=hT.vl.tl k h2;have fT:=hT.sz;have kH:=hT.vl.cnt;have dD:=hT.kids_le h2;obtain⟨z0,z1,z2,z3,z4⟩:=cH W1 (ag _ _);obtain⟨y4,y5,y6,y8⟩:=gd W1 (ag _ _);have U8:(k:Int)<(L.length:Int):=by omega
 have HK:Hid (H k w=cl (mS (aC (ae L k) 8) (ae L k).text w)):=by rw[hZ.ht k w h2 h5,wk];exact(rfl:bT (mS (aC (ae L k) 8) (ae L k).text w)=_)
 rw[h5,show((5:Nat):Int)=5 from rfl]at z0 c0 cE;generalize(ae L k).text=t at z2 c2 cE zj HK;generalize(ae L k).up=up at z4 c4 cE;generalize(ae L k).kids.length=m at z3 c3 cE;generalize aC (ae L k) 8=a8 at y8 HK;have htz:(⟨t.toArray⟩:ByteArray).size<=4000:=by show t.toArray.size<=_;simp;omega
 have PG:Hid (∀u,Cw 165 #[.string ⟨t.toArray⟩] u fun e u'=>∃p c,e=Rw (.slice p (bQ t).length c)/\Hid (Bt u u')):=fun u=>by have:=kU ⟨t.toArray⟩ u (by omega);refine this.mono ?_;rintro e u' ⟨p,c,q,_,hb⟩;exact⟨p,c,by simpa using q,hb⟩
 have LN:Hid (∀u,Cw 164 #[.string ⟨t.toArray⟩,Iq w] u fun e u'=>∃p c,e=Rw (.slice p (cK (cL (aZ t)) w).length c)/\Hid (Bt u u')):=fun u=>by
  refine(DB ⟨t.toArray⟩ w u (by omega) (by omega) (by omega)).mono ?_;rintro e u' ⟨v,rfl,ho,hb⟩;rcases cD ho with⟨rfl,h0⟩|⟨g',mg,rfl,_⟩;·exact⟨none,0,by simpa using h0.symm,hb⟩
  ·exact⟨some (az g' 0),mg,by simp,hb⟩
 obtain⟨n1,ED⟩:=aj ((bQ t).length);obtain⟨n2,QW⟩:=aj ((cK (cL (aZ t)) w).length);have km:Hid (H k w=cl (if w<1 then 0 else if a8=1 then(n2:Int)else(n1:Int))):=by have:=im t;rw[HK.out];unfold mS;rw[QW,show(t.count 10:Int)+1=(n1:Int)by omega];exact(rfl:cl _=cl _)
 rw[ED]at PG;rw[QW]at LN;clear gd zj kJ HK ED QW hN;by_cases w1:w<1;·rw[if_pos w1]at km;go_enter func120,ntmps120;go_wp2;go_ret;exact⟨by rw[km.out];rfl,HB1⟩
 ·rw[if_neg w1]at km;by_cases q8:a8=1
  ·have e8:(a8==1)=true:=by rw[q8];rfl
   rw[if_pos q8]at km;clear q8;go_enter func120,ntmps120;go_wp2_with(first|(go_at_call 164;refine(LN _).mono ?_;rintro e u5 ⟨p,c,rfl,kg⟩)|(go_at_call 162;refine(CL _ _).mono ?_;rintro e u6 ⟨rfl,h6⟩;obtain rfl:=h6.symm));go_ret;exact⟨by rw[km.out];rfl,HB1.trans (kg.mono HB1.size)⟩
  ·have e8:(a8==1)=false:=by simp;exact q8
   rw[if_neg q8]at km;clear q8;go_enter func120,ntmps120;go_wp2_with(first|(go_at_call 165;refine(PG _).mono ?_;rintro e u5 ⟨p,c,rfl,kg⟩)|(go_at_call 162;refine(CL _ _).mono ?_;rintro e u6 ⟨rfl,h6⟩;obtain rfl:=h6.symm));go_ret;exact⟨by rw[km.out];rfl,HB1.trans (kg.mono HB1.size)⟩
theorem mz{s}{L}{Wd}{H}(hT:dk s L)(hZ:Sz L Wd H)  g al  :∀f k,L.length<=k+f->k<L.length->∀w,0<=w->w<=100000->∀U,ip U g L.length (ae L)->
 Cw 120 #[Sq g L.length al,Iq (k:Int),Iq w] U fun e U'=>e=Rw (Iq (H k w))/\Hid (Bt U U')
 |0,k,h1,h2,w,hw0,eu,U,hN=>by omega
 |f+1,k,h1,h2,w,hw0,eu,U,hN=>by
  by_cases h5:(ae L k).kind=5;·exact yW hT hZ g al k h2 w hw0 eu U hN h5
  ·refine yV hT hZ g al k h2 w hw0 eu U hN h5 fun j hj x xS qG u hu=>?_;have:=de hT h2 hj;exact mz hT hZ g al f _ (by omega) this.2 x xS qG u (hN.below hu)
theorem JH{s}{L}{Wd}{H}(hT:dk s L)(hZ:Sz L Wd H)  g al k  (hk:k<L.length)  w  (hw0:0<=w) (eu:w<=100000)  U  (hN:ip U g L.length (ae L)):
 Cw 116 #[Sq g L.length al,Iq (k:Int),Iq w] U fun e U'=>DW U U' L (ae L k).kids (fun j=>H (aP (ae L k).kids j) w) e:=
 yi hT _ _ _ _ (fun c=>H c w) g al k hk U hN (.inr ⟨w,rfl,rfl,rfl,rfl⟩) fun c hc u hu=>mz hT hZ g al L.length c (by omega) hc w hw0 eu u (hN.below hu)
