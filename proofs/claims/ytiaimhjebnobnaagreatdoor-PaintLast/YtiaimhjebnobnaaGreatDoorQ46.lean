import Derived.Test.YtiaimhjebnobnaaGreatDoorQ45
import Derived.Test.YtiaimhjebnobnaaGreatDoorQ33
set_option linter.all false
set_option maxRecDepth 100000
set_option maxHeartbeats 16000000
namespace Go.Proofs.YtiaimhjebnobnaaGreatDoor
open Go.RowKit Go.Sort Go.Proofs.Tryz
theorem Dk{s:ByteArray}{L:List Nd}{Wd:Nat->Int}{H:Nat->Int->Int}(hT:dZ s L)(hZ:Sz L Wd H)(g cap k:Nat)(h2:k<L.length)(w:Int)(hw0:0<=w)(eQ:w<=100000)(U:World)(hN:ju U g L.length (ae L))(h5:(ae L k).kind=5):
 Cw 84 #[Sq g L.length cap,Iq (k:Int),Iq w] U fun e U'=>e=Rw (Iq (H k w))/\Hid (Bt U U'):=by
 have kD:prog.follows .mixedOrders=true:=by kernel_rfl
 have GE:=qH<|greatest_any;have CL:=qH<|rCl_any;obtain⟨ab,kp,kc,W1,An,cC,hAn,HB1,⟨c0,c1,c2,c3,c4⟩,cZ,im,-⟩:=hN.opens h2;have mN:=(hT.vl.nv k h2).bd;have uf:=hT.vl.tl k h2;have f_:=hT.sz;have vk:=hT.vl.cnt;have dj:=hT.kids_le h2;obtain⟨z0,z1,z2,z3,z4⟩:=cZ W1 (aj _ _);obtain⟨y4,y5,y6,y8⟩:=im W1 (aj _ _);have Uv:(k:Int)<(L.length:Int):=by omega
 have HK:Hid (H k w=cl (pu (aF (ae L k) 8) (ae L k).text w)):=by rw[hZ.ht k w h2 h5,zU];exact(rfl:bc (pu (aF (ae L k) 8) (ae L k).text w)=_)
 rw[h5,show((5:Nat):Int)=5 from rfl]at z0 c0 cC;generalize(ae L k).text=t at z2 c2 cC uf HK;generalize(ae L k).up=up at z4 c4 cC;generalize(ae L k).kids.length=m at z3 c3 cC;generalize aF (ae L k) 8=a8 at y8 HK;have htz:(⟨t.toArray⟩:ByteArray).size<=4000:=by show t.toArray.size<=_;simp;omega
 have PG:Hid (∀u,Cw 46 #[.string ⟨t.toArray⟩] u fun e u'=>∃p c,e=Rw (.slice p (bQ t).length c)/\Hid (Bt u u')):=fun u=>by have:=jK ⟨t.toArray⟩ u (by omega);refine this.mono ?_;rintro e u' ⟨p,c,q,_,hb⟩;exact⟨p,c,by simpa using q,hb⟩
 have LN:Hid (∀u,Cw 45 #[.string ⟨t.toArray⟩,Iq w] u fun e u'=>∃p c,e=Rw (.slice p (bC (a_ (aD t)) w).length c)/\Hid (Bt u u')):=fun u=>by
  refine(vZ ⟨t.toArray⟩ w u (by omega) (by omega) (by omega)).mono ?_;rintro e u' ⟨v,rfl,ho,hb⟩;rcases dK ho with⟨rfl,h0⟩|⟨g',dD,rfl,_⟩;·exact⟨none,0,by simpa using h0.symm,hb⟩
  ·exact⟨some (az g' 0),dD,by simp,hb⟩
 obtain⟨n1,xi⟩:=ag ((bQ t).length);obtain⟨n2,Ld⟩:=ag ((bC (a_ (aD t)) w).length);have mh:Hid (H k w=cl (if w<1 then 0 else if a8=1 then(n2:Int)else(n1:Int))):=by have:=iG t;rw[HK.out];unfold pu;rw[Ld,show(t.count 10:Int)+1=(n1:Int)by omega];exact(rfl:cl _=cl _)
 rw[xi]at PG;rw[Ld]at LN;clear im uf mN HK xi Ld hN;by_cases w1:w<1;·rw[if_pos w1]at mh;go_enter func84,ntmps84;go_wp2;go_ret;exact⟨by rw[mh.out];rfl,HB1⟩
 ·rw[if_neg w1]at mh;by_cases q8:a8=1
  ·have e8:(a8==1)=true:=by rw[q8];rfl
   rw[if_pos q8]at mh;clear q8;go_enter func84,ntmps84;go_wp2_with(first|(go_at_call 45;refine(LN _).mono ?_;rintro e u5 ⟨p,c,rfl,io⟩)|(go_at_call 88;refine(CL _ _).mono ?_;rintro e u6 ⟨rfl,h6⟩;obtain rfl:=h6.symm));go_ret;exact⟨by rw[mh.out];rfl,HB1.trans (io.mono HB1.size)⟩
  ·have e8:(a8==1)=false:=by simp;exact q8
   rw[if_neg q8]at mh;clear q8;go_enter func84,ntmps84;go_wp2_with(first|(go_at_call 46;refine(PG _).mono ?_;rintro e u5 ⟨p,c,rfl,io⟩)|(go_at_call 88;refine(CL _ _).mono ?_;rintro e u6 ⟨rfl,h6⟩;obtain rfl:=h6.symm));go_ret;exact⟨by rw[mh.out];rfl,HB1.trans (io.mono HB1.size)⟩
theorem oY{s}{L}{Wd}{H}(hT:dZ s L)(hZ:Sz L Wd H)  g cap  :∀f k,L.length<=k+f->k<L.length->∀w,0<=w->w<=100000->∀U,ju U g L.length (ae L)->
 Cw 84 #[Sq g L.length cap,Iq (k:Int),Iq w] U fun e U'=>e=Rw (Iq (H k w))/\Hid (Bt U U')
 |0,k,h1,h2,w,hw0,eQ,U,hN=>by omega
 |f+1,k,h1,h2,w,hw0,eQ,U,hN=>by
  by_cases h5:(ae L k).kind=5;·exact Dk hT hZ g cap k h2 w hw0 eQ U hN h5
  ·refine Dj hT hZ g cap k h2 w hw0 eQ U hN h5 fun j hj x BM sC u hu=>?_;have:=dM hT h2 hj;exact oY hT hZ g cap f _ (by omega) this.2 x BM sC u (hN.below hu)
theorem Oq{s}{L}{Wd}{H}(hT:dZ s L)(hZ:Sz L Wd H)  g cap k  (hk:k<L.length)  w  (hw0:0<=w) (eQ:w<=100000)  U  (hN:ju U g L.length (ae L)):
 Cw 80 #[Sq g L.length cap,Iq (k:Int),Iq w] U fun e U'=>Ig U U' L (ae L k).kids (fun j=>H (aP (ae L k).kids j) w) e:=
 B_ hT _ _ _ _ (fun c=>H c w) g cap k hk U hN (.inr ⟨w,rfl,rfl,rfl,rfl⟩) fun c hc u hu=>oY hT hZ g cap L.length c (by omega) hc w hw0 eQ u (hN.below hu)
