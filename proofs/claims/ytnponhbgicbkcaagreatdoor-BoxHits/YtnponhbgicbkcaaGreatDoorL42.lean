import Derived.Test.YtnponhbgicbkcaaGreatDoorL41
import Derived.Test.YtnponhbgicbkcaaGreatDoorL33
set_option linter.unusedVariables false
set_option maxRecDepth 100000
set_option maxHeartbeats 16000000
namespace Go.Proofs.YtnponhbgicbkcaaGreatDoor
section
open Go.RowKit Go.Sort Go.Proofs.Tryz
theorem higher_text{s}{L}{Wd}{H}(hT:Tree s L)(hZ:Sz L Wd H) g cap k (h2:k<L.length) w (hw0:0≤w)(hw1:w≤100000) U (hN:NdsR U g L.length (nth L))(h5:(nth L k).kind=5):
 Calls prog 11 #[Sq g L.length cap,Iq (k:Int),Iq w] U fun e U'=>e=.returned (Iq (H k w))∧Hid (Below U.heap.size U U'):=by
 have hmix:prog.follows .mixedOrders=true:=by kernel_rfl
 have GE:=qH<|greatest_any;have CL:=qH<|rCl_any;obtain⟨ab,kv,hn⟩:=hN.nd k h2;have hnv:=(hT.vl.nv k h2).bd;have htl:=hT.vl.tl k h2;have hsz:=hT.sz;have hcnt:=hT.vl.cnt;have hkl:=hT.kids_le h2;obtain⟨W1,hW1⟩:=nmd (U.alloc (.cells #[Iq ((nth L k).kind:Int),Sq ab 12 12,.string ⟨(nth L k).text.toArray⟩,kv,Iq (nth L k).up] 77));obtain⟨An,hAn⟩:=nmd U.heap.size;have hat:W1.heap[An]?=some (.cells #[Iq ((nth L k).kind:Int),Sq ab 12 12,.string ⟨(nth L k).text.toArray⟩,kv,Iq (nth L k).up] 77 (0,0)):=by rw[<-hW1,<-hAn];exact heap_alloc_new _ _
 have HB1:Hid (Below U.heap.size U W1):=by rw[<-hW1];exact((Gr.refl U).alloc _).below
 have c0:=hn.c0;have c1:=hn.c1;have c2:=hn.c2;have c3:=hn.c3;have c4:=hn.c4;have HAT:Hid (∀u,Below W1.heap.size W1 u->u.cell? ⟨An,0,none⟩=some (Iq ((nth L k).kind:Int))∧u.cell? ⟨An,1,none⟩=some (Sq ab 12 12)∧u.cell? ⟨An,2,none⟩=some (.string ⟨(nth L k).text.toArray⟩)∧u.cell? ⟨An,3,none⟩=some kv∧u.cell? ⟨An,4,none⟩=some (Iq (nth L k).up)):=fun u hu=>by refine⟨?_,?_,?_,?_,?_⟩<;>exact cell_up hu (by rw[Lib.cell_of_heap hat];rfl)
 have HATT:Hid (∀u,Below W1.heap.size W1 u->u.cell? ⟨ab,4,none⟩=some (Iq (atN (nth L k) 4))∧u.cell? ⟨ab,5,none⟩=some (Iq (atN (nth L k) 5))∧u.cell? ⟨ab,6,none⟩=some (Iq (atN (nth L k) 6))∧u.cell? ⟨ab,8,none⟩=some (Iq (atN (nth L k) 8))):=fun u hu=>by have hb:=HB1.trans (hu.mono HB1.size);exact⟨cell_up hb (hn.att 4 (by omega)),cell_up hb (hn.att 5 (by omega)),cell_up hb (hn.att 6 (by omega)),cell_up hb (hn.att 8 (by omega))⟩
 obtain⟨kp,kc,hkv,hki⟩:=hn.kids;subst hkv;obtain⟨z0,z1,z2,z3,z4⟩:=HAT W1 (Below.refl _ _);obtain⟨y4,y5,y6,y8⟩:=HATT W1 (Below.refl _ _);have hkN:(k:Int)<(L.length:Int):=by omega
 have HK:Hid (H k w=cl (txtH (atN (nth L k) 8) (nth L k).text w)):=by rw[hZ.ht k w h2 h5,cl_len];exact(rfl:lenI (txtH (atN (nth L k) 8) (nth L k).text w)=_)
 rw[h5,show((5:Nat):Int)=5 from rfl]at z0 c0 hW1;generalize(nth L k).text=t at z2 c2 hW1 htl HK;generalize(nth L k).up=up at z4 c4 hW1;generalize(nth L k).kids.length=m at z3 c3 hW1;generalize atN (nth L k) 8=a8 at y8 HK;have htz:(⟨t.toArray⟩:ByteArray).size≤4000:=by show t.toArray.size≤_;simp;omega
 have PG:Hid (∀u,Calls prog 27 #[.string ⟨t.toArray⟩] u fun e u'=>∃p c,e=.returned (.slice p (paras t).length c)∧Hid (Below u.heap.size u u')):=fun u=>by have:=paragraphs_any ⟨t.toArray⟩ u (by omega);refine this.mono ?_;rintro e u' ⟨p,c,q,_,hb⟩;exact⟨p,c,by simpa using q,hb⟩
 have LN:Hid (∀u,Calls prog 32 #[.string ⟨t.toArray⟩,Iq w] u fun e u'=>∃p c,e=.returned (.slice p (linesOf (clus (runes t)) w).length c)∧Hid (Below u.heap.size u u')):=fun u=>by
  refine(rlines_any ⟨t.toArray⟩ w u (by omega) (by omega) (by omega)).mono ?_;rintro e u' ⟨v,rfl,ho,hb⟩;rcases own_form ho with⟨rfl,h0⟩|⟨g',cap',rfl,_⟩;·exact⟨none,0,by simpa using h0.symm,hb⟩
  ·exact⟨some ⟨g',0,none⟩,cap',by simp,hb⟩
 obtain⟨n1,hn1⟩:=nmd ((paras t).length);obtain⟨n2,hn2⟩:=nmd ((linesOf (clus (runes t)) w).length);have HK2:Hid (H k w=cl (if w<1 then 0 else if a8=1 then(n2:Int)else(n1:Int))):=by have:=paras_len t;rw[HK.out];unfold txtH;rw[hn2,show(t.count 10:Int)+1=(n1:Int)by omega];exact(rfl:cl _=cl _)
 rw[hn1]at PG;rw[hn2]at LN;clear HATT htl hnv HK hn1 hn2 hki hn hat hN;by_cases w1:w<1;·rw[if_pos w1]at HK2;go_enter func11,ntmps11;go_wp2;go_ret;exact⟨by rw[HK2.out];rfl,HB1⟩
 ·rw[if_neg w1]at HK2;by_cases q8:a8=1
  ·have e8:(a8==1)=true:=by rw[q8];rfl
   rw[if_pos q8]at HK2;clear q8;go_enter func11,ntmps11;go_wp2_with(first|(go_at_call 32;refine(LN _).mono ?_;rintro e u5 ⟨p,c,rfl,HB5⟩)|(go_at_call 30;refine(CL _ _).mono ?_;rintro e u6 ⟨rfl,h6⟩;obtain rfl:=h6.symm));go_ret;exact⟨by rw[HK2.out];rfl,HB1.trans (HB5.mono HB1.size)⟩
  ·have e8:(a8==1)=false:=by simp;exact q8
   rw[if_neg q8]at HK2;clear q8;go_enter func11,ntmps11;go_wp2_with(first|(go_at_call 27;refine(PG _).mono ?_;rintro e u5 ⟨p,c,rfl,HB5⟩)|(go_at_call 30;refine(CL _ _).mono ?_;rintro e u6 ⟨rfl,h6⟩;obtain rfl:=h6.symm));go_ret;exact⟨by rw[HK2.out];rfl,HB1.trans (HB5.mono HB1.size)⟩
theorem higher_all{s}{L}{Wd}{H}(hT:Tree s L)(hZ:Sz L Wd H) g cap :∀f k,L.length≤k+f->k<L.length->∀w,0≤w->w≤100000->∀U,NdsR U g L.length (nth L)->
 Calls prog 11 #[Sq g L.length cap,Iq (k:Int),Iq w] U fun e U'=>e=.returned (Iq (H k w))∧Hid (Below U.heap.size U U')
 |0,k,h1,h2,w,hw0,hw1,U,hN=>by omega
 |f+1,k,h1,h2,w,hw0,hw1,U,hN=>by
  by_cases h5:(nth L k).kind=5;·exact higher_text hT hZ g cap k h2 w hw0 hw1 U hN h5
  ·refine higher_node hT hZ g cap k h2 w hw0 hw1 U hN h5 fun j hj x hx0 hx1 u hu=>?_;have:=kid_lt hT h2 hj;exact higher_all hT hZ g cap f _ (by omega) this.2 x hx0 hx1 u (hN.below hu)
theorem down_any{s}{L}{Wd}{H}(hT:Tree s L)(hZ:Sz L Wd H) g cap k (hk:k<L.length) w (hw0:0≤w)(hw1:w≤100000) U (hN:NdsR U g L.length (nth L)):
 Calls prog 104 #[Sq g L.length cap,Iq (k:Int),Iq w] U fun e U'=>AcOut U U' L (nth L k).kids (fun j=>H (kdn (nth L k).kids j) w) e:=
 acdn_any hT _ _ _ _ (fun c=>H c w) g cap k hk U hN (.inr ⟨w,rfl,rfl,rfl,rfl⟩) fun c hc u hu=>higher_all hT hZ g cap L.length c (by have:=hT.vl.cnt;omega) hc w hw0 hw1 u (hN.below hu)
