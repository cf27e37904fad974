import Derived.Test.YtnponhbgicbkcaaGreatDoorL38
import Derived.Test.YtnponhbgicbkcaaGreatDoorL40
set_option linter.unusedVariables false
set_option maxRecDepth 100000
set_option maxHeartbeats 16000000
namespace Go.Proofs.YtnponhbgicbkcaaGreatDoor
section
open Go.RowKit Go.Sort Go.Proofs.Tryz
def ndR(kd:Int)(ab:Nat)(tx:ByteArray)(kv:Value)(up:Int):Value:=.agg #[Iq kd,Sq ab 12 12,.string tx,kv,Iq up]
theorem cl_len x :cl x=lenI x:=by
 unfold cl lenI;split;·omega
 ·split<;>omega
theorem rframe_any kd  ab  tx  kv  up a5 a6  w (c5:w.cell? ⟨ab,5,none⟩=some (Iq a5))(c6:w.cell? ⟨ab,6,none⟩=some (Iq a6))(h5:0≤a5∧a5≤1000000)(h6:0≤a6∧a6≤1000000):
 Calls prog 31 #[ndR kd ab tx kv up] w fun e w'=>e=.returned (Iq (a6+a5))∧Hid (Below w.heap.size w w'):=by
 have hmix:prog.follows .mixedOrders=true:=by kernel_rfl
 unfold ndR;obtain⟨h50,h51⟩:=h5;obtain⟨h60,h61⟩:=h6;obtain⟨W1,hW1⟩:=nmd (w.alloc (.cells #[Iq kd,Sq ab 12 12,.string tx,kv,Iq up] 77));obtain⟨An,hAn⟩:=nmd w.heap.size;have hat:W1.heap[An]?=some (.cells #[Iq kd,Sq ab 12 12,.string tx,kv,Iq up] 77 (0,0)):=by rw[<-hW1,<-hAn];exact heap_alloc_new _ _
 have HB1:Hid (Below w.heap.size w W1):=by rw[<-hW1];exact((Gr.refl w).alloc _).below
 have d5:=cell_up HB1 c5;have d6:=cell_up HB1 c6;have d1:W1.cell? ⟨An,1,none⟩=some (Sq ab 12 12):=by rw[Lib.cell_of_heap hat];rfl
 have HBS:=qH<|hAn;clear c5 c6 hat;go_enter func31,ntmps31;go_wp2_with fail;go_quiet(fail);go_wp2;go_ret;exact⟨rfl,below_drewN' HB1 _⟩
theorem row3w{w:World}{B}{t}{a0 a1 a2 b0 b1 b2}(h:w.heap[B]?=some (.cells #[a0,a1,a2] t (0,0))):
 (((w.setCell ⟨B,0,none⟩ b0).setCell ⟨B,1,none⟩ b1).setCell ⟨B,2,none⟩ b2).heap[B]?=some (.cells #[b0,b1,b2] t (0,0)):=by rw[heap_setCell_same _ _ _ _ _ _ (heap_setCell_same _ _ _ _ _ _ (heap_setCell_same _ _ _ _ _ _ h))];rfl
def wantM(a1 a2 a3 x:Int):Int:=if a3=0 then max a1 (if 0≤a2 then min x a2 else x)else a1
theorem wantM_eq d  x :wantM (atN d 1) (atN d 2) (atN d 3) x=wMn d x:=by
 unfold wantM wMn mostI;split
 ·by_cases h:atN d 2<0;·rw[if_pos h,if_neg (by omega)]
  ·rw[if_neg h,if_pos (by omega)]
 ·rfl
theorem rwant_any kd  ab  tx  kv  up a1 a2 a3 x  w (c1:w.cell? ⟨ab,1,none⟩=some (Iq a1))(c2:w.cell? ⟨ab,2,none⟩=some (Iq a2))(c3:w.cell? ⟨ab,3,none⟩=some (Iq a3)):
 Calls prog 63 #[ndR kd ab tx kv up,Iq x] w fun e w'=>e=.returned (.agg #[Iq (wantM a1 a2 a3 x),Iq a2,Iq a3])∧Hid (Below w.heap.size w w'):=by
 have hmix:prog.follows .mixedOrders=true:=by kernel_rfl
 unfold ndR;have LE:=qH<|least_any;have GE:=qH<|greatest_any;obtain⟨W1,hW1⟩:=nmd ((w.alloc (.cells #[Iq kd,Sq ab 12 12,.string tx,kv,Iq up] 77)).alloc (.cells #[Iq 0,Iq 0,Iq 0] 120));obtain⟨An,hAn⟩:=nmd w.heap.size;obtain⟨Aw,hAw⟩:=nmd (An+1);have hs0:(w.alloc (.cells #[Iq kd,Sq ab 12 12,.string tx,kv,Iq up] 77)).heap.size=Aw:=by rw[World.size_alloc,hAn];exact hAw
 have hat:W1.heap[An]?=some (.cells #[Iq kd,Sq ab 12 12,.string tx,kv,Iq up] 77 (0,0)):=by rw[<-hW1,<-hAn,Below.heap_alloc _ _ _ (by rw[World.size_alloc];omega)];exact heap_alloc_new _ _
 have hatw:W1.heap[Aw]?=some (.cells #[Iq 0,Iq 0,Iq 0] 120 (0,0)):=by rw[<-hW1,<-hs0];exact heap_alloc_new _ _
 have HB1:Hid (Below w.heap.size w W1):=by rw[<-hW1];exact(((Gr.refl w).alloc _).alloc _).below
 have d1:=cell_up HB1 c1;have d2:=cell_up HB1 c2;have d3:=cell_up HB1 c3;have hab:ab<An:=by rw[<-hAn];exact World.block_lt_of_cell? w _ c1
 have dn:W1.cell? ⟨An,1,none⟩=some (Sq ab 12 12):=by rw[Lib.cell_of_heap hat];rfl
 have hfz:∀j,W1.frozen? ⟨Aw,j,none⟩=false:=fun j=>frozen_of_row _ _ _ _ _ hatw;have w0:W1.cell? ⟨Aw,0,none⟩=some (Iq 0):=by rw[Lib.cell_of_heap hatw];rfl
 have w1:W1.cell? ⟨Aw,1,none⟩=some (Iq 0):=by rw[Lib.cell_of_heap hatw];rfl
 have w2:W1.cell? ⟨Aw,2,none⟩=some (Iq 0):=by rw[Lib.cell_of_heap hatw];rfl
 have hWl:W1.heap.size=Aw+1:=by rw[<-hW1,World.size_alloc,hs0]
 have HOUT:Hid (∀a b c,Below w.heap.size w (((W1.setCell ⟨Aw,0,none⟩ a).setCell ⟨Aw,1,none⟩ b).setCell ⟨Aw,2,none⟩ c)):=fun a b c=>((HB1.setCell (by show w.heap.size≤Aw;omega) _).setCell (by show w.heap.size≤Aw;omega) _).setCell (by show w.heap.size≤Aw;omega) _;have HAW:=qH<|hatw;clear c1 c2 c3 hat hatw;go_enter func63,ntmps63;by_cases q3:a3=0
 ·have e3:(a3==0)=true:=by rw[q3];rfl
  by_cases q2:0≤a2
  ·have e2:=decide_eq_true q2;have HM:Hid (wantM a1 a2 a3 x=max a1 (min x a2)):=by unfold wantM;rw[if_pos q3,if_pos q2];exact(rfl:max a1 (min x a2)=max a1 (min x a2))
   clear q3;go_wp2_with(first|(go_at_call 95;refine(LE _ _ _).mono ?_;rintro e u5 ⟨rfl,h5⟩;obtain rfl:=h5.symm)|(go_at_call 28;refine(GE _ _ _).mono ?_;rintro e u6 ⟨rfl,h6⟩;obtain rfl:=h6.symm));go_region;all_goals go_wp2;refine bodyPost_ret (results_cell_row rfl _ _ Aw _ _ _ _ rfl (row3w HAW) underlying120 rfl (by kernel_rfl)) rfl ?_;exact⟨by rw[HM.out],(HOUT _ _ _).drew⟩
  ·have e2:=decide_eq_false q2;have HM:Hid (wantM a1 a2 a3 x=max a1 x):=by unfold wantM;rw[if_pos q3,if_neg q2];exact(rfl:max a1 x=max a1 x)
   clear q3 q2;go_wp2_with(first|(go_at_call 95;refine(LE _ _ _).mono ?_;rintro e u5 ⟨rfl,h5⟩;obtain rfl:=h5.symm)|(go_at_call 28;refine(GE _ _ _).mono ?_;rintro e u6 ⟨rfl,h6⟩;obtain rfl:=h6.symm));go_region;all_goals go_wp2;refine bodyPost_ret (results_cell_row rfl _ _ Aw _ _ _ _ rfl (row3w HAW) underlying120 rfl (by kernel_rfl)) rfl ?_;exact⟨by rw[HM.out],(HOUT _ _ _).drew⟩
 ·have e3:(a3==0)=false:=by simp;exact q3
  have HM:Hid (wantM a1 a2 a3 x=a1):=by unfold wantM;rw[if_neg q3];exact(rfl:a1=a1)
  clear q3;go_wp2_with(first|(go_at_call 95;refine(LE _ _ _).mono ?_;rintro e u5 ⟨rfl,h5⟩;obtain rfl:=h5.symm)|(go_at_call 28;refine(GE _ _ _).mono ?_;rintro e u6 ⟨rfl,h6⟩;obtain rfl:=h6.symm));go_region;all_goals go_wp2;refine bodyPost_ret (results_cell_row rfl _ _ Aw _ _ _ _ rfl (row3w HAW) underlying120 rfl (by kernel_rfl)) rfl ?_;exact⟨by rw[HM.out],(HOUT _ _ _).drew⟩
theorem gap_next a  i :gapI a (i+1)=gapI a i+(if 0<i then a else 0):=by
 unfold gapI;by_cases h:0<i;·rw[if_pos h,show max 0 (((i+1:Nat):Int)-1)=max 0 ((i:Int)-1)+1 by omega,Int.mul_add,Int.mul_one]
 ·obtain rfl:i=0:=by omega
  rw[if_neg h,show max 0 (((0+1:Nat):Int)-1)=0 by omega,show max 0 (((0:Nat):Int)-1)=0 by omega,Int.mul_zero];rfl
def bigTo(t:List UInt8)(j:Nat):Int:=mxF (((paras t).take j).map colW)
theorem bigTo_next{t}{j}{x}(h:(paras t)[j]?=some x):bigTo t (j+1)=max (bigTo t j) (colW x):=by unfold bigTo;rw[List.take_add_one,h,List.map_append];exact mxF_snoc _ _
theorem bigTo_all t :bigTo t (paras t).length=txtW t:=by unfold bigTo txtW;rw[List.take_length]
theorem para_len{t x}:∀{j:Nat},(paras t)[j]?=some x->x.length≤t.length:=by
 induction t generalizing x with
 |nil=>intro j h;cases j with
  |zero=>simp[paras]at h;subst h;exact Nat.le_refl _
  |succ j=>simp[paras]at h
 |cons c t ih=>
  intro j h;unfold paras at h;by_cases e:c=10;·rw[if_pos e]at h;cases j with
   |zero=>simp at h;subst h;simp
   |succ j=>simp at h;have:=ih h;simp;omega
  ·rw[if_neg e]at h;revert h;split;·intro h;cases j with
    |zero=>simp at h;subst h;simp
    |succ j=>simp at h
   ·rename_i p ps hp;intro h;cases j with
    |zero=>simp at h;subst h;have:=ih (x:=p) (j:=0) (by rw[hp];rfl);simp;omega
    |succ j=>simp at h;have:=ih (x:=x) (j:=j+1) (by rw[hp];simpa using h);simp;omega
theorem wider_all{s}{L}{Wd}{H}(hT:Tree s L)(hZ:Sz L Wd H) g cap :∀f k,L.length≤k+f->k<L.length->∀U,NdsR U g L.length (nth L)->
 Calls prog 10 #[Sq g L.length cap,Iq (k:Int)] U fun e U'=>e=.returned (Iq (Wd k))∧Hid (Below U.heap.size U U')
 |0,k,h1,h2,U,hN=>by omega
 |f+1,k,h1,h2,U,hN=>by
  have hmix:prog.follows .mixedOrders=true:=by kernel_rfl
  have KID:Hid (∀j,j<(nth L k).kids.length->∀u,Below U.heap.size U u->Calls prog 10 #[Sq g L.length cap,Iq (kdn (nth L k).kids j:Int)] u fun e U'=>e=.returned (Iq (Wd (kdn (nth L k).kids j)))∧Hid (Below u.heap.size u U')):=fun j hj u hu=>by have:=kid_lt hT h2 hj;exact wider_all hT hZ g cap f _ (by omega) this.2 u (hN.below hu)
  have GE:=qH<|greatest_any;have CL:=qH<|rCl_any;obtain⟨ab,kv,hn⟩:=hN.nd k h2;have hnv:=(hT.vl.nv k h2).bd;have htl:=hT.vl.tl k h2;have hsz:=hT.sz;have hw:=hZ.w k h2;have hcnt:=hT.vl.cnt;have hkl:=hT.kids_le h2;have HWB:Hid (∀j,j<(nth L k).kids.length->0≤Wd (kdn (nth L k).kids j)∧Wd (kdn (nth L k).kids j)≤100000):=fun j hj=>hZ.wb _ (kid_lt hT h2 hj).2;obtain⟨W1,hW1⟩:=nmd (U.alloc (.cells #[Iq ((nth L k).kind:Int),Sq ab 12 12,.string ⟨(nth L k).text.toArray⟩,kv,Iq (nth L k).up] 77));obtain⟨An,hAn⟩:=nmd U.heap.size;have hat:W1.heap[An]?=some (.cells #[Iq ((nth L k).kind:Int),Sq ab 12 12,.string ⟨(nth L k).text.toArray⟩,kv,Iq (nth L k).up] 77 (0,0)):=by rw[<-hW1,<-hAn];exact heap_alloc_new _ _
  have HB1:Hid (Below U.heap.size U W1):=by rw[<-hW1];exact((Gr.refl U).alloc _).below
  have c0:=hn.c0;have c1:=hn.c1;have c2:=hn.c2;have c3:=hn.c3;have c4:=hn.c4;have HAT:Hid (∀u,Below W1.heap.size W1 u->u.cell? ⟨An,0,none⟩=some (Iq ((nth L k).kind:Int))∧u.cell? ⟨An,1,none⟩=some (Sq ab 12 12)∧u.cell? ⟨An,2,none⟩=some (.string ⟨(nth L k).text.toArray⟩)∧u.cell? ⟨An,3,none⟩=some kv∧u.cell? ⟨An,4,none⟩=some (Iq (nth L k).up)):=fun u hu=>by refine⟨?_,?_,?_,?_,?_⟩<;>exact cell_up hu (by rw[Lib.cell_of_heap hat];rfl)
  have HATT:Hid (∀u,Below W1.heap.size W1 u->u.cell? ⟨ab,4,none⟩=some (Iq (atN (nth L k) 4))∧u.cell? ⟨ab,5,none⟩=some (Iq (atN (nth L k) 5))∧u.cell? ⟨ab,6,none⟩=some (Iq (atN (nth L k) 6))):=fun u hu=>by have hb:=HB1.trans (hu.mono HB1.size);exact⟨cell_up hb (hn.att 4 (by omega)),cell_up hb (hn.att 5 (by omega)),cell_up hb (hn.att 6 (by omega))⟩
  obtain⟨kp,kc,hkv,hki⟩:=hn.kids;subst hkv;have HKI:Hid ((nth L k).kids=[]∨∃kb ko,kp=some ⟨kb,ko,none⟩∧∀u,Below W1.heap.size W1 u->∀i,i<(nth L k).kids.length->u.cell? ⟨kb,ko+i,none⟩=some (Iq (kdn (nth L k).kids i:Int))):=by
   rcases hki with e|⟨kb,ko,e,_,hc⟩;·exact .inl e
   ·exact .inr ⟨kb,ko,e,fun u hu i hi=>cell_up (HB1.trans (hu.mono HB1.size)) (hc i hi)⟩
  obtain⟨z0,z1,z2,z3,z4⟩:=HAT W1 (Below.refl _ _);have hkN:(k:Int)<(L.length:Int):=by omega
  clear hki hn hat hN;by_cases h5:(nth L k).kind=5
  ·have HWK:Hid (Wd k=cl (txtW (nth L k).text)):=by rw[hw,cl_len];unfold nodeW;rw[if_pos h5];exact(rfl:lenI (txtW (nth L k).text)=_)
   rw[h5,show((5:Nat):Int)=5 from rfl]at z0 c0 hW1;generalize(nth L k).text=t at z2 c2 hW1 htl HWK;generalize(nth L k).up=up at z4 c4 hW1;generalize(nth L k).kids.length=m at z3 c3 hW1;have PG:Hid (∀u,Calls prog 27 #[.string ⟨t.toArray⟩] u fun e u'=>PgOut u u' t e):=fun u=>by have:=paragraphs_any ⟨t.toArray⟩ u (by show t.toArray.size≤_;simp;omega);simpa using this
   have CO:Hid (∀(x:List UInt8),x.length≤4000->∀u,Calls prog 29 #[.string ⟨x.toArray⟩] u fun e u'=>e=.returned (Iq (colW x))∧Hid (Below u.heap.size u u')):=fun x hx u=>by have:=rcolumns_any ⟨x.toArray⟩ u (by show x.toArray.size≤_;simp;omega);simpa[Hid,colW]using this
   have HTL:Hid (t.length≤4000):=by show _≤_;omega
   clear KID HKI HATT HWB htl hw hnv;go_enter func10,ntmps10;go_wp2_with(go_at_call 27;refine(PG _).mono ?_;rintro e U2 ⟨p,c,rfl,hst,hb2⟩);obtain⟨b,rfl,hbl,hbc⟩:=hst;have HST:=qH<|hbc;have HB2:=qH<|hb2;obtain⟨n,hn⟩:=nmd ((paras t).length);have HN:=qH<|hn;have hnb:n≤4001:=by have:=paras_len t;have:=List.count_le_length (a:=(10:UInt8)) (l:=t);have:=HTL.out;omega
   rw[hn];clear hn hbc hb2 hbl;go_loopw[7,9] (fun bv iv wr=>∃j:Nat,j≤n∧iv=Iq (j:Int)∧bv=Iq (bigTo t j)∧Hid (Below U2.heap.size U2 wr)) (fun _ iv _=>n-(intOf iv).toNat);case atStart=>exact⟨0,Nat.zero_le _,rfl,rfl,Below.refl _ _⟩
   case round=>
    obtain⟨j,hj,rfl,rfl,HBj⟩:=hrel;by_cases hlt:j<n
    ·have hlt':(j:Int)<(n:Int):=by omega
     obtain⟨x,hx⟩:∃x,(paras t)[j]?=some x:=⟨_,List.getElem?_eq_getElem (by have:=HN.out;omega)⟩;have y0:=cell_up HBj (HST j x hx);have hxl:=para_len hx;have CO2:=qH<|CO x (by have:=HTL.out;omega);have HNX:=qH<|bigTo_next hx;generalize bigTo t j=bg at HNX;clear hx hxl;go_wp2_with(first|(go_at_call 29;refine(CO2 _).mono ?_;rintro e u5 ⟨rfl,HB5⟩)|(go_at_call 28;refine(GE _ _ _).mono ?_;rintro e u6 ⟨rfl,h6⟩;obtain rfl:=h6.symm));go_roundw;case rel=>exact⟨j+1,by omega,by go_num,by rw[HNX.out],HBj.trans (HB5.mono HBj.size)⟩
     case measure=>simp[intOf];omega
    ·have hlt':¬(j:Int)<(n:Int):=by omega
     obtain rfl:j=n:=by omega
     have HBG:Hid (bigTo t j=txtW t):=by have:=bigTo_all t;rw[HN.out]at this;exact this
     go_wp2_with(go_at_call 30;refine(CL _ _).mono ?_;rintro e u6 ⟨rfl,h6⟩;obtain rfl:=h6.symm);go_ret;refine⟨by rw[HWK.out,<-HBG.out];rfl,?_⟩;have a1:=HB1.trans (HB2.mono HB1.size);exact a1.trans (HBj.mono a1.size)
  ·obtain⟨kd,hkd⟩:∃z:Int,((nth L k).kind:Int)=z:=⟨_,rfl⟩;have HWK:Hid (Wd k=cl (rawW kd (atN (nth L k) 4) (atN (nth L k) 5) (atN (nth L k) 6) (fun j=>Wd (kdn (nth L k).kids j)) (nth L k).kids.length)):=by rw[hw,cl_len,<-hkd];unfold nodeW;rw[if_neg h5];exact(rfl:lenI (rawW ((nth L k).kind:Int) _ _ _ _ _)=_)
   have e5:(kd==5)=false:=by simp;omega
   have HKD:=qH<|hkd;obtain⟨_,hv4,hv5,hv6,_⟩:=hnv;obtain⟨a4,ha4⟩:=nmd (atN (nth L k) 4);obtain⟨a5,ha5⟩:=nmd (atN (nth L k) 5);obtain⟨a6,ha6⟩:=nmd (atN (nth L k) 6);obtain⟨hh,hhe⟩:∃z:Nat->Int,(fun j=>Wd (kdn (nth L k).kids j))=z:=⟨_,rfl⟩;have hhj:∀j,Wd (kdn (nth L k).kids j)=hh j:=fun j=>by rw[<-hhe]
   rw[ha4,ha5,ha6,hhe]at HWK;rw[ha4,ha5,ha6]at HATT;rw[ha4]at hv4;rw[ha5]at hv5;rw[ha6]at hv6;rw[hkd]at z0 c0 hW1 HAT;have HWB2:Hid (∀j,j<(nth L k).kids.length->0≤hh j∧hh j≤100000):=fun j hj=>by rw[<-hhj];exact HWB j hj
   have KID2:Hid (∀j,j<(nth L k).kids.length->∀u,Below U.heap.size U u->Calls prog 10 #[Sq g L.length cap,Iq (kdn (nth L k).kids j:Int)] u fun e U'=>e=.returned (Iq (hh j))∧Hid (Below u.heap.size u U')):=fun j hj u hu=>by rw[<-hhj];exact KID j hj u hu
   generalize(nth L k).text=t at z2 c2 hW1 HAT;generalize(nth L k).up=up at z4 c4 hW1 HAT;have HKI2:Hid ((nth L k).kids.length=0∨∃kb ko,kp=some ⟨kb,ko,none⟩∧∀u,Below W1.heap.size W1 u->∀i,i<(nth L k).kids.length->u.cell? ⟨kb,ko+i,none⟩=some (Iq (kdn (nth L k).kids i:Int))):=by
    rcases HKI.out with e|e;·exact .inl (by rw[e];rfl)
    ·exact .inr e
   generalize(nth L k).kids=ks at z3 c3 hW1 HAT HWK HWB2 KID2 HKI2 hkl;obtain⟨m,hm⟩:=nmd ks.length;rw[hm]at z3 c3 hW1 HAT HWK HWB2 KID2 HKI2 hkl;clear KID HKI HWB htl hw hkd hhe hhj ha4 ha5 ha6 hm h5;obtain⟨hv40,hv41⟩:=hv4;have HB1':=HB1;go_enter func10,ntmps10;go_wp2;clear z0 z1 z2 z3 z4 c0 c1 c2 c3 c4 hW1 hAn;go_loopw[6,7,10] (fun sv bv iv wr=>∃(j:Nat) (sm bg:Int),j≤m∧iv=Iq (j:Int)∧sv=Iq sm∧bv=Iq bg∧0≤sm∧sm≤(j:Int)*100100∧0≤bg∧bg≤100000∧Hid (sm=hS hh j+gapI a4 j∧bg=hG hh j)∧Hid (Below W1.heap.size W1 wr)) (fun _ _ iv _=>m-(intOf iv).toNat);case atStart=>exact⟨0,0,0,Nat.zero_le _,rfl,rfl,rfl,by omega,by omega,by omega,by omega,⟨by unfold hS gapI;rw[show max 0 (((0:Nat):Int)-1)=0 by omega,Int.mul_zero];rfl,rfl⟩,Below.refl _ _⟩
   case round=>
    obtain⟨j,sm,bg,hj,rfl,rfl,rfl,hs0,hs1,hg0,hg1,HSG,HBj⟩:=hrel;obtain⟨z0,z1,z2,z3,z4⟩:=HAT wr HBj;by_cases hlt:j<m
    ·have hlt':(j:Int)<(m:Int):=by omega
     obtain⟨kb,ko,rfl,hkc⟩:=HKI2.resolve_left (by omega);have k0:=hkc wr HBj j hlt;have KD:=KID2 j hlt;have hx:=HWB2 j hlt;have HNX0:Hid (hS hh (j+1)+gapI a4 (j+1)=hS hh j+hh j+(gapI a4 j+(if 0<j then a4 else 0))∧hG hh (j+1)=max (hG hh j) (hh j)):=⟨by rw[gap_next];rfl,rfl⟩;generalize kdn ks j=cc at k0 KD;have KD:=qH<|KD;obtain⟨x,hxe⟩:=nmd (hh j);rw[hxe]at hx KD HNX0;obtain⟨hx0,hx1⟩:=hx;clear hkc hxe;by_cases hj0:0<j
     ·have hj0':(0:Int)<(j:Int):=by omega
      have HNX:Hid (sm+x+a4=hS hh (j+1)+gapI a4 (j+1)∧max bg x=hG hh (j+1)):=by obtain⟨e1,e2⟩:=HSG.out;obtain⟨f1,f2⟩:=HNX0.out;rw[if_pos hj0]at f1;exact⟨by omega,by rw[f2,<-e2]⟩
      clear HNX0 HSG;go_wp2_with(first|(go_at_call 10;refine(KD _ (HB1.trans (HBj.mono HB1.size))).mono ?_;rintro e u5 ⟨rfl,HB5⟩;have HB6:=qH<|HBj.trans (HB5.mono HBj.size);have q1:=(HAT u5 HB6).2.1;have q4:=(HATT u5 HB6).1)|(go_at_call 28;refine(GE _ _ _).mono ?_;rintro e u6 ⟨rfl,h6⟩;obtain rfl:=h6.symm));go_roundw;case rel=>exact⟨j+1,sm+x+a4,max bg x,by omega,by go_num,by go_num,rfl,by omega,by push_cast;omega,by omega,by omega,HNX,HB6⟩
      case measure=>simp[intOf];omega
     ·have hj0':¬(0:Int)<(j:Int):=by omega
      have HNX:Hid (sm+x=hS hh (j+1)+gapI a4 (j+1)∧max bg x=hG hh (j+1)):=by obtain⟨e1,e2⟩:=HSG.out;obtain⟨f1,f2⟩:=HNX0.out;rw[if_neg hj0]at f1;exact⟨by omega,by rw[f2,<-e2]⟩
      clear HNX0 HSG;go_wp2_with(first|(go_at_call 10;refine(KD _ (HB1.trans (HBj.mono HB1.size))).mono ?_;rintro e u5 ⟨rfl,HB5⟩;have HB6:=qH<|HBj.trans (HB5.mono HBj.size);have q1:=(HAT u5 HB6).2.1;have q4:=(HATT u5 HB6).1)|(go_at_call 28;refine(GE _ _ _).mono ?_;rintro e u6 ⟨rfl,h6⟩;obtain rfl:=h6.symm));go_roundw;case rel=>exact⟨j+1,sm+x,max bg x,by omega,by go_num,by go_num,rfl,by omega,by push_cast;omega,by omega,by omega,HNX,HB6⟩
      case measure=>simp[intOf];omega
    ·have hlt':¬(j:Int)<(m:Int):=by omega
     obtain rfl:j=m:=by omega
     have HBe:=qH<|HB1'.trans (HBj.mono HB1'.size);by_cases k0:kd=0
     ·have e0:(kd==0)=true:=by rw[k0];rfl
      have HF:Hid (Wd k=cl sm):=by rw[HWK.out];unfold rawW;rw[if_pos k0,<-HSG.1];exact(rfl:cl sm=cl sm)
      clear k0;go_wp2_with(go_at_call 30;refine(CL _ _).mono ?_;rintro e u6 ⟨rfl,h6⟩;obtain rfl:=h6.symm);go_ret;exact⟨by rw[HF.out];rfl,HBe⟩
     ·have e0:(kd==0)=false:=by simp;exact k0
      by_cases k3:kd=3
      ·have e3:(kd==3)=true:=by rw[k3];rfl
       have HF:Hid (Wd k=cl (bg+2*(a6+a5))):=by rw[HWK.out];unfold rawW frmI;rw[if_neg k0,if_pos k3,<-HSG.2];exact(rfl:cl (bg+2*(a6+a5))=_)
       obtain⟨q4,q5,q6⟩:=HATT wr HBj;have FR:Hid (∀u,(u=wr∨u=wr.drew)->Calls prog 31 #[.agg #[Iq kd,Sq ab 12 12,.string ⟨t.toArray⟩,.slice kp j kc,Iq up]] u fun e w'=>e=.returned (Iq (a6+a5))∧Hid (Below wr.heap.size wr w')):=fun u hu=>by
        have hbu:Below wr.heap.size wr u:=by
         rcases hu with rfl|rfl;·exact Below.refl _ _
         ·exact(Below.refl _ _).drew
        refine(rframe_any kd ab ⟨t.toArray⟩ (.slice kp j kc) up a5 a6 u (cell_up hbu q5) (cell_up hbu q6) (by omega) (by omega)).mono ?_;rintro e w' ⟨rfl,hb⟩;exact⟨rfl,hbu.trans (hb.mono hbu.size)⟩
       obtain⟨h50,h51⟩:=hv5;obtain⟨h60,h61⟩:=hv6;clear k0 k3;go_wp2_with(first|(go_at_call 30;refine(CL _ _).mono ?_;rintro e u6 ⟨rfl,h6⟩;obtain rfl:=h6.symm)|(go_at_call 31;refine(FR _ (by first|exact .inl rfl|exact .inr rfl)).mono ?_;rintro e u7 ⟨rfl,HB7⟩));go_ret;exact⟨by rw[HF.out];rfl,HBe.trans (HB7.mono HBe.size)⟩
      ·have e3:(kd==3)=false:=by simp;exact k3
       have HF:Hid (Wd k=cl bg):=by rw[HWK.out];unfold rawW frmI;rw[if_neg k0,if_neg k3,<-HSG.2,Int.mul_zero,Int.add_zero];exact(rfl:cl bg=cl bg)
       clear k0 k3;go_wp2_with(go_at_call 30;refine(CL _ _).mono ?_;rintro e u6 ⟨rfl,h6⟩;obtain rfl:=h6.symm);go_ret;exact⟨by rw[HF.out];rfl,HBe⟩
def Z3(W:World)(X:Nat)(a b c:Int):Prop:=W.heap[X]?=some (.cells #[Iq a,Iq b,Iq c] 120 (0,0))
theorem Z3.lt{W}{X}{a b c}(h:Z3 W X a b c):X<W.heap.size:=(Array.getElem?_eq_some_iff.1 h).1
theorem Z3.below{W W'}{X}{a b c}(h:Z3 W X a b c)(hb:Below W.heap.size W W'):Z3 W' X a b c:=(hb.block X h.lt).trans h
theorem Z3.set{W}{X}{a b c}(h:Z3 W X a b c) x y z :Z3 (((W.setCell ⟨X,0,none⟩ (Iq x)).setCell ⟨X,1,none⟩ (Iq y)).setCell ⟨X,2,none⟩ (Iq z)) X x y z:=row3w h
theorem Z3.new(W:World) a b c :Z3 (W.alloc (.cells #[Iq a,Iq b,Iq c] 120)) W.heap.size a b c:=heap_alloc_new _ _
theorem Z3.cells{W}{X}{a b c}(h:Z3 W X a b c):W.cell? ⟨X,0,none⟩=some (Iq a)∧W.cell? ⟨X,1,none⟩=some (Iq b)∧W.cell? ⟨X,2,none⟩=some (Iq c)∧∀j,W.frozen? ⟨X,j,none⟩=false:=
 ⟨by rw[Lib.cell_of_heap h];rfl,by rw[Lib.cell_of_heap h];rfl,by rw[Lib.cell_of_heap h];rfl,fun j=>frozen_of_row _ _ _ _ _ h⟩
def AcOut(U U':World)(L:List Nd)(ks:List Nat)(N:Nat->Int)(e:Ending):Prop:=∃p c,e=.returned (.slice p ks.length c)∧(ks.length=0∨∃b,p=some ⟨b,0,none⟩∧WRow U' b 0 ks.length (fun j=>wMn (nth L (kdn ks j)) (N j)) (fun j=>atN (nth L (kdn ks j)) 2) (fun j=>atN (nth L (kdn ks j)) 3))∧Below U.heap.size U U'
def acI(U:World)(m:Nat)(L:List Nd)(ks:List Nat)(N:Nat->Int)(v iv:Value)(wr:World):Prop:=∃j:Nat,iv=Iq (j:Int)∧j≤m∧wr.ownsRow U.heap.size 120 3 v j (wCells (fun j=>wMn (nth L (kdn ks j)) (N (kdn ks j))) (fun j=>atN (nth L (kdn ks j)) 2) (fun j=>atN (nth L (kdn ks j)) 3) j)∧Below U.heap.size U wr
def acX(wr:World)(M a2 a3:Int)(p:Value)(wx:World):Prop:=∃X,p=Pq X∧Hid (Z3 wx X M a2 a3)∧Hid (wr.heap.size≤X)∧Hid (Below wr.heap.size wr wx)
theorem acdn_any{s}{L}(hT:Tree s L)(f f2:Nat) av  bv (N:Nat->Int) g cap k (hk:k<L.length) U (hN:NdsR U g L.length (nth L))
 (hf:Hid ((f=34∧f2=10∧av=#[Sq g L.length cap,Iq (k:Int)]∧bv=fun c:Nat=>#[Sq g L.length cap,Iq (c:Int)])∨∃w,f=104∧f2=11∧av=#[Sq g L.length cap,Iq (k:Int),Iq w]∧bv=fun c:Nat=>#[Sq g L.length cap,Iq (c:Int),Iq w]))
 (WID:Hid (∀c,c<L.length->∀u,Below U.heap.size U u->Calls prog f2 (bv c) u fun e U'=>e=.returned (Iq (N c))∧Hid (Below u.heap.size u U'))):
 Calls prog f av U fun e U'=>AcOut U U' L (nth L k).kids (fun j=>N (kdn (nth L k).kids j)) e:=by
 have hmix:prog.follows .mixedOrders=true:=by kernel_rfl
 obtain⟨i0,hi,hz0,hz1,hz2⟩:=info_parts infoRWant;obtain⟨ab,kv,hn⟩:=hN.nd k hk;obtain⟨kp,kc,hkv,hki⟩:=hn.kids;subst hkv;have hkl:=hT.kids_le hk;have hcnt:=hT.vl.cnt;have HK3:Hid (∀u,Below U.heap.size U u->u.cell? ⟨g,k*5+3,none⟩=some (.slice kp (nth L k).kids.length kc)):=fun u hu=>cell_up hu hn.c3;have HKI:Hid ((nth L k).kids.length=0∨∃kb ko,kp=some ⟨kb,ko,none⟩∧∀u,Below U.heap.size U u->∀i,i<(nth L k).kids.length->u.cell? ⟨kb,ko+i,none⟩=some (Iq (kdn (nth L k).kids i:Int))):=by
  rcases hki with e|⟨kb,ko,e,_,hc⟩;·exact .inl (by rw[e];rfl)
  ·exact .inr ⟨kb,ko,e,fun u hu i hi=>cell_up hu (hc i hi)⟩
 have KID:Hid (∀j,j<(nth L k).kids.length->kdn (nth L k).kids j<L.length):=fun j hj=>(kid_lt hT hk hj).2;have HN:Hid (∀u,Below U.heap.size U u->NdsR u g L.length (nth L)):=fun u hu=>hN.below hu;have hkN:(k:Int)<(L.length:Int):=by omega
 generalize(nth L k).kids=ks at HK3 HKI KID hkl⊢;obtain⟨m,hm⟩:=nmd ks.length;have HM:=qH<|hm;rw[hm]at HK3 HKI KID hkl;clear hki hn hN hm hT;rcases hf.out with⟨rfl,rfl,rfl,rfl⟩|⟨w,rfl,rfl,rfl,rfl⟩;all_goals
  first
   |go_enter func34,ntmps34
   |go_enter func104,ntmps104
  clear hf;go_wp2;first
   |(have:=w;clear this;go_loopw[7,8] (acI U m L ks N) (fun _ iv _=>m-(intOf iv).toNat))
   |go_loopw[5,6] (acI U m L ks N) (fun _ iv _=>m-(intOf iv).toNat)
  case atStart=>exact⟨0,rfl,Nat.zero_le _,World.ownsRow_nil _ _ _ _,Below.refl _ _⟩
  case round=>
   obtain⟨j,rfl,hj,hown,hbw⟩:=hrel;have c3:=HK3 wr hbw;have hzr:=hbw.size;by_cases hlt:j<m
   ·have hlt':(j:Int)<(m:Int):=by omega
    obtain⟨kb,ko,rfl,hkc⟩:=HKI.resolve_left (by omega);have k0:=hkc wr hbw j hlt;have hc:=KID j hlt;have HS:Hid (wCells (fun j=>wMn (nth L (kdn ks j)) (N (kdn ks j))) (fun j=>atN (nth L (kdn ks j)) 2) (fun j=>atN (nth L (kdn ks j)) 3) (j+1)=wCells (fun j=>wMn (nth L (kdn ks j)) (N (kdn ks j))) (fun j=>atN (nth L (kdn ks j)) 2) (fun j=>atN (nth L (kdn ks j)) 3) j++[Iq (wMn (nth L (kdn ks j)) (N (kdn ks j))),Iq (atN (nth L (kdn ks j)) 2),Iq (atN (nth L (kdn ks j)) 3)]):=rfl;obtain⟨c,hce⟩:=nmd (kdn ks j);have WD:=WID (kdn ks j) hc;obtain⟨abc,kvc,hnc⟩:=(HN wr hbw).nd (kdn ks j) hc;rw[hce]at k0 hc HS WD hnc;have hcN:(c:Int)<(L.length:Int):=by omega
    have y0:=hnc.c0;have y1:=hnc.c1;have y2:=hnc.c2;have y3:=hnc.c3;have y4:=hnc.c4;obtain⟨kd,hkd⟩:∃z:Int,((nth L c).kind:Int)=z:=⟨_,rfl⟩;obtain⟨M,hMe⟩:=nmd (wMn (nth L c) (N c));obtain⟨x,hxe⟩:=nmd (N c);have WN:Hid (∀u,Below wr.heap.size wr u->Calls prog 63 #[.agg #[Iq kd,Sq abc 12 12,.string ⟨(nth L c).text.toArray⟩,kvc,Iq (nth L c).up],Iq x] u fun e u'=>e=.returned (.agg #[Iq M,Iq (atN (nth L c) 2),Iq (atN (nth L c) 3)])∧Hid (Below u.heap.size u u')):=fun u hu=>by have:=rwant_any kd abc ⟨(nth L c).text.toArray⟩ kvc (nth L c).up (atN (nth L c) 1) (atN (nth L c) 2) (atN (nth L c) 3) x u (cell_up hu (hnc.att 1 (by omega))) (cell_up hu (hnc.att 2 (by omega))) (cell_up hu (hnc.att 3 (by omega)));rw[wantM_eq,<-hxe,hMe]at this;rw[<-hxe];exact this
    have WD2:=qH WD;rw[hxe]at WD2;rw[hMe]at HS;rw[hkd]at y0;generalize(nth L c).text=tx at y2 WN;generalize(nth L c).up=up at y4 WN;generalize atN (nth L c) 2=a2 at HS WN;generalize atN (nth L c) 3=a3 at HS WN;have HBW:=qH<|hbw;have HD1:=qH<|hbw.drew;have HD2:Hid (Below U.heap.size U (wr.alloc (.cells #[Iq 0,Iq 0,Iq 0] 120)).drew):=(hbw.alloc hzr _).drew;have HE1:Hid (Below wr.heap.size wr wr.drew):=(Below.refl _ _).drew;have HE2:Hid (Below wr.heap.size wr (wr.alloc (.cells #[Iq 0,Iq 0,Iq 0] 120)).drew):=((Below.refl _ _).alloc (Nat.le_refl _) _).drew;have HSC:Hid (∀u,Below wr.heap.size wr u->u.cell? ⟨g,c*5,none⟩=some (Iq kd)∧u.cell? ⟨g,c*5+1,none⟩=some (Sq abc 12 12)∧u.cell? ⟨g,c*5+2,none⟩=some (.string ⟨tx.toArray⟩)∧u.cell? ⟨g,c*5+3,none⟩=some kvc∧u.cell? ⟨g,c*5+4,none⟩=some (Iq up)):=fun u hu=>⟨cell_up hu y0,cell_up hu y1,cell_up hu y2,cell_up hu y3,cell_up hu y4⟩;have ne0:=World.new_ne wr _ y0;clear hnc WD hkd hMe hxe hce hkc hbw;go_upto_region 6 with fail;first
     |(have:=w;clear this;go_cut[10]from 29 to 37 (acX wr M a2 a3))
     |go_cut[8]from 27 to 34 (acX wr M a2 a3)
    case first=>
     go_region_held(fun W=>W.cell? ⟨g,c*5,none⟩=some (Iq kd)∧W.cell? ⟨g,c*5+1,none⟩=some (Sq abc 12 12)∧W.cell? ⟨g,c*5+2,none⟩=some (.string ⟨tx.toArray⟩)∧W.cell? ⟨g,c*5+3,none⟩=some kvc∧W.cell? ⟨g,c*5+4,none⟩=some (Iq up)) (go_keep) (first
      |((first|go_at_call 10|go_at_call 11);(with_reducible refine Calls.mono (WD2.out _ HD1.out) ?_);rintro e q5 ⟨rfl,HB5⟩;have HF5:=qH<|HE1.out.trans (HB5.out.mono HE1.out.size);obtain⟨s0,s1,s2,s3,s4⟩:=HSC.out q5 HF5.out;have ne5:=World.new_ne q5 _ s0;have HF5A:Hid (Below wr.heap.size wr (q5.alloc (.cells #[Iq 0,Iq 0,Iq 0] 120))):=HF5.out.alloc HF5.out.size _)
      |((first|go_at_call 10|go_at_call 11);(with_reducible refine Calls.mono (WD2.out _ HD2.out) ?_);rintro e q5 ⟨rfl,HB5⟩;have HF5:=qH<|HE2.out.trans (HB5.out.mono HE2.out.size);obtain⟨s0,s1,s2,s3,s4⟩:=HSC.out q5 HF5.out;have ne5:=World.new_ne q5 _ s0;have ZA:=qH<|Z3.below (W:=(wr.alloc (.cells #[Iq 0,Iq 0,Iq 0] 120)).drew) (Z3.new wr 0 0 0) HB5.out;obtain⟨za0,za1,za2,za3⟩:=ZA.out.cells)
      |(go_at_call 63;(with_reducible refine Calls.mono (WN.out _ HF5.out) ?_);rintro e q6 ⟨rfl,HB6⟩;have HF6:=qH<|HF5.out.trans (HB6.out.mono HF5.out.size);obtain⟨t0,t1,t2,t3,t4⟩:=HSC.out q6 HF6.out;have ne6:=World.new_ne q6 _ t0;(try(have ZA6:=qH<|ZA.out.below HB6.out;obtain⟨zb0,zb1,zb2,zb3⟩:=ZA6.out.cells)))
      |(go_at_call 63;(with_reducible refine Calls.mono (WN.out _ HF5A.out) ?_);rintro e q6 ⟨rfl,HB6⟩;have HF6:=qH<|HF5A.out.trans (HB6.out.mono HF5A.out.size);obtain⟨t0,t1,t2,t3,t4⟩:=HSC.out q6 HF6.out;have ne6:=World.new_ne q6 _ t0;have ZB6:=qH<|(Z3.new q5 0 0 0).below HB6.out;obtain⟨zb0,zb1,zb2,zb3⟩:=ZB6.out.cells));all_goals
      go_wp2_with fail;go_meet;first
       |exact⟨_,rfl,ZA6.set _ _ _,Nat.le_refl _,((HF6.setCell (Nat.le_refl _) _).setCell (Nat.le_refl _) _).setCell (Nat.le_refl _) _⟩
       |exact⟨_,rfl,ZB6.set _ _ _,HF5.size,((HF6.setCell HF5.size _).setCell HF5.size _).setCell HF5.size _⟩
       |exact⟨_,rfl,Z3.new _ _ _ _,HF6.size,HF6.alloc HF6.size _⟩
    case rest=>
     obtain⟨X,rfl,HZ,HX,HBC⟩:=hcut;obtain⟨x0,x1,x2,_⟩:=HZ.cells;have hownc:=own_belowS hown HBC;have hzc:=HBC.size;have HBU:=qH<|HBW.trans (HBC.mono HBW.size);clear y0 y1 y2 y3 y4 k0 c3 hown;go_wp2_with(at_builtin;refine ap1 (W0:=U) hi hz0 hz1 hz2 hownc HBU [Iq M,Iq a2,Iq a3] rfl _ _ rfl underlying86 ⟨rfl,by decide,by decide⟩ rfl rfl ⟨rfl,rfl⟩ (by omega) ?_);intro v' w6 hown' hb7;clear hownc;go_wp2;go_roundw;case rel=>exact⟨j+1,by go_num,by omega,by rw[HS.out];exact hown',hb7⟩
     case measure=>simp[intOf];omega
   ·have hge:¬(j:Int)<(m:Int):=by omega
    obtain rfl:m=j:=by omega
    obtain⟨p,cp,rfl,hval⟩:=wval_own hown;have HV:Hid (m=0∨∃b,p=some ⟨b,0,none⟩∧WRow wr b 0 m (fun j=>wMn (nth L (kdn ks j)) (N (kdn ks j))) (fun j=>atN (nth L (kdn ks j)) 2) (fun j=>atN (nth L (kdn ks j)) 3)):=by
     rcases hval with h|⟨lw,e,_,h⟩;·exact .inl h
     ·exact .inr ⟨lw,e,h⟩
    have HBW:=qH<|hbw;clear hval hown hbw;go_wp2;go_ret;refine⟨p,cp,by rw[HM.out];rfl,?_,HBW⟩;rw[HM.out];exact HV
theorem across_any{s}{L}{Wd}{H}(hT:Tree s L)(hZ:Sz L Wd H) g cap k (hk:k<L.length) U (hN:NdsR U g L.length (nth L)):
 Calls prog 34 #[Sq g L.length cap,Iq (k:Int)] U fun e U'=>AcOut U U' L (nth L k).kids (fun j=>Wd (kdn (nth L k).kids j)) e:=
 acdn_any hT _ _ _ _ Wd g cap k hk U hN (.inl ⟨rfl,rfl,rfl,rfl⟩) fun c hc u hu=>wider_all hT hZ g cap L.length c (by have:=hT.vl.cnt;omega) hc u (hN.below hu)
theorem wide_ex{s}{L}{Wd}{H}(hT:Tree s L)(hZ:Sz L Wd H)(U:World){k}(hk:k<L.length)(h5:(nth L k).kind≠5){w}(hw0:0≤w)(hw1:w≤100000):
 ∃V,(∀j,j<(nth L k).kids.length->0≤V j∧V j≤100000)∧((nth L k).kind=0->(nth L k).kids.length=0∨KidSpl L (nth L k).kids (fun j=>Wd (kdn (nth L k).kids j)) w (atN (nth L k) 4) V)∧((nth L k).kind=3->∀j,V j=max 0 (w-2*(atN (nth L k) 6+atN (nth L k) 5)))∧((nth L k).kind≠0->(nth L k).kind≠3->∀j,V j=w)∧H k w=nodeH (nth L k) (fun j=>H (kdn (nth L k).kids j) (V j)):=by
 have hkl:=hT.kids_le hk;by_cases h0:(nth L k).kind=0
 ·by_cases hm:(nth L k).kids.length=0;·exact⟨fun _=>0,fun j hj=>by omega,fun _=>.inl hm,fun h=>by omega,fun h=>absurd h0 h,hZ.hr k w _ hk h0 (.inl (List.eq_nil_of_length_eq_zero hm))⟩
  ·obtain⟨V,hV⟩:=kidspl_ex L (nth L k).kids (fun j=>Wd (kdn (nth L k).kids j)) w (atN (nth L k) 4) U (by omega) (by omega);refine⟨V,fun j hj=>?_,fun _=>.inr hV,fun h=>by omega,fun h=>absurd h0 h,hZ.hr k w V hk h0 (.inr hV)⟩;have:=(SplitIs.tiles hV (hb_held0 _ _ _)).1 j hj;exact⟨this.1,Int.le_trans this.2 (hMax_bd _ _).2⟩
 ·have e:=hZ.ho k w hk h5 h0;have hbd:=(hT.vl.nv k hk).bd;obtain⟨_,_,b5,b6,_⟩:=hbd;refine⟨fun _=>inW (nth L k) w,fun j _=>?_,fun h=>absurd h h0,fun h j=>?_,fun _ h j=>?_,e⟩;·show 0≤inW (nth L k) w∧inW (nth L k) w≤100000;unfold inW frmI;split<;>omega
  ·show inW (nth L k) w=_;unfold inW frmI;rw[if_pos (by omega)]
  ·show inW (nth L k) w=_;unfold inW frmI;rw[if_neg (by omega)];show max 0 (w-2*0)=w;omega
def WV(W:World)(kd:Int)(m:Nat)(V:Nat->Int)(v:Value):Prop:=kd=0->0<m->∃ob,v=Sq ob m m∧∀i,i<m->W.cell? ⟨ob,i,none⟩=some (Iq (V i))
theorem WV.below{W W'}{kd}{m}{V}{v}(h:WV W kd m V v)(hb:Below W.heap.size W W'):WV W' kd m V v:=fun a b=>by obtain⟨ob,e,c⟩:=h a b;exact⟨ob,e,fun i hi=>cell_up hb (c i hi)⟩
theorem higher_node{s}{L}{Wd}{H}(hT:Tree s L)(hZ:Sz L Wd H) g cap k (h2:k<L.length) w (hw0:0≤w)(hw1:w≤100000) U (hN:NdsR U g L.length (nth L))(h5:¬(nth L k).kind=5)(KID:Hid (∀j,j<(nth L k).kids.length->∀x,0≤x->x≤100000->∀u,Below U.heap.size U u->Calls prog 11 #[Sq g L.length cap,Iq (kdn (nth L k).kids j:Int),Iq x] u fun e U'=>e=.returned (Iq (H (kdn (nth L k).kids j) x))∧Hid (Below u.heap.size u U'))):
 Calls prog 11 #[Sq g L.length cap,Iq (k:Int),Iq w] U fun e U'=>e=.returned (Iq (H k w))∧Hid (Below U.heap.size U U'):=by
 have hmix:prog.follows .mixedOrders=true:=by kernel_rfl
 have GE:=qH<|greatest_any;have CL:=qH<|rCl_any;obtain⟨ab,kv,hn⟩:=hN.nd k h2;have hnv:=(hT.vl.nv k h2).bd;have htl:=hT.vl.tl k h2;have hsz:=hT.sz;have hcnt:=hT.vl.cnt;have hkl:=hT.kids_le h2;obtain⟨W1,hW1⟩:=nmd (U.alloc (.cells #[Iq ((nth L k).kind:Int),Sq ab 12 12,.string ⟨(nth L k).text.toArray⟩,kv,Iq (nth L k).up] 77));obtain⟨An,hAn⟩:=nmd U.heap.size;have hat:W1.heap[An]?=some (.cells #[Iq ((nth L k).kind:Int),Sq ab 12 12,.string ⟨(nth L k).text.toArray⟩,kv,Iq (nth L k).up] 77 (0,0)):=by rw[<-hW1,<-hAn];exact heap_alloc_new _ _
 have HB1:Hid (Below U.heap.size U W1):=by rw[<-hW1];exact((Gr.refl U).alloc _).below
 have c0:=hn.c0;have c1:=hn.c1;have c2:=hn.c2;have c3:=hn.c3;have c4:=hn.c4;have HAT:Hid (∀u,Below W1.heap.size W1 u->u.cell? ⟨An,0,none⟩=some (Iq ((nth L k).kind:Int))∧u.cell? ⟨An,1,none⟩=some (Sq ab 12 12)∧u.cell? ⟨An,2,none⟩=some (.string ⟨(nth L k).text.toArray⟩)∧u.cell? ⟨An,3,none⟩=some kv∧u.cell? ⟨An,4,none⟩=some (Iq (nth L k).up)):=fun u hu=>by refine⟨?_,?_,?_,?_,?_⟩<;>exact cell_up hu (by rw[Lib.cell_of_heap hat];rfl)
 have HATT:Hid (∀u,Below W1.heap.size W1 u->u.cell? ⟨ab,4,none⟩=some (Iq (atN (nth L k) 4))∧u.cell? ⟨ab,5,none⟩=some (Iq (atN (nth L k) 5))∧u.cell? ⟨ab,6,none⟩=some (Iq (atN (nth L k) 6))∧u.cell? ⟨ab,8,none⟩=some (Iq (atN (nth L k) 8))):=fun u hu=>by have hb:=HB1.trans (hu.mono HB1.size);exact⟨cell_up hb (hn.att 4 (by omega)),cell_up hb (hn.att 5 (by omega)),cell_up hb (hn.att 6 (by omega)),cell_up hb (hn.att 8 (by omega))⟩
 obtain⟨kp,kc,hkv,hki⟩:=hn.kids;subst hkv;have HKI:Hid ((nth L k).kids.length=0∨∃kb ko,kp=some ⟨kb,ko,none⟩∧∀u,Below W1.heap.size W1 u->∀i,i<(nth L k).kids.length->u.cell? ⟨kb,ko+i,none⟩=some (Iq (kdn (nth L k).kids i:Int))):=by
  rcases hki with e|⟨kb,ko,e,_,hc⟩;·exact .inl (by rw[e];rfl)
  ·exact .inr ⟨kb,ko,e,fun u hu i hi=>cell_up (HB1.trans (hu.mono HB1.size)) (hc i hi)⟩
 obtain⟨z0,z1,z2,z3,z4⟩:=HAT W1 (Below.refl _ _);obtain⟨y4,y5,y6,y8⟩:=HATT W1 (Below.refl _ _);have hkN:(k:Int)<(L.length:Int):=by omega
 obtain⟨V,hV,hV0,hV3,hVo,hHe⟩:=wide_ex hT hZ U h2 h5 hw0 hw1;obtain⟨kd,hkd⟩:∃z:Int,((nth L k).kind:Int)=z:=⟨_,rfl⟩;have e5:(kd==5)=false:=by simp;omega
 have HHK:Hid (H k w=cl (rawH kd (atN (nth L k) 4) (atN (nth L k) 5) (atN (nth L k) 6) (fun j=>H (kdn (nth L k).kids j) (V j)) (nth L k).kids.length)):=by rw[hHe,cl_len,<-hkd];exact(rfl:lenI (rawH ((nth L k).kind:Int) _ _ _ _ _)=_)
 have HV0:Hid (kd=0->(nth L k).kids.length=0∨KidSpl L (nth L k).kids (fun j=>Wd (kdn (nth L k).kids j)) w (atN (nth L k) 4) V):=fun q=>hV0 (by omega);have HV3:Hid (kd=3->∀j,V j=max 0 (w-2*(atN (nth L k) 6+atN (nth L k) 5))):=fun q=>hV3 (by omega);have HVo:Hid (kd≠0->kd≠3->∀j,V j=w):=fun q r=>hVo (by omega) (by omega);have HVB:=qH<|hV;have HHB:Hid (∀j,j<(nth L k).kids.length->0≤H (kdn (nth L k).kids j) (V j)∧H (kdn (nth L k).kids j) (V j)≤100000):=fun j hj=>hZ.hb _ _ (kid_lt hT h2 hj).2;have KID2:=qH<|fun j hj u hu=>KID j hj _ (hV j hj).1 (hV j hj).2 u hu;have AC:=qH<|fun u hu=>across_any hT hZ g cap k h2 u (hN.below hu);obtain⟨_,hv4,hv5,hv6,_⟩:=hnv;rw[hkd]at z0 c0 hW1 HAT;generalize(nth L k).text=t at z2 c2 hW1 HAT;generalize(nth L k).up=up at z4 c4 hW1 HAT;generalize atN (nth L k) 4=a4 at y4 HATT HHK hv4 HV0;generalize atN (nth L k) 5=a5 at y5 HATT HHK hv5 HV3;generalize atN (nth L k) 6=a6 at y6 HATT HHK hv6 HV3;generalize(nth L k).kids=ks at z3 c3 hW1 HAT HHK HV0 HVB HHB KID2 HKI hkl AC;obtain⟨hh,hhe⟩:∃z:Nat->Int,(fun j=>H (kdn ks j) (V j))=z:=⟨_,rfl⟩;have hhj:∀j,H (kdn ks j) (V j)=hh j:=fun j=>by rw[<-hhe]
 rw[hhe]at HHK;simp only[hhj]at HHB KID2;obtain⟨m,hm⟩:=nmd ks.length;have SP:Hid (kd=0->∀u,Below U.heap.size U u->Calls prog 34 #[Sq g L.length cap,Iq (k:Int)] u fun e u'=>∃p c,e=.returned (.slice p m c)∧Hid (Below u.heap.size u u')∧Hid (Calls prog 33 #[Iq w,Iq a4,.slice p m c] u' fun e x=>∃v,e=.returned v∧Hid (Below u'.heap.size u' x)∧Hid (WV x kd m V v))):=fun q u hu=>by
  refine(AC u hu).mono ?_;rintro e u' ⟨p,c,rfl,hr,hb⟩;rw[hm]at hr⊢;refine⟨p,c,rfl,hb,?_⟩;rcases hr with h0|⟨b,rfl,hr⟩;·rw[h0];refine(rSplit_zero p c w a4 u').mono ?_;rintro e x ⟨q',rfl,hb'⟩;exact⟨_,rfl,hb',fun _ h=>by omega⟩
  ·by_cases hm0:m=0;·subst hm0;refine(rSplit_zero _ c w a4 u').mono ?_;rintro e x ⟨q',rfl,hb'⟩;exact⟨_,rfl,hb',fun _ h=>by omega⟩
   ·have hsp:=(HV0 q).resolve_left (by omega);unfold KidSpl at hsp;rw[hm]at hsp;refine(rSplit_some m b 0 c _ _ _ w a4 u' hr (by omega) (by omega) V hsp).mono ?_;rintro e x ⟨ob,rfl,_,hf,hb'⟩;exact⟨_,rfl,hb',fun _ _=>⟨ob,rfl,fun i hi=>by have:=(hf.2 i hi).1;rw[Nat.zero_add]at this;exact this⟩⟩
 rw[hm]at z3 c3 hW1 HAT HHK HVB HHB KID2 HKI hkl;obtain⟨hv40,hv41⟩:=hv4;obtain⟨h50,h51⟩:=hv5;obtain⟨h60,h61⟩:=hv6;clear KID HV0 htl hkd hhe hhj hm h5 hV hV0 hV3 hVo hHe AC hki hn hat hN;go_enter func11,ntmps11;go_upto_if 41 with fail;clear c0 c1 c2 c3 c4 hW1 hAn;go_cut[10,41]from 42 to 50 (fun v _ wx=>Hid (Below W1.heap.size W1 wx)∧Hid (WV wx kd m V v));case first=>
  by_cases k0:kd=0
  ·have e0:(kd==0)=true:=by rw[k0];rfl
   have SP2:=qH<|SP k0;have HD:=qH<|HB1.drew;have HE:Hid (Below W1.heap.size W1 W1.drew):=(Below.refl _ _).drew;clear k0 SP;go_wp2_with fail;go_region_held(fun W=>W.cell? ⟨An,1,none⟩=some (Sq ab 12 12)∧W.cell? ⟨ab,4,none⟩=some (Iq a4)) (go_keep) (first
    |(go_at_call 34;refine Calls.mono (SP2 _ HD) ?_;rintro e u5 ⟨p,c,rfl,HB5,HSP⟩;have HF5:=qH<|HE.trans (HB5.mono HE.size);have s1:=(HAT u5 HF5).2.1;have s4:=(HATT u5 HF5).1)
    |(go_at_call 33;refine Calls.mono HSP ?_;rintro e u6 ⟨v6,rfl,HB6,HWV⟩;have HF6:=qH<|HF5.trans (HB6.mono HF5.size);have t1:=(HAT u6 HF6).2.1;have t4:=(HATT u6 HF6).1));all_goals go_wp2_with fail;go_meet;exact⟨HF6,HWV⟩
  ·have e0:(kd==0)=false:=by simp;exact k0
   have HNo:=qH<|k0;clear k0 SP;go_wp2_with fail;go_meet;exact⟨Below.refl _ _,fun q=>absurd q HNo⟩
 case rest=>
  obtain⟨HBC,HWC⟩:=hcut;clear z0 z1 z2 z3 z4 y4 y5 y6 y8 SP;go_wp2;go_loopw[8,9,11] (fun sv bv iv wr=>∃(j:Nat) (sm bg:Int),j≤m∧iv=Iq (j:Int)∧sv=Iq sm∧bv=Iq bg∧0≤sm∧sm≤(j:Int)*100100∧0≤bg∧bg≤100000∧Hid (sm=hS hh j+gapI a4 j∧bg=hG hh j)∧Hid (Below wc.heap.size wc wr)) (fun _ _ iv _=>m-(intOf iv).toNat);case atStart=>exact⟨0,0,0,Nat.zero_le _,rfl,rfl,rfl,by omega,by omega,by omega,by omega,⟨by unfold hS gapI;rw[show max 0 (((0:Nat):Int)-1)=0 by omega,Int.mul_zero];rfl,rfl⟩,Below.refl _ _⟩
  case round=>
   obtain⟨j,sm,bg,hj,rfl,rfl,rfl,hs0,hs1,hg0,hg1,HSG,HBj0⟩:=hrel;have HBj:=qH<|HBC.trans (HBj0.mono HBC.size);have HUj:=qH<|HB1.trans (HBj.mono HB1.size);obtain⟨z0,z1,z2,z3,z4⟩:=HAT wr HBj;obtain⟨y4,y5,y6,y8⟩:=HATT wr HBj;have FR:Hid (∀u,(u=wr∨u=wr.drew)->Calls prog 31 #[.agg #[Iq kd,Sq ab 12 12,.string ⟨t.toArray⟩,.slice kp m kc,Iq up]] u fun e w'=>e=.returned (Iq (a6+a5))∧Hid (Below wr.heap.size wr w')):=fun u hu=>by
    have hbu:Below wr.heap.size wr u:=by
     rcases hu with rfl|rfl;·exact Below.refl _ _
     ·exact(Below.refl _ _).drew
    refine(rframe_any kd ab ⟨t.toArray⟩ (.slice kp m kc) up a5 a6 u (cell_up hbu y5) (cell_up hbu y6) (by omega) (by omega)).mono ?_;rintro e w' ⟨rfl,hb⟩;exact⟨rfl,hbu.trans (hb.mono hbu.size)⟩
   by_cases hlt:j<m
   ·have hlt':(j:Int)<(m:Int):=by omega
    obtain⟨kb,ko,rfl,hkc⟩:=HKI.resolve_left (by omega);have HKC:=qH<|fun u hu=>hkc u hu j hlt;have k0:=HKC wr HBj;have KD0:=KID2 j hlt;have hx:=HHB j hlt;have HNX0:Hid (hS hh (j+1)+gapI a4 (j+1)=hS hh j+hh j+(gapI a4 j+(if 0<j then a4 else 0))∧hG hh (j+1)=max (hG hh j) (hh j)):=⟨by rw[gap_next];rfl,rfl⟩;generalize kdn ks j=cc at HKC k0 KD0;obtain⟨x,hxe⟩:=nmd (hh j);rw[hxe]at hx KD0 HNX0;obtain⟨hx0,hx1⟩:=hx;have HKN:(kd=0∧(kd==0)=true∧(kd==3)=false)∨(kd=3∧(kd==0)=false∧(kd==3)=true)∨((kd≠0∧kd≠3)∧(kd==0)=false∧(kd==3)=false):=by
     by_cases q0:kd=0;·exact .inl ⟨q0,by rw[q0];rfl,by rw[q0];rfl⟩
     ·by_cases q3:kd=3;·exact .inr (.inl ⟨q3,by rw[q3];rfl,by rw[q3];rfl⟩)
      ·exact .inr (.inr ⟨⟨q0,q3⟩,by simpa using q0,by simpa using q3⟩)
    obtain⟨vj,HWX,KD⟩:∃vj,Hid ((kd=0∧∃ob,u10=Sq ob m m∧wr.cell? ⟨ob,j,none⟩=some (Iq vj))∨(kd=3∧vj=max 0 (w-2*(a6+a5)))∨((kd≠0∧kd≠3)∧vj=w))∧Hid (∀u,Below U.heap.size U u->Calls prog 11 #[Sq g L.length cap,Iq (cc:Int),Iq vj] u fun e U'=>e=.returned (Iq x)∧Hid (Below u.heap.size u U')):=by
     refine⟨V j,?_,KD0⟩;rcases HKN with⟨q,_⟩|⟨q,_⟩|⟨q,_⟩;·obtain⟨ob,e,hc⟩:=(HWC.below HBj0) q (by omega);exact .inl ⟨q,ob,e,hc j hlt⟩
     ·exact .inr (.inl ⟨q,HV3 q j⟩)
     ·exact .inr (.inr ⟨q,HVo q.1 q.2 j⟩)
    obtain⟨gv,hgv,HNX⟩:∃gv,((0<j∧(0:Int)<(j:Int)∧gv=a4)∨(¬0<j∧¬(0:Int)<(j:Int)∧gv=0))∧Hid (sm+x+gv=hS hh (j+1)+gapI a4 (j+1)∧max bg x=hG hh (j+1)):=by
     obtain⟨e1,e2⟩:=HSG.out;obtain⟨f1,f2⟩:=HNX0.out;by_cases hj0:0<j;·rw[if_pos hj0]at f1;exact⟨a4,.inl ⟨hj0,by omega,rfl⟩,by omega,by rw[f2,<-e2]⟩
     ·rw[if_neg hj0]at f1;exact⟨0,.inr ⟨hj0,by omega,rfl⟩,by omega,by rw[f2,<-e2]⟩
    clear hkc hxe HNX0 HSG KD0 HWC HVB HHB KID2;rcases HKN with⟨q,e0,e3⟩|⟨q,e0,e3⟩|⟨q,e0,e3⟩
    ·obtain⟨ob,hub,w9⟩:∃ob,u10=Sq ob m m∧wr.cell? ⟨ob,j,none⟩=some (Iq vj):=by
      rcases HWX.out with h|h|h;·exact h.2
      ·omega
      ·omega
     subst hub;clear HWX q;rcases hgv with⟨hj0,hj0',hq⟩|⟨hj0,hj0',hq⟩;all_goals
      obtain rfl:=hq.symm;go_wp2_with(first
       |(go_at_call 31;refine(FR _ (by first|exact .inl rfl|exact .inr rfl)).mono ?_;rintro e u7 ⟨rfl,HB7⟩;have HC7:Hid (Below wc.heap.size wc u7):=HBj0.trans (HB7.mono HBj0.size);have HW7:Hid (Below W1.heap.size W1 u7):=HBC.trans (HC7.mono HBC.size);have HU7:Hid (Below U.heap.size U u7):=HB1.trans (HW7.mono HB1.size);have r3:=(HAT u7 HW7).2.2.2.1;have r5:=HKC u7 HW7)
       |(go_at_call 11;(with_reducible refine Calls.mono (KD.out _ HUj.out) ?_);rintro e u5 ⟨rfl,HB5⟩;have HC5:=qH<|HBj0.out.trans (HB5.out.mono HBj0.out.size);have HW5:=qH<|HBC.out.trans (HC5.out.mono HBC.out.size);have q1:=(HAT.out u5 HW5.out).2.1;have q4:=(HATT.out u5 HW5.out).1)
       |(go_at_call 11;(with_reducible refine Calls.mono (KD.out _ HU7.out) ?_);rintro e u5 ⟨rfl,HB5⟩;have HC5:Hid (Below wc.heap.size wc u5):=HC7.out.trans (HB5.out.mono HC7.out.size);have HW5:Hid (Below W1.heap.size W1 u5):=HBC.out.trans (HC5.out.mono HBC.out.size);have q1:=(HAT.out u5 HW5.out).2.1;have q4:=(HATT.out u5 HW5.out).1)
       |(go_at_call 28;refine(GE _ _ _).mono ?_;rintro e u6 ⟨rfl,h6⟩;obtain rfl:=h6.symm));go_roundw;case rel=>first
       |exact⟨j+1,sm+x+a4,max bg x,by omega,by go_num,by go_num,rfl,by omega,by push_cast;omega,by omega,by omega,HNX,HC5⟩
       |exact⟨j+1,sm+x,max bg x,by omega,by go_num,by go_num,rfl,by omega,by push_cast;omega,by omega,by omega,⟨by have:=HNX.1;omega,HNX.2⟩,HC5⟩
      case measure=>simp[intOf];omega
    ·obtain rfl:vj=max 0 (w-2*(a6+a5)):=by
      rcases HWX.out with h|h|h;·omega
      ·exact h.2
      ·omega
     clear HWX q;rcases hgv with⟨hj0,hj0',hq⟩|⟨hj0,hj0',hq⟩;all_goals
      obtain rfl:=hq.symm;go_wp2_with(first
       |(go_at_call 31;refine(FR _ (by first|exact .inl rfl|exact .inr rfl)).mono ?_;rintro e u7 ⟨rfl,HB7⟩;have HC7:=qH<|HBj0.trans (HB7.mono HBj0.size);have HW7:=qH<|HBC.trans (HC7.mono HBC.size);have HU7:=qH<|HB1.trans (HW7.mono HB1.size);have r3:=(HAT u7 HW7).2.2.2.1;have r5:=HKC u7 HW7)
       |(go_at_call 11;(with_reducible refine Calls.mono (KD.out _ HUj.out) ?_);rintro e u5 ⟨rfl,HB5⟩;have HC5:Hid (Below wc.heap.size wc u5):=HBj0.out.trans (HB5.out.mono HBj0.out.size);have HW5:Hid (Below W1.heap.size W1 u5):=HBC.out.trans (HC5.out.mono HBC.out.size);have q1:=(HAT.out u5 HW5.out).2.1;have q4:=(HATT.out u5 HW5.out).1)
       |(go_at_call 11;(with_reducible refine Calls.mono (KD.out _ HU7.out) ?_);rintro e u5 ⟨rfl,HB5⟩;have HC5:=qH<|HC7.out.trans (HB5.out.mono HC7.out.size);have HW5:=qH<|HBC.out.trans (HC5.out.mono HBC.out.size);have q1:=(HAT.out u5 HW5.out).2.1;have q4:=(HATT.out u5 HW5.out).1)
       |(go_at_call 28;refine(GE _ _ _).mono ?_;rintro e u6 ⟨rfl,h6⟩;obtain rfl:=h6.symm));go_roundw;case rel=>first
       |exact⟨j+1,sm+x+a4,max bg x,by omega,by go_num,by go_num,rfl,by omega,by push_cast;omega,by omega,by omega,HNX,HC5⟩
       |exact⟨j+1,sm+x,max bg x,by omega,by go_num,by go_num,rfl,by omega,by push_cast;omega,by omega,by omega,⟨by have:=HNX.1;omega,HNX.2⟩,HC5⟩
      case measure=>simp[intOf];omega
    ·obtain rfl:vj=w:=by
      rcases HWX.out with h|h|h;·omega
      ·omega
      ·exact h.2
     clear HWX q;rcases hgv with⟨hj0,hj0',hq⟩|⟨hj0,hj0',hq⟩;all_goals
      obtain rfl:=hq.symm;go_wp2_with(first
       |(go_at_call 31;refine(FR _ (by first|exact .inl rfl|exact .inr rfl)).mono ?_;rintro e u7 ⟨rfl,HB7⟩;have HC7:Hid (Below wc.heap.size wc u7):=HBj0.trans (HB7.mono HBj0.size);have HW7:Hid (Below W1.heap.size W1 u7):=HBC.trans (HC7.mono HBC.size);have HU7:Hid (Below U.heap.size U u7):=HB1.trans (HW7.mono HB1.size);have r3:=(HAT u7 HW7).2.2.2.1;have r5:=HKC u7 HW7)
       |(go_at_call 11;(with_reducible refine Calls.mono (KD.out _ HUj.out) ?_);rintro e u5 ⟨rfl,HB5⟩;have HC5:=qH<|HBj0.out.trans (HB5.out.mono HBj0.out.size);have HW5:=qH<|HBC.out.trans (HC5.out.mono HBC.out.size);have q1:=(HAT.out u5 HW5.out).2.1;have q4:=(HATT.out u5 HW5.out).1)
       |(go_at_call 11;(with_reducible refine Calls.mono (KD.out _ HU7.out) ?_);rintro e u5 ⟨rfl,HB5⟩;have HC5:Hid (Below wc.heap.size wc u5):=HC7.out.trans (HB5.out.mono HC7.out.size);have HW5:Hid (Below W1.heap.size W1 u5):=HBC.out.trans (HC5.out.mono HBC.out.size);have q1:=(HAT.out u5 HW5.out).2.1;have q4:=(HATT.out u5 HW5.out).1)
       |(go_at_call 28;refine(GE _ _ _).mono ?_;rintro e u6 ⟨rfl,h6⟩;obtain rfl:=h6.symm));go_roundw;case rel=>first
       |exact⟨j+1,sm+x+a4,max bg x,by omega,by go_num,by go_num,rfl,by omega,by push_cast;omega,by omega,by omega,HNX,HC5⟩
       |exact⟨j+1,sm+x,max bg x,by omega,by go_num,by go_num,rfl,by omega,by push_cast;omega,by omega,by omega,⟨by have:=HNX.1;omega,HNX.2⟩,HC5⟩
      case measure=>simp[intOf];omega
   ·have hlt':¬(j:Int)<(m:Int):=by omega
    obtain rfl:j=m:=by omega
    by_cases k1:kd=1
    ·have e1:(kd==1)=true:=by rw[k1];rfl
     have HF:Hid (H k w=cl sm):=by rw[HHK.out];unfold rawH;rw[if_pos k1,<-HSG.1];exact(rfl:cl sm=cl sm)
     clear k1;go_wp2_with(go_at_call 30;refine(CL _ _).mono ?_;rintro e u6 ⟨rfl,h6⟩;obtain rfl:=h6.symm);go_ret;exact⟨by rw[HF.out];rfl,HUj⟩
    ·have e1:(kd==1)=false:=by simp;exact k1
     by_cases k3:kd=3
     ·have e3:(kd==3)=true:=by rw[k3];rfl
      have HF:Hid (H k w=cl (bg+2*(a6+a5))):=by rw[HHK.out];unfold rawH frmI;rw[if_neg k1,if_pos k3,<-HSG.2];exact(rfl:cl (bg+2*(a6+a5))=_)
      clear k1 k3;go_wp2_with(first|(go_at_call 30;refine(CL _ _).mono ?_;rintro e u6 ⟨rfl,h6⟩;obtain rfl:=h6.symm)|(go_at_call 31;refine(FR _ (by first|exact .inl rfl|exact .inr rfl)).mono ?_;rintro e u7 ⟨rfl,HB7⟩));go_ret;exact⟨by rw[HF.out];rfl,HUj.trans (HB7.mono HUj.size)⟩
     ·have e3:(kd==3)=false:=by simp;exact k3
      have HF:Hid (H k w=cl bg):=by rw[HHK.out];unfold rawH frmI;rw[if_neg k1,if_neg k3,<-HSG.2,Int.mul_zero,Int.add_zero];exact(rfl:cl bg=cl bg)
      clear k1 k3;go_wp2_with(go_at_call 30;refine(CL _ _).mono ?_;rintro e u6 ⟨rfl,h6⟩;obtain rfl:=h6.symm);go_ret;exact⟨by rw[HF.out];rfl,HUj⟩
