import Derived.Test.YtbeiapdobffpiaaGreatDoorQ39
import Derived.Test.YtbeiapdobffpiaaGreatDoorQ41
set_option linter.all false
set_option maxRecDepth 100000
set_option maxHeartbeats 16000000
namespace Go.Proofs.YtbeiapdobffpiaaGreatDoor
open Go.RowKit Go.Sort Go.Proofs.Tryz
def Z'(kd:Int)(ab:Nat)(tx:ByteArray)(kv:Value)(up:Int):Value:=.agg #[Iq kd,Sq ab 12 12,.string tx,kv,Iq up]
theorem ip.opens{U:World}{g n:Nat}{L:Nat->Nd}(hN:ip U g n L){k:Nat}(hk:k<n):∃ab kp kc W1 An,U.alloc (.cells #[Iq ((L k).kind:Int),Sq ab 12 12,.string ⟨(L k).text.toArray⟩,.slice kp (L k).kids.length kc,Iq (L k).up] 107)=W1/\U.heap.size=An/\Hid (Bt U W1)/\(U.cell? (az g (k*5))=some (Iq ((L k).kind:Int))/\U.cell? (az g (k*5+1))=some (Sq ab 12 12)/\U.cell? (az g (k*5+2))=some (.string ⟨(L k).text.toArray⟩)/\U.cell? (az g (k*5+3))=some (.slice kp (L k).kids.length kc)/\U.cell? (az g (k*5+4))=some (Iq (L k).up))/\Hid (∀u,Bt W1 u->u.cell? (az An 0)=some (Iq ((L k).kind:Int))/\u.cell? (az An 1)=some (Sq ab 12 12)/\u.cell? (az An 2)=some (.string ⟨(L k).text.toArray⟩)/\u.cell? (az An 3)=some (.slice kp (L k).kids.length kc)/\u.cell? (az An 4)=some (Iq (L k).up))/\Hid (∀u,Bt W1 u->u.cell? (az ab 4)=some (Iq (aC (L k) 4))/\u.cell? (az ab 5)=some (Iq (aC (L k) 5))/\u.cell? (az ab 6)=some (Iq (aC (L k) 6))/\u.cell? (az ab 8)=some (Iq (aC (L k) 8)))/\Hid ((L k).kids.length=0\/∃kb ko,kp=some (az kb ko)/\∀u,Bt W1 u->∀i,i<(L k).kids.length->u.cell? (az kb (ko+i))=some (Iq (aP (L k).kids i:Int))):=by
 obtain⟨ab,kv,hn⟩:=hN.nd k hk;obtain⟨kp,kc,uJ,oU⟩:=hn.kids;subst uJ;obtain⟨W1,cE⟩:=aj (U.alloc (.cells #[Iq ((L k).kind:Int),Sq ab 12 12,.string ⟨(L k).text.toArray⟩,.slice kp (L k).kids.length kc,Iq (L k).up] 107));have bY:=heap_alloc_new U (.cells #[Iq ((L k).kind:Int),Sq ab 12 12,.string ⟨(L k).text.toArray⟩,.slice kp (L k).kids.length kc,Iq (L k).up] 107);have HB1:Bt U W1:=by rw[<-cE];exact((Gr.refl U).alloc _).below
 rw[cE]at bY;refine⟨ab,kp,kc,W1,_,cE,rfl,HB1,⟨hn.c0,hn.c1,hn.c2,hn.c3,hn.c4⟩,fun u hu=>?_,fun u hu=>?_,?_⟩;·refine⟨?_,?_,?_,?_,?_⟩<;>exact aN hu (by rw[Lib.cell_of_heap bY];rfl)
 ·have hb:=HB1.trans (hu.mono HB1.size);exact⟨aN hb (hn.att 4 (by omega)),aN hb (hn.att 5 (by omega)),aN hb (hn.att 6 (by omega)),aN hb (hn.att 8 (by omega))⟩
 ·rcases oU with e|⟨kb,ko,e,_,hc⟩;·exact .inl (by rw[e];rfl)
  ·exact .inr ⟨kb,ko,e,fun u hu i hi=>aN (HB1.trans (hu.mono HB1.size)) (hc i hi)⟩
theorem wk  x  :cl x=bT x:=by grind[cl,bT]
theorem mP(kd:Int)(ab:Nat)(tx:ByteArray)(kv:Value)(up a5 a6:Int)(w:World)(c5:w.cell? (az ab 5)=some (Iq a5))(c6:w.cell? (az ab 6)=some (Iq a6))(h5:0<=a5/\a5<=1000000)(h6:0<=a6/\a6<=1000000):
 Cw 118 #[Z' kd ab tx kv up] w fun e w'=>e=Rw (Iq (a6+a5))/\Hid (Bt w w'):=by
 have oV:prog.follows .mixedOrders=true:=by kernel_rfl
 unfold Z';obtain⟨h50,h51⟩:=h5;obtain⟨h60,h61⟩:=h6;obtain⟨W1,cE⟩:=aj (w.alloc (.cells #[Iq kd,Sq ab 12 12,.string tx,kv,Iq up] 107));obtain⟨An,hAn⟩:=aj w.heap.size;have bY:W1.heap[An]?=some (.cells #[Iq kd,Sq ab 12 12,.string tx,kv,Iq up] 107 (0,0)):=by rw[<-cE,<-hAn];exact heap_alloc_new _ _
 have HB1:Hid (Bt w W1):=by rw[<-cE];exact((Gr.refl w).alloc _).below
 have d5:=aN HB1 c5;have d6:=aN HB1 c6;have d1:W1.cell? (az An 1)=some (Sq ab 12 12):=by rw[Lib.cell_of_heap bY];rfl
 have HBS:=qH<|hAn;clear c5 c6 bY;go_enter func118,ntmps118;go_wp2_with fail;go_quiet(fail);go_wp2;go_ret;exact⟨rfl,cI HB1 _⟩
theorem Lv{w:World}{B}{t}{a0 a1 a2 b0 b1 b2}(h:w.heap[B]?=some (.cells #[a0,a1,a2] t (0,0))):
 (((w.setCell (az B 0) b0).setCell (az B 1) b1).setCell (az B 2) b2).heap[B]?=some (.cells #[b0,b1,b2] t (0,0)):=by rw[heap_setCell_same _ _ _ _ _ _ (heap_setCell_same _ _ _ _ _ _ (heap_setCell_same _ _ _ _ _ _ h))];rfl
def oq(a1 a2 a3 x:Int):Int:=if a3=0 then max a1 (if 0<=a2 then min x a2 else x)else a1
theorem L4  d   x  :oq (aC d 1) (aC d 2) (aC d 3) x=ti d x:=by
 unfold oq ti nK;split
 ·by_cases h:aC d 2<0;·rw[if_pos h,if_neg (by omega)]
  ·rw[if_neg h,if_pos (by omega)]
 ·rfl
theorem Hg(kd:Int)(ab:Nat)(tx:ByteArray)(kv:Value)(up a1 a2 a3 x:Int)(w:World)(c1:w.cell? (az ab 1)=some (Iq a1))(c2:w.cell? (az ab 2)=some (Iq a2))(c3:w.cell? (az ab 3)=some (Iq a3)):
 Cw 160 #[Z' kd ab tx kv up,Iq x] w fun e w'=>e=Rw (.agg #[Iq (oq a1 a2 a3 x),Iq a2,Iq a3])/\Hid (Bt w w'):=by
 have oV:prog.follows .mixedOrders=true:=by kernel_rfl
 unfold Z';have LE:=qH<|least_any;have GE:=qH<|greatest_any;obtain⟨W1,cE⟩:=aj ((w.alloc (.cells #[Iq kd,Sq ab 12 12,.string tx,kv,Iq up] 107)).alloc (.cells #[Iq 0,Iq 0,Iq 0] 254));obtain⟨An,hAn⟩:=aj w.heap.size;obtain⟨Aw,hAw⟩:=aj (An+1);have Gy:(w.alloc (.cells #[Iq kd,Sq ab 12 12,.string tx,kv,Iq up] 107)).heap.size=Aw:=by rw[aO,hAn];exact hAw
 have bY:W1.heap[An]?=some (.cells #[Iq kd,Sq ab 12 12,.string tx,kv,Iq up] 107 (0,0)):=by rw[<-cE,<-hAn,fC _ _ _ (by rw[aO];omega)];exact heap_alloc_new _ _
 have hatw:W1.heap[Aw]?=some (.cells #[Iq 0,Iq 0,Iq 0] 254 (0,0)):=by rw[<-cE,<-Gy];exact heap_alloc_new _ _
 have HB1:Hid (Bt w W1):=by rw[<-cE];exact(((Gr.refl w).alloc _).alloc _).below
 have d1:=aN HB1 c1;have d2:=aN HB1 c2;have d3:=aN HB1 c3;have hab:ab<An:=by rw[<-hAn];exact ln w _ c1
 have dn:W1.cell? (az An 1)=some (Sq ab 12 12):=by rw[Lib.cell_of_heap bY];rfl
 have Xq:∀j,W1.frozen? (az Aw j)=false:=fun j=>frozen_of_row _ _ _ _ _ hatw;have w0:W1.cell? (az Aw 0)=some (Iq 0):=by rw[Lib.cell_of_heap hatw];rfl
 have w1:W1.cell? (az Aw 1)=some (Iq 0):=by rw[Lib.cell_of_heap hatw];rfl
 have w2:W1.cell? (az Aw 2)=some (Iq 0):=by rw[Lib.cell_of_heap hatw];rfl
 have hWl:W1.heap.size=Aw+1:=by rw[<-cE,aO,Gy]
 have BN:Hid (∀a b c,Bt w (((W1.setCell (az Aw 0) a).setCell (az Aw 1) b).setCell (az Aw 2) c)):=fun a b c=>((HB1.setCell (by show w.heap.size<=Aw;omega) _).setCell (by show w.heap.size<=Aw;omega) _).setCell (by show w.heap.size<=Aw;omega) _;have HAW:=qH<|hatw;clear c1 c2 c3 bY hatw;go_enter func160,ntmps160;by_cases q3:a3=0
 ·have e3:(a3==0)=true:=by rw[q3];rfl
  by_cases q2:0<=a2;focus
   have e2:=decide_eq_true q2;have HM:Hid (oq a1 a2 a3 x=max a1 (min x a2)):=by unfold oq;rw[if_pos q3,if_pos q2];exact(rfl:max a1 (min x a2)=max a1 (min x a2))
   clear q3
  rotate_left;focus
   have e2:=decide_eq_false q2;have HM:Hid (oq a1 a2 a3 x=max a1 x):=by unfold oq;rw[if_pos q3,if_neg q2];exact(rfl:max a1 x=max a1 x)
   clear q3 q2
  rotate_left;all_goals go_wp2_with(first|(go_at_call 122;refine(LE _ _ _).mono ?_;rintro e u5 ⟨rfl,h5⟩;obtain rfl:=h5.symm)|(go_at_call 119;refine(GE _ _ _).mono ?_;rintro e u6 ⟨rfl,h6⟩;obtain rfl:=h6.symm));go_region;all_goals go_wp2;refine bodyPost_ret (results_cell_row rfl _ _ Aw _ _ _ _ rfl (Lv HAW) underlying254 rfl (by kernel_rfl)) rfl ?_;exact⟨by rw[HM.out],(BN _ _ _).drew⟩
 ·have e3:(a3==0)=false:=by simp;exact q3
  have HM:Hid (oq a1 a2 a3 x=a1):=by unfold oq;rw[if_neg q3];exact(rfl:a1=a1)
  clear q3;go_wp2_with(first|(go_at_call 122;refine(LE _ _ _).mono ?_;rintro e u5 ⟨rfl,h5⟩;obtain rfl:=h5.symm)|(go_at_call 119;refine(GE _ _ _).mono ?_;rintro e u6 ⟨rfl,h6⟩;obtain rfl:=h6.symm));go_region;all_goals go_wp2;refine bodyPost_ret (results_cell_row rfl _ _ Aw _ _ _ _ rfl (Lv HAW) underlying254 rfl (by kernel_rfl)) rfl ?_;exact⟨by rw[HM.out],(BN _ _ _).drew⟩
theorem yF  a   i  :fW a (i+1)=fW a i+(if 0<i then a else 0):=by grind[fW]
def pK(t:List UInt8)(j:Nat):Int:=K1 (((bQ t).take j).map mh)
theorem bigTo_next{t}{j}{x}(h:(bQ t)[j]?=some x):pK t (j+1)=max (pK t j) (mh x):=by unfold pK;rw[List.take_add_one,h,li];exact zG _ _
theorem FK  t  :pK t (bQ t).length=ue t:=by grind[pK,ue]
theorem Le{t x}:∀{j:Nat},(bQ t)[j]?=some x->x.length<=t.length:=by
 induction t generalizing x with
 |nil=>intro j h;cases j with
  |zero=>simp[bQ]at h;subst h;exact ai _
  |succ j=>simp[bQ]at h
 |cons c t ih=>
  intro j h;unfold bQ at h;by_cases e:c=10;·rw[if_pos e]at h;cases j with
   |zero=>simp at h;subst h;simp
   |succ j=>simp at h;have:=ih h;simp;omega
  ·rw[if_neg e]at h;revert h;split;·intro h;cases j with
    |zero=>simp at h;subst h;simp
    |succ j=>simp at h
   ·rename_i p ps hp;intro h;cases j with
    |zero=>simp at h;subst h;have:=ih (x:=p) (j:=0) (by rw[hp];rfl);simp;omega
    |succ j=>simp at h;have:=ih (x:=x) (j:=j+1) (by rw[hp];simpa using h);simp;omega
theorem vp{s:ByteArray}{L:List Nd}{Wd:Nat->Int}{H:Nat->Int->Int}(hT:dk s L)(hZ:Sz L Wd H)(g al:Nat):∀f k,L.length<=k+f->k<L.length->∀U,ip U g L.length (ae L)->
 Cw 161 #[Sq g L.length al,Iq (k:Int)] U fun e U'=>e=Rw (Iq (Wd k))/\Hid (Bt U U')
 |0,k,h1,h2,U,hN=>by omega
 |f+1,k,h1,h2,U,hN=>by
  have oV:prog.follows .mixedOrders=true:=by kernel_rfl
  have BR:Hid (∀j,j<(ae L k).kids.length->∀u,Bt U u->Cw 161 #[Sq g L.length al,Iq (aP (ae L k).kids j:Int)] u fun e U'=>e=Rw (Iq (Wd (aP (ae L k).kids j)))/\Hid (Bt u U')):=fun j hj u hu=>by have:=de hT h2 hj;exact vp hT hZ g al f _ (by omega) this.2 u (hN.below hu)
  have GE:=qH<|greatest_any;have CL:=qH<|rCl_any;obtain⟨ab,kp,kc,W1,An,cE,hAn,HB1,⟨c0,c1,c2,c3,c4⟩,cH,gd,Nh⟩:=hN.opens h2;have kJ:=(hT.vl.nv k h2).bd;have zj:=hT.vl.tl k h2;have fT:=hT.sz;have hw:=hZ.w k h2;have kH:=hT.vl.cnt;have dD:=hT.kids_le h2;have MJ:Hid (∀j,j<(ae L k).kids.length->0<=Wd (aP (ae L k).kids j)/\Wd (aP (ae L k).kids j)<=100000):=fun j hj=>hZ.wb _ (de hT h2 hj).2;obtain⟨z0,z1,z2,z3,z4⟩:=cH W1 (ag _ _);have U8:(k:Int)<(L.length:Int):=by omega
  clear hN;by_cases h5:(ae L k).kind=5
  ·have NB:Hid (Wd k=cl (ue (ae L k).text)):=by rw[hw,wk];unfold nP;rw[if_pos h5];exact(rfl:bT (ue (ae L k).text)=_)
   rw[h5,show((5:Nat):Int)=5 from rfl]at z0 c0 cE;generalize(ae L k).text=t at z2 c2 cE zj NB;generalize(ae L k).up=up at z4 c4 cE;generalize(ae L k).kids.length=m at z3 c3 cE;have PG:Hid (∀u,Cw 165 #[.string ⟨t.toArray⟩] u fun e u'=>Qu u u' t e):=fun u=>by have:=kU ⟨t.toArray⟩ u (by show t.toArray.size<=_;simp;omega);simpa using this
   have CO:Hid (∀(x:List UInt8),x.length<=4000->∀u,Cw 190 #[.string ⟨x.toArray⟩] u fun e u'=>e=Rw (Iq (mh x))/\Hid (Bt u u')):=fun x hx u=>by have:=xh ⟨x.toArray⟩ u (by show x.toArray.size<=_;simp;omega);simpa[Hid,mh]using this
   have Y2:Hid (t.length<=4000):=by show _<=_;omega
   clear BR Nh gd MJ zj hw kJ;go_enter func161,ntmps161;go_wp2_with(go_at_call 165;refine(PG _).mono ?_;rintro e U2 ⟨p,c,rfl,hst,hb2⟩);obtain⟨b,rfl,tN,hbc⟩:=hst;have HST:=qH<|hbc;have HB2:=qH<|hb2;obtain⟨n,hn⟩:=aj ((bQ t).length);have HN:=qH<|hn;have hnb:n<=4001:=by have:=im t;have:=MC (a:=(10:UInt8)) (l:=t);have:=Y2.out;omega
   rw[hn];clear hn hbc hb2 tN;go_loopw[7,9] (fun bv iv wr=>∃j:Nat,j<=n/\iv=Iq (j:Int)/\bv=Iq (pK t j)/\Hid (Bt U2 wr)) (fun _ iv _=>n-(intOf iv).toNat);case atStart=>exact⟨0,bc _,rfl,rfl,ag _ _⟩
   case round=>
    obtain⟨j,hj,rfl,rfl,HBj⟩:=hrel;by_cases hlt:j<n
    ·have aK:(j:Int)<(n:Int):=by omega
     obtain⟨x,hx⟩:∃x,(bQ t)[j]?=some x:=⟨_,dN (by have:=HN.out;omega)⟩;have y0:=aN HBj (HST j x hx);have Vj:=Le hx;have CO2:=qH<|CO x (by have:=Y2.out;omega);have HNX:=qH<|bigTo_next hx;generalize pK t j=bg at HNX;clear hx Vj;go_wp2_with(first|(go_at_call 190;refine(CO2 _).mono ?_;rintro e u5 ⟨rfl,kg⟩)|(go_at_call 119;refine(GE _ _ _).mono ?_;rintro e u6 ⟨rfl,h6⟩;obtain rfl:=h6.symm));go_roundw;case rel=>exact⟨j+1,by omega,by go_num,by rw[HNX.out],HBj.trans (kg.mono HBj.size)⟩
     case measure=>simp[intOf];omega
    ·have aK:¬(j:Int)<(n:Int):=by omega
     obtain rfl:j=n:=by omega
     have _o:Hid (pK t j=ue t):=by have:=FK t;rw[HN.out]at this;exact this
     go_wp2_with(go_at_call 162;refine(CL _ _).mono ?_;rintro e u6 ⟨rfl,h6⟩;obtain rfl:=h6.symm);go_ret;refine⟨by rw[NB.out,<-_o.out];rfl,?_⟩;have a1:=HB1.trans (HB2.mono HB1.size);exact a1.trans (HBj.mono a1.size)
  ·obtain⟨kd,hkd⟩:∃z:Int,((ae L k).kind:Int)=z:=⟨_,rfl⟩;have NB:Hid (Wd k=cl (nW kd (aC (ae L k) 4) (aC (ae L k) 5) (aC (ae L k) 6) (fun j=>Wd (aP (ae L k).kids j)) (ae L k).kids.length)):=by rw[hw,wk,<-hkd];unfold nP;rw[if_neg h5];exact(rfl:bT (nW ((ae L k).kind:Int) _ _ _ _ _)=_)
   have e5:(kd==5)=false:=by simp;omega
   have RL:=qH<|hkd;obtain⟨_,Tp,Tq,Tr,_⟩:=kJ;obtain⟨a4,SF⟩:=aj (aC (ae L k) 4);obtain⟨a5,Zy⟩:=aj (aC (ae L k) 5);obtain⟨a6,Zz⟩:=aj (aC (ae L k) 6);obtain⟨hh,MX⟩:∃z:Nat->Int,(fun j=>Wd (aP (ae L k).kids j))=z:=⟨_,rfl⟩;have UZ:∀j,Wd (aP (ae L k).kids j)=hh j:=fun j=>by rw[<-MX]
   rw[SF,Zy,Zz,MX]at NB;rw[SF,Zy,Zz]at gd;rw[SF]at Tp;rw[Zy]at Tq;rw[Zz]at Tr;rw[hkd]at z0 c0 cE cH;have RZ:Hid (∀j,j<(ae L k).kids.length->0<=hh j/\hh j<=100000):=fun j hj=>by rw[<-UZ];exact MJ j hj
   have vR:Hid (∀j,j<(ae L k).kids.length->∀u,Bt U u->Cw 161 #[Sq g L.length al,Iq (aP (ae L k).kids j:Int)] u fun e U'=>e=Rw (Iq (hh j))/\Hid (Bt u U')):=fun j hj u hu=>by rw[<-UZ];exact BR j hj u hu
   generalize(ae L k).text=t at z2 c2 cE cH;generalize(ae L k).up=up at z4 c4 cE cH;generalize(ae L k).kids=ks at z3 c3 cE cH NB RZ vR Nh dD;obtain⟨m,hm⟩:=aj ks.length;rw[hm]at z3 c3 cE cH NB RZ vR Nh dD;clear BR MJ zj hw hkd MX UZ SF Zy Zz hm h5;obtain⟨zcV,zcW⟩:=Tp;have HB1':=HB1;go_enter func161,ntmps161;go_wp2;clear z0 z1 z2 z3 z4 c0 c1 c2 c3 c4 cE hAn;go_loopw[6,7,10] (fun sv bv iv wr=>∃(j:Nat) (sm bg:Int),j<=m/\iv=Iq (j:Int)/\sv=Iq sm/\bv=Iq bg/\0<=sm/\sm<=(j:Int)*100100/\0<=bg/\bg<=100000/\Hid (sm=hS hh j+fW a4 j/\bg=hG hh j)/\Hid (Bt W1 wr)) (fun _ _ iv _=>m-(intOf iv).toNat);case atStart=>exact⟨0,0,0,bc _,rfl,rfl,rfl,by omega,by omega,by omega,by omega,⟨by unfold hS fW;rw[show max 0 (((0:Nat):Int)-1)=0 by omega,Fi];rfl,rfl⟩,ag _ _⟩
   case round=>
    obtain⟨j,sm,bg,hj,rfl,rfl,rfl,Gy,hs1,Xr,wN,FB,HBj⟩:=hrel;obtain⟨z0,z1,z2,z3,z4⟩:=cH wr HBj;by_cases hlt:j<m
    ·have aK:(j:Int)<(m:Int):=by omega
     obtain⟨kb,ko,rfl,Cx⟩:=Nh.resolve_left (by omega);have k0:=Cx wr HBj j hlt;have KD:=vR j hlt;have hx:=RZ j hlt;have vO:Hid (hS hh (j+1)+fW a4 (j+1)=hS hh j+hh j+(fW a4 j+(if 0<j then a4 else 0))/\hG hh (j+1)=max (hG hh j) (hh j)):=⟨by rw[yF];rfl,rfl⟩;generalize aP ks j=cc at k0 KD;have KD:=qH<|KD;obtain⟨x,Io⟩:=aj (hh j);rw[Io]at hx KD vO;obtain⟨xS,qG⟩:=hx;clear Cx Io;by_cases OI:0<j
     ·have S6:(0:Int)<(j:Int):=by omega
      have HNX:Hid (sm+x+a4=hS hh (j+1)+fW a4 (j+1)/\max bg x=hG hh (j+1)):=by obtain⟨e1,e2⟩:=FB.out;obtain⟨f1,f2⟩:=vO.out;rw[if_pos OI]at f1;exact⟨by omega,by rw[f2,<-e2]⟩
      clear vO FB;go_wp2_with(first|(go_at_call 161;refine(KD _ (HB1.trans (HBj.mono HB1.size))).mono ?_;rintro e u5 ⟨rfl,kg⟩;have rk:=qH<|HBj.trans (kg.mono HBj.size);have q1:=(cH u5 rk).2.1;have q4:=(gd u5 rk).1)|(go_at_call 119;refine(GE _ _ _).mono ?_;rintro e u6 ⟨rfl,h6⟩;obtain rfl:=h6.symm));go_roundw;case rel=>exact⟨j+1,sm+x+a4,max bg x,by omega,by go_num,by go_num,rfl,by omega,by push_cast;omega,by omega,by omega,HNX,rk⟩
      case measure=>simp[intOf];omega
     ·have S6:¬(0:Int)<(j:Int):=by omega
      have HNX:Hid (sm+x=hS hh (j+1)+fW a4 (j+1)/\max bg x=hG hh (j+1)):=by obtain⟨e1,e2⟩:=FB.out;obtain⟨f1,f2⟩:=vO.out;rw[if_neg OI]at f1;exact⟨by omega,by rw[f2,<-e2]⟩
      clear vO FB;go_wp2_with(first|(go_at_call 161;refine(KD _ (HB1.trans (HBj.mono HB1.size))).mono ?_;rintro e u5 ⟨rfl,kg⟩;have rk:=qH<|HBj.trans (kg.mono HBj.size);have q1:=(cH u5 rk).2.1;have q4:=(gd u5 rk).1)|(go_at_call 119;refine(GE _ _ _).mono ?_;rintro e u6 ⟨rfl,h6⟩;obtain rfl:=h6.symm));go_roundw;case rel=>exact⟨j+1,sm+x,max bg x,by omega,by go_num,by go_num,rfl,by omega,by push_cast;omega,by omega,by omega,HNX,rk⟩
      case measure=>simp[intOf];omega
    ·have aK:¬(j:Int)<(m:Int):=by omega
     obtain rfl:j=m:=by omega
     have YI:=qH<|HB1'.trans (HBj.mono HB1'.size);by_cases k0:kd=0
     ·have e0:(kd==0)=true:=by rw[k0];rfl
      have HF:Hid (Wd k=cl sm):=by rw[NB.out];unfold nW;rw[if_pos k0,<-FB.1];exact(rfl:cl sm=cl sm)
      clear k0;go_wp2_with(go_at_call 162;refine(CL _ _).mono ?_;rintro e u6 ⟨rfl,h6⟩;obtain rfl:=h6.symm);go_ret;exact⟨by rw[HF.out];rfl,YI⟩
     ·have e0:(kd==0)=false:=by simp;exact k0
      by_cases k3:kd=3
      ·have e3:(kd==3)=true:=by rw[k3];rfl
       have HF:Hid (Wd k=cl (bg+2*(a6+a5))):=by rw[NB.out];unfold nW iy;rw[if_neg k0,if_pos k3,<-FB.2];exact(rfl:cl (bg+2*(a6+a5))=_)
       obtain⟨q4,q5,q6,q8⟩:=gd wr HBj;have FR:Hid (∀u,(u=wr\/u=wr.drew)->Cw 118 #[.agg #[Iq kd,Sq ab 12 12,.string ⟨t.toArray⟩,.slice kp j kc,Iq up]] u fun e w'=>e=Rw (Iq (a6+a5))/\Hid (Bt wr w')):=fun u hu=>by
        have iY:Bt wr u:=by
         rcases hu with rfl|rfl;·exact ag _ _
         ·exact(ag _ _).drew
        refine(mP kd ab ⟨t.toArray⟩ (.slice kp j kc) up a5 a6 u (aN iY q5) (aN iY q6) (by omega) (by omega)).mono ?_;rintro e w' ⟨rfl,hb⟩;exact⟨rfl,iY.trans (hb.mono iY.size)⟩
       obtain⟨h50,h51⟩:=Tq;obtain⟨h60,h61⟩:=Tr;clear k0 k3;go_wp2_with(first|(go_at_call 162;refine(CL _ _).mono ?_;rintro e u6 ⟨rfl,h6⟩;obtain rfl:=h6.symm)|(go_at_call 118;refine(FR _ (by first|exact .inl rfl|exact .inr rfl)).mono ?_;rintro e u7 ⟨rfl,Fq⟩));go_ret;exact⟨by rw[HF.out];rfl,YI.trans (Fq.mono YI.size)⟩
      ·have e3:(kd==3)=false:=by simp;exact k3
       have HF:Hid (Wd k=cl bg):=by rw[NB.out];unfold nW iy;rw[if_neg k0,if_neg k3,<-FB.2,Fi,Fk];exact(rfl:cl bg=cl bg)
       clear k0 k3;go_wp2_with(go_at_call 162;refine(CL _ _).mono ?_;rintro e u6 ⟨rfl,h6⟩;obtain rfl:=h6.symm);go_ret;exact⟨by rw[HF.out];rfl,YI⟩
def Z3(W:World)(X:Nat)(a b c:Int):Prop:=W.heap[X]?=some (.cells #[Iq a,Iq b,Iq c] 254 (0,0))
theorem Z3.lt{W}{X}{a b c}(h:Z3 W X a b c):X<W.heap.size:=(aS.1 h).1
theorem Z3.below{W W'}{X}{a b c}(h:Z3 W X a b c)(hb:Bt W W'):Z3 W' X a b c:=(hb.block X h.lt).trans h
theorem Z3.set{W}{X}{a b c}(h:Z3 W X a b c)  x y z  :Z3 (((W.setCell (az X 0) (Iq x)).setCell (az X 1) (Iq y)).setCell (az X 2) (Iq z)) X x y z:=Lv h
theorem Z3.new(W:World)  a b c  :Z3 (W.alloc (.cells #[Iq a,Iq b,Iq c] 254)) W.heap.size a b c:=heap_alloc_new _ _
theorem Z3.cells{W}{X}{a b c}(h:Z3 W X a b c):W.cell? (az X 0)=some (Iq a)/\W.cell? (az X 1)=some (Iq b)/\W.cell? (az X 2)=some (Iq c)/\∀j,W.frozen? (az X j)=false:=
 ⟨by rw[Lib.cell_of_heap h];rfl,by rw[Lib.cell_of_heap h];rfl,by rw[Lib.cell_of_heap h];rfl,fun j=>frozen_of_row _ _ _ _ _ h⟩
def DW(U U':World)(L:List Nd)(ks:List Nat)(N:Nat->Int)(e:Ending):Prop:=∃p c,e=Rw (.slice p ks.length c)/\(ks.length=0\/∃b,p=some (az b 0)/\eD U' b 0 ks.length (fun j=>ti (ae L (aP ks j)) (N j)) (fun j=>aC (ae L (aP ks j)) 2) (fun j=>aC (ae L (aP ks j)) 3))/\Bt U U'
def acI(U:World)(m:Nat)(L:List Nd)(ks:List Nat)(N:Nat->Int)(v iv:Value)(wr:World):Prop:=∃j:Nat,iv=Iq (j:Int)/\j<=m/\wr.ownsRow U.heap.size 254 3 v j (eX (fun j=>ti (ae L (aP ks j)) (N (aP ks j))) (fun j=>aC (ae L (aP ks j)) 2) (fun j=>aC (ae L (aP ks j)) 3) j)/\Bt U wr
def acX(wr:World)(M a2 a3:Int)(p:Value)(wx:World):Prop:=∃X,p=Pq X/\Hid (Z3 wx X M a2 a3)/\Hid (wr.heap.size<=X)/\Hid (Bt wr wx)
theorem yi{s:ByteArray}{L:List Nd}(hT:dk s L)(f f2:Nat)(av:Array Value)(bv:Nat->Array Value)(N:Nat->Int)(g al k:Nat)(hk:k<L.length)(U:World)(hN:ip U g L.length (ae L))
 (hf:Hid ((f=114/\f2=161/\av=#[Sq g L.length al,Iq (k:Int)]/\bv=fun c:Nat=>#[Sq g L.length al,Iq (c:Int)])\/∃w:Int,f=116/\f2=120/\av=#[Sq g L.length al,Iq (k:Int),Iq w]/\bv=fun c:Nat=>#[Sq g L.length al,Iq (c:Int),Iq w]))
 (WID:Hid (∀c,c<L.length->∀u,Bt U u->Cw f2 (bv c) u fun e U'=>e=Rw (Iq (N c))/\Hid (Bt u U'))):
 Cw f av U fun e U'=>DW U U' L (ae L k).kids (fun j=>N (aP (ae L k).kids j)) e:=by
 have oV:prog.follows .mixedOrders=true:=by kernel_rfl
 obtain⟨i0,hi,eK,fZ,iD⟩:=info_parts uN;obtain⟨ab,kv,hn⟩:=hN.nd k hk;obtain⟨kp,kc,uJ,oU⟩:=hn.kids;subst uJ;have dD:=hT.kids_le hk;have kH:=hT.vl.cnt;have HK3:Hid (∀u,Bt U u->u.cell? (az g (k*5+3))=some (.slice kp (ae L k).kids.length kc)):=fun u hu=>aN hu hn.c3;have ya:Hid ((ae L k).kids.length=0\/∃kb ko,kp=some (az kb ko)/\∀u,Bt U u->∀i,i<(ae L k).kids.length->u.cell? (az kb (ko+i))=some (Iq (aP (ae L k).kids i:Int))):=by
  rcases oU with e|⟨kb,ko,e,_,hc⟩;·exact .inl (by grind)
  ·exact .inr ⟨kb,ko,e,fun u hu i hi=>aN hu (hc i hi)⟩
 have BR:Hid (∀j,j<(ae L k).kids.length->aP (ae L k).kids j<L.length):=fun j hj=>(de hT hk hj).2;have HN:Hid (∀u,Bt U u->ip u g L.length (ae L)):=fun u hu=>hN.below hu;have U8:(k:Int)<(L.length:Int):=by omega
 generalize(ae L k).kids=ks at HK3 ya BR dD⊢;obtain⟨m,hm⟩:=aj ks.length;have HM:=qH<|hm;rw[hm]at HK3 ya BR dD;clear oU hn hN hm hT;rcases hf.out with⟨rfl,rfl,rfl,rfl⟩|⟨w,rfl,rfl,rfl,rfl⟩;all_goals
  first
   |go_enter func114,ntmps114
   |go_enter func116,ntmps116
  clear hf;go_wp2;first
   |(have:=w;clear this;go_loopw[7,8] (acI U m L ks N) (fun _ iv _=>m-(intOf iv).toNat))
   |go_loopw[5,6] (acI U m L ks N) (fun _ iv _=>m-(intOf iv).toNat)
  case atStart=>exact⟨0,rfl,bc _,gM _ _ _ _,ag _ _⟩
  case round=>
   obtain⟨j,rfl,hj,bi,hbw⟩:=hrel;have c3:=HK3 wr hbw;have hzr:=hbw.size;by_cases hlt:j<m
   ·have aK:(j:Int)<(m:Int):=by omega
    obtain⟨kb,ko,rfl,Cx⟩:=ya.resolve_left (by omega);have k0:=Cx wr hbw j hlt;have hc:=BR j hlt;have HS:Hid (eX (fun j=>ti (ae L (aP ks j)) (N (aP ks j))) (fun j=>aC (ae L (aP ks j)) 2) (fun j=>aC (ae L (aP ks j)) 3) (j+1)=eX (fun j=>ti (ae L (aP ks j)) (N (aP ks j))) (fun j=>aC (ae L (aP ks j)) 2) (fun j=>aC (ae L (aP ks j)) 3) j++[Iq (ti (ae L (aP ks j)) (N (aP ks j))),Iq (aC (ae L (aP ks j)) 2),Iq (aC (ae L (aP ks j)) 3)]):=rfl;obtain⟨c,Gc⟩:=aj (aP ks j);have WD:=WID (aP ks j) hc;obtain⟨Zc,Z9,Ke⟩:=(HN wr hbw).nd (aP ks j) hc;rw[Gc]at k0 hc HS WD Ke;have hcN:(c:Int)<(L.length:Int):=by omega
    have y0:=Ke.c0;have y1:=Ke.c1;have y2:=Ke.c2;have y3:=Ke.c3;have y4:=Ke.c4;obtain⟨kd,hkd⟩:∃z:Int,((ae L c).kind:Int)=z:=⟨_,rfl⟩;obtain⟨M,hMe⟩:=aj (ti (ae L c) (N c));obtain⟨x,Io⟩:=aj (N c);have WN:Hid (∀u,Bt wr u->Cw 160 #[.agg #[Iq kd,Sq Zc 12 12,.string ⟨(ae L c).text.toArray⟩,Z9,Iq (ae L c).up],Iq x] u fun e u'=>e=Rw (.agg #[Iq M,Iq (aC (ae L c) 2),Iq (aC (ae L c) 3)])/\Hid (Bt u u')):=fun u hu=>by have:=Hg kd Zc ⟨(ae L c).text.toArray⟩ Z9 (ae L c).up (aC (ae L c) 1) (aC (ae L c) 2) (aC (ae L c) 3) x u (aN hu (Ke.att 1 (by omega))) (aN hu (Ke.att 2 (by omega))) (aN hu (Ke.att 3 (by omega)));rw[L4,<-Io,hMe]at this;rw[<-Io];exact this
    have WD2:=qH WD;rw[Io]at WD2;rw[hMe]at HS;rw[hkd]at y0;generalize(ae L c).text=tx at y2 WN;generalize(ae L c).up=up at y4 WN;generalize aC (ae L c) 2=a2 at HS WN;generalize aC (ae L c) 3=a3 at HS WN;have HBW:=qH<|hbw;have HD1:=qH<|hbw.drew;have HD2:Hid (Bt U (wr.alloc (.cells #[Iq 0,Iq 0,Iq 0] 254)).drew):=(hbw.alloc hzr _).drew;have HE1:Hid (Bt wr wr.drew):=(ag _ _).drew;have HE2:Hid (Bt wr (wr.alloc (.cells #[Iq 0,Iq 0,Iq 0] 254)).drew):=((ag _ _).alloc (ai _) _).drew;have BO:Hid (∀u,Bt wr u->u.cell? (az g (c*5))=some (Iq kd)/\u.cell? (az g (c*5+1))=some (Sq Zc 12 12)/\u.cell? (az g (c*5+2))=some (.string ⟨tx.toArray⟩)/\u.cell? (az g (c*5+3))=some Z9/\u.cell? (az g (c*5+4))=some (Iq up)):=fun u hu=>⟨aN hu y0,aN hu y1,aN hu y2,aN hu y3,aN hu y4⟩;have ne0:=World.new_ne wr _ y0;clear Ke WD hkd hMe Io Gc Cx hbw;go_upto_region 6 with fail;first
     |(have:=w;clear this;go_cut[10]from 29 to 37 (acX wr M a2 a3))
     |go_cut[8]from 27 to 34 (acX wr M a2 a3)
    case first=>
     go_region_held(fun W=>W.cell? (az g (c*5))=some (Iq kd)/\W.cell? (az g (c*5+1))=some (Sq Zc 12 12)/\W.cell? (az g (c*5+2))=some (.string ⟨tx.toArray⟩)/\W.cell? (az g (c*5+3))=some Z9/\W.cell? (az g (c*5+4))=some (Iq up)) (go_keep) (first
      |((first|go_at_call 161|go_at_call 120);(with_reducible refine am (WD2.out _ HD1.out) ?_);rintro e q5 ⟨rfl,kg⟩;have HF5:=qH<|HE1.out.trans (kg.out.mono HE1.out.size);obtain⟨s0,s1,s2,s3,s4⟩:=BO.out q5 HF5.out;have ne5:=World.new_ne q5 _ s0;have HF5A:Hid (Bt wr (q5.alloc (.cells #[Iq 0,Iq 0,Iq 0] 254))):=HF5.out.alloc HF5.out.size _)
      |((first|go_at_call 161|go_at_call 120);(with_reducible refine am (WD2.out _ HD2.out) ?_);rintro e q5 ⟨rfl,kg⟩;have HF5:=qH<|HE2.out.trans (kg.out.mono HE2.out.size);obtain⟨s0,s1,s2,s3,s4⟩:=BO.out q5 HF5.out;have ne5:=World.new_ne q5 _ s0;have ZA:=qH<|Z3.below (W:=(wr.alloc (.cells #[Iq 0,Iq 0,Iq 0] 254)).drew) (Z3.new wr 0 0 0) kg.out;obtain⟨za0,za1,za2,za3⟩:=ZA.out.cells)
      |(go_at_call 160;(with_reducible refine am (WN.out _ HF5.out) ?_);rintro e q6 ⟨rfl,rk⟩;have HF6:=qH<|HF5.out.trans (rk.out.mono HF5.out.size);obtain⟨t0,t1,t2,t3,t4⟩:=BO.out q6 HF6.out;have ne6:=World.new_ne q6 _ t0;(try(have ZA6:=qH<|ZA.out.below rk.out;obtain⟨zb0,zb1,zb2,zb3⟩:=ZA6.out.cells)))
      |(go_at_call 160;(with_reducible refine am (WN.out _ HF5A.out) ?_);rintro e q6 ⟨rfl,rk⟩;have HF6:=qH<|HF5A.out.trans (rk.out.mono HF5A.out.size);obtain⟨t0,t1,t2,t3,t4⟩:=BO.out q6 HF6.out;have ne6:=World.new_ne q6 _ t0;have ZB6:=qH<|(Z3.new q5 0 0 0).below rk.out;obtain⟨zb0,zb1,zb2,zb3⟩:=ZB6.out.cells));all_goals
      go_wp2_with fail;go_meet;first
       |exact⟨_,rfl,ZA6.set _ _ _,ai _,((HF6.setCell (ai _) _).setCell (ai _) _).setCell (ai _) _⟩
       |exact⟨_,rfl,ZB6.set _ _ _,HF5.size,((HF6.setCell HF5.size _).setCell HF5.size _).setCell HF5.size _⟩
       |exact⟨_,rfl,Z3.new _ _ _ _,HF6.size,HF6.alloc HF6.size _⟩
    case rest=>
     obtain⟨X,rfl,HZ,HX,HBC⟩:=hcut;obtain⟨x0,x1,x2,_⟩:=HZ.cells;have QZ:=sI bi HBC;have hzc:=HBC.size;have Ix:=qH<|HBW.trans (HBC.mono HBW.size);clear y0 y1 y2 y3 y4 k0 c3 bi;go_wp2_with(at_builtin;refine Jc (W0:=U) hi eK fZ iD QZ Ix [Iq M,Iq a2,Iq a3] rfl _ _ rfl underlying197 ⟨rfl,by decide,by decide⟩ rfl rfl ⟨rfl,rfl⟩ (by omega) ?_);intro v' w6 bK Co;clear QZ;go_wp2;go_roundw;case rel=>exact⟨j+1,by go_num,by omega,by rw[HS.out];omega,Co⟩
     grind[intOf]
   ·have qC:¬(j:Int)<(m:Int):=by omega
    obtain rfl:m=j:=by omega
    obtain⟨p,cp,rfl,ny⟩:=Ba bi;have HV:Hid (m=0\/∃b,p=some (az b 0)/\eD wr b 0 m (fun j=>ti (ae L (aP ks j)) (N (aP ks j))) (fun j=>aC (ae L (aP ks j)) 2) (fun j=>aC (ae L (aP ks j)) 3)):=by
     rcases ny with h|⟨lw,e,_,h⟩;·grind
     ·exact .inr ⟨lw,e,h⟩
    have HBW:=qH<|hbw;clear ny bi hbw;go_wp2;go_ret;refine⟨p,cp,by rw[HM.out];rfl,?_,HBW⟩;rw[HM.out];exact HV
theorem ry{s}{L}{Wd}{H}(hT:dk s L)(hZ:Sz L Wd H)  g al k  (hk:k<L.length)  U  (hN:ip U g L.length (ae L)):
 Cw 114 #[Sq g L.length al,Iq (k:Int)] U fun e U'=>DW U U' L (ae L k).kids (fun j=>Wd (aP (ae L k).kids j)) e:=
 yi hT _ _ _ _ Wd g al k hk U hN (.inl ⟨rfl,rfl,rfl,rfl⟩) fun c hc u hu=>vp hT hZ g al L.length c (by omega) hc u (hN.below hu)
theorem PZ{s}{L}{Wd}{H}(hT:dk s L)(hZ:Sz L Wd H)(U:World){k}(hk:k<L.length)(h5:(ae L k).kind≠5){w}(hw0:0<=w)(eu:w<=100000):
 ∃V,(∀j,j<(ae L k).kids.length->0<=V j/\V j<=100000)/\((ae L k).kind=0->(ae L k).kids.length=0\/bL L (ae L k).kids (fun j=>Wd (aP (ae L k).kids j)) w (aC (ae L k) 4) V)/\((ae L k).kind=3->∀j,V j=max 0 (w-2*(aC (ae L k) 6+aC (ae L k) 5)))/\((ae L k).kind≠0->(ae L k).kind≠3->∀j,V j=w)/\H k w=nO (ae L k) (fun j=>H (aP (ae L k).kids j) (V j)):=by
 have dD:=hT.kids_le hk;by_cases h0:(ae L k).kind=0
 ·by_cases hm:(ae L k).kids.length=0;·exact⟨fun _=>0,fun j hj=>by omega,fun _=>.inl hm,fun h=>by omega,fun h=>absurd h0 h,hZ.hr k w _ hk h0 (.inl (lk hm))⟩
  ·obtain⟨V,hV⟩:=uQ L (ae L k).kids (fun j=>Wd (aP (ae L k).kids j)) w (aC (ae L k) 4) U (by omega) (by omega);refine⟨V,fun j hj=>?_,fun _=>.inr hV,fun h=>by omega,fun h=>absurd h0 h,hZ.hr k w V hk h0 (.inr hV)⟩;have:=(ci.tiles hV (rW _ _ _)).1 j hj;exact⟨this.1,g_ this.2 (gE _ _).2⟩
 ·have e:=hZ.ho k w hk h5 h0;have hbd:=(hT.vl.nv k hk).bd;obtain⟨_,_,b5,b6,_⟩:=hbd;refine⟨fun _=>Yd (ae L k) w,fun j _=>?_,fun h=>absurd h h0,fun h j=>?_,fun _ h j=>?_,e⟩;all_goals grind[Yd,ae,iy]
def WV(W:World)(kd:Int)(m:Nat)(V:Nat->Int)(v:Value):Prop:=kd=0->0<m->∃ob,v=Sq ob m m/\∀i,i<m->W.cell? (az ob i)=some (Iq (V i))
theorem WV.below{W W'}{kd}{m}{V}{v}(h:WV W kd m V v)(hb:Bt W W'):WV W' kd m V v:=fun a b=>by obtain⟨ob,e,c⟩:=h a b;grind[aN]
theorem yV{s:ByteArray}{L:List Nd}{Wd:Nat->Int}{H:Nat->Int->Int}(hT:dk s L)(hZ:Sz L Wd H)(g al k:Nat)(h2:k<L.length)(w:Int)(hw0:0<=w)(eu:w<=100000)(U:World)(hN:ip U g L.length (ae L))(h5:¬(ae L k).kind=5)(BR:Hid (∀j,j<(ae L k).kids.length->∀x,0<=x->x<=100000->∀u,Bt U u->Cw 120 #[Sq g L.length al,Iq (aP (ae L k).kids j:Int),Iq x] u fun e U'=>e=Rw (Iq (H (aP (ae L k).kids j) x))/\Hid (Bt u U'))):
 Cw 120 #[Sq g L.length al,Iq (k:Int),Iq w] U fun e U'=>e=Rw (Iq (H k w))/\Hid (Bt U U'):=by
 have oV:prog.follows .mixedOrders=true:=by kernel_rfl
 have GE:=qH<|greatest_any;have CL:=qH<|rCl_any;obtain⟨ab,kp,kc,W1,An,cE,hAn,HB1,⟨c0,c1,c2,c3,c4⟩,cH,gd,ya⟩:=hN.opens h2;have kJ:=(hT.vl.nv k h2).bd;have zj:=hT.vl.tl k h2;have fT:=hT.sz;have kH:=hT.vl.cnt;have dD:=hT.kids_le h2;obtain⟨z0,z1,z2,z3,z4⟩:=cH W1 (ag _ _);obtain⟨y4,y5,y6,y8⟩:=gd W1 (ag _ _);have U8:(k:Int)<(L.length:Int):=by omega
 obtain⟨V,hV,Zv,UP,hVo,hHe⟩:=PZ hT hZ U h2 h5 hw0 eu;obtain⟨kd,hkd⟩:∃z:Int,((ae L k).kind:Int)=z:=⟨_,rfl⟩;have e5:(kd==5)=false:=by simp;omega
 have Fx:Hid (H k w=cl (mO kd (aC (ae L k) 4) (aC (ae L k) 5) (aC (ae L k) 6) (fun j=>H (aP (ae L k).kids j) (V j)) (ae L k).kids.length)):=by rw[hHe,wk,<-hkd];exact(rfl:bT (mO ((ae L k).kind:Int) _ _ _ _ _)=_)
 have Y4:Hid (kd=0->(ae L k).kids.length=0\/bL L (ae L k).kids (fun j=>Wd (aP (ae L k).kids j)) w (aC (ae L k) 4) V):=fun q=>Zv (by omega);have HV3:Hid (kd=3->∀j,V j=max 0 (w-2*(aC (ae L k) 6+aC (ae L k) 5))):=fun q=>UP (by omega);have HVo:Hid (kd≠0->kd≠3->∀j,V j=w):=fun q r=>hVo (by omega) (by omega);have HVB:=qH<|hV;have MG:Hid (∀j,j<(ae L k).kids.length->0<=H (aP (ae L k).kids j) (V j)/\H (aP (ae L k).kids j) (V j)<=100000):=fun j hj=>hZ.hb _ _ (de hT h2 hj).2;have vR:=qH<|fun j hj u hu=>BR j hj _ (hV j hj).1 (hV j hj).2 u hu;have AC:=qH<|fun u hu=>ry hT hZ g al k h2 u (hN.below hu);obtain⟨_,Tp,Tq,Tr,_⟩:=kJ;rw[hkd]at z0 c0 cE cH;generalize(ae L k).text=t at z2 c2 cE cH;generalize(ae L k).up=up at z4 c4 cE cH;generalize aC (ae L k) 4=a4 at y4 gd Fx Tp Y4;generalize aC (ae L k) 5=a5 at y5 gd Fx Tq HV3;generalize aC (ae L k) 6=a6 at y6 gd Fx Tr HV3;generalize(ae L k).kids=ks at z3 c3 cE cH Fx Y4 HVB MG vR ya dD AC;obtain⟨hh,MX⟩:∃z:Nat->Int,(fun j=>H (aP ks j) (V j))=z:=⟨_,rfl⟩;have UZ:∀j,H (aP ks j) (V j)=hh j:=fun j=>by grind
 rw[MX]at Fx;simp only[UZ]at MG vR;obtain⟨m,hm⟩:=aj ks.length;have SP:Hid (kd=0->∀u,Bt U u->Cw 114 #[Sq g L.length al,Iq (k:Int)] u fun e u'=>∃p c,e=Rw (.slice p m c)/\Hid (Bt u u')/\Hid (Cw 113 #[Iq w,Iq a4,.slice p m c] u' fun e x=>∃v,e=Rw v/\Hid (Bt u' x)/\Hid (WV x kd m V v))):=fun q u hu=>by
  refine(AC u hu).mono ?_;rintro e u' ⟨p,c,rfl,hr,hb⟩;rw[hm]at hr⊢;refine⟨p,c,rfl,hb,?_⟩;rcases hr with h0|⟨b,rfl,hr⟩;·rw[h0];refine(kX p c w a4 u').mono ?_;rintro e x ⟨q',rfl,j4⟩;exact⟨_,rfl,j4,fun _ h=>by omega⟩
  ·by_cases ZO:m=0;·subst ZO;refine(kX _ c w a4 u').mono ?_;rintro e x ⟨q',rfl,j4⟩;exact⟨_,rfl,j4,fun _ h=>by omega⟩
   ·have hsp:=(Y4 q).resolve_left (by omega);unfold bL at hsp;rw[hm]at hsp;refine(kW m b 0 c _ _ _ w a4 u' hr (by omega) (by omega) V hsp).mono ?_;rintro e x ⟨ob,rfl,_,hf,j4⟩;exact⟨_,rfl,j4,fun _ _=>⟨ob,rfl,fun i hi=>by have:=(hf.2 i hi).1;grind⟩⟩
 rw[hm]at z3 c3 cE cH Fx HVB MG vR ya dD;obtain⟨zcV,zcW⟩:=Tp;obtain⟨h50,h51⟩:=Tq;obtain⟨h60,h61⟩:=Tr;clear BR Y4 zj hkd MX UZ hm h5 hV Zv UP hVo hHe AC hN;go_enter func120,ntmps120;go_upto_if 41 with fail;clear c0 c1 c2 c3 c4 cE hAn;go_cut[10,41]from 42 to 50 (fun v _ wx=>Hid (Bt W1 wx)/\Hid (WV wx kd m V v));case first=>
  by_cases k0:kd=0
  ·have e0:(kd==0)=true:=by rw[k0];rfl
   have SP2:=qH<|SP k0;have HD:=qH<|HB1.drew;have HE:Hid (Bt W1 W1.drew):=(ag _ _).drew;clear k0 SP;go_wp2_with fail;go_region_held(fun W=>W.cell? (az An 1)=some (Sq ab 12 12)/\W.cell? (az ab 4)=some (Iq a4)) (go_keep) (first
    |(go_at_call 114;refine am (SP2 _ HD) ?_;rintro e u5 ⟨p,c,rfl,kg,yb⟩;have HF5:=qH<|HE.trans (kg.mono HE.size);have s1:=(cH u5 HF5).2.1;have s4:=(gd u5 HF5).1)
    |(go_at_call 113;refine am yb ?_;rintro e u6 ⟨v6,rfl,rk,HWV⟩;have HF6:=qH<|HF5.trans (rk.mono HF5.size);have t1:=(cH u6 HF6).2.1;have t4:=(gd u6 HF6).1));all_goals go_wp2_with fail;go_meet;grind
  ·have e0:(kd==0)=false:=by simp;exact k0
   have Ns:=qH<|k0;clear k0 SP;go_wp2_with fail;go_meet;exact⟨ag _ _,fun q=>absurd q Ns⟩
 case rest=>
  obtain⟨HBC,V0⟩:=hcut;clear z0 z1 z2 z3 z4 y4 y5 y6 y8 SP;go_wp2;go_loopw[8,9,11] (fun sv bv iv wr=>∃(j:Nat) (sm bg:Int),j<=m/\iv=Iq (j:Int)/\sv=Iq sm/\bv=Iq bg/\0<=sm/\sm<=(j:Int)*100100/\0<=bg/\bg<=100000/\Hid (sm=hS hh j+fW a4 j/\bg=hG hh j)/\Hid (Bt wc wr)) (fun _ _ iv _=>m-(intOf iv).toNat);case atStart=>exact⟨0,0,0,bc _,rfl,rfl,rfl,by omega,by omega,by omega,by omega,⟨by grind[hS,fW],rfl⟩,ag _ _⟩
  case round=>
   obtain⟨j,sm,bg,hj,rfl,rfl,rfl,Gy,hs1,Xr,wN,FB,HBj0⟩:=hrel;have HBj:=qH<|HBC.trans (HBj0.mono HBC.size);have VY:=qH<|HB1.trans (HBj.mono HB1.size);obtain⟨z0,z1,z2,z3,z4⟩:=cH wr HBj;obtain⟨y4,y5,y6,y8⟩:=gd wr HBj;have FR:Hid (∀u,(u=wr\/u=wr.drew)->Cw 118 #[.agg #[Iq kd,Sq ab 12 12,.string ⟨t.toArray⟩,.slice kp m kc,Iq up]] u fun e w'=>e=Rw (Iq (a6+a5))/\Hid (Bt wr w')):=fun u hu=>by
    have iY:Bt wr u:=by
     rcases hu with rfl|rfl;·exact ag _ _
     ·exact(ag _ _).drew
    refine(mP kd ab ⟨t.toArray⟩ (.slice kp m kc) up a5 a6 u (aN iY y5) (aN iY y6) (by omega) (by omega)).mono ?_;rintro e w' ⟨rfl,hb⟩;exact⟨rfl,iY.trans (hb.mono iY.size)⟩
   by_cases hlt:j<m
   ·have aK:(j:Int)<(m:Int):=by omega
    obtain⟨kb,ko,rfl,Cx⟩:=ya.resolve_left (by omega);have _N:=qH<|fun u hu=>Cx u hu j hlt;have k0:=_N wr HBj;have Y6:=vR j hlt;have hx:=MG j hlt;have vO:Hid (hS hh (j+1)+fW a4 (j+1)=hS hh j+hh j+(fW a4 j+(if 0<j then a4 else 0))/\hG hh (j+1)=max (hG hh j) (hh j)):=⟨by rw[yF];rfl,rfl⟩;generalize aP ks j=cc at _N k0 Y6;obtain⟨x,Io⟩:=aj (hh j);rw[Io]at hx Y6 vO;obtain⟨xS,qG⟩:=hx;have ID:(kd=0/\(kd==0)=true/\(kd==3)=false)\/(kd=3/\(kd==0)=false/\(kd==3)=true)\/((kd≠0/\kd≠3)/\(kd==0)=false/\(kd==3)=false):=by
     by_cases q0:kd=0;·exact .inl ⟨q0,by rw[q0];rfl,by rw[q0];rfl⟩
     ·by_cases q3:kd=3;·exact .inr (.inl ⟨q3,by rw[q3];rfl,by rw[q3];rfl⟩)
      ·exact .inr (.inr ⟨⟨q0,q3⟩,by simpa using q0,by simpa using q3⟩)
    obtain⟨vj,Uy,KD⟩:∃vj,Hid ((kd=0/\∃ob,u10=Sq ob m m/\wr.cell? (az ob j)=some (Iq vj))\/(kd=3/\vj=max 0 (w-2*(a6+a5)))\/((kd≠0/\kd≠3)/\vj=w))/\Hid (∀u,Bt U u->Cw 120 #[Sq g L.length al,Iq (cc:Int),Iq vj] u fun e U'=>e=Rw (Iq x)/\Hid (Bt u U')):=by
     refine⟨V j,?_,Y6⟩;rcases ID with⟨q,_⟩|⟨q,_⟩|⟨q,_⟩;·obtain⟨ob,e,hc⟩:=(V0.below HBj0) q (by omega);exact .inl ⟨q,ob,e,hc j hlt⟩
     ·exact .inr (.inl ⟨q,HV3 q j⟩)
     ·exact .inr (.inr ⟨q,HVo q.1 q.2 j⟩)
    obtain⟨gv,hgv,HNX⟩:∃gv,((0<j/\(0:Int)<(j:Int)/\gv=a4)\/(¬0<j/\¬(0:Int)<(j:Int)/\gv=0))/\Hid (sm+x+gv=hS hh (j+1)+fW a4 (j+1)/\max bg x=hG hh (j+1)):=by
     obtain⟨e1,e2⟩:=FB.out;obtain⟨f1,f2⟩:=vO.out;by_cases OI:0<j;·rw[if_pos OI]at f1;exact⟨a4,.inl ⟨OI,by omega,rfl⟩,by omega,by rw[f2,<-e2]⟩
     ·rw[if_neg OI]at f1;exact⟨0,.inr ⟨OI,by omega,rfl⟩,by omega,by rw[f2,<-e2]⟩
    clear Cx Io vO FB Y6 V0 HVB MG vR;rcases ID with⟨q,e0,e3⟩|⟨q,e0,e3⟩|⟨q,e0,e3⟩;focus
     obtain⟨ob,X4,w9⟩:∃ob,u10=Sq ob m m/\wr.cell? (az ob j)=some (Iq vj):=by
      rcases Uy.out with h|h|h;·exact h.2
      ·omega
      ·omega
     subst X4;clear Uy q
    rotate_left;focus
     obtain rfl:vj=max 0 (w-2*(a6+a5)):=by
      rcases Uy.out with h|h|h;·omega
      ·exact h.2
      ·omega
     clear Uy q
    rotate_left;focus
     obtain rfl:vj=w:=by
      rcases Uy.out with h|h|h;·omega
      ·omega
      ·exact h.2
     clear Uy q
    rotate_left;all_goals
     rcases hgv with⟨OI,S6,hq⟩|⟨OI,S6,hq⟩;all_goals
      obtain rfl:=hq.symm;go_wp2_with(first
       |(go_at_call 118;refine(FR _ (by first|exact .inl rfl|exact .inr rfl)).mono ?_;rintro e u7 ⟨rfl,Fq⟩;have HC7:=qH<|HBj0.trans (Fq.mono HBj0.size);have HW7:=qH<|HBC.trans (HC7.mono HBC.size);have HU7:=qH<|HB1.trans (HW7.mono HB1.size);have r3:=(cH u7 HW7).2.2.2.1;have r5:=_N u7 HW7)
       |(go_at_call 120;(with_reducible refine am (KD.out _ VY.out) ?_);rintro e u5 ⟨rfl,kg⟩;have VC:=qH<|HBj0.out.trans (kg.out.mono HBj0.out.size);have VZ:=qH<|HBC.out.trans (VC.out.mono HBC.out.size);have q1:=(cH.out u5 VZ.out).2.1;have q4:=(gd.out u5 VZ.out).1)
       |(go_at_call 120;(with_reducible refine am (KD.out _ HU7.out) ?_);rintro e u5 ⟨rfl,kg⟩;have VC:=qH<|HC7.out.trans (kg.out.mono HC7.out.size);have VZ:=qH<|HBC.out.trans (VC.out.mono HBC.out.size);have q1:=(cH.out u5 VZ.out).2.1;have q4:=(gd.out u5 VZ.out).1)
       |(go_at_call 119;refine(GE _ _ _).mono ?_;rintro e u6 ⟨rfl,h6⟩;obtain rfl:=h6.symm));go_roundw;case rel=>first
       |exact⟨j+1,sm+x+a4,max bg x,by omega,by go_num,by go_num,rfl,by omega,by push_cast;omega,by omega,by omega,HNX,VC⟩
       |exact⟨j+1,sm+x,max bg x,by omega,by go_num,by go_num,rfl,by omega,by push_cast;omega,by omega,by omega,⟨by have:=HNX.1;omega,HNX.2⟩,VC⟩
      case measure=>simp[intOf];omega
   ·have aK:¬(j:Int)<(m:Int):=by omega
    obtain rfl:j=m:=by omega
    by_cases k1:kd=1
    ·have e1:(kd==1)=true:=by rw[k1];rfl
     have HF:Hid (H k w=cl sm):=by rw[Fx.out];unfold mO;rw[if_pos k1,<-FB.1];exact(rfl:cl sm=cl sm)
     clear k1;go_wp2_with(go_at_call 162;refine(CL _ _).mono ?_;rintro e u6 ⟨rfl,h6⟩;obtain rfl:=h6.symm);go_ret;exact⟨by rw[HF.out];rfl,VY⟩
    ·have e1:(kd==1)=false:=by simp;exact k1
     by_cases k3:kd=3
     ·have e3:(kd==3)=true:=by rw[k3];rfl
      have HF:Hid (H k w=cl (bg+2*(a6+a5))):=by rw[Fx.out];unfold mO iy;rw[if_neg k1,if_pos k3,<-FB.2];exact(rfl:cl (bg+2*(a6+a5))=_)
      clear k1 k3;go_wp2_with(first|(go_at_call 162;refine(CL _ _).mono ?_;rintro e u6 ⟨rfl,h6⟩;obtain rfl:=h6.symm)|(go_at_call 118;refine(FR _ (by first|exact .inl rfl|exact .inr rfl)).mono ?_;rintro e u7 ⟨rfl,Fq⟩));go_ret;exact⟨by rw[HF.out];rfl,VY.trans (Fq.mono VY.size)⟩
     ·have e3:(kd==3)=false:=by simp;exact k3
      have HF:Hid (H k w=cl bg):=by rw[Fx.out];unfold mO iy;rw[if_neg k1,if_neg k3,<-FB.2,Fi,Fk];exact(rfl:cl bg=cl bg)
      clear k1 k3;go_wp2_with(go_at_call 162;refine(CL _ _).mono ?_;rintro e u6 ⟨rfl,h6⟩;obtain rfl:=h6.symm);go_ret;exact⟨by rw[HF.out];rfl,VY⟩
