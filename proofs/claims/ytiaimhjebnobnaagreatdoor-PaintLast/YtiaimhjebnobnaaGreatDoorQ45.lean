import Derived.Test.YtiaimhjebnobnaaGreatDoorQ43
import Derived.Test.YtiaimhjebnobnaaGreatDoorQ41
import Derived.Test.YtiaimhjebnobnaaGreatDoorQ13
set_option linter.all false
set_option maxRecDepth 100000
set_option maxHeartbeats 16000000
namespace Go.Proofs.YtiaimhjebnobnaaGreatDoor
open Go.RowKit Go.Sort Go.Proofs.Tryz
def Xt(kd:Int)(ab:Nat)(tx:ByteArray)(kv:Value)(up:Int):Value:=.agg #[Iq kd,Sq ab 12 12,.string tx,kv,Iq up]
theorem ju.opens{U:World}{g n:Nat}{L:Nat->Nd}(hN:ju U g n L){k:Nat}(hk:k<n):∃ab kp kc W1 An,U.alloc (.cells #[Iq ((L k).kind:Int),Sq ab 12 12,.string ⟨(L k).text.toArray⟩,.slice kp (L k).kids.length kc,Iq (L k).up] 77)=W1/\U.heap.size=An/\Hid (Bt U W1)/\(U.cell? (az g (k*5))=some (Iq ((L k).kind:Int))/\U.cell? (az g (k*5+1))=some (Sq ab 12 12)/\U.cell? (az g (k*5+2))=some (.string ⟨(L k).text.toArray⟩)/\U.cell? (az g (k*5+3))=some (.slice kp (L k).kids.length kc)/\U.cell? (az g (k*5+4))=some (Iq (L k).up))/\Hid (∀u,Bt W1 u->u.cell? (az An 0)=some (Iq ((L k).kind:Int))/\u.cell? (az An 1)=some (Sq ab 12 12)/\u.cell? (az An 2)=some (.string ⟨(L k).text.toArray⟩)/\u.cell? (az An 3)=some (.slice kp (L k).kids.length kc)/\u.cell? (az An 4)=some (Iq (L k).up))/\Hid (∀u,Bt W1 u->u.cell? (az ab 4)=some (Iq (aF (L k) 4))/\u.cell? (az ab 5)=some (Iq (aF (L k) 5))/\u.cell? (az ab 6)=some (Iq (aF (L k) 6))/\u.cell? (az ab 8)=some (Iq (aF (L k) 8)))/\Hid ((L k).kids.length=0\/∃kb ko,kp=some (az kb ko)/\∀u,Bt W1 u->∀i,i<(L k).kids.length->u.cell? (az kb (ko+i))=some (Iq (aP (L k).kids i:Int))):=by
 obtain⟨ab,kv,hn⟩:=hN.nd k hk;obtain⟨kp,kc,pD,ru⟩:=hn.kids;subst pD;obtain⟨W1,cC⟩:=ag (U.alloc (.cells #[Iq ((L k).kind:Int),Sq ab 12 12,.string ⟨(L k).text.toArray⟩,.slice kp (L k).kids.length kc,Iq (L k).up] 77));have b9:=heap_alloc_new U (.cells #[Iq ((L k).kind:Int),Sq ab 12 12,.string ⟨(L k).text.toArray⟩,.slice kp (L k).kids.length kc,Iq (L k).up] 77);have HB1:Bt U W1:=by rw[<-cC];exact((Gr.refl U).alloc _).below
 rw[cC]at b9;refine⟨ab,kp,kc,W1,_,cC,rfl,HB1,⟨hn.c0,hn.c1,hn.c2,hn.c3,hn.c4⟩,fun u hu=>?_,fun u hu=>?_,?_⟩;·refine⟨?_,?_,?_,?_,?_⟩<;>exact aC hu (by rw[Lib.cell_of_heap b9];rfl)
 ·have hb:=HB1.trans (hu.mono HB1.size);exact⟨aC hb (hn.att 4 (by omega)),aC hb (hn.att 5 (by omega)),aC hb (hn.att 6 (by omega)),aC hb (hn.att 8 (by omega))⟩
 ·rcases ru with e|⟨kb,ko,e,_,hc⟩;·exact .inl (by rw[e];rfl)
  ·exact .inr ⟨kb,ko,e,fun u hu i hi=>aC (HB1.trans (hu.mono HB1.size)) (hc i hi)⟩
theorem zU  x  :cl x=bc x:=by grind[cl,bc]
theorem pm(kd:Int)(ab:Nat)(tx:ByteArray)(kv:Value)(up a5 a6:Int)(w:World)(c5:w.cell? (az ab 5)=some (Iq a5))(c6:w.cell? (az ab 6)=some (Iq a6))(h5:0<=a5/\a5<=1000000)(h6:0<=a6/\a6<=1000000):
 Cw 82 #[Xt kd ab tx kv up] w fun e w'=>e=Rw (Iq (a6+a5))/\Hid (Bt w w'):=by
 have kD:prog.follows .mixedOrders=true:=by kernel_rfl
 unfold Xt;obtain⟨h50,h51⟩:=h5;obtain⟨h60,h61⟩:=h6;obtain⟨W1,cC⟩:=ag (w.alloc (.cells #[Iq kd,Sq ab 12 12,.string tx,kv,Iq up] 77));obtain⟨An,hAn⟩:=ag w.heap.size;have b9:W1.heap[An]?=some (.cells #[Iq kd,Sq ab 12 12,.string tx,kv,Iq up] 77 (0,0)):=by rw[<-cC,<-hAn];exact heap_alloc_new _ _
 have HB1:Hid (Bt w W1):=by rw[<-cC];exact((Gr.refl w).alloc _).below
 have d5:=aC HB1 c5;have d6:=aC HB1 c6;have d1:W1.cell? (az An 1)=some (Sq ab 12 12):=by rw[Lib.cell_of_heap b9];rfl
 have HBS:=qH<|hAn;clear c5 c6 b9;go_enter func82,ntmps82;go_wp2_with fail;go_quiet(fail);go_wp2;go_ret;exact⟨rfl,dS HB1 _⟩
theorem Js{w:World}{B}{t}{a0 a1 a2 b0 b1 b2}(h:w.heap[B]?=some (.cells #[a0,a1,a2] t (0,0))):
 (((w.setCell (az B 0) b0).setCell (az B 1) b1).setCell (az B 2) b2).heap[B]?=some (.cells #[b0,b1,b2] t (0,0)):=by rw[heap_setCell_same _ _ _ _ _ _ (heap_setCell_same _ _ _ _ _ _ (heap_setCell_same _ _ _ _ _ _ h))];rfl
def qK(a1 a2 a3 x:Int):Int:=if a3=0 then max a1 (if 0<=a2 then min x a2 else x)else a1
theorem Rc  d   x  :qK (aF d 1) (aF d 2) (aF d 3) x=wV d x:=by
 unfold qK wV qh;split
 ·by_cases h:aF d 2<0;·rw[if_pos h,if_neg (by omega)]
  ·rw[if_neg h,if_pos (by omega)]
 ·rfl
theorem L_(kd:Int)(ab:Nat)(tx:ByteArray)(kv:Value)(up a1 a2 a3 x:Int)(w:World)(c1:w.cell? (az ab 1)=some (Iq a1))(c2:w.cell? (az ab 2)=some (Iq a2))(c3:w.cell? (az ab 3)=some (Iq a3)):
 Cw 162 #[Xt kd ab tx kv up,Iq x] w fun e w'=>e=Rw (.agg #[Iq (qK a1 a2 a3 x),Iq a2,Iq a3])/\Hid (Bt w w'):=by
 have kD:prog.follows .mixedOrders=true:=by kernel_rfl
 unfold Xt;have LE:=qH<|least_any;have GE:=qH<|greatest_any;obtain⟨W1,cC⟩:=ag ((w.alloc (.cells #[Iq kd,Sq ab 12 12,.string tx,kv,Iq up] 77)).alloc (.cells #[Iq 0,Iq 0,Iq 0] 236));obtain⟨An,hAn⟩:=ag w.heap.size;obtain⟨Aw,hAw⟩:=ag (An+1);have FC:(w.alloc (.cells #[Iq kd,Sq ab 12 12,.string tx,kv,Iq up] 77)).heap.size=Aw:=by rw[aI,hAn];exact hAw
 have b9:W1.heap[An]?=some (.cells #[Iq kd,Sq ab 12 12,.string tx,kv,Iq up] 77 (0,0)):=by rw[<-cC,<-hAn,du _ _ _ (by rw[aI];omega)];exact heap_alloc_new _ _
 have hatw:W1.heap[Aw]?=some (.cells #[Iq 0,Iq 0,Iq 0] 236 (0,0)):=by rw[<-cC,<-FC];exact heap_alloc_new _ _
 have HB1:Hid (Bt w W1):=by rw[<-cC];exact(((Gr.refl w).alloc _).alloc _).below
 have d1:=aC HB1 c1;have d2:=aC HB1 c2;have d3:=aC HB1 c3;have hab:ab<An:=by rw[<-hAn];exact l8 w _ c1
 have dn:W1.cell? (az An 1)=some (Sq ab 12 12):=by rw[Lib.cell_of_heap b9];rfl
 have Y4:∀j,W1.frozen? (az Aw j)=false:=fun j=>frozen_of_row _ _ _ _ _ hatw;have w0:W1.cell? (az Aw 0)=some (Iq 0):=by rw[Lib.cell_of_heap hatw];rfl
 have w1:W1.cell? (az Aw 1)=some (Iq 0):=by rw[Lib.cell_of_heap hatw];rfl
 have w2:W1.cell? (az Aw 2)=some (Iq 0):=by rw[Lib.cell_of_heap hatw];rfl
 have hWl:W1.heap.size=Aw+1:=by rw[<-cC,aI,FC]
 have FJ:Hid (∀a b c,Bt w (((W1.setCell (az Aw 0) a).setCell (az Aw 1) b).setCell (az Aw 2) c)):=fun a b c=>((HB1.setCell (by show w.heap.size<=Aw;omega) _).setCell (by show w.heap.size<=Aw;omega) _).setCell (by show w.heap.size<=Aw;omega) _;have HAW:=qH<|hatw;clear c1 c2 c3 b9 hatw;go_enter func162,ntmps162;by_cases q3:a3=0
 ·have e3:(a3==0)=true:=by rw[q3];rfl
  by_cases q2:0<=a2;focus
   have e2:=decide_eq_true q2;have HM:Hid (qK a1 a2 a3 x=max a1 (min x a2)):=by unfold qK;rw[if_pos q3,if_pos q2];exact(rfl:max a1 (min x a2)=max a1 (min x a2))
   clear q3
  rotate_left;focus
   have e2:=decide_eq_false q2;have HM:Hid (qK a1 a2 a3 x=max a1 x):=by unfold qK;rw[if_pos q3,if_neg q2];exact(rfl:max a1 x=max a1 x)
   clear q3 q2
  rotate_left;all_goals go_wp2_with(first|(go_at_call 86;refine(LE _ _ _).mono ?_;rintro e u5 ⟨rfl,h5⟩;obtain rfl:=h5.symm)|(go_at_call 83;refine(GE _ _ _).mono ?_;rintro e u6 ⟨rfl,h6⟩;obtain rfl:=h6.symm));go_region;all_goals go_wp2;refine bodyPost_ret (results_cell_row rfl _ _ Aw _ _ _ _ rfl (Js HAW) underlying236 rfl (by kernel_rfl)) rfl ?_;exact⟨by rw[HM.out],(FJ _ _ _).drew⟩
 ·have e3:(a3==0)=false:=by simp;exact q3
  have HM:Hid (qK a1 a2 a3 x=a1):=by unfold qK;rw[if_neg q3];exact(rfl:a1=a1)
  clear q3;go_wp2_with(first|(go_at_call 86;refine(LE _ _ _).mono ?_;rintro e u5 ⟨rfl,h5⟩;obtain rfl:=h5.symm)|(go_at_call 83;refine(GE _ _ _).mono ?_;rintro e u6 ⟨rfl,h6⟩;obtain rfl:=h6.symm));go_region;all_goals go_wp2;refine bodyPost_ret (results_cell_row rfl _ _ Aw _ _ _ _ rfl (Js HAW) underlying236 rfl (by kernel_rfl)) rfl ?_;exact⟨by rw[HM.out],(FJ _ _ _).drew⟩
theorem C0  a   i  :h_ a (i+1)=h_ a i+(if 0<i then a else 0):=by grind[h_]
def r_(t:List UInt8)(j:Nat):Int:=Qg (((bQ t).take j).map oS)
theorem bigTo_next{t}{j}{x}(h:(bQ t)[j]?=some x):r_ t (j+1)=max (r_ t j) (oS x):=by unfold r_;rw[List.take_add_one,h,np];exact DP _ _
theorem Kd  t  :r_ t (bQ t).length=xX t:=by grind[r_,xX]
theorem Qv{t x}:∀{j:Nat},(bQ t)[j]?=some x->x.length<=t.length:=by
 induction t generalizing x with
 |nil=>intro j h;cases j with
  |zero=>simp[bQ]at h;subst h;exact ai _
  |succ j=>simp[bQ]at h
 |cons c t ih=>
  intro j h;unfold bQ at h;by_cases e:c=10;·rw[if_pos e]at h;cases j with
   |zero=>simp at h;subst h;simp
   |succ j=>simp at h;have:=ih h;simp;omega
  ·rw[if_neg e]at h;revert h;split;·intro h;cases j with
    |zero=>simp at h;subst h;simp
    |succ j=>simp at h
   ·rename_i p ps hp;intro h;cases j with
    |zero=>simp at h;subst h;have:=ih (x:=p) (j:=0) (by rw[hp];rfl);simp;omega
    |succ j=>simp at h;have:=ih (x:=x) (j:=j+1) (by rw[hp];simpa using h);simp;omega
theorem za{s:ByteArray}{L:List Nd}{Wd:Nat->Int}{H:Nat->Int->Int}(hT:dZ s L)(hZ:Sz L Wd H)(g cap:Nat):∀f k,L.length<=k+f->k<L.length->∀U,ju U g L.length (ae L)->
 Cw 163 #[Sq g L.length cap,Iq (k:Int)] U fun e U'=>e=Rw (Iq (Wd k))/\Hid (Bt U U')
 |0,k,h1,h2,U,hN=>by omega
 |f+1,k,h1,h2,U,hN=>by
  have kD:prog.follows .mixedOrders=true:=by kernel_rfl
  have Br:Hid (∀j,j<(ae L k).kids.length->∀u,Bt U u->Cw 163 #[Sq g L.length cap,Iq (aP (ae L k).kids j:Int)] u fun e U'=>e=Rw (Iq (Wd (aP (ae L k).kids j)))/\Hid (Bt u U')):=fun j hj u hu=>by have:=dM hT h2 hj;exact za hT hZ g cap f _ (by omega) this.2 u (hN.below hu)
  have GE:=qH<|greatest_any;have CL:=qH<|rCl_any;obtain⟨ab,kp,kc,W1,An,cC,hAn,HB1,⟨c0,c1,c2,c3,c4⟩,cZ,im,S9⟩:=hN.opens h2;have mN:=(hT.vl.nv k h2).bd;have uf:=hT.vl.tl k h2;have f_:=hT.sz;have hw:=hZ.w k h2;have vk:=hT.vl.cnt;have dj:=hT.kids_le h2;have Sj:Hid (∀j,j<(ae L k).kids.length->0<=Wd (aP (ae L k).kids j)/\Wd (aP (ae L k).kids j)<=100000):=fun j hj=>hZ.wb _ (dM hT h2 hj).2;obtain⟨z0,z1,z2,z3,z4⟩:=cZ W1 (aj _ _);have Uv:(k:Int)<(L.length:Int):=by omega
  clear hN;by_cases h5:(ae L k).kind=5
  ·have To:Hid (Wd k=cl (xX (ae L k).text)):=by rw[hw,zU];unfold qk;rw[if_pos h5];exact(rfl:bc (xX (ae L k).text)=_)
   rw[h5,show((5:Nat):Int)=5 from rfl]at z0 c0 cC;generalize(ae L k).text=t at z2 c2 cC uf To;generalize(ae L k).up=up at z4 c4 cC;generalize(ae L k).kids.length=m at z3 c3 cC;have PG:Hid (∀u,Cw 46 #[.string ⟨t.toArray⟩] u fun e u'=>Wr u u' t e):=fun u=>by have:=jK ⟨t.toArray⟩ u (by show t.toArray.size<=_;simp;omega);simpa using this
   have CO:Hid (∀(x:List UInt8),x.length<=4000->∀u,Cw 195 #[.string ⟨x.toArray⟩] u fun e u'=>e=Rw (Iq (oS x))/\Hid (Bt u u')):=fun x hx u=>by have:=AO ⟨x.toArray⟩ u (by show x.toArray.size<=_;simp;omega);simpa[Hid,oS]using this
   have Ya:Hid (t.length<=4000):=by show _<=_;omega
   clear Br S9 im Sj uf hw mN;go_enter func163,ntmps163;go_wp2_with(go_at_call 46;refine(PG _).mono ?_;rintro e U2 ⟨p,c,rfl,hst,hb2⟩);obtain⟨b,rfl,hbl,hbc⟩:=hst;have HST:=qH<|hbc;have HB2:=qH<|hb2;obtain⟨n,hn⟩:=ag ((bQ t).length);have HN:=qH<|hn;have hnb:n<=4001:=by have:=iG t;have:=R_ (a:=(10:UInt8)) (l:=t);have:=Ya.out;omega
   rw[hn];clear hn hbc hb2 hbl;go_loopw[7,9] (fun bv iv wr=>∃j:Nat,j<=n/\iv=Iq (j:Int)/\bv=Iq (r_ t j)/\Hid (Bt U2 wr)) (fun _ iv _=>n-(intOf iv).toNat);case atStart=>exact⟨0,aZ _,rfl,rfl,aj _ _⟩
   case round=>
    obtain⟨j,hj,rfl,rfl,HBj⟩:=hrel;by_cases hlt:j<n
    ·have aN:(j:Int)<(n:Int):=by omega
     obtain⟨x,hx⟩:∃x,(bQ t)[j]?=some x:=⟨_,eR (by have:=HN.out;omega)⟩;have y0:=aC HBj (HST j x hx);have UJ:=Qv hx;have CO2:=qH<|CO x (by have:=Ya.out;omega);have HNX:=qH<|bigTo_next hx;generalize r_ t j=bg at HNX;clear hx UJ;go_wp2_with(first|(go_at_call 195;refine(CO2 _).mono ?_;rintro e u5 ⟨rfl,io⟩)|(go_at_call 83;refine(GE _ _ _).mono ?_;rintro e u6 ⟨rfl,h6⟩;obtain rfl:=h6.symm));go_roundw;case rel=>exact⟨j+1,by omega,by go_num,by rw[HNX.out],HBj.trans (io.mono HBj.size)⟩
     case measure=>simp[intOf];omega
    ·have aN:¬(j:Int)<(n:Int):=by omega
     obtain rfl:j=n:=by omega
     have HBG:Hid (r_ t j=xX t):=by have:=Kd t;rw[HN.out]at this;exact this
     go_wp2_with(go_at_call 88;refine(CL _ _).mono ?_;rintro e u6 ⟨rfl,h6⟩;obtain rfl:=h6.symm);go_ret;refine⟨by rw[To.out,<-HBG.out];rfl,?_⟩;have a1:=HB1.trans (HB2.mono HB1.size);exact a1.trans (HBj.mono a1.size)
  ·obtain⟨kd,hkd⟩:∃z:Int,((ae L k).kind:Int)=z:=⟨_,rfl⟩;have To:Hid (Wd k=cl (qr kd (aF (ae L k) 4) (aF (ae L k) 5) (aF (ae L k) 6) (fun j=>Wd (aP (ae L k).kids j)) (ae L k).kids.length)):=by rw[hw,zU,<-hkd];unfold qk;rw[if_neg h5];exact(rfl:bc (qr ((ae L k).kind:Int) _ _ _ _ _)=_)
   have e5:(kd==5)=false:=by simp;omega
   have XW:=qH<|hkd;obtain⟨_,Zo,Zp,Zq,_⟩:=mN;obtain⟨a4,YR⟩:=ag (aF (ae L k) 4);obtain⟨a5,ha5⟩:=ag (aF (ae L k) 5);obtain⟨a6,ha6⟩:=ag (aF (ae L k) 6);obtain⟨hh,SA⟩:∃z:Nat->Int,(fun j=>Wd (aP (ae L k).kids j))=z:=⟨_,rfl⟩;have _8:∀j,Wd (aP (ae L k).kids j)=hh j:=fun j=>by rw[<-SA]
   rw[YR,ha5,ha6,SA]at To;rw[YR,ha5,ha6]at im;rw[YR]at Zo;rw[ha5]at Zp;rw[ha6]at Zq;rw[hkd]at z0 c0 cC cZ;have Ye:Hid (∀j,j<(ae L k).kids.length->0<=hh j/\hh j<=100000):=fun j hj=>by rw[<-_8];exact Sj j hj
   have zC:Hid (∀j,j<(ae L k).kids.length->∀u,Bt U u->Cw 163 #[Sq g L.length cap,Iq (aP (ae L k).kids j:Int)] u fun e U'=>e=Rw (Iq (hh j))/\Hid (Bt u U')):=fun j hj u hu=>by rw[<-_8];exact Br j hj u hu
   generalize(ae L k).text=t at z2 c2 cC cZ;generalize(ae L k).up=up at z4 c4 cC cZ;generalize(ae L k).kids=ks at z3 c3 cC cZ To Ye zC S9 dj;obtain⟨m,hm⟩:=ag ks.length;rw[hm]at z3 c3 cC cZ To Ye zC S9 dj;clear Br Sj uf hw hkd SA _8 YR ha5 ha6 hm h5;obtain⟨ziW,ziX⟩:=Zo;have HB1':=HB1;go_enter func163,ntmps163;go_wp2;clear z0 z1 z2 z3 z4 c0 c1 c2 c3 c4 cC hAn;go_loopw[6,7,10] (fun sv bv iv wr=>∃(j:Nat) (sm bg:Int),j<=m/\iv=Iq (j:Int)/\sv=Iq sm/\bv=Iq bg/\0<=sm/\sm<=(j:Int)*100100/\0<=bg/\bg<=100000/\Hid (sm=hS hh j+h_ a4 j/\bg=hG hh j)/\Hid (Bt W1 wr)) (fun _ _ iv _=>m-(intOf iv).toNat);case atStart=>exact⟨0,0,0,aZ _,rfl,rfl,rfl,by omega,by omega,by omega,by omega,⟨by unfold hS h_;rw[show max 0 (((0:Nat):Int)-1)=0 by omega,JO];rfl,rfl⟩,aj _ _⟩
   case round=>
    obtain⟨j,sm,bg,hj,rfl,rfl,rfl,FC,hs1,hg0,sw,JZ,HBj⟩:=hrel;obtain⟨z0,z1,z2,z3,z4⟩:=cZ wr HBj;by_cases hlt:j<m
    ·have aN:(j:Int)<(m:Int):=by omega
     obtain⟨kb,ko,rfl,Gm⟩:=S9.resolve_left (by omega);have k0:=Gm wr HBj j hlt;have KD:=zC j hlt;have hx:=Ye j hlt;have zy:Hid (hS hh (j+1)+h_ a4 (j+1)=hS hh j+hh j+(h_ a4 j+(if 0<j then a4 else 0))/\hG hh (j+1)=max (hG hh j) (hh j)):=⟨by rw[C0];rfl,rfl⟩;generalize aP ks j=cc at k0 KD;have KD:=qH<|KD;obtain⟨x,MV⟩:=ag (hh j);rw[MV]at hx KD zy;obtain⟨BM,sC⟩:=hx;clear Gm MV;by_cases Ut:0<j
     ·have Y8:(0:Int)<(j:Int):=by omega
      have HNX:Hid (sm+x+a4=hS hh (j+1)+h_ a4 (j+1)/\max bg x=hG hh (j+1)):=by obtain⟨e1,e2⟩:=JZ.out;obtain⟨f1,f2⟩:=zy.out;rw[if_pos Ut]at f1;exact⟨by omega,by rw[f2,<-e2]⟩
      clear zy JZ;go_wp2_with(first|(go_at_call 163;refine(KD _ (HB1.trans (HBj.mono HB1.size))).mono ?_;rintro e u5 ⟨rfl,io⟩;have kw:=qH<|HBj.trans (io.mono HBj.size);have q1:=(cZ u5 kw).2.1;have q4:=(im u5 kw).1)|(go_at_call 83;refine(GE _ _ _).mono ?_;rintro e u6 ⟨rfl,h6⟩;obtain rfl:=h6.symm));go_roundw;case rel=>exact⟨j+1,sm+x+a4,max bg x,by omega,by go_num,by go_num,rfl,by omega,by push_cast;omega,by omega,by omega,HNX,kw⟩
      case measure=>simp[intOf];omega
     ·have Y8:¬(0:Int)<(j:Int):=by omega
      have HNX:Hid (sm+x=hS hh (j+1)+h_ a4 (j+1)/\max bg x=hG hh (j+1)):=by obtain⟨e1,e2⟩:=JZ.out;obtain⟨f1,f2⟩:=zy.out;rw[if_neg Ut]at f1;exact⟨by omega,by rw[f2,<-e2]⟩
      clear zy JZ;go_wp2_with(first|(go_at_call 163;refine(KD _ (HB1.trans (HBj.mono HB1.size))).mono ?_;rintro e u5 ⟨rfl,io⟩;have kw:=qH<|HBj.trans (io.mono HBj.size);have q1:=(cZ u5 kw).2.1;have q4:=(im u5 kw).1)|(go_at_call 83;refine(GE _ _ _).mono ?_;rintro e u6 ⟨rfl,h6⟩;obtain rfl:=h6.symm));go_roundw;case rel=>exact⟨j+1,sm+x,max bg x,by omega,by go_num,by go_num,rfl,by omega,by push_cast;omega,by omega,by omega,HNX,kw⟩
      case measure=>simp[intOf];omega
    ·have aN:¬(j:Int)<(m:Int):=by omega
     obtain rfl:j=m:=by omega
     have HBe:=qH<|HB1'.trans (HBj.mono HB1'.size);by_cases k0:kd=0
     ·have e0:(kd==0)=true:=by rw[k0];rfl
      have HF:Hid (Wd k=cl sm):=by rw[To.out];unfold qr;rw[if_pos k0,<-JZ.1];exact(rfl:cl sm=cl sm)
      clear k0;go_wp2_with(go_at_call 88;refine(CL _ _).mono ?_;rintro e u6 ⟨rfl,h6⟩;obtain rfl:=h6.symm);go_ret;exact⟨by rw[HF.out];rfl,HBe⟩
     ·have e0:(kd==0)=false:=by simp;exact k0
      by_cases k3:kd=3
      ·have e3:(kd==3)=true:=by rw[k3];rfl
       have HF:Hid (Wd k=cl (bg+2*(a6+a5))):=by rw[To.out];unfold qr jC;rw[if_neg k0,if_pos k3,<-JZ.2];exact(rfl:cl (bg+2*(a6+a5))=_)
       obtain⟨q4,q5,q6,q8⟩:=im wr HBj;have FR:Hid (∀u,(u=wr\/u=wr.drew)->Cw 82 #[.agg #[Iq kd,Sq ab 12 12,.string ⟨t.toArray⟩,.slice kp j kc,Iq up]] u fun e w'=>e=Rw (Iq (a6+a5))/\Hid (Bt wr w')):=fun u hu=>by
        have iD:Bt wr u:=by
         rcases hu with rfl|rfl;·exact aj _ _
         ·exact(aj _ _).drew
        refine(pm kd ab ⟨t.toArray⟩ (.slice kp j kc) up a5 a6 u (aC iD q5) (aC iD q6) (by omega) (by omega)).mono ?_;rintro e w' ⟨rfl,hb⟩;exact⟨rfl,iD.trans (hb.mono iD.size)⟩
       obtain⟨h50,h51⟩:=Zp;obtain⟨h60,h61⟩:=Zq;clear k0 k3;go_wp2_with(first|(go_at_call 88;refine(CL _ _).mono ?_;rintro e u6 ⟨rfl,h6⟩;obtain rfl:=h6.symm)|(go_at_call 82;refine(FR _ (by first|exact .inl rfl|exact .inr rfl)).mono ?_;rintro e u7 ⟨rfl,qY⟩));go_ret;exact⟨by rw[HF.out];rfl,HBe.trans (qY.mono HBe.size)⟩
      ·have e3:(kd==3)=false:=by simp;exact k3
       have HF:Hid (Wd k=cl bg):=by rw[To.out];unfold qr jC;rw[if_neg k0,if_neg k3,<-JZ.2,JO,Ff];exact(rfl:cl bg=cl bg)
       clear k0 k3;go_wp2_with(go_at_call 88;refine(CL _ _).mono ?_;rintro e u6 ⟨rfl,h6⟩;obtain rfl:=h6.symm);go_ret;exact⟨by rw[HF.out];rfl,HBe⟩
def Z3(W:World)(X:Nat)(a b c:Int):Prop:=W.heap[X]?=some (.cells #[Iq a,Iq b,Iq c] 236 (0,0))
theorem Z3.lt{W}{X}{a b c}(h:Z3 W X a b c):X<W.heap.size:=(aM.1 h).1
theorem Z3.below{W W'}{X}{a b c}(h:Z3 W X a b c)(hb:Bt W W'):Z3 W' X a b c:=(hb.block X h.lt).trans h
theorem Z3.set{W}{X}{a b c}(h:Z3 W X a b c)  x y z  :Z3 (((W.setCell (az X 0) (Iq x)).setCell (az X 1) (Iq y)).setCell (az X 2) (Iq z)) X x y z:=Js h
theorem Z3.new(W:World)  a b c  :Z3 (W.alloc (.cells #[Iq a,Iq b,Iq c] 236)) W.heap.size a b c:=heap_alloc_new _ _
theorem Z3.cells{W}{X}{a b c}(h:Z3 W X a b c):W.cell? (az X 0)=some (Iq a)/\W.cell? (az X 1)=some (Iq b)/\W.cell? (az X 2)=some (Iq c)/\∀j,W.frozen? (az X j)=false:=
 ⟨by rw[Lib.cell_of_heap h];rfl,by rw[Lib.cell_of_heap h];rfl,by rw[Lib.cell_of_heap h];rfl,fun j=>frozen_of_row _ _ _ _ _ h⟩
def Ig(U U':World)(L:List Nd)(ks:List Nat)(N:Nat->Int)(e:Ending):Prop:=∃p c,e=Rw (.slice p ks.length c)/\(ks.length=0\/∃b,p=some (az b 0)/\fg U' b 0 ks.length (fun j=>wV (ae L (aP ks j)) (N j)) (fun j=>aF (ae L (aP ks j)) 2) (fun j=>aF (ae L (aP ks j)) 3))/\Bt U U'
def acI(U:World)(m:Nat)(L:List Nd)(ks:List Nat)(N:Nat->Int)(v iv:Value)(wr:World):Prop:=∃j:Nat,iv=Iq (j:Int)/\j<=m/\wr.ownsRow U.heap.size 236 3 v j (fT (fun j=>wV (ae L (aP ks j)) (N (aP ks j))) (fun j=>aF (ae L (aP ks j)) 2) (fun j=>aF (ae L (aP ks j)) 3) j)/\Bt U wr
def acX(wr:World)(M a2 a3:Int)(p:Value)(wx:World):Prop:=∃X,p=Pq X/\Hid (Z3 wx X M a2 a3)/\Hid (wr.heap.size<=X)/\Hid (Bt wr wx)
theorem B_{s:ByteArray}{L:List Nd}(hT:dZ s L)(f f2:Nat)(av:Array Value)(bv:Nat->Array Value)(N:Nat->Int)(g cap k:Nat)(hk:k<L.length)(U:World)(hN:ju U g L.length (ae L))
 (hf:Hid ((f=78/\f2=163/\av=#[Sq g L.length cap,Iq (k:Int)]/\bv=fun c:Nat=>#[Sq g L.length cap,Iq (c:Int)])\/∃w:Int,f=80/\f2=84/\av=#[Sq g L.length cap,Iq (k:Int),Iq w]/\bv=fun c:Nat=>#[Sq g L.length cap,Iq (c:Int),Iq w]))
 (WID:Hid (∀c,c<L.length->∀u,Bt U u->Cw f2 (bv c) u fun e U'=>e=Rw (Iq (N c))/\Hid (Bt u U'))):
 Cw f av U fun e U'=>Ig U U' L (ae L k).kids (fun j=>N (aP (ae L k).kids j)) e:=by
 have kD:prog.follows .mixedOrders=true:=by kernel_rfl
 obtain⟨i0,hi,eG,fs,gd⟩:=info_parts yC;obtain⟨ab,kv,hn⟩:=hN.nd k hk;obtain⟨kp,kc,pD,ru⟩:=hn.kids;subst pD;have dj:=hT.kids_le hk;have vk:=hT.vl.cnt;have HK3:Hid (∀u,Bt U u->u.cell? (az g (k*5+3))=some (.slice kp (ae L k).kids.length kc)):=fun u hu=>aC hu hn.c3;have BT:Hid ((ae L k).kids.length=0\/∃kb ko,kp=some (az kb ko)/\∀u,Bt U u->∀i,i<(ae L k).kids.length->u.cell? (az kb (ko+i))=some (Iq (aP (ae L k).kids i:Int))):=by
  rcases ru with e|⟨kb,ko,e,_,hc⟩;·exact .inl (by grind)
  ·exact .inr ⟨kb,ko,e,fun u hu i hi=>aC hu (hc i hi)⟩
 have Br:Hid (∀j,j<(ae L k).kids.length->aP (ae L k).kids j<L.length):=fun j hj=>(dM hT hk hj).2;have HN:Hid (∀u,Bt U u->ju u g L.length (ae L)):=fun u hu=>hN.below hu;have Uv:(k:Int)<(L.length:Int):=by omega
 generalize(ae L k).kids=ks at HK3 BT Br dj⊢;obtain⟨m,hm⟩:=ag ks.length;have HM:=qH<|hm;rw[hm]at HK3 BT Br dj;clear ru hn hN hm hT;rcases hf.out with⟨rfl,rfl,rfl,rfl⟩|⟨w,rfl,rfl,rfl,rfl⟩;all_goals
  first
   |go_enter func78,ntmps78
   |go_enter func80,ntmps80
  clear hf;go_wp2;first
   |(have:=w;clear this;go_loopw[7,8] (acI U m L ks N) (fun _ iv _=>m-(intOf iv).toNat))
   |go_loopw[5,6] (acI U m L ks N) (fun _ iv _=>m-(intOf iv).toNat)
  case atStart=>exact⟨0,rfl,aZ _,gF _ _ _ _,aj _ _⟩
  case round=>
   obtain⟨j,rfl,hj,bu,hbw⟩:=hrel;have c3:=HK3 wr hbw;have hzr:=hbw.size;by_cases hlt:j<m
   ·have aN:(j:Int)<(m:Int):=by omega
    obtain⟨kb,ko,rfl,Gm⟩:=BT.resolve_left (by omega);have k0:=Gm wr hbw j hlt;have hc:=Br j hlt;have HS:Hid (fT (fun j=>wV (ae L (aP ks j)) (N (aP ks j))) (fun j=>aF (ae L (aP ks j)) 2) (fun j=>aF (ae L (aP ks j)) 3) (j+1)=fT (fun j=>wV (ae L (aP ks j)) (N (aP ks j))) (fun j=>aF (ae L (aP ks j)) 2) (fun j=>aF (ae L (aP ks j)) 3) j++[Iq (wV (ae L (aP ks j)) (N (aP ks j))),Iq (aF (ae L (aP ks j)) 2),Iq (aF (ae L (aP ks j)) 3)]):=rfl;obtain⟨c,K1⟩:=ag (aP ks j);have WD:=WID (aP ks j) hc;obtain⟨abc,kvc,Pd⟩:=(HN wr hbw).nd (aP ks j) hc;rw[K1]at k0 hc HS WD Pd;have hcN:(c:Int)<(L.length:Int):=by omega
    have y0:=Pd.c0;have y1:=Pd.c1;have y2:=Pd.c2;have y3:=Pd.c3;have y4:=Pd.c4;obtain⟨kd,hkd⟩:∃z:Int,((ae L c).kind:Int)=z:=⟨_,rfl⟩;obtain⟨M,hMe⟩:=ag (wV (ae L c) (N c));obtain⟨x,MV⟩:=ag (N c);have WN:Hid (∀u,Bt wr u->Cw 162 #[.agg #[Iq kd,Sq abc 12 12,.string ⟨(ae L c).text.toArray⟩,kvc,Iq (ae L c).up],Iq x] u fun e u'=>e=Rw (.agg #[Iq M,Iq (aF (ae L c) 2),Iq (aF (ae L c) 3)])/\Hid (Bt u u')):=fun u hu=>by have:=L_ kd abc ⟨(ae L c).text.toArray⟩ kvc (ae L c).up (aF (ae L c) 1) (aF (ae L c) 2) (aF (ae L c) 3) x u (aC hu (Pd.att 1 (by omega))) (aC hu (Pd.att 2 (by omega))) (aC hu (Pd.att 3 (by omega)));rw[Rc,<-MV,hMe]at this;rw[<-MV];exact this
    have WD2:=qH WD;rw[MV]at WD2;rw[hMe]at HS;rw[hkd]at y0;generalize(ae L c).text=tx at y2 WN;generalize(ae L c).up=up at y4 WN;generalize aF (ae L c) 2=a2 at HS WN;generalize aF (ae L c) 3=a3 at HS WN;have HBW:=qH<|hbw;have HD1:=qH<|hbw.drew;have HD2:Hid (Bt U (wr.alloc (.cells #[Iq 0,Iq 0,Iq 0] 236)).drew):=(hbw.alloc hzr _).drew;have HE1:Hid (Bt wr wr.drew):=(aj _ _).drew;have HE2:Hid (Bt wr (wr.alloc (.cells #[Iq 0,Iq 0,Iq 0] 236)).drew):=((aj _ _).alloc (ai _) _).drew;have My:Hid (∀u,Bt wr u->u.cell? (az g (c*5))=some (Iq kd)/\u.cell? (az g (c*5+1))=some (Sq abc 12 12)/\u.cell? (az g (c*5+2))=some (.string ⟨tx.toArray⟩)/\u.cell? (az g (c*5+3))=some kvc/\u.cell? (az g (c*5+4))=some (Iq up)):=fun u hu=>⟨aC hu y0,aC hu y1,aC hu y2,aC hu y3,aC hu y4⟩;have ne0:=World.new_ne wr _ y0;clear Pd WD hkd hMe MV K1 Gm hbw;go_upto_region 6 with fail;first
     |(have:=w;clear this;go_cut[10]from 29 to 37 (acX wr M a2 a3))
     |go_cut[8]from 27 to 34 (acX wr M a2 a3)
    case first=>
     go_region_held(fun W=>W.cell? (az g (c*5))=some (Iq kd)/\W.cell? (az g (c*5+1))=some (Sq abc 12 12)/\W.cell? (az g (c*5+2))=some (.string ⟨tx.toArray⟩)/\W.cell? (az g (c*5+3))=some kvc/\W.cell? (az g (c*5+4))=some (Iq up)) (go_keep) (first
      |((first|go_at_call 163|go_at_call 84);(with_reducible refine ao (WD2.out _ HD1.out) ?_);rintro e q5 ⟨rfl,io⟩;have HF5:=qH<|HE1.out.trans (io.out.mono HE1.out.size);obtain⟨s0,s1,s2,s3,s4⟩:=My.out q5 HF5.out;have ne5:=World.new_ne q5 _ s0;have HF5A:Hid (Bt wr (q5.alloc (.cells #[Iq 0,Iq 0,Iq 0] 236))):=HF5.out.alloc HF5.out.size _)
      |((first|go_at_call 163|go_at_call 84);(with_reducible refine ao (WD2.out _ HD2.out) ?_);rintro e q5 ⟨rfl,io⟩;have HF5:=qH<|HE2.out.trans (io.out.mono HE2.out.size);obtain⟨s0,s1,s2,s3,s4⟩:=My.out q5 HF5.out;have ne5:=World.new_ne q5 _ s0;have ZA:=qH<|Z3.below (W:=(wr.alloc (.cells #[Iq 0,Iq 0,Iq 0] 236)).drew) (Z3.new wr 0 0 0) io.out;obtain⟨za0,za1,za2,za3⟩:=ZA.out.cells)
      |(go_at_call 162;(with_reducible refine ao (WN.out _ HF5.out) ?_);rintro e q6 ⟨rfl,kw⟩;have HF6:=qH<|HF5.out.trans (kw.out.mono HF5.out.size);obtain⟨t0,t1,t2,t3,t4⟩:=My.out q6 HF6.out;have ne6:=World.new_ne q6 _ t0;(try(have ZA6:=qH<|ZA.out.below kw.out;obtain⟨zb0,zb1,zb2,zb3⟩:=ZA6.out.cells)))
      |(go_at_call 162;(with_reducible refine ao (WN.out _ HF5A.out) ?_);rintro e q6 ⟨rfl,kw⟩;have HF6:=qH<|HF5A.out.trans (kw.out.mono HF5A.out.size);obtain⟨t0,t1,t2,t3,t4⟩:=My.out q6 HF6.out;have ne6:=World.new_ne q6 _ t0;have ZB6:=qH<|(Z3.new q5 0 0 0).below kw.out;obtain⟨zb0,zb1,zb2,zb3⟩:=ZB6.out.cells));all_goals
      go_wp2_with fail;go_meet;first
       |exact⟨_,rfl,ZA6.set _ _ _,ai _,((HF6.setCell (ai _) _).setCell (ai _) _).setCell (ai _) _⟩
       |exact⟨_,rfl,ZB6.set _ _ _,HF5.size,((HF6.setCell HF5.size _).setCell HF5.size _).setCell HF5.size _⟩
       |exact⟨_,rfl,Z3.new _ _ _ _,HF6.size,HF6.alloc HF6.size _⟩
    case rest=>
     obtain⟨X,rfl,HZ,HX,HBC⟩:=hcut;obtain⟨x0,x1,x2,_⟩:=HZ.cells;have Xa:=vP bu HBC;have hzc:=HBC.size;have M_:=qH<|HBW.trans (HBC.mono HBW.size);clear y0 y1 y2 y3 y4 k0 c3 bu;go_wp2_with(at_builtin;refine MB (W0:=U) hi eG fs gd Xa M_ [Iq M,Iq a2,Iq a3] rfl _ _ rfl underlying149 ⟨rfl,by decide,by decide⟩ rfl rfl ⟨rfl,rfl⟩ (by omega) ?_);intro v' w6 bD Gf;clear Xa;go_wp2;go_roundw;case rel=>exact⟨j+1,by go_num,by omega,by rw[HS.out];omega,Gf⟩
     grind[intOf]
   ·have tD:¬(j:Int)<(m:Int):=by omega
    obtain rfl:m=j:=by omega
    obtain⟨p,cp,rfl,tH⟩:=E7 bu;have HV:Hid (m=0\/∃b,p=some (az b 0)/\fg wr b 0 m (fun j=>wV (ae L (aP ks j)) (N (aP ks j))) (fun j=>aF (ae L (aP ks j)) 2) (fun j=>aF (ae L (aP ks j)) 3)):=by
     rcases tH with h|⟨lw,e,_,h⟩;·grind
     ·exact .inr ⟨lw,e,h⟩
    have HBW:=qH<|hbw;clear tH bu hbw;go_wp2;go_ret;refine⟨p,cp,by rw[HM.out];rfl,?_,HBW⟩;rw[HM.out];exact HV
theorem uB{s}{L}{Wd}{H}(hT:dZ s L)(hZ:Sz L Wd H)  g cap k  (hk:k<L.length)  U  (hN:ju U g L.length (ae L)):
 Cw 78 #[Sq g L.length cap,Iq (k:Int)] U fun e U'=>Ig U U' L (ae L k).kids (fun j=>Wd (aP (ae L k).kids j)) e:=
 B_ hT _ _ _ _ Wd g cap k hk U hN (.inl ⟨rfl,rfl,rfl,rfl⟩) fun c hc u hu=>za hT hZ g cap L.length c (by omega) hc u (hN.below hu)
theorem VW{s}{L}{Wd}{H}(hT:dZ s L)(hZ:Sz L Wd H)(U:World){k}(hk:k<L.length)(h5:(ae L k).kind≠5){w}(hw0:0<=w)(eQ:w<=100000):
 ∃V,(∀j,j<(ae L k).kids.length->0<=V j/\V j<=100000)/\((ae L k).kind=0->(ae L k).kids.length=0\/ci L (ae L k).kids (fun j=>Wd (aP (ae L k).kids j)) w (aF (ae L k) 4) V)/\((ae L k).kind=3->∀j,V j=max 0 (w-2*(aF (ae L k) 6+aF (ae L k) 5)))/\((ae L k).kind≠0->(ae L k).kind≠3->∀j,V j=w)/\H k w=qj (ae L k) (fun j=>H (aP (ae L k).kids j) (V j)):=by
 have dj:=hT.kids_le hk;by_cases h0:(ae L k).kind=0
 ·by_cases hm:(ae L k).kids.length=0;·exact⟨fun _=>0,fun j hj=>by omega,fun _=>.inl hm,fun h=>by omega,fun h=>absurd h0 h,hZ.hr k w _ hk h0 (.inl (ni hm))⟩
  ·obtain⟨V,hV⟩:=yH L (ae L k).kids (fun j=>Wd (aP (ae L k).kids j)) w (aF (ae L k) 4) U (by omega) (by omega);refine⟨V,fun j hj=>?_,fun _=>.inr hV,fun h=>by omega,fun h=>absurd h0 h,hZ.hr k w V hk h0 (.inr hV)⟩;have:=(cO.tiles hV (vg _ _ _)).1 j hj;exact⟨this.1,jl this.2 (iP _ _).2⟩
 ·have e:=hZ.ho k w hk h5 h0;have hbd:=(hT.vl.nv k hk).bd;obtain⟨_,_,b5,b6,_⟩:=hbd;refine⟨fun _=>inW (ae L k) w,fun j _=>?_,fun h=>absurd h h0,fun h j=>?_,fun _ h j=>?_,e⟩;all_goals grind[inW,ae,jC]
def WV(W:World)(kd:Int)(m:Nat)(V:Nat->Int)(v:Value):Prop:=kd=0->0<m->∃ob,v=Sq ob m m/\∀i,i<m->W.cell? (az ob i)=some (Iq (V i))
theorem WV.below{W W'}{kd}{m}{V}{v}(h:WV W kd m V v)(hb:Bt W W'):WV W' kd m V v:=fun a b=>by obtain⟨ob,e,c⟩:=h a b;grind[aC]
theorem Dj{s:ByteArray}{L:List Nd}{Wd:Nat->Int}{H:Nat->Int->Int}(hT:dZ s L)(hZ:Sz L Wd H)(g cap k:Nat)(h2:k<L.length)(w:Int)(hw0:0<=w)(eQ:w<=100000)(U:World)(hN:ju U g L.length (ae L))(h5:¬(ae L k).kind=5)(Br:Hid (∀j,j<(ae L k).kids.length->∀x,0<=x->x<=100000->∀u,Bt U u->Cw 84 #[Sq g L.length cap,Iq (aP (ae L k).kids j:Int),Iq x] u fun e U'=>e=Rw (Iq (H (aP (ae L k).kids j) x))/\Hid (Bt u U'))):
 Cw 84 #[Sq g L.length cap,Iq (k:Int),Iq w] U fun e U'=>e=Rw (Iq (H k w))/\Hid (Bt U U'):=by
 have kD:prog.follows .mixedOrders=true:=by kernel_rfl
 have GE:=qH<|greatest_any;have CL:=qH<|rCl_any;obtain⟨ab,kp,kc,W1,An,cC,hAn,HB1,⟨c0,c1,c2,c3,c4⟩,cZ,im,BT⟩:=hN.opens h2;have mN:=(hT.vl.nv k h2).bd;have uf:=hT.vl.tl k h2;have f_:=hT.sz;have vk:=hT.vl.cnt;have dj:=hT.kids_le h2;obtain⟨z0,z1,z2,z3,z4⟩:=cZ W1 (aj _ _);obtain⟨y4,y5,y6,y8⟩:=im W1 (aj _ _);have Uv:(k:Int)<(L.length:Int):=by omega
 obtain⟨V,hV,hV0,_0,hVo,hHe⟩:=VW hT hZ U h2 h5 hw0 eQ;obtain⟨kd,hkd⟩:∃z:Int,((ae L k).kind:Int)=z:=⟨_,rfl⟩;have e5:(kd==5)=false:=by simp;omega
 have JV:Hid (H k w=cl (pi kd (aF (ae L k) 4) (aF (ae L k) 5) (aF (ae L k) 6) (fun j=>H (aP (ae L k).kids j) (V j)) (ae L k).kids.length)):=by rw[hHe,zU,<-hkd];exact(rfl:bc (pi ((ae L k).kind:Int) _ _ _ _ _)=_)
 have HV0:Hid (kd=0->(ae L k).kids.length=0\/ci L (ae L k).kids (fun j=>Wd (aP (ae L k).kids j)) w (aF (ae L k) 4) V):=fun q=>hV0 (by omega);have Bo:Hid (kd=3->∀j,V j=max 0 (w-2*(aF (ae L k) 6+aF (ae L k) 5))):=fun q=>_0 (by omega);have HVo:Hid (kd≠0->kd≠3->∀j,V j=w):=fun q r=>hVo (by omega) (by omega);have HVB:=qH<|hV;have Se:Hid (∀j,j<(ae L k).kids.length->0<=H (aP (ae L k).kids j) (V j)/\H (aP (ae L k).kids j) (V j)<=100000):=fun j hj=>hZ.hb _ _ (dM hT h2 hj).2;have zC:=qH<|fun j hj u hu=>Br j hj _ (hV j hj).1 (hV j hj).2 u hu;have AC:=qH<|fun u hu=>uB hT hZ g cap k h2 u (hN.below hu);obtain⟨_,Zo,Zp,Zq,_⟩:=mN;rw[hkd]at z0 c0 cC cZ;generalize(ae L k).text=t at z2 c2 cC cZ;generalize(ae L k).up=up at z4 c4 cC cZ;generalize aF (ae L k) 4=a4 at y4 im JV Zo HV0;generalize aF (ae L k) 5=a5 at y5 im JV Zp Bo;generalize aF (ae L k) 6=a6 at y6 im JV Zq Bo;generalize(ae L k).kids=ks at z3 c3 cC cZ JV HV0 HVB Se zC BT dj AC;obtain⟨hh,SA⟩:∃z:Nat->Int,(fun j=>H (aP ks j) (V j))=z:=⟨_,rfl⟩;have _8:∀j,H (aP ks j) (V j)=hh j:=fun j=>by grind
 rw[SA]at JV;simp only[_8]at Se zC;obtain⟨m,hm⟩:=ag ks.length;have SP:Hid (kd=0->∀u,Bt U u->Cw 78 #[Sq g L.length cap,Iq (k:Int)] u fun e u'=>∃p c,e=Rw (.slice p m c)/\Hid (Bt u u')/\Hid (Cw 77 #[Iq w,Iq a4,.slice p m c] u' fun e x=>∃v,e=Rw v/\Hid (Bt u' x)/\Hid (WV x kd m V v))):=fun q u hu=>by
  refine(AC u hu).mono ?_;rintro e u' ⟨p,c,rfl,hr,hb⟩;rw[hm]at hr⊢;refine⟨p,c,rfl,hb,?_⟩;rcases hr with h0|⟨b,rfl,hr⟩;·rw[h0];refine(m6 p c w a4 u').mono ?_;rintro e x ⟨q',rfl,jF⟩;exact⟨_,rfl,jF,fun _ h=>by omega⟩
  ·by_cases hm0:m=0;·subst hm0;refine(m6 _ c w a4 u').mono ?_;rintro e x ⟨q',rfl,jF⟩;exact⟨_,rfl,jF,fun _ h=>by omega⟩
   ·have hsp:=(HV0 q).resolve_left (by omega);unfold ci at hsp;rw[hm]at hsp;refine(m5 m b 0 c _ _ _ w a4 u' hr (by omega) (by omega) V hsp).mono ?_;rintro e x ⟨ob,rfl,_,hf,jF⟩;exact⟨_,rfl,jF,fun _ _=>⟨ob,rfl,fun i hi=>by have:=(hf.2 i hi).1;grind⟩⟩
 rw[hm]at z3 c3 cC cZ JV HVB Se zC BT dj;obtain⟨ziW,ziX⟩:=Zo;obtain⟨h50,h51⟩:=Zp;obtain⟨h60,h61⟩:=Zq;clear Br HV0 uf hkd SA _8 hm h5 hV hV0 _0 hVo hHe AC hN;go_enter func84,ntmps84;go_upto_if 41 with fail;clear c0 c1 c2 c3 c4 cC hAn;go_cut[10,41]from 42 to 50 (fun v _ wx=>Hid (Bt W1 wx)/\Hid (WV wx kd m V v));case first=>
  by_cases k0:kd=0
  ·have e0:(kd==0)=true:=by rw[k0];rfl
   have SP2:=qH<|SP k0;have HD:=qH<|HB1.drew;have HE:Hid (Bt W1 W1.drew):=(aj _ _).drew;clear k0 SP;go_wp2_with fail;go_region_held(fun W=>W.cell? (az An 1)=some (Sq ab 12 12)/\W.cell? (az ab 4)=some (Iq a4)) (go_keep) (first
    |(go_at_call 78;refine ao (SP2 _ HD) ?_;rintro e u5 ⟨p,c,rfl,io,BU⟩;have HF5:=qH<|HE.trans (io.mono HE.size);have s1:=(cZ u5 HF5).2.1;have s4:=(im u5 HF5).1)
    |(go_at_call 77;refine ao BU ?_;rintro e u6 ⟨v6,rfl,kw,HWV⟩;have HF6:=qH<|HF5.trans (kw.mono HF5.size);have t1:=(cZ u6 HF6).2.1;have t4:=(im u6 HF6).1));all_goals go_wp2_with fail;go_meet;grind
  ·have e0:(kd==0)=false:=by simp;exact k0
   have Tg:=qH<|k0;clear k0 SP;go_wp2_with fail;go_meet;exact⟨aj _ _,fun q=>absurd q Tg⟩
 case rest=>
  obtain⟨HBC,HWC⟩:=hcut;clear z0 z1 z2 z3 z4 y4 y5 y6 y8 SP;go_wp2;go_loopw[8,9,11] (fun sv bv iv wr=>∃(j:Nat) (sm bg:Int),j<=m/\iv=Iq (j:Int)/\sv=Iq sm/\bv=Iq bg/\0<=sm/\sm<=(j:Int)*100100/\0<=bg/\bg<=100000/\Hid (sm=hS hh j+h_ a4 j/\bg=hG hh j)/\Hid (Bt wc wr)) (fun _ _ iv _=>m-(intOf iv).toNat);case atStart=>exact⟨0,0,0,aZ _,rfl,rfl,rfl,by omega,by omega,by omega,by omega,⟨by grind[hS,h_],rfl⟩,aj _ _⟩
  case round=>
   obtain⟨j,sm,bg,hj,rfl,rfl,rfl,FC,hs1,hg0,sw,JZ,HBj0⟩:=hrel;have HBj:=qH<|HBC.trans (HBj0.mono HBC.size);have HUj:=qH<|HB1.trans (HBj.mono HB1.size);obtain⟨z0,z1,z2,z3,z4⟩:=cZ wr HBj;obtain⟨y4,y5,y6,y8⟩:=im wr HBj;have FR:Hid (∀u,(u=wr\/u=wr.drew)->Cw 82 #[.agg #[Iq kd,Sq ab 12 12,.string ⟨t.toArray⟩,.slice kp m kc,Iq up]] u fun e w'=>e=Rw (Iq (a6+a5))/\Hid (Bt wr w')):=fun u hu=>by
    have iD:Bt wr u:=by
     rcases hu with rfl|rfl;·exact aj _ _
     ·exact(aj _ _).drew
    refine(pm kd ab ⟨t.toArray⟩ (.slice kp m kc) up a5 a6 u (aC iD y5) (aC iD y6) (by omega) (by omega)).mono ?_;rintro e w' ⟨rfl,hb⟩;exact⟨rfl,iD.trans (hb.mono iD.size)⟩
   by_cases hlt:j<m
   ·have aN:(j:Int)<(m:Int):=by omega
    obtain⟨kb,ko,rfl,Gm⟩:=BT.resolve_left (by omega);have HKC:=qH<|fun u hu=>Gm u hu j hlt;have k0:=HKC wr HBj;have KD0:=zC j hlt;have hx:=Se j hlt;have zy:Hid (hS hh (j+1)+h_ a4 (j+1)=hS hh j+hh j+(h_ a4 j+(if 0<j then a4 else 0))/\hG hh (j+1)=max (hG hh j) (hh j)):=⟨by rw[C0];rfl,rfl⟩;generalize aP ks j=cc at HKC k0 KD0;obtain⟨x,MV⟩:=ag (hh j);rw[MV]at hx KD0 zy;obtain⟨BM,sC⟩:=hx;have JW:(kd=0/\(kd==0)=true/\(kd==3)=false)\/(kd=3/\(kd==0)=false/\(kd==3)=true)\/((kd≠0/\kd≠3)/\(kd==0)=false/\(kd==3)=false):=by
     by_cases q0:kd=0;·exact .inl ⟨q0,by rw[q0];rfl,by rw[q0];rfl⟩
     ·by_cases q3:kd=3;·exact .inr (.inl ⟨q3,by rw[q3];rfl,by rw[q3];rfl⟩)
      ·exact .inr (.inr ⟨⟨q0,q3⟩,by simpa using q0,by simpa using q3⟩)
    obtain⟨vj,_F,KD⟩:∃vj,Hid ((kd=0/\∃ob,u10=Sq ob m m/\wr.cell? (az ob j)=some (Iq vj))\/(kd=3/\vj=max 0 (w-2*(a6+a5)))\/((kd≠0/\kd≠3)/\vj=w))/\Hid (∀u,Bt U u->Cw 84 #[Sq g L.length cap,Iq (cc:Int),Iq vj] u fun e U'=>e=Rw (Iq x)/\Hid (Bt u U')):=by
     refine⟨V j,?_,KD0⟩;rcases JW with⟨q,_⟩|⟨q,_⟩|⟨q,_⟩;·obtain⟨ob,e,hc⟩:=(HWC.below HBj0) q (by omega);exact .inl ⟨q,ob,e,hc j hlt⟩
     ·exact .inr (.inl ⟨q,Bo q j⟩)
     ·exact .inr (.inr ⟨q,HVo q.1 q.2 j⟩)
    obtain⟨gv,hgv,HNX⟩:∃gv,((0<j/\(0:Int)<(j:Int)/\gv=a4)\/(¬0<j/\¬(0:Int)<(j:Int)/\gv=0))/\Hid (sm+x+gv=hS hh (j+1)+h_ a4 (j+1)/\max bg x=hG hh (j+1)):=by
     obtain⟨e1,e2⟩:=JZ.out;obtain⟨f1,f2⟩:=zy.out;by_cases Ut:0<j;·rw[if_pos Ut]at f1;exact⟨a4,.inl ⟨Ut,by omega,rfl⟩,by omega,by rw[f2,<-e2]⟩
     ·rw[if_neg Ut]at f1;exact⟨0,.inr ⟨Ut,by omega,rfl⟩,by omega,by rw[f2,<-e2]⟩
    clear Gm MV zy JZ KD0 HWC HVB Se zC;rcases JW with⟨q,e0,e3⟩|⟨q,e0,e3⟩|⟨q,e0,e3⟩;focus
     obtain⟨ob,hub,w9⟩:∃ob,u10=Sq ob m m/\wr.cell? (az ob j)=some (Iq vj):=by
      rcases _F.out with h|h|h;·exact h.2
      ·omega
      ·omega
     subst hub;clear _F q
    rotate_left;focus
     obtain rfl:vj=max 0 (w-2*(a6+a5)):=by
      rcases _F.out with h|h|h;·omega
      ·exact h.2
      ·omega
     clear _F q
    rotate_left;focus
     obtain rfl:vj=w:=by
      rcases _F.out with h|h|h;·omega
      ·omega
      ·exact h.2
     clear _F q
    rotate_left;all_goals
     rcases hgv with⟨Ut,Y8,hq⟩|⟨Ut,Y8,hq⟩;all_goals
      obtain rfl:=hq.symm;go_wp2_with(first
       |(go_at_call 82;refine(FR _ (by first|exact .inl rfl|exact .inr rfl)).mono ?_;rintro e u7 ⟨rfl,qY⟩;have HC7:=qH<|HBj0.trans (qY.mono HBj0.size);have HW7:=qH<|HBC.trans (HC7.mono HBC.size);have HU7:=qH<|HB1.trans (HW7.mono HB1.size);have r3:=(cZ u7 HW7).2.2.2.1;have r5:=HKC u7 HW7)
       |(go_at_call 84;(with_reducible refine ao (KD.out _ HUj.out) ?_);rintro e u5 ⟨rfl,io⟩;have yb:=qH<|HBj0.out.trans (io.out.mono HBj0.out.size);have Yd:=qH<|HBC.out.trans (yb.out.mono HBC.out.size);have q1:=(cZ.out u5 Yd.out).2.1;have q4:=(im.out u5 Yd.out).1)
       |(go_at_call 84;(with_reducible refine ao (KD.out _ HU7.out) ?_);rintro e u5 ⟨rfl,io⟩;have yb:=qH<|HC7.out.trans (io.out.mono HC7.out.size);have Yd:=qH<|HBC.out.trans (yb.out.mono HBC.out.size);have q1:=(cZ.out u5 Yd.out).2.1;have q4:=(im.out u5 Yd.out).1)
       |(go_at_call 83;refine(GE _ _ _).mono ?_;rintro e u6 ⟨rfl,h6⟩;obtain rfl:=h6.symm));go_roundw;case rel=>first
       |exact⟨j+1,sm+x+a4,max bg x,by omega,by go_num,by go_num,rfl,by omega,by push_cast;omega,by omega,by omega,HNX,yb⟩
       |exact⟨j+1,sm+x,max bg x,by omega,by go_num,by go_num,rfl,by omega,by push_cast;omega,by omega,by omega,⟨by have:=HNX.1;omega,HNX.2⟩,yb⟩
      case measure=>simp[intOf];omega
   ·have aN:¬(j:Int)<(m:Int):=by omega
    obtain rfl:j=m:=by omega
    by_cases k1:kd=1
    ·have e1:(kd==1)=true:=by rw[k1];rfl
     have HF:Hid (H k w=cl sm):=by rw[JV.out];unfold pi;rw[if_pos k1,<-JZ.1];exact(rfl:cl sm=cl sm)
     clear k1;go_wp2_with(go_at_call 88;refine(CL _ _).mono ?_;rintro e u6 ⟨rfl,h6⟩;obtain rfl:=h6.symm);go_ret;exact⟨by rw[HF.out];rfl,HUj⟩
    ·have e1:(kd==1)=false:=by simp;exact k1
     by_cases k3:kd=3
     ·have e3:(kd==3)=true:=by rw[k3];rfl
      have HF:Hid (H k w=cl (bg+2*(a6+a5))):=by rw[JV.out];unfold pi jC;rw[if_neg k1,if_pos k3,<-JZ.2];exact(rfl:cl (bg+2*(a6+a5))=_)
      clear k1 k3;go_wp2_with(first|(go_at_call 88;refine(CL _ _).mono ?_;rintro e u6 ⟨rfl,h6⟩;obtain rfl:=h6.symm)|(go_at_call 82;refine(FR _ (by first|exact .inl rfl|exact .inr rfl)).mono ?_;rintro e u7 ⟨rfl,qY⟩));go_ret;exact⟨by rw[HF.out];rfl,HUj.trans (qY.mono HUj.size)⟩
     ·have e3:(kd==3)=false:=by simp;exact k3
      have HF:Hid (H k w=cl bg):=by rw[JV.out];unfold pi jC;rw[if_neg k1,if_neg k3,<-JZ.2,JO,Ff];exact(rfl:cl bg=cl bg)
      clear k1 k3;go_wp2_with(go_at_call 88;refine(CL _ _).mono ?_;rintro e u6 ⟨rfl,h6⟩;obtain rfl:=h6.symm);go_ret;exact⟨by rw[HF.out];rfl,HUj⟩
