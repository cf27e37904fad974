import Derived.Test.YtaanagpadfcmlaaGreatDoorQ44
import Derived.Test.YtaanagpadfcmlaaGreatDoorQ42
import Derived.Test.YtaanagpadfcmlaaGreatDoorQ13
set_option linter.all false
set_option maxRecDepth 100000
set_option maxHeartbeats 16000000
namespace Go.Proofs.YtaanagpadfcmlaaGreatDoor
open Go.RowKit Go.Sort Go.Proofs.Tryz
def KN(kd:Int)(ab:Nat)(tx:ByteArray)(kv:Value)(up:Int):Value:=.agg #[Iq kd,Sq ab 12 12,.string tx,kv,Iq up]
theorem ip.opens{U:World}{g n:Nat}{L:Nat->Nd}(s:ip U g n L){k:Nat}(v:k<n):∃ab d h c j,U.alloc (.cells #[Iq ((L k).kind:Int),Sq ab 12 12,.string ⟨(L k).text.toArray⟩,.slice d (L k).kids.length h,Iq (L k).up] 100)=c/\U.heap.size=j/\Hid (Bt U c)/\(U.cell? (aj g (k*5))=some (Iq ((L k).kind:Int))/\U.cell? (aj g (k*5+1))=some (Sq ab 12 12)/\U.cell? (aj g (k*5+2))=some (.string ⟨(L k).text.toArray⟩)/\U.cell? (aj g (k*5+3))=some (.slice d (L k).kids.length h)/\U.cell? (aj g (k*5+4))=some (Iq (L k).up))/\Hid (∀u,Bt c u->u.cell? (aj j 0)=some (Iq ((L k).kind:Int))/\u.cell? (aj j 1)=some (Sq ab 12 12)/\u.cell? (aj j 2)=some (.string ⟨(L k).text.toArray⟩)/\u.cell? (aj j 3)=some (.slice d (L k).kids.length h)/\u.cell? (aj j 4)=some (Iq (L k).up))/\Hid (∀u,Bt c u->u.cell? (aj ab 4)=some (Iq (ap (L k) 4))/\u.cell? (aj ab 5)=some (Iq (ap (L k) 5))/\u.cell? (aj ab 6)=some (Iq (ap (L k) 6))/\u.cell? (aj ab 8)=some (Iq (ap (L k) 8)))/\Hid ((L k).kids.length=0\/∃o p,d=some (aj o p)/\∀u,Bt c u->∀i,i<(L k).kids.length->u.cell? (aj o (p+i))=some (Iq (aH (L k).kids i:Int))):=by
 obtain⟨ab,w,b⟩:=s.nd k v;obtain⟨d,h,r,q⟩:=b.kids;subst r;obtain⟨c,f⟩:=ad (U.alloc (.cells #[Iq ((L k).kind:Int),Sq ab 12 12,.string ⟨(L k).text.toArray⟩,.slice d (L k).kids.length h,Iq (L k).up] 100));have l:=heap_alloc_new U (.cells #[Iq ((L k).kind:Int),Sq ab 12 12,.string ⟨(L k).text.toArray⟩,.slice d (L k).kids.length h,Iq (L k).up] 100);have a:Bt U c:=by rw[<-f];exact((Gr.refl U).alloc _).below
 rw[f]at l;refine⟨ab,d,h,c,_,f,rfl,a,⟨b.c0,b.c1,b.c2,b.c3,b.c4⟩,λu hu=>?_,λu hu=>?_,?_⟩;·refine⟨?_,?_,?_,?_,?_⟩<;>exact an hu (by rw[Lib.cell_of_heap l];rfl)
 ·have m:=a.trans (hu.mono a.size);exact⟨an m (b.att 4 dg),an m (b.att 5 dg),an m (b.att 6 dg),an m (b.att 8 dg)⟩
 ·rcases q with e|⟨o,p,e,_,t⟩;·exact .inl (by rw[e];rfl)
  ·exact .inr ⟨o,p,e,λu hu i hi=>an (a.trans (hu.mono a.size)) (t i hi)⟩
theorem uW x:cl x=aO x:=by grind[cl,aO]
theorem mz(i:Int)(ab:Nat)(tx:ByteArray)(j:Value)(up f g:Int)(w:World)(c5:w.cell? (aj ab 5)=some (Iq f))(l:w.cell? (aj ab 6)=some (Iq g))(o:0<=f/\f<=1000000)(r:0<=g/\g<=1000000):
 Cw 154 #[KN i ab tx j up] w λe w'=>e=Rw (Iq (g+f))/\Hid (Bt w w'):=by
 have m:prog.follows .mixedOrders=true:=ns;unfold KN;obtain⟨p,q⟩:=o;obtain⟨s,t⟩:=r;obtain⟨h,c⟩:=ad (w.alloc (.cells #[Iq i,Sq ab 12 12,.string tx,j,Iq up] 100));obtain⟨k,b⟩:=ad w.heap.size;have d:h.heap[k]?=some (.cells #[Iq i,Sq ab 12 12,.string tx,j,Iq up] 100 (0,0)):=by rw[<-c,<-b];exact heap_alloc_new _ _
 have a:Hid (Bt w h):=by rw[<-c];exact((Gr.refl w).alloc _).below
 have d5:=an a c5;have d6:=an a l;have d1:h.cell? (aj k 1)=some (Sq ab 12 12):=by rw[Lib.cell_of_heap d];rfl
 have n:=qH<|b;clear c5 l d;go_enter func154,ntmps154;go_wp2_with fail;go_quiet(fail);go_wp2;go_ret;exact⟨rfl,cX a _⟩
theorem DO{w:World}{B}{t}{d e f a b c}(h:w.heap[B]?=some (.cells #[d,e,f] t (0,0))):
 (((w.setCell (aj B 0) a).setCell (aj B 1) b).setCell (aj B 2) c).heap[B]?=some (.cells #[a,b,c] t (0,0)):=by rw[heap_setCell_same _ _ _ _ _ _ (heap_setCell_same _ _ _ _ _ _ (heap_setCell_same _ _ _ _ _ _ h))];rfl
def nF(a1 a2 a3 x:Int):Int:=if a3=0 then max a1 (if 0<=a2 then min x a2 else x)else a1
theorem J4 d x:nF (ap d 1) (ap d 2) (ap d 3) x=sy d x:=by
 unfold nF sy m5;split
 ·by_cases h:ap d 2<0;·rw[if_pos h,if_neg dg]
  ·rw[if_neg h,if_pos dg]
 ·rfl
theorem F4(y:Int)(ab:Nat)(tx:ByteArray)(z:Value)(up g i l x:Int)(w:World)(c1:w.cell? (aj ab 1)=some (Iq g))(c2:w.cell? (aj ab 2)=some (Iq i))(c3:w.cell? (aj ab 3)=some (Iq l)):
 Cw 205 #[KN y ab tx z up,Iq x] w λe w'=>e=Rw (.agg #[Iq (nF g i l x),Iq i,Iq l])/\Hid (Bt w w'):=by
 have D:prog.follows .mixedOrders=true:=ns;unfold KN;have LE:=qH<|least_any;have GE:=qH<|greatest_any;obtain⟨h,m⟩:=ad ((w.alloc (.cells #[Iq y,Sq ab 12 12,.string tx,z,Iq up] 100)).alloc (.cells #[Iq 0,Iq 0,Iq 0] 291));obtain⟨u,p⟩:=ad w.heap.size;obtain⟨f,C⟩:=ad (u+1);have s:(w.alloc (.cells #[Iq y,Sq ab 12 12,.string tx,z,Iq up] 100)).heap.size=f:=by rw[au,p];exact C
 have r:h.heap[u]?=some (.cells #[Iq y,Sq ab 12 12,.string tx,z,Iq up] 100 (0,0)):=by rw[<-m,<-p,cK _ _ _ (by rw[au];omega)];exact heap_alloc_new _ _
 have d:h.heap[f]?=some (.cells #[Iq 0,Iq 0,Iq 0] 291 (0,0)):=by rw[<-m,<-s];exact heap_alloc_new _ _
 have k:Hid (Bt w h):=by rw[<-m];exact(((Gr.refl w).alloc _).alloc _).below
 have d1:=an k c1;have d2:=an k c2;have d3:=an k c3;have H:ab<u:=by rw[<-p];exact jK w _ c1
 have J:h.cell? (aj u 1)=some (Sq ab 12 12):=by rw[Lib.cell_of_heap r];rfl
 have I:∀j,h.frozen? (aj f j)=false:=λj=>frozen_of_row _ _ _ _ _ d;have K:h.cell? (aj f 0)=some (Iq 0):=by rw[Lib.cell_of_heap d];rfl
 have L:h.cell? (aj f 1)=some (Iq 0):=by rw[Lib.cell_of_heap d];rfl
 have M:h.cell? (aj f 2)=some (Iq 0):=by rw[Lib.cell_of_heap d];rfl
 have G:h.heap.size=f+1:=by rw[<-m,au,s]
 have n:Hid (∀a b c,Bt w (((h.setCell (aj f 0) a).setCell (aj f 1) b).setCell (aj f 2) c)):=λa b c=>((k.setCell (by show w.heap.size<=f;omega) _).setCell (by show w.heap.size<=f;omega) _).setCell (by show w.heap.size<=f;omega) _;have q:=qH<|d;clear c1 c2 c3 r d;go_enter func205,ntmps205;by_cases o:l=0
 ·have F:(l==0)=true:=by rw[o];rfl
  by_cases t:0<=i;focus
   have E:=decide_eq_true t;have v:Hid (nF g i l x=max g (min x i)):=by unfold nF;rw[if_pos o,if_pos t];exact(rfl:max g (min x i)=max g (min x i))
   clear o
  rotate_left;focus
   have E:=decide_eq_false t;have v:Hid (nF g i l x=max g x):=by unfold nF;rw[if_pos o,if_neg t];exact(rfl:max g x=max g x)
   clear o t
  rotate_left;all_goals go_wp2_with(first|(go_at_call 74;refine(LE _ _ _).mono ?_;rintro e u5 ⟨rfl,A⟩;obtain rfl:=A.symm)|(go_at_call 73;refine(GE _ _ _).mono ?_;rintro e u6 ⟨rfl,B⟩;obtain rfl:=B.symm));go_region;all_goals go_wp2;refine bodyPost_ret (results_cell_row rfl _ _ f _ _ _ _ rfl (DO q) underlying291 rfl ns) rfl ?_;exact⟨by rw[v.out],(n _ _ _).drew⟩
 ·have F:(l==0)=false:=by simp;exact o
  have v:Hid (nF g i l x=g):=by unfold nF;rw[if_neg o];exact(rfl:g=g)
  clear o;go_wp2_with(first|(go_at_call 74;refine(LE _ _ _).mono ?_;rintro e u5 ⟨rfl,A⟩;obtain rfl:=A.symm)|(go_at_call 73;refine(GE _ _ _).mono ?_;rintro e u6 ⟨rfl,B⟩;obtain rfl:=B.symm));go_region;all_goals go_wp2;refine bodyPost_ret (results_cell_row rfl _ _ f _ _ _ _ rfl (DO q) underlying291 rfl ns) rfl ?_;exact⟨by rw[v.out],(n _ _ _).drew⟩
theorem xe a i:fE a (i+1)=fE a i+(if 0<i then a else 0):=by grind[fE]
def oJ(t:List UInt8)(j:Nat):Int:=I8 (((bj t).take j).map l4)
theorem bigTo_next{t}{j}{x}(h:(bj t)[j]?=some x):oJ t (j+1)=max (oJ t j) (l4 x):=by unfold oJ;rw[List.take_add_one,h,kQ];exact xP _ _
theorem Ex t:oJ t (bj t).length=td t:=by grind[oJ,td]
theorem Jl{t x}:∀{j:Nat},(bj t)[j]?=some x->x.length<=t.length:=by
 induction t generalizing x with
 |nil=>intro j h;cases j with
  |zero=>simp[bj]at h;subst h;exact ae _
  |succ j=>simp[bj]at h
 |cons c t a=>
  intro j h;unfold bj at h;by_cases e:c=10;·rw[if_pos e]at h;cases j with
   |zero=>simp at h;subst h;simp
   |succ j=>simp at h;have:=a h;simp;omega
  ·rw[if_neg e]at h;revert h;split;·intro h;cases j with
    |zero=>simp at h;subst h;simp
    |succ j=>simp at h
   ·rename_i p b hp;intro h;cases j with
    |zero=>simp at h;subst h;have:=a (x:=p) (j:=0) (by rw[hp];rfl);simp;omega
    |succ j=>simp at h;have:=a (x:=x) (j:=j+1) (by rw[hp];simpa using h);simp;omega
theorem um{s:ByteArray}{L:List Nd}{E:Nat->Int}{H:Nat->Int->Int}(hT:dp s L)(hZ:Sz L E H)(g P:Nat):∀f k,L.length<=k+f->k<L.length->∀U,ip U g L.length (aa L)->
 Cw 206 #[Sq g L.length P,Iq (k:Int)] U λe U'=>e=Rw (Iq (E k))/\Hid (Bt U U')
 |0,k,h1,Z,U,hN=>dg
 |f+1,k,h1,Z,U,hN=>by
  have zF:prog.follows .mixedOrders=true:=ns;have zb:Hid (∀j,j<(aa L k).kids.length->∀u,Bt U u->Cw 206 #[Sq g L.length P,Iq (aH (aa L k).kids j:Int)] u λe U'=>e=Rw (Iq (E (aH (aa L k).kids j)))/\Hid (Bt u U')):=λj V u hu=>by have:=di hT Z V;exact um hT hZ g P f _ dg this.2 u (hN.below hu)
  have GE:=qH<|greatest_any;have CL:=qH<|rCl_any;obtain⟨ab,kp,kc,W1,An,h,zA,v,⟨c0,c1,c2,c3,c4⟩,i,q,C⟩:=hN.opens Z;have zo:=(hT.vl.nv k Z).bd;have zg:=hT.vl.tl k Z;have zT:=hT.sz;have hw:=hZ.w k Z;have zE:=hT.vl.cnt;have zn:=hT.kids_le Z;have za:Hid (∀j,j<(aa L k).kids.length->0<=E (aH (aa L k).kids j)/\E (aH (aa L k).kids j)<=100000):=λj V=>hZ.wb _ (di hT Z V).2;obtain⟨z0,z1,z2,z3,z4⟩:=i W1 (af _ _);have zP:(k:Int)<(L.length:Int):=dg
  clear hN;by_cases h5:(aa L k).kind=5
  ·have o:Hid (E k=cl (td (aa L k).text)):=by rw[hw,uW];unfold m8;rw[if_pos h5];exact(rfl:aO (td (aa L k).text)=_)
   rw[h5,show((5:Nat):Int)=5 from rfl]at z0 c0 h;generalize(aa L k).text=t at z2 c2 h zg o;generalize(aa L k).up=up at z4 c4 h;generalize(aa L k).kids.length=m at z3 c3 h;have PG:Hid (∀u,Cw 80 #[.string ⟨t.toArray⟩] u λe u'=>Na u u' t e):=λu=>by have:=gZ ⟨t.toArray⟩ u (by show t.toArray.size<=_;simp;omega);simpa using this
   have CO:Hid (∀(x:List UInt8),x.length<=4000->∀u,Cw 84 #[.string ⟨x.toArray⟩] u λe u'=>e=Rw (Iq (l4 x))/\Hid (Bt u u')):=λx hx u=>by have:=ng ⟨x.toArray⟩ u (by show x.toArray.size<=_;simp;omega);simpa[Hid,l4]using this
   have zh:Hid (t.length<=4000):=by show _<=_;omega
   clear zb C q za zg hw zo;go_enter func206,ntmps206;go_wp2_with(go_at_call 80;refine(PG _).mono ?_;rintro e U2 ⟨p,c,rfl,zC,zi⟩);obtain⟨b,rfl,zB,zj⟩:=zC;have zz:=qH<|zj;have zw:=qH<|zi;obtain⟨n,hn⟩:=ad ((bj t).length);have HN:=qH<|hn;have zQ:n<=4001:=by have:=fU t;have:=KH (a:=(10:UInt8)) (l:=t);have:=zh.out;omega
   rw[hn];clear hn zj zi zB;go_loopw[7,9] (λbv iv wr=>∃j:Nat,j<=n/\iv=Iq (j:Int)/\bv=Iq (oJ t j)/\Hid (Bt U2 wr)) (λ_ iv _=>n-(intOf iv).toNat);case atStart=>exact⟨0,aR _,rfl,rfl,af _ _⟩
   case round=>
    obtain⟨j,V,rfl,rfl,d⟩:=hrel;by_cases W:j<n
    ·have K:(j:Int)<(n:Int):=dg
     obtain⟨x,hx⟩:∃x,(bj t)[j]?=some x:=⟨_,dI (by have:=HN.out;omega)⟩;have y0:=an d (zz j x hx);have zD:=Jl hx;have zv:=qH<|CO x (by have:=zh.out;omega);have D:=qH<|bigTo_next hx;generalize oJ t j=B at D;clear hx zD;go_wp2_with(first|(go_at_call 84;refine(zv _).mono ?_;rintro e u5 ⟨rfl,G⟩)|(go_at_call 73;refine(GE _ _ _).mono ?_;rintro e u6 ⟨rfl,F⟩;obtain rfl:=F.symm));go_roundw;case rel=>exact⟨j+1,dg,by go_num,by rw[D.out],d.trans (G.mono d.size)⟩
     case measure=>simp[intOf];omega
    ·have K:¬(j:Int)<(n:Int):=dg
     obtain rfl:j=n:=dg;have zy:Hid (oJ t j=td t):=by have:=Ex t;rw[HN.out]at this;exact this
     go_wp2_with(go_at_call 157;refine(CL _ _).mono ?_;rintro e u6 ⟨rfl,F⟩;obtain rfl:=F.symm);go_ret;refine⟨by rw[o.out,<-zy.out];rfl,?_⟩;have a1:=v.trans (zw.mono v.size);exact a1.trans (d.mono a1.size)
  ·obtain⟨N,hkd⟩:∃z:Int,((aa L k).kind:Int)=z:=⟨_,rfl⟩;have o:Hid (E k=cl (nf N (ap (aa L k) 4) (ap (aa L k) 5) (ap (aa L k) 6) (λj=>E (aH (aa L k).kids j)) (aa L k).kids.length)):=by rw[hw,uW,<-hkd];unfold m8;rw[if_neg h5];exact(rfl:aO (nf ((aa L k).kind:Int) _ _ _ _ _)=_)
   have e5:(N==5)=false:=by simp;omega
   have zI:=qH<|hkd;obtain⟨_,zq,zr,zt,_⟩:=zo;obtain⟨Y,Q⟩:=ad (ap (aa L k) 4);obtain⟨a5,R⟩:=ad (ap (aa L k) 5);obtain⟨a6,S⟩:=ad (ap (aa L k) 6);obtain⟨hh,zc⟩:∃z:Nat->Int,(λj=>E (aH (aa L k).kids j))=z:=⟨_,rfl⟩;have ze:∀j,E (aH (aa L k).kids j)=hh j:=λj=>by rw[<-zc]
   rw[Q,R,S,zc]at o;rw[Q,R,S]at q;rw[Q]at zq;rw[R]at zr;rw[S]at zt;rw[hkd]at z0 c0 h i;have I:Hid (∀j,j<(aa L k).kids.length->0<=hh j/\hh j<=100000):=λj V=>by rw[<-ze];exact za j V
   have J:Hid (∀j,j<(aa L k).kids.length->∀u,Bt U u->Cw 206 #[Sq g L.length P,Iq (aH (aa L k).kids j:Int)] u λe U'=>e=Rw (Iq (hh j))/\Hid (Bt u U')):=λj V u hu=>by rw[<-ze];exact zb j V u hu
   generalize(aa L k).text=t at z2 c2 h i;generalize(aa L k).up=up at z4 c4 h i;generalize(aa L k).kids=ks at z3 c3 h i o I J C zn;obtain⟨m,hm⟩:=ad ks.length;rw[hm]at z3 c3 h i o I J C zn;clear zb za zg hw hkd zc ze Q R S hm h5;obtain⟨zG,zH⟩:=zq;have X:=v;go_enter func206,ntmps206;go_wp2;clear z0 z1 z2 z3 z4 c0 c1 c2 c3 c4 h zA;go_loopw[6,7,10] (λsv bv iv wr=>∃(j:Nat) (sm B:Int),j<=m/\iv=Iq (j:Int)/\sv=Iq sm/\bv=Iq B/\0<=sm/\sm<=(j:Int)*100100/\0<=B/\B<=100000/\Hid (sm=hS hh j+fE Y j/\B=hG hh j)/\Hid (Bt W1 wr)) (λ_ _ iv _=>m-(intOf iv).toNat);case atStart=>exact⟨0,0,0,aR _,rfl,rfl,rfl,dg,dg,dg,dg,⟨by unfold hS fE;rw[show max 0 (((0:Nat):Int)-1)=0 by omega,Ef];rfl,rfl⟩,af _ _⟩
   case round=>
    obtain⟨j,sm,B,V,rfl,rfl,rfl,zR,zS,zN,zO,A,d⟩:=hrel;obtain⟨z0,z1,z2,z3,z4⟩:=i wr d;by_cases W:j<m
    ·have K:(j:Int)<(m:Int):=dg
     obtain⟨kb,ko,rfl,zm⟩:=C.resolve_left dg;have M:=zm wr d j W;have KD:=J j W;have hx:=I j W;have r:Hid (hS hh (j+1)+fE Y (j+1)=hS hh j+hh j+(fE Y j+(if 0<j then Y else 0))/\hG hh (j+1)=max (hG hh j) (hh j)):=⟨by rw[xe];rfl,rfl⟩;generalize aH ks j=cc at M KD;have KD:=qH<|KD;obtain⟨x,zu⟩:=ad (hh j);rw[zu]at hx KD r;obtain⟨zU,zV⟩:=hx;clear zm zu;by_cases zk:0<j
     ·have zl:(0:Int)<(j:Int):=dg
      have D:Hid (sm+x+Y=hS hh (j+1)+fE Y (j+1)/\max B x=hG hh (j+1)):=by obtain⟨e1,e2⟩:=A.out;obtain⟨f1,f2⟩:=r.out;rw[if_pos zk]at f1;exact⟨dg,by rw[f2,<-e2]⟩
      clear r A;go_wp2_with(first|(go_at_call 206;refine(KD _ (v.trans (d.mono v.size))).mono ?_;rintro e u5 ⟨rfl,G⟩;have y:=qH<|d.trans (G.mono d.size);have q1:=(i u5 y).2.1;have q4:=(q u5 y).1)|(go_at_call 73;refine(GE _ _ _).mono ?_;rintro e u6 ⟨rfl,F⟩;obtain rfl:=F.symm));go_roundw;case rel=>exact⟨j+1,sm+x+Y,max B x,dg,by go_num,by go_num,rfl,dg,by push_cast;omega,dg,dg,D,y⟩
      case measure=>simp[intOf];omega
     ·have zl:¬(0:Int)<(j:Int):=dg
      have D:Hid (sm+x=hS hh (j+1)+fE Y (j+1)/\max B x=hG hh (j+1)):=by obtain⟨e1,e2⟩:=A.out;obtain⟨f1,f2⟩:=r.out;rw[if_neg zk]at f1;exact⟨dg,by rw[f2,<-e2]⟩
      clear r A;go_wp2_with(first|(go_at_call 206;refine(KD _ (v.trans (d.mono v.size))).mono ?_;rintro e u5 ⟨rfl,G⟩;have y:=qH<|d.trans (G.mono d.size);have q1:=(i u5 y).2.1;have q4:=(q u5 y).1)|(go_at_call 73;refine(GE _ _ _).mono ?_;rintro e u6 ⟨rfl,F⟩;obtain rfl:=F.symm));go_roundw;case rel=>exact⟨j+1,sm+x,max B x,dg,by go_num,by go_num,rfl,dg,by push_cast;omega,dg,dg,D,y⟩
      case measure=>simp[intOf];omega
    ·have K:¬(j:Int)<(m:Int):=dg
     obtain rfl:j=m:=dg;have O:=qH<|X.trans (d.mono X.size);by_cases M:N=0
     ·have e0:(N==0)=true:=by rw[M];rfl
      have HF:Hid (E k=cl sm):=by rw[o.out];unfold nf;rw[if_pos M,<-A.1];exact(rfl:cl sm=cl sm)
      clear M;go_wp2_with(go_at_call 157;refine(CL _ _).mono ?_;rintro e u6 ⟨rfl,F⟩;obtain rfl:=F.symm);go_ret;exact⟨by rw[HF.out];rfl,O⟩
     ·have e0:(N==0)=false:=by simp;exact M
      by_cases k3:N=3
      ·have e3:(N==3)=true:=by rw[k3];rfl
       have HF:Hid (E k=cl (B+2*(a6+a5))):=by rw[o.out];unfold nf gS;rw[if_neg M,if_pos k3,<-A.2];exact(rfl:cl (B+2*(a6+a5))=_)
       obtain⟨q4,q5,q6,q8⟩:=q wr d;have FR:Hid (∀u,(u=wr\/u=wr.drew)->Cw 154 #[.agg #[Iq N,Sq ab 12 12,.string ⟨t.toArray⟩,.slice kp j kc,Iq up]] u λe w'=>e=Rw (Iq (a6+a5))/\Hid (Bt wr w')):=λu hu=>by
        have T:Bt wr u:=by
         rcases hu with rfl|rfl;·exact af _ _
         ·exact(af _ _).drew
        refine(mz N ab ⟨t.toArray⟩ (.slice kp j kc) up a5 a6 u (an T q5) (an T q6) dg dg).mono ?_;rintro e w' ⟨rfl,hb⟩;exact⟨rfl,T.trans (hb.mono T.size)⟩
       obtain⟨zJ,zK⟩:=zr;obtain⟨zL,zM⟩:=zt;clear M k3;go_wp2_with(first|(go_at_call 157;refine(CL _ _).mono ?_;rintro e u6 ⟨rfl,F⟩;obtain rfl:=F.symm)|(go_at_call 154;refine(FR _ (by first|exact .inl rfl|exact .inr rfl)).mono ?_;rintro e u7 ⟨rfl,zx⟩));go_ret;exact⟨by rw[HF.out];rfl,O.trans (zx.mono O.size)⟩
      ·have e3:(N==3)=false:=by simp;exact k3
       have HF:Hid (E k=cl B):=by rw[o.out];unfold nf gS;rw[if_neg M,if_neg k3,<-A.2,Ef,Aw];exact(rfl:cl B=cl B)
       clear M k3;go_wp2_with(go_at_call 157;refine(CL _ _).mono ?_;rintro e u6 ⟨rfl,F⟩;obtain rfl:=F.symm);go_ret;exact⟨by rw[HF.out];rfl,O⟩
def Z3(W:World)(X:Nat)(a b c:Int):Prop:=W.heap[X]?=some (.cells #[Iq a,Iq b,Iq c] 291 (0,0))
theorem Z3.lt{W}{X}{a b c}(h:Z3 W X a b c):X<W.heap.size:=(aD.1 h).1
theorem Z3.below{W W'}{X}{a b c}(h:Z3 W X a b c)(d:Bt W W'):Z3 W' X a b c:=(d.block X h.lt).trans h
theorem Z3.set{W}{X}{a b c}(h:Z3 W X a b c)x y z:Z3 (((W.setCell (aj X 0) (Iq x)).setCell (aj X 1) (Iq y)).setCell (aj X 2) (Iq z)) X x y z:=DO h
theorem Z3.new(W:World)a b c:Z3 (W.alloc (.cells #[Iq a,Iq b,Iq c] 291)) W.heap.size a b c:=heap_alloc_new _ _
theorem Z3.cells{W}{X}{a b c}(h:Z3 W X a b c):W.cell? (aj X 0)=some (Iq a)/\W.cell? (aj X 1)=some (Iq b)/\W.cell? (aj X 2)=some (Iq c)/\∀j,W.frozen? (aj X j)=false:=
 ⟨by rw[Lib.cell_of_heap h];rfl,by rw[Lib.cell_of_heap h];rfl,by rw[Lib.cell_of_heap h];rfl,λj=>frozen_of_row _ _ _ _ _ h⟩
def CV(U U':World)(L:List Nd)(ks:List Nat)(N:Nat->Int)(e:Ending):Prop:=∃p c,e=Rw (.slice p ks.length c)/\(ks.length=0\/∃b,p=some (aj b 0)/\dS U' b 0 ks.length (λj=>sy (aa L (aH ks j)) (N j)) (λj=>ap (aa L (aH ks j)) 2) (λj=>ap (aa L (aH ks j)) 3))/\Bt U U'
def Um(U:World)(m:Nat)(L:List Nd)(ks:List Nat)(N:Nat->Int)(v iv:Value)(wr:World):Prop:=∃j:Nat,iv=Iq (j:Int)/\j<=m/\wr.ownsRow U.heap.size 291 3 v j (eH (λj=>sy (aa L (aH ks j)) (N (aH ks j))) (λj=>ap (aa L (aH ks j)) 2) (λj=>ap (aa L (aH ks j)) 3) j)/\Bt U wr
def Un(wr:World)(M a2 a3:Int)(p:Value)(wx:World):Prop:=∃X,p=Pq X/\Hid (Z3 wx X M a2 a3)/\Hid (wr.heap.size<=X)/\Hid (Bt wr wx)
theorem wy{s:ByteArray}{L:List Nd}(hT:dp s L)(f f2:Nat)(av:Array Value)(bv:Nat->Array Value)(N:Nat->Int)(g B k:Nat)(hk:k<L.length)(U:World)(hN:ip U g L.length (aa L))(hf:Hid ((f=150/\f2=206/\av=#[Sq g L.length B,Iq (k:Int)]/\bv=λc:Nat=>#[Sq g L.length B,Iq (c:Int)])\/∃w:Int,f=152/\f2=155/\av=#[Sq g L.length B,Iq (k:Int),Iq w]/\bv=λc:Nat=>#[Sq g L.length B,Iq (c:Int),Iq w]))(zk:Hid (∀c,c<L.length->∀u,Bt U u->Cw f2 (bv c) u λe U'=>e=Rw (Iq (N c))/\Hid (Bt u U'))):
 Cw f av U λe U'=>CV U U' L (aa L k).kids (λj=>N (aH (aa L k).kids j)) e:=by
 have zC:prog.follows .mixedOrders=true:=ns;obtain⟨i0,hi,zo,zq,zr⟩:=info_parts tO;obtain⟨ab,kv,hn⟩:=hN.nd k hk;obtain⟨kp,kc,zm,zc⟩:=hn.kids;subst zm;have ze:=hT.kids_le hk;have zA:=hT.vl.cnt;have G:Hid (∀u,Bt U u->u.cell? (aj g (k*5+3))=some (.slice kp (aa L k).kids.length kc)):=λu hu=>an hu hn.c3;have H:Hid ((aa L k).kids.length=0\/∃kb ko,kp=some (aj kb ko)/\∀u,Bt U u->∀i,i<(aa L k).kids.length->u.cell? (aj kb (ko+i))=some (Iq (aH (aa L k).kids i:Int))):=by
  rcases zc with e|⟨kb,ko,e,_,Y⟩;·exact .inl rd
  ·exact .inr ⟨kb,ko,e,λu hu i hi=>an hu (Y i hi)⟩
 have I:Hid (∀j,j<(aa L k).kids.length->aH (aa L k).kids j<L.length):=λj hj=>(di hT hk hj).2;have HN:Hid (∀u,Bt U u->ip u g L.length (aa L)):=λu hu=>hN.below hu;have zF:(k:Int)<(L.length:Int):=dg;generalize(aa L k).kids=d at G H I ze⊢;obtain⟨m,hm⟩:=ad d.length;have HM:=qH<|hm;rw[hm]at G H I ze;clear zc hn hN hm hT;rcases hf.out with⟨rfl,rfl,rfl,rfl⟩|⟨w,rfl,rfl,rfl,rfl⟩;all_goals
  first
   |go_enter func150,ntmps150
   |go_enter func152,ntmps152
  clear hf;go_wp2;first
   |(have:=w;clear this;go_loopw[7,8] (Um U m L d N) (λ_ iv _=>m-(intOf iv).toNat))
   |go_loopw[5,6] (Um U m L d N) (λ_ iv _=>m-(intOf iv).toNat)
  case atStart=>exact⟨0,rfl,aR _,eO _ _ _ _,af _ _⟩
  case round=>
   obtain⟨j,rfl,hj,o,hbw⟩:=hrel;have c3:=G wr hbw;have zt:=hbw.size;by_cases zg:j<m
   ·have zB:(j:Int)<(m:Int):=dg
    obtain⟨kb,ko,rfl,za⟩:=H.resolve_left dg;have k0:=za wr hbw j zg;have Y:=I j zg;have S:Hid (eH (λj=>sy (aa L (aH d j)) (N (aH d j))) (λj=>ap (aa L (aH d j)) 2) (λj=>ap (aa L (aH d j)) 3) (j+1)=eH (λj=>sy (aa L (aH d j)) (N (aH d j))) (λj=>ap (aa L (aH d j)) 2) (λj=>ap (aa L (aH d j)) 3) j++[Iq (sy (aa L (aH d j)) (N (aH d j))),Iq (ap (aa L (aH d j)) 2),Iq (ap (aa L (aH d j)) 3)]):=rfl;obtain⟨c,Z⟩:=ad (aH d j);have WD:=zk (aH d j) Y;obtain⟨A,D,l⟩:=(HN wr hbw).nd (aH d j) Y;rw[Z]at k0 Y S WD l;have zD:(c:Int)<(L.length:Int):=dg;have y0:=l.c0;have y1:=l.c1;have y2:=l.c2;have y3:=l.c3;have y4:=l.c4;obtain⟨kd,zb⟩:∃z:Int,((aa L c).kind:Int)=z:=⟨_,rfl⟩;obtain⟨M,K⟩:=ad (sy (aa L c) (N c));obtain⟨x,C⟩:=ad (N c);have P:Hid (∀u,Bt wr u->Cw 205 #[.agg #[Iq kd,Sq A 12 12,.string ⟨(aa L c).text.toArray⟩,D,Iq (aa L c).up],Iq x] u λe u'=>e=Rw (.agg #[Iq M,Iq (ap (aa L c) 2),Iq (ap (aa L c) 3)])/\Hid (Bt u u')):=λu hu=>by have:=F4 kd A ⟨(aa L c).text.toArray⟩ D (aa L c).up (ap (aa L c) 1) (ap (aa L c) 2) (ap (aa L c) 3) x u (an hu (l.att 1 dg)) (an hu (l.att 2 dg)) (an hu (l.att 3 dg));rw[J4,<-C,K]at this;rw[<-C];exact this
    have J:=qH WD;rw[C]at J;rw[K]at S;rw[zb]at y0;generalize(aa L c).text=tx at y2 P;generalize(aa L c).up=up at y4 P;generalize ap (aa L c) 2=a2 at S P;generalize ap (aa L c) 3=a3 at S P;have HBW:=qH<|hbw;have zi:=qH<|hbw.drew;have zj:Hid (Bt U (wr.alloc (.cells #[Iq 0,Iq 0,Iq 0] 291)).drew):=(hbw.alloc zt _).drew;have Q:Hid (Bt wr wr.drew):=(af _ _).drew;have R:Hid (Bt wr (wr.alloc (.cells #[Iq 0,Iq 0,Iq 0] 291)).drew):=((af _ _).alloc (ae _) _).drew;have y:Hid (∀u,Bt wr u->u.cell? (aj g (c*5))=some (Iq kd)/\u.cell? (aj g (c*5+1))=some (Sq A 12 12)/\u.cell? (aj g (c*5+2))=some (.string ⟨tx.toArray⟩)/\u.cell? (aj g (c*5+3))=some D/\u.cell? (aj g (c*5+4))=some (Iq up)):=λu hu=>⟨an hu y0,an hu y1,an hu y2,an hu y3,an hu y4⟩;have zH:=World.new_ne wr _ y0;clear l WD zb K C Z za hbw;go_upto_region 6 with fail;first
     |(have:=w;clear this;go_cut[10]from 29 to 37 (Un wr M a2 a3))
     |go_cut[8]from 27 to 34 (Un wr M a2 a3)
    case first=>
     go_region_held(λW=>W.cell? (aj g (c*5))=some (Iq kd)/\W.cell? (aj g (c*5+1))=some (Sq A 12 12)/\W.cell? (aj g (c*5+2))=some (.string ⟨tx.toArray⟩)/\W.cell? (aj g (c*5+3))=some D/\W.cell? (aj g (c*5+4))=some (Iq up)) (go_keep) (first
      |((first|go_at_call 206|go_at_call 155);(with_reducible refine ag (J.out _ zi.out) ?_);rintro e O ⟨rfl,v⟩;have a:=qH<|Q.out.trans (v.out.mono Q.out.size);obtain⟨s0,s1,s2,s3,s4⟩:=y.out O a.out;have zu:=World.new_ne O _ s0;have r:Hid (Bt wr (O.alloc (.cells #[Iq 0,Iq 0,Iq 0] 291))):=a.out.alloc a.out.size _)
      |((first|go_at_call 206|go_at_call 155);(with_reducible refine ag (J.out _ zj.out) ?_);rintro e O ⟨rfl,v⟩;have a:=qH<|R.out.trans (v.out.mono R.out.size);obtain⟨s0,s1,s2,s3,s4⟩:=y.out O a.out;have zu:=World.new_ne O _ s0;have ZA:=qH<|Z3.below (W:=(wr.alloc (.cells #[Iq 0,Iq 0,Iq 0] 291)).drew) (Z3.new wr 0 0 0) v.out;obtain⟨zI,zJ,zK,zL⟩:=ZA.out.cells)
      |(go_at_call 205;(with_reducible refine ag (P.out _ a.out) ?_);rintro e q6 ⟨rfl,q⟩;have n:=qH<|a.out.trans (q.out.mono a.out.size);obtain⟨t0,t1,t2,t3,t4⟩:=y.out q6 n.out;have zv:=World.new_ne q6 _ t0;(try(have T:=qH<|ZA.out.below q.out;obtain⟨zw,zx,zy,zz⟩:=T.out.cells)))
      |(go_at_call 205;(with_reducible refine ag (P.out _ r.out) ?_);rintro e q6 ⟨rfl,q⟩;have n:=qH<|r.out.trans (q.out.mono r.out.size);obtain⟨t0,t1,t2,t3,t4⟩:=y.out q6 n.out;have zv:=World.new_ne q6 _ t0;have V:=qH<|(Z3.new O 0 0 0).below q.out;obtain⟨zw,zx,zy,zz⟩:=V.out.cells));all_goals
      go_wp2_with fail;go_meet;first
       |exact⟨_,rfl,T.set _ _ _,ae _,((n.setCell (ae _) _).setCell (ae _) _).setCell (ae _) _⟩
       |exact⟨_,rfl,V.set _ _ _,a.size,((n.setCell a.size _).setCell a.size _).setCell a.size _⟩
       |exact⟨_,rfl,Z3.new _ _ _ _,n.size,n.alloc n.size _⟩
    case rest=>
     obtain⟨X,rfl,HZ,HX,F⟩:=hcut;obtain⟨x0,x1,x2,_⟩:=HZ.cells;have t:=ru o F;have zG:=F.size;have zh:=qH<|HBW.trans (F.mono HBW.size);clear y0 y1 y2 y3 y4 k0 c3 o;go_wp2_with(at_builtin;refine Gn (W0:=U) hi zo zq zr t zh [Iq M,Iq a2,Iq a3] rfl _ _ rfl underlying234 ⟨rfl,by decide,by decide⟩ rfl rfl ⟨rfl,rfl⟩ dg ?_);intro v' w6 zn zl;clear t;go_wp2;go_roundw;case rel=>exact⟨j+1,by go_num,dg,by rw[S.out];omega,zl⟩
     grind[intOf]
   ·have zE:¬(j:Int)<(m:Int):=dg
    obtain rfl:m=j:=dg;obtain⟨p,cp,rfl,E⟩:=Af o;have HV:Hid (m=0\/∃b,p=some (aj b 0)/\dS wr b 0 m (λj=>sy (aa L (aH d j)) (N (aH d j))) (λj=>ap (aa L (aH d j)) 2) (λj=>ap (aa L (aH d j)) 3)):=by
     rcases E with h|⟨lw,e,_,h⟩;·grind
     ·exact .inr ⟨lw,e,h⟩
    have HBW:=qH<|hbw;clear E o hbw;go_wp2;go_ret;refine⟨p,cp,by rw[HM.out];rfl,?_,HBW⟩;rw[HM.out];exact HV
theorem ql{s}{L}{b}{H}(f:dp s L)(i:Sz L b H)g a k(m:k<L.length)U(d:ip U g L.length (aa L)):
 Cw 150 #[Sq g L.length a,Iq (k:Int)] U λe h=>CV U h L (aa L k).kids (λj=>b (aH (aa L k).kids j)) e:=
 wy f _ _ _ _ b g a k m U d (.inl ⟨rfl,rfl,rfl,rfl⟩) λc l u hu=>um f i g a L.length c dg l u (d.below hu)
theorem MW{s}{L}{c}{H}(i:dp s L)(f:Sz L c H)(U:World){k}(b:k<L.length)(n:(aa L k).kind≠5){w}(p:0<=w)(q:w<=100000):
 ∃V,(∀j,j<(aa L k).kids.length->0<=V j/\V j<=100000)/\((aa L k).kind=0->(aa L k).kids.length=0\/bD L (aa L k).kids (λj=>c (aH (aa L k).kids j)) w (ap (aa L k) 4) V)/\((aa L k).kind=3->∀j,V j=max 0 (w-2*(ap (aa L k) 6+ap (aa L k) 5)))/\((aa L k).kind≠0->(aa L k).kind≠3->∀j,V j=w)/\H k w=m7 (aa L k) (λj=>H (aH (aa L k).kids j) (V j)):=by
 have o:=i.kids_le b;by_cases a:(aa L k).kind=0
 ·by_cases m:(aa L k).kids.length=0;·exact⟨λ_=>0,λj l=>dg,λ_=>.inl m,λh=>dg,λh=>absurd a h,f.hr k w _ b a (.inl (kO m))⟩
  ·obtain⟨V,d⟩:=tT L (aa L k).kids (λj=>c (aH (aa L k).kids j)) w (ap (aa L k) 4) U dg dg;refine⟨V,λj l=>?_,λ_=>.inr d,λh=>dg,λh=>absurd a h,f.hr k w V b a (.inr d)⟩;have:=(bY.tiles d (qS _ _ _)).1 j l;exact⟨this.1,gH this.2 (gd _ _).2⟩
 ·have e:=f.ho k w b n a;have g:=(i.vl.nv k b).bd;obtain⟨_,_,r,t,_⟩:=g;refine⟨λ_=>Qw (aa L k) w,λj _=>?_,λh=>absurd h a,λh j=>?_,λ_ h j=>?_,e⟩;all_goals grind[Qw,aa,gS]
def WV(W:World)(kd:Int)(m:Nat)(V:Nat->Int)(v:Value):Prop:=kd=0->0<m->∃ob,v=Sq ob m m/\∀i,i<m->W.cell? (aj ob i)=some (Iq (V i))
theorem WV.below{W W'}{d}{m}{V}{v}(h:WV W d m V v)(f:Bt W W'):WV W' d m V v:=λa b=>by obtain⟨g,e,c⟩:=h a b;grind[an]
theorem xt{s:ByteArray}{L:List Nd}{Wd:Nat->Int}{H:Nat->Int->Int}(hT:dp s L)(hZ:Sz L Wd H)(g O k:Nat)(h2:k<L.length)(w:Int)(zS:0<=w)(zT:w<=100000)(U:World)(hN:ip U g L.length (aa L))(h5:¬(aa L k).kind=5)(zq:Hid (∀j,j<(aa L k).kids.length->∀x,0<=x->x<=100000->∀u,Bt U u->Cw 155 #[Sq g L.length O,Iq (aH (aa L k).kids j:Int),Iq x] u λe U'=>e=Rw (Iq (H (aH (aa L k).kids j) x))/\Hid (Bt u U'))):
 Cw 155 #[Sq g L.length O,Iq (k:Int),Iq w] U λe U'=>e=Rw (Iq (H k w))/\Hid (Bt U U'):=by
 have zV:prog.follows .mixedOrders=true:=ns;have GE:=qH<|greatest_any;have CL:=qH<|rCl_any;obtain⟨ab,kp,kc,W1,An,D,zM,HB1,⟨c0,c1,c2,c3,c4⟩,f,d,ze⟩:=hN.opens h2;have zP:=(hT.vl.nv k h2).bd;have zQ:=hT.vl.tl k h2;have Ly:=hT.sz;have zU:=hT.vl.cnt;have zA:=hT.kids_le h2;obtain⟨z0,z1,z2,z3,z4⟩:=f W1 (af _ _);obtain⟨y4,y5,y6,y8⟩:=d W1 (af _ _);have UN:(k:Int)<(L.length:Int):=dg
 obtain⟨V,hV,zt,zu,zv,zr⟩:=MW hT hZ U h2 h5 zS zT;obtain⟨a,zk⟩:∃z:Int,((aa L k).kind:Int)=z:=⟨_,rfl⟩;have e5:(a==5)=false:=by simp;omega
 have n:Hid (H k w=cl (mw a (ap (aa L k) 4) (ap (aa L k) 5) (ap (aa L k) 6) (λj=>H (aH (aa L k).kids j) (V j)) (aa L k).kids.length)):=by rw[zr,uW,<-zk];exact(rfl:aO (mw ((aa L k).kind:Int) _ _ _ _ _)=_)
 have T:Hid (a=0->(aa L k).kids.length=0\/bD L (aa L k).kids (λj=>Wd (aH (aa L k).kids j)) w (ap (aa L k) 4) V):=λq=>zt dg;have zh:Hid (a=3->∀j,V j=max 0 (w-2*(ap (aa L k) 6+ap (aa L k) 5))):=λq=>zu dg;have zK:Hid (a≠0->a≠3->∀j,V j=w):=λq r=>zv dg dg;have zi:=qH<|hV;have I:Hid (∀j,j<(aa L k).kids.length->0<=H (aH (aa L k).kids j) (V j)/\H (aH (aa L k).kids j) (V j)<=100000):=λj hj=>hZ.hb _ _ (di hT h2 hj).2;have y:=qH<|λj hj u hu=>zq j hj _ (hV j hj).1 (hV j hj).2 u hu;have AC:=qH<|λu hu=>ql hT hZ g O k h2 u (hN.below hu);obtain⟨_,zC,zD,zE,_⟩:=zP;rw[zk]at z0 c0 D f;generalize(aa L k).text=t at z2 c2 D f;generalize(aa L k).up=up at z4 c4 D f;generalize ap (aa L k) 4=B at y4 d n zC T;generalize ap (aa L k) 5=a5 at y5 d n zD zh;generalize ap (aa L k) 6=a6 at y6 d n zE zh;generalize(aa L k).kids=ks at z3 c3 D f n T zi I y ze zA AC;obtain⟨hh,zw⟩:∃z:Nat->Int,(λj=>H (aH ks j) (V j))=z:=⟨_,rfl⟩;have zx:∀j,H (aH ks j) (V j)=hh j:=λj=>rd
 rw[zw]at n;simp only[zx]at I y;obtain⟨m,hm⟩:=ad ks.length;have SP:Hid (a=0->∀u,Bt U u->Cw 150 #[Sq g L.length O,Iq (k:Int)] u λe u'=>∃p c,e=Rw (.slice p m c)/\Hid (Bt u u')/\Hid (Cw 149 #[Iq w,Iq B,.slice p m c] u' λe x=>∃v,e=Rw v/\Hid (Bt u' x)/\Hid (WV x a m V v))):=λq u hu=>by
  refine(AC u hu).mono ?_;rintro e u' ⟨p,c,rfl,hr,hb⟩;rw[hm]at hr⊢;refine⟨p,c,rfl,hb,?_⟩;rcases hr with h0|⟨b,rfl,hr⟩;·rw[h0];refine(kz p c w B u').mono ?_;rintro e x ⟨q',rfl,P⟩;exact⟨_,rfl,P,λ_ h=>dg⟩
  ·by_cases zO:m=0;·subst zO;refine(kz _ c w B u').mono ?_;rintro e x ⟨q',rfl,P⟩;exact⟨_,rfl,P,λ_ h=>dg⟩
   ·have zl:=(T q).resolve_left dg;unfold bD at zl;rw[hm]at zl;refine(ky m b 0 c _ _ _ w B u' hr dg dg V zl).mono ?_;rintro e x ⟨Q,rfl,_,hf,P⟩;exact⟨_,rfl,P,λ_ _=>⟨Q,rfl,λi hi=>by have:=(hf.2 i hi).1;grind⟩⟩
 rw[hm]at z3 c3 D f n zi I y ze zA;obtain⟨zX,zY⟩:=zC;obtain⟨_y,_z⟩:=zD;obtain⟨_A,_B⟩:=zE;clear zq T zQ zk zw zx hm h5 hV zt zu zv zr AC hN;go_enter func155,ntmps155;go_upto_if 41 with fail;clear c0 c1 c2 c3 c4 D zM;go_cut[10,41]from 42 to 50 (λv _ wx=>Hid (Bt W1 wx)/\Hid (WV wx a m V v));case first=>
  by_cases k0:a=0
  ·have e0:(a==0)=true:=by rw[k0];rfl
   have zL:=qH<|SP k0;have HD:=qH<|HB1.drew;have HE:Hid (Bt W1 W1.drew):=(af _ _).drew;clear k0 SP;go_wp2_with fail;go_region_held(λW=>W.cell? (aj An 1)=some (Sq ab 12 12)/\W.cell? (aj ab 4)=some (Iq B)) (go_keep) (first
    |(go_at_call 150;refine ag (zL _ HD) ?_;rintro e u5 ⟨p,c,rfl,F,zI⟩;have S:=qH<|HE.trans (F.mono HE.size);have s1:=(f u5 S).2.1;have s4:=(d u5 S).1)
    |(go_at_call 149;refine ag zI ?_;rintro e u6 ⟨v6,rfl,zG,zZ⟩;have zm:=qH<|S.trans (zG.mono S.size);have t1:=(f u6 zm).2.1;have t4:=(d u6 zm).1));all_goals go_wp2_with fail;go_meet;grind
  ·have e0:(a==0)=false:=by simp;exact k0
   have zH:=qH<|k0;clear k0 SP;go_wp2_with fail;go_meet;exact⟨af _ _,λq=>absurd q zH⟩
 case rest=>
  obtain⟨o,zo⟩:=hcut;clear z0 z1 z2 z3 z4 y4 y5 y6 y8 SP;go_wp2;go_loopw[8,9,11] (λsv bv iv wr=>∃(j:Nat) (sm C:Int),j<=m/\iv=Iq (j:Int)/\sv=Iq sm/\bv=Iq C/\0<=sm/\sm<=(j:Int)*100100/\0<=C/\C<=100000/\Hid (sm=hS hh j+fE B j/\C=hG hh j)/\Hid (Bt wc wr)) (λ_ _ iv _=>m-(intOf iv).toNat);case atStart=>exact⟨0,0,0,aR _,rfl,rfl,rfl,dg,dg,dg,dg,⟨by grind[hS,fE],rfl⟩,af _ _⟩
  case round=>
   obtain⟨j,sm,C,hj,rfl,rfl,rfl,Qr,Ra,_Y,_Z,K,l⟩:=hrel;have R:=qH<|o.trans (l.mono o.size);have M:=qH<|HB1.trans (R.mono HB1.size);obtain⟨z0,z1,z2,z3,z4⟩:=f wr R;obtain⟨y4,y5,y6,y8⟩:=d wr R;have FR:Hid (∀u,(u=wr\/u=wr.drew)->Cw 154 #[.agg #[Iq a,Sq ab 12 12,.string ⟨t.toArray⟩,.slice kp m kc,Iq up]] u λe w'=>e=Rw (Iq (a6+a5))/\Hid (Bt wr w')):=λu hu=>by
    have Y:Bt wr u:=by
     rcases hu with rfl|rfl;·exact af _ _
     ·exact(af _ _).drew
    refine(mz a ab ⟨t.toArray⟩ (.slice kp m kc) up a5 a6 u (an Y y5) (an Y y6) dg dg).mono ?_;rintro e w' ⟨rfl,hb⟩;exact⟨rfl,Y.trans (hb.mono Y.size)⟩
   by_cases Z:j<m
   ·have zB:(j:Int)<(m:Int):=dg
    obtain⟨kb,ko,rfl,zz⟩:=ze.resolve_left dg;have zc:=qH<|λu hu=>zz u hu j Z;have k0:=zc wr R;have X:=y j Z;have hx:=I j Z;have J:Hid (hS hh (j+1)+fE B (j+1)=hS hh j+hh j+(fE B j+(if 0<j then B else 0))/\hG hh (j+1)=max (hG hh j) (hh j)):=⟨by rw[xe];rfl,rfl⟩;generalize aH ks j=cc at zc k0 X;obtain⟨x,zF⟩:=ad (hh j);rw[zF]at hx X J;obtain⟨hx0,Vq⟩:=hx;have zn:(a=0/\(a==0)=true/\(a==3)=false)\/(a=3/\(a==0)=false/\(a==3)=true)\/((a≠0/\a≠3)/\(a==0)=false/\(a==3)=false):=by
     by_cases q0:a=0;·exact .inl ⟨q0,by rw[q0];rfl,by rw[q0];rfl⟩
     ·by_cases q3:a=3;·exact .inr (.inl ⟨q3,by rw[q3];rfl,by rw[q3];rfl⟩)
      ·exact .inr (.inr ⟨⟨q0,q3⟩,by simpa using q0,by simpa using q3⟩)
    obtain⟨vj,A,KD⟩:∃vj,Hid ((a=0/\∃Q,u10=Sq Q m m/\wr.cell? (aj Q j)=some (Iq vj))\/(a=3/\vj=max 0 (w-2*(a6+a5)))\/((a≠0/\a≠3)/\vj=w))/\Hid (∀u,Bt U u->Cw 155 #[Sq g L.length O,Iq (cc:Int),Iq vj] u λe U'=>e=Rw (Iq x)/\Hid (Bt u U')):=by
     refine⟨V j,?_,X⟩;rcases zn with⟨q,_⟩|⟨q,_⟩|⟨q,_⟩;·obtain⟨Q,e,hc⟩:=(zo.below l) q dg;exact .inl ⟨q,Q,e,hc j Z⟩
     ·exact .inr (.inl ⟨q,zh q j⟩)
     ·exact .inr (.inr ⟨q,zK q.1 q.2 j⟩)
    obtain⟨gv,zN,zg⟩:∃gv,((0<j/\(0:Int)<(j:Int)/\gv=B)\/(¬0<j/\¬(0:Int)<(j:Int)/\gv=0))/\Hid (sm+x+gv=hS hh (j+1)+fE B (j+1)/\max C x=hG hh (j+1)):=by
     obtain⟨e1,e2⟩:=K.out;obtain⟨f1,f2⟩:=J.out;by_cases E:0<j;·rw[if_pos E]at f1;exact⟨B,.inl ⟨E,dg,rfl⟩,dg,by rw[f2,<-e2]⟩
     ·rw[if_neg E]at f1;exact⟨0,.inr ⟨E,dg,rfl⟩,dg,by rw[f2,<-e2]⟩
    clear zz zF J K X zo zi I y;rcases zn with⟨q,e0,e3⟩|⟨q,e0,e3⟩|⟨q,e0,e3⟩;focus
     obtain⟨Q,zR,w9⟩:∃Q,u10=Sq Q m m/\wr.cell? (aj Q j)=some (Iq vj):=by
      rcases A.out with h|h|h;·exact h.2
      ·omega
      ·omega
     subst zR;clear A q
    rotate_left;focus
     obtain rfl:vj=max 0 (w-2*(a6+a5)):=by
      rcases A.out with h|h|h;·omega
      ·exact h.2
      ·omega
     clear A q
    rotate_left;focus
     obtain rfl:vj=w:=by
      rcases A.out with h|h|h;·omega
      ·omega
      ·exact h.2
     clear A q
    rotate_left;all_goals
     rcases zN with⟨E,zy,hq⟩|⟨E,zy,hq⟩;all_goals
      obtain rfl:=hq.symm;go_wp2_with(first
       |(go_at_call 154;refine(FR _ (by first|exact .inl rfl|exact .inr rfl)).mono ?_;rintro e u7 ⟨rfl,za⟩;have zb:=qH<|l.trans (za.mono l.size);have zj:=qH<|o.trans (zb.mono o.size);have zJ:=qH<|HB1.trans (zj.mono HB1.size);have r3:=(f u7 zj).2.2.2.1;have r5:=zc u7 zj)
       |(go_at_call 155;(with_reducible refine ag (KD.out _ M.out) ?_);rintro e u5 ⟨rfl,F⟩;have G:=qH<|l.out.trans (F.out.mono l.out.size);have N:=qH<|o.out.trans (G.out.mono o.out.size);have q1:=(f.out u5 N.out).2.1;have q4:=(d.out u5 N.out).1)
       |(go_at_call 155;(with_reducible refine ag (KD.out _ zJ.out) ?_);rintro e u5 ⟨rfl,F⟩;have G:=qH<|zb.out.trans (F.out.mono zb.out.size);have N:=qH<|o.out.trans (G.out.mono o.out.size);have q1:=(f.out u5 N.out).2.1;have q4:=(d.out u5 N.out).1)
       |(go_at_call 73;refine(GE _ _ _).mono ?_;rintro e u6 ⟨rfl,h6⟩;obtain rfl:=h6.symm));go_roundw;case rel=>first
       |exact⟨j+1,sm+x+B,max C x,dg,by go_num,by go_num,rfl,dg,by push_cast;omega,dg,dg,zg,G⟩
       |exact⟨j+1,sm+x,max C x,dg,by go_num,by go_num,rfl,dg,by push_cast;omega,dg,dg,⟨by have:=zg.1;omega,zg.2⟩,G⟩
      case measure=>simp[intOf];omega
   ·have zB:¬(j:Int)<(m:Int):=dg
    obtain rfl:j=m:=dg;by_cases k1:a=1
    ·have e1:(a==1)=true:=by rw[k1];rfl
     have HF:Hid (H k w=cl sm):=by rw[n.out];unfold mw;rw[if_pos k1,<-K.1];exact(rfl:cl sm=cl sm)
     clear k1;go_wp2_with(go_at_call 157;refine(CL _ _).mono ?_;rintro e u6 ⟨rfl,h6⟩;obtain rfl:=h6.symm);go_ret;exact⟨by rw[HF.out];rfl,M⟩
    ·have e1:(a==1)=false:=by simp;exact k1
     by_cases k3:a=3
     ·have e3:(a==3)=true:=by rw[k3];rfl
      have HF:Hid (H k w=cl (C+2*(a6+a5))):=by rw[n.out];unfold mw gS;rw[if_neg k1,if_pos k3,<-K.2];exact(rfl:cl (C+2*(a6+a5))=_)
      clear k1 k3;go_wp2_with(first|(go_at_call 157;refine(CL _ _).mono ?_;rintro e u6 ⟨rfl,h6⟩;obtain rfl:=h6.symm)|(go_at_call 154;refine(FR _ (by first|exact .inl rfl|exact .inr rfl)).mono ?_;rintro e u7 ⟨rfl,za⟩));go_ret;exact⟨by rw[HF.out];rfl,M.trans (za.mono M.size)⟩
     ·have e3:(a==3)=false:=by simp;exact k3
      have HF:Hid (H k w=cl C):=by rw[n.out];unfold mw gS;rw[if_neg k1,if_neg k3,<-K.2,Ef,Aw];exact(rfl:cl C=cl C)
      clear k1 k3;go_wp2_with(go_at_call 157;refine(CL _ _).mono ?_;rintro e u6 ⟨rfl,h6⟩;obtain rfl:=h6.symm);go_ret;exact⟨by rw[HF.out];rfl,M⟩
