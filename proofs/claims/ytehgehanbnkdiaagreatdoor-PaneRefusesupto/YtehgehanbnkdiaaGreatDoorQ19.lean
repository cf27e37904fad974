import Derived.Test.YtehgehanbnkdiaaGreatDoorQ18
import Derived.Deep.RegionHeld
import Derived.Deep.CutBlock
set_option linter.all false
set_option maxRecDepth 100000
set_option maxHeartbeats 16000000
namespace Go.Proofs.YtehgehanbnkdiaaGreatDoor
open Go.RowKit Go.Proofs.Tryz
def UT(wr:AT)(p:Fd)(wx:AT):Prop:=∃(X:Nat) (x y z:Int),p=Pq X/\wx.heap[X]?=some (.cells #[Iq x,Iq y,Iq z] 367 (0,0))/\wr.heap.size<=X/\Bq wr wx
def vO{W:AT}{X:Nat}{a b c:Fd}{t:TypeId}(h:W.heap[X]?=some (.cells #[a,b,c] t (0,0))):W.cell? (aq X 0)=some a/\W.cell? (aq X 1)=some b/\W.cell? (aq X 2)=some c/\∀j,W.frozen? (aq X j)=false:=
 ⟨by simp[World.cell?,h],by simp[World.cell?,h],by simp[World.cell?,h],λj=>frozen_of_row _ _ _ _ _ h⟩
def vL(W:AT)(o:Obj):(W.alloc o).heap[W.heap.size]?=some o:=by simp only[World.alloc];rw[sL,if_pos rfl]
def KA(W:AT)(m:Nat)(e:Ending)(w':AT):Prop:=∃v,e=Rw v/\KR w' W.heap.size 367 3 v m KZ
def T7{w:AT}{g n cap k ab m kc:Nat}{kd up:Int}{t:BY}{kp:zze}(h:uy w g n)(N:KN w g n k kd ab t kp m kc up)(hk:k<n)(U:AT)(hU:Bq w U):
 (Cw 204 #[Sq g n cap,Iq (k:Nat)] U λe C=>KA U m e C/\Bq U C)/\∀x,(∀c,c<n->∀u,Bq w u->Cw 209 #[Sq g n cap,Iq (c:Nat),Iq x] u λe C=>KC e/\Bq u C)->Cw 206 #[Sq g n cap,Iq (k:Nat),Iq x] U λe C=>KA U m e C/\Bq U C:=by
 obtain⟨i0,hi,zg,zh,zi⟩:=info_parts NV;have zq:prog.follows .mixedOrders=true:=pt;have HN:=qH N.c;have T:=qH N.kid;have zu:=N.ml;have zt:(k:Int)<n:=dg;have hs:=hU.size;have HC:=qH h.2;have zv:=h.1;clear N;refine⟨?_,λx CH=>?_⟩;focus have O:=trivial;have CW:=qH λc (R:c<n)=>Hy (cap:=cap) h n c dg R
 rotate_left;focus have CW:=qH CH
 rotate_left;all_goals
  first|go_enter func204,ntmps204|go_enter func206,ntmps206
  go_wp2;first|(have:=O;go_loopw[5,6] (λv i wr=>∃j:Nat,i=Iq j/\j<=m/\KR wr U.heap.size 367 3 v j KZ/\Bq U wr) (λ_ i _=>m-(intOf i).toNat))|go_loopw[7,8] (λv i wr=>∃j:Nat,i=Iq j/\j<=m/\KR wr U.heap.size 367 3 v j KZ/\Bq U wr) (λ_ i _=>m-(intOf i).toNat)
  .exact⟨0,rfl,dg,KR.nil _ _ _ _ _,Ok⟩
  obtain⟨j,rfl,hj,K1,Q⟩:=hrel;have d:=hU.trans (Q.mono hs);obtain⟨c0,c1,c2,c3,c4⟩:=HN wr d;by_cases ze:j<m
  .have M:(j:Int)<m:=dg;obtain⟨kb,ko,c,rfl,l1,l2,R⟩:=T j ze;have k0:=R wr d;clear R;obtain⟨F,D,t',G,m',E,I,V⟩:=HC c l2;have zr:(c:Int)<n:=dg;have p:=qH V.c;have S:=qH V.a;obtain⟨y0,y1,y2,y3,y4⟩:=p wr d;have WD:=qH (CW c l2);have zw:=World.new_ne wr _ y0;have HB:=qH d;have WN:Hid (∀x u,Bq w u->Cw 272 #[.agg #[Iq F,Sq D 12 12,.string t',.slice G m' E,Iq I],Iq x] u λe u'=>Of e/\Bq u u'):=λx u hu=>Ue F I x D m' E t' G u λi hi=>by obtain⟨a,H⟩:=S i hi;exact⟨a,H u hu⟩
   have A:Hid (Bq wr wr.drew):=Ok.drew;have B:Hid (Bq wr (wr.alloc (.cells #[Iq 0,Iq 0,Iq 0] 367)).drew):=No.drew;have b:Hid (∀u,Bq wr u->Bq w u):=λu hu=>d.trans (hu.mono d.size);clear V d;go_upto_region 6 with fail;first|(have:=O;go_cut[8]from 27 to 34 (UT wr))|go_cut[10]from 29 to 37 (UT wr)
   .go_region_held(λW=>W.cell? (aq g (c*5))=some (Iq F)/\W.cell? (aq g (c*5+1))=some (Sq D 12 12)/\W.cell? (aq g (c*5+2))=some (.string t')/\W.cell? (aq g (c*5+3))=some (.slice G m' E)/\W.cell? (aq g (c*5+4))=some (Iq I)) (go_keep) (first
     |((first|go_at_call 273|go_at_call 209);(with_reducible refine ag (WD.out _ (b.out _ A.out)) ?_);rintro e r ⟨⟨z,rfl,_⟩,l⟩;have f:=qH<|A.out.trans (l.mono A.out.size);obtain⟨s0,s1,s2,s3,s4⟩:=p.out r (b.out _ f.out);have zj:=World.new_ne r _ s0;have s:Hid (Bq wr (r.alloc (.cells #[Iq 0,Iq 0,Iq 0] 367))):=f.out.alloc f.out.size _)
     |((first|go_at_call 273|go_at_call 209);(with_reducible refine ag (WD.out _ (b.out _ B.out)) ?_);rintro e r ⟨⟨z,rfl,_⟩,l⟩;have f:=qH<|B.out.trans (l.mono B.out.size);obtain⟨s0,s1,s2,s3,s4⟩:=p.out r (b.out _ f.out);have zj:=World.new_ne r _ s0;have ZA:=qH ((l.block wr.heap.size (by simp[World.drew])).trans (vL wr (.cells #[Iq 0,Iq 0,Iq 0] 367)));have za:=l.size;obtain⟨zx,zy,zA,zB⟩:=vO ZA.out)
     |(go_at_call 272;(with_reducible refine ag (WN.out _ _ (b.out _ f.out)) ?_);rintro e P ⟨⟨x1,x2,x3,rfl⟩,o⟩;have q:=qH<|f.out.trans (o.mono f.out.size);obtain⟨t0,t1,t2,t3,t4⟩:=p.out P (b.out _ q.out);have zk:=World.new_ne P _ t0;(try(have K:=qH ((o.block wr.heap.size (by simp[World.drew]at za;omega)).trans ZA.out);obtain⟨zl,zm,zn,zo⟩:=vO K.out)))
     |(go_at_call 272;(with_reducible refine ag (WN.out _ _ (b.out _ s.out)) ?_);rintro e P ⟨⟨x1,x2,x3,rfl⟩,o⟩;have q:=qH<|s.out.trans (o.mono s.out.size);obtain⟨t0,t1,t2,t3,t4⟩:=p.out P (b.out _ q.out);have zk:=World.new_ne P _ t0;have L:=qH ((o.block r.heap.size At).trans (vL r (.cells #[Iq 0,Iq 0,Iq 0] 367)));obtain⟨zl,zm,zn,zo⟩:=vO L.out));all_goals
     go_wp2_with fail;go_meet;first
      |exact⟨_,_,_,_,rfl,pN K,LE,((q.setCell LE _).setCell LE _).setCell LE _⟩
      |exact⟨_,_,_,_,rfl,pN L,f.size,((q.setCell f.size _).setCell f.size _).setCell f.size _⟩
      |exact⟨_,_,_,_,rfl,vL _ _,q.size,q.alloc q.size _⟩
   obtain⟨X,x,y,z,rfl,HX,hX,J⟩:=hcut;obtain⟨x0,x1,x2,x3⟩:=vO HX;have K2:=K1.below J;have Y:=Q.trans (J.mono Q.size);go_wp2_with(at_builtin;refine yK (W0:=U) hi zg zh zi K2 Y [Iq x,Iq y,Iq z] rfl _ _ rfl underlying296 ⟨rfl,by decide,by decide⟩ rfl rfl rfl ⟨rfl,rfl⟩ dg (λj u hj=>by have:=nQ hj;simp at this;rcases this with rfl|rfl|rfl<;>exact⟨_,rfl⟩) ?_;intro v' w6 K7 Z _);exact⟨⟨j+1,by go_num,dg,K7,Z⟩,by simp only[intOf];omega⟩
  .have M:¬(j:Int)<m:=dg;go_wp2;go_ret;obtain rfl:j=m:=dg;exact⟨⟨_,rfl,K1⟩,Q⟩
def Ih(U:AT)(c up:Int)(ab m b:Nat)(t:BY)(d:zze):∃V,U.alloc (.cells #[Iq c,Sq ab 12 12,.string t,.slice d m b,Iq up] 176)=V/\Hid (Bq U V)/\Hid (∀W,Bq V W->W.cell? (aq U.heap.size 0)=some (Iq c)/\W.cell? (aq U.heap.size 1)=some (Sq ab 12 12)/\W.cell? (aq U.heap.size 2)=some (.string t)/\W.cell? (aq U.heap.size 3)=some (.slice d m b)/\W.cell? (aq U.heap.size 4)=some (Iq up)):=by
 refine⟨_,rfl,No,λW a=>?_⟩;have l:U.heap.size<(U.alloc (.cells #[Iq c,Sq ab 12 12,.string t,.slice d m b,Iq up] 176)).heap.size:=by rw[ai];omega
 rw[a.cell (p:=(aq U.heap.size 0)) l,a.cell (p:=(aq U.heap.size 1)) l,a.cell (p:=(aq U.heap.size 2)) l,a.cell (p:=(aq U.heap.size 3)) l,a.cell (p:=(aq U.heap.size 4)) l];simp[World.cell?_alloc_at]
def Ns(F m:Nat)(v:Fd)(u:AT):Prop:=∀y z,Cw F #[Iq y,Iq z,v] u λe x=>KL u.heap.size m e x/\Bq u x
def Uk{W u:AT}{m:Nat}{e:Ending}(h:KA W m e u)(a:m<=100):∃v,e=Rw v/\Hid (Ns 203 m v u)/\Hid (Ns 205 m v u):=by obtain⟨v,rfl,K⟩:=h;exact⟨v,rfl,λy z=>kSplit (Ik K) dg y z u Ok,λy z=>Uc (Ik K) dg y z u Ok⟩
def Xt(W:AT)(kd:Int)(m:Nat)(v:Fd):Prop:=kd=0->∃g c,v=Sq g m c/\KB W g m KZ
def Hh{w:AT}{g n o:Nat}(h:uy w g n)(k:Nat)(h2:k<n)(KK:Hid (∀c,k<c->c<n->∀x U,Bq w U->Cw 209 #[Sq g n o,Iq (c:Nat),Iq x] U λe O=>KC e/\Bq U O))(x:Int)(U:AT)(Z:Bq w U):
 Cw 209 #[Sq g n o,Iq (k:Nat),Iq x] U λe O=>KC e/\Bq U O:=by
 have zn:prog.follows .mixedOrders=true:=pt;obtain⟨l,ab,t,kp,m,kc,up,N⟩:=h.2 k h2;have F:Hid (∀i,i<m->∃X Y c,kp=some (aq X Y)/\(∀W,Bq w W->W.cell? (aq X (Y+i))=some (Iq (c:Nat)))/\∀x U,Bq w U->Cw 209 #[Sq g n o,Iq (c:Nat),Iq x] U λe O=>KC e/\Bq U O):=λi hi=>by obtain⟨X,Y,c,e,l1,l2,H⟩:=N.kid i hi;exact⟨X,Y,c,e,H,KK c l1 l2⟩
 clear KK;obtain⟨c0,c1,c2,c3,c4⟩:=N.c U Z;obtain⟨a4,J⟩:=N.a 4 dg;obtain⟨a5,A5⟩:=N.a 5 dg;obtain⟨a6,A6⟩:=N.a 6 dg;obtain⟨a8,A8⟩:=N.a 8 dg;replace J:=qH J;replace A5:=qH A5;replace A6:=qH A6;replace A8:=qH A8;have S:=N.tl;have zm:=N.ml;have hn:=h.1;have hk:(k:Int)<n:=dg;have hs:=Z.size;obtain⟨V,hV,G,M⟩:=Ih U l up ab m kc t kp;have A:=qH (Z.trans (G.mono hs));have AC:Hid (∀u,Bq w u->Cw 204 #[Sq g n o,Iq (k:Nat)] u λe u'=>(∃v,e=Rw v/\Hid (Ns 203 m v u')/\Hid (Ns 205 m v u'))/\Hid (Bq u u')):=λu hu=>(T7 (cap:=o) h N h2 u hu).1.mono λe u' ⟨h,b⟩=>⟨Uk h zm,b⟩;clear N;obtain⟨v0,v1,v2,v3,v4⟩:=M V Ok;by_cases h5:l=5;.subst h5;have q8:=A8 V A;rcases(by omega:a8=1\/a8≠1)with rfl|h8;all_goals
   try have e8:(a8==1)=false:=by simpa using h8
   go_enter func209,ntmps209;go_wp2_with(first
    |(go_at_call 218;refine(Hj t _ _ S).mono ?_;rintro e w1 ⟨⟨v,q,rfl,hq,K1⟩,b1⟩;obtain⟨p,pc,rfl,_⟩:=K1.sl)
    |(go_at_call 219;refine(yJ t _ S).mono ?_;rintro e w1 ⟨⟨v,q,rfl,hq,K1⟩,b1⟩;obtain⟨p,pc,rfl,_⟩:=K1.sl)
    |(go_at_call 213;refine(P6 _ _).mono ?_;rintro e u6 ⟨⟨y,rfl,hy⟩,P⟩;obtain rfl:=P.symm));all_goals
    go_ret;first
     |exact⟨⟨_,rfl,hy⟩,G.trans (b1.mono G.size)⟩
     |exact⟨⟨_,rfl,dg,dg⟩,G⟩
 .have e5:(l==5)=false:=by simpa using h5
  have HD:=qH A.drew;have HE:Hid (Bq V V.drew):=Ok.drew;have q4:=J V A;have HZ:Hid (∀u,Bq V u->u.cell? (aq U.heap.size 1)=some (Sq ab 12 12)/\u.cell? (aq ab 4)=some (Iq a4)):=λu hu=>⟨(M u hu).2.1,J u (A.trans (hu.mono A.size))⟩;go_enter func209,ntmps209;go_upto_if 41 with fail;go_cut[10,41]from 42 to 50 (λv _ wx=>Hid (Bq V wx)/\Hid (Xt wx l m v))
  .by_cases I:l=0
   .have e0:(l==0)=true:=by rw[I];rfl
    clear I;go_wp2_with fail;go_region_held(λW=>W.cell? (aq U.heap.size 1)=some (Sq ab 12 12)/\W.cell? (aq ab 4)=some (Iq a4)) (go_keep) (first
     |(go_at_call 204;refine ag (AC _ HD) ?_;rintro e u5 ⟨⟨v,rfl,zj,_⟩,ze⟩;have HF5:=qH<|HE.trans (ze.mono HE.size);obtain⟨s1,s4⟩:=HZ u5 HF5)
     |(go_at_call 203;refine ag (zj.out _ _) ?_;rintro e u6 ⟨⟨sg,sc,rfl,sl,zk⟩,zg⟩;have L:=qH<|HF5.trans (zg.mono HF5.size);have zh:=qH zk;obtain⟨t1,t4⟩:=HZ u6 L));all_goals go_wp2_with fail;go_meet;exact⟨L,λ_=>⟨_,_,rfl,zh⟩⟩
   .have e0:(l==0)=false:=by simpa using I
    have zi:=qH I;clear I;go_wp2_with fail;go_meet;exact⟨Ok,λq=>absurd q zi⟩
  obtain⟨K,E⟩:=hcut;clear hV c0 c1 c2 c3 c4 v0 v1 v2 v3 v4 AC q4 HD HE HZ;go_wp2;go_loopw[8,9,11] (λs b i wr=>∃(j:Nat) (x y:Int),i=Iq j/\s=Iq x/\b=Iq y/\j<=m/\Hid (Bq wc wr)) (λ_ _ i _=>m-(intOf i).toNat);.exact⟨0,0,0,rfl,rfl,rfl,dg,Ok⟩
  obtain⟨j,sm,bg,rfl,rfl,rfl,hj,f⟩:=hrel;have C:=qH (K.trans (f.mono K.size));have r:=qH (G.trans (C.mono G.size));have d:=qH (Z.trans (r.mono hs));obtain⟨v0,v1,v2,v3,v4⟩:=M wr C;have q5:=A5 wr d;have q6:=A6 wr d;have FR:Hid (∀u,(u=wr\/u=wr.drew)->Cw 208 #[.agg #[Iq l,Sq ab 12 12,.string t,.slice kp m kc,Iq up]] u λe w'=>Db e/\Bq wr w'):=λu hu=>by
   have B:Bq wr u:=by
    rcases hu with rfl|rfl;.exact Ok
    .exact Ok.drew
   exact(O2 l up ab m kc t kp u ((B.cell (p:=(aq ab 5)) (klt q5)).trans q5) ((B.cell (p:=(aq ab 6)) (klt q6)).trans q6)).mono λe w' ⟨h,b⟩=>⟨h,B.trans (b.mono B.size)⟩
  clear q5 q6;by_cases Q:j<m
  .have R:(j:Int)<m:=dg;obtain⟨X,Y,c,rfl,H,CW⟩:=F j Q;replace H:=qH H;replace CW:=qH CW;have I:=H wr d;rcases(by omega:l=0\/l=3\/(l≠0/\l≠3))with q|q|q;focus obtain⟨wg,wd,rfl,WB⟩:=E q;obtain⟨_,_,w9,y9,rfl⟩:=(WB.below f).2 j Q
   rotate_right;focus
    have e0:(l==0)=false:=by simpa using q.1
    have e3:(l==3)=false:=by simpa using q.2
    clear q
   rotate_right;all_goals
    try subst q
    clear E F;go_wp2_with(first
     |(go_at_call 208;refine(FR _ (by first|exact .inl rfl|exact .inr rfl)).mono ?_;rintro e u7 ⟨⟨fr,rfl⟩,D⟩;replace f:=qH<|f.out.trans (D.mono f.out.size);replace C:=qH<|C.out.trans (D.mono C.out.size);replace d:=qH<|d.out.trans (D.mono d.out.size);have r3:=(M.out u7 C.out).2.2.2.1;have r5:=H.out u7 d.out)
     |(go_at_call 209;(with_reducible refine ag (CW.out _ _ d.out) ?_);rintro e u5 ⟨⟨z,rfl,z0,z1⟩,b5⟩;have zl:=qH<|f.out.trans (b5.mono f.out.size);have T:=M.out u5 (C.out.trans (b5.mono C.out.size));have q1:=T.2.1;have q4:=J.out u5 (d.out.trans (b5.mono d.out.size));clear T)
     |(go_at_call 44;refine Ut (kZ _ _ _) ?_;rintro u6 P;obtain rfl:=P.symm));all_goals exact⟨⟨j+1,_,_,by go_num,rfl,rfl,dg,zl⟩,by simp only[intOf];omega⟩
  .have R:¬(j:Int)<m:=dg;clear F E;go_wp2_with(first|(go_at_call 213;refine(P6 _ _).mono ?_;rintro e u6 ⟨⟨y,rfl,hy⟩,P⟩;obtain rfl:=P.symm)|(go_at_call 208;refine(FR _ (by first|exact .inl rfl|exact .inr rfl)).mono ?_;rintro e u7 ⟨⟨fr,rfl⟩,b7⟩;replace r:=qH<|r.out.trans (b7.mono r.out.size)));all_goals go_ret;exact⟨⟨_,rfl,hy⟩,r⟩
def tJ{w:AT}{g n cap:Nat}(h:uy w g n):∀f k,n<=k+f->k<n->∀(x:Int) U,Bq w U->
 Cw 209 #[Sq g n cap,Iq (k:Nat),Iq x] U λe b=>KC e/\Bq U b
 |0,k,d,a=>dg
 |f+1,k,d,a=>Hh h k a λc j i=>tJ h f c dg i
