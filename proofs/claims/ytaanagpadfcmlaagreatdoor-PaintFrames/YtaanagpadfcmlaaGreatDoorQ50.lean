import Derived.Test.YtaanagpadfcmlaaGreatDoorQ49
import Derived.Test.YtaanagpadfcmlaaGreatDoorQ47
set_option linter.all false
set_option maxRecDepth 100000
set_option maxHeartbeats 16000000
namespace Go.Proofs.YtaanagpadfcmlaaGreatDoor
open Go.RowKit Go.Sort Go.Proofs.Tryz
structure ct(kd a4 a5 a6:Int)(L:List Nd)(ks:List Nat)(Wd:Nat->Int)(H:Nat->Int->Int)(x y w h of rm:Int)(R0 R1 R2 R3:Nat->Int):Prop where
 row:kd=0->∃G,(ks=[]\/bD L ks (λj=>Wd (aH ks j)) w a4 G)/\(∀j,j<ks.length->0<=G j/\G j<=100000)/\∀j,j<ks.length->R0 j=x+cd G (cl a4) j/\R1 j=y/\R2 j=G j/\R3 j=h
 col:kd=1->∃G,(ks=[]\/bD L ks (λj=>H (aH ks j) w) h a4 G)/\(∀j,j<ks.length->0<=G j/\G j<=100000)/\∀j,j<ks.length->R0 j=x/\R1 j=y+cd G (cl a4) j/\R2 j=w/\R3 j=G j
 box:kd=3->∀j,j<ks.length->pC x y w h (a6+a5)=rv (R0 j) (R1 j) (R2 j) (R3 j)
 scr:kd=4->∀j,j<ks.length->R0 j=x/\R1 j=y-of/\R2 j=w/\R3 j=h+rm
 rest:kd≠0->kd≠1->kd≠3->kd≠4->∀j,j<ks.length->R0 j=x/\R1 j=y/\R2 j=w/\R3 j=h
def iO(U U':World)(r m:Nat)(H:Nat->Int->Int)(n:Nat)(X:(Nat->Int)->(Nat->Int)->(Nat->Int)->(Nat->Int)->Prop)(e:Ending):Prop:=∃q cq R0 R1 R2 R3,e=Rw (.slice q m cq)/\X R0 R1 R2 R3/\(m=0\/∃b,q=some (aj b 0)/\U.heap.size<=b/\oG U' b m R0 R1 R2 R3)/\U.grownBy U' (some r)/\bm U' r H n
theorem iO.base{U d c}{r m}{H}{n}{X}{e}(h:iO U c r m H n X e)(f:d.grownBy U (some r)):iO d c r m H n X e:=by
 obtain⟨q,cq,R0,R1,R2,R3,h1,g,a,l,p⟩:=h;refine⟨q,cq,R0,R1,R2,R3,h1,g,?_,f.trans l,p⟩;rcases a with a|⟨b,e,t,u⟩;·exact .inl a
 ·exact .inr ⟨b,e,aF f.size t,u⟩
theorem Ol{W:World}{b m:Nat}{x y a c:Int}{f:List Value}(h:W.heap[b]?=some (.cells f.toArray 52 (0,0)))(d:Az 4 f m m [Iq x,Iq y,Iq a,Iq c]):oG W b m (λ_=>x) (λ_=>y) (λ_=>a) (λ_=>c):=by
 refine⟨(aD.1 h).1,λj e=>⟨?_,?_,?_,?_⟩⟩;·rw[Lib.cell_of_heap h];have:=d.2 j 0 _ e rfl;simpa using this
 ·rw[Lib.cell_of_heap h];have:=d.2 j 1 _ e rfl;simpa using this
 ·rw[Lib.cell_of_heap h];have:=d.2 j 2 _ e rfl;simpa using this
 ·rw[Lib.cell_of_heap h];have:=d.2 j 3 _ e rfl;simpa using this
theorem JA(m:Nat)(z:m<=1000)x y a c u:
 Cw 96 #[Sq u.heap.size 1 1,Iq (m:Int)] (u.alloc (.cells #[Iq x,Iq y,Iq a,Iq c] 52)) λe g=>∃q cq,e=Rw (.slice q m cq)/\Hid (m=0\/∃b,q=some (aj b 0)/\u.heap.size<=b/\oG g b m (λ_=>x) (λ_=>y) (λ_=>a) (λ_=>c))/\Hid (Bt u g):=by
 have d:Bt u (u.alloc (.cells #[Iq x,Iq y,Iq a,Iq c] 52)):=(af _ u).alloc (ae _) _;by_cases r:m=0;·subst r;refine(yy (.inr (.inl ⟨rfl,rfl,rfl,rfl⟩)) (u.alloc (.cells #[Iq x,Iq y,Iq a,Iq c] 52)) u.heap.size).mono ?_;rintro e g ⟨q,cq,rfl,l⟩;exact⟨q,cq,rfl,.inl rfl,d.trans (l.mono d.size)⟩
 ·refine(vB (.inr (.inl ⟨rfl,rfl,rfl,rfl⟩)) (u.alloc (.cells #[Iq x,Iq y,Iq a,Iq c] 52)) [Iq x,Iq y,Iq a,Iq c] rfl (by simp[Value.oneCell']) u.heap.size m dg rn (λk v f=>?_)).mono ?_;·rw[World.cell?_alloc_at _ _ _ _ rfl];match k with
   |0=>exact f
   |1=>exact f
   |2=>exact f
   |3=>exact f
   |k+4=>cases f
  ·rintro e g ⟨rfl,⟨t,p,n⟩,l⟩;exact⟨_,_,rfl,.inr ⟨_,rfl,d.size,Ol p n⟩,d.trans (l.mono d.size)⟩
theorem iO.mono{U a}{r m}{H}{n b}{X}{e}(h:iO U a r m H n X e)(l:n<=b):iO U a r m H b X e:=by obtain⟨q,cq,R0,R1,R2,R3,h1,c,d,f,g⟩:=h;exact⟨q,cq,R0,R1,R2,R3,h1,c,d,f,g.mono l⟩
def QD(kd a0 a1 a2 a3 a4 a5 a6 a7 a8 a9 b0 b1:Int)(tx:ByteArray)(kv:Value)(up:Int):Array Value:=#[Iq kd,Iq a0,Iq a1,Iq a2,Iq a3,Iq a4,Iq a5,Iq a6,Iq a7,Iq a8,Iq a9,Iq b0,Iq b1,.string tx,kv,Iq up]
theorem Ox{U}{r p m:Nat}{H}{X}(B:m<=200)(v:bm U r H p)u f g d a(hu:Bt U u)(c:X (λ_=>f) (λ_=>g) (λ_=>d) (λ_=>a)):
 Cw 96 #[Sq u.heap.size 1 1,Iq (m:Int)] (u.alloc (.cells #[Iq f,Iq g,Iq d,Iq a] 52)) λe t=>∃q cq,e=Rw (.slice q m cq)/\Hid (iO U t r m H (p+100*m) X (.returned (.slice q m cq))):=by
 refine(JA m dg f g d a u).mono ?_;rintro e t ⟨q,cq,rfl,z,A⟩;have n:=hu.trans (A.mono hu.size);refine⟨q,cq,rfl,q,cq,_,_,_,_,rfl,c,?_,ac n,(v.grown_below n).mono dg⟩;rcases z.out with e|⟨b,e,l,h⟩;·exact .inl e
 ·exact .inr ⟨b,e,aF hu.size l,h⟩
theorem sW(mb r V m:Nat)(L:List Nd)(ks:List Nat)(Wd:Nat->Int)(H:Nat->Int->Int)(kd E F I J a4 a5 a6 K M O R S up:Int)(tx:ByteArray)(p:Option Addr)(c:Nat)(x y w h c0 c1 c2 c3 of rm:Int)(U:World)(zk:ks.length=m)(hm:m<=200)(hM:Hid (bm U r H V))(hx:-1000000000000<=x/\x<=1000000000000)(hy:-1000000000000<=y/\y<=1000000000000)(hw:0<=w/\w<=100000)(hh:0<=h/\h<=100000)(h5:0<=a5/\a5<=1000000)(h6:0<=a6/\a6<=1000000)(zT:0<=of/\of<=100000)(zV:0<=rm/\rm<=100000)(WR:Hid (kd=0->∀u,Bt U u->bm u r H V->Cw 92 #[Pq mb,fB kd E F I J a4 a5 a6 K M O R S tx (.slice p m c) up] u λe C=>∃v,e=Rw v/\gN u C r m L ks (λj=>Wd (aH ks j)) H (V+100*m) v))(WC:Hid (kd=1->∀u,Bt U u->bm u r H V->Cw 94 #[Pq mb,fB kd E F I J a4 a5 a6 K M O R S tx (.slice p m c) up,Iq w] u λe C=>∃v,e=Rw v/\gN u C r m L ks (λj=>H (aH ks j) w) H (V+100*m) v)):
 Cw 50 #[Pq mb,fB kd E F I J a4 a5 a6 K M O R S tx (.slice p m c) up,.agg #[Iq x,Iq y,Iq w,Iq h,Iq c0,Iq c1,Iq c2,Iq c3,Iq of,Iq rm]] U λe U'=>iO U U' r m H (V+100*m) (ct kd a4 a5 a6 L ks Wd H x y w h of rm) e:=by
 have zO:prog.follows .mixedOrders=true:=ns;obtain⟨b,n⟩:=ad (((U.alloc (.cells (QD kd E F I J a4 a5 a6 K M O R S tx (.slice p m c) up) 57)).alloc (.cells #[Iq x,Iq y,Iq w,Iq h,Iq c0,Iq c1,Iq c2,Iq c3,Iq of,Iq rm] 59)).alloc (.cells #[Iq x,Iq y,Iq w,Iq h] 52));obtain⟨A,hA⟩:=ad U.heap.size;have d:Hid (Bt U b):=by rw[<-n];exact((((Gr.refl U).alloc _).alloc _).alloc _).below
 have B:b.heap[A]?=some (.cells (QD kd E F I J a4 a5 a6 K M O R S tx (.slice p m c) up) 57 (0,0)):=by rw[<-n,<-hA,cK _ _ _ (by rw[au,au];omega),cK _ _ _ (by rw[au];omega)];exact heap_alloc_new _ _
 have T:b.heap[A+1]?=some (.cells #[Iq x,Iq y,Iq w,Iq h,Iq c0,Iq c1,Iq c2,Iq c3,Iq of,Iq rm] 59 (0,0)):=by rw[<-n,<-hA,cK _ _ _ (by rw[au,au];omega),<-World.size_alloc];exact heap_alloc_new _ _
 have l:b.heap[A+1+1]?=some (.cells #[Iq x,Iq y,Iq w,Iq h] 52 (0,0)):=by rw[<-n,<-hA,<-World.size_alloc,<-World.size_alloc];exact heap_alloc_new _ _
 unfold QD at n;have zU:r<A:=by rw[<-hA];exact hM.lt
 have HS:Hid (∀u,b.grownBy u (some r)->(u.cell? (aj A 0)=some (Iq kd)/\u.cell? (aj A 1)=some (Iq E)/\u.cell? (aj A 2)=some (Iq F)/\u.cell? (aj A 3)=some (Iq I)/\u.cell? (aj A 4)=some (Iq J)/\u.cell? (aj A 5)=some (Iq a4)/\u.cell? (aj A 6)=some (Iq a5)/\u.cell? (aj A 7)=some (Iq a6)/\u.cell? (aj A 8)=some (Iq K)/\u.cell? (aj A 9)=some (Iq M)/\u.cell? (aj A 10)=some (Iq O)/\u.cell? (aj A 11)=some (Iq R)/\u.cell? (aj A 12)=some (Iq S)/\u.cell? (aj A 13)=some (.string tx)/\u.cell? (aj A 14)=some (.slice p m c)/\u.cell? (aj A 15)=some (Iq up))/\u.cell? (aj (A+1+1) 0)=some (Iq x)/\u.cell? (aj (A+1+1) 1)=some (Iq y)/\u.cell? (aj (A+1+1) 2)=some (Iq w)/\u.cell? (aj (A+1+1) 3)=some (Iq h)):=λu hu=>by
  have zD:=(hu.block A (aD.1 B).1 (λe=>by injection e with e;omega)).trans B;have zE:=(hu.block (A+1+1) (aD.1 l).1 (λe=>by injection e with e;omega)).trans l;refine⟨⟨?_,?_,?_,?_,?_,?_,?_,?_,?_,?_,?_,?_,?_,?_,?_,?_⟩,?_,?_,?_,?_⟩;all_goals first
   |(rw[Lib.cell_of_heap zD];rfl)
   |(rw[Lib.cell_of_heap zE];rfl)
 obtain⟨⟨z0,z1,z2,z3,z4,z5,z6,z7,z8,z9,zG,zH,zI,zJ,zK,zL⟩,y0,y1,y2,y3⟩:=HS b (ac (af _ _));have p8:b.cell? (aj (A+1) 8)=some (Iq of):=by rw[Lib.cell_of_heap T];rfl
 have p9:b.cell? (aj (A+1) 9)=some (Iq rm):=by rw[Lib.cell_of_heap T];rfl
 have za:Hid (bm b r H V):=hM.grown_below d;have zM:A<b.heap.size:=(aD.1 B).1;have zP:¬A=b.heap.size:=dg;have RP:=qH<|λu x0 y0 w0 h0=>Ox (X:=ct kd a4 a5 a6 L ks Wd H x y w h of rm) hm hM u x0 y0 w0 h0;by_cases zg:kd=0\/kd=1;·-- a row,a zR
  obtain⟨f,av,g,s,N,hf⟩:∃f av g s N,(kd=0/\f=92/\av=#[Pq mb,fB kd E F I J a4 a5 a6 K M O R S tx (.slice p m c) up]/\g=91/\s=w/\N=λj=>Wd (aH ks j))\/(kd=1/\f=94/\av=#[Pq mb,fB kd E F I J a4 a5 a6 K M O R S tx (.slice p m c) up,Iq w]/\g=93/\s=h/\N=λj=>H (aH ks j) w):=by
   rcases zg with e|e;·exact⟨_,_,_,_,_,.inl ⟨e,rfl,rfl,rfl,rfl,rfl⟩⟩
   ·exact⟨_,_,_,_,_,.inr ⟨e,rfl,rfl,rfl,rfl,rfl⟩⟩
  have RW:Hid (∀u,(u=b\/u=b.drew)->Cw f av u λe C=>∃v,e=Rw v/\Hid (gN b C r m L ks N H (V+100*m) v)):=λu hu=>by
   have z:Bt b u:=by
    rcases hu with rfl|rfl;·exact af _ _
    ·exact(af _ _).drew
   have hc:Cw f av u λe C=>∃v,e=Rw v/\gN u C r m L ks N H (V+100*m) v:=by
    rcases hf with⟨e,rfl,rfl,_,_,rfl⟩|⟨e,rfl,rfl,_,_,rfl⟩;·exact WR e u (d.trans (z.mono d.size)) (za.grown_below z)
    ·exact WC e u (d.trans (z.mono d.size)) (za.grown_below z)
   refine hc.mono ?_;rintro e C ⟨v,rfl,lb,rfl,q1,q2,q3,q4⟩;exact⟨_,rfl,lb,rfl,q1,aF z.size q2,(ac z).trans q3,q4⟩
  have IN:Hid (∀v u,gN b u r m L ks N H (V+100*m) v->Cw g #[.agg #[Iq x,Iq y,Iq w,Iq h],Iq a4,v] u λe C=>∃q cq,e=Rw (.slice q m cq)/\Hid (iO b C r m H (V+100*m) (ct kd a4 a5 a6 L ks Wd H x y w h of rm) (.returned (.slice q m cq)))):=λv u hv=>by
   obtain⟨G,hG⟩:=MG L ks N s a4;obtain⟨X,Y,P,Q,zq⟩:∃X Y P Q:Nat->Int,(g=91/\s=w/\(∀k,X k=x+cd G (cl a4) k/\Y k=y/\P k=G k/\Q k=h)\/g=93/\s=h/\∀k,X k=x/\Y k=y+cd G (cl a4) k/\P k=w/\Q k=G k)/\((ks=[]\/bD L ks N s a4 G)->(∀j,j<m->0<=G j/\G j<=100000)->ct kd a4 a5 a6 L ks Wd H x y w h of rm X Y P Q):=by
    rcases hf with⟨rfl,_,_,e1,rfl,rfl⟩|⟨rfl,_,_,e1,rfl,rfl⟩;·exact⟨λk=>_,λk=>_,λk=>_,λk=>_,.inl ⟨e1,rfl,λk=>⟨rfl,rfl,rfl,rfl⟩⟩,λg1 g2=>⟨λ_=>⟨G,g1,by rw[zk];exact g2,λj _=>⟨rfl,rfl,rfl,rfl⟩⟩,nofun,nofun,nofun,λe=>absurd rfl e⟩⟩
    ·exact⟨λk=>_,λk=>_,λk=>_,λk=>_,.inr ⟨e1,rfl,λk=>⟨rfl,rfl,rfl,rfl⟩⟩,λg1 g2=>⟨nofun,λ_=>⟨G,g1,by rw[zk];exact g2,λj _=>⟨rfl,rfl,rfl,rfl⟩⟩,nofun,nofun,λ_ e=>absurd rfl e⟩⟩
   refine(On g r m x y w h s a4 X Y P Q G L ks N H (V+100*m) v b u hG zq.1 zk hm (by have:=d.size;omega) hx hy hw hh hv).mono ?_;rintro e C ⟨lb,rfl,⟨o1,o2,o3⟩,g1,g2⟩;obtain⟨lv,_,_,v2,v3,v4⟩:=hv;exact⟨_,_,rfl,_,_,_,_,_,_,rfl,zq.2 g1 g2,.inr ⟨lb,rfl,aF v3.size o2,o1⟩,v3.trans (ac o3),v4.grown_below o3⟩
  clear B T l hM WR WC p8 p9 zg RP;rcases hf with⟨hk,rfl,rfl,rfl,_,_⟩|⟨hk,rfl,rfl,rfl,_,_⟩;all_goals
   first
    |have e0:(kd==0)=true:=by simp[hk]
    |(have e0:(kd==0)=false:=(by simp[hk]);have e1:(kd==1)=true:=(by simp[hk]))
   clear hk;unfold fB at RW⊢;go_enter func50,ntmps50;go_wp2_with fail;clear n hA;go_region_held(λW=>(W.cell? (aj A 0)=some (Iq kd)/\W.cell? (aj A 1)=some (Iq E)/\W.cell? (aj A 2)=some (Iq F)/\W.cell? (aj A 3)=some (Iq I)/\W.cell? (aj A 4)=some (Iq J)/\W.cell? (aj A 5)=some (Iq a4)/\W.cell? (aj A 6)=some (Iq a5)/\W.cell? (aj A 7)=some (Iq a6)/\W.cell? (aj A 8)=some (Iq K)/\W.cell? (aj A 9)=some (Iq M)/\W.cell? (aj A 10)=some (Iq O)/\W.cell? (aj A 11)=some (Iq R)/\W.cell? (aj A 12)=some (Iq S)/\W.cell? (aj A 13)=some (.string tx)/\W.cell? (aj A 14)=some (.slice p m c)/\W.cell? (aj A 15)=some (Iq up))/\W.cell? (aj (A+1+1) 0)=some (Iq x)/\W.cell? (aj (A+1+1) 1)=some (Iq y)/\W.cell? (aj (A+1+1) 2)=some (Iq w)/\W.cell? (aj (A+1+1) 3)=some (Iq h)) (go_keep) (first|((first|go_at_call 92|go_at_call 94);refine ag (RW _ (by first|exact .inl rfl|exact .inr rfl)) ?_;rintro e u1 ⟨v1,rfl,HO⟩;obtain⟨⟨s0,s1,s2,s3,s4,s5,s6,s7,s8,s9,zu,zv,zw,zx,zy,zz⟩,e0,e1,e2,e3⟩:=HS u1 HO.g)|((first|go_at_call 91|go_at_call 93);refine ag (IN _ _ HO) ?_;rintro e u2 ⟨q,cq,rfl,HZ⟩;obtain⟨⟨t0,t1,t2,t3,t4,t5,t6,t7,t8,t9,t10,t11,t12,t13,t14,t15⟩,f0,f1,f2,f3⟩:=HS u2 (by obtain⟨_,_,_,_,_,_,_,_,_,hq,_⟩:=HZ.out;exact hq)));all_goals go_wp2;go_ret;exact HZ.base (ac d)
 by_cases k3:kd=3;·-- a zQ
  subst k3;obtain⟨Z,i1,i2,i3,zc⟩:∃Z i1 i2 i3,pC x y w h (a6+a5)=rv Z i1 i2 i3:=⟨_,_,_,_,rfl⟩;have zb:Hid (ct 3 a4 a5 a6 L ks Wd H x y w h of rm (λ_=>Z) (λ_=>i1) (λ_=>i2) (λ_=>i3)):=⟨nofun,nofun,λ_ j _=>zc,nofun,λ_ _ e=>absurd rfl e⟩;have FA:Hid (∀u,(u=b\/u=b.drew)->Cw 88 #[fB 3 E F I J a4 a5 a6 K M O R S tx (.slice p m c) up] u λe C=>e=Rw (Iq (a6+a5))/\Hid (Bt b C)):=λu hu=>by
   have z:Bt b u:=by
    rcases hu with rfl|rfl;·exact af _ _
    ·exact(af _ _).drew
   refine(kU 3 E F I J a4 a5 a6 K M O R S up tx p m c h5 h6 u).mono ?_;rintro e C ⟨rfl,q⟩;exact⟨by unfold gS;rw[if_pos rfl],z.trans (q.mono z.size)⟩
  have IS:Hid (∀u,Bt b u->Cw 95 #[.agg #[Iq x,Iq y,Iq w,Iq h],Iq (a6+a5)] u λe C=>e=Rw (.agg #[Iq Z,Iq i1,Iq i2,Iq i3])/\Hid (Bt b C)):=λu hu=>by have:=Fl x y w h (a6+a5) u;rw[zc]at this;refine this.mono ?_;rintro e C ⟨rfl,q⟩;exact⟨rfl,hu.trans (q.below.mono hu.size)⟩
  have zi:A+1+1<b.heap.size:=(aD.1 l).1;have zn:Hid (∀u,Bt b u->∀j,u.frozen? (aj (A+1+1) j)=false):=λu hu j=>frozen_of_row _ _ _ _ _ ((hu.block _ zi).trans l);have zo:Hid (∀u,Bt b u->((((u.setCell (aj (A+1+1) 0) (Iq Z)).setCell (aj (A+1+1) 1) (Iq i1)).setCell (aj (A+1+1) 2) (Iq i2)).setCell (aj (A+1+1) 3) (Iq i3)).heap[A+1+1]?=some (.cells #[Iq Z,Iq i1,Iq i2,Iq i3] 52 (0,0))/\((((u.setCell (aj (A+1+1) 0) (Iq Z)).setCell (aj (A+1+1) 1) (Iq i1)).setCell (aj (A+1+1) 2) (Iq i2)).setCell (aj (A+1+1) 3) (Iq i3)).heap[A]?=some (.cells (QD 3 E F I J a4 a5 a6 K M O R S tx (.slice p m c) up) 57 (0,0))/\Bt U ((((u.setCell (aj (A+1+1) 0) (Iq Z)).setCell (aj (A+1+1) 1) (Iq i1)).setCell (aj (A+1+1) 2) (Iq i2)).setCell (aj (A+1+1) 3) (Iq i3))):=λu hu=>by
   have zF:R4 52 u (A+1+1) x y w h:=(hu.block _ zi).trans l;have hl:∀t,U.heap.size<=((aj (A+1+1) t):Addr).block:=λt=>by rw[hA];show A<=A+1+1;omega
   refine⟨zF.set Z i1 i2 i3,?_,((((d.trans (hu.mono d.size)).setCell (hl 0) _).setCell (hl 1) _).setCell (hl 2) _).setCell (hl 3) _⟩;have ze:A≠A+1+1:=dg;rw[bK _ (aj (A+1+1) 3) _ _ ze,bK _ (aj (A+1+1) 2) _ _ ze,bK _ (aj (A+1+1) 1) _ _ ze,bK _ (aj (A+1+1) 0) _ _ ze];exact(hu.block A (aD.1 B).1).trans B
  unfold fB at FA⊢;clear B T l hM zc WR WC zg za;go_enter func50,ntmps50;go_wp2_with fail;clear n hA;go_region_with(first|(go_at_call 88;refine ag (FA _ (by first|exact .inl rfl|exact .inr rfl)) ?_;rintro e u1 ⟨rfl,zm⟩;obtain⟨⟨s0,s1,s2,s3,s4,s5,s6,s7,s8,s9,zu,zv,zw,zx,zy,zz⟩,e0,e1,e2,e3⟩:=HS u1 (ac zm))|(go_at_call 95;refine ag (IS _ zm) ?_;rintro e u2 ⟨rfl,zj⟩;obtain⟨⟨t0,t1,t2,t3,t4,t5,t6,t7,t8,t9,t10,t11,t12,t13,t14,t15⟩,f0,f1,f2,f3⟩:=HS u2 (ac zj);have zr:=zn u2 zj));all_goals
   obtain⟨wc,zl⟩:=ad ((((u2.setCell (aj (A+1+1) 0) (Iq Z)).setCell (aj (A+1+1) 1) (Iq i1)).setCell (aj (A+1+1) 2) (Iq i2)).setCell (aj (A+1+1) 3) (Iq i3));have D:Hid (wc.heap[A+1+1]?=some (.cells #[Iq Z,Iq i1,Iq i2,Iq i3] 52 (0,0))/\wc.heap[A]?=some (.cells (QD 3 E F I J a4 a5 a6 K M O R S tx (.slice p m c) up) 57 (0,0))/\Bt U wc):=by rw[<-zl];exact zo u2 zj
   have g0:wc.cell? (aj (A+1+1) 0)=some (Iq Z):=by rw[Lib.cell_of_heap D.1];rfl
   have g1:wc.cell? (aj (A+1+1) 1)=some (Iq i1):=by rw[Lib.cell_of_heap D.1];rfl
   have g2:wc.cell? (aj (A+1+1) 2)=some (Iq i2):=by rw[Lib.cell_of_heap D.1];rfl
   have g3:wc.cell? (aj (A+1+1) 3)=some (Iq i3):=by rw[Lib.cell_of_heap D.1];rfl
   have zS:wc.cell? (aj A 14)=some (.slice p m c):=by rw[Lib.cell_of_heap D.2.1];rfl
   have zN:A<wc.heap.size:=(aD.1 D.2.1).1;have ze:¬A=wc.heap.size:=dg;rw[zl];clear zl z0 z1 z2 z3 z4 z5 z6 z7 z8 z9 zG zH zI zJ zK zL y0 y1 y2 y3 HS FA IS zn zo s0 s1 s2 s3 s4 s5 s6 s7 s8 s9 zu zv zw zx zy zz e0 e1 e2 e3 t0 t1 t2 t3 t4 t5 t6 t7 t8 t9 t10 t11 t12 t13 t14 t15 f0 f1 f2 f3 zr;go_wp2_with(go_at_call 96;refine ag (RP _ _ _ _ _ D.2.2 zb) ?_;rintro e u3 ⟨q,cq,rfl,HZ⟩);go_ret;exact HZ
 by_cases k4:kd=4;·-- a zA
  subst k4;have zb:Hid (ct 4 a4 a5 a6 L ks Wd H x y w h of rm (λ_=>x) (λ_=>y-of) (λ_=>w) (λ_=>h+rm)):=⟨nofun,nofun,nofun,λ_ j _=>⟨rfl,rfl,rfl,rfl⟩,λ_ _ _ e=>absurd rfl e⟩;have n1:¬A+1+1=A:=dg;have n2:¬A+1+1=A+1:=dg;have n3:¬A=A+1+1:=dg;have n4:¬A+1=A+1+1:=dg;have zr:∀j,b.frozen? (aj (A+1+1) j)=false:=λj=>frozen_of_row _ _ _ _ _ l;have zB:Hid (Bt U ((b.setCell (aj (A+1+1) 1) (Iq (y-of))).setCell (aj (A+1+1) 3) (Iq (h+rm)))):=(d.setCell (p:=(aj (A+1+1) 1)) (by rw[hA];show A<=A+1+1;omega) _).setCell (p:=(aj (A+1+1) 3)) (by rw[hA];show A<=A+1+1;omega) _;obtain⟨W4,zh⟩:=ad ((b.setCell (aj (A+1+1) 1) (Iq (y-of))).setCell (aj (A+1+1) 3) (Iq (h+rm)));have zt:W4.heap.size=b.heap.size:=by rw[<-zh];simp
  have zC:Hid (Cw 96 #[Sq b.heap.size 1 1,Iq (m:Int)] (((b.setCell (aj (A+1+1) 1) (Iq (y-of))).setCell (aj (A+1+1) 3) (Iq (h+rm))).alloc (.cells #[Iq x,Iq (y-of),Iq w,Iq (h+rm)] 52)) λe C=>∃q cq,e=Rw (.slice q m cq)/\Hid (iO U C r m H (V+100*m) (ct 4 a4 a5 a6 L ks Wd H x y w h of rm) (.returned (.slice q m cq)))):=by have:=RP W4 _ _ _ _ (by rw[<-zh];exact zB) zb;rw[zt]at this;rw[zh];exact this
  unfold fB;clear B T l hM HS zh zt WR WC zg za k3;go_enter func50,ntmps50;go_upto_region 3 with fail;clear n hA;go_wp2_with(go_at_call 96;refine ag zC ?_;rintro e u2 ⟨q,cq,rfl,HZ⟩);go_ret;exact HZ
 have e0:(kd==0)=false:=by simp;omega
 have e1:(kd==1)=false:=by simp;omega
 have e3:(kd==3)=false:=by simp;omega
 have e4:(kd==4)=false:=by simp;omega
 have zb:Hid (ct kd a4 a5 a6 L ks Wd H x y w h of rm (λ_=>x) (λ_=>y) (λ_=>w) (λ_=>h)):=⟨dg,dg,dg,dg,λ_ _ _ _ j _=>⟨rfl,rfl,rfl,rfl⟩⟩;unfold fB;clear B T l hM HS WR WC za;go_enter func50,ntmps50;go_upto_region 3 with fail;clear n hA;go_wp2_with(go_at_call 96;refine ag (RP _ _ _ _ _ d zb) ?_;rintro e u2 ⟨q,cq,rfl,HZ⟩);go_ret;exact HZ
def uT(ax ay aw ah bx mO bw bh:Int):Int:=if eQ ax aw bx bw>=fQ ax aw bx bw\/eQ ay ah mO bh>=fQ ay ah mO bh then 0 else eQ ax aw bx bw
def uU(ax ay aw ah bx mO bw bh:Int):Int:=if eQ ax aw bx bw>=fQ ax aw bx bw\/eQ ay ah mO bh>=fQ ay ah mO bh then 0 else eQ ay ah mO bh
def sO(ax ay aw ah bx mO bw bh:Int):Int:=if eQ ax aw bx bw>=fQ ax aw bx bw\/eQ ay ah mO bh>=fQ ay ah mO bh then 0 else fQ ax aw bx bw-eQ ax aw bx bw
def uV(ax ay aw ah bx mO bw bh:Int):Int:=if eQ ax aw bx bw>=fQ ax aw bx bw\/eQ ay ah mO bh>=fQ ay ah mO bh then 0 else fQ ay ah mO bh-eQ ay ah mO bh
theorem tF d e c b l a g f:nW d e c b l a g f=rv (uT d e c b l a g f) (uU d e c b l a g f) (sO d e c b l a g f) (uV d e c b l a g f):=by grind[nW,uT,uU,sO,uV]
def uc(P:Nat->Nat->Int)(c:Nat)(v:Nat->Int):Nat->Nat->Int:=λq t=>if q=c then v t else P q t
def vx(P:Nat->Nat->Int)(i:Nat)(x y a b:Int)(t:Nat):Int:=
 if t=0 then x else if t=1 then y else if t=2 then a else if t=3 then b else if t=4 then uT x y a b (P i 4) (P i 5) (P i 6) (P i 7)else if t=5 then uU x y a b (P i 4) (P i 5) (P i 6) (P i 7)else if t=6 then sO x y a b (P i 4) (P i 5) (P i 6) (P i 7)else if t=7 then uV x y a b (P i 4) (P i 5) (P i 6) (P i 7)else 0
def DG(P:Nat->Nat->Int)(i:Nat)(ks:List Nat)(R0 R1 R2 R3:Nat->Int):Nat->Nat->Nat->Int
 |0=>P
 |j+1=>uc (DG P i ks R0 R1 R2 R3 j) (aH ks j) (vx P i (R0 j) (R1 j) (R2 j) (R3 j))
section
variable{P:Nat->Nat->Int} {i:Nat} {ks:List Nat} {R0 R1 R2 R3:Nat->Int}
theorem oz:∀j,(∀t,t<j->t<ks.length)->∀q,q∉ks->DG P i ks R0 R1 R2 R3 j q=P q
 |0,_,q,_=>rfl
 |j+1,b,q,a=>by have:=oz j (λt c=>b t dg) q a;funext t;show(if q=aH ks j then _ else DG P i ks R0 R1 R2 R3 j q t)=_;rw[if_neg (λe=>a (by grind[eK])),this]
theorem LK(f:ks.Nodup){a b}(c:a<ks.length)(d:b<ks.length)(e:aH ks a=aH ks b):a=b:=by
 unfold aH at e;rw[dI c,dI d]at e;rcases Nat.lt_trichotomy a b with h|h|h;·exact absurd e (Kg.1 f a b c d h)
 ·exact h
 ·exact absurd e.symm (Kg.1 f b a d c h)
theorem DH(b:ks.Nodup):∀j,j<=ks.length->∀a,a<j->DG P i ks R0 R1 R2 R3 j (aH ks a)=vx P i (R0 a) (R1 a) (R2 a) (R3 a)
 |0,_,a,h=>dg
 |j+1,d,a,c=>by
  funext t;show(if aH ks a=aH ks j then vx P i (R0 j) (R1 j) (R2 j) (R3 j) t else DG P i ks R0 R1 R2 R3 j (aH ks a) t)=_;by_cases e:a=j;·grind
  ·rw[if_neg (λq=>e (LK b dg dg q)),DH b j dg a dg]
end
theorem Ch.ok{L}{d}{ks}{a e}(h:Ch L d ks a e):∀j,a<=j->j<e->qe (L j):=by
 induction h with
 |nil d a=>omega
 |@cons d c r b e h1 f g l m n=>grind
theorem dp.kidok{s}{L}(h:dp s L)j(a:j<L.length):qe (aa L j):=h.ch.ok j (aR _) a
structure cV(L:List Nd)(Wd:Nat->Int)(H:Nat->Int->Int)(w h:Int)(dM off:Nat->Int)(sn:Nat)(P:Nat->Nat->Int)(k:Nat):Prop where
 root:P 0 0=0/\P 0 1=0/\P 0 2=w/\P 0 3=h/\P 0 4=0/\P 0 5=0/\P 0 6=w/\P 0 7=h
 sc:∀i,i<L.length->i<k->(aa L i).kind=4->P i 9=dA (H (aH (aa L i).kids 0) (P i 2)) (P i 3)/\P i 8=min (max 0 (fi (ap (aa L i) 0) dM off sn)) (P i 9)
 no:∀i,i<L.length->(k<=i\/(aa L i).kind≠4)->P i 8=0/\P i 9=0
 kr:∀i,i<L.length->i<k->∃R0 R1 R2 R3,ct (aa L i).kind (ap (aa L i) 4) (ap (aa L i) 5) (ap (aa L i) 6) L (aa L i).kids Wd H (P i 0) (P i 1) (P i 2) (P i 3) (P i 8) (P i 9) R0 R1 R2 R3/\∀j,j<(aa L i).kids.length->∀t,t<8->P (aH (aa L i).kids j) t=vx P i (R0 j) (R1 j) (R2 j) (R3 j) t
 bd:∀i,i<L.length->-(((i:Int)+1)*100000000)<=P i 0/\P i 0<=((i:Int)+1)*100000000/\-(((i:Int)+1)*100000000)<=P i 1/\P i 1<=((i:Int)+1)*100000000/\0<=P i 2/\P i 2<=100000/\0<=P i 3/\P i 3<=100000
theorem Fk{x y a b n c d e f}(h:pC x y a b n=rv c d e f):-200000<=c/\c<=200000/\-200000<=d/\d<=200000/\0<=e/\e<=100000/\0<=f/\f<=100000:=by unfold pC at h;obtain⟨rfl,rfl,rfl,rfl⟩:=JI h;have h1:=cH x;have g:=cH y;have l:=bQ a;have m:=bQ b;have p:=bQ n;omega
theorem ct.bd{kd a4 a5 a6}{L}{ks}{Wd}{H}{x y w h of rm}{R0 R1 R2 R3}(s:ct kd a4 a5 a6 L ks Wd H x y w h of rm R0 R1 R2 R3)(v:ks.length<=100)(z:0<=w/\w<=100000)(hh:0<=h/\h<=100000)(r:0<=of/\of<=100000)(t:0<=rm/\h+rm<=100000)B(u:100000000<=B)(A:-B<=x/\x<=B)(hy:-B<=y/\y<=B)j(a:j<ks.length):
 -(B+100000000)<=R0 j/\R0 j<=B+100000000/\-(B+100000000)<=R1 j/\R1 j<=B+100000000/\0<=R2 j/\R2 j<=100000/\0<=R3 j/\R3 j<=100000:=by
 by_cases l:kd=0;·obtain⟨G,p,f,g⟩:=s.row l;obtain⟨b,c,d,e⟩:=g j a;have q:=la f (dq a4) j dg;grind
 ·by_cases h1:kd=1;·obtain⟨G,p,f,g⟩:=s.col h1;obtain⟨b,c,d,e⟩:=g j a;have q:=la f (dq a4) j dg;grind
  ·by_cases m:kd=3;·have:=Fk (s.box m j a);omega
   ·by_cases n:kd=4;·obtain⟨b,c,d,e⟩:=s.scr n j a;omega
    ·obtain⟨b,c,d,e⟩:=s.rest l h1 m n j a;omega
theorem ct.congr{kd a4 a5 a6}{L}{ks}{Wd}{H}{x y w h of rm d e w' c a b}{R0 R1 R2 R3}(s:ct kd a4 a5 a6 L ks Wd H x y w h of rm R0 R1 R2 R3)(f:x=d)(e1:y=e)(g:w=w')(l:h=c)(m:of=a)(n:rm=b):ct kd a4 a5 a6 L ks Wd H d e w' c a b R0 R1 R2 R3:=rd
theorem cV.step{s}{L}{Wd}{H}{w h}{dM off}{sn k}{P b}{R0 R1 R2 R3}(u:dp s L)(hS:Sz L Wd H)(hp:cV L Wd H w h dM off sn P k)(v:k<L.length)(h1:∀q t,¬(q=k/\(t=8\/t=9))->b q t=P q t)(N:(aa L k).kind=4->b k 9=dA (H (aH (aa L k).kids 0) (P k 2)) (P k 3)/\b k 8=min (max 0 (fi (ap (aa L k) 0) dM off sn)) (b k 9))(hn:(aa L k).kind≠4->b k 8=0/\b k 9=0)(O:ct (aa L k).kind (ap (aa L k) 4) (ap (aa L k) 5) (ap (aa L k) 6) L (aa L k).kids Wd H (b k 0) (b k 1) (b k 2) (b k 3) (b k 8) (b k 9) R0 R1 R2 R3):
 cV L Wd H w h dM off sn (DG b k (aa L k).kids R0 R1 R2 R3 (aa L k).kids.length) (k+1):=by
 obtain⟨ks,d⟩:=ad ((aa L k).kids);rw[d]at O N⊢;have ze:ks.Nodup:=by rw[<-d];exact u.nest.nd k v
 have z:∀c,c∈ks->k<c/\c<L.length/\(aa L c).up=(k:Int):=λc n=>u.nest.kid k c v rd;have A:ks.length<=100:=by rw[<-d];exact u.kids_le v
 obtain⟨Q,I⟩:=ad (DG b k ks R0 R1 R2 R3 ks.length);have C:∀q,q∉ks->Q q=b q:=λq hq=>by rw[<-I];grind[oz]
 have M:∀a,a<ks.length->Q (aH ks a)=vx b k (R0 a) (R1 a) (R2 a) (R3 a):=λa m=>by rw[<-I];grind[DH]
 rw[I];have K:k∉ks:=λn=>rd;have za:=C k K;have F:0∉ks:=λn=>rd;have nk:∀i,i<k->i∉ks:=λi hi n=>rd;have B:∀c,c∈ks->∃a,a<ks.length/\aH ks a=c:=λc n=>by obtain⟨a,m,e⟩:=o_.1 n;grind[aH]
 have zb:=hp.bd k v;have V:=h1 k 0 dg;have W:=h1 k 1 dg;have X:=h1 k 2 dg;have Y:=h1 k 3 dg;have f:0<=b k 8/\b k 8<=100000/\0<=b k 9/\b k 3+b k 9<=100000:=by
  by_cases E:(aa L k).kind=4
  ·obtain⟨r1,r2⟩:=N E;have l:aH ks 0<L.length:=by
    rcases u.kidok k v with q|⟨_,_,q⟩|⟨q,_⟩;·omega
    ·grind[eK]
    ·omega
   have hh:=hS.hb (aH ks 0) (P k 2) l;grind[dA]
  ·omega
 refine⟨?_,λi hi g E=>?_,λi hi g=>?_,λi hi g=>?_,λi hi=>?_⟩;·rw[C 0 F];have r:=hp.root;grind
 ·by_cases e:i=k;·grind
  ·rw[C i (nk i dg),h1 i 9 dg,h1 i 8 dg,h1 i 2 dg,h1 i 3 dg];exact hp.sc i hi dg E
 ·by_cases p:i∈ks;·obtain⟨a,m,rfl⟩:=B i p;rw[M a m];exact⟨rfl,rfl⟩
  ·rw[C i p];by_cases e:i=k;·grind
   ·rw[h1 i 8 dg,h1 i 9 dg];exact hp.no i hi dg
 ·by_cases e:i=k;·subst e;refine⟨R0,R1,R2,R3,rd,λj D t ht=>?_⟩;rw[d]at D⊢;rw[M j D];grind[vx]
  ·have J:i<k:=dg
   obtain⟨R,S,T,U,s1,s2⟩:=hp.kr i hi J;have Z:∀t,Q i t=P i t:=λt=>rd;refine⟨R,S,T,U,rd,λj D t ht=>?_⟩;have n:=u.nest.kid i _ hi (eK D);have zc:aH (aa L i).kids j∉ks:=λq=>rd;grind[vx]
 ·by_cases p:i∈ks;·have g:=z i p;obtain⟨a,m,rfl⟩:=B i p;rw[M a m];have hb:=O.bd A dg dg ⟨f.1,f.2.1⟩ ⟨f.2.2.1,f.2.2.2⟩ (((k:Int)+1)*100000000) dg dg dg a m;show-(((aH ks a:Nat):Int)+1)*100000000<=R0 a/\_;show _<=R0 a/\R0 a<=_/\_<=R1 a/\R1 a<=_/\0<=R2 a/\R2 a<=100000/\0<=R3 a/\R3 a<=100000;omega
  ·rw[C i p];have hb:=hp.bd i hi;grind
theorem wL a:∀m,cS (λ_=>a) m=a*m
 |0=>rfl
 |m+1=>by show cS (λ_=>a) m+a=_;rw[wL a m,Nat.mul_succ]
theorem vk{s}{L}{A}{Wd}{H}l r g a B m(d:dp s L)(hS:Sz L Wd H)i(hi:i<L.length)p c(D:A i=.slice p (aa L i).kids.length c)x y w h S c1 c2 c3 of rm U(n:Hs U l r g a B L A Wd H m)(hn:m<=10000000)(Y:-1000000000000<=x/\x<=1000000000000)(hy:-1000000000000<=y/\y<=1000000000000)(M:0<=w/\w<=100000)(hh:0<=h/\h<=100000)(I:0<=of/\of<=100000)(J:0<=rm/\rm<=100000):
 Cw 50 #[Pq l,fB (aa L i).kind (ap (aa L i) 0) (ap (aa L i) 1) (ap (aa L i) 2) (ap (aa L i) 3) (ap (aa L i) 4) (ap (aa L i) 5) (ap (aa L i) 6) (ap (aa L i) 7) (ap (aa L i) 8) (ap (aa L i) 9) (ap (aa L i) 10) (ap (aa L i) 11) ⟨(aa L i).text.toArray⟩ (.slice p (aa L i).kids.length c) (aa L i).up,.agg #[Iq x,Iq y,Iq w,Iq h,Iq S,Iq c1,Iq c2,Iq c3,Iq of,Iq rm]] U λe R=>iO U R r (aa L i).kids.length H (m+10000) (ct (aa L i).kind (ap (aa L i) 4) (ap (aa L i) 5) (ap (aa L i) 6) L (aa L i).kids Wd H x y w h of rm) e:=by
 have W:=(d.vl.nv i hi).bd;have hc:=d.vl.cnt;have X:=d.kids_le hi;have z:fL U r p (aa L i).kids.length (λt=>(aH (aa L i).kids t:Int)):=by obtain⟨p',c',e,C⟩:=n.view.kid i hi;rw[D]at e;injection e with V e2 e3;rw[V];exact C
 have q:=wL 100;refine(sW l r m _ L _ Wd H _ _ _ _ _ _ _ _ _ _ _ _ _ _ _ p c x y w h S c1 c2 c3 of rm U rfl dg n.memo Y hy M hh dg dg I J (λ_ u hu f=>?_) (λ_ u hu f=>?_)).mono λe R h=>h.mono dg;·refine(np l r g a B m L (aa L i).kids A Wd H _ _ _ _ _ _ _ _ _ _ _ _ _ _ _ p c u (n.view.grown (ac hu)) f dg (λj b=>(di d hi b).2) dg (z.grown (ac hu)) (λj b=>hS.wb j b)).mono ?_;rintro e T ⟨v,q0,Z,N,O,q3,q4,q5⟩;exact⟨v,q0,Z,N,O,q3,q4,q5.mono dg⟩
 ·rw[<-q];exact uX l r g a B m w L (aa L i).kids (λ_=>100) A Wd H _ _ _ _ _ _ _ _ _ _ _ _ _ _ _ p c u (n.view.grown (ac hu)) f dg (λj b=>(di d hi b).2) dg (z.grown (ac hu)) (λj v b=>hS.hb j v b) (λj T n' b K E F=>by have C:=di d hi b;rw[q]at F⊢;refine(qT l r g a B d hS _ w n' T C.2 M.1 M.2 (n.grown ((ac hu).trans K) E) dg).mono ?_;rintro e u2 ⟨rfl,N,O⟩;exact⟨rfl,N,O.mono dg⟩)
theorem Jr{f W}{r d N n}{P}{H}(h:Pw f W r d N P H n)(c:f.heap.size<=d)(b:d≠r)a v l v1 v2 p t u z A B C(D:l=v 0)(E:v1=v 1)(F:v2=v 2)(I:p=v 3)(J:t=v 4)(K:u=v 5)(M:z=v 6)(O:A=v 7)(R:B=v 8)(S:C=v 9):Pw f ((((((((((W.setCell (aj d (a*10)) (Iq l)).setCell (aj d (a*10+1)) (Iq v1)).setCell (aj d (a*10+2)) (Iq v2)).setCell (aj d (a*10+3)) (Iq p)).setCell (aj d (a*10+4)) (Iq t)).setCell (aj d (a*10+5)) (Iq u)).setCell (aj d (a*10+6)) (Iq z)).setCell (aj d (a*10+7)) (Iq A)).setCell (aj d (a*10+8)) (Iq B)).setCell (aj d (a*10+9)) (Iq C)) r d N (uc P a v) H n:=by
 have hh:=(((((((((h.set c b a 0 dg l).set c b a 1 dg v1).set c b a 2 dg v2).set c b a 3 dg p).set c b a 4 dg t).set c b a 5 dg u).set c b a 6 dg z).set c b a 7 dg A).set c b a 8 dg B).set c b a 9 dg C;refine⟨hh.g,hh.m,hh.row.congr λq T=>?_⟩;unfold js uc ba;refine congrArg (Value.int .i64) ?_;by_cases e:q/10=a
 ·rw[if_pos e];have:q %10=0\/q %10=1\/q %10=2\/q %10=3\/q %10=4\/q %10=5\/q %10=6\/q %10=7\/q %10=8\/q %10=9:=dg
  grind
 grind
theorem oW(w:World)N T:(w.alloc (.cells (madeCells #[Iq 0,Iq 0,Iq 0,Iq 0,Iq 0,Iq 0,Iq 0,Iq 0,Iq 0,Iq 0] (N*10)) T)).rowIs w.heap.size T (N*10) (js λ_ _=>0):=by
 have:=World.rowIs_alloc w (madeCells #[Iq 0,Iq 0,Iq 0,Iq 0,Iq 0,Iq 0,Iq 0,Iq 0,Iq 0,Iq 0] (N*10)) T (js λ_ _=>0) (λi hi=>by
  rw[size_madeCells]at hi;unfold js;simp only[madeCells];have:i %10=0\/i %10=1\/i %10=2\/i %10=3\/i %10=4\/i %10=5\/i %10=6\/i %10=7\/i %10=8\/i %10=9:=dg;rcases this with e|e|e|e|e|e|e|e|e|e<;>simp[e,hi]);rw[size_madeCells]at this;omega
theorem Oq:(prog.info? 59).map (λi=>(i.zero,i.size,i.bytes))=some (some (.agg #[Iq 0,Iq 0,Iq 0,Iq 0,Iq 0,Iq 0,Iq 0,Iq 0,Iq 0,Iq 0]),10,80):=ns
def Py(U U':World)(r N:Nat)(L:List Nd)(Wd:Nat->Int)(H:Nat->Int->Int)(w h:Int)(dM off:Nat->Int)(sn:Nat)(e:Ending):Prop:=∃pb P,e=Rw (Sq pb N N)/\U'.rowIs pb 59 (N*10) (js P)/\cV L Wd H w h dM off sn P N/\U.grownBy U' (some r)/\U.heap.size<=pb
def Re(w h:Int)(t:Nat):Int:=if t=2\/t=6 then w else if t=3\/t=7 then h else 0
def tw(u:World)(pb o:Nat)(x0 x1 x2 x3 x4 x5 x6 x7 x8 x9:Int):World:=((((((((((u.setCell (aj pb o) (Iq x0)).setCell (aj pb (o+1)) (Iq x1)).setCell (aj pb (o+2)) (Iq x2)).setCell (aj pb (o+3)) (Iq x3)).setCell (aj pb (o+4)) (Iq x4)).setCell (aj pb (o+5)) (Iq x5)).setCell (aj pb (o+6)) (Iq x6)).setCell (aj pb (o+7)) (Iq x7)).setCell (aj pb (o+8)) (Iq x8)).setCell (aj pb (o+9)) (Iq x9))
theorem DV{u}{c o}{d e f g l m n p q r}b a(h:b≠c\/a<o\/o+9<a):(tw u c o d e f g l m n p q r).cell? (aj b a)=u.cell? (aj b a):=by
 unfold tw;iterate 10 rw[c_]
 all_goals grind
theorem MP{u}{b o}{c d e f g l m n p q}a(h:a≠b):(tw u b o c d e f g l m n p q).heap[a]?=u.heap[a]?:=by unfold tw;iterate 10 rw[bK _ (aj b _) _ _ h]
theorem BW{s:ByteArray}{L:List Nd}{KV:Nat->Value}{Wd:Nat->Int}{H:Nat->Int->Int}(mb r g zo wb:Nat)(hT:dp s L)(hS:Sz L Wd H)(w h:Int)(sp:Option Addr)(sn sc:Nat)(dM off:Nat->Int)(U:World)(hU:Hs U mb r g zo wb L KV Wd H 0)(hw:1<=w/\w<=400)(hh:1<=h/\h<=400)(hsc:jB U sp sn dM off)(Qs:sn<=4611686018427387904)(hsp:∀a:Addr,sp=some a->a.block<U.heap.size):
 Cw 21 #[Pq mb,Iq w,Iq h,.slice sp sn sc] U λe U'=>Py U U' r L.length L Wd H w h dM off sn e:=by
 have Qm:prog.follows .mixedOrders=true:=ns;obtain⟨N,hN⟩:=ad L.length;have hc:=hT.vl.cnt;have Tc:=hT.pos;have Qe:N<=100:=dg;obtain⟨i0,hi,Ny,Nz,Tu⟩:=info_parts Oq;have Q7:∀W:World,(Instr.makeSlice 38 (Iq (N:Int)) (Iq (N:Int))).run prog W=.ok (Sq W.heap.size N N) (W.alloc (.cells (madeCells #[Iq 0,Iq 0,Iq 0,Iq 0,Iq 0,Iq 0,Iq 0,Iq 0,Iq 0,Iq 0] (N*10)) 59)):=λW=>by have:=run_make (P:=prog) W 38 59 i0 _ underlying38 hi Ny .i64 .i64 N N dg (iD _) rd dg;rw[Nz,jG]at this;exact this
 clear hi Ny Nz Tu;obtain⟨A,hA⟩:=ad U.heap.size;obtain⟨d,Pk⟩:=ad (A+1);have S3:=hU.view.ms;rw[hN]at S3;have T_:Hid (∀u,U.grownBy u (some r)->u.cell? (aj mb 0)=some (Sq g N zo)):=λu hu=>by have:=(hu.block mb hU.view.ml (λe=>hU.view.mr rd)).trans S3;rw[Lib.cell_of_heap this];rfl
 have m0:=T_ U (ac (af _ _));have YG:=hU.memo.lt;have zV:d≠r:=dg;have zU:U.heap.size<=d:=dg;have HU:Hid (Hs U mb r g zo wb L KV Wd H 0):=hU;obtain⟨W2,zO⟩:=ad ((U.alloc (.cells #[Iq 0,Iq 0,Iq w,Iq h] 52)).alloc (.cells (madeCells #[Iq 0,Iq 0,Iq 0,Iq 0,Iq 0,Iq 0,Iq 0,Iq 0,Iq 0,Iq 0] (N*10)) 59));have HB2:Hid (Bt U W2):=by rw[<-zO];exact(((Gr.refl U).alloc _).alloc _).below
 have ze:W2.heap[A]?=some (.cells #[Iq 0,Iq 0,Iq w,Iq h] 52 (0,0)):=by rw[<-zO,<-hA,cK _ _ _ (by rw[au];omega)];exact heap_alloc_new _ _
 have J:W2.rowIs d 59 (N*10) (js λ_ _=>0):=by have:=oW (U.alloc (.cells #[Iq 0,Iq 0,Iq w,Iq h] 52)) N 59;rw[au,hA,Pk,zO]at this;exact this
 have Ub:Hid (Pw U W2 r d N (λ_ _=>0) H 0):=⟨ac HB2,hU.memo.grown_below HB2,J⟩;have WG:Hid (Pw U ((((((((((W2.setCell (aj d 0) (Iq 0)).setCell (aj d 1) (Iq 0)).setCell (aj d 2) (Iq w)).setCell (aj d 3) (Iq h)).setCell (aj d 4) (Iq 0)).setCell (aj d 5) (Iq 0)).setCell (aj d 6) (Iq w)).setCell (aj d 7) (Iq h)).setCell (aj d 8) (Iq 0)).setCell (aj d 9) (Iq 0)) r d N (uc (λ_ _=>0) 0 (Re w h)) H 0):=Jr Ub zU zV 0 (Re w h) 0 0 w h 0 0 w h 0 0 rfl rfl rfl rfl rfl rfl rfl rfl rfl rfl;have WK:Hid (cV L Wd H w h dM off sn (uc (λ_ _=>0) 0 (Re w h)) 0):=by
  have e0:∀i t,i≠0->uc (λ_ _=>0) 0 (Re w h) i t=0:=λi t hi=>if_neg hi;refine⟨⟨rfl,rfl,rfl,rfl,rfl,rfl,rfl,rfl⟩,λi _ hi=>dg,λi _ _=>?_,λi _ hi=>dg,λi _=>?_⟩
  ·by_cases e:i=0;·subst e;exact⟨rfl,rfl⟩
   grind
  ·by_cases e:i=0;·subst e;show _<=(0:Int)/\(0:Int)<=_/\_<=(0:Int)/\(0:Int)<=_/\0<=w/\w<=100000/\0<=h/\h<=100000;omega
   grind
 have c0:W2.cell? (aj A 0)=some (Iq 0):=by rw[Lib.cell_of_heap ze];rfl
 have c1:W2.cell? (aj A 1)=some (Iq 0):=by rw[Lib.cell_of_heap ze];rfl
 have c2:W2.cell? (aj A 2)=some (Iq w):=by rw[Lib.cell_of_heap ze];rfl
 have c3:W2.cell? (aj A 3)=some (Iq h):=by rw[Lib.cell_of_heap ze];rfl
 have m2:=T_ W2 (ac HB2);have XW:=λj=>J.frozen j;have d0:W2.cell? (aj d 0)=some (Iq 0):=J.cell dg;have d1:W2.cell? (aj d 1)=some (Iq 0):=J.cell dg;have d2:W2.cell? (aj d 2)=some (Iq 0):=J.cell dg;have d3:W2.cell? (aj d 3)=some (Iq 0):=J.cell dg;have d4:W2.cell? (aj d 4)=some (Iq 0):=J.cell dg;have d5:W2.cell? (aj d 5)=some (Iq 0):=J.cell dg;have d6:W2.cell? (aj d 6)=some (Iq 0):=J.cell dg;have d7:W2.cell? (aj d 7)=some (Iq 0):=J.cell dg;have d8:W2.cell? (aj d 8)=some (Iq 0):=J.cell dg;have d9:W2.cell? (aj d 9)=some (Iq 0):=J.cell dg;have Tb:=J.lt;have Vd:(0:Int)<(N:Int):=dg;have Ys:¬d=mb:=by have:=HU.view.ml;omega
 have Yt:¬mb=d:=dg;have Yu:¬A=d:=dg;have Yw:¬mb=A:=by have:=HU.view.ml;omega
 have Yx:mb<A:=by have:=HU.view.ml;omega
 have Yv:¬d=A:=dg;have ZQ:Hid (U.heap.size=A/\A+1=d):=⟨hA,Pk⟩;clear S3 ze J hU;go_enter func21,ntmps21;go_upto_region 3 with fail;clear zO hA Q7 Pk m0;go_wp2_with fail;go_loopw[34] (λiv wr=>∃(i:Nat) (P:Nat->Nat->Int),i<=N/\iv=Iq (i:Int)/\Hid (Pw U wr r d N P H (20000*i))/\Hid (cV L Wd H w h dM off sn P i)) (λiv _=>N-(intOf iv).toNat);case atStart=>grind
 case round=>
  obtain⟨i,P,_4,rfl,Z,HL⟩:=hrel;clear c0 c1 c2 c3 m2 XW d0 d1 d2 d3 d4 d5 d6 d7 d8 d9 Tb Ub WG WK;by_cases V:i<N
  ·have Ir:(i:Int)<(N:Int):=dg
   have T:i<L.length:=dg;have Sm:∀u n,U.grownBy u (some r)->bm u r H n->Hs u mb r g zo wb L KV Wd H n:=λu n hg hm=>HU.grown hg hm;obtain⟨p,c,Om,Ph⟩:=HU.view.kid i T;have zl:=lh (HU.view.len i T) (KV i);have D:=HU.view.nd i T;rw[zl,Om]at D;have Pg:=HU.view.gl;have Q0:=HU.view.gr;have za:=HL.bd i T;have XL:((i:Int)+1)*100000000<=10000000000:=dg;have Qn:=HL.no i T (.inl (ae _));have Qk:=hT.kids_le T;have Yo:=Z.out;have KR:Hid (∀u n (of rm c0 c1 c2 c3:Int),U.grownBy u (some r)->bm u r H n->n<=10000000->(0<=of/\of<=100000)->(0<=rm/\rm<=100000)->Cw 50 #[Pq mb,fB (aa L i).kind (ap (aa L i) 0) (ap (aa L i) 1) (ap (aa L i) 2) (ap (aa L i) 3) (ap (aa L i) 4) (ap (aa L i) 5) (ap (aa L i) 6) (ap (aa L i) 7) (ap (aa L i) 8) (ap (aa L i) 9) (ap (aa L i) 10) (ap (aa L i) 11) ⟨(aa L i).text.toArray⟩ (.slice p (aa L i).kids.length c) (aa L i).up,.agg #[Iq (P i 0),Iq (P i 1),Iq (P i 2),Iq (P i 3),Iq c0,Iq c1,Iq c2,Iq c3,Iq of,Iq rm]] u λe K=>iO u K r (aa L i).kids.length H (n+10000) (ct (aa L i).kind (ap (aa L i) 4) (ap (aa L i) 5) (ap (aa L i) 6) L (aa L i).kids Wd H (P i 0) (P i 1) (P i 2) (P i 3) of rm) e):=λu n of rm c0 c1 c2 c3 hg hm hn S5 Qq=>
    vk mb r g zo wb n hT hS i T p c Om (P i 0) (P i 1) (P i 2) (P i 3) c0 c1 c2 c3 of rm u (Sm u n hg hm) hn dg dg ⟨za.2.2.2.2.1,za.2.2.2.2.2.1⟩ ⟨za.2.2.2.2.2.2.1,za.2.2.2.2.2.2.2⟩ S5 Qq;have E:Hid ((aa L i).kind=4->∀u,Pw U u r d N P H (20000*i)->Cw 49 #[Pq mb,.pointer (some (aj d (i*10))),fB 4 (ap (aa L i) 0) (ap (aa L i) 1) (ap (aa L i) 2) (ap (aa L i) 3) (ap (aa L i) 4) (ap (aa L i) 5) (ap (aa L i) 6) (ap (aa L i) 7) (ap (aa L i) 8) (ap (aa L i) 9) (ap (aa L i) 10) (ap (aa L i) 11) ⟨(aa L i).text.toArray⟩ (.slice p (aa L i).kids.length c) (aa L i).up,.slice sp sn sc] u λe K=>e=Rw (.tuple #[])/\Pw U K r d N (ba (ba P i 9 (dA (H (aH (aa L i).kids 0) (P i 2)) (P i 3))) i 8 (min (max 0 (fi (ap (aa L i) 0) dM off sn)) (dA (H (aH (aa L i).kids 0) (P i 2)) (P i 3)))) H (20000*i+100)/\Hid (∀b,b<u.heap.size->b≠r->b≠d->K.heap[b]?=u.heap[b]?)):=λh4 u hu=>by
    have zS:(aa L i).kids.length=1:=by
     rcases hT.kidok i T with q|⟨_,_,q⟩|⟨q,_⟩;·omega
     ·exact q
     ·omega
    have zq:=di hT T (j:=0) dg;refine Cl mb r d N i (aH (aa L i).kids 0) (20000*i) P H (ap (aa L i) 0) (ap (aa L i) 1) (ap (aa L i) 2) (ap (aa L i) 3) (ap (aa L i) 4) (ap (aa L i) 5) (ap (aa L i) 6) (ap (aa L i) 7) (ap (aa L i) 8) (ap (aa L i) 9) (ap (aa L i) 10) (ap (aa L i) 11) (aa L i).up ⟨(aa L i).text.toArray⟩ p (aa L i).kids.length c sp sn sc dM off U u hu zU zV V dg dg ?_ (hS.hb _ _ zq.2) ⟨za.2.2.2.2.2.2.1,za.2.2.2.2.2.2.2⟩ (λv hv=>qT mb r g zo wb hT hS _ _ _ v zq.2 za.2.2.2.2.1 za.2.2.2.2.2.1 (Sm v _ hv.g hv.m) dg) (λv P' n' hv=>?_);·obtain⟨b,o,e,q1,q2,q3⟩:=Ph.resolve_left dg;exact⟨b,o,e,q1,q2,by have:=q3 0 dg;exact this⟩
    ·refine(BN (ap (aa L i) 0) sp sn sc dM off v ((hsc.kept HU.memo hv.g)) Qs (λa e=>zz007 (hsp a e) hv.g.size)).mono ?_;rintro e v' ⟨rfl,q⟩;exact⟨rfl,q⟩
   have zu:Hid (∀j,j<(aa L i).kids.length->i<aH (aa L i).kids j/\aH (aa L i).kids j<N):=λj hj=>by have:=di hT T hj;omega
   have zH:Hid ((aa L i).kind=4->0<(aa L i).kids.length):=λh4=>by rcases hT.kidok i T with q|⟨_,_,q⟩|⟨q,_⟩<;>omega
   have Rs:Hid ((aa L i).kids.length=0\/∃b o,p=some (aj b o)/\b<U.heap.size/\b≠r/\∀j,j<(aa L i).kids.length->U.cell? (aj b (o+j))=some (Iq (aH (aa L i).kids j:Int))):=Ph;have B:Hid (∀C R0 R1 R2 R3,(∀q t,¬(q=i/\(t=8\/t=9))->C q t=P q t)->((aa L i).kind=4->C i 9=dA (H (aH (aa L i).kids 0) (P i 2)) (P i 3)/\C i 8=min (max 0 (fi (ap (aa L i) 0) dM off sn)) (C i 9))->((aa L i).kind≠4->C i 8=0/\C i 9=0)->ct (aa L i).kind (ap (aa L i) 4) (ap (aa L i) 5) (ap (aa L i) 6) L (aa L i).kids Wd H (C i 0) (C i 1) (C i 2) (C i 3) (C i 8) (C i 9) R0 R1 R2 R3->cV L Wd H w h dM off sn (DG C i (aa L i).kids R0 R1 R2 R3 (aa L i).kids.length) (i+1)):=λC R0 R1 R2 R3 q1 q2 q3 q4=>HL.step hT hS T q1 q2 q3 q4;generalize UO:(aa L i).kind=kn at D KR E B zH;generalize(aa L i).kids=ks at D KR E B zu Rs zH Qk;generalize(aa L i).up=up at D KR E;generalize(aa L i).text.toArray=Zs at D KR E;generalize ap (aa L i) 0=X at D KR E B;generalize ap (aa L i) 1=a1 at D KR E B;generalize ap (aa L i) 2=a2 at D KR E B;generalize ap (aa L i) 3=a3 at D KR E B;generalize ap (aa L i) 4=a4 at D KR E B;generalize ap (aa L i) 5=a5 at D KR E B;generalize ap (aa L i) 6=a6 at D KR E B;generalize ap (aa L i) 7=a7 at D KR E B;generalize ap (aa L i) 8=a8 at D KR E B;generalize ap (aa L i) 9=a9 at D KR E B;generalize ap (aa L i) 10=b0 at D KR E B;generalize ap (aa L i) 11=b1 at D KR E B;obtain⟨tx,Qu⟩:∃z:ByteArray,⟨Zs⟩=z:=⟨_,rfl⟩;rw[Qu]at D KR E;obtain⟨m,hm⟩:=ad ks.length;rw[hm]at D KR E B zu Rs zH Qk;obtain⟨kd,zq⟩:∃z:Int,(kn:Int)=z:=⟨_,rfl⟩;rw[zq]at D KR B;have HQ:Hid (∀u,U.grownBy u (some r)->∀(t:Nat) x,[Iq kd,Iq X,Iq a1,Iq a2,Iq a3,Iq a4,Iq a5,Iq a6,Iq a7,Iq a8,Iq a9,Iq b0,Iq b1,.string tx,.slice p m c,Iq up][t]?=some x->u.cell? (aj g (i*16+t))=some x):=λu hu t x ht=>(bf (a:=(aj g (i*16+t))) (hu.block g Pg (λe=>Q0 (by injection e)))).trans (D t x ht);have q0:wr.cell? (aj g (i*16))=some (Iq kd):=HQ wr Z.g 0 _ rfl;have q1:=HQ wr Z.g 1 _ rfl;have q2:=HQ wr Z.g 2 _ rfl;have q3:=HQ wr Z.g 3 _ rfl;have q4:=HQ wr Z.g 4 _ rfl;have q5:=HQ wr Z.g 5 _ rfl;have q6:=HQ wr Z.g 6 _ rfl;have q7:=HQ wr Z.g 7 _ rfl;have q8:=HQ wr Z.g 8 _ rfl;have q9:=HQ wr Z.g 9 _ rfl;have VA:=HQ wr Z.g 10 _ rfl;have VB:=HQ wr Z.g 11 _ rfl;have VC:=HQ wr Z.g 12 _ rfl;have VE:=HQ wr Z.g 13 _ rfl;have VF:=HQ wr Z.g 14 _ rfl;have VG:=HQ wr Z.g 15 _ rfl;obtain⟨W1,zN⟩:=ad (wr.alloc (.cells #[Iq kd,Iq X,Iq a1,Iq a2,Iq a3,Iq a4,Iq a5,Iq a6,Iq a7,Iq a8,Iq a9,Iq b0,Iq b1,.string tx,.slice p m c,Iq up] 57));obtain⟨f,zM⟩:=ad wr.heap.size;have St:W1.heap[f]?=some (.cells #[Iq kd,Iq X,Iq a1,Iq a2,Iq a3,Iq a4,Iq a5,Iq a6,Iq a7,Iq a8,Iq a9,Iq b0,Iq b1,.string tx,.slice p m c,Iq up] 57 (0,0)):=by rw[<-zN,<-zM];exact heap_alloc_new _ _
   have HB1:Hid (Bt wr W1):=by rw[<-zN];exact((Gr.refl wr).alloc _).below
   have RH:Hid (Pw U W1 r d N P H (20000*i)):=Z.below HB1;have Uv:f≠r:=by have:=Z.m.lt;omega
   have Va:d<f:=by rw[<-zM];exact Z.row.lt
   have zI:Hid (∀u:World,u.heap[f]?=some (.cells #[Iq kd,Iq X,Iq a1,Iq a2,Iq a3,Iq a4,Iq a5,Iq a6,Iq a7,Iq a8,Iq a9,Iq b0,Iq b1,.string tx,.slice p m c,Iq up] 57 (0,0))->u.cell? (aj f 0)=some (Iq kd)/\u.cell? (aj f 1)=some (Iq X)/\u.cell? (aj f 2)=some (Iq a1)/\u.cell? (aj f 3)=some (Iq a2)/\u.cell? (aj f 4)=some (Iq a3)/\u.cell? (aj f 5)=some (Iq a4)/\u.cell? (aj f 6)=some (Iq a5)/\u.cell? (aj f 7)=some (Iq a6)/\u.cell? (aj f 8)=some (Iq a7)/\u.cell? (aj f 9)=some (Iq a8)/\u.cell? (aj f 10)=some (Iq a9)/\u.cell? (aj f 11)=some (Iq b0)/\u.cell? (aj f 12)=some (Iq b1)/\u.cell? (aj f 13)=some (.string tx)/\u.cell? (aj f 14)=some (.slice p m c)/\u.cell? (aj f 15)=some (Iq up)):=λu hu=>by refine⟨?_,?_,?_,?_,?_,?_,?_,?_,?_,?_,?_,?_,?_,?_,?_,?_⟩<;>(rw[Lib.cell_of_heap hu];rfl)
   obtain⟨z0,z1,z2,z3,z4,z5,z6,z7,z8,z9,TM,TN,TO,TQ,TR,TS⟩:=zI W1 St;have zF:Hid (W1.heap[f]?=some (.cells #[Iq kd,Iq X,Iq a1,Iq a2,Iq a3,Iq a4,Iq a5,Iq a6,Iq a7,Iq a8,Iq a9,Iq b0,Iq b1,.string tx,.slice p m c,Iq up] 57 (0,0))):=St;have zm:Hid ((aa L i).kind=kn/\(kn:Int)=kd):=⟨UO,zq⟩;have Rj:Hid (-(((i:Int)+1)*100000000)<=P i 0/\P i 0<=((i:Int)+1)*100000000/\-(((i:Int)+1)*100000000)<=P i 1/\P i 1<=((i:Int)+1)*100000000/\0<=P i 2/\P i 2<=100000/\0<=P i 3/\P i 3<=100000):=za;have Rx:Hid (P i 8=0/\P i 9=0):=Qn;have Wz:Hid (N<=100/\L.length=N):=⟨Qe,hN⟩;have T9:Hid (ks.length=m):=hm;clear St D zl Om Ph Pg Q0 Sm Yo Qu UO zq za Qn XL hm;go_upto_if 41 with fail;go_cut[48]from 42 to 47 (λ_ wx=>∃C,Hid (Pw U wx r d N C H (20000*i+100))/\Hid (∀q t,¬(q=i/\(t=8\/t=9))->C q t=P q t)/\Hid ((kn=4->C i 9=dA (H (aH ks 0) (P i 2)) (P i 3)/\C i 8=min (max 0 (fi X dM off sn)) (C i 9))/\(kn≠4->C i 8=0/\C i 9=0))/\Hid (wx.heap[f]?=some (.cells #[Iq kd,Iq X,Iq a1,Iq a2,Iq a3,Iq a4,Iq a5,Iq a6,Iq a7,Iq a8,Iq a9,Iq b0,Iq b1,.string tx,.slice p m c,Iq up] 57 (0,0))));case first=>
    by_cases h4:kn=4
    ·have Ya:kd=4:=by have:=zm.2;omega
     subst Ya;have Uk:Hid (∀u,(u=W1\/u=W1.drew)->Cw 49 #[Pq mb,.pointer (some (aj d (i*10))),fB 4 X a1 a2 a3 a4 a5 a6 a7 a8 a9 b0 b1 tx (.slice p m c) up,.slice sp sn sc] u λe K=>e=Rw (.tuple #[])/\K.heap[f]?=some (.cells #[Iq 4,Iq X,Iq a1,Iq a2,Iq a3,Iq a4,Iq a5,Iq a6,Iq a7,Iq a8,Iq a9,Iq b0,Iq b1,.string tx,.slice p m c,Iq up] 57 (0,0))/\Hid (Pw U K r d N (ba (ba P i 9 (dA (H (aH ks 0) (P i 2)) (P i 3))) i 8 (min (max 0 (fi X dM off sn)) (dA (H (aH ks 0) (P i 2)) (P i 3)))) H (20000*i+100))):=λu hu=>by
      have zb:Bt W1 u:=by
       rcases hu with rfl|rfl;·exact af _ _
       ·exact(af _ _).drew
      refine(E h4 u (RH.below zb)).mono ?_;rintro e K ⟨rfl,q1,q2⟩;have zP:=(aD.1 zF).1;exact⟨rfl,(q2 f (zz007 zP zb.size) Uv dg).trans ((zb.block f zP).trans zF),q1⟩
     have zt:Hid (∀wx,wx.heap[f]?=some (.cells #[Iq 4,Iq X,Iq a1,Iq a2,Iq a3,Iq a4,Iq a5,Iq a6,Iq a7,Iq a8,Iq a9,Iq b0,Iq b1,.string tx,.slice p m c,Iq up] 57 (0,0))->Pw U wx r d N (ba (ba P i 9 (dA (H (aH ks 0) (P i 2)) (P i 3))) i 8 (min (max 0 (fi X dM off sn)) (dA (H (aH ks 0) (P i 2)) (P i 3)))) H (20000*i+100)->∃C,Hid (Pw U wx r d N C H (20000*i+100))/\Hid (∀q t,¬(q=i/\(t=8\/t=9))->C q t=P q t)/\Hid ((kn=4->C i 9=dA (H (aH ks 0) (P i 2)) (P i 3)/\C i 8=min (max 0 (fi X dM off sn)) (C i 9))/\(kn≠4->C i 8=0/\C i 9=0))/\Hid (wx.heap[f]?=some (.cells #[Iq 4,Iq X,Iq a1,Iq a2,Iq a3,Iq a4,Iq a5,Iq a6,Iq a7,Iq a8,Iq a9,Iq b0,Iq b1,.string tx,.slice p m c,Iq up] 57 (0,0)))):=λwx hn hp=>by
      refine⟨_,hp,λq t hq=>?_,⟨λ_=>?_,λe=>absurd h4 e⟩,hn⟩;·unfold ba;rw[if_neg (λe=>hq ⟨e.1,.inl e.2⟩),if_neg (λe=>hq ⟨e.1,.inr e.2⟩)]
      ·unfold ba;simp
     unfold fB at Uk;clear zN zM;go_wp2_with fail;go_region_held(λW=>W.cell? (aj f 0)=some (Iq 4)/\W.cell? (aj f 1)=some (Iq X)/\W.cell? (aj f 2)=some (Iq a1)/\W.cell? (aj f 3)=some (Iq a2)/\W.cell? (aj f 4)=some (Iq a3)/\W.cell? (aj f 5)=some (Iq a4)/\W.cell? (aj f 6)=some (Iq a5)/\W.cell? (aj f 7)=some (Iq a6)/\W.cell? (aj f 8)=some (Iq a7)/\W.cell? (aj f 9)=some (Iq a8)/\W.cell? (aj f 10)=some (Iq a9)/\W.cell? (aj f 11)=some (Iq b0)/\W.cell? (aj f 12)=some (Iq b1)/\W.cell? (aj f 13)=some (.string tx)/\W.cell? (aj f 14)=some (.slice p m c)/\W.cell? (aj f 15)=some (Iq up)) (go_keep) (first|(go_at_call 49;refine ag (Uk _ (by first|exact .inl rfl|exact .inr rfl)) ?_;rintro e u1 ⟨rfl,zg,zK⟩;obtain⟨s0,s1,s2,s3,s4,s5,s6,s7,s8,s9,Rf,VI,VJ,VK,VL,VM⟩:=zI u1 zg;have zL:Hid (u1.heap[f]?=some (.cells #[Iq 4,Iq X,Iq a1,Iq a2,Iq a3,Iq a4,Iq a5,Iq a6,Iq a7,Iq a8,Iq a9,Iq b0,Iq b1,.string tx,.slice p m c,Iq up] 57 (0,0))):=zg;clear zg));all_goals go_wp2_with fail
     all_goals go_meet
     all_goals exact zt _ zL zK
    ·have e4:(kd==4)=false:=by have:=zm.2;simp;omega
     go_wp2_with fail;go_meet;exact⟨P,RH.mono dg,λ_ _ _=>rfl,⟨λe=>absurd e h4,λ_=>Rx⟩,zF⟩
   case rest=>
    obtain⟨C,zc,zv,zJ,Ry⟩:=hcut;clear z0 z1 z2 z3 z4 z5 z6 z7 z8 z9 TM TN TO TQ TR TS zN zM;obtain⟨z0,z1,z2,z3,z4,z5,z6,z7,z8,z9,TM,TN,TO,TQ,TR,TS⟩:=zI wc Ry;obtain⟨p0,S6⟩:=ad (C i 0);obtain⟨p1,Qo⟩:=ad (C i 1);obtain⟨p2,S_⟩:=ad (C i 2);obtain⟨p3,Ta⟩:=ad (C i 3);obtain⟨p4,zA⟩:=ad (C i 4);obtain⟨p5,zB⟩:=ad (C i 5);obtain⟨p6,zC⟩:=ad (C i 6);obtain⟨p7,zD⟩:=ad (C i 7);obtain⟨p8,U9⟩:=ad (C i 8);obtain⟨p9,U_⟩:=ad (C i 9);have RI:Hid (∀u Q,U.grownBy u (some r)->u.rowIs d 59 (N*10) (js Q)->(∀t,t<10->Q i t=C i t)->u.cell? (aj d (i*10))=some (Iq p0)/\u.cell? (aj d (i*10+1))=some (Iq p1)/\u.cell? (aj d (i*10+2))=some (Iq p2)/\u.cell? (aj d (i*10+3))=some (Iq p3)/\u.cell? (aj d (i*10+4))=some (Iq p4)/\u.cell? (aj d (i*10+5))=some (Iq p5)/\u.cell? (aj d (i*10+6))=some (Iq p6)/\u.cell? (aj d (i*10+7))=some (Iq p7)/\u.cell? (aj d (i*10+8))=some (Iq p8)/\u.cell? (aj d (i*10+9))=some (Iq p9)):=λu Q hg hr hq=>by
     refine⟨?_,?_,?_,?_,?_,?_,?_,?_,?_,?_⟩;·rw[<-S6,<-hq 0 dg];exact aS (t:=0) hr V dg
     ·rw[<-Qo,<-hq 1 dg];exact aS hr V dg
     ·rw[<-S_,<-hq 2 dg];exact aS hr V dg
     ·rw[<-Ta,<-hq 3 dg];exact aS hr V dg
     ·rw[<-zA,<-hq 4 dg];exact aS hr V dg
     ·rw[<-zB,<-hq 5 dg];exact aS hr V dg
     ·rw[<-zC,<-hq 6 dg];exact aS hr V dg
     ·rw[<-zD,<-hq 7 dg];exact aS hr V dg
     ·rw[<-U9,<-hq 8 dg];exact aS hr V dg
     ·rw[<-U_,<-hq 9 dg];exact aS hr V dg
    have HE:Hid (P i 0=p0/\P i 1=p1/\P i 2=p2/\P i 3=p3/\(0<=p8/\p8<=100000)/\0<=p9/\p9<=100000):=by
     refine⟨by rw[<-zv i 0 dg];exact S6,by rw[<-zv i 1 dg];exact Qo,by rw[<-zv i 2 dg];exact S_,by rw[<-zv i 3 dg];exact Ta,?_⟩;by_cases h4:kn=4
     ·obtain⟨r1,r2⟩:=zJ.1 h4;have Pe:=Rj.out;have Ip:aH ks 0<L.length:=by
       rcases hT.kidok i T with q|⟨_,_,q⟩|⟨q,_⟩;·rw[zm.1]at q;omega
       ·have h1:=zH h4;have:=zu 0 h1;omega
       ·rw[zm.1]at q;omega
      have _3:=hS.hb (aH ks 0) (P i 2) Ip;unfold dA at r1;omega
     ·obtain⟨r1,r2⟩:=zJ.2 h4;omega
    obtain⟨y0,y1,y2,y3,y4,y5,y6,y7,y8,y9⟩:=RI wc C zc.g zc.row (λ_ _=>rfl);have RU:Hid (∀u,(u=wc\/u=wc.drew)->Cw 50 #[Pq mb,fB kd X a1 a2 a3 a4 a5 a6 a7 a8 a9 b0 b1 tx (.slice p m c) up,.agg #[Iq p0,Iq p1,Iq p2,Iq p3,Iq p4,Iq p5,Iq p6,Iq p7,Iq p8,Iq p9]] u λe K=>∃q cq,e=Rw (.slice q m cq)/\K.heap[f]?=some (.cells #[Iq kd,Iq X,Iq a1,Iq a2,Iq a3,Iq a4,Iq a5,Iq a6,Iq a7,Iq a8,Iq a9,Iq b0,Iq b1,.string tx,.slice p m c,Iq up] 57 (0,0))/\(K.cell? (aj d (i*10))=some (Iq p0)/\K.cell? (aj d (i*10+1))=some (Iq p1)/\K.cell? (aj d (i*10+2))=some (Iq p2)/\K.cell? (aj d (i*10+3))=some (Iq p3)/\K.cell? (aj d (i*10+4))=some (Iq p4)/\K.cell? (aj d (i*10+5))=some (Iq p5)/\K.cell? (aj d (i*10+6))=some (Iq p6)/\K.cell? (aj d (i*10+7))=some (Iq p7)/\K.cell? (aj d (i*10+8))=some (Iq p8)/\K.cell? (aj d (i*10+9))=some (Iq p9))/\Hid (iO wc K r m H (20000*i+100+10000) (ct kd a4 a5 a6 L ks Wd H p0 p1 p2 p3 p8 p9) (.returned (.slice q m cq)))/\Hid (Pw U K r d N C H (20000*i+10100))):=λu hu=>by
     have zb:Bt wc u:=by
      rcases hu with rfl|rfl;·exact af _ _
      ·exact(af _ _).drew
     obtain⟨f0,f1,f2,f3,f4,f5⟩:=HE.out;have F:=zc.below zb;have:=KR u (20000*i+100) p8 p9 p4 p5 p6 p7 F.g F.m (by have:=Wz.out;omega) f4 f5;rw[f0,f1,f2,f3]at this;refine this.mono ?_;rintro e K ⟨q,cq,R0,R1,R2,R3,rfl,s1,s2,s3,s4⟩;have zz:=(ac zb).trans s3;have zP:=(aD.1 Ry).1;have Td:Pw U K r d N C H (20000*i+10100):=zc.grown zz (s4.mono dg) zV;refine⟨q,cq,rfl,(zz.block f zP (λe=>Uv (by injection e))).trans Ry,RI K C Td.g Td.row (λ_ _=>rfl),⟨q,cq,R0,R1,R2,R3,rfl,s1,?_,zz,s4⟩,Td⟩;rcases s2 with e|⟨b,e,l,hr⟩;·exact .inl e
     ·exact .inr ⟨b,e,aF zb.size l,hr⟩
    unfold fB at RU;clear KR E zF RH HB1;go_wp2_with fail;go_region_held(λW=>(W.cell? (aj f 0)=some (Iq kd)/\W.cell? (aj f 1)=some (Iq X)/\W.cell? (aj f 2)=some (Iq a1)/\W.cell? (aj f 3)=some (Iq a2)/\W.cell? (aj f 4)=some (Iq a3)/\W.cell? (aj f 5)=some (Iq a4)/\W.cell? (aj f 6)=some (Iq a5)/\W.cell? (aj f 7)=some (Iq a6)/\W.cell? (aj f 8)=some (Iq a7)/\W.cell? (aj f 9)=some (Iq a8)/\W.cell? (aj f 10)=some (Iq a9)/\W.cell? (aj f 11)=some (Iq b0)/\W.cell? (aj f 12)=some (Iq b1)/\W.cell? (aj f 13)=some (.string tx)/\W.cell? (aj f 14)=some (.slice p m c)/\W.cell? (aj f 15)=some (Iq up))/\W.cell? (aj d (i*10))=some (Iq p0)/\W.cell? (aj d (i*10+1))=some (Iq p1)/\W.cell? (aj d (i*10+2))=some (Iq p2)/\W.cell? (aj d (i*10+3))=some (Iq p3)/\W.cell? (aj d (i*10+4))=some (Iq p4)/\W.cell? (aj d (i*10+5))=some (Iq p5)/\W.cell? (aj d (i*10+6))=some (Iq p6)/\W.cell? (aj d (i*10+7))=some (Iq p7)/\W.cell? (aj d (i*10+8))=some (Iq p8)/\W.cell? (aj d (i*10+9))=some (Iq p9)) (go_keep) (first|(go_at_call 50;refine ag (RU _ (by first|exact .inl rfl|exact .inr rfl)) ?_;rintro e u1 ⟨q,cq,rfl,zg,⟨w0,w1,w2,w3,w4,w5,w6,w7,w8,w9⟩,O8,zK⟩;obtain⟨s0,s1,s2,s3,s4,s5,s6,s7,s8,s9,Rf,VI,VJ,VK,VL,VM⟩:=zI u1 zg;have zL:Hid (u1.heap[f]?=some (.cells #[Iq kd,Iq X,Iq a1,Iq a2,Iq a3,Iq a4,Iq a5,Iq a6,Iq a7,Iq a8,Iq a9,Iq b0,Iq b1,.string tx,.slice p m c,Iq up] 57 (0,0))):=zg;clear zg));all_goals go_wp2_with fail
    all_goals
     obtain⟨q',Z',R0,R1,R2,R3,Q_,zE,hrow,zz,_⟩:=O8.out;injection Q_ with Q_;injection Q_ with Tf _ Tg;subst Tf;subst Tg;have Pu:Hid (ct kd a4 a5 a6 L ks Wd H p0 p1 p2 p3 p8 p9 R0 R1 R2 R3):=zE;have zX:Hid (m=0\/∃b,q=some (aj b 0)/\b≠d/\oG u1 b m R0 R1 R2 R3):=by
      rcases hrow with e|⟨b,e,l,hr⟩;·exact .inl e
      ·exact .inr ⟨b,e,by have:=zc.row.lt;omega,hr⟩
     clear zE hrow zz O8 RU s0 s1 s2 s3 s4 s5 s6 s7 s8 s9 Rf VI VJ VK VL VM w0 w1 w2 w3 w4 w5 w6 w7 w8 w9 z0 z1 z2 z3 z4 z5 z6 z7 z8 z9 TM TN TO TQ TR TS y0 y1 y2 y3 y4 y5 y6 y7 y8 y9;go_loopw[57] (λkv TJ=>∃j:Nat,j<=m/\kv=Iq (j:Int)/\Hid (Pw U TJ r d N (DG C i ks R0 R1 R2 R3 j) H (20000*i+10100))/\Hid (TJ.heap[f]?=some (.cells #[Iq kd,Iq X,Iq a1,Iq a2,Iq a3,Iq a4,Iq a5,Iq a6,Iq a7,Iq a8,Iq a9,Iq b0,Iq b1,.string tx,.slice p m c,Iq up] 57 (0,0)))/\Hid (m=0\/∃b,q=some (aj b 0)/\b≠d/\oG TJ b m R0 R1 R2 R3)) (λkv _=>m-(intOf kv).toNat);case atStart=>exact⟨0,aR _,rfl,zK,zL,zX⟩
     case round=>
      obtain⟨j,hj,rfl,zw,zn,KJ⟩:=hrel;clear zK zL zX;by_cases zT:j<m
      ·have SV:(j:Int)<(m:Int):=dg
       obtain⟨b,rfl,zx,zQ,Sv⟩:=KJ.resolve_left dg;obtain⟨g0,g1,g2,g3⟩:=Sv j zT;obtain⟨kb,ko,rfl,Qi,Qj,Qh⟩:=Rs.resolve_left dg;obtain⟨I,zR⟩:=ad (aH ks j);have Y:=zu j zT;rw[zR]at Y;obtain⟨M,zh⟩:=ad (R0 j);obtain⟨O,zi⟩:=ad (R1 j);obtain⟨R,zj⟩:=ad (R2 j);obtain⟨S,zk⟩:=ad (R3 j);rw[zh]at g0;rw[zi]at g1;rw[zj]at g2;rw[zk]at g3;obtain⟨k0,Qg⟩:=ad (uT M O R S p4 p5 p6 p7);obtain⟨k1,zS⟩:=ad (uU M O R S p4 p5 p6 p7);obtain⟨k2,SJ⟩:=ad (sO M O R S p4 p5 p6 p7);obtain⟨k3,SM⟩:=ad (uV M O R S p4 p5 p6 p7);have UL:i∉ks:=λSZ=>by obtain⟨a,ha,e⟩:=o_.1 SZ;have h1:=zu a (by have:=T9.out;omega);unfold aH at h1;rw[dI ha,e]at h1;have h2:i<i:=h1.1;omega
       have Uy:DG C i ks R0 R1 R2 R3 j i=C i:=oz j (λt ht=>by have:=T9.out;omega) i UL;obtain⟨W5,Pc⟩:=ad (wr.alloc (.cells #[Iq M,Iq O,Iq R,Iq S] 52));obtain⟨Ar,zZ⟩:=ad wr.heap.size;have zr:Hid (Bt wr W5):=by rw[<-Pc];exact((Gr.refl wr).alloc _).below
       have Ti:W5.heap[Ar]?=some (.cells #[Iq M,Iq O,Iq R,Iq S] 52 (0,0)):=by rw[<-Pc,<-zZ];exact heap_alloc_new _ _
       have zY:=(aD.1 zn).1;have Yz:=zw.row.lt;have Pt:Hid (Pw U W5 r d N (DG C i ks R0 R1 R2 R3 j) H (20000*i+10100)):=zw.below zr;have V1:Hid (∀u,(u=W5\/u=W5.drew)->Cw 51 #[.agg #[Iq M,Iq O,Iq R,Iq S],.agg #[Iq p4,Iq p5,Iq p6,Iq p7]] u λe K=>e=Rw (.agg #[Iq k0,Iq k1,Iq k2,Iq k3])/\Hid (Bt W5 K)):=λu hu=>by
        have zb:Bt W5 u:=by
         rcases hu with rfl|rfl;·exact af _ _
         ·exact(af _ _).drew
        have:=De M O R S p4 p5 p6 p7 u;rw[tF,Qg,zS,SJ,SM]at this;exact this.mono λe K ⟨h1,h2⟩=>⟨h1,zb.trans (h2.below.mono zb.size)⟩
       have RM:Hid (∀u,Bt W5 u->u.cell? (aj f 14)=some (.slice (some (aj kb ko)) m c)/\u.cell? (aj kb (ko+j))=some (Iq (I:Int))/\u.cell? (aj Ar 0)=some (Iq M)/\u.cell? (aj Ar 1)=some (Iq O)/\u.cell? (aj Ar 2)=some (Iq R)/\u.cell? (aj Ar 3)=some (Iq S)/\u.cell? (aj d (i*10+4))=some (Iq p4)/\u.cell? (aj d (i*10+5))=some (Iq p5)/\u.cell? (aj d (i*10+6))=some (Iq p6)/\u.cell? (aj d (i*10+7))=some (Iq p7)):=λu hu=>by
        have zy:=zr.trans (hu.mono zr.size);have F:=Pt.below hu;have hn:=(zy.block f zY).trans zn;have hr:=(hu.block Ar (aD.1 Ti).1).trans Ti;have Q4:u.cell? (aj kb (ko+j))=some (Iq (I:Int)):=by rw[<-zR];exact(bf (a:=(aj kb (ko+j))) (F.g.block kb Qi (λe=>Qj (by injection e)))).trans (Qh j zT)
        have Vb:=RI u _ F.g F.row (λt _=>by rw[Uy]);obtain⟨_,_,_,_,c4,c5,c6,c7,_,_⟩:=Vb;refine⟨?_,Q4,?_,?_,?_,?_,c4,c5,c6,c7⟩;·rw[Lib.cell_of_heap hn];rfl
        ·rw[Lib.cell_of_heap hr];rfl
        ·rw[Lib.cell_of_heap hr];rfl
        ·rw[Lib.cell_of_heap hr];rfl
        ·rw[Lib.cell_of_heap hr];rfl
       have WQ:Hid (∀u,Bt W5 u->(tw u d (I*10) M O R S k0 k1 k2 k3 0 0).cell? (aj f 14)=some (.slice (some (aj kb ko)) m c)/\(tw u d (I*10) M O R S k0 k1 k2 k3 0 0).cell? (aj kb (ko+j))=some (Iq (I:Int))/\(tw u d (I*10) M O R S k0 k1 k2 k3 0 0).cell? (aj Ar 0)=some (Iq M)/\(tw u d (I*10) M O R S k0 k1 k2 k3 0 0).cell? (aj Ar 1)=some (Iq O)/\(tw u d (I*10) M O R S k0 k1 k2 k3 0 0).cell? (aj Ar 2)=some (Iq R)/\(tw u d (I*10) M O R S k0 k1 k2 k3 0 0).cell? (aj Ar 3)=some (Iq S)/\(tw u d (I*10) M O R S k0 k1 k2 k3 0 0).cell? (aj d (i*10+4))=some (Iq p4)/\(tw u d (I*10) M O R S k0 k1 k2 k3 0 0).cell? (aj d (i*10+5))=some (Iq p5)/\(tw u d (I*10) M O R S k0 k1 k2 k3 0 0).cell? (aj d (i*10+6))=some (Iq p6)/\(tw u d (I*10) M O R S k0 k1 k2 k3 0 0).cell? (aj d (i*10+7))=some (Iq p7)):=λu hu=>by
        obtain⟨r0,r1,r2,r3,r4,r5,r6,r7,r8,r9⟩:=RM u hu;have o1:∀b' o' v,b'≠d->u.cell? (aj b' o')=some v->(tw u d (I*10) M O R S k0 k1 k2 k3 0 0).cell? (aj b' o')=some v:=λb' o' v QW hv=>(DV b' o' (.inl QW)).trans hv;have o2:∀t v,t<10->u.cell? (aj d (i*10+t))=some v->(tw u d (I*10) M O R S k0 k1 k2 k3 0 0).cell? (aj d (i*10+t))=some v:=λt v ht hv=>(DV d (i*10+t) dg).trans hv;have n1:f≠d:=dg;have n2:kb≠d:=dg;have n3:Ar≠d:=dg;exact⟨o1 _ _ _ n1 r0,o1 _ _ _ n2 r1,o1 _ _ _ n3 r2,o1 _ _ _ n3 r3,o1 _ _ _ n3 r4,o1 _ _ _ n3 r5,o2 4 _ dg r6,o2 5 _ dg r7,o2 6 _ dg r8,o2 7 _ dg r9⟩
       have Rl:Hid (∀u,Bt W5 u->(∀o',u.frozen? (aj d o')=false)/\d<u.heap.size/\(∃v,u.cell? (aj d (I*10))=some v)/\(∃v,u.cell? (aj d (I*10+1))=some v)/\(∃v,u.cell? (aj d (I*10+2))=some v)/\(∃v,u.cell? (aj d (I*10+3))=some v)/\(∃v,u.cell? (aj d (I*10+4))=some v)/\(∃v,u.cell? (aj d (I*10+5))=some v)/\(∃v,u.cell? (aj d (I*10+6))=some v)/\(∃v,u.cell? (aj d (I*10+7))=some v)/\(∃v,u.cell? (aj d (I*10+8))=some v)/\(∃v,u.cell? (aj d (I*10+9))=some v)):=λu hu=>by have F:=Pt.below hu;exact⟨λo'=>F.row.frozen o',F.row.lt,⟨_,aS (t:=0) F.row Y.2 dg⟩,⟨_,aS F.row Y.2 dg⟩,⟨_,aS F.row Y.2 dg⟩,⟨_,aS F.row Y.2 dg⟩,⟨_,aS F.row Y.2 dg⟩,⟨_,aS F.row Y.2 dg⟩,⟨_,aS F.row Y.2 dg⟩,⟨_,aS F.row Y.2 dg⟩,⟨_,aS F.row Y.2 dg⟩,⟨_,aS F.row Y.2 dg⟩⟩
       have zt:Hid (∀u,Bt W5 u->Pw U (tw u d (I*10) M O R S k0 k1 k2 k3 0 0) r d N (DG C i ks R0 R1 R2 R3 (j+1)) H (20000*i+10100)/\(tw u d (I*10) M O R S k0 k1 k2 k3 0 0).heap[f]?=some (.cells #[Iq kd,Iq X,Iq a1,Iq a2,Iq a3,Iq a4,Iq a5,Iq a6,Iq a7,Iq a8,Iq a9,Iq b0,Iq b1,.string tx,.slice (some (aj kb ko)) m c,Iq up] 57 (0,0))/\(m=0\/∃b',some ((aj b 0):Addr)=some (aj b' 0)/\b'≠d/\oG (tw u d (I*10) M O R S k0 k1 k2 k3 0 0) b' m R0 R1 R2 R3)):=λu hu=>by
        have zy:=zr.trans (hu.mono zr.size);have key:∀b',b'≠d->(tw u d (I*10) M O R S k0 k1 k2 k3 0 0).heap[b']?=u.heap[b']?:=λb' QW=>MP b' QW;refine⟨?_,(key f dg).trans ((zy.block f zY).trans zn),.inr ⟨b,rfl,zx,?_,λt ht=>?_⟩⟩;·have:=Jr (Pt.below hu) zU zV I (vx C i (R0 j) (R1 j) (R2 j) (R3 j)) M O R S k0 k1 k2 k3 0 0 zh.symm zi.symm zj.symm zk.symm (by rw[<-Qg,<-zh,<-zi,<-zj,<-zk,<-zA,<-zB,<-zC,<-zD];rfl) (by rw[<-zS,<-zh,<-zi,<-zj,<-zk,<-zA,<-zB,<-zC,<-zD];rfl) (by rw[<-SJ,<-zh,<-zi,<-zj,<-zk,<-zA,<-zB,<-zC,<-zD];rfl) (by rw[<-SM,<-zh,<-zi,<-zj,<-zk,<-zA,<-zB,<-zC,<-zD];rfl) rfl rfl;rw[<-zR]at this⊢;exact this
        ·have h1:=(aD.1 (((key b zx).trans (zy.block b zQ)).trans (NV zQ))).1;exact h1
        ·obtain⟨r0,r1,r2,r3⟩:=Sv t ht;have kk:=(key b zx).trans (zy.block b zQ);exact⟨(bf (a:=(aj b _)) kk).trans r0,(bf (a:=(aj b _)) kk).trans r1,(bf (a:=(aj b _)) kk).trans r2,(bf (a:=(aj b _)) kk).trans r3⟩
       obtain⟨t0,t1,t2,t3,t4,t5,t6,t7,t8,t9⟩:=RM W5 (af _ _);have ZH:Hid (wr.cell? (aj f 14)=some (.slice (some (aj kb ko)) m c)):=by show _=_;rw[Lib.cell_of_heap zn.out];rfl
       have XR:(I:Int)<(N:Int):=dg;clear Ti Sv Qg zS SJ SM zh zi zj zk zR Uy UL zQ KJ zn zw Qi Qj Qh;go_wp2_with fail;clear Pc zZ g0 g1 g2 g3;go_region_held(λW=>W.cell? (aj f 14)=some (.slice (some (aj kb ko)) m c)/\W.cell? (aj kb (ko+j))=some (Iq (I:Int))/\W.cell? (aj Ar 0)=some (Iq M)/\W.cell? (aj Ar 1)=some (Iq O)/\W.cell? (aj Ar 2)=some (Iq R)/\W.cell? (aj Ar 3)=some (Iq S)/\W.cell? (aj d (i*10+4))=some (Iq p4)/\W.cell? (aj d (i*10+5))=some (Iq p5)/\W.cell? (aj d (i*10+6))=some (Iq p6)/\W.cell? (aj d (i*10+7))=some (Iq p7)) (go_keep) (first|(go_at_call 51;refine ag (V1 _ (by first|exact .inl rfl|exact .inr rfl)) ?_;rintro e u2 ⟨rfl,zG⟩;obtain⟨f0,f1,f2,f3,f4,f5,f6,f7,f8,f9⟩:=RM u2 zG;have HX:=WQ u2 zG;unfold tw at HX;obtain⟨h0,h1,h2,h3,h4,h5,h6,h7,h8,h9⟩:=HX;obtain⟨UE,YA,⟨v0,e0⟩,⟨v1,e1⟩,⟨v2,e2⟩,⟨v3,e3⟩,⟨v4,e4⟩,⟨v5,e5⟩,⟨v6,e6⟩,⟨v7,e7⟩,⟨v8,e8⟩,⟨v9,e9⟩⟩:=Rl u2 zG));all_goals
        obtain⟨F1,F2,F3⟩:=zt u2 zG;have Wf:=(show Hid _ from F1);have Wg:=(show Hid _ from F2);have Wh:=(show Hid _ from F3);clear F1 F2 F3;go_wp2;go_roundw;case rel=>exact⟨j+1,zT,by go_num,Wf,Wg,Wh⟩
        case measure=>simp[intOf];omega
      ·have SV:¬(j:Int)<(m:Int):=dg
       obtain rfl:j=m:=dg;have Ps:Hid (cV L Wd H w h dM off sn (DG C i ks R0 R1 R2 R3 j) (i+1)):=by have ze:=Pu.out;rw[<-S6,<-Qo,<-S_,<-Ta,<-U9,<-U_]at ze;have:=B C R0 R1 R2 R3 zv (λe=>zJ.1 (by have:=zm.out;omega)) (λe=>zJ.2 (by have:=zm.out;omega)) ze;exact this
       have HPN:Hid (Pw U wr r d N (DG C i ks R0 R1 R2 R3 j) H (20000*(i+1))):=zw.mono dg;clear zw zn KJ;go_wp2;go_roundw;case rel=>exact⟨i+1,_,V,by go_num,HPN,Ps⟩
       case measure=>simp[intOf];omega
  ·have Ir:¬(i:Int)<(N:Int):=dg
   obtain rfl:i=N:=dg;have Rn:Hid (U.grownBy wr (some r)/\wr.rowIs d 59 (i*10) (js P)/\cV L Wd H w h dM off sn P i):=⟨Z.g,Z.row,HL⟩;go_wp2;go_ret;exact⟨d,P,rfl,Rn.2.1,Rn.2.2,Rn.1,zU⟩
section
variable{s:ByteArray} {L:List Nd} {Wd:Nat->Int} {H:Nat->Int->Int} {w h:Int} {dM off:Nat->Int} {sn:Nat} {P:Nat->Nat->Int}
theorem cV.scroll(g:dp s L)(hp:cV L Wd H w h dM off sn P L.length){i}(hi:i<L.length)(f:(aa L i).kind=4):
 (aa L i).kids.length=1/\0<=P i 8/\P i 8<=P i 9/\P (aH (aa L i).kids 0) 0=P i 0/\P (aH (aa L i).kids 0) 1=P i 1-P i 8/\P (aH (aa L i).kids 0) 2=P i 2/\P (aH (aa L i).kids 0) 3=P i 3+P i 9/\(ap (aa L i) 0=0->P i 8=0):=by
 have l:(aa L i).kids.length=1:=by
  rcases g.kidok i hi with q|⟨_,_,q⟩|⟨q,_⟩;·omega
  ·exact q
  ·omega
 obtain⟨u,v⟩:=hp.sc i hi hi f;obtain⟨R0,R1,R2,R3,m,a⟩:=hp.kr i hi hi;obtain⟨n,p,r,t⟩:=m.scr dg 0 dg;have b:=a 0 dg 0 dg;have c:=a 0 dg 1 dg;have d:=a 0 dg 2 dg;have e:=a 0 dg 3 dg;have b:P (aH (aa L i).kids 0) 0=R0 0:=b;have c:P (aH (aa L i).kids 0) 1=R1 0:=c;have d:P (aH (aa L i).kids 0) 2=R2 0:=d;have e:P (aH (aa L i).kids 0) 3=R3 0:=e;grind[dA,fi,ap,aa]
theorem P6{x}(a:0<=x)(h1:x<=100000):cl x=x:=by grind[cl]
theorem cV.inRow(f:dp s L)(hp:cV L Wd H w h dM off sn P L.length){i}(hi:i<L.length)(r:(aa L i).kind=0):
 ∃G,((aa L i).kids=[]\/bD L (aa L i).kids (λj=>Wd (aH (aa L i).kids j)) (P i 2) (ap (aa L i) 4) G)/\(∀j,j<(aa L i).kids.length->0<=G j/\G j<=100000)/\∀j,j<(aa L i).kids.length->P (aH (aa L i).kids j) 0=P i 0+cd G (ap (aa L i) 4) j/\P (aH (aa L i).kids j) 1=P i 1/\P (aH (aa L i).kids j) 2=G j/\P (aH (aa L i).kids j) 3=P i 3:=by obtain⟨R0,R1,R2,R3,l,b⟩:=hp.kr i hi hi;obtain⟨G,d,e,c⟩:=l.row dg;have g:=(f.vl.nv i hi).bd.2.1;rw[P6 g.1 dg]at c;refine⟨G,d,e,λj a=>?_⟩;obtain⟨m,n,p,q⟩:=c j a;have t:P (aH (aa L i).kids j) 0=R0 j:=b j a 0 dg;have u:P (aH (aa L i).kids j) 1=R1 j:=b j a 1 dg;have v:P (aH (aa L i).kids j) 2=R2 j:=b j a 2 dg;have z:P (aH (aa L i).kids j) 3=R3 j:=b j a 3 dg;omega
theorem JS{f}{l}(b:∀j∈l,0<=f j){k}(d:k∈l):f k<=aq f l:=by
 induction l with
 |nil=>cases d
 |cons a l g=>have e:=b a rn;have h1:0<=aq f l:=cm λj c=>b j (by simp[c]);grind[aq]
theorem Gk{r b a S:Int}(h1:r<=b\/r<=a->S=r)(c:b<r->a<r->S=a):S<=r:=dg
theorem bD.tiles{L}{ks}{N}{a b}{G}(c:bD L ks N a b G)(f:0<ks.length):
 aq G (List.range ks.length)<=rm a b ks.length/\((∃j,j<ks.length/\0<ap (aa L (aH ks j)) 3/\ap (aa L (aH ks j)) 2<0)->aq G (List.range ks.length)=rm a b ks.length):=by
 have g:=JB a b ks.length f;obtain⟨t1,t2,t3⟩:=bY.tiles c (fG _ _ _);refine⟨Gk t2 t3,fun⟨j,e,n,l⟩=>t2 (.inr (gH g ?_))⟩;have d:0<cl (ap (aa L (aH ks j)) 3):=by unfold cl;split;omega;split<;>omega
 have m:dF (sy (aa L (aH ks j)) (N j)) (ap (aa L (aH ks j)) 2)=100000:=by unfold dF;rw[if_pos l]
 refine gH ?_ (JS (k:=j) (λx _=>?_) (uA.2 e));all_goals grind[cl,ap,aa,aH,dF,sy,gd,dq]
theorem cV.tiles(f:dp s L)(hp:cV L Wd H w h dM off sn P L.length){i}(hi:i<L.length)(d:(aa L i).kind=0)(l:0<(aa L i).kids.length):
 ∃G,(∀j,j<(aa L i).kids.length->0<=G j/\G j<=100000)/\(∀j,j<(aa L i).kids.length->P (aH (aa L i).kids j) 2=G j)/\aq G (List.range (aa L i).kids.length)<=rm (P i 2) (ap (aa L i) 4) (aa L i).kids.length/\((∃j,j<(aa L i).kids.length/\0<ap (aa L (aH (aa L i).kids j)) 3/\ap (aa L (aH (aa L i).kids j)) 2<0)->aq G (List.range (aa L i).kids.length)=rm (P i 2) (ap (aa L i) 4) (aa L i).kids.length):=by obtain⟨G,a,b,c⟩:=hp.inRow f hi d;have a:=a.resolve_left (λe=>rd);exact⟨G,b,λj g=>(c j g).2.2.1,a.tiles l⟩
def v_(P:Nat->Nat->Int)(w h:Int)(i:Nat):Prop:=0<=P i 4/\0<=P i 5/\0<=P i 6/\0<=P i 7/\P i 4+P i 6<=w/\P i 5+P i 7<=h
def Em(x y a b X Y A B:Int):Prop:=a<=0\/b<=0\/(X<=x/\Y<=y/\x+a<=X+A/\y+b<=Y+B)
theorem Df{x y a b e f d c w h}(p:1<=w/\w<=400)(hh:1<=h/\h<=400)(l:0<=a/\a<=100000)(m:0<=b/\b<=100000)(n:0<=e/\0<=f/\0<=d/\0<=c/\e+d<=w/\f+c<=h):
 let g:=uT x y a b e f d c
 let c1:=uU x y a b e f d c
 let c2:=sO x y a b e f d c
 let c3:=uV x y a b e f d c
 (0<=g/\0<=c1/\0<=c2/\0<=c3/\g+c2<=w/\c1+c3<=h)/\Em g c1 c2 c3 x y a b/\Em g c1 c2 c3 e f d c:=by
 dsimp only;unfold uT uU sO uV Em;by_cases q:eQ x a e d>=fQ x a e d\/eQ y b f c>=fQ y b f c;·omega
 ·rw[if_neg q,if_neg q,if_neg q,if_neg q];unfold eQ fQ aJ aO at*;omega
theorem cV.onScr(f:dp s L)(hp:cV L Wd H w h dM off sn P L.length)(g:1<=w/\w<=400)(hh:1<=h/\h<=400):∀n i,i<n->i<L.length->v_ P w h i
 |0,i,h,_=>dg
 |n+1,i,B,hi=>by
  by_cases e:i=0;·subst e;obtain⟨D,E,F,I,J,K,M,N⟩:=hp.root;grind[v_]
  ·obtain⟨u,k,hu,c,l,m⟩:=f.kid_of i dg hi;have d:=cV.onScr f hp g hh n u dg dg;obtain⟨R0,R1,R2,R3,C,a⟩:=hp.kr u dg dg;have b:=hp.bd i hi;rw[<-l]at b⊢;have p:P (aH (aa L u).kids k) 2=R2 k:=a k c 2 dg;have r:P (aH (aa L u).kids k) 3=R3 k:=a k c 3 dg;have t:P (aH (aa L u).kids k) 4=uT (R0 k) (R1 k) (R2 k) (R3 k) (P u 4) (P u 5) (P u 6) (P u 7):=a k c 4 dg;have v:P (aH (aa L u).kids k) 5=uU (R0 k) (R1 k) (R2 k) (R3 k) (P u 4) (P u 5) (P u 6) (P u 7):=a k c 5 dg;have z:P (aH (aa L u).kids k) 6=sO (R0 k) (R1 k) (R2 k) (R3 k) (P u 4) (P u 5) (P u 6) (P u 7):=a k c 6 dg;have A:P (aH (aa L u).kids k) 7=uV (R0 k) (R1 k) (R2 k) (R3 k) (P u 4) (P u 5) (P u 6) (P u 7):=a k c 7 dg;rw[p,r]at b;have q:=(Df (x:=R0 k) (y:=R1 k) g hh ⟨b.2.2.2.2.1,b.2.2.2.2.2.1⟩ b.2.2.2.2.2.2 d).1;unfold v_;rw[t,v,z,A];exact q
theorem cV.clip(f:dp s L)(hp:cV L Wd H w h dM off sn P L.length)(g:1<=w/\w<=400)(hh:1<=h/\h<=400){i}(hi:i<L.length)(l:0<i):
 ∃u,u<i/\(aa L i).up=(u:Int)/\Em (P i 4) (P i 5) (P i 6) (P i 7) (P i 0) (P i 1) (P i 2) (P i 3)/\Em (P i 4) (P i 5) (P i 6) (P i 7) (P u 4) (P u 5) (P u 6) (P u 7):=by obtain⟨u,k,hu,b,m,e⟩:=f.kid_of i l hi;have d:=cV.onScr f hp g hh (u+1) u dg dg;obtain⟨R0,R1,R2,R3,B,a⟩:=hp.kr u dg dg;have c:=hp.bd i hi;refine⟨u,hu,e,?_⟩;rw[<-m]at c⊢;have n:P (aH (aa L u).kids k) 0=R0 k:=a k b 0 dg;have p:P (aH (aa L u).kids k) 1=R1 k:=a k b 1 dg;have q:P (aH (aa L u).kids k) 2=R2 k:=a k b 2 dg;have r:P (aH (aa L u).kids k) 3=R3 k:=a k b 3 dg;have t:P (aH (aa L u).kids k) 4=uT (R0 k) (R1 k) (R2 k) (R3 k) (P u 4) (P u 5) (P u 6) (P u 7):=a k b 4 dg;have v:P (aH (aa L u).kids k) 5=uU (R0 k) (R1 k) (R2 k) (R3 k) (P u 4) (P u 5) (P u 6) (P u 7):=a k b 5 dg;have z:P (aH (aa L u).kids k) 6=sO (R0 k) (R1 k) (R2 k) (R3 k) (P u 4) (P u 5) (P u 6) (P u 7):=a k b 6 dg;have A:P (aH (aa L u).kids k) 7=uV (R0 k) (R1 k) (R2 k) (R3 k) (P u 4) (P u 5) (P u 6) (P u 7):=a k b 7 dg;rw[t,v,z,A,n,p,q,r];exact(Df g hh dg dg d).2
end
theorem Ch.uniq{L}{d}{ks}{a e}(h:Ch L d ks a e):∀{d' b},Ch L d' ks a b->e=b:=by
 induction h with
 |nil d a=>intro d' b h;cases h;rfl
 |@cons d c r f e h1 g l m n p=>
  intro d' b h;cases h with
  |cons _ _ q t=>grind
theorem Ch.all{L}{d}{ks}{a e}(h:Ch L d ks a e):∀k,a<=k->k<e->∃d' b,Ch L d' (L k).kids (k+1) b/\b<=e:=by
 induction h with
 |nil d a=>omega
 |@cons d c r m e h1 u n f p v=>
  intro k z A;by_cases g:k=c;·subst g;exact⟨_,_,n,f.le⟩
  ·by_cases l:k<m;·obtain⟨d',b,q,t⟩:=p k dg l;exact⟨d',b,q,aF t f.le⟩
   grind
def vI(en:Nat->Nat)(ks:List Nat)(a:Nat):Nat->Nat
 |0=>a
 |j+1=>en (aH ks j)
theorem Ch.st{L}{en}{d}{ks}{a e}(h:Ch L d ks a e):(∀k,a<=k->k<e->∃d,Ch L d (L k).kids (k+1) (en k))->(∀j,j<ks.length->aH ks j=vI en ks a j)/\e=vI en ks a ks.length:=by
 induction h with
 |nil d a=>exact λ_=>⟨λj l=>absurd l rn,rfl⟩
 |@cons d c r p e h1 z g t A u=>
  intro f;obtain⟨d0,q⟩:=f c (ae _) (by have:=g.le;have:=t.le;omega);have n:=g.uniq q;obtain⟨v,B⟩:=u (λk a b=>f k (by have:=g.le;omega) b);have m:∀j,j<=r.length->vI en (c::r) c (j+1)=vI en r p j:=λj l=>by
   cases j with
   |zero=>exact n.symm
   |succ j=>rfl
  refine⟨λj l=>?_,?_⟩;·cases j with
   |zero=>rfl
   |succ j=>rw[m j rd];exact v j rd
  grind
structure En(L:List Nd)(en:Nat->Nat):Prop where
 lt:∀k,k<L.length->k<en k
 le:∀k,k<L.length->en k<=L.length
 kid:∀k j,k<L.length->j<(aa L k).kids.length->aH (aa L k).kids j=vI en (aa L k).kids (k+1) j
 last:∀k,k<L.length->en k=vI en (aa L k).kids (k+1) (aa L k).kids.length
 sub:∀k i,k<L.length->k<=i->i<en k->en i<=en k
theorem Qc{s}{L}(l:dp s L):∃en,En L en:=by
 have g:∀k,∃e,k<L.length->∃d,Ch (aa L) d (aa L k).kids (k+1) e/\e<=L.length:=λk=>by
  by_cases h:k<L.length;·obtain⟨d,e,h1,f⟩:=l.ch.all k (aR _) h;grind
  ·exact⟨0,λq=>absurd q h⟩
 obtain⟨en,a⟩:=Classical.skolem.1 g;have st:∀k,k<L.length->(∀j,j<(aa L k).kids.length->aH (aa L k).kids j=vI en (aa L k).kids (k+1) j)/\en k=vI en (aa L k).kids (k+1) (aa L k).kids.length:=λk c=>by obtain⟨d,h1,f⟩:=a k c;exact h1.st (en:=en) (λi _ b=>(a i dg).imp λ_ q=>q.1)
 refine⟨en,λk c=>by obtain⟨_,h1,_⟩:=a k c;have:=h1.le;omega,λk c=>(a k c).choose_spec.2,λk j c m=>(st k c).1 j m,λk c=>(st k c).2,λk i c h1 f=>?_⟩;by_cases e:i=k;·grind
 ·obtain⟨_,q,u⟩:=a k c;obtain⟨_,t,n,p⟩:=q.all i dg f;obtain⟨_,r,_⟩:=a i dg;rw[r.uniq n];exact p
section
variable{s:ByteArray} {L:List Nd} {en:Nat->Nat}
theorem En.st_mono(h:En L en)(c:dp s L){k}(b:k<L.length){j}(a:j<(aa L k).kids.length):vI en (aa L k).kids (k+1) j<vI en (aa L k).kids (k+1) (j+1):=by rw[<-h.kid k j b a];exact h.lt _ (c.nest.kid k _ b (eK a)).2.1
theorem En.st_up(h:En L en)(a:dp s L){k}(b:k<L.length):∀d j,j+d<=(aa L k).kids.length->vI en (aa L k).kids (k+1) j<=vI en (aa L k).kids (k+1) (j+d)
 |0,j,_=>ae _
 |d+1,j,c=>aF (h.st_up a b d j dg) (Nat.le_of_lt (h.st_mono a b (j:=j+d) dg))
theorem En.st_end(h:En L en)(b:dp s L){k}(a:k<L.length){j}(c:j<=(aa L k).kids.length):vI en (aa L k).kids (k+1) j<=en k:=by rw[h.last k a];have:=h.st_up b a ((aa L k).kids.length-j) j dg;grind
theorem En.find(h:En L en){k}(c:k<L.length):∀j,j<=(aa L k).kids.length->∀i,k<i->i<vI en (aa L k).kids (k+1) j->∃a,a<j/\aH (aa L k).kids a<=i/\i<en (aH (aa L k).kids a)
 |0,_,i,h1,b=>by have:i<k+1:=b;omega
 |j+1,d,i,h1,b=>by
  by_cases e:aH (aa L k).kids j<=i;·exact⟨j,dg,e,b⟩
  ·rw[h.kid k j c dg]at e;obtain⟨a,f,g⟩:=h.find c j dg i h1 dg;grind
end
def tk(L:List Nd)(Wd:Nat->Int)(H:Nat->Int->Int)(dM off:Nat->Int)(sn:Nat)(P:Nat->Nat->Int)(i:Nat):Prop:=
 ((aa L i).kind=4->P i 9=dA (H (aH (aa L i).kids 0) (P i 2)) (P i 3)/\P i 8=min (max 0 (fi (ap (aa L i) 0) dM off sn)) (P i 9))/\((aa L i).kind≠4->P i 8=0/\P i 9=0)/\
  ∃R0 R1 R2 R3,ct (aa L i).kind (ap (aa L i) 4) (ap (aa L i) 5) (ap (aa L i) 6) L (aa L i).kids Wd H (P i 0) (P i 1) (P i 2) (P i 3) (P i 8) (P i 9) R0 R1 R2 R3/\∀j,j<(aa L i).kids.length->∀t,t<8->P (aH (aa L i).kids j) t=vx P i (R0 j) (R1 j) (R2 j) (R3 j) t
theorem tk.congr{L}{Wd}{H}{dM off}{sn}{P e}{i}(h:tk L Wd H dM off sn P i)(h1:e i=P i)(f:∀j,j<(aa L i).kids.length->∀t,t<8->e (aH (aa L i).kids j) t=P (aH (aa L i).kids j) t):tk L Wd H dM off sn e i:=by obtain⟨a,b,R0,R1,R2,R3,c,d⟩:=h;refine⟨rd,rd,R0,R1,R2,R3,rd,λj g t l=>?_⟩;grind[vx]
theorem cV.all{s}{L}{Wd}{H}{w h}{dM off}{sn}{P}(l:dp s L)(hS:Sz L Wd H)(I:1<=w/\w<=400)(hh:1<=h/\h<=400)(v:P 0 0=0/\P 0 1=0/\P 0 2=w/\P 0 3=h/\P 0 4=0/\P 0 5=0/\P 0 6=w/\P 0 7=h)(d:∀i,i<L.length->tk L Wd H dM off sn P i):cV L Wd H w h dM off sn P L.length:=by
 have p:∀n i,i<n->i<L.length->-(((i:Int)+1)*100000000)<=P i 0/\P i 0<=((i:Int)+1)*100000000/\-(((i:Int)+1)*100000000)<=P i 1/\P i 1<=((i:Int)+1)*100000000/\0<=P i 2/\P i 2<=100000/\0<=P i 3/\P i 3<=100000:=λn=>by
  induction n with
  |zero=>omega
  |succ n A=>
   intro i hi t;by_cases E:i=0;·grind
   ·obtain⟨u,k,hu,c,f,z⟩:=l.kid_of i dg t;have b:=A u dg dg;obtain⟨m,D,R0,R1,R2,R3,B,g⟩:=d u dg;have a:0<=P u 8/\P u 8<=100000/\0<=P u 9/\P u 3+P u 9<=100000:=by
     by_cases r:(aa L u).kind=4;·obtain⟨C,O⟩:=m r;have hh:=hS.hb (aH (aa L u).kids 0) (P u 2) (l.nest.kid u _ dg (eK (ks:=(aa L u).kids) (j:=0) dg)).2.1;unfold dA at C;omega
     ·omega
    have F:=B.bd (l.kids_le dg) ⟨b.2.2.2.2.1,b.2.2.2.2.2.1⟩ ⟨b.2.2.2.2.2.2.1,b.2.2.2.2.2.2.2⟩ ⟨a.1,a.2.1⟩ ⟨a.2.2.1,a.2.2.2⟩ (((u:Int)+1)*100000000) dg ⟨b.1,b.2.1⟩ ⟨b.2.2.1,b.2.2.2.1⟩ k c;have J:P i 0=R0 k:=by rw[<-f];exact g k c 0 dg
    have K:P i 1=R1 k:=by rw[<-f];exact g k c 1 dg
    have M:P i 2=R2 k:=by rw[<-f];exact g k c 2 dg
    have N:P i 3=R3 k:=by rw[<-f];exact g k c 3 dg
    omega
 exact⟨v,λi hi _ e=>(d i hi).1 e,λi hi q=>(d i hi).2.1 (by rcases q with q|q;omega;exact q),λi hi _=>(d i hi).2.2,λi hi=>p (i+1) i dg hi⟩
structure qh(en:Nat->Nat)(P:Nat->Nat->Int)(k:Nat):Prop where
 b0:-(((k:Int)+1)*100000000)<=P k 0/\P k 0<=((k:Int)+1)*100000000
 b1:-(((k:Int)+1)*100000000)<=P k 1/\P k 1<=((k:Int)+1)*100000000
 b2:0<=P k 2/\P k 2<=100000
 b3:0<=P k 3/\P k 3<=100000
 z:∀i,k<=i->i<en k->P i 8=0/\P i 9=0
section
variable(L:List Nd) (en:Nat->Nat) (Wd:Nat->Int) (H:Nat->Int->Int) (dM off:Nat->Int) (sn:Nat)
def qg(P Q:Nat->Nat->Int)(k:Nat):Prop:=(∀i,k<=i->i<en k->tk L Wd H dM off sn Q i)/\(∀i t,¬(k<=i/\i<en k)->Q i t=P i t)/\∀t,t<8->Q k t=P k t
structure iu(R0 R1 R2 R3:Nat->Int)(of rm:Int)(P Q:Nat->Nat->Int)(k j:Nat):Prop where
 dn:∀i,k<i->i<vI en (aa L k).kids (k+1) j->tk L Wd H dM off sn Q i
 pl:∀a,a<j->∀t,t<8->Q (aH (aa L k).kids a) t=vx Q k (R0 a) (R1 a) (R2 a) (R3 a) t
 sm:∀i t,¬(k<=i/\i<vI en (aa L k).kids (k+1) j)->Q i t=P i t
 se:∀t,t<8->Q k t=P k t
 sc:(0<j->Q k 8=of/\Q k 9=rm)/\(j=0->Q k 8=0/\Q k 9=0)
end
def kt(Q:Nat->Nat->Int)(k c:Nat)(x y a b of rm:Int)(i t:Nat):Int:=if i=c/\t<8 then vx Q k x y a b t else if i=k/\t=8 then of else if i=k/\t=9 then rm else Q i t
section
variable{s:ByteArray} {L:List Nd} {en:Nat->Nat} {Wd:Nat->Int} {H:Nat->Int->Int} {dM off:Nat->Int} {sn:Nat} {R0 R1 R2 R3:Nat->Int} {of rm:Int} {P Q Q1 Q2:Nat->Nat->Int} {k j:Nat}
theorem ub{P P'}{i}(h:∀t,4<=t->t<8->P' i t=P i t)x y a b t:vx P' i x y a b t=vx P i x y a b t:=by grind[vx]
theorem iu.step(f:dp s L)(d:En L en)(m:k<L.length)(E:j<(aa L k).kids.length)(h:iu L en Wd H dM off sn R0 R1 R2 R3 of rm P Q k j)(h1:∀i t,Q1 i t=kt Q k (aH (aa L k).kids j) (R0 j) (R1 j) (R2 j) (R3 j) of rm i t)(A:qg L en Wd H dM off sn Q1 Q2 (aH (aa L k).kids j)):iu L en Wd H dM off sn R0 R1 R2 R3 of rm P Q2 k (j+1):=by
 have K:=d.kid k j m E;have n:=f.nest.kid k _ m (eK E);have p:vI en (aa L k).kids (k+1) (j+1)=en (aH (aa L k).kids j):=rfl;obtain⟨c,u⟩:=ad (aH (aa L k).kids j);rw[u]at K n h1 A p;have N:=d.lt c n.2.1;have R:∀i t,i≠c->i≠k->Q1 i t=Q i t:=λi t a b=>by grind[kt]
 have S:∀t,t<8->Q1 k t=Q k t:=λt a=>by grind[kt]
 have I:=A.2.1;have F:=λt a=>(I k t dg).trans (S t a);have v:∀i,k<i->i<c->Q2 i=Q i:=λi a b=>rd;refine⟨λi a b=>?_,λa ha t r=>?_,λi t q=>?_,λt r=>(F t r).trans (h.se t r),⟨λ_=>?_,λq=>dg⟩⟩
 ·rw[p]at b;by_cases l:i<c
  ·refine(h.dn i a dg).congr (v i a l) λq B t r=>?_;obtain⟨z,z1,T,U⟩:=d.find m j dg i a dg;have O:=f.nest.kid k _ m (eK (ks:=(aa L k).kids) (j:=z) dg);have J:=d.sub _ i O.2.1 T U;have C:=d.st_up f m (j-(z+1)) (z+1) dg;rw[show z+1+(j-(z+1))=j by omega]at C;have D:vI en (aa L k).kids (k+1) (z+1)=en (aH (aa L k).kids z):=rfl;have g:i<L.length:=by have:=n.2.1;omega
   have W:=f.nest.kid i _ g (eK B);have X:=d.kid i q g B;have Y:=d.st_mono f g B;have Z:=d.st_end f g (j:=q+1) dg;grind
  ·exact A.1 i dg b
 ·by_cases e:a=j;·subst e;rw[u,A.2.2 t r,h1];grind[kt,ub]
  ·have M:=f.nest.kid k _ m (eK (ks:=(aa L k).kids) (j:=a) dg);have J:=d.kid k a m dg;have C:=d.st_mono f m (j:=a) dg;have D:=d.st_up f m (j-(a+1)) (a+1) dg;rw[show a+1+(j-(a+1))=j by omega]at D;rw[v _ dg dg,h.pl a dg t r,ub (P:=Q) (P':=Q2) (i:=k) (λt _ q=>F t q)]
 ·rw[p]at q;rw[I i t dg,R i t dg dg];exact h.sm i t dg
 grind[kt]
theorem iu.pre(g:dp s L)(v:En L en)(f:k<L.length)(n:j<(aa L k).kids.length)(d:qh en P k)(B:ct (aa L k).kind (ap (aa L k) 4) (ap (aa L k) 5) (ap (aa L k) 6) L (aa L k).kids Wd H (P k 0) (P k 1) (P k 2) (P k 3) of rm R0 R1 R2 R3)(q:0<=of/\of<=100000)(r:0<=rm/\P k 3+rm<=100000)(h:iu L en Wd H dM off sn R0 R1 R2 R3 of rm P Q k j)(h1:∀i t,Q1 i t=kt Q k (aH (aa L k).kids j) (R0 j) (R1 j) (R2 j) (R3 j) of rm i t):qh en Q1 (aH (aa L k).kids j):=by
 have A:=v.kid k j f n;have m:=g.nest.kid k _ f (eK n);have C:=v.st_end g f (j:=j+1) dg;have E:=B.bd (g.kids_le f) d.b2 d.b3 q r (((k:Int)+1)*100000000) dg d.b0 d.b1 j n;obtain⟨c,l⟩:=ad (aH (aa L k).kids j);have u:vI en (aa L k).kids (k+1) (j+1)=en (aH (aa L k).kids j):=rfl;rw[l]at A m h1 u⊢;have p:∀t,t<8->Q1 c t=vx Q k (R0 j) (R1 j) (R2 j) (R3 j) t:=λt D=>by grind[kt]
 have F:Q1 c 0=R0 j:=p 0 dg;have I:Q1 c 1=R1 j:=p 1 dg;have J:Q1 c 2=R2 j:=p 2 dg;have K:Q1 c 3=R3 j:=p 3 dg;refine⟨dg,dg,dg,dg,λi a b=>?_⟩;have e:∀t,8<=t->Q1 i t=P i t:=λt D=>by rw[h1];unfold kt;rw[if_neg dg,if_neg dg,if_neg dg];exact h.sm i t dg
 rw[e 8 dg,e 9 dg];exact d.z i dg dg
theorem iu.fin(f:dp s L)(l:En L en)(c:k<L.length)(v:ct (aa L k).kind (ap (aa L k) 4) (ap (aa L k) 5) (ap (aa L k) 6) L (aa L k).kids Wd H (P k 0) (P k 1) (P k 2) (P k 3) of rm R0 R1 R2 R3)(p:(aa L k).kind=4->rm=dA (H (aH (aa L k).kids 0) (P k 2)) (P k 3)/\of=min (max 0 (fi (ap (aa L k) 0) dM off sn)) rm)(u:(aa L k).kind≠4->of=0/\rm=0)(h:iu L en Wd H dM off sn R0 R1 R2 R3 of rm P Q k (aa L k).kids.length):qg L en Wd H dM off sn P Q k:=by
 have r:=l.last k c;have q:Q k 8=of/\Q k 9=rm:=by
  by_cases d:0<(aa L k).kids.length;·exact h.sc.1 d
  ·have n:(aa L k).kind≠4:=λe=>by rcases f.kidok k c with z|⟨_,_,z⟩|⟨z,_⟩<;>omega
   have:=h.sc.2 dg;omega
 refine⟨λi a b=>?_,λi t a=>h.sm i t dg,h.se⟩;by_cases e:i=k;·subst e;have A:=h.se 0 dg;have B:=h.se 1 dg;have C:=h.se 2 dg;have D:=h.se 3 dg;refine⟨λe=>?_,λe=>?_,R0,R1,R2,R3,?_,λa g t m=>h.pl a g t m⟩;all_goals grind
 ·exact h.dn i dg dg
theorem TC Q c(v:Nat->Int)i t:ba (ba (ba (ba (ba (ba (ba (ba Q c 0 (v 0)) c 1 (v 1)) c 2 (v 2)) c 3 (v 3)) c 4 (v 4)) c 5 (v 5)) c 6 (v 6)) c 7 (v 7) i t=if i=c/\t<8 then v t else Q i t:=by
 have p:∀(Q:Nat->Nat->Int) n,ba Q c n (v n) i t=if i=c/\t=n then v t else Q i t:=λQ n=>by grind[ba]
 simp only[p];by_cases h:i=c/\t<8;·omega
 ·rw[if_neg h,if_neg dg,if_neg dg,if_neg dg,if_neg dg,if_neg dg,if_neg dg,if_neg dg,if_neg dg]
end
structure RV(kd a4 a5 a6:Int)(L:List Nd)(ks:List Nat)(Wd:Nat->Int)(H:Nat->Int->Int)(x y w h o of rm:Int)(G R0 R1 R2 R3:Nat->Int):Prop where
 g0:kd=0->ks.length=0\/bD L ks (λj=>Wd (aH ks j)) w a4 G
 g1:kd=1->ks.length=0\/bD L ks (λj=>H (aH ks j) w) h a4 G
 gb:∀j,j<ks.length->0<=G j/\G j<=100000
 r0:kd=0->∀j,R0 j=x+cd G (cl a4) j/\R1 j=y/\R2 j=G j/\R3 j=h
 r1:kd=1->∀j,R0 j=x/\R1 j=y+cd G (cl a4) j/\R2 j=w/\R3 j=G j
 r3:kd=3->∀j,pC x y w h (a6+a5)=rv (R0 j) (R1 j) (R2 j) (R3 j)
 r4:kd=4->(rm=dA (H (aH ks 0) w) h/\of=min (max 0 o) rm)/\∀j,R0 j=x/\R1 j=y-of/\R2 j=w/\R3 j=h+rm
 rr:kd≠0->kd≠1->kd≠3->kd≠4->∀j,R0 j=x/\R1 j=y/\R2 j=w/\R3 j=h
 no:kd≠4->of=0/\rm=0
section
variable{kd a4 a5 a6:Int} {L:List Nd} {ks:List Nat} {Wd:Nat->Int} {H:Nat->Int->Int} {x y w h o of rm:Int} {G R0 R1 R2 R3:Nat->Int}
theorem RV.spec(k:RV kd a4 a5 a6 L ks Wd H x y w h o of rm G R0 R1 R2 R3):ct kd a4 a5 a6 L ks Wd H x y w h of rm R0 R1 R2 R3:=
 ⟨λe=>⟨G,(k.g0 e).imp kO id,k.gb,λj _=>k.r0 e j⟩,λe=>⟨G,(k.g1 e).imp kO id,k.gb,λj _=>k.r1 e j⟩,λe j _=>k.r3 e j,λe j _=>(k.r4 e).2 j,λa b c d j _=>k.rr a b c d j⟩
end
theorem JM L ks N a b(U:World)(d:ks.length<=200):∃G,(ks.length=0\/bD L ks N a b G)/\∀j,j<ks.length->0<=G j/\G j<=100000:=by
 by_cases e:ks.length=0;·simp_all
 ·obtain⟨G,hG⟩:=tT L ks N a b U dg d;refine⟨G,.inr hG,λj c=>?_⟩;have:=(bY.tiles hG (qS _ _ _)).1 j c;exact⟨this.1,gH this.2 (gd _ _).2⟩
theorem Qz L ks Wd H(U:World)(m:ks.length<=200)kd a4 a5 a6 x y w h o:∃of rm G R0 R1 R2 R3,RV kd a4 a5 a6 L ks Wd H x y w h o of rm G R0 R1 R2 R3:=by
 by_cases n:kd=0;·obtain⟨G,a,b⟩:=JM L ks (λj=>Wd (aH ks j)) w a4 U m;exact⟨0,0,G,λj=>x+cd G (cl a4) j,λ_=>y,G,λ_=>h,λ_=>a,λe=>dg,b,λ_ j=>⟨rfl,rfl,rfl,rfl⟩,λe=>dg,λe=>dg,λe=>dg,λe=>absurd n e,λ_=>⟨rfl,rfl⟩⟩
 ·by_cases h1:kd=1;·obtain⟨G,a,b⟩:=JM L ks (λj=>H (aH ks j) w) h a4 U m;exact⟨0,0,G,λ_=>x,λj=>y+cd G (cl a4) j,λ_=>w,G,λe=>dg,λ_=>a,b,λe=>dg,λ_ j=>⟨rfl,rfl,rfl,rfl⟩,λe=>dg,λe=>dg,λ_ e=>absurd h1 e,λ_=>⟨rfl,rfl⟩⟩
  ·by_cases p:kd=3;·obtain⟨c,d,f,g,hi⟩:∃c d f g,pC x y w h (a6+a5)=rv c d f g:=⟨_,_,_,_,rfl⟩;exact⟨0,0,λ_=>0,λ_=>c,λ_=>d,λ_=>f,λ_=>g,λe=>dg,λe=>dg,λj _=>⟨dg,dg⟩,λe=>dg,λe=>dg,λ_ _=>hi,λe=>dg,λ_ _ e=>absurd p e,λ_=>⟨rfl,rfl⟩⟩
   ·by_cases l:kd=4;·exact⟨min (max 0 o) (dA (H (aH ks 0) w) h),dA (H (aH ks 0) w) h,λ_=>0,λ_=>x,λ_=>y-min (max 0 o) (dA (H (aH ks 0) w) h),λ_=>w,λ_=>h+dA (H (aH ks 0) w) h,λe=>dg,λe=>dg,λj _=>⟨dg,dg⟩,λe=>dg,λe=>dg,λe=>dg,λ_=>⟨⟨rfl,rfl⟩,λ_=>⟨rfl,rfl,rfl,rfl⟩⟩,λ_ _ _ e=>absurd l e,λe=>absurd l e⟩
    ·exact⟨0,0,λ_=>0,λ_=>x,λ_=>y,λ_=>w,λ_=>h,λe=>dg,λe=>dg,λj _=>⟨dg,dg⟩,λe=>dg,λe=>dg,λe=>dg,λe=>dg,λ_ _ _ _ _=>⟨rfl,rfl,rfl,rfl⟩,λ_=>⟨rfl,rfl⟩⟩
def IV(W:World)(B m:Nat)(G:Nat->Int)(v:Value):Prop:=0<m->∃ob,v=Sq ob m m/\B<=ob/\∀i,i<m->W.cell? (aj ob i)=some (Iq (G i))
theorem IV.below{W W'}{B m}{G}{v}(h:IV W B m G v)(d:Bt W W'):IV W' B m G v:=λa=>by obtain⟨f,e,b,c⟩:=h a;grind[an]
theorem IV.mono{W}{B d m}{G}{v}(h:IV W B m G v)(f:d<=B):IV W d m G v:=λa=>by obtain⟨g,e,b,c⟩:=h a;grind
theorem Nk{U g}{L}{ks}{N}{e}{a d}{G}(h:CV U g L ks N e)(B:ks.length<=200)(hG:ks.length=0\/bD L ks N a d G):
 ∃p c,e=Rw (.slice p ks.length c)/\Hid (Bt U g)/\Hid (Cw 149 #[Iq a,Iq d,.slice p ks.length c] g λe x=>∃v,e=Rw v/\Hid (Bt g x)/\Hid (IV x U.heap.size ks.length G v))/\Hid (Cw 151 #[Iq a,Iq d,.slice p ks.length c] g λe x=>∃v,e=Rw v/\Hid (Bt g x)/\Hid (IV x U.heap.size ks.length (cd G (cl d)) v)):=by
 obtain⟨p,c,rfl,C,t⟩:=h;refine⟨p,c,rfl,t,?_⟩;by_cases n:ks.length=0
 ·rw[n];have z:=kz p c a d g;constructor;·refine z.mono ?_;rintro e x ⟨q,rfl,f⟩;exact⟨_,rfl,f,λh=>dg⟩
  ·refine(FK _ a d g p z).mono ?_;rintro e x ⟨q,rfl,f⟩;exact⟨_,rfl,f,λh=>dg⟩
 ·obtain⟨b,rfl,l⟩:=C.resolve_left n;have m:=hG.resolve_left n;constructor;·refine(ky ks.length b 0 c _ _ _ a d g l dg B G m).mono ?_;rintro e x ⟨A,rfl,r,u,f⟩;exact⟨_,rfl,f,λ_=>⟨A,rfl,aF t.size r,λi hi=>by have:=(u.2 i hi).1;grind⟩⟩
  ·refine(FJ ks.length b 0 c _ _ _ a d g l dg B G m).mono ?_;rintro e x ⟨A,rfl,r,u,f⟩;exact⟨_,rfl,f,λ_=>⟨A,rfl,aF t.size r,λi hi=>by have:=(u.2 i hi).1;grind⟩⟩
theorem rk{f g}c:∀k,(∀j,j<k->f j=g j)->cd f c k=cd g c k
 |0,_=>rfl
 |k+1,h=>by rw[ld,ld,rk c k (λj a=>h j dg),h k dg]
theorem ct.uniq{kd a4 a5 a6}{L}{ks}{Wd}{H}{x y w h of rm}{R0 R1 R2 R3 q r t u}(s:ct kd a4 a5 a6 L ks Wd H x y w h of rm R0 R1 R2 R3)(d:ct kd a4 a5 a6 L ks Wd H x y w h of rm q r t u)j(c:j<ks.length):
 R0 j=q j/\R1 j=r j/\R2 j=t j/\R3 j=u j:=by
 have a:ks≠[]:=λe=>rd;by_cases g:kd=0;·obtain⟨G,n,_,D⟩:=s.row g;obtain⟨v,b,_,p⟩:=d.row g;have hu:=(n.resolve_left a).uniq (b.resolve_left a);grind[rk,cl]
 ·by_cases h1:kd=1;·obtain⟨G,n,_,D⟩:=s.col h1;obtain⟨v,b,_,p⟩:=d.col h1;have hu:=(n.resolve_left a).uniq (b.resolve_left a);grind[rk,cl]
  ·by_cases l:kd=3;·have e:=s.box l j c;have f:=d.box l j c;grind[JI]
   ·by_cases m:kd=4;·obtain⟨z,A,B,C⟩:=s.scr m j c;obtain⟨f0,f1,f2,f3⟩:=d.scr m j c;omega
    ·obtain⟨z,A,B,C⟩:=s.rest g h1 l m j c;obtain⟨f0,f1,f2,f3⟩:=d.rest g h1 l m j c;omega
section
variable{s:ByteArray} {L:List Nd} {Wd:Nat->Int} {H:Nat->Int->Int} {w h:Int} {dM off:Nat->Int} {sn:Nat} {P Q:Nat->Nat->Int}
theorem cV.ext89(hp:cV L Wd H w h dM off sn P L.length)(f:cV L Wd H w h dM off sn Q L.length){i}(hi:i<L.length)(g:P i 2=Q i 2)(l:P i 3=Q i 3):P i 8=Q i 8/\P i 9=Q i 9:=by
 by_cases e:(aa L i).kind=4;·obtain⟨a,b⟩:=hp.sc i hi hi e;obtain⟨c,d⟩:=f.sc i hi hi e;grind
 ·obtain⟨a,b⟩:=hp.no i hi (.inr e);obtain⟨c,d⟩:=f.no i hi (.inr e);omega
theorem cV.uniq(f:dp s L)(hp:cV L Wd H w h dM off sn P L.length)(b:cV L Wd H w h dM off sn Q L.length):∀n i,i<n->i<L.length->∀t,t<10->P i t=Q i t
 |0,i,h,_=>dg
 |n+1,i,Z,hi=>by
  have r:∀t,t<8->P i t=Q i t:=by
   by_cases e:i=0;·subst e;obtain⟨C,D,E,F,a4,a5,a6,I⟩:=hp.root;obtain⟨J,K,M,N,O,R,S,T⟩:=b.root;grind
   ·obtain⟨u,k,hu,l,Y,q⟩:=f.kid_of i dg hi;have a:=cV.uniq f hp b n u dg dg;obtain⟨R0,R1,R2,R3,p,m⟩:=hp.kr u dg dg;obtain⟨v,z,A,B,c,g⟩:=b.kr u dg dg;have d:=p.congr (a 0 dg) (a 1 dg) (a 2 dg) (a 3 dg) (a 8 dg) (a 9 dg);obtain⟨U,V,W,X⟩:=d.uniq c k l;grind[vx]
  grind[cV.ext89]
end
