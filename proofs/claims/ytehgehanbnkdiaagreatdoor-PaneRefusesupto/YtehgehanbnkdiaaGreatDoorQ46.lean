import Derived.Test.YtehgehanbnkdiaaGreatDoorQ45
import Derived.Test.YtehgehanbnkdiaaGreatDoorQ12
set_option linter.all false
set_option maxRecDepth 100000
set_option maxHeartbeats 16000000
namespace Go.Proofs.YtehgehanbnkdiaaGreatDoor
open Go.RowKit Go.Sort Go.Proofs.Tryz
structure cd(kd a4 a5 a6:Int)(L:zza)(ks:zzh)(Wd:zzb)(H:zzg)(x y w h of rm:Int)(R0 R1 R2 R3:zzb):Prop where
 row:kd=0->∃G,(ks=[]\/bY L ks (λj=>Wd (aZ ks j)) w a4 G)/\(∀j,j<ks.length->0<=G j/\G j<=100000)/\∀j,j<ks.length->R0 j=x+offs G (cl a4) j/\R1 j=y/\R2 j=G j/\R3 j=h
 col:kd=1->∃G,(ks=[]\/bY L ks (λj=>H (aZ ks j) w) h a4 G)/\(∀j,j<ks.length->0<=G j/\G j<=100000)/\∀j,j<ks.length->R0 j=x/\R1 j=y+offs G (cl a4) j/\R2 j=w/\R3 j=G j
 box:kd=3->∀j,j<ks.length->qZ x y w h (a6+a5)=rv (R0 j) (R1 j) (R2 j) (R3 j)
 scr:kd=4->∀j,j<ks.length->R0 j=x/\R1 j=y-of/\R2 j=w/\R3 j=h+rm
 rest:kd≠0->kd≠1->kd≠3->kd≠4->∀j,j<ks.length->R0 j=x/\R1 j=y/\R2 j=w/\R3 j=h
def gL(U U':AT)(r m:Nat)(H:zzg)(n:Nat)(X:(Nat->Int)->(Nat->Int)->(Nat->Int)->(Nat->Int)->Prop)(e:Ending):Prop:=∃q cq R0 R1 R2 R3,e=Rw (.slice q m cq)/\X R0 R1 R2 R3/\(m=0\/∃b,q=some (aq b 0)/\U.heap.size<=b/\m5 U' b m R0 R1 R2 R3)/\U.grownBy U' (some r)/\aU U' r H n
def gL.base{U d c}{r m}{H}{n}{X}{e}(h:gL U c r m H n X e)(f:d.grownBy U (some r)):gL d c r m H n X e:=by
 obtain⟨q,cq,R0,R1,R2,R3,g,j,a,k,l⟩:=h;refine⟨q,cq,R0,R1,R2,R3,g,j,?_,f.trans k,l⟩;rcases a with a|⟨b,e,o,p⟩;.exact .inl a
 .exact .inr ⟨b,e,aA f.size o,p⟩
def OH{W:AT}{b m:Nat}{x y a c:Int}{f:List Fd}(h:W.heap[b]?=some (.cells f.toArray 93 (0,0)))(d:xS 4 f m m [Iq x,Iq y,Iq a,Iq c]):m5 W b m (λ_=>x) (λ_=>y) (λ_=>a) (λ_=>c):=by
 refine⟨(aj.1 h).1,λj e=>⟨?_,?_,?_,?_⟩⟩;.rw[Lib.cell_of_heap h];have:=d.2 j 0 _ e rfl;simpa using this
 .rw[Lib.cell_of_heap h];have:=d.2 j 1 _ e rfl;simpa using this
 .rw[Lib.cell_of_heap h];have:=d.2 j 2 _ e rfl;simpa using this
 .rw[Lib.cell_of_heap h];have:=d.2 j 3 _ e rfl;simpa using this
def I6(m:Nat)(r:m<=1000)x y a c u:
 Cw 197 #[Sq u.heap.size 1 1,Iq (m:Int)] (u.alloc (.cells #[Iq x,Iq y,Iq a,Iq c] 93)) λe g=>∃q cq,e=Rw (.slice q m cq)/\Hid (m=0\/∃b,q=some (aq b 0)/\u.heap.size<=b/\m5 g b m (λ_=>x) (λ_=>y) (λ_=>a) (λ_=>c))/\Hid (Bq u g):=by
 have d:Bq u (u.alloc (.cells #[Iq x,Iq y,Iq a,Iq c] 93)):=(ac _ u).alloc LE _;by_cases o:m=0;.subst o;refine(xa (.inr (.inl ⟨rfl,rfl,rfl,rfl⟩)) (u.alloc (.cells #[Iq x,Iq y,Iq a,Iq c] 93)) u.heap.size).mono ?_;rintro e g ⟨q,cq,rfl,j⟩;exact⟨q,cq,rfl,.inl rfl,d.trans (j.mono d.size)⟩
 .refine(oK (.inr (.inl ⟨rfl,rfl,rfl,rfl⟩)) (u.alloc (.cells #[Iq x,Iq y,Iq a,Iq c] 93)) [Iq x,Iq y,Iq a,Iq c] rfl (by simp[Value.oneCell']) u.heap.size m dg At (λk v f=>?_)).mono ?_;.rw[World.cell?_alloc_at _ _ _ _ rfl];match k with
   |0=>exact f
   |1=>exact f
   |2=>exact f
   |3=>exact f
   |k+4=>cases f
  .rintro e g ⟨rfl,⟨p,n,l⟩,j⟩;exact⟨_,_,rfl,.inr ⟨_,rfl,d.size,OH n l⟩,d.trans (j.mono d.size)⟩
def gL.mono{U a}{r m}{H}{n b}{X}{e}(h:gL U a r m H n X e)(k:n<=b):gL U a r m H b X e:=by obtain⟨q,cq,R0,R1,R2,R3,c,d,f,g,j⟩:=h;exact⟨q,cq,R0,R1,R2,R3,c,d,f,g,j.mono k⟩
def RK(kd a0 a1 a2 a3 a4 a5 a6 a7 a8 a9 b0 b1:Int)(tx:BY)(kv:Fd)(up:Int):Array Fd:=#[Iq kd,Iq a0,Iq a1,Iq a2,Iq a3,Iq a4,Iq a5,Iq a6,Iq a7,Iq a8,Iq a9,Iq b0,Iq b1,.string tx,kv,Iq up]
def Pd{U}{r k m:Nat}{H}{X}(v:m<=200)(o:aU U r H k)u f g d a(hu:Bq U u)(c:X (λ_=>f) (λ_=>g) (λ_=>d) (λ_=>a)):
 Cw 197 #[Sq u.heap.size 1 1,Iq (m:Int)] (u.alloc (.cells #[Iq f,Iq g,Iq d,Iq a] 93)) λe n=>∃q cq,e=Rw (.slice q m cq)/\Hid (gL U n r m H (k+100*m) X (.returned (.slice q m cq))):=by
 refine(I6 m dg f g d a u).mono ?_;rintro e n ⟨q,cq,rfl,p,t⟩;have j:=hu.trans (t.mono hu.size);refine⟨q,cq,rfl,q,cq,_,_,_,_,rfl,c,?_,aa j,(o.grown_below j).mono dg⟩;rcases p.out with e|⟨b,e,l,h⟩;.exact .inl e
 .exact .inr ⟨b,e,aA hu.size l,h⟩
def re(mb r nn m:Nat)(L:zza)(ks:zzh)(Wd:zzb)(H:zzg)(d J K M O l n o R S T V Z up:Int)(tx:BY)(p:zze)(c:Nat)(x y w h c0 c1 c2 c3 of rm:Int)(U:AT)(zo:ks.length=m)(hm:m<=200)(hM:Hid (aU U r H nn))(hx:-1000000000000<=x/\x<=1000000000000)(hy:-1000000000000<=y/\y<=1000000000000)(hw:0<=w/\w<=100000)(hh:0<=h/\h<=100000)(h5:0<=n/\n<=1000000)(h6:0<=o/\o<=1000000)(zZ:0<=of/\of<=100000)(TT:0<=rm/\rm<=100000)(WR:Hid (d=0->∀u,Bq U u->aU u r H nn->Cw 193 #[Pq mb,eu d J K M O l n o R S T V Z tx (.slice p m c) up] u λe F=>∃v,e=Rw v/\fM u F r m L ks (λj=>Wd (aZ ks j)) H (nn+100*m) v))(WC:Hid (d=1->∀u,Bq U u->aU u r H nn->Cw 195 #[Pq mb,eu d J K M O l n o R S T V Z tx (.slice p m c) up,Iq w] u λe F=>∃v,e=Rw v/\fM u F r m L ks (λj=>H (aZ ks j) w) H (nn+100*m) v)):
 Cw 115 #[Pq mb,eu d J K M O l n o R S T V Z tx (.slice p m c) up,.agg #[Iq x,Iq y,Iq w,Iq h,Iq c0,Iq c1,Iq c2,Iq c3,Iq of,Iq rm]] U λe U'=>gL U U' r m H (nn+100*m) (cd d l n o L ks Wd H x y w h of rm) e:=by
 have zT:prog.follows .mixedOrders=true:=pt;obtain⟨b,C⟩:=af (((U.alloc (.cells (RK d J K M O l n o R S T V Z tx (.slice p m c) up) 140)).alloc (.cells #[Iq x,Iq y,Iq w,Iq h,Iq c0,Iq c1,Iq c2,Iq c3,Iq of,Iq rm] 95)).alloc (.cells #[Iq x,Iq y,Iq w,Iq h] 93));obtain⟨A,hA⟩:=af U.heap.size;have z:Hid (Bq U b):=by rw[<-C];exact((((Gr.refl U).alloc _).alloc _).alloc _).below
 have E:b.heap[A]?=some (.cells (RK d J K M O l n o R S T V Z tx (.slice p m c) up) 140 (0,0)):=by rw[<-C,<-hA,bG _ _ _ (by rw[ai,ai];omega),bG _ _ _ (by rw[ai];omega)];exact heap_alloc_new _ _
 have ze:b.heap[A+1]?=some (.cells #[Iq x,Iq y,Iq w,Iq h,Iq c0,Iq c1,Iq c2,Iq c3,Iq of,Iq rm] 95 (0,0)):=by rw[<-C,<-hA,bG _ _ _ (by rw[ai,ai];omega),<-World.size_alloc];exact heap_alloc_new _ _
 have B:b.heap[A+1+1]?=some (.cells #[Iq x,Iq y,Iq w,Iq h] 93 (0,0)):=by rw[<-C,<-hA,<-World.size_alloc,<-World.size_alloc];exact heap_alloc_new _ _
 unfold RK at C;have hrA:r<A:=by rw[<-hA];exact hM.lt
 have HS:Hid (∀u,b.grownBy u (some r)->(u.cell? (aq A 0)=some (Iq d)/\u.cell? (aq A 1)=some (Iq J)/\u.cell? (aq A 2)=some (Iq K)/\u.cell? (aq A 3)=some (Iq M)/\u.cell? (aq A 4)=some (Iq O)/\u.cell? (aq A 5)=some (Iq l)/\u.cell? (aq A 6)=some (Iq n)/\u.cell? (aq A 7)=some (Iq o)/\u.cell? (aq A 8)=some (Iq R)/\u.cell? (aq A 9)=some (Iq S)/\u.cell? (aq A 10)=some (Iq T)/\u.cell? (aq A 11)=some (Iq V)/\u.cell? (aq A 12)=some (Iq Z)/\u.cell? (aq A 13)=some (.string tx)/\u.cell? (aq A 14)=some (.slice p m c)/\u.cell? (aq A 15)=some (Iq up))/\u.cell? (aq (A+1+1) 0)=some (Iq x)/\u.cell? (aq (A+1+1) 1)=some (Iq y)/\u.cell? (aq (A+1+1) 2)=some (Iq w)/\u.cell? (aq (A+1+1) 3)=some (Iq h)):=λu hu=>by
  have zI:=(hu.block A (aj.1 E).1 (λe=>by injection e with e;omega)).trans E;have zJ:=(hu.block (A+1+1) (aj.1 B).1 (λe=>by injection e with e;omega)).trans B;refine⟨⟨?_,?_,?_,?_,?_,?_,?_,?_,?_,?_,?_,?_,?_,?_,?_,?_⟩,?_,?_,?_,?_⟩;all_goals first
   |(rw[Lib.cell_of_heap zI];rfl)
   |(rw[Lib.cell_of_heap zJ];rfl)
 obtain⟨⟨z0,z1,z2,z3,z4,z5,z6,z7,z8,z9,zL,zM,zN,zO,zP,zQ⟩,y0,y1,y2,y3⟩:=HS b (aa Ok);have p8:b.cell? (aq (A+1) 8)=some (Iq of):=by rw[Lib.cell_of_heap ze];rfl
 have p9:b.cell? (aq (A+1) 9)=some (Iq rm):=by rw[Lib.cell_of_heap ze];rfl
 have zg:Hid (aU b r H nn):=hM.grown_below z;have zR:A<b.heap.size:=(aj.1 E).1;have zU:¬A=b.heap.size:=dg;have RP:=qH<|λu x0 y0 w0 h0=>Pd (X:=cd d l n o L ks Wd H x y w h of rm) hm hM u x0 y0 w0 h0;by_cases zk:d=0\/d=1;.-- a row,a zX
  obtain⟨f,av,g,s,N,hf⟩:∃f av g s N,(d=0/\f=193/\av=#[Pq mb,eu d J K M O l n o R S T V Z tx (.slice p m c) up]/\g=192/\s=w/\N=λj=>Wd (aZ ks j))\/(d=1/\f=195/\av=#[Pq mb,eu d J K M O l n o R S T V Z tx (.slice p m c) up,Iq w]/\g=194/\s=h/\N=λj=>H (aZ ks j) w):=by
   rcases zk with e|e;.exact⟨_,_,_,_,_,.inl ⟨e,rfl,rfl,rfl,rfl,rfl⟩⟩
   .exact⟨_,_,_,_,_,.inr ⟨e,rfl,rfl,rfl,rfl,rfl⟩⟩
  have RW:Hid (∀u,(u=b\/u=b.drew)->Cw f av u λe F=>∃v,e=Rw v/\Hid (fM b F r m L ks N H (nn+100*m) v)):=λu hu=>by
   have D:Bq b u:=by
    rcases hu with rfl|rfl;.exact Ok
    .exact Ok.drew
   have hc:Cw f av u λe F=>∃v,e=Rw v/\fM u F r m L ks N H (nn+100*m) v:=by
    rcases hf with⟨e,rfl,rfl,_,_,rfl⟩|⟨e,rfl,rfl,_,_,rfl⟩;.exact WR e u (z.trans (D.mono z.size)) (zg.grown_below D)
    .exact WC e u (z.trans (D.mono z.size)) (zg.grown_below D)
   refine hc.mono ?_;rintro e F ⟨v,rfl,lb,rfl,q1,q2,q3,q4⟩;exact⟨_,rfl,lb,rfl,q1,aA D.size q2,(aa D).trans q3,q4⟩
  have IN:Hid (∀v u,fM b u r m L ks N H (nn+100*m) v->Cw g #[.agg #[Iq x,Iq y,Iq w,Iq h],Iq l,v] u λe F=>∃q cq,e=Rw (.slice q m cq)/\Hid (gL b F r m H (nn+100*m) (cd d l n o L ks Wd H x y w h of rm) (.returned (.slice q m cq)))):=λv u hv=>by
   obtain⟨G,hG⟩:=MZ L ks N s l;obtain⟨X,Y,P,Q,zv⟩:∃X Y P Q:Nat->Int,(g=192/\s=w/\(∀k,X k=x+offs G (cl l) k/\Y k=y/\P k=G k/\Q k=h)\/g=194/\s=h/\∀k,X k=x/\Y k=y+offs G (cl l) k/\P k=w/\Q k=G k)/\((ks=[]\/bY L ks N s l G)->(∀j,j<m->0<=G j/\G j<=100000)->cd d l n o L ks Wd H x y w h of rm X Y P Q):=by
    rcases hf with⟨rfl,_,_,e1,rfl,rfl⟩|⟨rfl,_,_,e1,rfl,rfl⟩;.exact⟨λk=>_,λk=>_,λk=>_,λk=>_,.inl ⟨e1,rfl,λk=>⟨rfl,rfl,rfl,rfl⟩⟩,λg1 g2=>⟨λ_=>⟨G,g1,by rw[zo];exact g2,λj _=>⟨rfl,rfl,rfl,rfl⟩⟩,nofun,nofun,nofun,λe=>absurd rfl e⟩⟩
    .exact⟨λk=>_,λk=>_,λk=>_,λk=>_,.inr ⟨e1,rfl,λk=>⟨rfl,rfl,rfl,rfl⟩⟩,λg1 g2=>⟨nofun,λ_=>⟨G,g1,by rw[zo];exact g2,λj _=>⟨rfl,rfl,rfl,rfl⟩⟩,nofun,nofun,λ_ e=>absurd rfl e⟩⟩
   refine(ON g r m x y w h s l X Y P Q G L ks N H (nn+100*m) v b u hG zv.1 zo hm (by have:=z.size;omega) hx hy hw hh hv).mono ?_;rintro e F ⟨lb,rfl,⟨o1,o2,o3⟩,g1,g2⟩;obtain⟨lv,_,_,v2,v3,v4⟩:=hv;exact⟨_,_,rfl,_,_,_,_,_,_,rfl,zv.2 g1 g2,.inr ⟨lb,rfl,aA v3.size o2,o1⟩,v3.trans (aa o3),v4.grown_below o3⟩
  clear E ze B hM WR WC p8 p9 zk RP;rcases hf with⟨hk,rfl,rfl,rfl,_,_⟩|⟨hk,rfl,rfl,rfl,_,_⟩;all_goals
   first
    |have e0:(d==0)=true:=by simp[hk]
    |(have e0:(d==0)=false:=(by simp[hk]);have e1:(d==1)=true:=(by simp[hk]))
   clear hk;unfold eu at RW|-;go_enter func115,ntmps115;go_wp2_with fail;clear C hA;go_region_held(λW=>(W.cell? (aq A 0)=some (Iq d)/\W.cell? (aq A 1)=some (Iq J)/\W.cell? (aq A 2)=some (Iq K)/\W.cell? (aq A 3)=some (Iq M)/\W.cell? (aq A 4)=some (Iq O)/\W.cell? (aq A 5)=some (Iq l)/\W.cell? (aq A 6)=some (Iq n)/\W.cell? (aq A 7)=some (Iq o)/\W.cell? (aq A 8)=some (Iq R)/\W.cell? (aq A 9)=some (Iq S)/\W.cell? (aq A 10)=some (Iq T)/\W.cell? (aq A 11)=some (Iq V)/\W.cell? (aq A 12)=some (Iq Z)/\W.cell? (aq A 13)=some (.string tx)/\W.cell? (aq A 14)=some (.slice p m c)/\W.cell? (aq A 15)=some (Iq up))/\W.cell? (aq (A+1+1) 0)=some (Iq x)/\W.cell? (aq (A+1+1) 1)=some (Iq y)/\W.cell? (aq (A+1+1) 2)=some (Iq w)/\W.cell? (aq (A+1+1) 3)=some (Iq h)) (go_keep) (first|((first|go_at_call 193|go_at_call 195);refine ag (RW _ (by first|exact .inl rfl|exact .inr rfl)) ?_;rintro e u1 ⟨v1,rfl,HO⟩;obtain⟨⟨s0,s1,s2,s3,s4,s5,s6,s7,s8,s9,zy,zA,zB,zC,zD,zE⟩,e0,e1,e2,e3⟩:=HS u1 HO.g)|((first|go_at_call 192|go_at_call 194);refine ag (IN _ _ HO) ?_;rintro e u2 ⟨q,cq,rfl,HZ⟩;obtain⟨⟨t0,t1,t2,t3,t4,t5,t6,t7,t8,t9,t10,t11,t12,t13,t14,t15⟩,f0,f1,f2,f3⟩:=HS u2 (by obtain⟨_,_,_,_,_,_,_,_,_,hq,_⟩:=HZ.out;exact hq)));all_goals go_wp2;go_ret;exact HZ.base (aa z)
 by_cases k3:d=3;.-- a zV
  subst k3;obtain⟨i0,i1,i2,i3,zi⟩:∃i0 i1 i2 i3,qZ x y w h (o+n)=rv i0 i1 i2 i3:=⟨_,_,_,_,rfl⟩;have zh:Hid (cd 3 l n o L ks Wd H x y w h of rm (λ_=>i0) (λ_=>i1) (λ_=>i2) (λ_=>i3)):=⟨nofun,nofun,λ_ j _=>zi,nofun,λ_ _ e=>absurd rfl e⟩;have FA:Hid (∀u,(u=b\/u=b.drew)->Cw 189 #[eu 3 J K M O l n o R S T V Z tx (.slice p m c) up] u λe F=>e=Rw (Iq (o+n))/\Hid (Bq b F)):=λu hu=>by
   have D:Bq b u:=by
    rcases hu with rfl|rfl;.exact Ok
    .exact Ok.drew
   refine Ut (jH 3 J K M O l n o R S T V Z up tx p m c h5 h6 u) ?_;rintro F q;exact⟨by unfold iT;rw[if_pos rfl],D.trans (q.mono D.size)⟩
  have IS:Hid (∀u,Bq b u->Cw 196 #[.agg #[Iq x,Iq y,Iq w,Iq h],Iq (o+n)] u λe F=>e=Rw (.agg #[Iq i0,Iq i1,Iq i2,Iq i3])/\Hid (Bq b F)):=λu hu=>by have:=D4 x y w h (o+n) u;rw[zi]at this;refine Ut this ?_;rintro F q;exact⟨rfl,hu.trans (q.below.mono hu.size)⟩
  have zm:A+1+1<b.heap.size:=(aj.1 B).1;have zt:Hid (∀u,Bq b u->∀j,u.frozen? (aq (A+1+1) j)=false):=λu hu j=>frozen_of_row _ _ _ _ _ ((hu.block _ zm).trans B);have zu:Hid (∀u,Bq b u->((((u.setCell (aq (A+1+1) 0) (Iq i0)).setCell (aq (A+1+1) 1) (Iq i1)).setCell (aq (A+1+1) 2) (Iq i2)).setCell (aq (A+1+1) 3) (Iq i3)).heap[A+1+1]?=some (.cells #[Iq i0,Iq i1,Iq i2,Iq i3] 93 (0,0))/\((((u.setCell (aq (A+1+1) 0) (Iq i0)).setCell (aq (A+1+1) 1) (Iq i1)).setCell (aq (A+1+1) 2) (Iq i2)).setCell (aq (A+1+1) 3) (Iq i3)).heap[A]?=some (.cells (RK 3 J K M O l n o R S T V Z tx (.slice p m c) up) 140 (0,0))/\Bq U ((((u.setCell (aq (A+1+1) 0) (Iq i0)).setCell (aq (A+1+1) 1) (Iq i1)).setCell (aq (A+1+1) 2) (Iq i2)).setCell (aq (A+1+1) 3) (Iq i3))):=λu hu=>by
   have zK:R4 93 u (A+1+1) x y w h:=(hu.block _ zm).trans B;have hl:∀t,U.heap.size<=((aq (A+1+1) t):Addr).block:=λt=>by rw[hA];show A<=A+1+1;omega
   refine⟨zK.set i0 i1 i2 i3,?_,((((z.trans (hu.mono z.size)).setCell (hl 0) _).setCell (hl 1) _).setCell (hl 2) _).setCell (hl 3) _⟩;have zj:A≠A+1+1:=dg;rw[aM _ (aq (A+1+1) 3) _ _ zj,aM _ (aq (A+1+1) 2) _ _ zj,aM _ (aq (A+1+1) 1) _ _ zj,aM _ (aq (A+1+1) 0) _ _ zj];exact(hu.block A (aj.1 E).1).trans E
  unfold eu at FA|-;clear E ze B hM zi WR WC zk zg;go_enter func115,ntmps115;go_wp2_with fail;clear C hA;go_region_with(first|(go_at_call 189;refine ag (FA _ (by first|exact .inl rfl|exact .inr rfl)) ?_;rintro e u1 ⟨rfl,zr⟩;obtain⟨⟨s0,s1,s2,s3,s4,s5,s6,s7,s8,s9,zy,zA,zB,zC,zD,zE⟩,e0,e1,e2,e3⟩:=HS u1 (aa zr))|(go_at_call 196;refine ag (IS _ zr) ?_;rintro e u2 ⟨rfl,zn⟩;obtain⟨⟨t0,t1,t2,t3,t4,t5,t6,t7,t8,t9,t10,t11,t12,t13,t14,t15⟩,f0,f1,f2,f3⟩:=HS u2 (aa zn);have zw:=zt u2 zn));all_goals
   obtain⟨wc,zq⟩:=af ((((u2.setCell (aq (A+1+1) 0) (Iq i0)).setCell (aq (A+1+1) 1) (Iq i1)).setCell (aq (A+1+1) 2) (Iq i2)).setCell (aq (A+1+1) 3) (Iq i3));have I:Hid (wc.heap[A+1+1]?=some (.cells #[Iq i0,Iq i1,Iq i2,Iq i3] 93 (0,0))/\wc.heap[A]?=some (.cells (RK 3 J K M O l n o R S T V Z tx (.slice p m c) up) 140 (0,0))/\Bq U wc):=by rw[<-zq];exact zu u2 zn
   have g0:wc.cell? (aq (A+1+1) 0)=some (Iq i0):=by rw[Lib.cell_of_heap I.1];rfl
   have g1:wc.cell? (aq (A+1+1) 1)=some (Iq i1):=by rw[Lib.cell_of_heap I.1];rfl
   have g2:wc.cell? (aq (A+1+1) 2)=some (Iq i2):=by rw[Lib.cell_of_heap I.1];rfl
   have g3:wc.cell? (aq (A+1+1) 3)=some (Iq i3):=by rw[Lib.cell_of_heap I.1];rfl
   have zY:wc.cell? (aq A 14)=some (.slice p m c):=by rw[Lib.cell_of_heap I.2.1];rfl
   have zS:A<wc.heap.size:=(aj.1 I.2.1).1;have zj:¬A=wc.heap.size:=dg;rw[zq];clear zq z0 z1 z2 z3 z4 z5 z6 z7 z8 z9 zL zM zN zO zP zQ y0 y1 y2 y3 HS FA IS zt zu s0 s1 s2 s3 s4 s5 s6 s7 s8 s9 zy zA zB zC zD zE e0 e1 e2 e3 t0 t1 t2 t3 t4 t5 t6 t7 t8 t9 t10 t11 t12 t13 t14 t15 f0 f1 f2 f3 zw;go_wp2_with(go_at_call 197;refine ag (RP _ _ _ _ _ I.2.2 zh) ?_;rintro e u3 ⟨q,cq,rfl,HZ⟩);go_ret;exact HZ
 by_cases k4:d=4;.-- a zF
  subst k4;have zh:Hid (cd 4 l n o L ks Wd H x y w h of rm (λ_=>x) (λ_=>y-of) (λ_=>w) (λ_=>h+rm)):=⟨nofun,nofun,nofun,λ_ j _=>⟨rfl,rfl,rfl,rfl⟩,λ_ _ _ e=>absurd rfl e⟩;have n1:¬A+1+1=A:=dg;have n2:¬A+1+1=A+1:=dg;have n3:¬A=A+1+1:=dg;have n4:¬A+1=A+1+1:=dg;have zw:∀j,b.frozen? (aq (A+1+1) j)=false:=λj=>frozen_of_row _ _ _ _ _ B;have zG:Hid (Bq U ((b.setCell (aq (A+1+1) 1) (Iq (y-of))).setCell (aq (A+1+1) 3) (Iq (h+rm)))):=(z.setCell (p:=(aq (A+1+1) 1)) (by rw[hA];show A<=A+1+1;omega) _).setCell (p:=(aq (A+1+1) 3)) (by rw[hA];show A<=A+1+1;omega) _;obtain⟨W4,zl⟩:=af ((b.setCell (aq (A+1+1) 1) (Iq (y-of))).setCell (aq (A+1+1) 3) (Iq (h+rm)));have zx:W4.heap.size=b.heap.size:=by rw[<-zl];simp
  have zH:Hid (Cw 197 #[Sq b.heap.size 1 1,Iq (m:Int)] (((b.setCell (aq (A+1+1) 1) (Iq (y-of))).setCell (aq (A+1+1) 3) (Iq (h+rm))).alloc (.cells #[Iq x,Iq (y-of),Iq w,Iq (h+rm)] 93)) λe F=>∃q cq,e=Rw (.slice q m cq)/\Hid (gL U F r m H (nn+100*m) (cd 4 l n o L ks Wd H x y w h of rm) (.returned (.slice q m cq)))):=by have:=RP W4 _ _ _ _ (by rw[<-zl];exact zG) zh;rw[zx]at this;rw[zl];exact this
  unfold eu;clear E ze B hM HS zl zx WR WC zk zg k3;go_enter func115,ntmps115;go_upto_region 3 with fail;clear C hA;go_wp2_with(go_at_call 197;refine ag zH ?_;rintro e u2 ⟨q,cq,rfl,HZ⟩);go_ret;exact HZ
 have e0:(d==0)=false:=by simp;omega
 have e1:(d==1)=false:=by simp;omega
 have e3:(d==3)=false:=by simp;omega
 have e4:(d==4)=false:=by simp;omega
 have zh:Hid (cd d l n o L ks Wd H x y w h of rm (λ_=>x) (λ_=>y) (λ_=>w) (λ_=>h)):=⟨dg,dg,dg,dg,λ_ _ _ _ j _=>⟨rfl,rfl,rfl,rfl⟩⟩;unfold eu;clear E ze B hM HS WR WC zg;go_enter func115,ntmps115;go_upto_region 3 with fail;clear C hA;go_wp2_with(go_at_call 197;refine ag (RP _ _ _ _ _ z zh) ?_;rintro e u2 ⟨q,cq,rfl,HZ⟩);go_ret;exact HZ
def uJ(ax ay aw ah bx lk bw bh:Int):Int:=if dV ax aw bx bw>=fO ax aw bx bw\/dV ay ah lk bh>=fO ay ah lk bh then 0 else dV ax aw bx bw
def uK(ax ay aw ah bx lk bw bh:Int):Int:=if dV ax aw bx bw>=fO ax aw bx bw\/dV ay ah lk bh>=fO ay ah lk bh then 0 else dV ay ah lk bh
def tm(ax ay aw ah bx lk bw bh:Int):Int:=if dV ax aw bx bw>=fO ax aw bx bw\/dV ay ah lk bh>=fO ay ah lk bh then 0 else fO ax aw bx bw-dV ax aw bx bw
def qR(ax ay aw ah bx lk bw bh:Int):Int:=if dV ax aw bx bw>=fO ax aw bx bw\/dV ay ah lk bh>=fO ay ah lk bh then 0 else fO ay ah lk bh-dV ay ah lk bh
def Do d e c b j a g f:mz d e c b j a g f=rv (uJ d e c b j a g f) (uK d e c b j a g f) (tm d e c b j a g f) (qR d e c b j a g f):=by grind[mz,uJ,uK,tm,qR]
def su(P:zzj)(c:Nat)(v:zzb):Nat->Nat->Int:=λq t=>if q=c then v t else P q t
def Ka(P:zzj)(i:Nat)(x y a b:Int)(t:Nat):Int:=
 if t=0 then x else if t=1 then y else if t=2 then a else if t=3 then b else if t=4 then uJ x y a b (P i 4) (P i 5) (P i 6) (P i 7)else if t=5 then uK x y a b (P i 4) (P i 5) (P i 6) (P i 7)else if t=6 then tm x y a b (P i 4) (P i 5) (P i 6) (P i 7)else if t=7 then qR x y a b (P i 4) (P i 5) (P i 6) (P i 7)else 0
def BT(P:zzj)(i:Nat)(ks:zzh)(R0 R1 R2 R3:zzb):Nat->Nat->Nat->Int
 |0=>P
 |j+1=>su (BT P i ks R0 R1 R2 R3 j) (aZ ks j) (Ka P i (R0 j) (R1 j) (R2 j) (R3 j))
section
variable{P:zzj} {i:Nat} {ks:zzh} {R0 R1 R2 R3:zzb}
theorem mS:∀j,(∀t,t<j->t<ks.length)->∀q,q∉ks->BT P i ks R0 R1 R2 R3 j q=P q
 |0,_,q,_=>rfl
 |j+1,b,q,a=>by have:=mS j (λt c=>b t dg) q a;funext t;show(if q=aZ ks j then _ else BT P i ks R0 R1 R2 R3 j q t)=_;rw[if_neg (λe=>a (by grind[jO])),this]
def LU(f:ks.Nodup){a b}(c:a<ks.length)(d:b<ks.length)(e:aZ ks a=aZ ks b):a=b:=by
 unfold aZ at e;rw[da c,da d]at e;rcases Nat.lt_trichotomy a b with h|h|h;.exact absurd e (JI.1 f a b c d h)
 .exact h
 .exact absurd e.symm (JI.1 f b a d c h)
theorem BU(b:ks.Nodup):∀j,j<=ks.length->∀a,a<j->BT P i ks R0 R1 R2 R3 j (aZ ks a)=Ka P i (R0 a) (R1 a) (R2 a) (R3 a)
 |0,_,a,h=>dg
 |j+1,d,a,c=>by
  funext t;show(if aZ ks a=aZ ks j then Ka P i (R0 j) (R1 j) (R2 j) (R3 j) t else BT P i ks R0 R1 R2 R3 j (aZ ks a) t)=_;by_cases e:a=j;.grind
  .rw[if_neg (λq=>e (LU b dg dg q)),BU b j dg a dg]
end
def Ch.ok{L}{d}{ks}{a e}(h:Ch L d ks a e):∀j,a<=j->j<e->oP (L j):=by
 induction h with
 |nil d a=>omega
 |@cons d c r b e f g k l m n=>grind
def ep.kidok{s}{L}(h:ep s L)j(a:j<L.length):oP (ae L j):=h.ch.ok j LT a
structure cI(L:zza)(Wd:zzb)(H:zzg)(w h:Int)(eW off:zzb)(sn:Nat)(P:zzj)(k:Nat):Prop where
 root:P 0 0=0/\P 0 1=0/\P 0 2=w/\P 0 3=h/\P 0 4=0/\P 0 5=0/\P 0 6=w/\P 0 7=h
 sc:∀i,i<L.length->i<k->(ae L i).kind=4->P i 9=eR (H (aZ (ae L i).kids 0) (P i 2)) (P i 3)/\P i 8=min (max 0 (gH (au (ae L i) 0) eW off sn)) (P i 9)
 no:∀i,i<L.length->(k<=i\/(ae L i).kind≠4)->P i 8=0/\P i 9=0
 kr:∀i,i<L.length->i<k->∃R0 R1 R2 R3,cd (ae L i).kind (au (ae L i) 4) (au (ae L i) 5) (au (ae L i) 6) L (ae L i).kids Wd H (P i 0) (P i 1) (P i 2) (P i 3) (P i 8) (P i 9) R0 R1 R2 R3/\∀j,j<(ae L i).kids.length->∀t,t<8->P (aZ (ae L i).kids j) t=Ka P i (R0 j) (R1 j) (R2 j) (R3 j) t
 bd:∀i,i<L.length->-(((i:Int)+1)*100000000)<=P i 0/\P i 0<=((i:Int)+1)*100000000/\-(((i:Int)+1)*100000000)<=P i 1/\P i 1<=((i:Int)+1)*100000000/\0<=P i 2/\P i 2<=100000/\0<=P i 3/\P i 3<=100000
def D3{x y a b n c d e f}(h:qZ x y a b n=rv c d e f):-200000<=c/\c<=200000/\-200000<=d/\d<=200000/\0<=e/\e<=100000/\0<=f/\f<=100000:=by unfold qZ at h;obtain⟨rfl,rfl,rfl,rfl⟩:=tZ h;have g:=bQ x;have j:=bQ y;have k:=bB a;have l:=bB b;have m:=bB n;omega
def cd.bd{b c q r}{L}{ks}{Wd}{H}{x y w h of rm}{R0 R1 R2 R3}(s:cd b c q r L ks Wd H x y w h of rm R0 R1 R2 R3)(C:ks.length<=100)(D:0<=w/\w<=100000)(hh:0<=h/\h<=100000)(v:0<=of/\of<=100000)(z:0<=rm/\h+rm<=100000)B(A:100000000<=B)(E:-B<=x/\x<=B)(hy:-B<=y/\y<=B)j(a:j<ks.length):
 -(B+100000000)<=R0 j/\R0 j<=B+100000000/\-(B+100000000)<=R1 j/\R1 j<=B+100000000/\0<=R2 j/\R2 j<=100000/\0<=R3 j/\R3 j<=100000:=by
 by_cases m:b=0;.obtain⟨G,t,k,l⟩:=s.row m;obtain⟨d,e,f,g⟩:=l j a;have u:=oI k (eO c) j dg;grind
 .by_cases n:b=1;.obtain⟨G,t,k,l⟩:=s.col n;obtain⟨d,e,f,g⟩:=l j a;have u:=oI k (eO c) j dg;grind
  .by_cases o:b=3;.have:=D3 (s.box o j a);omega
   .by_cases p:b=4;.obtain⟨d,e,f,g⟩:=s.scr p j a;omega
    .obtain⟨d,e,f,g⟩:=s.rest m n o p j a;omega
def cd.congr{g c d e}{L}{ks}{Wd}{H}{x y w h of rm j k w' f a b}{R0 R1 R2 R3}(s:cd g c d e L ks Wd H x y w h of rm R0 R1 R2 R3)(l:x=j)(e1:y=k)(m:w=w')(n:h=f)(o:of=a)(p:rm=b):cd g c d e L ks Wd H j k w' f a b R0 R1 R2 R3:=rn
def cI.step{s}{L}{Wd}{H}{w h}{eW off}{sn k}{P b}{R0 R1 R2 R3}(v:ep s L)(hS:Sz L Wd H)(u:cI L Wd H w h eW off sn P k)(x:k<L.length)(d:∀q t,¬(q=k/\(t=8\/t=9))->b q t=P q t)(K:(ae L k).kind=4->b k 9=eR (H (aZ (ae L k).kids 0) (P k 2)) (P k 3)/\b k 8=min (max 0 (gH (au (ae L k) 0) eW off sn)) (b k 9))(hn:(ae L k).kind≠4->b k 8=0/\b k 9=0)(M:cd (ae L k).kind (au (ae L k) 4) (au (ae L k) 5) (au (ae L k) 6) L (ae L k).kids Wd H (b k 0) (b k 1) (b k 2) (b k 3) (b k 8) (b k 9) R0 R1 R2 R3):
 cI L Wd H w h eW off sn (BT b k (ae L k).kids R0 R1 R2 R3 (ae L k).kids.length) (k+1):=by
 obtain⟨ks,f⟩:=af ((ae L k).kids);rw[f]at M K|-;have zh:ks.Nodup:=by rw[<-f];exact v.nest.nd k x
 have y:∀c,c∈ks->k<c/\c<L.length/\(ae L c).up=(k:Int):=λc o=>v.nest.kid k c x rn;have z:ks.length<=100:=by rw[<-f];exact v.kids_le x
 obtain⟨Q,F⟩:=af (BT b k ks R0 R1 R2 R3 ks.length);have B:∀q,q∉ks->Q q=b q:=λq hq=>by rw[<-F];grind[mS]
 have J:∀a,a<ks.length->Q (aZ ks a)=Ka b k (R0 a) (R1 a) (R2 a) (R3 a):=λa n=>by rw[<-F];grind[BU]
 rw[F];have I:k∉ks:=λo=>rn;have Y:=B k I;have E:0∉ks:=λo=>rn;have nk:∀i,i<k->i∉ks:=λi hi o=>rn;have A:∀c,c∈ks->∃a,a<ks.length/\aZ ks a=c:=λc o=>by obtain⟨a,n,e⟩:=mh.1 o;grind[aZ]
 have ze:=u.bd k x;have T:=d k 0 dg;have U:=d k 1 dg;have V:=d k 2 dg;have W:=d k 3 dg;have g:0<=b k 8/\b k 8<=100000/\0<=b k 9/\b k 3+b k 9<=100000:=by
  by_cases D:(ae L k).kind=4
  .obtain⟨r1,r2⟩:=K D;have m:aZ ks 0<L.length:=by
    rcases v.kidok k x with q|⟨_,_,q⟩|⟨q,_⟩;.omega
    .grind[jO]
    .omega
   have hh:=hS.hb (aZ ks 0) (P k 2) m;grind[eR]
  .omega
 refine⟨?_,λi hi l D=>?_,λi hi l=>?_,λi hi l=>?_,λi hi=>?_⟩;.rw[B 0 E];have r:=u.root;grind
 .by_cases e:i=k;.grind
  .rw[B i (nk i dg),d i 9 dg,d i 8 dg,d i 2 dg,d i 3 dg];exact u.sc i hi dg D
 .by_cases p:i∈ks;.obtain⟨a,n,rfl⟩:=A i p;rw[J a n];exact⟨rfl,rfl⟩
  .rw[B i p];by_cases e:i=k;.grind
   .rw[d i 8 dg,d i 9 dg];exact u.no i hi dg
 .by_cases e:i=k;.subst e;refine⟨R0,R1,R2,R3,rn,λj C t ht=>?_⟩;rw[f]at C|-;rw[J j C];grind[Ka]
  .have G:i<k:=dg;obtain⟨N,O,R,S,s1,s2⟩:=u.kr i hi G;have X:∀t,Q i t=P i t:=λt=>rn;refine⟨N,O,R,S,rn,λj C t ht=>?_⟩;have o:=v.nest.kid i _ hi (jO C);have zg:aZ (ae L i).kids j∉ks:=λq=>rn;grind[Ka]
 .by_cases p:i∈ks;.have l:=y i p;obtain⟨a,n,rfl⟩:=A i p;rw[J a n];have Z:=M.bd z dg dg ⟨g.1,g.2.1⟩ ⟨g.2.2.1,g.2.2.2⟩ (((k:Int)+1)*100000000) dg dg dg a n;show-(((aZ ks a:Nat):Int)+1)*100000000<=R0 a/\_;show _<=R0 a/\R0 a<=_/\_<=R1 a/\R1 a<=_/\0<=R2 a/\R2 a<=100000/\0<=R3 a/\R3 a<=100000;omega
  .rw[B i p];have Z:=u.bd i hi;grind
def uI a:∀m,cS (λ_=>a) m=a*m
 |0=>rfl
 |m+1=>by show cS (λ_=>a) m+a=_;rw[uI a m,Nat.mul_succ]
def tM{s}{L}{KV}{Wd}{H}k r g a q l(d:ep s L)(hS:Sz L Wd H)i(hi:i<L.length)p c(A:KV i=.slice p (ae L i).kids.length c)x y w h M c1 c2 c3 of rm U(m:Hs U k r g a q L KV Wd H l)(hn:l<=10000000)(T:-1000000000000<=x/\x<=1000000000000)(hy:-1000000000000<=y/\y<=1000000000000)(G:0<=w/\w<=100000)(hh:0<=h/\h<=100000)(D:0<=of/\of<=100000)(E:0<=rm/\rm<=100000):
 Cw 115 #[Pq k,eu (ae L i).kind (au (ae L i) 0) (au (ae L i) 1) (au (ae L i) 2) (au (ae L i) 3) (au (ae L i) 4) (au (ae L i) 5) (au (ae L i) 6) (au (ae L i) 7) (au (ae L i) 8) (au (ae L i) 9) (au (ae L i) 10) (au (ae L i) 11) ⟨(ae L i).text.toArray⟩ (.slice p (ae L i).kids.length c) (ae L i).up,.agg #[Iq x,Iq y,Iq w,Iq h,Iq M,Iq c1,Iq c2,Iq c3,Iq of,Iq rm]] U λe K=>gL U K r (ae L i).kids.length H (l+10000) (cd (ae L i).kind (au (ae L i) 4) (au (ae L i) 5) (au (ae L i) 6) L (ae L i).kids Wd H x y w h of rm) e:=by
 have R:=(d.vl.nv i hi).bd;have hc:=d.vl.cnt;have S:=d.kids_le hi;have o:eL U r p (ae L i).kids.length (λt=>(aZ (ae L i).kids t:Int)):=by obtain⟨p',c',e,z⟩:=m.view.kid i hi;rw[A]at e;injection e with O e2 e3;rw[O];exact z
 have n:=uI 100;refine(re k r l _ L _ Wd H _ _ _ _ _ _ _ _ _ _ _ _ _ _ _ p c x y w h M c1 c2 c3 of rm U rfl dg m.memo T hy G hh dg dg D E (λ_ u hu f=>?_) (λ_ u hu f=>?_)).mono λe K h=>h.mono dg;.refine(lY k r g a q l L (ae L i).kids KV Wd H _ _ _ _ _ _ _ _ _ _ _ _ _ _ _ p c u (m.view.grown (aa hu)) f dg (λj b=>(eE d hi b).2) dg (o.grown (aa hu)) (λj b=>hS.wb j b)).mono ?_;rintro e N ⟨v,X,V,I,J,Y,Z,q5⟩;exact⟨v,X,V,I,J,Y,Z,q5.mono dg⟩
 .rw[<-n];exact tq k r g a q l w L (ae L i).kids (λ_=>100) KV Wd H _ _ _ _ _ _ _ _ _ _ _ _ _ _ _ p c u (m.view.grown (aa hu)) f dg (λj b=>(eE d hi b).2) dg (o.grown (aa hu)) (λj v b=>hS.hb j v b) (λj N W b F B C=>by have z:=eE d hi b;rw[n]at C|-;refine Ut (pC k r g a q d hS _ w W N z.2 G.1 G.2 (m.grown ((aa hu).trans F) B) dg) ?_;rintro u2 ⟨I,J⟩;exact⟨rfl,I,J.mono dg⟩)
def IY{f W}{r d N n}{P}{H}(h:Pw f W r d N P H n)(c:f.heap.size<=d)(b:d≠r)a v j v1 v2 k l o p t u x(y:j=v 0)(z:v1=v 1)(A:v2=v 2)(B:k=v 3)(C:l=v 4)(D:o=v 5)(E:p=v 6)(F:t=v 7)(G:u=v 8)(I:x=v 9):Pw f ((((((((((W.setCell (aq d (a*10)) (Iq j)).setCell (aq d (a*10+1)) (Iq v1)).setCell (aq d (a*10+2)) (Iq v2)).setCell (aq d (a*10+3)) (Iq k)).setCell (aq d (a*10+4)) (Iq l)).setCell (aq d (a*10+5)) (Iq o)).setCell (aq d (a*10+6)) (Iq p)).setCell (aq d (a*10+7)) (Iq t)).setCell (aq d (a*10+8)) (Iq u)).setCell (aq d (a*10+9)) (Iq x)) r d N (su P a v) H n:=by
 have hh:=(((((((((h.set c b a 0 dg j).set c b a 1 dg v1).set c b a 2 dg v2).set c b a 3 dg k).set c b a 4 dg l).set c b a 5 dg o).set c b a 6 dg p).set c b a 7 dg t).set c b a 8 dg u).set c b a 9 dg x;refine⟨hh.g,hh.m,hh.row.congr λq J=>?_⟩;unfold ss su eQ;refine congrArg (Value.int .i64) ?_;by_cases e:q/10=a;.rw[if_pos e];have:q %10=0\/q %10=1\/q %10=2\/q %10=3\/q %10=4\/q %10=5\/q %10=6\/q %10=7\/q %10=8\/q %10=9:=dg;grind
 grind
def vV(w:AT)N T:(w.alloc (.cells (madeCells #[Iq 0,Iq 0,Iq 0,Iq 0,Iq 0,Iq 0,Iq 0,Iq 0,Iq 0,Iq 0] (N*10)) T)).rowIs w.heap.size T (N*10) (ss λ_ _=>0):=by have:=World.rowIs_alloc w (madeCells #[Iq 0,Iq 0,Iq 0,Iq 0,Iq 0,Iq 0,Iq 0,Iq 0,Iq 0,Iq 0] (N*10)) T (ss λ_ _=>0) (λi hi=>by rw[size_madeCells]at hi;unfold ss;simp only[madeCells];have:i %10=0\/i %10=1\/i %10=2\/i %10=3\/i %10=4\/i %10=5\/i %10=6\/i %10=7\/i %10=8\/i %10=9:=dg;rcases this with e|e|e|e|e|e|e|e|e|e<;>simp[e,hi]);rw[size_madeCells]at this;omega
def OQ:(prog.info? 95).map (λi=>(i.zero,i.size,i.bytes))=some (some (.agg #[Iq 0,Iq 0,Iq 0,Iq 0,Iq 0,Iq 0,Iq 0,Iq 0,Iq 0,Iq 0]),10,80):=pt
def Ql(U U':AT)(r N:Nat)(L:zza)(Wd:zzb)(H:zzg)(w h:Int)(eW off:zzb)(sn:Nat)(e:Ending):Prop:=∃pb P,e=Rw (Sq pb N N)/\U'.rowIs pb 95 (N*10) (ss P)/\cI L Wd H w h eW off sn P N/\U.grownBy U' (some r)/\U.heap.size<=pb
def SA(w h:Int)(t:Nat):Int:=if t=2\/t=6 then w else if t=3\/t=7 then h else 0
def tw(u:AT)(pb o:Nat)(x0 x1 x2 x3 x4 x5 x6 x7 x8 x9:Int):AT:=((((((((((u.setCell (aq pb o) (Iq x0)).setCell (aq pb (o+1)) (Iq x1)).setCell (aq pb (o+2)) (Iq x2)).setCell (aq pb (o+3)) (Iq x3)).setCell (aq pb (o+4)) (Iq x4)).setCell (aq pb (o+5)) (Iq x5)).setCell (aq pb (o+6)) (Iq x6)).setCell (aq pb (o+7)) (Iq x7)).setCell (aq pb (o+8)) (Iq x8)).setCell (aq pb (o+9)) (Iq x9))
def Cd{u}{c o}{d e f g j k l m n p}b a(h:b≠c\/a<o\/o+9<a):(tw u c o d e f g j k l m n p).cell? (aq b a)=u.cell? (aq b a):=by
 unfold tw;iterate 10 rw[cu]
 all_goals grind
def Nc{u}{b o}{c d e f g j k l m n}a(h:a≠b):(tw u b o c d e f g j k l m n).heap[a]?=u.heap[a]?:=by unfold tw;iterate 10 rw[aM _ (aq b _) _ _ h]
def z_{s:BY}{L:zza}{KV:Nat->Fd}{Wd:zzb}{H:zzg}(mb r g zt wb:Nat)(hT:ep s L)(hS:Sz L Wd H)(w h:Int)(sp:zze)(sn sc:Nat)(eW off:zzb)(U:AT)(hU:Hs U mb r g zt wb L KV Wd H 0)(hw:1<=w/\w<=400)(hh:1<=h/\h<=400)(Sv:og U sp sn eW off)(TW:sn<=4611686018427387904)(Sw:∀a:Addr,sp=some a->a.block<U.heap.size):
 Cw 73 #[Pq mb,Iq w,Iq h,.slice sp sn sc] U λe U'=>Ql U U' r L.length L Wd H w h eW off sn e:=by
 have QW:prog.follows .mixedOrders=true:=pt;obtain⟨N,hN⟩:=af L.length;have hc:=hT.vl.cnt;have TI:=hT.pos;have QR:N<=100:=dg;obtain⟨i0,hi,Q0,PZ,Sx⟩:=info_parts OQ;have Vv:∀W:AT,(Instr.makeSlice 89 (Iq (N:Int)) (Iq (N:Int))).run prog W=.ok (Sq W.heap.size N N) (W.alloc (.cells (madeCells #[Iq 0,Iq 0,Iq 0,Iq 0,Iq 0,Iq 0,Iq 0,Iq 0,Iq 0,Iq 0] (N*10)) 95)):=λW=>by have:=run_make (P:=prog) W 89 95 i0 _ underlying89 hi Q0 .i64 .i64 N N dg (ie _) rn dg;rw[PZ,iO]at this;exact this
 clear hi Q0 PZ Sx;obtain⟨A,hA⟩:=af U.heap.size;obtain⟨d,QY⟩:=af (A+1);have Sr:=hU.view.ms;rw[hN]at Sr;have UO:Hid (∀u,U.grownBy u (some r)->u.cell? (aq mb 0)=some (Sq g N zt)):=λu hu=>by have:=(hu.block mb hU.view.ml (λe=>hU.view.mr rn)).trans Sr;rw[Lib.cell_of_heap this];rfl
 have m0:=UO U (aa Ok);have VF:=hU.memo.lt;have Su:d≠r:=dg;have zZ:U.heap.size<=d:=dg;have HU:Hid (Hs U mb r g zt wb L KV Wd H 0):=hU;obtain⟨W2,zS⟩:=af ((U.alloc (.cells #[Iq 0,Iq 0,Iq w,Iq h] 93)).alloc (.cells (madeCells #[Iq 0,Iq 0,Iq 0,Iq 0,Iq 0,Iq 0,Iq 0,Iq 0,Iq 0,Iq 0] (N*10)) 95));have HB2:Hid (Bq U W2):=by rw[<-zS];exact(((Gr.refl U).alloc _).alloc _).below
 have zi:W2.heap[A]?=some (.cells #[Iq 0,Iq 0,Iq w,Iq h] 93 (0,0)):=by rw[<-zS,<-hA,bG _ _ _ (by rw[ai];omega)];exact heap_alloc_new _ _
 have F:W2.rowIs d 95 (N*10) (ss λ_ _=>0):=by have:=vV (U.alloc (.cells #[Iq 0,Iq 0,Iq w,Iq h] 93)) N 95;rw[ai,hA,QY,zS]at this;exact this
 have UR:Hid (Pw U W2 r d N (λ_ _=>0) H 0):=⟨aa HB2,hU.memo.grown_below HB2,F⟩;have WG:Hid (Pw U ((((((((((W2.setCell (aq d 0) (Iq 0)).setCell (aq d 1) (Iq 0)).setCell (aq d 2) (Iq w)).setCell (aq d 3) (Iq h)).setCell (aq d 4) (Iq 0)).setCell (aq d 5) (Iq 0)).setCell (aq d 6) (Iq w)).setCell (aq d 7) (Iq h)).setCell (aq d 8) (Iq 0)).setCell (aq d 9) (Iq 0)) r d N (su (λ_ _=>0) 0 (SA w h)) H 0):=IY UR zZ Su 0 (SA w h) 0 0 w h 0 0 w h 0 0 rfl rfl rfl rfl rfl rfl rfl rfl rfl rfl;have WK:Hid (cI L Wd H w h eW off sn (su (λ_ _=>0) 0 (SA w h)) 0):=by
  have e0:∀i t,i≠0->su (λ_ _=>0) 0 (SA w h) i t=0:=λi t hi=>if_neg hi;refine⟨⟨rfl,rfl,rfl,rfl,rfl,rfl,rfl,rfl⟩,λi _ hi=>dg,λi _ _=>?_,λi _ hi=>dg,λi _=>?_⟩
  .by_cases e:i=0;.subst e;exact⟨rfl,rfl⟩
   grind
  .by_cases e:i=0;.subst e;show _<=(0:Int)/\(0:Int)<=_/\_<=(0:Int)/\(0:Int)<=_/\0<=w/\w<=100000/\0<=h/\h<=100000;omega
   grind
 have c0:W2.cell? (aq A 0)=some (Iq 0):=by rw[Lib.cell_of_heap zi];rfl
 have c1:W2.cell? (aq A 1)=some (Iq 0):=by rw[Lib.cell_of_heap zi];rfl
 have c2:W2.cell? (aq A 2)=some (Iq w):=by rw[Lib.cell_of_heap zi];rfl
 have c3:W2.cell? (aq A 3)=some (Iq h):=by rw[Lib.cell_of_heap zi];rfl
 have m2:=UO W2 (aa HB2);have Vi:=λj=>F.frozen j;have d0:W2.cell? (aq d 0)=some (Iq 0):=F.cell dg;have d1:W2.cell? (aq d 1)=some (Iq 0):=F.cell dg;have d2:W2.cell? (aq d 2)=some (Iq 0):=F.cell dg;have d3:W2.cell? (aq d 3)=some (Iq 0):=F.cell dg;have d4:W2.cell? (aq d 4)=some (Iq 0):=F.cell dg;have d5:W2.cell? (aq d 5)=some (Iq 0):=F.cell dg;have d6:W2.cell? (aq d 6)=some (Iq 0):=F.cell dg;have d7:W2.cell? (aq d 7)=some (Iq 0):=F.cell dg;have d8:W2.cell? (aq d 8)=some (Iq 0):=F.cell dg;have d9:W2.cell? (aq d 9)=some (Iq 0):=F.cell dg;have TH:=F.lt;have VB:(0:Int)<(N:Int):=dg;have YI:¬d=mb:=by have:=HU.view.ml;omega
 have YJ:¬mb=d:=dg;have YK:¬A=d:=dg;have YM:¬mb=A:=by have:=HU.view.ml;omega
 have YN:mb<A:=by have:=HU.view.ml;omega
 have YL:¬d=A:=dg;have Z9:Hid (U.heap.size=A/\A+1=d):=⟨hA,QY⟩;clear Sr zi F hU;go_enter func73,ntmps73;go_upto_region 3 with fail;clear zS hA Vv QY m0;go_wp2_with fail;go_loopw[34] (λiv wr=>∃(i:Nat) (P:zzj),i<=N/\iv=Iq (i:Int)/\Hid (Pw U wr r d N P H (20000*i))/\Hid (cI L Wd H w h eW off sn P i)) (λiv _=>N-(intOf iv).toNat);.grind
 obtain⟨i,P,_8,rfl,V,HL⟩:=hrel;clear c0 c1 c2 c3 m2 Vi d0 d1 d2 d3 d4 d5 d6 d7 d8 d9 TH UR WG WK;by_cases R:i<N
 .have GO:(i:Int)<(N:Int):=dg;have O:i<L.length:=dg;have Tl:∀u n,U.grownBy u (some r)->aU u r H n->Hs u mb r g zt wb L KV Wd H n:=λu n hg hm=>HU.grown hg hm;obtain⟨p,c,Ty,Tx⟩:=HU.view.kid i O;have zo:=iE (HU.view.len i O) (KV i);have B:=HU.view.nd i O;rw[zo,Ty]at B;have So:=HU.view.gl;have Vn:=HU.view.gr;have ze:=HL.bd i O;have X9:((i:Int)+1)*100000000<=10000000000:=dg;have QX:=HL.no i O (.inl LE);have Vq:=hT.kids_le O;have YC:=V.out;have KR:Hid (∀u n (of rm c0 c1 c2 c3:Int),U.grownBy u (some r)->aU u r H n->n<=10000000->(0<=of/\of<=100000)->(0<=rm/\rm<=100000)->Cw 115 #[Pq mb,eu (ae L i).kind (au (ae L i) 0) (au (ae L i) 1) (au (ae L i) 2) (au (ae L i) 3) (au (ae L i) 4) (au (ae L i) 5) (au (ae L i) 6) (au (ae L i) 7) (au (ae L i) 8) (au (ae L i) 9) (au (ae L i) 10) (au (ae L i) 11) ⟨(ae L i).text.toArray⟩ (.slice p (ae L i).kids.length c) (ae L i).up,.agg #[Iq (P i 0),Iq (P i 1),Iq (P i 2),Iq (P i 3),Iq c0,Iq c1,Iq c2,Iq c3,Iq of,Iq rm]] u λe G=>gL u G r (ae L i).kids.length H (n+10000) (cd (ae L i).kind (au (ae L i) 4) (au (ae L i) 5) (au (ae L i) 6) L (ae L i).kids Wd H (P i 0) (P i 1) (P i 2) (P i 3) of rm) e):=λu n of rm c0 c1 c2 c3 hg hm hn YQ TT=>
   tM mb r g zt wb n hT hS i O p c Ty (P i 0) (P i 1) (P i 2) (P i 3) c0 c1 c2 c3 of rm u (Tl u n hg hm) hn dg dg ⟨ze.2.2.2.2.1,ze.2.2.2.2.2.1⟩ ⟨ze.2.2.2.2.2.2.1,ze.2.2.2.2.2.2.2⟩ YQ TT;have C:Hid ((ae L i).kind=4->∀u,Pw U u r d N P H (20000*i)->Cw 114 #[Pq mb,.pointer (some (aq d (i*10))),eu 4 (au (ae L i) 0) (au (ae L i) 1) (au (ae L i) 2) (au (ae L i) 3) (au (ae L i) 4) (au (ae L i) 5) (au (ae L i) 6) (au (ae L i) 7) (au (ae L i) 8) (au (ae L i) 9) (au (ae L i) 10) (au (ae L i) 11) ⟨(ae L i).text.toArray⟩ (.slice p (ae L i).kids.length c) (ae L i).up,.slice sp sn sc] u λe G=>e=Rw (.tuple #[])/\Pw U G r d N (eQ (eQ P i 9 (eR (H (aZ (ae L i).kids 0) (P i 2)) (P i 3))) i 8 (min (max 0 (gH (au (ae L i) 0) eW off sn)) (eR (H (aZ (ae L i).kids 0) (P i 2)) (P i 3)))) H (20000*i+100)/\Hid (∀b,b<u.heap.size->b≠r->b≠d->G.heap[b]?=u.heap[b]?)):=λh4 u hu=>by
   have zX:(ae L i).kids.length=1:=by
    rcases hT.kidok i O with q|⟨_,_,q⟩|⟨q,_⟩;.omega
    .exact q
    .omega
   have zu:=eE hT O (j:=0) dg;refine Ai mb r d N i (aZ (ae L i).kids 0) (20000*i) P H (au (ae L i) 0) (au (ae L i) 1) (au (ae L i) 2) (au (ae L i) 3) (au (ae L i) 4) (au (ae L i) 5) (au (ae L i) 6) (au (ae L i) 7) (au (ae L i) 8) (au (ae L i) 9) (au (ae L i) 10) (au (ae L i) 11) (ae L i).up ⟨(ae L i).text.toArray⟩ p (ae L i).kids.length c sp sn sc eW off U u hu zZ Su R dg dg ?_ (hS.hb _ _ zu.2) ⟨ze.2.2.2.2.2.2.1,ze.2.2.2.2.2.2.2⟩ (λv hv=>pC mb r g zt wb hT hS _ _ _ v zu.2 ze.2.2.2.2.1 ze.2.2.2.2.2.1 (Tl v _ hv.g hv.m) dg) (λv P' n' hv=>?_);.obtain⟨b,o,e,q1,q2,q3⟩:=Tx.resolve_left dg;exact⟨b,o,e,q1,q2,by have:=q3 0 dg;exact this⟩
   .refine Ut (yU (au (ae L i) 0) sp sn sc eW off v ((Sv.kept HU.memo hv.g)) TW (λa e=>zz006 (Sw a e) hv.g.size)) ?_;rintro v' q;exact⟨rfl,q⟩
  have zx:Hid (∀j,j<(ae L i).kids.length->i<aZ (ae L i).kids j/\aZ (ae L i).kids j<N):=λj hj=>by have:=eE hT O hj;omega
  have zL:Hid ((ae L i).kind=4->0<(ae L i).kids.length):=λh4=>by rcases hT.kidok i O with q|⟨_,_,q⟩|⟨q,_⟩<;>omega
  have SQ:Hid ((ae L i).kids.length=0\/∃b o,p=some (aq b o)/\b<U.heap.size/\b≠r/\∀j,j<(ae L i).kids.length->U.cell? (aq b (o+j))=some (Iq (aZ (ae L i).kids j:Int))):=Tx;have k:Hid (∀y R0 R1 R2 R3,(∀q t,¬(q=i/\(t=8\/t=9))->y q t=P q t)->((ae L i).kind=4->y i 9=eR (H (aZ (ae L i).kids 0) (P i 2)) (P i 3)/\y i 8=min (max 0 (gH (au (ae L i) 0) eW off sn)) (y i 9))->((ae L i).kind≠4->y i 8=0/\y i 9=0)->cd (ae L i).kind (au (ae L i) 4) (au (ae L i) 5) (au (ae L i) 6) L (ae L i).kids Wd H (y i 0) (y i 1) (y i 2) (y i 3) (y i 8) (y i 9) R0 R1 R2 R3->cI L Wd H w h eW off sn (BT y i (ae L i).kids R0 R1 R2 R3 (ae L i).kids.length) (i+1)):=λy R0 R1 R2 R3 q1 q2 q3 q4=>HL.step hT hS O q1 q2 q3 q4;generalize Vr:(ae L i).kind=kn at B KR C k zL;generalize(ae L i).kids=ks at B KR C k zx SQ zL Vq;generalize(ae L i).up=up at B KR C;generalize(ae L i).text.toArray=Z3 at B KR C;generalize au (ae L i) 0=S at B KR C k;generalize au (ae L i) 1=a1 at B KR C k;generalize au (ae L i) 2=a2 at B KR C k;generalize au (ae L i) 3=a3 at B KR C k;generalize au (ae L i) 4=X at B KR C k;generalize au (ae L i) 5=Y at B KR C k;generalize au (ae L i) 6=Z at B KR C k;generalize au (ae L i) 7=a7 at B KR C k;generalize au (ae L i) 8=a8 at B KR C k;generalize au (ae L i) 9=a9 at B KR C k;generalize au (ae L i) 10=b0 at B KR C k;generalize au (ae L i) 11=b1 at B KR C k;obtain⟨tx,VI⟩:∃z:BY,⟨Z3⟩=z:=⟨_,rfl⟩;rw[VI]at B KR C;obtain⟨m,hm⟩:=af ks.length;rw[hm]at B KR C k zx SQ zL Vq;obtain⟨kd,zu⟩:∃z:Int,(kn:Int)=z:=⟨_,rfl⟩;rw[zu]at B KR k;have HQ:Hid (∀u,U.grownBy u (some r)->∀(t:Nat) x,[Iq kd,Iq S,Iq a1,Iq a2,Iq a3,Iq X,Iq Y,Iq Z,Iq a7,Iq a8,Iq a9,Iq b0,Iq b1,.string tx,.slice p m c,Iq up][t]?=some x->u.cell? (aq g (i*16+t))=some x):=λu hu t x ht=>(aQ (a:=(aq g (i*16+t))) (hu.block g So (λe=>Vn (by injection e)))).trans (B t x ht);have q0:wr.cell? (aq g (i*16))=some (Iq kd):=HQ wr V.g 0 _ rfl;have q1:=HQ wr V.g 1 _ rfl;have q2:=HQ wr V.g 2 _ rfl;have q3:=HQ wr V.g 3 _ rfl;have q4:=HQ wr V.g 4 _ rfl;have q5:=HQ wr V.g 5 _ rfl;have q6:=HQ wr V.g 6 _ rfl;have q7:=HQ wr V.g 7 _ rfl;have q8:=HQ wr V.g 8 _ rfl;have q9:=HQ wr V.g 9 _ rfl;have VR:=HQ wr V.g 10 _ rfl;have VT:=HQ wr V.g 11 _ rfl;have VU:=HQ wr V.g 12 _ rfl;have VV:=HQ wr V.g 13 _ rfl;have VW:=HQ wr V.g 14 _ rfl;have VX:=HQ wr V.g 15 _ rfl;obtain⟨W1,zR⟩:=af (wr.alloc (.cells #[Iq kd,Iq S,Iq a1,Iq a2,Iq a3,Iq X,Iq Y,Iq Z,Iq a7,Iq a8,Iq a9,Iq b0,Iq b1,.string tx,.slice p m c,Iq up] 140));obtain⟨f,zQ⟩:=af wr.heap.size;have Tp:W1.heap[f]?=some (.cells #[Iq kd,Iq S,Iq a1,Iq a2,Iq a3,Iq X,Iq Y,Iq Z,Iq a7,Iq a8,Iq a9,Iq b0,Iq b1,.string tx,.slice p m c,Iq up] 140 (0,0)):=by rw[<-zR,<-zQ];exact heap_alloc_new _ _
  have HB1:Hid (Bq wr W1):=by rw[<-zR];exact((Gr.refl wr).alloc _).below
  have SS:Hid (Pw U W1 r d N P H (20000*i)):=V.below HB1;have Vc:f≠r:=by have:=V.m.lt;omega
  have YR:d<f:=by rw[<-zQ];exact V.row.lt
  have zM:Hid (∀u:AT,u.heap[f]?=some (.cells #[Iq kd,Iq S,Iq a1,Iq a2,Iq a3,Iq X,Iq Y,Iq Z,Iq a7,Iq a8,Iq a9,Iq b0,Iq b1,.string tx,.slice p m c,Iq up] 140 (0,0))->u.cell? (aq f 0)=some (Iq kd)/\u.cell? (aq f 1)=some (Iq S)/\u.cell? (aq f 2)=some (Iq a1)/\u.cell? (aq f 3)=some (Iq a2)/\u.cell? (aq f 4)=some (Iq a3)/\u.cell? (aq f 5)=some (Iq X)/\u.cell? (aq f 6)=some (Iq Y)/\u.cell? (aq f 7)=some (Iq Z)/\u.cell? (aq f 8)=some (Iq a7)/\u.cell? (aq f 9)=some (Iq a8)/\u.cell? (aq f 10)=some (Iq a9)/\u.cell? (aq f 11)=some (Iq b0)/\u.cell? (aq f 12)=some (Iq b1)/\u.cell? (aq f 13)=some (.string tx)/\u.cell? (aq f 14)=some (.slice p m c)/\u.cell? (aq f 15)=some (Iq up)):=λu hu=>by refine⟨?_,?_,?_,?_,?_,?_,?_,?_,?_,?_,?_,?_,?_,?_,?_,?_⟩<;>(rw[Lib.cell_of_heap hu];rfl)
  obtain⟨z0,z1,z2,z3,z4,z5,z6,z7,z8,z9,Uw,Ux,Uy,Uz,R6,R7⟩:=zM W1 Tp;have zJ:Hid (W1.heap[f]?=some (.cells #[Iq kd,Iq S,Iq a1,Iq a2,Iq a3,Iq X,Iq Y,Iq Z,Iq a7,Iq a8,Iq a9,Iq b0,Iq b1,.string tx,.slice p m c,Iq up] 140 (0,0))):=Tp;have zq:Hid ((ae L i).kind=kn/\(kn:Int)=kd):=⟨Vr,zu⟩;have Wk:Hid (-(((i:Int)+1)*100000000)<=P i 0/\P i 0<=((i:Int)+1)*100000000/\-(((i:Int)+1)*100000000)<=P i 1/\P i 1<=((i:Int)+1)*100000000/\0<=P i 2/\P i 2<=100000/\0<=P i 3/\P i 3<=100000):=ze;have WF:Hid (P i 8=0/\P i 9=0):=QX;have WA:Hid (N<=100/\L.length=N):=⟨QR,hN⟩;have UN:Hid (ks.length=m):=hm;clear Tp B zo Ty Tx So Vn Tl YC VI Vr zu ze QX X9 hm;go_upto_if 41 with fail;go_cut[48]from 42 to 47 (λ_ wx=>∃y,Hid (Pw U wx r d N y H (20000*i+100))/\Hid (∀q t,¬(q=i/\(t=8\/t=9))->y q t=P q t)/\Hid ((kn=4->y i 9=eR (H (aZ ks 0) (P i 2)) (P i 3)/\y i 8=min (max 0 (gH S eW off sn)) (y i 9))/\(kn≠4->y i 8=0/\y i 9=0))/\Hid (wx.heap[f]?=some (.cells #[Iq kd,Iq S,Iq a1,Iq a2,Iq a3,Iq X,Iq Y,Iq Z,Iq a7,Iq a8,Iq a9,Iq b0,Iq b1,.string tx,.slice p m c,Iq up] 140 (0,0))))
  .by_cases h4:kn=4
   .have Ym:kd=4:=by have:=zq.2;omega
    subst Ym;have U_:Hid (∀u,(u=W1\/u=W1.drew)->Cw 114 #[Pq mb,.pointer (some (aq d (i*10))),eu 4 S a1 a2 a3 X Y Z a7 a8 a9 b0 b1 tx (.slice p m c) up,.slice sp sn sc] u λe G=>e=Rw (.tuple #[])/\G.heap[f]?=some (.cells #[Iq 4,Iq S,Iq a1,Iq a2,Iq a3,Iq X,Iq Y,Iq Z,Iq a7,Iq a8,Iq a9,Iq b0,Iq b1,.string tx,.slice p m c,Iq up] 140 (0,0))/\Hid (Pw U G r d N (eQ (eQ P i 9 (eR (H (aZ ks 0) (P i 2)) (P i 3))) i 8 (min (max 0 (gH S eW off sn)) (eR (H (aZ ks 0) (P i 2)) (P i 3)))) H (20000*i+100))):=λu hu=>by
     have zg:Bq W1 u:=by
      rcases hu with rfl|rfl;.exact Ok
      .exact Ok.drew
     refine Ut (C h4 u (SS.below zg)) ?_;rintro G ⟨q1,q2⟩;have zT:=(aj.1 zJ).1;exact⟨rfl,(q2 f (zz006 zT zg.size) Vc dg).trans ((zg.block f zT).trans zJ),q1⟩
    have zw:Hid (∀wx,wx.heap[f]?=some (.cells #[Iq 4,Iq S,Iq a1,Iq a2,Iq a3,Iq X,Iq Y,Iq Z,Iq a7,Iq a8,Iq a9,Iq b0,Iq b1,.string tx,.slice p m c,Iq up] 140 (0,0))->Pw U wx r d N (eQ (eQ P i 9 (eR (H (aZ ks 0) (P i 2)) (P i 3))) i 8 (min (max 0 (gH S eW off sn)) (eR (H (aZ ks 0) (P i 2)) (P i 3)))) H (20000*i+100)->∃y,Hid (Pw U wx r d N y H (20000*i+100))/\Hid (∀q t,¬(q=i/\(t=8\/t=9))->y q t=P q t)/\Hid ((kn=4->y i 9=eR (H (aZ ks 0) (P i 2)) (P i 3)/\y i 8=min (max 0 (gH S eW off sn)) (y i 9))/\(kn≠4->y i 8=0/\y i 9=0))/\Hid (wx.heap[f]?=some (.cells #[Iq 4,Iq S,Iq a1,Iq a2,Iq a3,Iq X,Iq Y,Iq Z,Iq a7,Iq a8,Iq a9,Iq b0,Iq b1,.string tx,.slice p m c,Iq up] 140 (0,0)))):=λwx hn hp=>by
     refine⟨_,hp,λq t hq=>?_,⟨λ_=>?_,λe=>absurd h4 e⟩,hn⟩;.unfold eQ;rw[if_neg (λe=>hq ⟨e.1,.inl e.2⟩),if_neg (λe=>hq ⟨e.1,.inr e.2⟩)]
     .unfold eQ;simp
    unfold eu at U_;clear zR zQ;go_wp2_with fail;go_region_held(λW=>W.cell? (aq f 0)=some (Iq 4)/\W.cell? (aq f 1)=some (Iq S)/\W.cell? (aq f 2)=some (Iq a1)/\W.cell? (aq f 3)=some (Iq a2)/\W.cell? (aq f 4)=some (Iq a3)/\W.cell? (aq f 5)=some (Iq X)/\W.cell? (aq f 6)=some (Iq Y)/\W.cell? (aq f 7)=some (Iq Z)/\W.cell? (aq f 8)=some (Iq a7)/\W.cell? (aq f 9)=some (Iq a8)/\W.cell? (aq f 10)=some (Iq a9)/\W.cell? (aq f 11)=some (Iq b0)/\W.cell? (aq f 12)=some (Iq b1)/\W.cell? (aq f 13)=some (.string tx)/\W.cell? (aq f 14)=some (.slice p m c)/\W.cell? (aq f 15)=some (Iq up)) (go_keep) (first|(go_at_call 114;refine ag (U_ _ (by first|exact .inl rfl|exact .inr rfl)) ?_;rintro e u1 ⟨rfl,zj,zO⟩;obtain⟨s0,s1,s2,s3,s4,s5,s6,s7,s8,s9,VZ,V0,V1,V6,V7,V8⟩:=zM u1 zj;have zP:Hid (u1.heap[f]?=some (.cells #[Iq 4,Iq S,Iq a1,Iq a2,Iq a3,Iq X,Iq Y,Iq Z,Iq a7,Iq a8,Iq a9,Iq b0,Iq b1,.string tx,.slice p m c,Iq up] 140 (0,0))):=zj;clear zj));all_goals go_wp2_with fail
    all_goals go_meet
    all_goals exact zw _ zP zO
   .have e4:(kd==4)=false:=by have:=zq.2;simp;omega
    go_wp2_with fail;go_meet;exact⟨P,SS.mono dg,λ_ _ _=>rfl,⟨λe=>absurd e h4,λ_=>WF⟩,zJ⟩
  obtain⟨y,zh,zy,zN,SR⟩:=hcut;clear z0 z1 z2 z3 z4 z5 z6 z7 z8 z9 Uw Ux Uy Uz R6 R7 zR zQ;obtain⟨z0,z1,z2,z3,z4,z5,z6,z7,z8,z9,Uw,Ux,Uy,Uz,R6,R7⟩:=zM wc SR;obtain⟨p0,TE⟩:=af (y i 0);obtain⟨p1,Ss⟩:=af (y i 1);obtain⟨p2,TF⟩:=af (y i 2);obtain⟨p3,TG⟩:=af (y i 3);obtain⟨p4,zE⟩:=af (y i 4);obtain⟨p5,zF⟩:=af (y i 5);obtain⟨p6,zG⟩:=af (y i 6);obtain⟨p7,zH⟩:=af (y i 7);obtain⟨p8,Vz⟩:=af (y i 8);obtain⟨p9,VA⟩:=af (y i 9);have SU:Hid (∀u Q,U.grownBy u (some r)->u.rowIs d 95 (N*10) (ss Q)->(∀t,t<10->Q i t=y i t)->u.cell? (aq d (i*10))=some (Iq p0)/\u.cell? (aq d (i*10+1))=some (Iq p1)/\u.cell? (aq d (i*10+2))=some (Iq p2)/\u.cell? (aq d (i*10+3))=some (Iq p3)/\u.cell? (aq d (i*10+4))=some (Iq p4)/\u.cell? (aq d (i*10+5))=some (Iq p5)/\u.cell? (aq d (i*10+6))=some (Iq p6)/\u.cell? (aq d (i*10+7))=some (Iq p7)/\u.cell? (aq d (i*10+8))=some (Iq p8)/\u.cell? (aq d (i*10+9))=some (Iq p9)):=λu Q hg hr hq=>by
   refine⟨?_,?_,?_,?_,?_,?_,?_,?_,?_,?_⟩;.rw[<-TE,<-hq 0 dg];exact bj (t:=0) hr R dg
   .rw[<-Ss,<-hq 1 dg];exact bj hr R dg
   .rw[<-TF,<-hq 2 dg];exact bj hr R dg
   .rw[<-TG,<-hq 3 dg];exact bj hr R dg
   .rw[<-zE,<-hq 4 dg];exact bj hr R dg
   .rw[<-zF,<-hq 5 dg];exact bj hr R dg
   .rw[<-zG,<-hq 6 dg];exact bj hr R dg
   .rw[<-zH,<-hq 7 dg];exact bj hr R dg
   .rw[<-Vz,<-hq 8 dg];exact bj hr R dg
   .rw[<-VA,<-hq 9 dg];exact bj hr R dg
  have HE:Hid (P i 0=p0/\P i 1=p1/\P i 2=p2/\P i 3=p3/\(0<=p8/\p8<=100000)/\0<=p9/\p9<=100000):=by
   refine⟨by rw[<-zy i 0 dg];exact TE,by rw[<-zy i 1 dg];exact Ss,by rw[<-zy i 2 dg];exact TF,by rw[<-zy i 3 dg];exact TG,?_⟩;by_cases h4:kn=4
   .obtain⟨r1,r2⟩:=zN.1 h4;have X8:=Wk.out;have QV:aZ ks 0<L.length:=by
     rcases hT.kidok i O with q|⟨_,_,q⟩|⟨q,_⟩;.rw[zq.1]at q;omega
     .have h1:=zL h4;have:=zx 0 h1;omega
     .rw[zq.1]at q;omega
    have _7:=hS.hb (aZ ks 0) (P i 2) QV;unfold eR at r1;omega
   .obtain⟨r1,r2⟩:=zN.2 h4;omega
  obtain⟨y0,y1,y2,y3,y4,y5,y6,y7,y8,y9⟩:=SU wc y zh.g zh.row (λ_ _=>rfl);have S6:Hid (∀u,(u=wc\/u=wc.drew)->Cw 115 #[Pq mb,eu kd S a1 a2 a3 X Y Z a7 a8 a9 b0 b1 tx (.slice p m c) up,.agg #[Iq p0,Iq p1,Iq p2,Iq p3,Iq p4,Iq p5,Iq p6,Iq p7,Iq p8,Iq p9]] u λe G=>∃q cq,e=Rw (.slice q m cq)/\G.heap[f]?=some (.cells #[Iq kd,Iq S,Iq a1,Iq a2,Iq a3,Iq X,Iq Y,Iq Z,Iq a7,Iq a8,Iq a9,Iq b0,Iq b1,.string tx,.slice p m c,Iq up] 140 (0,0))/\(G.cell? (aq d (i*10))=some (Iq p0)/\G.cell? (aq d (i*10+1))=some (Iq p1)/\G.cell? (aq d (i*10+2))=some (Iq p2)/\G.cell? (aq d (i*10+3))=some (Iq p3)/\G.cell? (aq d (i*10+4))=some (Iq p4)/\G.cell? (aq d (i*10+5))=some (Iq p5)/\G.cell? (aq d (i*10+6))=some (Iq p6)/\G.cell? (aq d (i*10+7))=some (Iq p7)/\G.cell? (aq d (i*10+8))=some (Iq p8)/\G.cell? (aq d (i*10+9))=some (Iq p9))/\Hid (gL wc G r m H (20000*i+100+10000) (cd kd X Y Z L ks Wd H p0 p1 p2 p3 p8 p9) (.returned (.slice q m cq)))/\Hid (Pw U G r d N y H (20000*i+10100))):=λu hu=>by
   have zg:Bq wc u:=by
    rcases hu with rfl|rfl;.exact Ok
    .exact Ok.drew
   obtain⟨f0,f1,f2,f3,f4,f5⟩:=HE.out;have D:=zh.below zg;have:=KR u (20000*i+100) p8 p9 p4 p5 p6 p7 D.g D.m (by have:=WA.out;omega) f4 f5;rw[f0,f1,f2,f3]at this;refine this.mono ?_;rintro e G ⟨q,cq,R0,R1,R2,R3,rfl,s1,s2,s3,s4⟩;have zD:=(aa zg).trans s3;have zT:=(aj.1 SR).1;have TJ:Pw U G r d N y H (20000*i+10100):=zh.grown zD (s4.mono dg) Su;refine⟨q,cq,rfl,(zD.block f zT (λe=>Vc (by injection e))).trans SR,SU G y TJ.g TJ.row (λ_ _=>rfl),⟨q,cq,R0,R1,R2,R3,rfl,s1,?_,zD,s4⟩,TJ⟩;rcases s2 with e|⟨b,e,l,hr⟩;.exact .inl e
   .exact .inr ⟨b,e,aA zg.size l,hr⟩
  unfold eu at S6;clear KR C zJ SS HB1;go_wp2_with fail;go_region_held(λW=>(W.cell? (aq f 0)=some (Iq kd)/\W.cell? (aq f 1)=some (Iq S)/\W.cell? (aq f 2)=some (Iq a1)/\W.cell? (aq f 3)=some (Iq a2)/\W.cell? (aq f 4)=some (Iq a3)/\W.cell? (aq f 5)=some (Iq X)/\W.cell? (aq f 6)=some (Iq Y)/\W.cell? (aq f 7)=some (Iq Z)/\W.cell? (aq f 8)=some (Iq a7)/\W.cell? (aq f 9)=some (Iq a8)/\W.cell? (aq f 10)=some (Iq a9)/\W.cell? (aq f 11)=some (Iq b0)/\W.cell? (aq f 12)=some (Iq b1)/\W.cell? (aq f 13)=some (.string tx)/\W.cell? (aq f 14)=some (.slice p m c)/\W.cell? (aq f 15)=some (Iq up))/\W.cell? (aq d (i*10))=some (Iq p0)/\W.cell? (aq d (i*10+1))=some (Iq p1)/\W.cell? (aq d (i*10+2))=some (Iq p2)/\W.cell? (aq d (i*10+3))=some (Iq p3)/\W.cell? (aq d (i*10+4))=some (Iq p4)/\W.cell? (aq d (i*10+5))=some (Iq p5)/\W.cell? (aq d (i*10+6))=some (Iq p6)/\W.cell? (aq d (i*10+7))=some (Iq p7)/\W.cell? (aq d (i*10+8))=some (Iq p8)/\W.cell? (aq d (i*10+9))=some (Iq p9)) (go_keep) (first|(go_at_call 115;refine ag (S6 _ (by first|exact .inl rfl|exact .inr rfl)) ?_;rintro e u1 ⟨q,cq,rfl,zj,⟨w0,w1,w2,w3,w4,w5,w6,w7,w8,w9⟩,UL,zO⟩;obtain⟨s0,s1,s2,s3,s4,s5,s6,s7,s8,s9,VZ,V0,V1,V6,V7,V8⟩:=zM u1 zj;have zP:Hid (u1.heap[f]?=some (.cells #[Iq kd,Iq S,Iq a1,Iq a2,Iq a3,Iq X,Iq Y,Iq Z,Iq a7,Iq a8,Iq a9,Iq b0,Iq b1,.string tx,.slice p m c,Iq up] 140 (0,0))):=zj;clear zj));all_goals go_wp2_with fail
  all_goals
   obtain⟨q',_c,R0,R1,R2,R3,TM,zI,hrow,zD,_⟩:=UL.out;injection TM with TM;injection TM with TN _ TQ;subst TN;subst TQ;have Qe:Hid (cd kd X Y Z L ks Wd H p0 p1 p2 p3 p8 p9 R0 R1 R2 R3):=zI;have Qd:Hid (m=0\/∃b,q=some (aq b 0)/\b≠d/\m5 u1 b m R0 R1 R2 R3):=by
    rcases hrow with e|⟨b,e,l,hr⟩;.exact .inl e
    .exact .inr ⟨b,e,by have:=zh.row.lt;omega,hr⟩
   clear zI hrow zD UL S6 s0 s1 s2 s3 s4 s5 s6 s7 s8 s9 VZ V0 V1 V6 V7 V8 w0 w1 w2 w3 w4 w5 w6 w7 w8 w9 z0 z1 z2 z3 z4 z5 z6 z7 z8 z9 Uw Ux Uy Uz R6 R7 y0 y1 y2 y3 y4 y5 y6 y7 y8 y9;go_loopw[57] (λkv Uv=>∃j:Nat,j<=m/\kv=Iq (j:Int)/\Hid (Pw U Uv r d N (BT y i ks R0 R1 R2 R3 j) H (20000*i+10100))/\Hid (Uv.heap[f]?=some (.cells #[Iq kd,Iq S,Iq a1,Iq a2,Iq a3,Iq X,Iq Y,Iq Z,Iq a7,Iq a8,Iq a9,Iq b0,Iq b1,.string tx,.slice p m c,Iq up] 140 (0,0)))/\Hid (m=0\/∃b,q=some (aq b 0)/\b≠d/\m5 Uv b m R0 R1 R2 R3)) (λkv _=>m-(intOf kv).toNat);.exact⟨0,LT,rfl,zO,zP,Qd⟩
   obtain⟨j,hj,rfl,zA,zr,SV⟩:=hrel;clear zO zP Qd;by_cases zY:j<m
   .have Tz:(j:Int)<(m:Int):=dg;obtain⟨b,rfl,zB,zU,Tr⟩:=SV.resolve_left dg;obtain⟨g0,g1,g2,g3⟩:=Tr j zY;obtain⟨kb,ko,rfl,QT,QU,QS⟩:=SQ.resolve_left dg;obtain⟨E,zV⟩:=af (aZ ks j);have T:=zx j zY;rw[zV]at T;obtain⟨I,zk⟩:=af (R0 j);obtain⟨J,zl⟩:=af (R1 j);obtain⟨K,zm⟩:=af (R2 j);obtain⟨M,zn⟩:=af (R3 j);rw[zk]at g0;rw[zl]at g1;rw[zm]at g2;rw[zn]at g3;obtain⟨k0,Tt⟩:=af (uJ I J K M p4 p5 p6 p7);obtain⟨k1,zX⟩:=af (uK I J K M p4 p5 p6 p7);obtain⟨k2,Tu⟩:=af (tm I J K M p4 p5 p6 p7);obtain⟨k3,Tv⟩:=af (qR I J K M p4 p5 p6 p7);have Vo:i∉ks:=λTB=>by obtain⟨a,ha,e⟩:=mh.1 TB;have h1:=zx a (by have:=UN.out;omega);unfold aZ at h1;rw[da ha,e]at h1;have h2:i<i:=h1.1;omega
    have Vd:BT y i ks R0 R1 R2 R3 j i=y i:=mS j (λt ht=>by have:=UN.out;omega) i Vo;obtain⟨W5,To⟩:=af (wr.alloc (.cells #[Iq I,Iq J,Iq K,Iq M] 93));obtain⟨Ar,QQ⟩:=af wr.heap.size;have zv:Hid (Bq wr W5):=by rw[<-To];exact((Gr.refl wr).alloc _).below
    have TS:W5.heap[Ar]?=some (.cells #[Iq I,Iq J,Iq K,Iq M] 93 (0,0)):=by rw[<-To,<-QQ];exact heap_alloc_new _ _
    have QP:=(aj.1 zr).1;have YT:=zA.row.lt;have Qc:Hid (Pw U W5 r d N (BT y i ks R0 R1 R2 R3 j) H (20000*i+10100)):=zA.below zv;have Wh:Hid (∀u,(u=W5\/u=W5.drew)->Cw 116 #[.agg #[Iq I,Iq J,Iq K,Iq M],.agg #[Iq p4,Iq p5,Iq p6,Iq p7]] u λe G=>e=Rw (.agg #[Iq k0,Iq k1,Iq k2,Iq k3])/\Hid (Bq W5 G)):=λu hu=>by
     have zg:Bq W5 u:=by
      rcases hu with rfl|rfl;.exact Ok
      .exact Ok.drew
     have:=A_ I J K M p4 p5 p6 p7 u;rw[Do,Tt,zX,Tu,Tv]at this;exact this.mono λe G ⟨h1,h2⟩=>⟨h1,zg.trans (h2.below.mono zg.size)⟩
    have SW:Hid (∀u,Bq W5 u->u.cell? (aq f 14)=some (.slice (some (aq kb ko)) m c)/\u.cell? (aq kb (ko+j))=some (Iq (E:Int))/\u.cell? (aq Ar 0)=some (Iq I)/\u.cell? (aq Ar 1)=some (Iq J)/\u.cell? (aq Ar 2)=some (Iq K)/\u.cell? (aq Ar 3)=some (Iq M)/\u.cell? (aq d (i*10+4))=some (Iq p4)/\u.cell? (aq d (i*10+5))=some (Iq p5)/\u.cell? (aq d (i*10+6))=some (Iq p6)/\u.cell? (aq d (i*10+7))=some (Iq p7)):=λu hu=>by
     have zC:=zv.trans (hu.mono zv.size);have D:=Qc.below hu;have hn:=(zC.block f QP).trans zr;have hr:=(hu.block Ar (aj.1 TS).1).trans TS;have Yn:u.cell? (aq kb (ko+j))=some (Iq (E:Int)):=by rw[<-zV];exact(aQ (a:=(aq kb (ko+j))) (D.g.block kb QT (λe=>QU (by injection e)))).trans (QS j zY)
     have YS:=SU u _ D.g D.row (λt _=>by rw[Vd]);obtain⟨_,_,_,_,c4,c5,c6,c7,_,_⟩:=YS;refine⟨?_,Yn,?_,?_,?_,?_,c4,c5,c6,c7⟩;.rw[Lib.cell_of_heap hn];rfl
     .rw[Lib.cell_of_heap hr];rfl
     .rw[Lib.cell_of_heap hr];rfl
     .rw[Lib.cell_of_heap hr];rfl
     .rw[Lib.cell_of_heap hr];rfl
    have WS:Hid (∀u,Bq W5 u->(tw u d (E*10) I J K M k0 k1 k2 k3 0 0).cell? (aq f 14)=some (.slice (some (aq kb ko)) m c)/\(tw u d (E*10) I J K M k0 k1 k2 k3 0 0).cell? (aq kb (ko+j))=some (Iq (E:Int))/\(tw u d (E*10) I J K M k0 k1 k2 k3 0 0).cell? (aq Ar 0)=some (Iq I)/\(tw u d (E*10) I J K M k0 k1 k2 k3 0 0).cell? (aq Ar 1)=some (Iq J)/\(tw u d (E*10) I J K M k0 k1 k2 k3 0 0).cell? (aq Ar 2)=some (Iq K)/\(tw u d (E*10) I J K M k0 k1 k2 k3 0 0).cell? (aq Ar 3)=some (Iq M)/\(tw u d (E*10) I J K M k0 k1 k2 k3 0 0).cell? (aq d (i*10+4))=some (Iq p4)/\(tw u d (E*10) I J K M k0 k1 k2 k3 0 0).cell? (aq d (i*10+5))=some (Iq p5)/\(tw u d (E*10) I J K M k0 k1 k2 k3 0 0).cell? (aq d (i*10+6))=some (Iq p6)/\(tw u d (E*10) I J K M k0 k1 k2 k3 0 0).cell? (aq d (i*10+7))=some (Iq p7)):=λu hu=>by obtain⟨r0,r1,r2,r3,r4,r5,r6,r7,r8,r9⟩:=SW u hu;have o1:∀b' o' v,b'≠d->u.cell? (aq b' o')=some v->(tw u d (E*10) I J K M k0 k1 k2 k3 0 0).cell? (aq b' o')=some v:=λb' o' v Sn hv=>(Cd b' o' (.inl Sn)).trans hv;have o2:∀t v,t<10->u.cell? (aq d (i*10+t))=some v->(tw u d (E*10) I J K M k0 k1 k2 k3 0 0).cell? (aq d (i*10+t))=some v:=λt v ht hv=>(Cd d (i*10+t) dg).trans hv;have n1:f≠d:=dg;have n2:kb≠d:=dg;have n3:Ar≠d:=dg;exact⟨o1 _ _ _ n1 r0,o1 _ _ _ n2 r1,o1 _ _ _ n3 r2,o1 _ _ _ n3 r3,o1 _ _ _ n3 r4,o1 _ _ _ n3 r5,o2 4 _ dg r6,o2 5 _ dg r7,o2 6 _ dg r8,o2 7 _ dg r9⟩
    have Wl:Hid (∀u,Bq W5 u->(∀o',u.frozen? (aq d o')=false)/\d<u.heap.size/\(∃v,u.cell? (aq d (E*10))=some v)/\(∃v,u.cell? (aq d (E*10+1))=some v)/\(∃v,u.cell? (aq d (E*10+2))=some v)/\(∃v,u.cell? (aq d (E*10+3))=some v)/\(∃v,u.cell? (aq d (E*10+4))=some v)/\(∃v,u.cell? (aq d (E*10+5))=some v)/\(∃v,u.cell? (aq d (E*10+6))=some v)/\(∃v,u.cell? (aq d (E*10+7))=some v)/\(∃v,u.cell? (aq d (E*10+8))=some v)/\(∃v,u.cell? (aq d (E*10+9))=some v)):=λu hu=>by have D:=Qc.below hu;exact⟨λo'=>D.row.frozen o',D.row.lt,⟨_,bj (t:=0) D.row T.2 dg⟩,⟨_,bj D.row T.2 dg⟩,⟨_,bj D.row T.2 dg⟩,⟨_,bj D.row T.2 dg⟩,⟨_,bj D.row T.2 dg⟩,⟨_,bj D.row T.2 dg⟩,⟨_,bj D.row T.2 dg⟩,⟨_,bj D.row T.2 dg⟩,⟨_,bj D.row T.2 dg⟩,⟨_,bj D.row T.2 dg⟩⟩
    have zw:Hid (∀u,Bq W5 u->Pw U (tw u d (E*10) I J K M k0 k1 k2 k3 0 0) r d N (BT y i ks R0 R1 R2 R3 (j+1)) H (20000*i+10100)/\(tw u d (E*10) I J K M k0 k1 k2 k3 0 0).heap[f]?=some (.cells #[Iq kd,Iq S,Iq a1,Iq a2,Iq a3,Iq X,Iq Y,Iq Z,Iq a7,Iq a8,Iq a9,Iq b0,Iq b1,.string tx,.slice (some (aq kb ko)) m c,Iq up] 140 (0,0))/\(m=0\/∃b',some ((aq b 0):Addr)=some (aq b' 0)/\b'≠d/\m5 (tw u d (E*10) I J K M k0 k1 k2 k3 0 0) b' m R0 R1 R2 R3)):=λu hu=>by
     have zC:=zv.trans (hu.mono zv.size);have key:∀b',b'≠d->(tw u d (E*10) I J K M k0 k1 k2 k3 0 0).heap[b']?=u.heap[b']?:=λb' Sn=>Nc b' Sn;refine⟨?_,(key f dg).trans ((zC.block f QP).trans zr),.inr ⟨b,rfl,zB,?_,λt ht=>?_⟩⟩;.have:=IY (Qc.below hu) zZ Su E (Ka y i (R0 j) (R1 j) (R2 j) (R3 j)) I J K M k0 k1 k2 k3 0 0 zk.symm zl.symm zm.symm zn.symm (by rw[<-Tt,<-zk,<-zl,<-zm,<-zn,<-zE,<-zF,<-zG,<-zH];rfl) (by rw[<-zX,<-zk,<-zl,<-zm,<-zn,<-zE,<-zF,<-zG,<-zH];rfl) (by rw[<-Tu,<-zk,<-zl,<-zm,<-zn,<-zE,<-zF,<-zG,<-zH];rfl) (by rw[<-Tv,<-zk,<-zl,<-zm,<-zn,<-zE,<-zF,<-zG,<-zH];rfl) rfl rfl;rw[<-zV]at this|-;exact this
     .have h1:=(aj.1 (((key b zB).trans (zC.block b zU)).trans (xO zU))).1;exact h1
     .obtain⟨r0,r1,r2,r3⟩:=Tr t ht;have kk:=(key b zB).trans (zC.block b zU);exact⟨(aQ (a:=(aq b _)) kk).trans r0,(aQ (a:=(aq b _)) kk).trans r1,(aQ (a:=(aq b _)) kk).trans r2,(aQ (a:=(aq b _)) kk).trans r3⟩
    obtain⟨t0,t1,t2,t3,t4,t5,t6,t7,t8,t9⟩:=SW W5 Ok;have Z8:Hid (wr.cell? (aq f 14)=some (.slice (some (aq kb ko)) m c)):=qH<|by rw[Lib.cell_of_heap zr.out];rfl
    have Yb:(E:Int)<(N:Int):=dg;clear TS Tr Tt zX Tu Tv zk zl zm zn zV Vd Vo zU SV zr zA QT QU QS;go_wp2_with fail;clear To QQ g0 g1 g2 g3;go_region_held(λW=>W.cell? (aq f 14)=some (.slice (some (aq kb ko)) m c)/\W.cell? (aq kb (ko+j))=some (Iq (E:Int))/\W.cell? (aq Ar 0)=some (Iq I)/\W.cell? (aq Ar 1)=some (Iq J)/\W.cell? (aq Ar 2)=some (Iq K)/\W.cell? (aq Ar 3)=some (Iq M)/\W.cell? (aq d (i*10+4))=some (Iq p4)/\W.cell? (aq d (i*10+5))=some (Iq p5)/\W.cell? (aq d (i*10+6))=some (Iq p6)/\W.cell? (aq d (i*10+7))=some (Iq p7)) (go_keep) (first|(go_at_call 116;refine ag (Wh _ (by first|exact .inl rfl|exact .inr rfl)) ?_;rintro e u2 ⟨rfl,zK⟩;obtain⟨f0,f1,f2,f3,f4,f5,f6,f7,f8,f9⟩:=SW u2 zK;have HX:=WS u2 zK;unfold tw at HX;obtain⟨h0,h1,h2,h3,h4,h5,h6,h7,h8,h9⟩:=HX;obtain⟨Vj,YU,⟨v0,e0⟩,⟨v1,e1⟩,⟨v2,e2⟩,⟨v3,e3⟩,⟨v4,e4⟩,⟨v5,e5⟩,⟨v6,e6⟩,⟨v7,e7⟩,⟨v8,e8⟩,⟨v9,e9⟩⟩:=Wl u2 zK));all_goals
     obtain⟨F1,F2,F3⟩:=zw u2 zK;have Wo:=(show Hid _ from F1);have Wp:=(show Hid _ from F2);have Wq:=(show Hid _ from F3);clear F1 F2 F3;go_wp2;go_roundw;.exact⟨j+1,zY,by go_num,Wo,Wp,Wq⟩
     .simp[intOf];omega
   .have Tz:¬(j:Int)<(m:Int):=dg;obtain rfl:j=m:=dg;have Qb:Hid (cI L Wd H w h eW off sn (BT y i ks R0 R1 R2 R3 j) (i+1)):=by have zi:=Qe.out;rw[<-TE,<-Ss,<-TF,<-TG,<-Vz,<-VA]at zi;have:=k y R0 R1 R2 R3 zy (λe=>zN.1 (by have:=zq.out;omega)) (λe=>zN.2 (by have:=zq.out;omega)) zi;exact this
    have HPN:Hid (Pw U wr r d N (BT y i ks R0 R1 R2 R3 j) H (20000*(i+1))):=zA.mono dg;clear zA zr SV;go_wp2;go_roundw;.exact⟨i+1,_,R,by go_num,HPN,Qb⟩
    .simp[intOf];omega
 .have GO:¬(i:Int)<(N:Int):=dg;obtain rfl:i=N:=dg;have SL:Hid (U.grownBy wr (some r)/\wr.rowIs d 95 (i*10) (ss P)/\cI L Wd H w h eW off sn P i):=⟨V.g,V.row,HL⟩;go_wp2;go_ret;exact⟨d,P,rfl,SL.2.1,SL.2.2,SL.1,zZ⟩
section
variable{s:BY} {L:zza} {Wd:zzb} {H:zzg} {w h:Int} {eW off:zzb} {sn:Nat} {P:zzj}
def cI.scroll(j:ep s L)(b:cI L Wd H w h eW off sn P L.length){i}(hi:i<L.length)(g:(ae L i).kind=4):
 (ae L i).kids.length=1/\0<=P i 8/\P i 8<=P i 9/\P (aZ (ae L i).kids 0) 0=P i 0/\P (aZ (ae L i).kids 0) 1=P i 1-P i 8/\P (aZ (ae L i).kids 0) 2=P i 2/\P (aZ (ae L i).kids 0) 3=P i 3+P i 9/\(au (ae L i) 0=0->P i 8=0):=by
 have k:(ae L i).kids.length=1:=by
  rcases j.kidok i hi with q|⟨_,_,q⟩|⟨q,_⟩;.omega
  .exact q
  .omega
 obtain⟨r,t⟩:=b.sc i hi hi g;obtain⟨R0,R1,R2,R3,l,a⟩:=b.kr i hi hi;obtain⟨m,n,o,p⟩:=l.scr dg 0 dg;have c:=a 0 dg 0 dg;have d:=a 0 dg 1 dg;have e:=a 0 dg 2 dg;have f:=a 0 dg 3 dg;have c:P (aZ (ae L i).kids 0) 0=R0 0:=c;have d:P (aZ (ae L i).kids 0) 1=R1 0:=d;have e:P (aZ (ae L i).kids 0) 2=R2 0:=e;have f:P (aZ (ae L i).kids 0) 3=R3 0:=f;grind[eR,gH,au,ae]
def QE{x}(a:0<=x)(b:x<=100000):cl x=x:=by grind[cl]
def cI.inRow(f:ep s L)(k:cI L Wd H w h eW off sn P L.length){i}(hi:i<L.length)(q:(ae L i).kind=0):
 ∃G,((ae L i).kids=[]\/bY L (ae L i).kids (λj=>Wd (aZ (ae L i).kids j)) (P i 2) (au (ae L i) 4) G)/\(∀j,j<(ae L i).kids.length->0<=G j/\G j<=100000)/\∀j,j<(ae L i).kids.length->P (aZ (ae L i).kids j) 0=P i 0+offs G (au (ae L i) 4) j/\P (aZ (ae L i).kids j) 1=P i 1/\P (aZ (ae L i).kids j) 2=G j/\P (aZ (ae L i).kids j) 3=P i 3:=by obtain⟨R0,R1,R2,R3,l,b⟩:=k.kr i hi hi;obtain⟨G,d,e,c⟩:=l.row dg;have g:=(f.vl.nv i hi).bd.2.1;rw[QE g.1 dg]at c;refine⟨G,d,e,λj a=>?_⟩;obtain⟨m,n,o,p⟩:=c j a;have r:P (aZ (ae L i).kids j) 0=R0 j:=b j a 0 dg;have t:P (aZ (ae L i).kids j) 1=R1 j:=b j a 1 dg;have u:P (aZ (ae L i).kids j) 2=R2 j:=b j a 2 dg;have v:P (aZ (ae L i).kids j) 3=R3 j:=b j a 3 dg;omega
def Ji{f}{l}(b:∀j∈l,0<=f j){k}(d:k∈l):f k<=ap f l:=by
 induction l with
 |nil=>cases d
 |cons a l m=>have e:=b a At;have g:0<=ap f l:=cH λj c=>b j (by simp[c]);grind[ap]
def EV{r b a S:Int}(c:r<=b\/r<=a->S=r)(d:b<r->a<r->S=a):S<=r:=dg
def bY.tiles{L}{ks}{N}{a b}{G}(c:bY L ks N a b G)(f:0<ks.length):
 ap G (List.range ks.length)<=rm a b ks.length/\((∃j,j<ks.length/\0<au (ae L (aZ ks j)) 3/\au (ae L (aZ ks j)) 2<0)->ap G (List.range ks.length)=rm a b ks.length):=by
 have g:=N8 a b ks.length f;obtain⟨t1,t2,t3⟩:=cO.tiles c (fT _ _ _);refine⟨EV t2 t3,fun⟨j,e,n,l⟩=>t2 (.inr (io g ?_))⟩;have d:0<cl (au (ae L (aZ ks j)) 3):=by unfold cl;split;omega;split<;>omega
 have m:fC (EX (ae L (aZ ks j)) (N j)) (au (ae L (aZ ks j)) 2)=100000:=by unfold fC;rw[if_pos l]
 refine io ?_ (Ji (k:=j) (λx _=>?_) (xQ.2 e));all_goals grind[cl,au,ae,aZ,fC,EX,jK,eO]
def cI.tiles(f:ep s L)(l:cI L Wd H w h eW off sn P L.length){i}(hi:i<L.length)(d:(ae L i).kind=0)(k:0<(ae L i).kids.length):
 ∃G,(∀j,j<(ae L i).kids.length->0<=G j/\G j<=100000)/\(∀j,j<(ae L i).kids.length->P (aZ (ae L i).kids j) 2=G j)/\ap G (List.range (ae L i).kids.length)<=rm (P i 2) (au (ae L i) 4) (ae L i).kids.length/\((∃j,j<(ae L i).kids.length/\0<au (ae L (aZ (ae L i).kids j)) 3/\au (ae L (aZ (ae L i).kids j)) 2<0)->ap G (List.range (ae L i).kids.length)=rm (P i 2) (au (ae L i) 4) (ae L i).kids.length):=by obtain⟨G,a,b,c⟩:=l.inRow f hi d;have a:=a.resolve_left (λe=>rn);exact⟨G,b,λj g=>(c j g).2.2.1,a.tiles k⟩
def AJ(P:zzj)(w h:Int)(i:Nat):Prop:=0<=P i 4/\0<=P i 5/\0<=P i 6/\0<=P i 7/\P i 4+P i 6<=w/\P i 5+P i 7<=h
def Fc(x y a b X Y A B:Int):Prop:=a<=0\/b<=0\/(X<=x/\Y<=y/\x+a<=X+A/\y+b<=Y+B)
def A'{x y a b e f d c w h}(m:1<=w/\w<=400)(hh:1<=h/\h<=400)(j:0<=a/\a<=100000)(k:0<=b/\b<=100000)(l:0<=e/\0<=f/\0<=d/\0<=c/\e+d<=w/\f+c<=h):
 let g:=uJ x y a b e f d c
 let c1:=uK x y a b e f d c
 let c2:=tm x y a b e f d c
 let c3:=qR x y a b e f d c
 (0<=g/\0<=c1/\0<=c2/\0<=c3/\g+c2<=w/\c1+c3<=h)/\Fc g c1 c2 c3 x y a b/\Fc g c1 c2 c3 e f d c:=by
 dsimp only;unfold uJ uK tm qR Fc;by_cases q:dV x a e d>=fO x a e d\/dV y b f c>=fO y b f c;.omega
 .rw[if_neg q,if_neg q,if_neg q,if_neg q];unfold dV fO aH aG at*;omega
def cI.onScr(g:ep s L)(d:cI L Wd H w h eW off sn P L.length)(j:1<=w/\w<=400)(hh:1<=h/\h<=400):∀n i,i<n->i<L.length->AJ P w h i
 |0,i,h,_=>dg
 |n+1,i,A,hi=>by
  by_cases e:i=0;.subst e;obtain⟨C,D,E,F,G,I,J,K⟩:=d.root;grind[AJ]
  .obtain⟨u,k,hu,c,l,m⟩:=g.kid_of i dg hi;have f:=cI.onScr g d j hh n u dg dg;obtain⟨R0,R1,R2,R3,B,a⟩:=d.kr u dg dg;have b:=d.bd i hi;rw[<-l]at b|-;have o:P (aZ (ae L u).kids k) 2=R2 k:=a k c 2 dg;have p:P (aZ (ae L u).kids k) 3=R3 k:=a k c 3 dg;have r:P (aZ (ae L u).kids k) 4=uJ (R0 k) (R1 k) (R2 k) (R3 k) (P u 4) (P u 5) (P u 6) (P u 7):=a k c 4 dg;have t:P (aZ (ae L u).kids k) 5=uK (R0 k) (R1 k) (R2 k) (R3 k) (P u 4) (P u 5) (P u 6) (P u 7):=a k c 5 dg;have v:P (aZ (ae L u).kids k) 6=tm (R0 k) (R1 k) (R2 k) (R3 k) (P u 4) (P u 5) (P u 6) (P u 7):=a k c 6 dg;have z:P (aZ (ae L u).kids k) 7=qR (R0 k) (R1 k) (R2 k) (R3 k) (P u 4) (P u 5) (P u 6) (P u 7):=a k c 7 dg;rw[o,p]at b;have q:=(A' (x:=R0 k) (y:=R1 k) j hh ⟨b.2.2.2.2.1,b.2.2.2.2.2.1⟩ b.2.2.2.2.2.2 f).1;unfold AJ;rw[r,t,v,z];exact q
def cI.clip(g:ep s L)(d:cI L Wd H w h eW off sn P L.length)(j:1<=w/\w<=400)(hh:1<=h/\h<=400){i}(hi:i<L.length)(l:0<i):
 ∃u,u<i/\(ae L i).up=(u:Int)/\Fc (P i 4) (P i 5) (P i 6) (P i 7) (P i 0) (P i 1) (P i 2) (P i 3)/\Fc (P i 4) (P i 5) (P i 6) (P i 7) (P u 4) (P u 5) (P u 6) (P u 7):=by obtain⟨u,k,hu,b,m,f⟩:=g.kid_of i l hi;have e:=cI.onScr g d j hh (u+1) u dg dg;obtain⟨R0,R1,R2,R3,y,a⟩:=d.kr u dg dg;have c:=d.bd i hi;refine⟨u,hu,f,?_⟩;rw[<-m]at c|-;have n:P (aZ (ae L u).kids k) 0=R0 k:=a k b 0 dg;have o:P (aZ (ae L u).kids k) 1=R1 k:=a k b 1 dg;have p:P (aZ (ae L u).kids k) 2=R2 k:=a k b 2 dg;have q:P (aZ (ae L u).kids k) 3=R3 k:=a k b 3 dg;have r:P (aZ (ae L u).kids k) 4=uJ (R0 k) (R1 k) (R2 k) (R3 k) (P u 4) (P u 5) (P u 6) (P u 7):=a k b 4 dg;have t:P (aZ (ae L u).kids k) 5=uK (R0 k) (R1 k) (R2 k) (R3 k) (P u 4) (P u 5) (P u 6) (P u 7):=a k b 5 dg;have v:P (aZ (ae L u).kids k) 6=tm (R0 k) (R1 k) (R2 k) (R3 k) (P u 4) (P u 5) (P u 6) (P u 7):=a k b 6 dg;have x:P (aZ (ae L u).kids k) 7=qR (R0 k) (R1 k) (R2 k) (R3 k) (P u 4) (P u 5) (P u 6) (P u 7):=a k b 7 dg;rw[r,t,v,x,n,o,p,q];exact(A' j hh dg dg e).2
end
theorem pY{f g}c:∀k,(∀j,j<k->f j=g j)->offs f c k=offs g c k
 |0,_=>rfl
 |k+1,h=>by rw[mN,mN,pY c k (λj a=>h j dg),h k dg]
def cd.uniq{d v z A}{L}{ks}{Wd}{H}{x y w h of rm}{R0 R1 R2 R3 q r t u}(s:cd d v z A L ks Wd H x y w h of rm R0 R1 R2 R3)(g:cd d v z A L ks Wd H x y w h of rm q r t u)j(c:j<ks.length):
 R0 j=q j/\R1 j=r j/\R2 j=t j/\R3 j=u j:=by
 have a:ks≠[]:=λe=>rn;by_cases k:d=0;.obtain⟨G,o,_,I⟩:=s.row k;obtain⟨B,b,_,p⟩:=g.row k;have hu:=(o.resolve_left a).uniq (b.resolve_left a);grind[pY,cl]
 .by_cases l:d=1;.obtain⟨G,o,_,I⟩:=s.col l;obtain⟨B,b,_,p⟩:=g.col l;have hu:=(o.resolve_left a).uniq (b.resolve_left a);grind[pY,cl]
  .by_cases m:d=3;.have e:=s.box m j c;have f:=g.box m j c;grind[tZ]
   .by_cases n:d=4;.obtain⟨C,D,E,F⟩:=s.scr n j c;obtain⟨f0,f1,f2,f3⟩:=g.scr n j c;omega
    .obtain⟨C,D,E,F⟩:=s.rest k l m n j c;obtain⟨f0,f1,f2,f3⟩:=g.rest k l m n j c;omega
section
variable{s:BY} {L:zza} {Wd:zzb} {H:zzg} {w h:Int} {eW off:zzb} {sn:Nat} {P Q:zzj}
theorem cI.ext89(f:cI L Wd H w h eW off sn P L.length)(g:cI L Wd H w h eW off sn Q L.length){i}(hi:i<L.length)(j:P i 2=Q i 2)(k:P i 3=Q i 3):P i 8=Q i 8/\P i 9=Q i 9:=by
 by_cases e:(ae L i).kind=4;.obtain⟨a,b⟩:=f.sc i hi hi e;obtain⟨c,d⟩:=g.sc i hi hi e;grind
 .obtain⟨a,b⟩:=f.no i hi (.inr e);obtain⟨c,d⟩:=g.no i hi (.inr e);omega
def cI.uniq(g:ep s L)(b:cI L Wd H w h eW off sn P L.length)(c:cI L Wd H w h eW off sn Q L.length):∀n i,i<n->i<L.length->∀t,t<10->P i t=Q i t
 |0,i,h,_=>dg
 |n+1,i,Y,hi=>by
  have q:∀t,t<8->P i t=Q i t:=by
   by_cases e:i=0;.subst e;obtain⟨z,A,B,C,D,E,F,G⟩:=b.root;obtain⟨I,J,K,M,N,O,R,S⟩:=c.root;grind
   .obtain⟨u,k,hu,l,X,p⟩:=g.kid_of i dg hi;have a:=cI.uniq g b c n u dg dg;obtain⟨R0,R1,R2,R3,o,m⟩:=b.kr u dg dg;obtain⟨r,v,x,y,d,j⟩:=c.kr u dg dg;have f:=o.congr (a 0 dg) (a 1 dg) (a 2 dg) (a 3 dg) (a 8 dg) (a 9 dg);obtain⟨T,U,V,W⟩:=f.uniq d k l;grind[Ka]
  grind[cI.ext89]
end
def cd.size{kd t u v:Int}{L:zza}{ks:zzh}{Wd:zzb}{H:zzg}{x y w h of rm J K p:Int}{R0 R1 R2 R3 A B q r:zzb}(s:cd kd t u v L ks Wd H x y w h of rm R0 R1 R2 R3)(d:cd kd t u v L ks Wd H J K w h p rm A B q r)(j:Nat)(c:j<ks.length):
 R2 j=q j/\R3 j=r j:=by
 have a:ks≠[]:=λe=>rn;by_cases g:kd=0;.obtain⟨G,n,_,I⟩:=s.row g;obtain⟨z,b,_,o⟩:=d.row g;have hu:=(n.resolve_left a).uniq (b.resolve_left a);grind
 .by_cases k:kd=1;.obtain⟨G,n,_,I⟩:=s.col k;obtain⟨z,b,_,o⟩:=d.col k;have hu:=(n.resolve_left a).uniq (b.resolve_left a);grind
  .by_cases l:kd=3;.have e:=tZ (s.box l j c);have f:=tZ (d.box l j c);grind
   .by_cases m:kd=4;.obtain⟨C,D,E,F⟩:=s.scr m j c;obtain⟨f0,f1,f2,f3⟩:=d.scr m j c;omega
    .obtain⟨C,D,E,F⟩:=s.rest g k l m j c;obtain⟨f0,f1,f2,f3⟩:=d.rest g k l m j c;omega
section
variable{s:BY} {L:zza} {Wd:zzb} {H:zzg} {w h:Int} {eW off Zy ZV:zzb} {sn sm:Nat} {P Q:zzj}
def cI.size(p:ep s L)(g:cI L Wd H w h eW off sn P L.length)(j:cI L Wd H w h Zy ZV sm Q L.length):∀n i,i<n->i<L.length->P i 2=Q i 2/\P i 3=Q i 3/\P i 9=Q i 9
 |0,i,h,_=>dg
 |n+1,i,hn,hi=>by
  have f:P i 2=Q i 2/\P i 3=Q i 3:=by
   by_cases e:i=0;.subst e;obtain⟨F,G,I,J,K,M,N,O⟩:=g.root;obtain⟨R,S,T,U,V,W,X,Y⟩:=j.root;omega
   .obtain⟨u,k,hu,r,hc,x⟩:=p.kid_of i dg hi;obtain⟨y,z,A⟩:=cI.size p g j n u dg dg;obtain⟨R0,R1,R2,R3,v,t⟩:=g.kr u dg dg;obtain⟨B,C,D,E,m,q⟩:=j.kr u dg dg;have o:=v.congr rfl rfl y z rfl A;have Z:=o.size m k r;grind[Ka]
  refine⟨f.1,f.2,?_⟩;by_cases l:(ae L i).kind=4;.obtain⟨a,b⟩:=g.sc i hi hi l;obtain⟨c,d⟩:=j.sc i hi hi l;rw[a,c,f.1,f.2]
  .obtain⟨a,b⟩:=g.no i hi (.inr l);obtain⟨c,d⟩:=j.no i hi (.inr l);omega
end
