import Derived.Test.YtehgehanbnkdiaaGreatDoorQ38
import Derived.Test.YtehgehanbnkdiaaGreatDoorQ49
import Derived.Test.YtehgehanbnkdiaaGreatDoorQ21
import Derived.Test.YtehgehanbnkdiaaGreatDoorQ27
import Derived.Test.YtehgehanbnkdiaaGreatDoorQ22
namespace Go.Proofs.YtehgehanbnkdiaaGreatDoor
open Go.RowKit Go.Sort Go.Proofs.Tryz
set_option linter.all false
theorem gz.sz{L:zza}{p:zzb}{o:zzg}{W H:Nat}{v:Int->Int}{C:zzd}(h:gz L p o W H v C)(u:1<=W/\W<=400)(s:1<=H/\H<=400)(i:Nat)(hi:i<W*H):(tE W C i).t.size<=20:=by
 obtain⟨_,_,_,P,_,_,rfl⟩:=h;obtain⟨q,r⟩:=FE u s L P L.length;rw[fd]at hi;obtain⟨y,x,hy,d,rfl⟩:=Hy hi;rw[Bd _ y d];rcases r y x hy d with e|⟨_,e⟩;·obtain⟨_,_,_,e⟩:=(q y hy).tail x d e;rw[e];decide
 ·exact e
def Js(Q:AT)(W H:Nat)(v:Fd)(b:Prop)(C:zzd):Prop:=∃p n cap D,v=.slice p n cap/\n<=160000/\(n<=cap/\cap<=9223372036854775807)/\Pd Q p n D/\(∀i,i<n->(D i).t.size<=20)/\(b->n=W*H/\D=tE W C)
theorem Js.keep{Q Q':AT}{W H:Nat}{v:Fd}{b:Prop}{C:zzd}(h:Js Q W H v b C)(o:∀M n a:Nat,v=Sq M n a->M<Q.heap.size->Q'.heap[M]?=Q.heap[M]?):Js Q' W H v b C:=by
 obtain⟨p,n,a,D,rfl,e,f,l,m⟩:=h;refine⟨p,n,a,D,rfl,e,f,?_,m⟩;rcases l with h|⟨g,rfl,h⟩;·exact .inl h
 ·exact .inr ⟨g,rfl,h.kept λr s q=>(o g n a rfl h.cl.lt).trans q⟩
structure RZ(U U':AT)(S r n W H:Nat)(t:BY)(mv:Int->Int)(C:zzd)(v:Fd):Prop where
 ses:iI U' S W H t r v
 mp:Mp U' r n mv
 sh:Js U' W H v True C
 new:∀M n cap:Nat,v=Sq M n cap->U.heap.size<=M/\M<U'.heap.size
 fs:Fs S S U U'
set_option maxRecDepth 100000 in
set_option maxHeartbeats 4000000 in
theorem Kq(S r n W H:Nat)(t:BY)(sh:Fd)(b:Prop)(D:zzd)(l:Int->Int)(E:zzi)(U:AT)(hG:rj U E)(hA:eu U E)(hE:ri U)(ht:aY U)(hg:11<U.heap.size)(K:gm U)(hS:iI U S W H t r sh)(Z:Mp U r n l)(q:S≠r)(hn:n<=4000000000000){L:zza}(hp:bj t=.ok L){Y:zzb}{R:zzg}(hZ:Sz L Y R)(A:1<=W/\W<=400)(z:1<=H/\H<=400)(zl:Js U W H sh b D):
 Cw 11 #[Pq S] U λe U'=>∃s v C,e=Rw (.string s)/\Hid (s.size<=8000000/\(b/\D=C->s.size=0))/\gz L Y R W H l C/\RZ U U' S r n W H t l C v:=by
 have zo:prog.follows .mixedOrders=true:=pt;have I:=qH<|nscreen_any S r n W H t sh l E U hG hA hE ht hS Z hn hp hZ A z;obtain⟨p,k,c,D',rfl,h1,h2,h3,h4,h5⟩:=zl;have y:W*H=H*W:=fd _ _;have O:1<=W*H:=Nat.mul_pos A.1 z.1;have P:W*H<=400*W:=by rw[fd];exact iA _ z.2
 have UP:Hid (∀u N a C,Bq U u->Cv 46 u N W H C->gz L Y R W H l C->Pk U u N (W*H) a->Cw 35 #[.slice p k c,Iq W,Sq N (W*H) a,Iq W] u λe B=>∃s x,e=Rw (.tuple #[.string s,Iq x])/\Hid (s.size<=8000000/\(b/\D=C->s.size=0))/\Hid (Bq u B)):=λu N a C hu hC hI J=>by have h:=AK hC;rw[<-y]at h;refine(Kr D' (tE W C) k W (W*H) p N c a u dg h2 J.2 (h3.low hu) h (ht.below hu) (zz006 hg hu.size) (K.below hu hg) h4 (hI.sz A z) A ⟨O,P⟩).mono λe B ⟨s,x,q1,q2,q3,q4⟩=>⟨s,x,q1,⟨q2,fun⟨z1,z2⟩=>q3 ?_⟩,q4⟩;obtain⟨rfl,rfl⟩:=h5 z1;exact⟨rfl,λi _=>by rw[z2]⟩
 have d:Hid (∀u,Bq U u->iI u S W H t r (.slice p k c)):=λu hu=>(hu.block S hS.lt).trans hS;have zg:Hid (∀u,Bq U u->Mp u r n l):=λu hu=>Z.below hu Z.lt;have zn:=qH hS.lt;have zm:=qH q;have F:Hid (∀u N a C,Bq U u->Cv 46 u N W H C->gz L Y R W H l C->Pk U u N (W*H) a->RZ U (u.setCell (aq S 4) (Sq N (W*H) a)) S r n W H t l C (Sq N (W*H) a)):=λu N a C hu hC hI J=>by
  have zk:N≠S:=by have:=J.1;have:=hS.lt;omega
  have h:=AK (hC.keep (aH u (aq S 4) (Sq N (W*H) a) N zk));rw[<-y]at h;exact⟨heap_setCell_same _ S 4 _ _ _ (d u hu),(zg u hu).block (aH _ (aq S 4) _ r q.symm),⟨_,_,_,_,rfl,iE A.2 z.2,J.2,.inr ⟨N,rfl,h⟩,hI.sz A z,λ_=>⟨rfl,rfl⟩⟩,λM n a e=>by injection e with e;injection e with e;injection e with e;rw[<-e];exact⟨J.1,h.cl.lt⟩,(Fs.of hu).trans (Fs.set _ _ _)⟩
 clear hG hA hE ht K hg hS Z hp hZ q h1 h2 h3 h4 h5 y O P;obtain⟨m,hm⟩:=af (W*H);rw[hm]at UP I F;clear hm;go_enter func11,ntmps11;go_wp2_with(go_at_call 9;refine I.mono ?_;rintro e U1 ⟨N,a,C,rfl,zi,o,G,HB1⟩);obtain⟨d0,d1,d2,d3,d4,dz⟩:=(d U1 HB1).cell;have ze:=qH<|HB1.drew;have HP:Hid (∀u,(u=U1\/u=U1.drew)->Cw 35 #[.slice p k c,Iq W,Sq N m a,Iq W] u λe B=>∃s x,e=Rw (.tuple #[.string s,Iq x])/\Hid (s.size<=8000000/\(b/\D=C->s.size=0))/\Hid (Bq U B)/\Hid (Cv 46 B N W H C)):=λu hu=>by
  have hb:Bq U u:=by rcases hu with rfl|rfl<;>first|exact HB1.out|exact ze.out
  have h:Cv 46 u N W H C:=by rcases hu with rfl|rfl<;>exact zi.out.keep rfl
  exact(UP u N a C hb h o G.out).mono λe B ⟨s,x,q1,q2,q3⟩=>⟨s,x,q1,q2,hb.trans (q3.out.mono hb.size),h.below q3⟩
 clear d1 d2 d3 dz;go_region_held(λW'=>W'.cell? (aq S 0)=some (Iq W)/\W'.cell? (aq S 4)=some (.slice p k c)) (go_keep) (first
  |(go_at_call 35;refine ag (HP _ (by first|exact .inl rfl|exact .inr rfl)) ?_;rintro e V ⟨s,x,rfl,zh,f,zj⟩;have n0:=(d V f).cell.1;have n4:=(d V f).cell.2.2.2.2.1));all_goals clear d0 d4;have nz:=(d V f).cell.2.2.2.2.2;go_wp2;go_ret;exact⟨s,_,C,rfl,zh,o,F V N a C f zj o G⟩
end Go.Proofs.YtehgehanbnkdiaaGreatDoor
namespace Go.Proofs.YtehgehanbnkdiaaGreatDoor
open Go.RowKit Go.Sort Go.Proofs.Tryz
set_option linter.all false
structure Ed(U:AT)(E:zzi):Prop where
 glo:rj U E
 apart:eu U E
 ert:ri U
 tab:aY U
 tens:gm U
 g1:11<U.heap.size
theorem Ed.below{U Q:AT}{E:zzi}(h:Ed U E)(a:Bq U Q):Ed Q E:=
 ⟨h.glo.cells a,h.apart.below a,h.ert.below a,h.tab.below a,h.tens.below a h.g1,zz006 h.g1 a.size⟩
structure KG(g:Nat->Nat)(i:Nat)(w w':AT):Prop where
 os:w'.os=w.os
 tape:w'.tape=w.tape
 output:w'.output=w.output
 size:w.heap.size<=w'.heap.size
 block:∀b,b<w.heap.size->g b≠i->w'.heap[b]?=w.heap[b]?
def kx(g:Nat->Nat)(w:AT)(i b:Nat):Nat:=if b<w.heap.size then g b else i
theorem aV{g:Nat->Nat}{w:AT}{i b:Nat}(h:b<w.heap.size):kx g w i b=g b:=if_pos h
theorem ef{g:Nat->Nat}{w:AT}{i b:Nat}(h:w.heap.size<=b):kx g w i b=i:=if_neg dg
section
variable{g g0:Nat→Nat} {i j S Q T X:Nat} {w w' w0:AT}
theorem KG.of(h:Bq w w'):KG g i w w':=⟨h.os,h.tape,h.output,h.size,λb a _=>h.block b a⟩
theorem KG.fs{r:Nat}(h:Fs S r w w')(a:g S=i)(c:g r=i):KG g i w w':=⟨h.os,h.tape,h.output,h.size,λb d n=>h.block b d (λe=>n (e▸a)) λe=>n (e▸c)⟩
theorem KG.gb(h:w.grownBy w' (some Q))(a:g Q=i):KG g i w w':=⟨h.os,h.tape,h.output,h.size,λb c n=>h.block b c λe=>n (by injection e with e;rw[e];exact a)⟩
theorem KG.set(b o:Nat)(v:Fd)(h:g b=i):KG g i w (w.setCell (aq b o) v):=⟨rfl,rfl,rfl,by simp[World.setCell],λc _ n=>aH _ _ _ c λe=>n (by rw[e];exact h)⟩
theorem KG.k2{v:Fd}(h:TW Q v w w')(a:g Q=i)(c:∀b,v.ownBlock=some b->g b=i):KG g i w w':=⟨h.os,h.tape,h.output,h.size,λb d n=>h.block b d (λe=>n (e▸a)) λe=>n (c b e)⟩
theorem KG.k3{M B:Nat}(h:K3 T M B w w')(o:g T=i)(p:g M=i)(q:g B=i):KG g i w w':=⟨h.os,h.tape,h.output,h.size,λb r n=>h.block b r (λe=>n (e▸o)) (λe=>n (e▸p)) λe=>n (e▸q)⟩
structure sL(w0:AT)(g0 g:Nat->Nat)(w:AT):Prop where
 os:w.os=w0.os
 tape:w.tape=w0.tape
 output:w.output=w0.output
 size:w0.heap.size<=w.heap.size
 tag:∀b,b<w0.heap.size->g b=g0 b
 block:∀b,b<w0.heap.size->g0 b=0->w.heap[b]?=w0.heap[b]?
theorem sL.refl(w:AT)(g:Nat->Nat):sL w g g w:=⟨rfl,rfl,rfl,ad _,λ_ _=>rfl,λ_ _ _=>rfl⟩
theorem sL.step(h:sL w0 g0 g w)(k:KG g j w w')(hi:j≠0):sL w0 g0 (kx g w i) w':=by have c:=h.size;refine⟨k.os.trans h.os,k.tape.trans h.tape,k.output.trans h.output,az c k.size,λb a=>(aV dg).trans (h.tag b a),λb a e=>(k.block b dg ?_).trans (h.block b a e)⟩;rw[h.tag b a,e];exact hi.symm
theorem sL.trans{c:Nat->Nat}{d:AT}(h:sL w0 g0 c d)(k:sL d c g w):sL w0 g0 g w:=by have f:=h.size;exact⟨k.os.trans h.os,k.tape.trans h.tape,k.output.trans h.output,az f k.size,λb a=>(k.tag b dg).trans (h.tag b a),λb a e=>(k.block b dg (by rw[h.tag b a,e])).trans (h.block b a e)⟩
theorem sL.below{U:AT}(h:sL w0 g0 g w)(a:Bq U w0)(d:∀b,b<U.heap.size->g0 b=0):Bq U w:=by have e:=a.size;exact⟨h.os.trans a.os,h.tape.trans a.tape,h.output.trans a.output,az e h.size,λb l=>(h.block b dg (d b l)).trans (a.block b l)⟩
structure sI(g:Nat->Nat)(S:Nat)(w:AT)(W H r n:Nat)(t:BY)(sh:Fd)(mv:Int->Int)(b:Prop)(C:zzd):Prop where
 ses:iI w S W H t r sh
 mp:Mp w r n mv
 kn:Js w W H sh b C
 tr:∃L,bj t=.ok L
 wh:(1<=W/\W<=400)/\1<=H/\H<=400
 ne:S≠r
 tg:g S=1/\g r=1
 tv:∀M n cap:Nat,sh=Sq M n cap->M<w.heap.size/\g M=1/\M≠S/\M≠r
theorem sI.keep{W H r n:Nat}{t:BY}{sh:Fd}{m:Int->Int}{b:Prop}{C:zzd}(h:sI g S w W H r n t sh m b C)(k:KG g j w w')(o:j≠1):sI (kx g w i) S w' W H r n t sh m b C:=by have f:∀b,g b=1->g b≠j:=λb e q=>o (q▸e);exact⟨(k.block S h.ses.lt (f _ h.tg.1)).trans h.ses,h.mp.block (k.block r h.mp.lt (f _ h.tg.2)),h.kn.keep λM n a e l=>k.block M l (f _ (h.tv M n a e).2.1),h.tr,h.wh,h.ne,⟨(aV h.ses.lt).trans h.tg.1,(aV h.mp.lt).trans h.tg.2⟩,λM n a e=>⟨zz006 (h.tv M n a e).1 k.size,(aV (h.tv M n a e).1).trans (h.tv M n a e).2.1,(h.tv M n a e).2.2⟩⟩
def Jq(g:Nat->Nat)(Q:Nat)(w:AT)(fr:Bool)(k:Nat):Prop:=∃t p q v m,xD Q t p q v m fr w/\m<=k/\g Q=2/\∀b,v.ownBlock=some b->g b=2
theorem xD.lt{t:BY}{p q:Int}{v:Fd}{m:Nat}{fr:Bool}(h:xD Q t p q v m fr w):Q<w.heap.size:=(aj.1 h.sb).1
theorem KR.keepb{B n s:Nat}{e:TypeId}{v:Fd}{P:Nat->Fd->Prop}(h:KR w B e s v n P)(p:∀b,v.ownBlock=some b->b<w.heap.size->w'.heap[b]?=w.heap[b]?):KR w' B e s v n P:=by
 obtain⟨q,h,o⟩:=h;refine⟨q,⟨h.1,?_⟩,o⟩;rcases h.2 with m|⟨c,f,l,a,b,d,e⟩;·exact .inl m
 ·exact .inr ⟨c,f,l,a,b,(p c (by rw[a];rfl) (aj.1 d).1).trans d,e⟩
theorem KR.ownlt{B n s:Nat}{e:TypeId}{v:Fd}{P:Nat->Fd->Prop}(h:KR w B e s v n P){b:Nat}(a:v.ownBlock=some b):b<w.heap.size:=by obtain⟨c,h,_⟩:=h;exact(h.lt b a).2
theorem Jq.keep{fr:Bool}{k:Nat}(h:Jq g Q w fr k)(q:KG g j w w')(u:j≠2):Jq (kx g w i) Q w' fr k:=by obtain⟨t,p,x,v,m,d,s,f,o⟩:=h;have r:∀b,g b=2->g b≠j:=λb e q=>u (q▸e);exact⟨t,p,x,v,m,⟨(q.block Q d.lt (r _ f)).trans d.sb,d.of.keepb λb e l=>q.block b l (r _ (o b e))⟩,s,(aV d.lt).trans f,λb e=>(aV (d.of.ownlt e)).trans (o b e)⟩
def Jr(g:Nat->Nat)(T:Nat)(w:AT)(n F:Nat):Prop:=∃K M cap W H b B bc hf,jK T K M cap W H n b B bc hf w/\4<=b/\b+4*hf.size<=F/\g T=3/\g K=3/\g M=3/\g B=3
theorem jK.lts{K M a W H n b B c:Nat}{d:BY}(h:jK T K M a W H n b B c d w):T<w.heap.size/\K<w.heap.size/\M<w.heap.size/\B<w.heap.size:=⟨h.tb.1,klt h.kk.c0,h.kk.kb.1,h.bb.1⟩
theorem Jr.keep{n F:Nat}(h:Jr g T w n F)(q:KG g j w w')(C:j≠3):Jr (kx g w i) T w' n F:=by obtain⟨K,M,f,W,H,b,B,x,A,c,y,z,t1,t2,t3,t4⟩:=h;have d:∀b,g b=3->g b≠j:=λb e q=>C (q▸e);obtain⟨r,s,t,u⟩:=c.lts;exact⟨K,M,f,W,H,b,B,x,A,⟨c.tb.of q.size (q.block T r (d _ t1)),c.kk.of q.size (q.block K s (d _ t2)) (q.block M t (d _ t3)),c.bb.of q.size (q.block B u (d _ t4)),c.ne⟩,y,z,(aV r).trans t1,(aV s).trans t2,(aV t).trans t3,(aV u).trans t4⟩
def Pf(g:Nat->Nat)(X S Q T:Nat)(w:AT)(fr:Bool)(n:Nat):Prop:=∃p m cap,w.heap[X]?=some (.cells #[Pq S,Pq Q,Pq T,.slice p m cap] 36 (0,0))/\g X=4/\m<=160000/\(0<m->∃M,p=some (aq M 0)/\g M=0/\KB w M (m*5) (xC m 20))/\(fr=false->m=n)
theorem Pf.keep{fr:Bool}{n:Nat}(h:Pf g X S Q T w fr n)(q:KG g j w w')(r:j≠4)(s:j≠0):Pf (kx g w i) X S Q T w' fr n:=by obtain⟨p,m,a,c,d,o,u,v⟩:=h;have l:=(aj.1 c).1;refine⟨p,m,a,(q.block X l (by rw[d];exact r.symm)).trans c,(aV l).trans d,o,λx=>?_,v⟩;obtain⟨M,e,t,k⟩:=u x;exact⟨M,e,(aV k.1).trans t,k.of q.size (q.block M k.1 (by rw[t];exact s.symm))⟩
structure KX(U w0:AT)(g0:Nat->Nat)(X S Q T k:Nat)(fr:Bool)(n:Nat)(g:Nat->Nat)(w:AT):Prop where
 z:sL w0 g0 g w
 b:Bq U w
 t0:∀b,b<U.heap.size->g b=0
 p1:∃W H r n t sh mv C,n<=k/\sI g S w W H r n t sh mv False C
 p2:Jq g Q w fr k
 p3:Jr g T w n (4+k*32000000)
 p4:Pf g X S Q T w fr n
variable{U:AT} {k k' n:Nat} {fr:Bool}
theorem Jq.mono(h:Jq g Q w fr k)(e:k<=k'):Jq g Q w fr k':=by obtain⟨t,p,c,v,m,a,d,b⟩:=h;exact⟨t,p,c,v,m,a,dg,b⟩
theorem Jr.mono{F a:Nat}(h:Jr g T w n F)(m:F<=a):Jr g T w n a:=by obtain⟨K,M,cap,W,H,b,B,c,f,d,e,l,t⟩:=h;exact⟨K,M,cap,W,H,b,B,c,f,d,e,dg,t⟩
theorem KG.bel(q:KG g j w w')(a:j≠0)(b:Bq U w)(t:∀b,b<U.heap.size->g b=0):Bq U w'/\∀b,b<U.heap.size->kx g w i b=0:=by have d:=b.size;exact⟨⟨q.os.trans b.os,q.tape.trans b.tape,q.output.trans b.output,az d q.size,λc l=>(q.block c dg (by rw[t c l];exact a.symm)).trans (b.block c l)⟩,λc l=>(aV dg).trans (t c l)⟩
theorem KX.bz(h:KX U w0 g0 X S Q T k fr n g w)(q:KG g j w w')(a:j≠0):sL w0 g0 (kx g w i) w'/\Bq U w'/\∀b,b<U.heap.size->kx g w i b=0:=⟨h.z.step q a,q.bel a h.b h.t0⟩
theorem KX.mono(h:KX U w0 g0 X S Q T k fr n g w)(e:k<=k'):KX U w0 g0 X S Q T k' fr n g w:=by obtain⟨W,H,r,n,t,sh,f,C,l,p⟩:=h.p1;exact⟨h.z,h.b,h.t0,⟨W,H,r,n,t,sh,f,C,dg,p⟩,h.p2.mono e,h.p3.mono dg,h.p4⟩
def fW(U w0:AT)(g0:Nat->Nat)(X S Q T k:Nat)(fr:Bool)(n:Nat)(w:AT):Prop:=∃g,KX U w0 g0 X S Q T k fr n g w
theorem KX.of1(h:KX U w0 g0 X S Q T k fr n g w)(q:KG g 1 w w')(p:∃W H r n t sh b C,n<=k'/\sI (kx g w 1) S w' W H r n t sh b False C)(a:k<=k'):fW U w0 g0 X S Q T k' fr n w':=by obtain⟨c,d,e⟩:=h.bz (i:=1) q (by decide);exact⟨_,c,d,e,p,(h.p2.keep q (by decide)).mono a,(h.p3.keep q (by decide)).mono dg,h.p4.keep q (by decide) (by decide)⟩
theorem KX.k1(h:KX U w0 g0 X S Q T k fr n g w)(q:KG g j w w')(b:j≠1)(c:k<=k'):∃W H r n t sh a C,n<=k'/\sI (kx g w i) S w' W H r n t sh a False C:=by obtain⟨W,H,r,n,t,sh,a,C,l,p⟩:=h.p1;exact⟨W,H,r,n,t,sh,a,C,dg,p.keep q b⟩
theorem KX.of2{d:Bool}(h:KX U w0 g0 X S Q T k fr n g w)(q:KG g 2 w w')(p:Jq (kx g w 2) Q w' d k')(l:k<=k')(f:d=false->fr=false):fW U w0 g0 X S Q T k' d n w':=by obtain⟨m,o,r⟩:=h.bz (i:=2) q (by decide);obtain⟨a,b,c,d1,d2,d3,d4,d5⟩:=h.p4.keep (i:=2) q (by decide) (by decide);exact⟨_,m,o,r,h.k1 q (by decide) l,p,(h.p3.keep q (by decide)).mono dg,a,b,c,d1,d2,d3,d4,λe=>d5 (f e)⟩
theorem KX.of3{f:Nat}(h:KX U w0 g0 X S Q T k fr n g w)(q:KG g 3 w w')(p:Jr (kx g w 3) T w' f (4+k'*32000000))(o:k<=k')(r:fr=false->f=n):fW U w0 g0 X S Q T k' fr f w':=by obtain⟨s,t,u⟩:=h.bz (i:=3) q (by decide);obtain⟨a,b,c,d1,d2,d3,d4,d5⟩:=h.p4.keep (i:=3) q (by decide) (by decide);exact⟨_,s,t,u,h.k1 q (by decide) o,(h.p2.keep q (by decide)).mono o,p,a,b,c,d1,d2,d3,d4,λe=>(d5 e).trans (r e).symm⟩
theorem KX.base{l:AT}{e:Nat->Nat}(h:KX U l e X S Q T k fr n g w)(z:sL w0 g0 e l):KX U w0 g0 X S Q T k fr n g w:=⟨z.trans h.z,h.b,h.t0,h.p1,h.p2,h.p3,h.p4⟩
theorem KX.pure(h:KX U w0 g0 X S Q T k fr n g w)(b:Bq w w'):KX U w0 g0 X S Q T k fr n (kx g w 0) w':=by obtain⟨a,c,d⟩:=h.bz (i:=0) (KG.of (i:=9) b) (by decide);exact⟨a,c,d,h.k1 (KG.of (i:=9) b) (by decide) (ad _),h.p2.keep (KG.of (i:=9) b) (by decide),h.p3.keep (KG.of (i:=9) b) (by decide),h.p4.keep (KG.of (i:=9) b) (by decide) (by decide)⟩
end
end Go.Proofs.YtehgehanbnkdiaaGreatDoor
namespace Go.Proofs.YtehgehanbnkdiaaGreatDoor
open Go.RowKit Go.Sort Go.Proofs.Tryz
set_option linter.all false
theorem Ci.kj{L:zza}{w:AT}{g:Nat}(h:Ci w g L.length (ae L))(hG:Mr L)(s:L.length<=100):uf w g L.length:=by
 refine⟨s,λk b=>?_⟩;obtain⟨ab,v,q⟩:=h.nd k b;obtain⟨p,c,rfl,r⟩:=q.kids;obtain⟨hu,t,u,m⟩:=hG k b;refine⟨(ae L k).kind,ab,⟨(ae L k).text.toArray⟩,p,(ae L k).kids.length,c,_,by simpa[ByteArray.size]using t,dg,hu,λW a=>?_,λj o=>⟨_,λW a=>(a.cell (p:=(aq ab j)) q.lab).trans (q.att j o)⟩,λi hi=>?_⟩;·exact⟨(a.cell (p:=(aq g _)) h.lt).trans q.c0,(a.cell (p:=(aq g _)) h.lt).trans q.c1,(a.cell (p:=(aq g _)) h.lt).trans q.c2,(a.cell (p:=(aq g _)) h.lt).trans q.c3,(a.cell (p:=(aq g _)) h.lt).trans q.c4⟩
 ·rcases r with r|⟨d,e,rfl,f,l⟩;·rw[r]at hi;simp at hi
  ·have:=m (ae L k).kids[i] (iB hi);exact⟨d,e,(ae L k).kids[i],rfl,this.1,this.2,λW a=>(a.cell (p:=(aq d (e+i))) f).trans (by rw[l i hi];simp[hi])⟩
theorem rI(b B:Nat)(s:BY)(a:s.size<=4000):∀f,Q0 b B s f
 |0=>λup l w i n d at_ h e m=>by have:=h.c.2.2;omega
 |f+1=>Qk (rI b B s a f) a
set_option maxRecDepth 100000 in
set_option maxHeartbeats 4000000 in
theorem Gm(s:BY)(w:AT):Cw 13 #[.string s] w λe w'=>Q_ w e w':=by
 by_cases hl:4000<s.size
 ·have J:(4000:Int)<(s.size:Int):=dg
  go_enter func13,ntmps13;go_wp2;refine bodyPost_ret (v:=.tuple #[.slice none 0 0,Iq 1,Iq 0]) (by simp[results,Tryz.results13,go_sem]) rfl ?_;exact⟨ac _ _,.inl ⟨_,_,_,rfl,by decide⟩⟩
 have J:¬(4000:Int)<(s.size:Int):=dg;have W:s.size<=4000:=dg;obtain⟨l,u⟩:=af w.heap.size;obtain⟨o,m⟩:=af (w.alloc (.cells #[.string s,Iq 0,.slice none 0 0,Iq (-1),Iq 0,Iq (-1),Iq 0] 98));have O:Hid (qB o l (l+1) s 0 0 (-1) (-1) o):=by
  have a:o.heap[l]?=some (.cells #[.string s,Iq 0,.slice none 0 0,Iq (-1),Iq 0,Iq (-1),Iq 0] 98 (0,0)):=by rw[<-m,<-u];exact heap_alloc_new _ _
  have zi:o.heap.size=l+1:=by rw[<-m,ai,u]
  exact⟨.slice none 0 0,[],λ_=>0,λ_=>.slice none 0 0,⟨aP _,0,0,⟨dg,by simp[World.cell?,a],by simp[World.cell?,a],by simp[World.cell?,a],by simp[World.cell?,a],by simp[World.cell?,a],by simp[World.cell?,a],by simp[World.cell?,a],λj=>frozen_of_row _ _ _ _ _ a⟩,λe=>absurd e (by decide)⟩,RD.nothing _ _ _ _,rfl,ad _,λ_=>by decide,λk V=>absurd V At,⟨dg,dg⟩,Fr.refl _ _ _⟩
 have p:Hid (∀w',Fr (l+1) l o w'->Bq w w'):=λw' f=>by
  have b0:Bq w o:=by rw[<-m];exact(ac _ _).alloc (ad _) _
  exact b0.trans ⟨f.os,f.tape,f.output,f.size,λk V=>f.block k dg dg⟩
 have M:=qH (rI l (l+1) s W (s.size+1) (-1) o o 0 0 (-1) (-1) O.out (.inl rfl) dg);clear O;go_enter func13,ntmps13;go_wp2_with fail;clear m u;refine M.out.mono ?_;rintro e w1 ⟨rfl,R⟩;obtain⟨i1,n1,b1,a1,⟨lv,L,AV,KV,F⟩,_,_,Z⟩:=R.out;go_wp2_with fail;refine(rJ F.j W).mono ?_;rintro e K ⟨rfl,N⟩;obtain⟨Y,C,B,⟨rfl,rfl⟩,l2,_,_,h⟩:=F.on N;obtain⟨c1,c2,c3⟩:=h.j.c;have zh:=h.j.1;obtain⟨x,c4,c5,I⟩:∃x,K.cell? (aq l 4)=some (Iq x)/\K.cell? (aq l 5)=some (Iq B)/\(0<=B->x≠0):=by obtain⟨_,x,ze,r,e⟩:=h.j;exact⟨x,r.c4,r.c5,e⟩
 replace I:=qH I;have P1:=qH Z;replace h:=qH h;clear R N F M Z;have z:Hid (∀w3 (y:Int),K.grownBy w3 (some l)->Q_ w (.returned (.tuple #[.slice none 0 0,Iq 2,Iq y])) w3):=λw3 y g=>⟨p.out _ (h.out.fr.trans (Fr.grown g h.out.b.2)),.inl ⟨_,_,_,rfl,by decide⟩⟩;by_cases H:C<0;rotate_right
 ·have eb:=decide_eq_false H;have t:(0:Int)<=C:=dg
  have q:=decide_eq_true t;go_wp2_with fail;go_quiet(fail);go_wp2;refine bodyPost_ret (v:=.tuple #[.slice none 0 0,Iq 2,Iq C]) (by simp[results,Tryz.results13,go_sem]) rfl ?_;exact z.out _ _ (a_ _ _ _)
 have eb:=decide_eq_true H;by_cases A:(Y:Int)<(s.size:Int);·have el:=decide_eq_true A;go_wp2_with fail;refine(rH h.out.j (Y:Int)).mono ?_;rintro e w3 ⟨rfl,i3,b3,a3,P,⟨_,_,_,D⟩,_,z3⟩;have k3:=P.c.2.2;have t:=z3 dg;have q:=decide_eq_true t;replace D:=qH D;clear P z3 c1 c2 c3 c4 c5;go_wp2_with fail;go_quiet(fail);go_wp2;refine bodyPost_ret (v:=.tuple #[.slice none 0 0,Iq 2,Iq b3]) (by simp[results,Tryz.results13,go_sem]) rfl ?_;exact z.out _ _ (gr_trans D (a_ _ _ _))
 have el:=decide_eq_false A;have zg:decide ((0:Int)<=C)=false:=decide_eq_false dg;by_cases G:(0:Int)<=B;·have q:=decide_eq_true G;go_wp2_with fail;go_quiet(fail);go_wp2;refine bodyPost_ret (v:=.tuple #[.slice none 0 0,Iq x,Iq B]) (by simp[results,Tryz.results13,go_sem]) rfl ?_;exact⟨p.out _ (h.out.fr.trans (Fr.drewN _ _ _ _)),.inl ⟨_,_,_,rfl,I.out G⟩⟩
 have q:=decide_eq_false G;go_wp2;refine bodyPost_ret (v:=.tuple #[lv,Iq 0,Iq 0]) (by simp[results,Tryz.results13,go_sem]) rfl ?_;have hd:=h.out.d;have hn:=h.out.ln;have hp:=(P1.out H).2;obtain⟨g,cap,rfl,_,hg,_⟩:=hd.nr.form dg;exact⟨p.out _ h.out.fr,.inr ⟨g,L.length,cap,rfl,dg,(hd.nds hg).kj h.out.g (by have:=h.out.cnt dg;omega)⟩⟩
end Go.Proofs.YtehgehanbnkdiaaGreatDoor
namespace Go.Proofs.YtehgehanbnkdiaaGreatDoor
open Go.RowKit Go.Sort Go.Proofs.Tryz
set_option linter.all false
section
variable{U w0 w w':AT} {E:Nat→Addr} {g0 g:Nat→Nat} {X S Q T k n:Nat} {fr:Bool}
theorem sI.put{W H r n h:Nat}{t d:BY}{sh:Fd}{s c:Int->Int}{b:Prop}{C:zzd}(p:sI g S w W H r n t sh s b C)(f:Fs S r w w')(m:iI w' S W H d r sh)(o:Mp w' r h c)(q:∃L,bj d=.ok L):sI (kx g w 1) S w' W H r h d sh c b C:=
 ⟨m,o,p.kn.keep λM n a e l=>f.block M l (p.tv M n a e).2.2.1 (p.tv M n a e).2.2.2,q,p.wh,p.ne,⟨(aV p.ses.lt).trans p.tg.1,(aV p.mp.lt).trans p.tg.2⟩,λM n a e=>⟨zz006 (p.tv M n a e).1 f.size,(aV (p.tv M n a e).1).trans (p.tv M n a e).2.1,(p.tv M n a e).2.2⟩⟩
theorem Sd(hG:Ed U E)(h:fW U w0 g0 X S Q T k fr n w)(s:BY):Cw 8 #[Pq S,.string s] w λe w'=>(∃x y:Int,e=Rw (.tuple #[Iq x,Iq y]))/\fW U w0 g0 X S Q T k fr n w':=by
 obtain⟨g,h⟩:=h;obtain⟨W,H,r,m,t,sh,f,C,d,p⟩:=h.p1;have q:=hG.below h.b;refine(pK S r m W H t sh f s E w q.glo q.apart q.ert p.ses p.mp p.ne).mono λe w' z=>?_;cases a:bj s with
 |error x=>rw[a]at z;exact⟨⟨_,_,z.1⟩,_,h.pure z.2⟩
 |ok L=>rw[a]at z;obtain⟨l,o,u,c⟩:=z;exact⟨⟨_,_,l⟩,h.of1 (KG.fs c p.tg.1 p.tg.2) ⟨W,H,r,m,s,sh,_,C,d,p.put c o u ⟨L,a⟩⟩ (ad _)⟩
theorem sI.sz{W H r n:Nat}{t:BY}{sh:Fd}{h:Int->Int}{b:Prop}{C:zzd}(p:sI g S w W H r n t sh h b C):∃L c a,bj t=.ok L/\eq t L/\Sz L c a:=by obtain⟨L,e⟩:=p.tr;have d:=eL (dW e);obtain⟨c,a,f⟩:=Nh d.nest;exact⟨L,c,a,e,d,f⟩
theorem JI(hG:Ed U E)(h:fW U w0 g0 X S Q T k fr n w)(P:k<=4000000000000)(id a:Int)(s:ff id)(u:ff a):Cw 14 #[Pq S,Iq id,Iq a] w λe w'=>(∃x:Int,e=Rw (Iq x))/\fW U w0 g0 X S Q T (k+1) fr n w':=by
 obtain⟨g,h⟩:=h;obtain⟨W,H,r,m,t,sh,B,C,R,p⟩:=h.p1;have q:=hG.below h.b;obtain⟨L,J,I,A,y,l⟩:=p.sz;obtain⟨c,d,f,v⟩:=LJ y l W H id;obtain⟨⟨K,M⟩,N,O⟩:=p.wh;refine(vN S r m W H t sh B id c a E w q.glo q.apart q.ert q.tab p.ses p.mp p.ne dg A l dg s u ⟨d,f⟩ v).mono λe w' z=>?_;unfold Ri at z;split at z;·exact⟨⟨_,z.1⟩,_,(h.pure z.2).mono dg⟩
 ·obtain⟨D,F,G,o⟩:=z;exact⟨⟨_,D⟩,h.of1 (KG.fs o p.tg.1 p.tg.2) ⟨W,H,r,m+1,t,sh,_,C,dg,p.put o F G p.tr⟩ dg⟩
theorem Js.weak{W H:Nat}{v:Fd}{b c:Prop}{C:zzd}(h:Js w W H v b C)(r:c->b):Js w W H v c C:=by obtain⟨p,n,a,D,d,e,f,l,m,o⟩:=h;exact⟨p,n,a,D,d,e,f,l,m,λq=>o (r q)⟩
theorem sI.shown{W H r n:Nat}{t:BY}{sh v:Fd}{c:Int->Int}{b d:Prop}{C D:zzd}(p:sI g S w W H r n t sh c b C)(z:RZ w w' S r n W H t c D v):sI (kx g w 1) S w' W H r n t v c d D:=by have f:=p.ses.lt;have h:=p.mp.lt;exact⟨z.ses,z.mp,z.sh.weak λ_=>trivial,p.tr,p.wh,p.ne,⟨(aV f).trans p.tg.1,(aV h).trans p.tg.2⟩,λM n a e=>⟨(z.new M n a e).2,ef (z.new M n a e).1,by have:=(z.new M n a e).1;omega,by have:=(z.new M n a e).1;omega⟩⟩
theorem JG(hG:Ed U E)(h:fW U w0 g0 X S Q T k fr n w)(A:k<=4000000000000):Cw 11 #[Pq S] w λe w'=>(∃s:BY,e=Rw (.string s)/\Hid (s.size<=8000000))/\fW U w0 g0 X S Q T k fr n w':=by obtain⟨g,h⟩:=h;obtain⟨W,H,r,m,t,sh,a,C,f,p⟩:=h.p1;have q:=hG.below h.b;obtain⟨L,y,x,l,z,d⟩:=p.sz;refine(Kq S r m W H t sh False C a E w q.glo q.apart q.ert q.tab q.g1 q.tens p.ses p.mp p.ne dg l d p.wh.1 p.wh.2 p.kn).mono λe w' ⟨s,v,D,o,u,B,c⟩=>⟨⟨s,o,u.out.1⟩,h.of1 (KG.fs c.fs p.tg.1 p.tg.1) ⟨W,H,r,m,t,v,a,D,f,p.shown c⟩ (ad _)⟩
theorem sI.sized{W H r n x y:Nat}{t:BY}{sh:Fd}{c:Int->Int}{b:Prop}{C:zzd}(p:sI g S w W H r n t sh c b C)(f:1<=x/\x<=400)(hy:1<=y/\y<=400)(h:iI w' S x y t r (.slice none 0 0))(l:Fs S S w w'):sI (kx g w 1) S w' x y r n t (.slice none 0 0) c False C:=by have a:=p.mp.lt;exact⟨h,p.mp.block (l.block r a p.ne.symm p.ne.symm),⟨none,0,0,λ_=>⟨⟨#[]⟩,0,0,0,0⟩,rfl,dg,dg,.inl rfl,λi hi=>dg,λq=>q.elim⟩,p.tr,⟨f,hy⟩,p.ne,⟨(aV p.ses.lt).trans p.tg.1,(aV a).trans p.tg.2⟩,λM n d e=>by cases e⟩
theorem JH(h:fW U w0 g0 X S Q T k fr n w)(x y:Int):Cw 7 #[Pq S,Iq x,Iq y] w λe w'=>(∃x:Int,e=Rw (Iq x))/\fW U w0 g0 X S Q T k fr n w':=by
 by_cases c:1<=x/\x<=400/\1<=y/\y<=400;·obtain⟨g,h⟩:=h;obtain⟨W,H,r,m,t,sh,u,C,s,p⟩:=h.p1;obtain⟨x,rfl⟩:=cU (by omega:0<=x);obtain⟨y,rfl⟩:=cU (by omega:0<=y);exact(kM S r W H x y t sh c w p.ses).mono λe w' ⟨l,o,q⟩=>⟨⟨_,l⟩,h.of1 (KG.fs q p.tg.1 p.tg.1) ⟨x,y,r,m,t,_,u,C,s,p.sized dg dg o q⟩ (ad _)⟩
 ·exact(nh S x y c w).mono λe w' ⟨l,o⟩=>⟨⟨_,l⟩,by rw[o];exact h⟩
theorem KR.ko{B m:Nat}{v:Fd}(h:KR w B 112 2 v m KZ){u:AT}(hu:Bq w u):Q9 u v m:=by obtain⟨p,c,rfl,o⟩:=h.sl;refine⟨p,c,rfl,λj q=>?_⟩;obtain⟨d,rfl,_,K⟩:=o dg;obtain⟨a,e⟩:=(K.below hu).z (j:=j*2) dg;obtain⟨b,l⟩:=(K.below hu).z (j:=j*2+1) dg;exact⟨a,b,d,0,rfl,klt e,λW f=>by rw[ci];exact⟨(f.cell (p:=(aq d (j*2))) (klt e)).trans e,(f.cell (p:=(aq d (j*2+1))) (klt l)).trans l⟩⟩
theorem UV{t:BY}{p q:Int}{v:Fd}{m:Nat}(h:xD Q t p q v m fr w)(d:m<=1099511627776)(u:AT)(hu:Bq w u):Cw 49 #[.string t,Iq p,Iq q,v] u λe l=>Mt p q u e l:=
 Kh (Gm t u) (λw' g n cap c o N r pc W f b a=>by have:=Qr (cap:=cap) (pc:=pc) N (h.of.ko (hu.trans (c.mono hu.size))) d f n 0 dg dg W b a;exact this) p q
theorem PF(h:fW U w0 g0 X S Q T k fr n w)(D:k<=1099511627776)(s:BY):Cw 19 #[Pq Q,.string s] w λe w'=>(∃x y:Int,e=Rw (.tuple #[Iq x,Iq y]))/\fW U w0 g0 X S Q T k fr n w':=by
 obtain⟨g,h⟩:=h;obtain⟨t,p,q,v,m,a,C,c,d⟩:=h.p2;refine(Qy a (Gm s w) dg).mono λe w' ⟨r,l,o,f,u,F,A,B⟩=>⟨r,h.of2 (KG.gb A c) ⟨l,p,q,o,f,u,dg,(aV a.lt).trans c,λb e=>?_⟩ (ad _) id⟩;rcases B b e with z|z;·exact(aV (a.of.ownlt z)).trans (d b z)
 ·exact ef z
theorem E8(h:fW U w0 g0 X S Q T k fr n w)(B:k<=1000000000000)(id a:Int):Cw 20 #[Pq Q,Iq id,Iq a] w λe w'=>(∃x:Int,e=Rw (Iq x))/\fW U w0 g0 X S Q T (k+1) fr n w':=by
 obtain⟨g,h⟩:=h;obtain⟨t,p,q,v,m,c,A,d,f⟩:=h.p2;refine(Gv c (UV c dg) dg id a).mono λe w' ⟨r,o,l,s,C,u,y⟩=>⟨r,h.of2 (KG.k2 u d f) ⟨t,p,q,o,l,s,dg,(aV c.lt).trans d,λb e=>?_⟩ dg λq=>q⟩;rcases y b e with z|z;·exact(aV (c.of.ownlt z)).trans (f b z)
 ·exact ef z
theorem EY(h:fW U w0 g0 X S Q T k fr n w)(x y:Int):Cw 41 #[Pq Q,Iq x,Iq y] w λe w'=>∃(z:Int) (a:Bool),e=Rw (Iq z)/\Hid (z=0->a=true)/\fW U w0 g0 X S Q T k a n w':=by obtain⟨g,h⟩:=h;obtain⟨t,p,q,v,m,d,D,f,o⟩:=h.p2;refine(Gp d x y).mono λe w' ⟨⟨z,l⟩,r,s,a,u,A,B,C⟩=>⟨z,a,l,λe=>C (by rw[l,e]),h.of2 (KG.gb A f) ⟨t,r,s,v,m,u,dg,(aV d.lt).trans f,λb e=>(aV (d.of.ownlt e)).trans (o b e)⟩ (ad _) B⟩
def Pe(w:AT)(p:zze)(m:Nat):Prop:=m<=160000/\(0<m->∃M,p=some (aq M 0)/\KB w M (m*5) (xC m 20))
theorem E0(h:KX U w0 g0 X S Q T k fr n g w)(A:k<=1000000000000):Cw 26 #[Pq Q] w λe w'=>∃p m a,e=Rw (.slice p m a)/\Hid (Pe w' p m/\∀M o,p=some (aq M o)->0<m->w.heap.size<=M)/\KX U w0 g0 X S Q T k fr n (kx g w 0) w':=by
 obtain⟨t,p,q,v,m,d,x,y,z⟩:=h.p2;refine(Gt d (UV d dg)).mono λe w' ⟨b,p,m,a,r,s,f⟩=>⟨p,m,a,r,⟨⟨s,λl=>?_⟩,λM o e l=>?_⟩,h.pure b⟩;·obtain⟨M,e,_,K⟩:=f l;exact⟨M,e,K⟩
 ·obtain⟨u,c,B,_⟩:=f l;rw[e]at c;injection c with c;injection c with c;omega
theorem JF(h:fW U w0 g0 X S Q T k fr n w):Cw 45 #[Pq T] w λe w'=>qv e/\fW U w0 g0 X S Q T k fr n w':=by obtain⟨g,h⟩:=h;obtain⟨K,M,a,W,H,b,B,v,m,c,f,l,t1,t2,t3,t4⟩:=h.p3;obtain⟨o,p,q,x⟩:=c.lts;exact(Kg c).mono λe w' ⟨r,d,s,t,u⟩=>⟨r,h.of3 (KG.gb t t1) ⟨K,M,a,W,H,b,d,n,m,s,f,l,(aV o).trans t1,(aV p).trans t2,(aV q).trans t3,ef u⟩ (ad _) λ_=>rfl⟩
theorem Ny(h:fW U w0 g0 X S Q T k fr n w)(L:k<=2190000)(s:BY)(N:s.size<=8000000):Cw 46 #[Pq T,.string s] w λe w'=>qv e/\fW U w0 g0 X S Q T (k+1) fr n w':=by
 obtain⟨g,h⟩:=h;obtain⟨K,M,d,W,H,b,B,v,J,f,x,y,t1,t2,t3,t4⟩:=h.p3;obtain⟨q,O,z,r⟩:=f.lts;obtain⟨_,_,_,_,_,_,_,⟨p,_⟩,_⟩:=f.at;refine(Om (F:=4+k*32000000) (w0:=w) (M0:=M) ⟨K,M,d,b,f,⟨x,y⟩,⟨rfl,rfl,rfl,ad _,λ_ _ _ _ _=>rfl⟩,.inl rfl,q,r,λ_=>p⟩ s dg).mono λe w' ⟨A,m,c,t,a,u,C,D,G,o,_,_,I⟩=>⟨A,h.of3 (KG.k3 G t1 t3 t4) ⟨c,t,a,W,H,u,B,v,m,C,D.1,dg,(aV q).trans t1,?_,?_,(aV r).trans t4⟩ dg λ_=>rfl⟩
 ·by_cases l:c<w.heap.size
  ·have:=I l;rw[p]at this;obtain rfl:K=c:=by simpa using this
   exact(aV l).trans t2
  ·exact ef dg
 ·rcases o with rfl|o;·exact(aV z).trans t3
  ·exact ef o
theorem EZ(h:fW U w0 g0 X S Q T k fr n w)(s:fr=true)(x y:Int):Cw 42 #[Pq T,Iq x,Iq y] w λe w'=>Cf e/\∃d,fW U w0 g0 X S Q T k fr d w':=by
 obtain⟨g,h⟩:=h;obtain⟨K,M,r,W,H,b,B,F,t,f,G,I,t1,t2,t3,t4⟩:=h.p3;obtain⟨u,J,L,N⟩:=f.lts;refine(Gq f x y).mono λe w' ⟨v,c⟩=>⟨v,?_⟩;rcases c with⟨c,_⟩|⟨o,p,a,q,m,d,l,_,_,c,z,A,C,D⟩;·exact⟨n,_,h.pure c⟩
 ·exact⟨d,h.of3 (KG.gb z t1) ⟨o,p,a,q,m,4,l,d,⟨#[]⟩,c,ad _,by show 4+4*0<=_;omega,(aV u).trans t1,ef A,ef C,ef D⟩ (ad _) λe=>by rw[s]at e;cases e⟩
end
end Go.Proofs.YtehgehanbnkdiaaGreatDoor
namespace Go.Proofs.YtehgehanbnkdiaaGreatDoor
open Go.RowKit Go.Sort Go.Proofs.Tryz
set_option linter.all false
section
variable{U w0 w w':AT} {E:Nat→Addr} {g0 g:Nat→Nat} {X S Q T k n:Nat} {fr:Bool}
theorem KX.at(h:KX U w0 g0 X S Q T k fr n g w):∃p m cap,w.cell? (aq X 0)=some (Pq S)/\w.cell? (aq X 1)=some (Pq Q)/\w.cell? (aq X 2)=some (Pq T)/\w.cell? (aq X 3)=some (.slice p m cap):=by obtain⟨p,m,cap,h,_⟩:=h.p4;obtain⟨a,b,c,d,_⟩:=Ou h;exact⟨p,m,cap,a,b,c,d⟩
theorem fW.at(h:fW U w0 g0 X S Q T k fr n w):∃p m cap,w.cell? (aq X 0)=some (Pq S)/\w.cell? (aq X 1)=some (Pq Q)/\w.cell? (aq X 2)=some (Pq T)/\w.cell? (aq X 3)=some (.slice p m cap):=by obtain⟨g,h⟩:=h;exact h.at
def xI(U w0:AT)(g0:Nat->Nat)(X S Q T k:Nat)(e:Ending)(w:AT):Prop:=QZ e/\∃fr n,fW U w0 g0 X S Q T k fr n w
set_option maxRecDepth 100000 in
set_option maxHeartbeats 4000000 in
theorem Qz(h:fW U w0 g0 X S Q T k fr n w)(x y:Int):Cw 18 #[Pq X,Iq x,Iq y] w (xI U w0 g0 X S Q T k):=by
 obtain⟨_,_,_,l,c1,c2,c3⟩:=h.at;have H:=qH h;have f:=qH lz;clear h;go_enter func18,ntmps18;go_wp2_with fail;refine(JH H x y).mono ?_;rintro u u1 ⟨⟨B,rfl⟩,c⟩;obtain⟨_,_,_,d0,d1,d2,d3⟩:=c.at;replace c:=qH c;clear l c1 c2 c3;go_wp2_with fail;refine(EY c x y).mono ?_;rintro v u2 ⟨z,q,rfl,m,a⟩;obtain⟨_,_,_,l,c1,c2,c3⟩:=a.at;replace a:=qH a;clear d0 d1 d2 d3;by_cases b:z=0
 ·subst b;have o:=qH (m rfl);go_wp2_with(first
   |(go_at_call 42;refine(EZ a.out o.out x y).mono ?_;rintro A u3 ⟨⟨C,rfl⟩,s,K3⟩;replace K3:=qH K3)
   |(go_at_call 10;refine(f.out _ _).mono ?_;rintro p u4 ⟨rfl,e⟩;obtain rfl:=e.symm));go_ret;exact⟨⟨_,rfl⟩,_,s,K3⟩
 ·have r:(z==0)=false:=by simpa using b
  clear m;go_wp2_with(go_at_call 10;refine(f.out _ _).mono ?_;rintro p u4 ⟨rfl,e⟩;obtain rfl:=e.symm);go_ret;exact⟨⟨_,rfl⟩,_,n,a⟩
theorem QF{a:Bool}{p:zze}{cap:Nat}(z:sL w0 g0 g w)(b:Bq U w)(t0:∀b,b<U.heap.size->g b=0)(d:∃W H r n t sh c C,n<=k/\sI g S w W H r n t sh c False C)(A:Jq g Q w fr k)(B:Jr g T w n (4+k*32000000))(D:Pf g X S Q T w a n)(s:Pe w p n)(y:∀M o,p=some (aq M o)->0<n->g M=0):fW U w0 g0 X S Q T k fr n (w.setCell (aq X 3) (.slice p n cap)):=by obtain⟨_,_,_,e,f,_⟩:=D;have l:=(aj.1 e).1;have q:KG g 4 w (w.setCell (aq X 3) (.slice p n cap)):=KG.set X 3 _ f;obtain⟨u,v⟩:=q.bel (i:=4) (by decide) b t0;obtain⟨W,H,r,m,t,sh,c,C,x,d⟩:=d;refine⟨_,z.step (i:=4) q (by decide),u,v,⟨W,H,r,m,t,sh,c,C,x,d.keep q (by decide)⟩,A.keep q (by decide),B.keep q (by decide),p,n,cap,heap_setCell_same _ X 3 _ _ _ e,(aV l).trans f,s.1,λh=>?_,λ_=>rfl⟩;obtain⟨M,rfl,K⟩:=s.2 h;have t:=y M 0 rfl h;exact⟨M,rfl,(aV K.1).trans t,K.of q.size (q.block M K.1 (by rw[t];decide))⟩
theorem KX.show{p:zze}{cap:Nat}(h:KX U w0 g0 X S Q T k fr n g w)(f:Pe w p n)(r:∀M o,p=some (aq M o)->0<n->g M=0):fW U w0 g0 X S Q T k false n ((w.setCell (aq Q 4) (.bool false)).setCell (aq X 3) (.slice p n cap)):=by
 obtain⟨t,x,y,v,m,d,A,l,B⟩:=h.p2;have q:KG g 2 w (w.setCell (aq Q 4) (.bool false)):=KG.set Q 4 _ l;obtain⟨s,u,z⟩:=h.bz (i:=2) q (by decide);refine QF s u z (h.k1 q (by decide) (ad _)) ⟨t,x,y,v,m,⟨heap_setCell_same _ Q 4 _ _ _ d.sb,d.of.low (qr _) _ _⟩,A,(aV d.lt).trans l,λb e=>(aV (d.of.ownlt e)).trans (B b e)⟩ (h.p3.keep q (by decide)) (h.p4.keep q (by decide) (by decide)) ⟨f.1,λc=>?_⟩ λM o e c=>?_;·obtain⟨M,rfl,K⟩:=f.2 c;exact⟨M,rfl,K.of q.size (q.block M K.1 (by rw[r M 0 rfl c];decide))⟩
 ·obtain⟨C,a,K⟩:=f.2 c;rw[e]at a;injection a with a;injection a with a;subst a;exact(aV K.1).trans (r M o e c)
set_option maxRecDepth 100000 in
set_option maxHeartbeats 8000000 in
theorem Gn(hG:Ed U E)(h:fW U w0 g0 X S Q T k fr n w)(hk:k<=2190000):Cw 21 #[Pq X] w (xI U w0 g0 X S Q T (k+1)):=by
 have zq:prog.follows .mixedOrders=true:=pt;obtain⟨_,_,_,c0,c1,c2,c3⟩:=h.at;have H:=qH h;clear h;go_enter func21,ntmps21;go_wp2_with fail;refine(JG hG H dg).mono ?_;rintro e1 u1 ⟨⟨s,rfl,hs⟩,g1,K1⟩;obtain⟨_,_,_,d0,d1,d2,d3⟩:=K1.at;replace K1:=qH K1;clear c0 c1 c2 c3;go_wp2_with fail;refine(E0 K1 dg).mono ?_;rintro e2 u2 ⟨p,m,q,rfl,HN,I⟩;obtain⟨_,_,_,c0,c1,c2,c3⟩:=I.at;have HT:Hid (∀M o,p=some (aq M o)->0<m->kx g1 u1 0 M=0):=λM o e l=>ef (HN.out.2 M o e l);obtain⟨g2,zh⟩:=af (kx g1 u1 0);rw[zh]at I HT;have Z2:=qH I.z;have R2:Hid (fW U u2 g2 X S Q T k fr n u2):=⟨g2,sL.refl _ _,I.b,I.t0,I.p1,I.p2,I.p3,I.p4⟩;clear d0 d1 d2 d3 I zh;go_wp2_with fail;refine(JF R2).mono ?_;rintro e3 u3 ⟨rfl,K3⟩;obtain⟨_,_,_,d0,d1,d2,d3⟩:=K3.at;replace K3:=qH K3;clear c0 c1 c2 c3;go_wp2_with fail;refine(Ny K3 dg s hs.out).mono ?_;rintro e4 u4 ⟨rfl,g4,N⟩;obtain⟨_,_,_,c0,c1,c2,c3⟩:=N.at;obtain⟨K,M,cp,W,H',b,B,bc,hf,L,_⟩:=N.p3;have zl:=L.kk.nb;have zx:1<=n:=by rw[L.kk.sz.2.2.2.2.1];exact Nat.mul_pos L.kk.sz.1 L.kk.sz.2.2.1
 obtain⟨_,_,_,_,_,_,_,⟨t0,_⟩,_⟩:=L.at;have t1:=L.kk.c2;have zg:Hid (∀M o,p=some (aq M o)->0<m->g4 M=0):=λM o e l=>by obtain⟨y,f,r⟩:=HN.out.1.2 l;rw[e]at f;injection f with f;injection f with f;subst f;exact(N.z.tag M r.1).trans (HT M o e l)
 have NW:Hid (Pe u4 p m):=⟨HN.out.1.1,λl=>by obtain⟨y,f,r⟩:=HN.out.1.2 l;exact⟨y,f,r.of N.z.size (N.z.block y r.1 (HT y 0 f l))⟩⟩;have ze:=qH N;have EQ:=qH (N_ (p:=some (aq M 0)) (cap:=cp) (cap':=q) (λ_=>⟨M,rfl,L.kk.kb⟩) NW.2 zl);clear d0 d1 d2 d3 HN L N;go_wp2_with fail;refine EQ.out.mono ?_;rintro e5 u5 ⟨⟨c,rfl,hc⟩,B5⟩;have Y:=qH (ze.out.pure B5);have A:Hid (Pe u5 p m):=⟨NW.1,λl=>by obtain⟨y,f,r⟩:=NW.2 l;exact⟨y,f,r.below B5⟩⟩;have C:Hid (∀M o,p=some (aq M o)->0<m->kx g4 u4 0 M=0):=λy o e l=>by obtain⟨zt,f,r⟩:=NW.2 l;rw[e]at f;injection f with f;injection f with f;subst f;exact(aV r.1).trans (zg y o e l)
 clear c0 c1 c2 c3 t0 t1 EQ NW zg ze B5 HT;cases c with
 |false=>go_wp2;go_ret;exact⟨⟨_,rfl⟩,fr,n,_,Y.base Z2⟩
 |true=>
  obtain rfl:=hc rfl;obtain⟨p',G,D,XB,hX,P,R,V⟩:=Y.p4;obtain⟨x0,x1,x2,x3,xz⟩:=Ou XB;have zo:=xz 3;obtain⟨_,_,_,_,_,q1,_,hQ,_⟩:=Y.p2;obtain⟨⟨_,_,_,_,q4⟩,qz⟩:=M6 q1.sb;have zn:=qz 4;have zm:¬Q=X:=λe=>by rw[e,hX]at hQ;cases hQ
  have zy:¬X=Q:=λe=>zm e.symm;clear q1 qz XB xz hX hQ;cases fr with
  |true=>
   have F1:=qH (Y.show (cap:=q) A C);have u:Hid (∀e,QZ e->xI U w0 g0 X S Q T (k+1) e ((u5.setCell (aq Q 4) (.bool false)).setCell (aq X 3) (.slice p n q))):=λe he=>by obtain⟨g',F⟩:=F1.out;exact⟨he,false,n,g',F.base Z2⟩
   clear P R V F1;by_cases h4:4<=s.size
   ·have zj:(4:Int)<=s.size:=dg
    go_wp2;all_goals go_ret;exact u _ ⟨_,rfl⟩
   ·have zj:¬(4:Int)<=s.size:=dg
    go_wp2;all_goals go_ret;exact u _ ⟨_,rfl⟩
  |false=>
   have e:=V rfl;subst e;obtain⟨Ms,rfl,_,KS⟩:=R dg;obtain⟨Z,rfl,KN⟩:=id (A.2 dg);have TO:=qH (Gx (cap:=D) (cap':=q) KS KN P);clear KS KN R V;go_wp2_with fail;refine TO.out.mono ?_;rintro e6 u6 ⟨⟨B',rfl,KM⟩,B6⟩;have v:=qH (Y.pure B6);have O:Hid (KB u6 Z (G*5) (xC G 20)):=by obtain⟨y,f,r⟩:=A.2 dg;injection f with f;injection f with f;rw[f];exact r.below B6
   have J:Hid (kx (kx g4 u4 0) u5 0 Z=0):=by obtain⟨y,f,r⟩:=A.2 dg;injection f with f;injection f with f;subst f;exact(aV r.1).trans (C Z 0 rfl dg)
   have u:Hid (∀e,QZ e->xI U w0 g0 X S Q T (k+1) e (u6.setCell (aq X 3) (Sq Z G q))/\xI U w0 g0 X S Q T (k+1) e u6):=λe he=>by
    obtain⟨g',F⟩:=QF (cap:=q) v.z v.b v.t0 v.p1 v.p2 v.p3 v.p4 ⟨P,λ_=>⟨Z,rfl,O⟩⟩ λM o e _=>by injection e with e;injection e with e;rw[<-e];exact J
    exact⟨⟨he,false,G,g',F.base Z2⟩,he,false,G,_,v.base Z2⟩
   obtain⟨r,y,zv,W',zr,b',Bt,zu,zw,h6,_⟩:=v.p3;obtain⟨_,_,_,_,_,_,_,⟨_,_,_,_,_,_,_,_,_,t9⟩,_⟩:=h6.at;obtain⟨_,_,_,XB,_⟩:=v.p4;obtain⟨y0,y1,y2,y3,yz⟩:=Ou XB;have zA:=yz 3;have HB:Hid (∀j,j<G->(∃c,u6.cell? (aq Bt j)=some (.bool c))/\(∃c,u6.cell? (aq B' j)=some (.bool c))/\∃t:BY,u6.cell? (aq Z (j*5))=some (.string t)):=λj hj=>by obtain⟨_,_,c1,c,rfl⟩:=h6.bb.2 j hj;obtain⟨_,_,c2,d,rfl⟩:=KM.2 j hj;obtain⟨t,_,_,_,_,⟨c3,_⟩,_⟩:=O.out.ce hj;exact⟨⟨c,c1⟩,⟨d,c2⟩,t,c3⟩
   clear TO Y A C x0 x1 x2 x3 zo q4 zn v O J h6 XB yz KM B6;go_wp2;go_loopw[7,8] (λx i wr=>∃(j:Nat) (z:Int),i=Iq j/\x=Iq z/\j<=G/\wr=u6) (λ_ i _=>G-(intOf i).toNat);case atStart=>exact⟨0,0,rfl,rfl,dg,rfl⟩
   case round=>
    obtain⟨j,z,rfl,rfl,hj,rfl⟩:=hrel;by_cases zk:j<G
    ·have zi:(j:Int)<G:=dg
     obtain⟨⟨a,r1⟩,⟨b,r2⟩,t,r3⟩:=HB j zk;cases a<;>cases b;all_goals
      go_wp2;first
       |exact⟨⟨j+1,_,by go_num,rfl,dg,by trivial⟩,by simp only[intOf];omega⟩
       |(go_ret;exact(u _ ⟨_,rfl⟩).2)
    ·have zi:¬(j:Int)<G:=dg
     go_wp2;go_ret;exact(u _ ⟨_,rfl⟩).1
end
end Go.Proofs.YtehgehanbnkdiaaGreatDoor
namespace Go.Proofs.YtehgehanbnkdiaaGreatDoor
open Go.RowKit Go.Sort Go.Proofs.Tryz
set_option linter.all false
section
variable{U w0 w w':AT} {E:Nat→Addr} {g0 g:Nat→Nat} {X S Q T k n:Nat} {fr:Bool}
theorem fW.drew(h:fW U w0 g0 X S Q T k fr n w):fW U w0 g0 X S Q T k fr n w.drew:=by obtain⟨g,h⟩:=h;exact⟨_,h.pure (ac _ _).drew⟩
theorem fW.mono{k':Nat}(h:fW U w0 g0 X S Q T k fr n w)(a:k<=k'):fW U w0 g0 X S Q T k' fr n w:=by obtain⟨g,h⟩:=h;exact⟨_,h.mono a⟩
theorem xI.mono{k':Nat}{e:Ending}(h:xI U w0 g0 X S Q T k e w)(c:k<=k'):xI U w0 g0 X S Q T k' e w:=by obtain⟨b,fr,n,h⟩:=h;exact⟨b,fr,n,h.mono c⟩
def V8(w:AT)(O:Nat)(kd a b:Int)(s t:BY)(v:Fd):Prop:=w.cell? (aq O 0)=some (Iq kd)/\w.cell? (aq O 1)=some (Iq a)/\w.cell? (aq O 2)=some (Iq b)/\w.cell? (aq O 3)=some (.string s)/\w.cell? (aq O 4)=some (.string t)/\w.cell? (aq O 5)=some v
theorem Tq(h:fW U w0 g0 X S Q T k fr n w)(d a b:Int)(s t:BY)(v:Fd):∃c f,w.alloc (.cells #[Iq d,Iq a,Iq b,.string s,.string t,v] 28)=c/\Hid (fW U c f X S Q T k fr n c)/\Hid (∀u k fr n,fW U c f X S Q T k fr n u->(u.cell? (aq X 0)=some (Pq S)/\u.cell? (aq X 1)=some (Pq Q))/\V8 u w.heap.size d a b s t v)/\Hid (∀u k e,xI U c f X S Q T k e u->xI U w0 g0 X S Q T k e u):=by obtain⟨g,h⟩:=h;have q:Bq w (w.alloc (.cells #[Iq d,Iq a,Iq b,.string s,.string t,v] 28)):=(ac _ _).alloc (ad _) _;have K:=h.pure q;refine⟨_,kx g w 0,rfl,⟨_,sL.refl _ _,K.b,K.t0,K.p1,K.p2,K.p3,K.p4⟩,λu k fr n hu=>?_,λu k e ⟨o,fr,n,l,p⟩=>⟨o,fr,n,l,p.base K.z⟩⟩;obtain⟨_,_,_,m,c1,_⟩:=hu.at;obtain⟨l,hu⟩:=hu;have e:=(hu.z.block w.heap.size At (ef (ad _))).trans (heap_alloc_new w (.cells #[Iq d,Iq a,Iq b,.string s,.string t,v] 28));refine⟨⟨m,c1⟩,?_,?_,?_,?_,?_,?_⟩<;>simp[World.cell?,e]
set_option maxRecDepth 100000 in
set_option maxHeartbeats 8000000 in
theorem Oi(hG:Ed U E)(h:fW U w0 g0 X S Q T k fr n w)(hk:k<=2180000)(v a b:Int)(s t:BY)(p:zze)(z m:Nat)(H:v=1\/v=2\/v=3\/v=4)(ha:ff a)(hb:ff b):
 Cw 6 #[Pq X,.agg #[Iq v,Iq a,Iq b,.string s,.string t,.slice p z m]] w (xI U w0 g0 X S Q T (k+2)):=by
 have R:prog.follows .mixedOrders=true:=pt;obtain⟨W1,g1,ze,B,A,d⟩:=Tq h v a b s t (.slice p z m);obtain⟨⟨P,c1⟩,V,W,Y,Z,o4,o5⟩:=A W1 k fr n B;have O:=qH lz;clear h;rcases H with rfl|rfl|rfl|rfl;·go_enter func6,ntmps6;go_wp2_with(go_at_call 18;refine(Qz B.out a b).mono ?_;rintro e u ⟨⟨c,rfl⟩,F⟩);go_ret;exact d _ _ _ (xI.mono ⟨⟨_,rfl⟩,F⟩ dg)
 ·go_enter func6,ntmps6;have D:=qH B.out.drew;go_wp2_with fail;go_region_held(λu=>u.cell? (aq X 0)=some (Pq S)/\u.cell? (aq w.heap.size 3)=some (.string s)) (go_keep) (first
   |(go_at_call 8;refine ag (Sd hG D.out s) ?_;rintro e u5 ⟨⟨x,y,rfl⟩,q⟩;obtain⟨⟨d0,d1⟩,I,J,K,L,M,N⟩:=A.out u5 _ _ _ q;have l:=qH q;clear q));all_goals
   have f:=qH l.out.drew;clear P c1 V W Y Z o4 o5;go_wp2_with fail;go_region_held(λu=>u.cell? (aq X 1)=some (Pq Q)/\u.cell? (aq w.heap.size 3)=some (.string s)) (go_keep) (first
    |(go_at_call 19;refine ag (PF f.out dg s) ?_;rintro e u6 ⟨⟨x',y',rfl⟩,r⟩;obtain⟨⟨d0,d1⟩,I,J,K,L,M,N⟩:=A.out u6 _ _ _ r;have o:=qH r;clear r));all_goals have C:=qH λc=>d.out u6 _ _ (xI.mono (k':=k+2) ⟨⟨c,rfl⟩,_,_,o.out⟩ dg);go_wp2_with(go_at_call 10;refine(O.out _ _).mono ?_;rintro e4 u4 ⟨rfl,G⟩;obtain rfl:=G.symm);all_goals go_ret;exact C _
 ·go_enter func6,ntmps6;have D:=qH B.out.drew;go_wp2_with fail;go_region_held(λu=>u.cell? (aq X 0)=some (Pq S)/\u.cell? (aq w.heap.size 1)=some (Iq a)/\u.cell? (aq w.heap.size 2)=some (Iq b)) (go_keep) (first
   |(go_at_call 14;refine ag (JI hG D.out dg a b ha hb) ?_;rintro e u5 ⟨⟨x,rfl⟩,q⟩;obtain⟨⟨d0,d1⟩,I,J,K,L,M,N⟩:=A.out u5 _ _ _ q;have l:=qH q;clear q));all_goals
   have f:=qH l.out.drew;clear P c1 V W Y Z o4 o5;go_wp2_with fail;go_region_held(λu=>u.cell? (aq X 1)=some (Pq Q)/\u.cell? (aq w.heap.size 1)=some (Iq a)/\u.cell? (aq w.heap.size 2)=some (Iq b)) (go_keep) (first
    |(go_at_call 10;refine ag (O.out _ _) ?_;rintro e4 u4 ⟨rfl,G⟩;obtain rfl:=G.symm)
    |(go_at_call 20;refine ag (E8 f.out dg a b) ?_;rintro e u6 ⟨⟨x',rfl⟩,r⟩;obtain⟨⟨d0,d1⟩,I,J,K,L,M,N⟩:=A.out u6 _ _ _ r;have o:=qH r;clear r));all_goals have C:=qH λc=>d.out u6 _ _ (xI.mono (k':=k+2) ⟨⟨c,rfl⟩,_,_,o.out⟩ dg);go_wp2_with fail;go_ret;exact C _
 ·go_enter func6,ntmps6;go_wp2_with(go_at_call 21;refine(Gn hG B.out dg).mono ?_;rintro e u ⟨⟨c,rfl⟩,F⟩);go_ret;exact d _ _ _ (xI.mono ⟨⟨_,rfl⟩,F⟩ dg)
end
end Go.Proofs.YtehgehanbnkdiaaGreatDoor
namespace Go.Proofs.YtehgehanbnkdiaaGreatDoor
open Go.RowKit Go.Sort Go.Proofs.Tryz
set_option linter.all false
def Ku(a b c x:Nat):Nat:=if x<a then 0 else if x<b then 1 else if x<b+1 then 2 else if x<c then 3 else if x<c+1 then 4 else 0
def V7(U:AT)(w h:Nat)(e:Ending)(U':AT):Prop:=∃X S Q T n r g,e=Rw (.tuple #[Pq X,.bool true])/\Hid (KX U U' g X S Q T 0 true n g U'/\iI U' S w h ft r (.slice none 0 0)/\Mp U' r 0 (λ_=>0)/\(U.heap.size<=S/\U.heap.size<=r/\S≠r/\U.heap.size<=X/\X≠S/\X≠r))
set_option maxRecDepth 100000 in
set_option maxHeartbeats 4000000 in
theorem Kj(w h:Nat)(hw:1<=w/\w<=400)(hh:1<=h/\h<=400)(U:AT):Cw 5 #[Iq w,Iq h] U (V7 U w h):=by
 have f:1<=(w:Int)/\(w:Int)<=400/\1<=(h:Int)/\(h:Int)<=400:=dg;have Z:Hid (Cw 15 #[Iq w,Iq h] U λe s=>∃S r,e=Rw (.tuple #[Pq S,Iq 0])/\Hid (iI s S w h ft r (.slice none 0 0)/\Mp s r 0 (λ_=>0)/\Bq U s/\U.heap.size<=r/\r<S)):=Lj w h f U;have NR:Hid (∀u:AT,Cw 16 #[Iq w,Iq h] u λe s=>e=Rw (.tuple #[Pq u.heap.size,Iq 0])/\s=u.alloc (.cells #[.string ft,Iq w,Iq h,.slice none 0 0,.bool true] 102)):=λu=>Ia w h f u;have Y:Hid (∀u:AT,Cw 17 #[Iq w,Iq h] u λe A=>∃T,e=Rw (.tuple #[Pq T,Iq 0])/\Hid (Bq u A/\∃K M c t p n B:Nat,jK T K M c t p n 4 B n ⟨#[]⟩ A/\u.heap.size<=T/\u.heap.size<=K/\u.heap.size<=M/\u.heap.size<=B)):=λu=>(MQ w h u).mono λe A ⟨b,z⟩=>by
  rcases z with⟨_,_,_,z⟩|⟨T,K,M,c,t,p,n,B,z1,_,_,z2,z3⟩;·exact absurd f z
  ·exact⟨T,z1,b,K,M,c,t,p,n,B,z2,z3⟩
 have W:=qH lz;clear f;go_enter func5,ntmps5;go_wp2_with(first|(go_at_call 15;refine Z.out.mono ?_;rintro e a ⟨S,r,rfl,R⟩)|(go_at_call 16;refine(NR.out _).mono ?_;rintro e U2 ⟨rfl,rfl⟩)|(go_at_call 10;refine(W.out _ _).mono ?_;rintro e U5 ⟨rfl,h5⟩;obtain rfl:=h5.symm)|(go_at_call 17;refine(Y.out _).mono ?_;rintro e d ⟨T,rfl,V⟩));refine bodyPost_ret (results_tmp2 rfl _ _ _) rfl ?_;obtain⟨I,J,L,N,q5⟩:=R.out;obtain⟨o,K,M,c,t,p,n,B,O,q7,q8,q9,ze⟩:=V.out;have D:=I.lt;have F:=J.lt;have l3:=L.size;have hz:(a.alloc (.cells #[.string ft,Iq w,Iq h,.slice none 0 0,.bool true] 102)).heap.size=a.heap.size+1:=At
 have l4:=o.size;obtain⟨m1,m2,m3,m4⟩:=O.lts;obtain⟨l,m⟩:=af (d.alloc (.cells #[Pq S,Pq a.heap.size,Pq T,.slice none 0 0] 36));have v:Bq d l:=by rw[<-m];exact(ac _ _).alloc (ad _) _
 have hX:l.heap[d.heap.size]?=some (.cells #[Pq S,Pq a.heap.size,Pq T,.slice none 0 0] 36 (0,0)):=by rw[<-m];exact heap_alloc_new _ _
 have C:∀b,b<a.heap.size->l.heap[b]?=a.heap[b]?:=λb y=>(v.block b dg).trans ((o.block b dg).trans (bB _ _ b y));have G:iI l S w h ft r (.slice none 0 0):=(C S D).trans I;have H:Mp l r 0 (λ_=>0):=J.block (C r F);have P:∀b,U.heap.size<=b->b<a.heap.size->Ku U.heap.size a.heap.size d.heap.size b=1:=λb h1 x=>by unfold Ku;rw[if_neg dg,if_pos x]
 have t3:∀b,a.heap.size+1<=b->b<d.heap.size->Ku U.heap.size a.heap.size d.heap.size b=3:=λb h1 x=>by unfold Ku;rw[if_neg dg,if_neg dg,if_neg dg,if_pos x]
 have t2:Ku U.heap.size a.heap.size d.heap.size a.heap.size=2:=by unfold Ku;rw[if_neg dg,if_neg dg,if_pos dg]
 have t4:Ku U.heap.size a.heap.size d.heap.size d.heap.size=4:=by unfold Ku;rw[if_neg dg,if_neg dg,if_neg dg,if_neg dg,if_pos dg]
 have bU:Bq U l:=((L.alloc l3 _).trans (o.mono dg)).trans (v.mono dg);have sQ:l.heap[a.heap.size]?=some (.cells #[.string ft,Iq w,Iq h,.slice none 0 0,.bool true] 102 (0,0)):=(v.block _ dg).trans ((o.block _ dg).trans (heap_alloc_new _ _));rw[m];refine⟨d.heap.size,S,a.heap.size,T,n,r,Ku U.heap.size a.heap.size d.heap.size,rfl,⟨sL.refl _ _,bU,λb o=>if_pos o,⟨w,h,r,0,ft,_,_,λ_ _=>⟨⟨#[]⟩,0,0,0,0⟩,ad _,G,H,⟨none,0,0,λ_=>⟨⟨#[]⟩,0,0,0,0⟩,rfl,dg,dg,.inl rfl,λi hi=>dg,λq=>q.elim⟩,xW,⟨hw,hh⟩,dg,⟨P S dg D,P r N F⟩,λM n c e=>by cases e⟩,⟨ft,w,h,_,0,⟨sQ,KR.nil _ _ _ _ _⟩,ad _,t2,λb e=>by cases e⟩,⟨K,M,c,t,p,4,B,n,⟨#[]⟩,O.below v,ad _,ad _,t3 T dg m1,t3 K dg m2,t3 M dg m3,t3 B dg m4⟩,none,0,0,hX,t4,dg,λq=>dg,λq=>by cases q⟩,G,H,dg,N,dg,dg,dg,dg⟩
set_option maxRecDepth 100000 in
set_option maxHeartbeats 2000000 in
theorem Gj(w h:Int)(a:¬(1<=w/\w<=400/\1<=h/\h<=400))(U:AT):Cw 5 #[Iq w,Iq h] U λe b=>e=Rw (.tuple #[.pointer none,.bool true])/\Hid (Bq U b):=by have l:Hid (Cw 15 #[Iq w,Iq h] U λe b=>e=Rw (.tuple #[.pointer none,Iq 6])/\Hid (Bq U b)):=G8 w h a U;have NR:Hid (∀u:AT,Cw 16 #[Iq w,Iq h] u λe b=>e=Rw (.tuple #[.pointer none,Iq 6])/\b=u):=λu=>H_ w h a u;have f:=qH lz;clear a;go_enter func5,ntmps5;go_wp2_with(first|(go_at_call 15;refine l.out.mono ?_;rintro e m ⟨rfl,d⟩)|(go_at_call 16;refine(NR.out _).mono ?_;rintro e o ⟨rfl,c⟩;obtain rfl:=c.symm)|(go_at_call 10;refine(f.out _ _).mono ?_;rintro e p ⟨rfl,c⟩;obtain rfl:=c.symm));refine bodyPost_ret (results_tmp2 rfl _ _ _) rfl ?_;exact⟨rfl,d⟩
end Go.Proofs.YtehgehanbnkdiaaGreatDoor
namespace Go.Proofs.YtehgehanbnkdiaaGreatDoor
open Go.RowKit Go.Sort Go.Proofs.Tryz
set_option linter.all false
def O7(s:BY):BY:=match bj s with
 |.error _=>ft
 |.ok _=>s
def UU(s:BY):Int:=match bj s with
 |.error x=>gq x
 |.ok _=>0
theorem Oj(s:BY):∃L,bj (O7 s)=.ok L:=by
 unfold O7;cases d:bj s with
 |error x=>exact xW
 |ok L=>exact⟨L,d⟩
theorem NP{L:zza}(h:bj ft=.ok L)(id:Int):mH L id<0:=by
 have e:bj ft=.ok [{kind:=6,attr:=aN,text:=[],kids:=[],up:=-1}]:=rfl;rw[e]at h;injection h with h;subst h;unfold mH;split;·decide
 ·simp[DK,tn,ae]
theorem MW{w:AT}{E:zzi}(hG:Ed w E){S r n:Nat}{x y:Int}{sh:Fd}{d:Int->Int}(hS:iI w S x y ft r sh)(h:Mp w r n d)(q:∀k,d k=0)(l:S≠r)(s:BY):Cw 8 #[Pq S,.string s] w λe w'=>∃z,e=Rw (.tuple #[Iq (UU s),Iq z])/\Hid (iI w' S x y (O7 s) r sh/\Mp w' r n (λ_=>0)/\Fs S r w w'):=by
 refine(pK S r n x y ft sh d s E w hG.glo hG.apart hG.ert hS h l).mono λe w' z=>?_;unfold UU O7;have o:d=λ_=>0:=funext q;cases p:bj s with
 |error a=>rw[p]at z;exact⟨_,z.1,(z.2.block S hS.lt).trans hS,o▸h.below z.2 h.lt,Fs.of z.2⟩
 |ok L=>rw[p]at z;refine⟨_,z.1,z.2.1,?_,z.2.2.2⟩;have:=z.2.2.1;rw[o]at this;simpa using this
structure OX(U:AT)(X S r Y S' r':Nat)(w h:Int)(u:AT):Prop where
 b:Bq U u
 x:u.cell? (aq X 0)=some (Pq S)
 y:u.cell? (aq Y 0)=some (Pq S')
 s:iI u S' w h ft r' (.slice none 0 0)
 m:Mp u r' 0 (λ_=>0)
 n:(X≠S/\X≠r)/\(Y≠S/\Y≠r)/\(S'≠S/\S'≠r)/\(r'≠S/\r'≠r)/\S'≠r'/\S≠r/\U.heap.size<=S/\U.heap.size<=r/\U.heap.size<=S'/\U.heap.size<=r'/\(X≠S'/\X≠r')/\Y≠S'/\Y≠r'
theorem QE{w w':AT}{p:Addr}(h:w'.heap[p.block]?=w.heap[p.block]?):w'.cell? p=w.cell? p:=aO h
theorem OX.fs{U u l:AT}{X S r Y a e:Nat}{w h:Int}(k:OX U X S r Y a e w h u)(f:Fs S r u l):OX U X S r Y a e w h l:=by obtain⟨⟨o,q⟩,⟨t,v⟩,⟨z,A⟩,⟨B,C⟩,D,p,c,d,_⟩:=k.n;exact⟨k.b.trans (f.below c d k.b.size),(QE (f.block X (klt k.x) o q)).trans k.x,(QE (f.block Y (klt k.y) t v)).trans k.y,(f.block a k.s.lt z A).trans k.s,k.m.block (f.block e k.m.lt B C),k.n⟩
theorem OX.of{U o s wr:AT}{B u N:Nat->Nat}{X S Q T k k' Y d Q' R f:Nat}{fr I:Bool}{m m':Nat}{w h:Int}(K:KX U s B X S Q T k fr m u wr)(P:KX o s N Y d Q' R k' I m' N s)(O:U.heap.size<=o.heap.size)(L:iI s d w h ft f (.slice none 0 0))(J:Mp s f 0 (λ_=>0))(l:o.heap.size<=d/\o.heap.size<=f/\d≠f/\o.heap.size<=Y/\Y≠d/\Y≠f)(V:B d=0/\B f=0/\B Y=0){W H r n:Nat}{t:BY}{sh:Fd}{mv:Int->Int}{b:Prop}{C:zzd}(p:sI u S wr W H r n t sh mv b C):OX U X S r Y d f w h wr:=by
 obtain⟨_,_,_,x,_⟩:=K.at;obtain⟨_,_,_,y,_⟩:=P.at;obtain⟨_,_,_,_,D,_⟩:=K.p4;obtain⟨t1,t2,t3⟩:=V;have Z:=K.z.tag d L.lt;have e2:=K.z.tag f J.lt;have e3:=K.z.tag Y (klt y);have u0:∀b,u b=1->U.heap.size<=b:=λb e=>xw λq=>by rw[K.t0 b q]at e;cases e
 have c:∀{a b:Nat} {z y:Nat},u a=z->u b=y->z≠y->a≠b:=λh1 h2 h3 e=>h3 (by rw[<-h1,e,h2]);have F:=Z.trans t1;have G:=e2.trans t2;have M:=e3.trans t3;obtain⟨v,A⟩:=p.tg;exact⟨K.b,x,(QE (K.z.block Y (klt y) t3)).trans y,(K.z.block d L.lt t1).trans L,J.block (K.z.block f J.lt t2),⟨⟨c D v (by decide),c D A (by decide)⟩,⟨c M v (by decide),c M A (by decide)⟩,⟨c F v (by decide),c F A (by decide)⟩,⟨c G v (by decide),c G A (by decide)⟩,l.2.2.1,p.ne,u0 _ v,u0 _ A,az O l.1,az O l.2.1,⟨c D F (by decide),c D G (by decide)⟩,l.2.2.2.2⟩⟩
set_option maxRecDepth 100000 in
set_option maxHeartbeats 16000000 in
theorem vk{U:AT}{E:zzi}(hG:Ed U E)(w h:Nat)(hw:1<=w/\w<=400)(hh:1<=h/\h<=400)(av:zze)(n A:Nat)(op:Nat->My)(hn:n<=1048576)(hO:Ep U (.slice av n A) n op)(hW:∀i,i<n->ff (op i).a/\ff (op i).b)(d:BY):
 Cw 3 #[Iq w,Iq h,.slice av n A,.string d] U λe U'=>e=Rw (.bool true)/\Bq U U':=by
 have zG:prog.follows .mixedOrders=true:=pt;have HH:Hid (n=0\/∃b off,av=some (aq b off)/\b<U.heap.size/\∀i,i<n->∀u,Bq U u->u.cell? (aq b (off+i*6))=some (Iq (op i).kd)/\u.cell? (aq b (off+i*6+1))=some (Iq (op i).a)/\u.cell? (aq b (off+i*6+2))=some (Iq (op i).b)/\u.cell? (aq b (off+i*6+3))=some (.string (op i).s)/\u.cell? (aq b (off+i*6+4))=some (.string (op i).t)/\u.cell? (aq b (off+i*6+5))=some (.slice (op i).p (op i).zs.length (op i).m)):=by obtain⟨a,c,e,z⟩:=hO;injection e with e1 _ e3;subst e1;refine z.imp (λq=>q) fun⟨b,off,q1,q2,q3⟩=>⟨b,off,q1,q2,λi hi u hu=>?_⟩;obtain⟨p0,p1,p2,p3,p4,p5,_⟩:=q3 i hi;exact⟨bH hu p0,bH hu p1,bH hu p2,bH hu p3,bH hu p4,bH hu p5⟩
 have HW:=qH hW;have v:=qH hG;have O1:=qH (Kj w h hw hh);clear hO hW hG;go_enter func3,ntmps3;go_wp2_with fail;refine(O1.out U).mono ?_;rintro e1 U1 ⟨X,S,Q,T,m,r,g,rfl,Z1⟩;go_wp2_with fail;refine(O1.out U1).mono ?_;rintro e2 U2 ⟨Y,S',Q',T',m',r',g',rfl,Z2⟩;obtain⟨K1,_⟩:=Z1.out;obtain⟨K2,s2,p2,l1,l2,l3,l4,_⟩:=id Z2.out;have K3:=K1.pure (K2.b);obtain⟨M,R⟩:=af (kx g U1 0);have TG:Hid (M S'=0/\M r'=0/\M Y=0):=by rw[<-R];exact⟨ef l1,ef l2,ef l4⟩
 rw[R]at K3;have K4:Hid (fW U U2 M X S Q T 0 true m U2):=⟨M,sL.refl _ _,K3.b,K3.t0,K3.p1,K3.p2,K3.p3,K3.p4⟩;have zA:Hid (U.heap.size<=U1.heap.size):=K1.b.size;clear K1 K2 K3 Z1 R s2 p2 l1 l2 l3 l4 O1;go_wp2;go_loopw[13] (λiv wi=>∃i:Nat,iv=Iq i/\i<=n/\Hid (∃fr m,fW U U2 M X S Q T (2*i) fr m wi)) (λiv _=>n-(intOf iv).toNat);case atStart=>exact⟨0,rfl,dg,true,m,K4.out⟩
 case round=>
  obtain⟨i,rfl,hi,HI⟩:=hrel;by_cases zm:i<n
  ·have zn:(i:Int)<n:=dg
   have zI:(i:Int)<1152921504606846976:=dg;obtain⟨bb,off,rfl,zH,O⟩:=HH.out.resolve_left dg;obtain⟨fr,m,KI⟩:=id HI.out;obtain⟨c0,c1,c2,c3,c4,c5⟩:=O i zm wr (by obtain⟨_,K⟩:=KI;exact K.b);obtain⟨F,I⟩:=HW.out i zm;obtain⟨r0,zo⟩:=af (op i);rw[zo]at c0 c1 c2 c3 c4 c5 F I;obtain⟨f,a,b,s,t,p,mm,zs⟩:=r0;simp only at c0 c1 c2 c3 c4 c5 F I;obtain⟨ln,zl⟩:=af zs.length;rw[zl]at c5;have KA:=qH KI;obtain⟨J,zi⟩:=af (wr.alloc (.cells #[Iq f,Iq a,Iq b,.string s,.string t,.slice p ln mm] 28));have K0:Hid (fW U U2 M X S Q T (2*i) fr m J):=by obtain⟨_,K⟩:=KA.out;rw[<-zi];exact⟨_,K.pure ((ac _ _).alloc (ad _) _)⟩
   have ze:=qH λhk=>Oi v.out K0.out dg f a b s t p ln mm hk F I;have B:J.heap[wr.heap.size]?=some (.cells #[Iq f,Iq a,Iq b,.string s,.string t,.slice p ln mm] 28 (0,0)):=by rw[<-zi];exact heap_alloc_new _ _
   have z0:J.cell? (aq wr.heap.size 0)=some (Iq f):=by simp[World.cell?,B]
   have z1:J.cell? (aq wr.heap.size 1)=some (Iq a):=by simp[World.cell?,B]
   have z2:J.cell? (aq wr.heap.size 2)=some (Iq b):=by simp[World.cell?,B]
   have z3:J.cell? (aq wr.heap.size 3)=some (.string s):=by simp[World.cell?,B]
   have z4:J.cell? (aq wr.heap.size 4)=some (.string t):=by simp[World.cell?,B]
   have z5:J.cell? (aq wr.heap.size 5)=some (.slice p ln mm):=by simp[World.cell?,B]
   clear B O zo zl F I KI;rcases(by omega:(f=1\/f=2\/f=3\/f=4)\/(f≠1/\f≠2/\f≠3/\f≠4))with hk|⟨k1,k2,k3,k4⟩;·have ST:=qH (ze hk);rcases hk with rfl|rfl|rfl|rfl;all_goals go_wp2_with fail;refine ST.out.mono ?_;rintro e u ⟨⟨c,rfl⟩,K5⟩;have zx:=qH K5;clear K5;go_wp2;exact⟨⟨i+1,by go_num,dg,zx⟩,by simp only[intOf];omega⟩
   ·have e1:(f==1)=false:=by simpa using k1
    have e2:(f==2)=false:=by simpa using k2
    have e3:(f==3)=false:=by simpa using k3
    have e4:(f==4)=false:=by simpa using k4
    clear k1 k2 k3 k4 ze;go_wp2;exact⟨⟨i+1,by go_num,dg,fr,m,K0.out.mono dg⟩,by simp only[intOf];omega⟩
  ·have zn:¬(i:Int)<n:=dg
   obtain⟨fr,m,g3,K⟩:=id HI.out;obtain⟨K2,s2,p2,LL⟩:=id Z2.out;obtain⟨W,H,q,n',t,sh,mv,C,zB,p⟩:=K.p1;have F0:=qH (OX.of K K2 zA.out s2 p2 LL TG.out p);have R1:=qH (kM S q W H w h t sh dg wr p.ses);have M0:=qH p.mp;have zC:Hid (n'<=4000000000000):=by show n'<=_;omega
   have x0:=F0.x;clear K K2 s2 p2 LL p zB;go_wp2_with fail;refine R1.out.mono ?_;rintro e1 u1 ⟨rfl,S1,f1⟩;have F1:=qH (F0.fs f1.one);have M1:=qH (M0.block (f1.block q M0.lt (j_ F0.n.2.2.2.2.2.1) (j_ F0.n.2.2.2.2.2.1)));obtain⟨Lg,zh⟩:=xW;have G1:=v.below F1.b;have R2:=qH (pK S q n' w h t _ mv ft E u1 G1.glo G1.apart G1.ert S1 M1 F1.n.2.2.2.2.2.1);rw[zh]at R2;have x1:=F1.x;clear F0 R1 M0 S1 f1 M1 G1 x0;go_wp2_with fail;refine R2.out.mono ?_;rintro e2 u2 ⟨rfl,S2,M2,f2⟩;have F2:=qH (F1.fs f2);have R3:=qH (MW (v.below F2.b) S2 M2 (λk=>if_pos (NP zh k)) F2.n.2.2.2.2.2.1 d);have x2:=F2.x;clear F1 R2 S2 M2 f2 x1;go_wp2_with fail;refine R3.out.mono ?_;rintro e3 u3 ⟨z3,rfl,Z3⟩;obtain⟨S3,M3,zg⟩:=id Z3.out;have l:=qH (F2.fs zg);have R4:=qH (MW (v.below l.b) l.s l.m (λ_=>rfl) l.n.2.2.2.2.1 d);have y3:=l.y;clear F2 R3 S3 M3 zg x2;go_wp2_with fail;refine R4.out.mono ?_;rintro e4 u4 ⟨z4,rfl,Z4⟩;obtain⟨S4,M4,o⟩:=id Z4.out;obtain⟨_,_,⟨n5,n6⟩,⟨n7,n8⟩,n9,zD,zE,zF,zq,zr,⟨zt,zu⟩,zv,zw⟩:=l.n;obtain⟨L,hL⟩:=Oj d;have hT:=eL (dW hL);obtain⟨Wd,Hf,B⟩:=Nh hT.nest;have B4:=qH (l.b.trans (o.below zq zr l.b.size));have G4:=v.below B4;have SX:=qH (nscreen_any S q n' w h (O7 d) _ _ E u4 G4.glo G4.apart G4.ert G4.tab ((o.block S Z3.out.1.lt (j_ n5) (j_ n7)).trans Z3.out.1) (Z3.out.2.1.block (o.block q Z3.out.2.1.lt (j_ n6) (j_ n8))) zC hL B hw hh);have SY:Hid (∀u,Bq u4 u->Cw 9 #[Pq S'] u λe u'=>∃N A C,e=Rw (Sq N (w*h) A)/\Hid (Cv 46 u' N w h C)/\Hid (gz L Wd Hf w h (λ_=>0) C)/\Hid (Pk u u' N (w*h) A)/\Hid (Bq u u')):=λu hu=>by have G:=v.below (B4.trans (hu.mono B4.size));exact nscreen_any S' r' 0 w h (O7 d) _ _ E u G.glo G.apart G.ert G.tab ((hu.block S' S4.lt).trans S4) (M4.below hu M4.lt) dg hL B hw hh
   have x4:=(QE (w':=u4) (p:=(aq X 0)) (o.block X (klt l.x) zt zu)).trans l.x;have y4:=(QE (w':=u4) (p:=(aq Y 0)) (o.block Y (klt l.y) zv zw)).trans l.y;have UQ:Hid (∀{C D},gz L Wd Hf w h (λ_=>0) C->gz L Wd Hf w h (λ_=>0) D->C=D):=λh1 h2=>h1.uniq hT h2;have O:Hid (w*h=h*w):=fd _ _;have hb:Hid (1<=w*h/\w*h<=160000):=⟨Nat.mul_pos hw.1 hh.1,iE hw.2 hh.2⟩;have eN:(w:Int)*(h:Int)=((w*h:Nat):Int):=At;obtain⟨N,hN⟩:=af (w*h);rw[hN]at SX SY O hb eN;clear R4 S4 M4 o l G4 hT B n5 n6 n7 n8 n9 zD zE zF zq zr zt zu zv zw y3 hN;go_wp2_with fail;refine SX.out.mono ?_;rintro e5 u5 ⟨N1,c1,C1,rfl,V1,I1,_,B5⟩;have y5:=bH B5.out y4;go_wp2_with fail;refine(SY.out u5 B5.out).mono ?_;rintro e6 u6 ⟨N2,c2,C2,rfl,V2,I2,_,B6⟩;obtain rfl:=UQ.out I1.out I2.out;have L1:Hid (CL u6 N1 0 N (tE w C1)):=by rw[O.out];exact(AK (V1.out.below B6.out)).cl
   have L2:Hid (CL u6 N2 0 N (tE w C1)):=by rw[O.out];exact(AK V2.out).cl
   have BF:=qH ((B4.trans (B5.out.mono B4.size)).trans (B6.out.mono (az B4.size B5.out.size)));have hN:=hb.out;have zy:=qH lz;clear SX SY V1 V2 I1 I2 B5 B6 x4 y4 y5 UQ O hb HI;go_wp2_with(go_at_call 10;refine(zy.out _ _).mono ?_;rintro e7 u7 ⟨rfl,h7⟩;obtain rfl:=h7.symm);go_loopw[22] (λjv wj=>∃j:Nat,j<=N/\jv=Iq j/\Hid (Gr u6 wj)) (λjv _=>N-(intOf jv).toNat);case atStart=>exact⟨0,dg,rfl,Gr.refl u6⟩
   case round=>
    obtain⟨j,hj,rfl,HJ⟩:=hrel;by_cases zj:j<N
    ·have M1:=L1.out.below HJ.out.below;have M2:=L2.out.below HJ.out.below;obtain⟨ce,P⟩:=af (tE w C1 j);obtain⟨t0,f0,g0,b0,p0⟩:=ce;have zk:(j:Int)<(N:Int):=dg
     have V:∀(k:Nat) u,(c5 ⟨t0,f0,g0,b0,p0⟩)[k]?=some u->wr.cell? (aq N1 (0+j*5+k))=some u:=λk u hu=>M1.cell j zj k u (by rw[P];exact hu);have Z:∀(k:Nat) u,(c5 ⟨t0,f0,g0,b0,p0⟩)[k]?=some u->wr.cell? (aq N2 (0+j*5+k))=some u:=λk u hu=>M2.cell j zj k u (by rw[P];exact hu);simp only[ci]at V Z;have x0:wr.cell? (aq N1 (j*5))=some (.string t0):=V 0 _ rfl;have x1:=V 1 (Iq f0) rfl;have x2:=V 2 (Iq g0) rfl;have x3:=V 3 (Iq b0) rfl;have x4:=V 4 (Iq p0) rfl;have y0:wr.cell? (aq N2 (j*5))=some (.string t0):=Z 0 _ rfl;have y1:=Z 1 (Iq f0) rfl;have y2:=Z 2 (Iq g0) rfl;have y3:=Z 3 (Iq b0) rfl;have y4:=Z 4 (Iq p0) rfl;clear M1 M2 P V Z;go_wp2_with fail;go_quiet(fail);go_wp2;exact⟨⟨j+1,dg,by go_num,HJ.out.trans ((Gr.refl _).drewN _)⟩,by simp only[intOf];omega⟩
    ·have zk:¬(j:Int)<(N:Int):=dg
     go_wp2;go_ret;exact⟨rfl,BF.trans (HJ.out.below.mono BF.size)⟩
set_option maxRecDepth 100000 in
set_option maxHeartbeats 4000000 in
theorem qR{U:AT}{E:zzi}(hG:Ed U E)(w h:Int)(l:zze)(n d:Nat)(op:Nat->My)(t:n<=1048576)(o:Ep U (.slice l n d) n op)(p:∀i,i<n->ff (op i).a/\ff (op i).b)(c:BY):
 Cw 3 #[Iq w,Iq h,.slice l n d,.string c] U λe r=>e=Rw (.bool true)/\Bq U r:=by
 by_cases f:1<=w/\w<=400/\1<=h/\h<=400;·obtain⟨w,rfl⟩:=cU (by omega:0<=w);obtain⟨h,rfl⟩:=cU (by omega:0<=h);exact vk hG w h dg dg l n d op t o p c
 ·have O:=qH (Gj w h f);clear f o p hG;go_enter func3,ntmps3;go_wp2_with fail;refine(O.out U).mono ?_;rintro v s ⟨rfl,m⟩;go_wp2_with fail;refine(O.out s).mono ?_;rintro x u ⟨rfl,q⟩;go_wp2;go_ret;exact⟨rfl,m.out.trans (q.out.mono m.out.size)⟩
end Go.Proofs.YtehgehanbnkdiaaGreatDoor
namespace Go.Proofs.YtehgehanbnkdiaaGreatDoor
open Go.ChangeShapes Go.WideShapes Go.RowKit Go.Proofs.Tryz
set_option linter.all false
theorem Na{W:AT}{g:Nat}(h:W.cell? (aq g 0)≠none):g<W.heap.size:=by
 by_cases e:g<W.heap.size;·exact e
 ·exact absurd (by simp[World.cell?,xr (xw e)]) h
set_option maxRecDepth 100000 in
theorem Mc{W:AT}(h:laidMetH prog dD W):gm W/\11<W.heap.size:=by
 obtain⟨A,q,r,l⟩:=(laidMetH_iff.1 h).1;obtain⟨g,t,y,f,p,m,o,d,e,x⟩:=iV q (kW 2) (fM 2 pt pt);have b:prog.globalNamed (kW 2).1=some 11:=pt;have s:(prog.globals[11]?).map (·.type)=some 433:=pt
 obtain rfl:=gQ (b.symm.trans m);obtain rfl:=gQ (s.symm.trans o);have hd:(kW 2).2=.agg (Lib.pow10Tab.map λz=>.lit (.int .u64 z)):=pt;rw[hd]at e;have a:=Lib.cells_of_tab (P:=prog) underlying433 underlying280 pt pt e;have v:W.var? prog (kW 2).1=some (Lib.pow10Tab.map λz=>Value.int .u64 z).toArray:=by rw[d,<-a]
 refine⟨⟨(kW 2).1,b,v⟩,?_⟩;have c:=sD b d 0;refine qp W (aq 11 0) (u:=.int .u64 1) ?_;rw[c,<-Array.getElem?_toList,a];rfl
end Go.Proofs.YtehgehanbnkdiaaGreatDoor
namespace Go.Proofs.YtehgehanbnkdiaaGreatDoor
open Go.ChangeShapes Go.WideShapes Go.ChangeAt Go.RowKit Go.Deep Go.Proofs.Tryz
set_option linter.all false
set_option maxRecDepth 100000 in
theorem JD{W:AT}(D:laidMetH prog dD W):aY W:=by
 obtain⟨o,hh⟩:=laidMetH_iff.1 D;obtain⟨P,z,H,x⟩:=o;obtain⟨K,R,l,b,p,q,r,h,hd,_⟩:=iV z (kW 4) (fM 4 pt pt);have a:prog.globalNamed (kW 4).1=some 10:=pt;obtain rfl:=gQ (a.symm.trans q);obtain rfl:=gQ (xV.symm.trans r);have m:DataW.trod (λ_=>()) prog W 0 (λ_=>true) false b 430 l.toList=some ((Rows.laid_pane_glyph_spans:DataW Unit),p):=hd;clear hd;have hd:=m;rw[Kw]at hd;obtain⟨B,n,_,J,_,z,F⟩:=DataW.trod_array underlying430 hd;have t:B.map (·.1)=eO.map λs=>(.agg [.lit (.int .i64 s.1),.lit (.int .i64 s.2.1),.lit (.int .i64 s.2.2)]:DataW Unit):=by have:=congrArg Prod.fst J;simp only[DataW.agg.injEq]at this;exact this.symm
 intro i hi;have f:=F i hi;rw[Cu]at f;have I:eO[i]?=some (cA i):=by unfold cA;have:i<eO.length:=hi;rw[sC,cW this];rfl
 have e:(B.map (·.1))[i]?=some (.agg [.lit (.int .i64 (cA i).1),.lit (.int .i64 (cA i).2.1),.lit (.int .i64 (cA i).2.2)]:DataW Unit):=by rw[t,I7,I];rfl
 rw[I7]at e;obtain⟨y,hy,u⟩:=jj.1 e;rw[hy]at f;obtain⟨d,O⟩:=y;simp only at u;subst u;obtain⟨L,M,N⟩:=yZ f;have C:∀k v,k<3->((l.toList.drop (i*3)).take 3)[k]?=some v->l[i*3+k]?=some v:=by intro k v G A;rw[qu,if_pos G,B0,I5]at A;exact A
 have c:=λk=>sD a h k;grind
end Go.Proofs.YtehgehanbnkdiaaGreatDoor
namespace Go.Proofs.YtehgehanbnkdiaaGreatDoor
open Go.ChangeShapes Go.WideShapes Go.RowKit Go.Proofs.Tryz
set_option linter.all false
theorem GI{W:AT}(h:laidMetH prog dD W):∃E,Ed W E:=by obtain⟨E,hG,a,b⟩:=uM (W:=W) h;obtain⟨t1,t2⟩:=Mc h;exact⟨E,hG,a,b,JD h,t1,t2⟩
theorem EW{H:Type}(d:DataW H):1<=Rows.uptoBulk d:=by
 cases d with
 |lit l=>cases l<;>simp[Rows.uptoBulk]
 |_=>simp[Rows.uptoBulk]
theorem um{H:Type}:∀l:List (DataW H),l.length<=Rows.uptoBulkAll l
 |[]=>aP _
 |d::l=>by have a:=EW d;have b:=um l;simp only[Rows.uptoBulkAll,cN];omega
