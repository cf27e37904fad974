import Derived.Test.YtehgehanbnkdiaaGreatDoorQ38
import Derived.Test.YtehgehanbnkdiaaGreatDoorQ49
import Derived.Test.YtehgehanbnkdiaaGreatDoorQ27
import Derived.Test.YtehgehanbnkdiaaGreatDoorQ22
set_option linter.all false
set_option maxRecDepth 100000
set_option maxHeartbeats 16000000
namespace Go.Proofs.YtehgehanbnkdiaaGreatDoor
open Go.RowKit Go.Sort Go.Proofs.Tryz
def gq.sz{L:zza}{Wd:zzb}{Hf:zzg}{W H:Nat}{mv:Int->Int}{C:zzd}(h:gq L Wd Hf W H mv C)(f:1<=W/\W<=400)(d:1<=H/\H<=400)(i:Nat)(hi:i<W*H):(j_ W C i).t.size<=20:=by
 obtain⟨_,_,_,P,_,_,rfl⟩:=h;obtain⟨b,c⟩:=GF f d L P L.length;rw[eJ]at hi;obtain⟨y,x,hy,a,rfl⟩:=I8 hi;rw[BE _ y a];rcases c y x hy a with e|⟨_,e⟩;.obtain⟨_,_,_,e⟩:=(b y hy).tail x a e;rw[e];decide
 .exact e
def J5(Q:AT)(W H:Nat)(v:Fd)(b:Prop)(C:zzd):Prop:=∃p n cap D,v=.slice p n cap/\n<=160000/\(n<=cap/\cap<=9223372036854775807)/\Qf Q p n D/\(∀i,i<n->(D i).t.size<=20)/\(b->n=W*H/\D=j_ W C)
def J5.keep{Q Q':AT}{W H:Nat}{v:Fd}{b:Prop}{C:zzd}(h:J5 Q W H v b C)(f:∀M n cap:Nat,v=Sq M n cap->M<Q.heap.size->Q'.heap[M]?=Q.heap[M]?):J5 Q' W H v b C:=by
 obtain⟨p,n,cap,D,rfl,a,c,d,e⟩:=h;refine⟨p,n,cap,D,rfl,a,c,?_,e⟩;rcases d with h|⟨g,rfl,h⟩;.exact .inl h
 .exact .inr ⟨g,rfl,h.kept λm o l=>(f g n cap rfl h.cl.lt).trans l⟩
structure Se(U U':AT)(S r n W H:Nat)(t:BY)(mv:Int->Int)(C:zzd)(v:Fd):Prop where
 ses:iX U' S W H t r v
 mp:Mp U' r n mv
 sh:J5 U' W H v True C
 new:∀M n cap:Nat,v=Sq M n cap->U.heap.size<=M/\M<U'.heap.size
 fs:Fs S S U U'
def tK(S r n W H:Nat)(t:BY)(sh:Fd)(b:Prop)(D:zzd)(mv:Int->Int)(E:zzi)(U:AT)(hG:qK U E)(hA:ee U E)(hE:qJ U)(ht:aY U)(hg:11<U.heap.size)(K:gC U)(hS:iX U S W H t r sh)(V:Mp U r n mv)(o:S≠r)(hn:n<=4000000000000){L:zza}(hp:bv t=.ok L){Wd:zzb}{Hf:zzg}(hZ:Sz L Wd Hf)(A:1<=W/\W<=400)(z:1<=H/\H<=400)(zk:J5 U W H sh b D):
 Cw 11 #[Pq S] U λe U'=>∃s v C,e=Rw (.string s)/\Hid (s.size<=8000000/\(b/\D=C->s.size=0))/\gq L Wd Hf W H mv C/\Se U U' S r n W H t mv C v:=by
 have zn:prog.follows .mixedOrders=true:=pt;have I:=qH<|nscreen_any S r n W H t sh mv E U hG hA hE ht hS V hn hp hZ A z;obtain⟨p,k,c,D',rfl,h1,h2,h3,h4,h5⟩:=zk;have y:W*H=H*W:=eJ _ _;have O:1<=W*H:=Nat.mul_pos A.1 z.1;have P:W*H<=400*W:=by rw[eJ];exact iN _ z.2
 have UP:Hid (∀u N a C,Bq U u->Cv 46 u N W H C->gq L Wd Hf W H mv C->Sk U u N (W*H) a->Cw 35 #[.slice p k c,Iq W,Sq N (W*H) a,Iq W] u λe B=>∃s x,e=Rw (.tuple #[.string s,Iq x])/\Hid (s.size<=8000000/\(b/\D=C->s.size=0))/\Hid (Bq u B)):=λu N a C hu hC hI J=>by have h:=Bf hC;rw[<-y]at h;refine(LR D' (j_ W C) k W (W*H) p N c a u dg h2 J.2 (h3.low hu) h (ht.below hu) (zz006 hg hu.size) (K.below hu hg) h4 (hI.sz A z) A ⟨O,P⟩).mono λe B ⟨s,x,q1,q2,Y,q4⟩=>⟨s,x,q1,⟨q2,fun⟨z1,z2⟩=>Y ?_⟩,q4⟩;obtain⟨rfl,rfl⟩:=h5 z1;exact⟨rfl,λi _=>by rw[z2]⟩
 have d:Hid (∀u,Bq U u->iX u S W H t r (.slice p k c)):=λu hu=>(hu.block S hS.lt).trans hS;have ze:Hid (∀u,Bq U u->Mp u r n mv):=λu hu=>V.below hu V.lt;have zm:=qH hS.lt;have zl:=qH o;have F:Hid (∀u N a C,Bq U u->Cv 46 u N W H C->gq L Wd Hf W H mv C->Sk U u N (W*H) a->Se U (u.setCell (aq S 4) (Sq N (W*H) a)) S r n W H t mv C (Sq N (W*H) a)):=λu N a C hu hC hI J=>by
  have zj:N≠S:=by have:=J.1;have:=hS.lt;omega
  have h:=Bf (hC.keep (aM u (aq S 4) (Sq N (W*H) a) N zj));rw[<-y]at h;exact⟨heap_setCell_same _ S 4 _ _ _ (d u hu),(ze u hu).block (aM _ (aq S 4) _ r o.symm),⟨_,_,_,_,rfl,ik A.2 z.2,J.2,.inr ⟨N,rfl,h⟩,hI.sz A z,λ_=>⟨rfl,rfl⟩⟩,λM n a e=>by injection e with e;injection e with e;injection e with e;rw[<-e];exact⟨J.1,h.cl.lt⟩,(Fs.of hu).trans (Fs.set _ _ _)⟩
 clear hG hA hE ht K hg hS V hp hZ o h1 h2 h3 h4 h5 y O P;obtain⟨m,hm⟩:=af (W*H);rw[hm]at UP I F;clear hm;go_enter func11,ntmps11;go_wp2_with(go_at_call 9;refine I.mono ?_;rintro e U1 ⟨N,a,C,rfl,zh,l,G,HB1⟩);obtain⟨d0,d1,d2,d3,d4,dz⟩:=(d U1 HB1).cell;have Z:=qH<|HB1.drew;have HP:Hid (∀u,(u=U1\/u=U1.drew)->Cw 35 #[.slice p k c,Iq W,Sq N m a,Iq W] u λe B=>∃s x,e=Rw (.tuple #[.string s,Iq x])/\Hid (s.size<=8000000/\(b/\D=C->s.size=0))/\Hid (Bq U B)/\Hid (Cv 46 B N W H C)):=λu hu=>by
  have hb:Bq U u:=by rcases hu with rfl|rfl<;>first|exact HB1.out|exact Z.out
  have h:Cv 46 u N W H C:=by rcases hu with rfl|rfl<;>exact zh.out.keep rfl
  exact(UP u N a C hb h l G.out).mono λe B ⟨s,x,q1,q2,Y⟩=>⟨s,x,q1,q2,hb.trans (Y.out.mono hb.size),h.below Y⟩
 clear d1 d2 d3 dz;go_region_held(λW'=>W'.cell? (aq S 0)=some (Iq W)/\W'.cell? (aq S 4)=some (.slice p k c)) (go_keep) (first
  |(go_at_call 35;refine ag (HP _ (by first|exact .inl rfl|exact .inr rfl)) ?_;rintro e R ⟨s,x,rfl,zg,f,zi⟩;have n0:=(d R f).cell.1;have n4:=(d R f).cell.2.2.2.2.1));all_goals clear d0 d4;have nz:=(d R f).cell.2.2.2.2.2;go_wp2;go_ret;exact⟨s,_,C,rfl,zg,l,F R N a C f zi l G⟩
structure xV(U:AT)(E:zzi):Prop where
 glo:qK U E
 apart:ee U E
 ert:qJ U
 tab:aY U
 tens:gC U
 g1:11<U.heap.size
def xV.below{U Q:AT}{E:zzi}(h:xV U E)(a:Bq U Q):xV Q E:=
 ⟨h.glo.cells a,h.apart.below a,h.ert.below a,h.tab.below a,h.tens.below a h.g1,zz006 h.g1 a.size⟩
structure KG(g:Nat->Nat)(i:Nat)(w w':AT):Prop where
 os:w'.os=w.os
 tape:w'.tape=w.tape
 output:w'.output=w.output
 size:w.heap.size<=w'.heap.size
 block:∀b,b<w.heap.size->g b≠i->w'.heap[b]?=w.heap[b]?
def kx(g:Nat->Nat)(w:AT)(i b:Nat):Nat:=if b<w.heap.size then g b else i
def aX{g:Nat->Nat}{w:AT}{i b:Nat}(h:b<w.heap.size):kx g w i b=g b:=if_pos h
def fV{g:Nat->Nat}{w:AT}{i b:Nat}(h:w.heap.size<=b):kx g w i b=i:=if_neg dg
section
variable{g g0:Nat->Nat} {i j S Q T X:Nat} {w w' w0:AT}
def KG.of(h:Bq w w'):KG g i w w':=⟨h.os,h.tape,h.output,h.size,λb a _=>h.block b a⟩
def KG.fs{r:Nat}(h:Fs S r w w')(a:g S=i)(c:g r=i):KG g i w w':=⟨h.os,h.tape,h.output,h.size,λb d n=>h.block b d (λe=>n (e▸a)) λe=>n (e▸c)⟩
def KG.gb(h:w.grownBy w' (some Q))(a:g Q=i):KG g i w w':=⟨h.os,h.tape,h.output,h.size,λb c n=>h.block b c λe=>n (by injection e with e;rw[e];exact a)⟩
def KG.set(b o:Nat)(v:Fd)(h:g b=i):KG g i w (w.setCell (aq b o) v):=⟨rfl,rfl,rfl,by simp[World.setCell],λc _ n=>aM _ _ _ c λe=>n (by rw[e];exact h)⟩
def KG.k2{v:Fd}(h:US Q v w w')(a:g Q=i)(c:∀b,v.ownBlock=some b->g b=i):KG g i w w':=⟨h.os,h.tape,h.output,h.size,λb d n=>h.block b d (λe=>n (e▸a)) λe=>n (c b e)⟩
def KG.k3{M B:Nat}(h:K3 T M B w w')(a:g T=i)(c:g M=i)(d:g B=i):KG g i w w':=⟨h.os,h.tape,h.output,h.size,λb f n=>h.block b f (λe=>n (e▸a)) (λe=>n (e▸c)) λe=>n (e▸d)⟩
structure um(w0:AT)(g0 g:Nat->Nat)(w:AT):Prop where
 os:w.os=w0.os
 tape:w.tape=w0.tape
 output:w.output=w0.output
 size:w0.heap.size<=w.heap.size
 tag:∀b,b<w0.heap.size->g b=g0 b
 block:∀b,b<w0.heap.size->g0 b=0->w.heap[b]?=w0.heap[b]?
def um.refl(w:AT)(g:Nat->Nat):um w g g w:=⟨rfl,rfl,rfl,LE,λ_ _=>rfl,λ_ _ _=>rfl⟩
def um.step(h:um w0 g0 g w)(k:KG g j w w')(hi:j≠0):um w0 g0 (kx g w i) w':=by have c:=h.size;refine⟨k.os.trans h.os,k.tape.trans h.tape,k.output.trans h.output,aA c k.size,λb a=>(aX dg).trans (h.tag b a),λb a e=>(k.block b dg ?_).trans (h.block b a e)⟩;rw[h.tag b a,e];exact hi.symm
def um.trans{c:Nat->Nat}{d:AT}(h:um w0 g0 c d)(k:um d c g w):um w0 g0 g w:=by have f:=h.size;exact⟨k.os.trans h.os,k.tape.trans h.tape,k.output.trans h.output,aA f k.size,λb a=>(k.tag b dg).trans (h.tag b a),λb a e=>(k.block b dg (by rw[h.tag b a,e])).trans (h.block b a e)⟩
def um.below{U:AT}(h:um w0 g0 g w)(a:Bq U w0)(c:∀b,b<U.heap.size->g0 b=0):Bq U w:=by have d:=a.size;exact⟨h.os.trans a.os,h.tape.trans a.tape,h.output.trans a.output,aA d h.size,λb l=>(h.block b dg (c b l)).trans (a.block b l)⟩
structure ul(g:Nat->Nat)(S:Nat)(w:AT)(W H r n:Nat)(t:BY)(sh:Fd)(mv:Int->Int)(b:Prop)(C:zzd):Prop where
 ses:iX w S W H t r sh
 mp:Mp w r n mv
 kn:J5 w W H sh b C
 tr:∃L,bv t=.ok L
 wh:(1<=W/\W<=400)/\1<=H/\H<=400
 ne:S≠r
 tg:g S=1/\g r=1
 tv:∀M n cap:Nat,sh=Sq M n cap->M<w.heap.size/\g M=1/\M≠S/\M≠r
def ul.keep{W H r n:Nat}{t:BY}{sh:Fd}{mv:Int->Int}{b:Prop}{C:zzd}(h:ul g S w W H r n t sh mv b C)(k:KG g j w w')(c:j≠1):ul (kx g w i) S w' W H r n t sh mv b C:=by have a:∀b,g b=1->g b≠j:=λb e q=>c (q▸e);exact⟨(k.block S h.ses.lt (a _ h.tg.1)).trans h.ses,h.mp.block (k.block r h.mp.lt (a _ h.tg.2)),h.kn.keep λM n cap e l=>k.block M l (a _ (h.tv M n cap e).2.1),h.tr,h.wh,h.ne,⟨(aX h.ses.lt).trans h.tg.1,(aX h.mp.lt).trans h.tg.2⟩,λM n cap e=>⟨zz006 (h.tv M n cap e).1 k.size,(aX (h.tv M n cap e).1).trans (h.tv M n cap e).2.1,(h.tv M n cap e).2.2⟩⟩
def Kf(g:Nat->Nat)(Q:Nat)(w:AT)(fr:Bool)(k:Nat):Prop:=∃t p q v m,uz Q t p q v m fr w/\m<=k/\g Q=2/\∀b,v.ownBlock=some b->g b=2
def uz.lt{t:BY}{p q:Int}{v:Fd}{m:Nat}{fr:Bool}(h:uz Q t p q v m fr w):Q<w.heap.size:=(aj.1 h.sb).1
def KR.keepb{B n s:Nat}{e:TypeId}{v:Fd}{P:Nat->Fd->Prop}(h:KR w B e s v n P)(p:∀b,v.ownBlock=some b->b<w.heap.size->w'.heap[b]?=w.heap[b]?):KR w' B e s v n P:=by
 obtain⟨r,h,o⟩:=h;refine⟨r,⟨h.1,?_⟩,o⟩;rcases h.2 with m|⟨c,f,l,a,b,d,e⟩;.exact .inl m
 .exact .inr ⟨c,f,l,a,b,(p c (by rw[a];rfl) (aj.1 d).1).trans d,e⟩
def KR.ownlt{B n s:Nat}{e:TypeId}{v:Fd}{P:Nat->Fd->Prop}(h:KR w B e s v n P){b:Nat}(a:v.ownBlock=some b):b<w.heap.size:=by obtain⟨c,h,_⟩:=h;exact(h.lt b a).2
def Kf.keep{fr:Bool}{k:Nat}(h:Kf g Q w fr k)(q:KG g j w w')(r:j≠2):Kf (kx g w i) Q w' fr k:=by obtain⟨t,p,s,v,m,a,o,c,d⟩:=h;have f:∀b,g b=2->g b≠j:=λb e q=>r (q▸e);exact⟨t,p,s,v,m,⟨(q.block Q a.lt (f _ c)).trans a.sb,a.of.keepb λb e l=>q.block b l (f _ (d b e))⟩,o,(aX a.lt).trans c,λb e=>(aX (a.of.ownlt e)).trans (d b e)⟩
def Kg(g:Nat->Nat)(T:Nat)(w:AT)(n F:Nat):Prop:=∃K M cap W H b B bc hf,ka T K M cap W H n b B bc hf w/\4<=b/\b+4*hf.size<=F/\g T=3/\g K=3/\g M=3/\g B=3
def ka.lts{K M a W H n b B c:Nat}{d:BY}(h:ka T K M a W H n b B c d w):T<w.heap.size/\K<w.heap.size/\M<w.heap.size/\B<w.heap.size:=⟨h.tb.1,klt h.kk.c0,h.kk.kb.1,h.bb.1⟩
def Kg.keep{n F:Nat}(h:Kg g T w n F)(q:KG g j w w')(x:j≠3):Kg (kx g w i) T w' n F:=by obtain⟨K,M,cap,W,H,b,B,o,s,a,p,r,t1,t2,t3,t4⟩:=h;have c:∀b,g b=3->g b≠j:=λb e q=>x (q▸e);obtain⟨d,f,l,m⟩:=a.lts;exact⟨K,M,cap,W,H,b,B,o,s,⟨a.tb.of q.size (q.block T d (c _ t1)),a.kk.of q.size (q.block K f (c _ t2)) (q.block M l (c _ t3)),a.bb.of q.size (q.block B m (c _ t4)),a.ne⟩,p,r,(aX d).trans t1,(aX f).trans t2,(aX l).trans t3,(aX m).trans t4⟩
def Qg(g:Nat->Nat)(X S Q T:Nat)(w:AT)(fr:Bool)(n:Nat):Prop:=∃p m cap,w.heap[X]?=some (.cells #[Pq S,Pq Q,Pq T,.slice p m cap] 36 (0,0))/\g X=4/\m<=160000/\(0<m->∃M,p=some (aq M 0)/\g M=0/\KB w M (m*5) (xU m 20))/\(fr=false->m=n)
def Qg.keep{fr:Bool}{n:Nat}(h:Qg g X S Q T w fr n)(q:KG g j w w')(d:j≠4)(f:j≠0):Qg (kx g w i) X S Q T w' fr n:=by obtain⟨p,m,cap,a,b,c,o,r⟩:=h;have l:=(aj.1 a).1;refine⟨p,m,cap,(q.block X l (by rw[b];exact d.symm)).trans a,(aX l).trans b,c,λs=>?_,r⟩;obtain⟨M,e,t,k⟩:=o s;exact⟨M,e,(aX k.1).trans t,k.of q.size (q.block M k.1 (by rw[t];exact f.symm))⟩
structure KX(U w0:AT)(g0:Nat->Nat)(X S Q T k:Nat)(fr:Bool)(n:Nat)(g:Nat->Nat)(w:AT):Prop where
 z:um w0 g0 g w
 b:Bq U w
 t0:∀b,b<U.heap.size->g b=0
 p1:∃W H r n t sh mv C,n<=k/\ul g S w W H r n t sh mv False C
 p2:Kf g Q w fr k
 p3:Kg g T w n (4+k*32000000)
 p4:Qg g X S Q T w fr n
variable{U:AT} {k k' n:Nat} {fr:Bool}
def Kf.mono(h:Kf g Q w fr k)(e:k<=k'):Kf g Q w fr k':=by obtain⟨t,p,c,v,m,a,d,b⟩:=h;exact⟨t,p,c,v,m,a,dg,b⟩
def Kg.mono{F a:Nat}(h:Kg g T w n F)(m:F<=a):Kg g T w n a:=by obtain⟨K,M,cap,W,H,b,B,c,f,d,e,l,t⟩:=h;exact⟨K,M,cap,W,H,b,B,c,f,d,e,dg,t⟩
def KG.bel(q:KG g j w w')(a:j≠0)(b:Bq U w)(t:∀b,b<U.heap.size->g b=0):Bq U w'/\∀b,b<U.heap.size->kx g w i b=0:=by have d:=b.size;exact⟨⟨q.os.trans b.os,q.tape.trans b.tape,q.output.trans b.output,aA d q.size,λc l=>(q.block c dg (by rw[t c l];exact a.symm)).trans (b.block c l)⟩,λc l=>(aX dg).trans (t c l)⟩
def KX.bz(h:KX U w0 g0 X S Q T k fr n g w)(q:KG g j w w')(a:j≠0):um w0 g0 (kx g w i) w'/\Bq U w'/\∀b,b<U.heap.size->kx g w i b=0:=⟨h.z.step q a,q.bel a h.b h.t0⟩
def KX.mono(h:KX U w0 g0 X S Q T k fr n g w)(a:k<=k'):KX U w0 g0 X S Q T k' fr n g w:=by obtain⟨W,H,r,n,t,sh,mv,C,l,p⟩:=h.p1;exact⟨h.z,h.b,h.t0,⟨W,H,r,n,t,sh,mv,C,dg,p⟩,h.p2.mono a,h.p3.mono dg,h.p4⟩
def fg(U w0:AT)(g0:Nat->Nat)(X S Q T k:Nat)(fr:Bool)(n:Nat)(w:AT):Prop:=∃g,KX U w0 g0 X S Q T k fr n g w
def KX.of1(h:KX U w0 g0 X S Q T k fr n g w)(q:KG g 1 w w')(p:∃W H r n t sh mv C,n<=k'/\ul (kx g w 1) S w' W H r n t sh mv False C)(a:k<=k'):fg U w0 g0 X S Q T k' fr n w':=by obtain⟨b,c,d⟩:=h.bz (i:=1) q (by decide);exact⟨_,b,c,d,p,(h.p2.keep q (by decide)).mono a,(h.p3.keep q (by decide)).mono dg,h.p4.keep q (by decide) (by decide)⟩
def KX.k1(h:KX U w0 g0 X S Q T k fr n g w)(q:KG g j w w')(a:j≠1)(b:k<=k'):∃W H r n t sh mv C,n<=k'/\ul (kx g w i) S w' W H r n t sh mv False C:=by obtain⟨W,H,r,n,t,sh,mv,C,l,p⟩:=h.p1;exact⟨W,H,r,n,t,sh,mv,C,dg,p.keep q a⟩
def KX.of2{d:Bool}(h:KX U w0 g0 X S Q T k fr n g w)(q:KG g 2 w w')(p:Kf (kx g w 2) Q w' d k')(l:k<=k')(f:d=false->fr=false):fg U w0 g0 X S Q T k' d n w':=by obtain⟨m,o,r⟩:=h.bz (i:=2) q (by decide);obtain⟨a,b,c,d1,d2,d3,d4,d5⟩:=h.p4.keep (i:=2) q (by decide) (by decide);exact⟨_,m,o,r,h.k1 q (by decide) l,p,(h.p3.keep q (by decide)).mono dg,a,b,c,d1,d2,d3,d4,λe=>d5 (f e)⟩
def KX.of3{d:Nat}(h:KX U w0 g0 X S Q T k fr n g w)(q:KG g 3 w w')(p:Kg (kx g w 3) T w' d (4+k'*32000000))(f:k<=k')(l:fr=false->d=n):fg U w0 g0 X S Q T k' fr d w':=by obtain⟨m,o,r⟩:=h.bz (i:=3) q (by decide);obtain⟨a,b,c,d1,d2,d3,d4,d5⟩:=h.p4.keep (i:=3) q (by decide) (by decide);exact⟨_,m,o,r,h.k1 q (by decide) f,(h.p2.keep q (by decide)).mono f,p,a,b,c,d1,d2,d3,d4,λe=>(d5 e).trans (l e).symm⟩
def KX.base{c:AT}{a:Nat->Nat}(h:KX U c a X S Q T k fr n g w)(z:um w0 g0 a c):KX U w0 g0 X S Q T k fr n g w:=⟨z.trans h.z,h.b,h.t0,h.p1,h.p2,h.p3,h.p4⟩
def KX.pure(h:KX U w0 g0 X S Q T k fr n g w)(b:Bq w w'):KX U w0 g0 X S Q T k fr n (kx g w 0) w':=by obtain⟨a,c,d⟩:=h.bz (i:=0) (KG.of (i:=9) b) (by decide);exact⟨a,c,d,h.k1 (KG.of (i:=9) b) (by decide) LE,h.p2.keep (KG.of (i:=9) b) (by decide),h.p3.keep (KG.of (i:=9) b) (by decide),h.p4.keep (KG.of (i:=9) b) (by decide) (by decide)⟩
end
def rN(b B:Nat)(s:BY)(a:s.size<=4000):∀f,R_ b B s f
 |0=>λup l w D i d F L h e m=>by have:=h.c.2.2;omega
 |f+1=>QL (rN b B s a f) a
def UC(w:AT)(s:BY)(e:Ending)(w':AT):Prop:=Bq w w'/\match fF s with
 |.error (c,_)=>∃p,e=Rw (.tuple #[.slice none 0 0,Iq (c:Int),Iq p])
 |.ok L=>∃nv B AV KV,e=Rw (.tuple #[nv,Iq 0,Iq 0])/\RD w' B nv L AV KV
def Gq(s:BY)(w:AT):Cw 13 #[.string s] w (UC w s):=by
 by_cases hl:4000<s.size;.have Y:(4000:Int)<(s.size:Int):=dg;go_enter func13,ntmps13;go_wp2;refine bodyPost_ret (v:=.tuple #[.slice none 0 0,Iq 1,Iq 0]) (by simp[results,Tryz.results13,go_sem]) rfl ?_;exact⟨Ok,by unfold fF;rw[if_pos hl];exact⟨0,rfl⟩⟩
 have Y:¬(4000:Int)<(s.size:Int):=dg;have hs:s.size<=4000:=dg;obtain⟨o,G⟩:=af w.heap.size;obtain⟨B,z⟩:=af (w.alloc (.cells #[.string s,Iq 0,.slice none 0 0,Iq (-1),Iq 0,Iq (-1),Iq 0] 98));have H0:Hid (oN B o (o+1) s 0 0 (-1) none [] B):=by
  have h:B.heap[o]?=some (.cells #[.string s,Iq 0,.slice none 0 0,Iq (-1),Iq 0,Iq (-1),Iq 0] 98 (0,0)):=by rw[<-z,<-G];exact heap_alloc_new _ _
  have zh:B.heap.size=o+1:=by rw[<-z,ai,G]
  exact⟨.slice none 0 0,λ_=>0,λ_=>.slice none 0 0,⟨LT,0,-1,0,⟨dg,by simp[World.cell?,h],by simp[World.cell?,h],by simp[World.cell?,h],by simp[World.cell?,h],by simp[World.cell?,h],by simp[World.cell?,h],by simp[World.cell?,h],λj=>frozen_of_row _ _ _ _ _ h⟩,λ_=>⟨(by decide:(-1:Int)<0),rfl⟩⟩,LE,RD.nothing _ _ _ _,LE,λk=>by rw[BM At];exact LE,⟨dg,dg⟩,Fr.refl _ _ _⟩
 have C:Hid (∀w',Fr (o+1) o B w'->Bq w w'):=λw' f=>by
  have b0:Bq w B:=by rw[<-z];exact No
  exact b0.trans ⟨f.os,f.tape,f.output,f.size,λk hk=>f.block k dg dg⟩
 have CN:=qH (rN o (o+1) s hs (s.size+1) (-1) B B 0 0 (-1) none [] H0.out (.inl rfl) dg);clear H0;go_enter func13,ntmps13;go_wp2_with fail;clear z G;refine Ut CN.out ?_;rintro w1 K1;obtain⟨i1,b1,F1,L1,⟨lv,AV,KV,V⟩,_,_,_,x1⟩:=K1.out;go_wp2_with fail;refine Ut (rO V.j hs) ?_;rintro Z E2;obtain⟨i2,J,⟨hi,rfl⟩,l2,_,x⟩:=V.on E2;replace hi:=qH hi;obtain⟨c1,c2,c3⟩:=x.j.c;have N:=x1 (by decide);have HP:Hid (fF s=_):=if_neg hl;obtain⟨K,at_,c4,c5,m⟩:∃K a,Z.cell? (aq o 4)=some (Iq K)/\Z.cell? (aq o 5)=some (Iq a)/\(J<0->FL K a F1 i1):=by obtain⟨_,K,a,ze,r,e⟩:=x.j;exact⟨K,a,r.c4,r.c5,λq=>(e q).1⟩
 replace m:=qH m;replace x:=qH x;replace N:=qH N;clear K1 E2 V CN x1;have I:Hid (∀w3 (y:Int),Z.grownBy w3 (some o)->(∃e,fF s=.error (2,e))->UC w s (.returned (.tuple #[.slice none 0 0,Iq 2,Iq y])) w3):=λw3 y g ⟨e,m⟩=>⟨C.out _ (x.out.fr.trans (Fr.grown g x.out.b.2)),by rw[m];exact⟨_,rfl⟩⟩;by_cases O:J<0;rotate_right
 .have eb:=decide_eq_false O;have A:(0:Int)<=J:=dg;have F:=decide_eq_true A;have P:Hid (∃e,fF s=.error (2,e)):=by obtain⟨e,m⟩:=N.out.2 A;exact⟨e,by rw[HP.out,m]⟩
  go_wp2_with fail;go_quiet(fail);go_wp2;refine bodyPost_ret (v:=.tuple #[.slice none 0 0,Iq 2,Iq J]) (by simp[results,Tryz.results13,go_sem]) rfl ?_;exact I.out _ _ (bi _ _ _) P
 have eb:=decide_eq_true O;have l:=HP.out;rw[N.out.1 O]at l;simp only at l;rw[<-hi.out]at l;by_cases M:(i2:Int)<(s.size:Int);.have el:=decide_eq_true M;have P:Hid (∃e,fF s=.error (2,e)):=⟨_,by rw[l,if_pos dg]⟩;clear l;go_wp2_with fail;refine Ut (rM x.out.j (i2:Int) dg) ?_;rintro w3 ⟨i3,b3,J3,⟨_,_,R⟩,_,A⟩;have k3:=J3.c.2.2;have F:=decide_eq_true A;replace R:=qH R;clear J3 c1 c2 c3 c4 c5;go_wp2_with fail;go_quiet(fail);go_wp2;refine bodyPost_ret (v:=.tuple #[.slice none 0 0,Iq 2,Iq b3]) (by simp[results,Tryz.results13,go_sem]) rfl ?_;exact I.out _ _ (gr_trans R (bi _ _ _)) P
 have el:=decide_eq_false M;have zg:decide ((0:Int)<=J)=false:=decide_eq_false dg;rw[if_neg dg]at l;have m:=m.out O;cases F1 with
 |some f=>obtain⟨c,p⟩:=f;obtain⟨rfl,rfl,_⟩:=m;have F:decide ((0:Int)<=(p:Int))=true:=decide_eq_true dg;replace l:=qH l;go_wp2_with fail;go_quiet(fail);go_wp2;refine bodyPost_ret (v:=.tuple #[.slice none 0 0,Iq (c:Int),Iq (p:Int)]) (by simp[results,Tryz.results13,go_sem]) rfl ?_;exact⟨C.out _ (x.out.fr.trans (Fr.drewN _ _ _ _)),by rw[l.out];exact⟨_,rfl⟩⟩
 |none=>have F:decide ((0:Int)<=at_)=false:=decide_eq_false (by have:at_<0:=m;omega);replace l:=qH l;clear m;go_wp2;refine bodyPost_ret (v:=.tuple #[lv,Iq 0,Iq 0]) (by simp[results,Tryz.results13,go_sem]) rfl ?_;exact⟨C.out _ x.out.fr,by rw[l.out];exact⟨lv,_,AV,KV,rfl,x.out.d⟩⟩
def De.kn{s:BY}{L:zza}{w:AT}{g:Nat}(h:De w g L.length (ae L))(b:ep s L):uy w g L.length:=by
 refine⟨b.vl.cnt,λk d=>?_⟩;obtain⟨ab,z,q⟩:=h.nd k d;obtain⟨p,c,rfl,r⟩:=q.kids;have hu:=b.gr.upl k d;have y:=b.gr.up0 k d;refine⟨(ae L k).kind,ab,⟨(ae L k).text.toArray⟩,p,_,c,_,?_,b.kids_le d,⟨?_,hu⟩,λW a=>?_,λj x=>⟨_,λW a=>(a.cell (p:=(aq ab j)) q.lab).trans (q.att j x)⟩,λi hi=>?_⟩;.have f:=b.vl.tl k d;have l:=b.sz;show(ae L k).text.toArray.size<=_;simp;omega
 .by_cases e:k=0;.subst e;rw[b.up0];decide
  .omega
 .have n:=(h.below a).nd k d;exact⟨(a.cell (p:=(aq g _)) h.lt).trans q.c0,(a.cell (p:=(aq g _)) h.lt).trans q.c1,(a.cell (p:=(aq g _)) h.lt).trans q.c2,(a.cell (p:=(aq g _)) h.lt).trans q.c3,(a.cell (p:=(aq g _)) h.lt).trans q.c4⟩
 .rcases r with r|⟨m,o,rfl,f,l⟩;.rw[r]at hi;simp at hi
  .have:=eE b d hi;exact⟨m,o,_,rfl,this.1,this.2,λW a=>(a.cell (p:=(aq m (o+i))) f).trans (l i hi)⟩
def Ho(s:BY)(w:AT):Cw 13 #[.string s] w λe w'=>S4 w e w':=by
 refine(Gq s w).mono λe w' ⟨b,h⟩=>⟨b,?_⟩;cases c:bv s with
 |error x=>rw[lT c]at h;obtain⟨p,h⟩:=h;exact .inl ⟨_,_,_,h,by have:=lH c;omega⟩
 |ok L=>
  have d:=de c;have a:=ea d;rw[d]at h;obtain⟨o,B,r,KV,rfl,R⟩:=h;obtain⟨g,cap,rfl,l⟩:∃g cap,o=Sq g L.length cap/\g<w'.heap.size:=by
   obtain⟨z,m⟩:=R.nr.row;rcases cm m with⟨_,y⟩|⟨g,cap,e,_,f,_⟩;.have:=a.pos;omega
   .exact⟨g,cap,e,f⟩
  exact .inr ⟨g,L.length,cap,rfl,a.pos,(R.nds l).kn a⟩
section
variable{U w0 w w':AT} {E:zzi} {g0 g:Nat->Nat} {X S Q T k n:Nat} {fr:Bool}
def ul.put{W H r n h:Nat}{t d:BY}{sh:Fd}{mv c:Int->Int}{b:Prop}{C:zzd}(p:ul g S w W H r n t sh mv b C)(f:Fs S r w w')(m:iX w' S W H d r sh)(o:Mp w' r h c)(s:∃L,bv d=.ok L):ul (kx g w 1) S w' W H r h d sh c b C:=
 ⟨m,o,p.kn.keep λM n a e l=>f.block M l (p.tv M n a e).2.2.1 (p.tv M n a e).2.2.2,s,p.wh,p.ne,⟨(aX p.ses.lt).trans p.tg.1,(aX p.mp.lt).trans p.tg.2⟩,λM n a e=>⟨zz006 (p.tv M n a e).1 f.size,(aX (p.tv M n a e).1).trans (p.tv M n a e).2.1,(p.tv M n a e).2.2⟩⟩
def Te(hG:xV U E)(h:fg U w0 g0 X S Q T k fr n w)(s:BY):Cw 8 #[Pq S,.string s] w λe w'=>(∃x y:Int,e=Rw (.tuple #[Iq x,Iq y]))/\fg U w0 g0 X S Q T k fr n w':=by
 obtain⟨g,h⟩:=h;obtain⟨W,H,r,m,t,sh,mv,C,d,p⟩:=h.p1;have q:=hG.below h.b;refine(wD S r m W H t sh mv s E w q.glo q.apart q.ert p.ses p.mp p.ne).mono λe w' z=>?_;cases a:bv s with
 |error x=>rw[a]at z;exact⟨⟨_,_,z.1⟩,_,h.pure z.2⟩
 |ok L=>rw[a]at z;obtain⟨f,l,o,c⟩:=z;exact⟨⟨_,_,f⟩,h.of1 (KG.fs c p.tg.1 p.tg.2) ⟨W,H,r,m,s,sh,_,C,d,p.put c l o ⟨L,a⟩⟩ LE⟩
def ul.sz{W H r n:Nat}{t:BY}{sh:Fd}{mv:Int->Int}{b:Prop}{C:zzd}(p:ul g S w W H r n t sh mv b C):∃L Wd Hf,bv t=.ok L/\ep t L/\Sz L Wd Hf:=by obtain⟨L,c⟩:=p.tr;have a:=ea (de c);obtain⟨Wd,Hf,d⟩:=RX a.nest;exact⟨L,Wd,Hf,c,a,d⟩
def KD(hG:xV U E)(h:fg U w0 g0 X S Q T k fr n w)(P:k<=4000000000000)(id a:Int)(s:eU id)(y:eU a):Cw 14 #[Pq S,Iq id,Iq a] w λe w'=>(∃x:Int,e=Rw (Iq x))/\fg U w0 g0 X S Q T (k+1) fr n w':=by
 obtain⟨g,h⟩:=h;obtain⟨W,H,r,m,t,sh,mv,C,R,p⟩:=h.p1;have q:=hG.below h.b;obtain⟨L,Wd,Hf,F,B,l⟩:=p.sz;obtain⟨c,d,f,A⟩:=tX B l W H id;obtain⟨⟨K,M⟩,N,O⟩:=p.wh;refine(nE S r m W H t sh mv id c a E w q.glo q.apart q.ert q.tab p.ses p.mp p.ne dg F l dg s y ⟨d,f⟩ A).mono λe w' z=>?_;unfold Qp at z;split at z;.exact⟨⟨_,z.1⟩,_,(h.pure z.2).mono dg⟩
 .obtain⟨G,I,J,o⟩:=z;exact⟨⟨_,G⟩,h.of1 (KG.fs o p.tg.1 p.tg.2) ⟨W,H,r,m+1,t,sh,_,C,dg,p.put o I J p.tr⟩ dg⟩
def J5.weak{W H:Nat}{v:Fd}{b c:Prop}{C:zzd}(h:J5 w W H v b C)(r:c->b):J5 w W H v c C:=by obtain⟨p,n,a,D,d,e,f,l,m,o⟩:=h;exact⟨p,n,a,D,d,e,f,l,m,λq=>o (r q)⟩
def ul.shown{W H r n:Nat}{t:BY}{sh v:Fd}{mv:Int->Int}{b c:Prop}{C D:zzd}(p:ul g S w W H r n t sh mv b C)(z:Se w w' S r n W H t mv D v):ul (kx g w 1) S w' W H r n t v mv c D:=by have d:=p.ses.lt;have f:=p.mp.lt;exact⟨z.ses,z.mp,z.sh.weak λ_=>trivial,p.tr,p.wh,p.ne,⟨(aX d).trans p.tg.1,(aX f).trans p.tg.2⟩,λM n a e=>⟨(z.new M n a e).2,fV (z.new M n a e).1,by have:=(z.new M n a e).1;omega,by have:=(z.new M n a e).1;omega⟩⟩
def Kx(hG:xV U E)(h:fg U w0 g0 X S Q T k fr n w)(y:k<=4000000000000):Cw 11 #[Pq S] w λe w'=>(∃s:BY,e=Rw (.string s)/\Hid (s.size<=8000000))/\fg U w0 g0 X S Q T k fr n w':=by obtain⟨g,h⟩:=h;obtain⟨W,H,r,m,t,sh,mv,C,d,p⟩:=h.p1;have q:=hG.below h.b;obtain⟨L,Wd,Hf,f,x,c⟩:=p.sz;refine(tK S r m W H t sh False C mv E w q.glo q.apart q.ert q.tab q.g1 q.tens p.ses p.mp p.ne dg f c p.wh.1 p.wh.2 p.kn).mono λe w' ⟨s,v,D,l,o,z,a⟩=>⟨⟨s,l,o.out.1⟩,h.of1 (KG.fs a.fs p.tg.1 p.tg.1) ⟨W,H,r,m,t,v,mv,D,d,p.shown a⟩ LE⟩
def ul.sized{W H r n x y:Nat}{t:BY}{sh:Fd}{mv:Int->Int}{b:Prop}{C:zzd}(p:ul g S w W H r n t sh mv b C)(d:1<=x/\x<=400)(hy:1<=y/\y<=400)(f:iX w' S x y t r (.slice none 0 0))(h:Fs S S w w'):ul (kx g w 1) S w' x y r n t (.slice none 0 0) mv False C:=by have a:=p.mp.lt;exact⟨f,p.mp.block (h.block r a p.ne.symm p.ne.symm),⟨none,0,0,λ_=>⟨⟨#[]⟩,0,0,0,0⟩,rfl,dg,dg,.inl rfl,λi hi=>dg,λq=>q.elim⟩,p.tr,⟨d,hy⟩,p.ne,⟨(aX p.ses.lt).trans p.tg.1,(aX a).trans p.tg.2⟩,λM n c e=>by cases e⟩
def Ky(h:fg U w0 g0 X S Q T k fr n w)(x y:Int):Cw 7 #[Pq S,Iq x,Iq y] w λe w'=>(∃x:Int,e=Rw (Iq x))/\fg U w0 g0 X S Q T k fr n w':=by
 by_cases a:1<=x/\x<=400/\1<=y/\y<=400;.obtain⟨g,h⟩:=h;obtain⟨W,H,r,m,t,sh,mv,C,f,p⟩:=h.p1;obtain⟨x,rfl⟩:=db (by omega:0<=x);obtain⟨y,rfl⟩:=db (by omega:0<=y);exact(pW S r W H x y t sh a w p.ses).mono λe w' ⟨b,c,d⟩=>⟨⟨_,b⟩,h.of1 (KG.fs d p.tg.1 p.tg.1) ⟨x,y,r,m,t,_,mv,C,f,p.sized dg dg c d⟩ LE⟩
 .exact(jj S x y a w).mono λe w' ⟨b,c⟩=>⟨⟨_,b⟩,by rw[c];exact h⟩
def KR.ko{B m:Nat}{v:Fd}(h:KR w B 112 2 v m KZ){u:AT}(hu:Bq w u):Sb u v m:=by obtain⟨p,c,rfl,o⟩:=h.sl;refine⟨p,c,rfl,λj r=>?_⟩;obtain⟨d,rfl,_,K⟩:=o dg;obtain⟨a,e⟩:=(K.below hu).z (j:=j*2) dg;obtain⟨b,l⟩:=(K.below hu).z (j:=j*2+1) dg;exact⟨a,b,d,0,rfl,klt e,λW f=>by rw[b_];exact⟨(f.cell (p:=(aq d (j*2))) (klt e)).trans e,(f.cell (p:=(aq d (j*2+1))) (klt l)).trans l⟩⟩
def Rg{t:BY}{p q:Int}{v:Fd}{m:Nat}(h:uz Q t p q v m fr w)(d:m<=1099511627776)(u:AT)(hu:Bq w u):Cw 49 #[.string t,Iq p,Iq q,v] u λe l=>J4 p q u e l:=
 LI (Ho t u) (λw' g n cap c o N r pc W f b a=>by have:=Rk (cap:=cap) (pc:=pc) N (h.of.ko (hu.trans (c.mono hu.size))) d f n 0 dg dg W b a;exact this) p q
def QC(h:fg U w0 g0 X S Q T k fr n w)(G:k<=1099511627776)(s:BY):Cw 19 #[Pq Q,.string s] w λe w'=>(∃x y:Int,e=Rw (.tuple #[Iq x,Iq y]))/\fg U w0 g0 X S Q T k fr n w':=by
 obtain⟨g,h⟩:=h;obtain⟨t,p,q,v,m,a,F,c,d⟩:=h.p2;refine(Rr a (Ho s w) dg).mono λe w' ⟨r,l,o,f,A,I,B,C⟩=>⟨r,h.of2 (KG.gb B c) ⟨l,p,q,o,f,A,dg,(aX a.lt).trans c,λb e=>?_⟩ LE id⟩;rcases C b e with z|z;.exact(aX (a.of.ownlt z)).trans (d b z)
 .exact fV z
def F0(h:fg U w0 g0 X S Q T k fr n w)(C:k<=1000000000000)(id a:Int):Cw 20 #[Pq Q,Iq id,Iq a] w λe w'=>(∃x:Int,e=Rw (Iq x))/\fg U w0 g0 X S Q T (k+1) fr n w':=by
 obtain⟨g,h⟩:=h;obtain⟨t,p,q,v,m,c,B,d,f⟩:=h.p2;refine(Hv c (Rg c dg) dg id a).mono λe w' ⟨r,o,l,s,F,y,A⟩=>⟨r,h.of2 (KG.k2 y d f) ⟨t,p,q,o,l,s,dg,(aX c.lt).trans d,λb e=>?_⟩ dg λq=>q⟩;rcases A b e with z|z;.exact(aX (c.of.ownlt z)).trans (f b z)
 .exact fV z
def FW(h:fg U w0 g0 X S Q T k fr n w)(x y:Int):Cw 41 #[Pq Q,Iq x,Iq y] w λe w'=>∃(z:Int) (a:Bool),e=Rw (Iq z)/\Hid (z=0->a=true)/\fg U w0 g0 X S Q T k a n w':=by obtain⟨g,h⟩:=h;obtain⟨t,p,q,v,m,c,F,d,l⟩:=h.p2;refine(Hq c x y).mono λe w' ⟨⟨z,f⟩,o,r,a,s,A,B,C⟩=>⟨z,a,f,λe=>C (by rw[f,e]),h.of2 (KG.gb A d) ⟨t,o,r,v,m,s,dg,(aX c.lt).trans d,λb e=>(aX (c.of.ownlt e)).trans (l b e)⟩ LE B⟩
def Og(w:AT)(p:zze)(m:Nat):Prop:=m<=160000/\(0<m->∃M,p=some (aq M 0)/\KB w M (m*5) (xU m 20))
def FZ(h:KX U w0 g0 X S Q T k fr n g w)(B:k<=1000000000000):Cw 26 #[Pq Q] w λe w'=>∃p m a,e=Rw (.slice p m a)/\Hid (Og w' p m/\∀M o,p=some (aq M o)->0<m->w.heap.size<=M)/\KX U w0 g0 X S Q T k fr n (kx g w 0) w':=by
 obtain⟨t,p,q,v,m,d,y,z,A⟩:=h.p2;refine(vD d (Rg d dg)).mono λe w' ⟨b,p,m,a,r,s,f⟩=>⟨p,m,a,r,⟨⟨s,λl=>?_⟩,λM o e l=>?_⟩,h.pure b⟩;.obtain⟨M,e,_,K⟩:=f l;exact⟨M,e,K⟩
 .obtain⟨x,c,C,_⟩:=f l;rw[e]at c;injection c with c;injection c with c;omega
def Kv(h:fg U w0 g0 X S Q T k fr n w):Cw 45 #[Pq T] w λe w'=>qL e/\fg U w0 g0 X S Q T k fr n w':=by obtain⟨g,h⟩:=h;obtain⟨K,M,a,W,H,b,B,A,m,c,f,l,t1,t2,t3,t4⟩:=h.p3;obtain⟨o,p,r,C⟩:=c.lts;exact(LH c).mono λe w' ⟨s,d,x,y,z⟩=>⟨s,h.of3 (KG.gb y t1) ⟨K,M,a,W,H,b,d,n,m,x,f,l,(aX o).trans t1,(aX p).trans t2,(aX r).trans t3,fV z⟩ LE λ_=>rfl⟩
def Oo(h:fg U w0 g0 X S Q T k fr n w)(Y:k<=2190000)(s:BY)(Z:s.size<=8000000):Cw 46 #[Pq T,.string s] w λe w'=>qL e/\fg U w0 g0 X S Q T (k+1) fr n w':=by
 obtain⟨g,h⟩:=h;obtain⟨K,M,d,W,H,b,B,A,V,f,C,G,t1,t2,t3,t4⟩:=h.p3;obtain⟨r,l2,I,x⟩:=f.lts;obtain⟨_,_,_,_,_,_,_,⟨p,_⟩,_⟩:=f.at;refine(Pa (F:=4+k*32000000) (w0:=w) (M0:=M) ⟨K,M,d,b,f,⟨C,G⟩,⟨rfl,rfl,rfl,LE,λ_ _ _ _ _=>rfl⟩,.inl rfl,r,x,λ_=>p⟩ s dg).mono λe w' ⟨J,m,c,y,a,z,N,O,P,o,_,_,R⟩=>⟨J,h.of3 (KG.k3 P t1 t3 t4) ⟨c,y,a,W,H,z,B,A,m,N,O.1,dg,(aX r).trans t1,?_,?_,(aX x).trans t4⟩ dg λ_=>rfl⟩
 .by_cases l:c<w.heap.size
  .have:=R l;rw[p]at this;obtain rfl:K=c:=by simpa using this
   exact(aX l).trans t2
  .exact fV dg
 .rcases o with rfl|o;.exact(aX I).trans t3
  .exact fV o
def FY(h:fg U w0 g0 X S Q T k fr n w)(z:fr=true)(x y:Int):Cw 42 #[Pq T,Iq x,Iq y] w λe w'=>Db e/\∃d,fg U w0 g0 X S Q T k fr d w':=by
 obtain⟨g,h⟩:=h;obtain⟨K,M,s,W,H,b,B,O,A,f,P,R,t1,t2,t3,t4⟩:=h.p3;obtain⟨C,V,Y,Z⟩:=f.lts;refine(Hr f x y).mono λe w' ⟨F,c⟩=>⟨F,?_⟩;rcases c with⟨c,_⟩|⟨o,p,a,r,m,d,l,_,_,c,G,I,J,N⟩;.exact⟨n,_,h.pure c⟩
 .exact⟨d,h.of3 (KG.gb G t1) ⟨o,p,a,r,m,4,l,d,⟨#[]⟩,c,LE,by show 4+4*0<=_;omega,(aX C).trans t1,fV I,fV J,fV N⟩ LE λe=>by rw[z]at e;cases e⟩
end
section
variable{U w0 w w':AT} {E:zzi} {g0 g:Nat->Nat} {X S Q T k n:Nat} {fr:Bool}
def KX.at(h:KX U w0 g0 X S Q T k fr n g w):∃p m cap,w.cell? (aq X 0)=some (Pq S)/\w.cell? (aq X 1)=some (Pq Q)/\w.cell? (aq X 2)=some (Pq T)/\w.cell? (aq X 3)=some (.slice p m cap):=by obtain⟨p,m,cap,h,_⟩:=h.p4;obtain⟨a,b,c,d,_⟩:=Pf h;exact⟨p,m,cap,a,b,c,d⟩
def fg.at(h:fg U w0 g0 X S Q T k fr n w):∃p m cap,w.cell? (aq X 0)=some (Pq S)/\w.cell? (aq X 1)=some (Pq Q)/\w.cell? (aq X 2)=some (Pq T)/\w.cell? (aq X 3)=some (.slice p m cap):=by obtain⟨g,h⟩:=h;exact h.at
def sX(U w0:AT)(g0:Nat->Nat)(X S Q T k:Nat)(e:Ending)(w:AT):Prop:=Sa e/\∃fr n,fg U w0 g0 X S Q T k fr n w
def Rs(h:fg U w0 g0 X S Q T k fr n w)(x y:Int):Cw 18 #[Pq X,Iq x,Iq y] w (sX U w0 g0 X S Q T k):=by
 obtain⟨_,_,_,f,c1,c2,c3⟩:=h.at;have H:=qH h;have e:=qH jU;clear h;go_enter func18,ntmps18;go_wp2_with fail;refine(Ky H x y).mono ?_;rintro A u1 ⟨⟨F,rfl⟩,c⟩;obtain⟨_,_,_,d0,d1,d2,d3⟩:=c.at;replace c:=qH c;clear f c1 c2 c3;go_wp2_with fail;refine(FW c x y).mono ?_;rintro B u2 ⟨z,p,rfl,l,a⟩;obtain⟨_,_,_,f,c1,c2,c3⟩:=a.at;replace a:=qH a;clear d0 d1 d2 d3;by_cases b:z=0
 .subst b;have m:=qH (l rfl);go_wp2_with(first
   |(go_at_call 42;refine(FY a.out m.out x y).mono ?_;rintro C u3 ⟨⟨G,rfl⟩,s,K3⟩;replace K3:=qH K3)
   |(go_at_call 10;refine(e.out _ _).mono ?_;rintro o u4 ⟨rfl,d⟩;obtain rfl:=d.symm));go_ret;exact⟨⟨_,rfl⟩,_,s,K3⟩
 .have r:(z==0)=false:=by simpa using b
  clear l;go_wp2_with(go_at_call 10;refine(e.out _ _).mono ?_;rintro o u4 ⟨rfl,d⟩;obtain rfl:=d.symm);go_ret;exact⟨⟨_,rfl⟩,_,n,a⟩
def Rz{a:Bool}{p:zze}{cap:Nat}(z:um w0 g0 g w)(b:Bq U w)(t0:∀b,b<U.heap.size->g b=0)(c:∃W H r n t sh mv C,n<=k/\ul g S w W H r n t sh mv False C)(B:Kf g Q w fr k)(F:Kg g T w n (4+k*32000000))(G:Qg g X S Q T w a n)(h:Og w p n)(A:∀M o,p=some (aq M o)->0<n->g M=0):fg U w0 g0 X S Q T k fr n (w.setCell (aq X 3) (.slice p n cap)):=by obtain⟨_,_,_,d,e,_⟩:=G;have l:=(aj.1 d).1;have q:KG g 4 w (w.setCell (aq X 3) (.slice p n cap)):=KG.set X 3 _ e;obtain⟨s,x⟩:=q.bel (i:=4) (by decide) b t0;obtain⟨W,H,r,m,t,sh,mv,C,y,c⟩:=c;refine⟨_,z.step (i:=4) q (by decide),s,x,⟨W,H,r,m,t,sh,mv,C,y,c.keep q (by decide)⟩,B.keep q (by decide),F.keep q (by decide),p,n,cap,heap_setCell_same _ X 3 _ _ _ d,(aX l).trans e,h.1,λf=>?_,λ_=>rfl⟩;obtain⟨M,rfl,K⟩:=h.2 f;have t:=A M 0 rfl f;exact⟨M,rfl,(aX K.1).trans t,K.of q.size (q.block M K.1 (by rw[t];decide))⟩
def KX.show{p:zze}{cap:Nat}(h:KX U w0 g0 X S Q T k fr n g w)(f:Og w p n)(r:∀M o,p=some (aq M o)->0<n->g M=0):fg U w0 g0 X S Q T k false n ((w.setCell (aq Q 4) (.bool false)).setCell (aq X 3) (.slice p n cap)):=by
 obtain⟨t,x,y,v,m,d,B,l,C⟩:=h.p2;have q:KG g 2 w (w.setCell (aq Q 4) (.bool false)):=KG.set Q 4 _ l;obtain⟨s,z,A⟩:=h.bz (i:=2) q (by decide);refine Rz s z A (h.k1 q (by decide) LE) ⟨t,x,y,v,m,⟨heap_setCell_same _ Q 4 _ _ _ d.sb,d.of.low (xP _) _ _⟩,B,(aX d.lt).trans l,λb e=>(aX (d.of.ownlt e)).trans (C b e)⟩ (h.p3.keep q (by decide)) (h.p4.keep q (by decide) (by decide)) ⟨f.1,λc=>?_⟩ λM o e c=>?_;.obtain⟨M,rfl,K⟩:=f.2 c;exact⟨M,rfl,K.of q.size (q.block M K.1 (by rw[r M 0 rfl c];decide))⟩
 .obtain⟨F,a,K⟩:=f.2 c;rw[e]at a;injection a with a;injection a with a;subst a;exact(aX K.1).trans (r M o e c)
def Hp(hG:xV U E)(h:fg U w0 g0 X S Q T k fr n w)(hk:k<=2190000):Cw 21 #[Pq X] w (sX U w0 g0 X S Q T (k+1)):=by
 have zu:prog.follows .mixedOrders=true:=pt;obtain⟨_,_,_,c0,c1,c2,c3⟩:=h.at;have H:=qH h;clear h;go_enter func21,ntmps21;go_wp2_with fail;refine(Kx hG H dg).mono ?_;rintro e1 u1 ⟨⟨s,rfl,hs⟩,g1,K1⟩;obtain⟨_,_,_,d0,d1,d2,d3⟩:=K1.at;replace K1:=qH K1;clear c0 c1 c2 c3;go_wp2_with fail;refine(FZ K1 dg).mono ?_;rintro e2 u2 ⟨p,m,r,rfl,HN,P⟩;obtain⟨_,_,_,c0,c1,c2,c3⟩:=P.at;have HT:Hid (∀M o,p=some (aq M o)->0<m->kx g1 u1 0 M=0):=λM o e l=>fV (HN.out.2 M o e l);obtain⟨g2,zk⟩:=af (kx g1 u1 0);rw[zk]at P HT;have Z2:=qH P.z;have R2:Hid (fg U u2 g2 X S Q T k fr n u2):=⟨g2,um.refl _ _,P.b,P.t0,P.p1,P.p2,P.p3,P.p4⟩;clear d0 d1 d2 d3 P zk;go_wp2_with fail;refine(Kv R2).mono ?_;rintro e3 u3 ⟨rfl,K3⟩;obtain⟨_,_,_,d0,d1,d2,d3⟩:=K3.at;replace K3:=qH K3;clear c0 c1 c2 c3;go_wp2_with fail;refine(Oo K3 dg s hs.out).mono ?_;rintro e4 u4 ⟨rfl,g4,Y⟩;obtain⟨_,_,_,c0,c1,c2,c3⟩:=Y.at;obtain⟨K,M,cp,W,H',b,B,bc,hf,V,_⟩:=Y.p3;have zo:=V.kk.nb;have zB:1<=n:=by rw[V.kk.sz.2.2.2.2.1];exact Nat.mul_pos V.kk.sz.1 V.kk.sz.2.2.1
 obtain⟨_,_,_,_,_,_,_,⟨t0,_⟩,_⟩:=V.at;have t1:=V.kk.c2;have zj:Hid (∀M o,p=some (aq M o)->0<m->g4 M=0):=λM o e l=>by obtain⟨G,f,y⟩:=HN.out.1.2 l;rw[e]at f;injection f with f;injection f with f;subst f;exact(Y.z.tag M y.1).trans (HT M o e l)
 have NW:Hid (Og u4 p m):=⟨HN.out.1.1,λl=>by obtain⟨G,f,y⟩:=HN.out.1.2 l;exact⟨G,f,y.of Y.z.size (Y.z.block G y.1 (HT G 0 f l))⟩⟩;have zi:=qH Y;have EQ:=qH (OY (p:=some (aq M 0)) (cap:=cp) (cap':=r) (λ_=>⟨M,rfl,V.kk.kb⟩) NW.2 zo);clear d0 d1 d2 d3 HN V Y;go_wp2_with fail;refine EQ.out.mono ?_;rintro e5 u5 ⟨⟨c,rfl,hc⟩,B5⟩;have K5:=qH (zi.out.pure B5);have I:Hid (Og u5 p m):=⟨NW.1,λl=>by obtain⟨G,f,y⟩:=NW.2 l;exact⟨G,f,y.below B5⟩⟩;have J:Hid (∀M o,p=some (aq M o)->0<m->kx g4 u4 0 M=0):=λG o e l=>by obtain⟨zw,f,y⟩:=NW.2 l;rw[e]at f;injection f with f;injection f with f;subst f;exact(aX y.1).trans (zj G o e l)
 clear c0 c1 c2 c3 t0 t1 EQ NW zj zi B5 HT;cases c with
 |false=>go_wp2;go_ret;exact⟨⟨_,rfl⟩,fr,n,_,K5.base Z2⟩
 |true=>
  obtain rfl:=hc rfl;obtain⟨p',O,N,XB,hX,ze,zg,zh⟩:=K5.p4;obtain⟨x0,x1,x2,x3,xz⟩:=Pf XB;have zt:=xz 3;obtain⟨_,_,_,_,_,q1,_,hQ,_⟩:=K5.p2;obtain⟨⟨_,_,_,_,q4⟩,qz⟩:=LX q1.sb;have zr:=qz 4;have zq:¬Q=X:=λe=>by rw[e,hX]at hQ;cases hQ
  have zC:¬X=Q:=λe=>zq e.symm;clear q1 qz XB xz hX hQ;cases fr with
  |true=>
   have F1:=qH (K5.show (cap:=r) I J);have A:Hid (∀e,Sa e->sX U w0 g0 X S Q T (k+1) e ((u5.setCell (aq Q 4) (.bool false)).setCell (aq X 3) (.slice p n r))):=λe he=>by obtain⟨g',F⟩:=F1.out;exact⟨he,false,n,g',F.base Z2⟩
   clear ze zg zh F1;by_cases h4:4<=s.size;.have zm:(4:Int)<=s.size:=dg;go_wp2;all_goals go_ret;exact A _ ⟨_,rfl⟩
   .have zm:¬(4:Int)<=s.size:=dg;go_wp2;all_goals go_ret;exact A _ ⟨_,rfl⟩
  |false=>
   have e:=zh rfl;subst e;obtain⟨Ms,rfl,_,KS⟩:=zg dg;obtain⟨Mn,rfl,KN⟩:=id (I.2 dg);have TO:=qH (Hx (cap:=N) (cap':=r) KS KN ze);clear KS KN zg zh;go_wp2_with fail;refine TO.out.mono ?_;rintro e6 u6 ⟨⟨B',rfl,KM⟩,B6⟩;have C:=qH (K5.pure B6);have Z:Hid (KB u6 Mn (O*5) (xU O 20)):=by obtain⟨G,f,y⟩:=I.2 dg;injection f with f;injection f with f;rw[f];exact y.below B6
   have R:Hid (kx (kx g4 u4 0) u5 0 Mn=0):=by obtain⟨G,f,y⟩:=I.2 dg;injection f with f;injection f with f;subst f;exact(aX y.1).trans (J Mn 0 rfl dg)
   have A:Hid (∀e,Sa e->sX U w0 g0 X S Q T (k+1) e (u6.setCell (aq X 3) (Sq Mn O r))/\sX U w0 g0 X S Q T (k+1) e u6):=λe he=>by
    obtain⟨g',F⟩:=Rz (cap:=r) C.z C.b C.t0 C.p1 C.p2 C.p3 C.p4 ⟨ze,λ_=>⟨Mn,rfl,Z⟩⟩ λM o e _=>by injection e with e;injection e with e;rw[<-e];exact R
    exact⟨⟨he,false,O,g',F.base Z2⟩,he,false,O,_,C.base Z2⟩
   obtain⟨y,G,zy,W',zv,b',Bt,zx,zA,h6,_⟩:=C.p3;obtain⟨_,_,_,_,_,_,_,⟨_,_,_,_,_,_,_,_,_,t9⟩,_⟩:=h6.at;obtain⟨_,_,_,XB,_⟩:=C.p4;obtain⟨y0,y1,y2,y3,yz⟩:=Pf XB;have zD:=yz 3;have HB:Hid (∀j,j<O->(∃c,u6.cell? (aq Bt j)=some (.bool c))/\(∃c,u6.cell? (aq B' j)=some (.bool c))/\∃t:BY,u6.cell? (aq Mn (j*5))=some (.string t)):=λj hj=>by obtain⟨_,_,c1,c,rfl⟩:=h6.bb.2 j hj;obtain⟨_,_,c2,d,rfl⟩:=KM.2 j hj;obtain⟨t,_,_,_,_,⟨c3,_⟩,_⟩:=Z.out.ce hj;exact⟨⟨c,c1⟩,⟨d,c2⟩,t,c3⟩
   clear TO K5 I J x0 x1 x2 x3 zt q4 zr C Z R h6 XB yz KM B6;go_wp2;go_loopw[7,8] (λx i wr=>∃(j:Nat) (z:Int),i=Iq j/\x=Iq z/\j<=O/\wr=u6) (λ_ i _=>O-(intOf i).toNat);.exact⟨0,0,rfl,rfl,dg,rfl⟩
   obtain⟨j,z,rfl,rfl,hj,rfl⟩:=hrel;by_cases zn:j<O;.have zl:(j:Int)<O:=dg;obtain⟨⟨a,r1⟩,⟨b,r2⟩,t,r3⟩:=HB j zn;cases a<;>cases b;all_goals
     go_wp2;first
      |exact⟨⟨j+1,_,by go_num,rfl,dg,by trivial⟩,by simp only[intOf];omega⟩
      |(go_ret;exact(A _ ⟨_,rfl⟩).2)
   .have zl:¬(j:Int)<O:=dg;go_wp2;go_ret;exact(A _ ⟨_,rfl⟩).1
end
section
variable{U w0 w w':AT} {E:zzi} {g0 g:Nat->Nat} {X S Q T k n:Nat} {fr:Bool}
def fg.drew(h:fg U w0 g0 X S Q T k fr n w):fg U w0 g0 X S Q T k fr n w.drew:=by obtain⟨g,h⟩:=h;exact⟨_,h.pure Ok.drew⟩
def fg.mono{k':Nat}(h:fg U w0 g0 X S Q T k fr n w)(a:k<=k'):fg U w0 g0 X S Q T k' fr n w:=by obtain⟨g,h⟩:=h;exact⟨_,h.mono a⟩
def sX.mono{k':Nat}{e:Ending}(h:sX U w0 g0 X S Q T k e w)(b:k<=k'):sX U w0 g0 X S Q T k' e w:=by obtain⟨a,fr,n,h⟩:=h;exact⟨a,fr,n,h.mono b⟩
def Xi(w:AT)(O:Nat)(kd a b:Int)(s t:BY)(v:Fd):Prop:=w.cell? (aq O 0)=some (Iq kd)/\w.cell? (aq O 1)=some (Iq a)/\w.cell? (aq O 2)=some (Iq b)/\w.cell? (aq O 3)=some (.string s)/\w.cell? (aq O 4)=some (.string t)/\w.cell? (aq O 5)=some v
def Ry(h:fg U w0 g0 X S Q T k fr n w)(d a b:Int)(s t:BY)(v:Fd):∃c f,w.alloc (.cells #[Iq d,Iq a,Iq b,.string s,.string t,v] 28)=c/\Hid (fg U c f X S Q T k fr n c)/\Hid (∀u k fr n,fg U c f X S Q T k fr n u->(u.cell? (aq X 0)=some (Pq S)/\u.cell? (aq X 1)=some (Pq Q))/\Xi u w.heap.size d a b s t v)/\Hid (∀u k e,sX U c f X S Q T k e u->sX U w0 g0 X S Q T k e u):=by obtain⟨g,h⟩:=h;have r:Bq w (w.alloc (.cells #[Iq d,Iq a,Iq b,.string s,.string t,v] 28)):=No;have K:=h.pure r;refine⟨_,kx g w 0,rfl,⟨_,um.refl _ _,K.b,K.t0,K.p1,K.p2,K.p3,K.p4⟩,λu k fr n hu=>?_,λu k e ⟨o,fr,n,l,p⟩=>⟨o,fr,n,l,p.base K.z⟩⟩;obtain⟨_,_,_,m,c1,_⟩:=hu.at;obtain⟨l,hu⟩:=hu;have e:=(hu.z.block w.heap.size At (fV LE)).trans (heap_alloc_new w (.cells #[Iq d,Iq a,Iq b,.string s,.string t,v] 28));refine⟨⟨m,c1⟩,?_,?_,?_,?_,?_,?_⟩<;>simp[World.cell?,e]
def O9(hG:xV U E)(h:fg U w0 g0 X S Q T k fr n w)(hk:k<=2180000)(B a b:Int)(s t:BY)(p:zze)(z m:Nat)(M:B=1\/B=2\/B=3\/B=4)(ha:eU a)(hb:eU b):
 Cw 6 #[Pq X,.agg #[Iq B,Iq a,Iq b,.string s,.string t,.slice p z m]] w (sX U w0 g0 X S Q T (k+2)):=by
 have ze:prog.follows .mixedOrders=true:=pt;obtain⟨W1,g1,zg,F,C,d⟩:=Ry h B a b s t (.slice p z m);obtain⟨⟨c0,c1⟩,o0,o1,o2,o3,o4,o5⟩:=C W1 k fr n F;have Z:=qH jU;clear h;rcases M with rfl|rfl|rfl|rfl;.go_enter func6,ntmps6;go_wp2_with(go_at_call 18;refine(Rs F.out a b).mono ?_;rintro e u ⟨⟨c,rfl⟩,J⟩);go_ret;exact d _ _ _ (sX.mono ⟨⟨_,rfl⟩,J⟩ dg)
 .go_enter func6,ntmps6;have I:=qH F.out.drew;go_wp2_with fail;go_region_held(λu=>u.cell? (aq X 0)=some (Pq S)/\u.cell? (aq w.heap.size 3)=some (.string s)) (go_keep) (first
   |(go_at_call 8;refine ag (Te hG I.out s) ?_;rintro e u5 ⟨⟨x,y,rfl⟩,r⟩;obtain⟨⟨d0,d1⟩,N,O,P,R,V,Y⟩:=C.out u5 _ _ _ r;have l:=qH r;clear r));all_goals
   have f:=qH l.out.drew;clear c0 c1 o0 o1 o2 o3 o4 o5;go_wp2_with fail;go_region_held(λu=>u.cell? (aq X 1)=some (Pq Q)/\u.cell? (aq w.heap.size 3)=some (.string s)) (go_keep) (first
    |(go_at_call 19;refine ag (QC f.out dg s) ?_;rintro e u6 ⟨⟨x',y',rfl⟩,A⟩;obtain⟨⟨d0,d1⟩,N,O,P,R,V,Y⟩:=C.out u6 _ _ _ A;have o:=qH A;clear A));all_goals have G:=qH λc=>d.out u6 _ _ (sX.mono (k':=k+2) ⟨⟨c,rfl⟩,_,_,o.out⟩ dg);go_wp2_with(go_at_call 10;refine(Z.out _ _).mono ?_;rintro e4 u4 ⟨rfl,K⟩;obtain rfl:=K.symm);all_goals go_ret;exact G _
 .go_enter func6,ntmps6;have I:=qH F.out.drew;go_wp2_with fail;go_region_held(λu=>u.cell? (aq X 0)=some (Pq S)/\u.cell? (aq w.heap.size 1)=some (Iq a)/\u.cell? (aq w.heap.size 2)=some (Iq b)) (go_keep) (first
   |(go_at_call 14;refine ag (KD hG I.out dg a b ha hb) ?_;rintro e u5 ⟨⟨x,rfl⟩,r⟩;obtain⟨⟨d0,d1⟩,N,O,P,R,V,Y⟩:=C.out u5 _ _ _ r;have l:=qH r;clear r));all_goals
   have f:=qH l.out.drew;clear c0 c1 o0 o1 o2 o3 o4 o5;go_wp2_with fail;go_region_held(λu=>u.cell? (aq X 1)=some (Pq Q)/\u.cell? (aq w.heap.size 1)=some (Iq a)/\u.cell? (aq w.heap.size 2)=some (Iq b)) (go_keep) (first
    |(go_at_call 10;refine ag (Z.out _ _) ?_;rintro e4 u4 ⟨rfl,K⟩;obtain rfl:=K.symm)
    |(go_at_call 20;refine ag (F0 f.out dg a b) ?_;rintro e u6 ⟨⟨x',rfl⟩,A⟩;obtain⟨⟨d0,d1⟩,N,O,P,R,V,Y⟩:=C.out u6 _ _ _ A;have o:=qH A;clear A));all_goals have G:=qH λc=>d.out u6 _ _ (sX.mono (k':=k+2) ⟨⟨c,rfl⟩,_,_,o.out⟩ dg);go_wp2_with fail;go_ret;exact G _
 .go_enter func6,ntmps6;go_wp2_with(go_at_call 21;refine(Hp hG F.out dg).mono ?_;rintro e u ⟨⟨c,rfl⟩,J⟩);go_ret;exact d _ _ _ (sX.mono ⟨⟨_,rfl⟩,J⟩ dg)
end
def LW(a b c x:Nat):Nat:=if x<a then 0 else if x<b then 1 else if x<b+1 then 2 else if x<c then 3 else if x<c+1 then 4 else 0
def Xh(U:AT)(w h:Nat)(e:Ending)(U':AT):Prop:=∃X S Q T n r g,e=Rw (.tuple #[Pq X,.bool true])/\Hid (KX U U' g X S Q T 0 true n g U'/\iX U' S w h jZ r (.slice none 0 0)/\Mp U' r 0 (λ_=>0)/\(U.heap.size<=S/\U.heap.size<=r/\S≠r/\U.heap.size<=X/\X≠S/\X≠r))
def LK(w h:Nat)(hw:1<=w/\w<=400)(hh:1<=h/\h<=400)(U:AT):Cw 5 #[Iq w,Iq h] U (Xh U w h):=by
 have f:1<=(w:Int)/\(w:Int)<=400/\1<=(h:Int)/\(h:Int)<=400:=dg;have NW:Hid (Cw 15 #[Iq w,Iq h] U λe s=>∃S r,e=Rw (.tuple #[Pq S,Iq 0])/\Hid (iX s S w h jZ r (.slice none 0 0)/\Mp s r 0 (λ_=>0)/\Bq U s/\U.heap.size<=r/\r<S)):=Mo w h f U;have NR:Hid (∀u:AT,Cw 16 #[Iq w,Iq h] u λe s=>e=Rw (.tuple #[Pq u.heap.size,Iq 0])/\s=u.alloc (.cells #[.string jZ,Iq w,Iq h,.slice none 0 0,.bool true] 102)):=λu=>I' w h f u;have NT:Hid (∀u:AT,Cw 17 #[Iq w,Iq h] u λe F=>∃T,e=Rw (.tuple #[Pq T,Iq 0])/\Hid (Bq u F/\∃K M c x p n B:Nat,ka T K M c x p n 4 B n ⟨#[]⟩ F/\u.heap.size<=T/\u.heap.size<=K/\u.heap.size<=M/\u.heap.size<=B)):=λu=>(NP w h u).mono λe F ⟨b,z⟩=>by
  rcases z with⟨_,_,_,z⟩|⟨T,K,M,c,x,p,n,B,z1,_,_,z2,z3⟩;.exact absurd f z
  .exact⟨T,z1,b,K,M,c,x,p,n,B,z2,z3⟩
 have HN:=qH jU;clear f;go_enter func5,ntmps5;go_wp2_with(first|(go_at_call 15;refine NW.out.mono ?_;rintro e a ⟨S,r,rfl,H1⟩)|(go_at_call 16;refine Ut (NR.out _) ?_;rintro U2 rfl)|(go_at_call 10;refine Ut (HN.out _ _) ?_;rintro U5 h5;obtain rfl:=h5.symm)|(go_at_call 17;refine(NT.out _).mono ?_;rintro e d ⟨T,rfl,H3⟩));refine bodyPost_ret (results_tmp2 rfl _ _ _) rfl ?_;obtain⟨P,R,V,Y,q5⟩:=H1.out;obtain⟨o,K,M,c,x,p,n,B,Z,q7,q8,q9,ze⟩:=H3.out;have I:=P.lt;have J:=R.lt;have l3:=V.size;have hz:(a.alloc (.cells #[.string jZ,Iq w,Iq h,.slice none 0 0,.bool true] 102)).heap.size=a.heap.size+1:=At;have l4:=o.size;obtain⟨m1,m2,m3,m4⟩:=Z.lts;obtain⟨l,m⟩:=af (d.alloc (.cells #[Pq S,Pq a.heap.size,Pq T,.slice none 0 0] 36));have y:Bq d l:=by rw[<-m];exact No
 have hX:l.heap[d.heap.size]?=some (.cells #[Pq S,Pq a.heap.size,Pq T,.slice none 0 0] 36 (0,0)):=by rw[<-m];exact heap_alloc_new _ _
 have G:∀b,b<a.heap.size->l.heap[b]?=a.heap[b]?:=λb C=>(y.block b dg).trans ((o.block b dg).trans (bG _ _ b C));have N:iX l S w h jZ r (.slice none 0 0):=(G S I).trans P;have O:Mp l r 0 (λ_=>0):=R.block (G r J);have tg:∀b,U.heap.size<=b->b<a.heap.size->LW U.heap.size a.heap.size d.heap.size b=1:=λb h1 A=>by unfold LW;rw[if_neg dg,if_pos A]
 have t3:∀b,a.heap.size+1<=b->b<d.heap.size->LW U.heap.size a.heap.size d.heap.size b=3:=λb h1 A=>by unfold LW;rw[if_neg dg,if_neg dg,if_neg dg,if_pos A]
 have t2:LW U.heap.size a.heap.size d.heap.size a.heap.size=2:=by unfold LW;rw[if_neg dg,if_neg dg,if_pos dg]
 have t4:LW U.heap.size a.heap.size d.heap.size d.heap.size=4:=by unfold LW;rw[if_neg dg,if_neg dg,if_neg dg,if_neg dg,if_pos dg]
 have bU:Bq U l:=((V.alloc l3 _).trans (o.mono dg)).trans (y.mono dg);have sQ:l.heap[a.heap.size]?=some (.cells #[.string jZ,Iq w,Iq h,.slice none 0 0,.bool true] 102 (0,0)):=(y.block _ dg).trans ((o.block _ dg).trans (heap_alloc_new _ _));rw[m];refine⟨d.heap.size,S,a.heap.size,T,n,r,LW U.heap.size a.heap.size d.heap.size,rfl,⟨um.refl _ _,bU,λb o=>if_pos o,⟨w,h,r,0,jZ,_,_,λ_ _=>⟨⟨#[]⟩,0,0,0,0⟩,LE,N,O,⟨none,0,0,λ_=>⟨⟨#[]⟩,0,0,0,0⟩,rfl,dg,dg,.inl rfl,λi hi=>dg,λq=>q.elim⟩,OI,⟨hw,hh⟩,dg,⟨tg S dg I,tg r Y J⟩,λM n c e=>by cases e⟩,⟨jZ,w,h,_,0,⟨sQ,KR.nil _ _ _ _ _⟩,LE,t2,λb e=>by cases e⟩,⟨K,M,c,x,p,4,B,n,⟨#[]⟩,Z.below y,LE,LE,t3 T dg m1,t3 K dg m2,t3 M dg m3,t3 B dg m4⟩,none,0,0,hX,t4,dg,λq=>dg,λq=>by cases q⟩,N,O,dg,Y,dg,dg,dg,dg⟩
def Hl(w h:Int)(a:¬(1<=w/\w<=400/\1<=h/\h<=400))(U:AT):Cw 5 #[Iq w,Iq h] U λe b=>e=Rw (.tuple #[.pointer none,.bool true])/\Hid (Bq U b):=by have l:Hid (Cw 15 #[Iq w,Iq h] U λe b=>e=Rw (.tuple #[.pointer none,Iq 6])/\Hid (Bq U b)):=Iz w h a U;have NR:Hid (∀u:AT,Cw 16 #[Iq w,Iq h] u λe b=>e=Rw (.tuple #[.pointer none,Iq 6])/\b=u):=λu=>I_ w h a u;have f:=qH jU;clear a;go_enter func5,ntmps5;go_wp2_with(first|(go_at_call 15;refine Ut l.out ?_;rintro m d)|(go_at_call 16;refine Ut (NR.out _) ?_;rintro o c;obtain rfl:=c.symm)|(go_at_call 10;refine Ut (f.out _ _) ?_;rintro p c;obtain rfl:=c.symm));refine bodyPost_ret (results_tmp2 rfl _ _ _) rfl ?_;exact⟨rfl,d⟩
def WZ(e:Ending):Prop:=∃b:Bool,e=Rw (.bool b)
def OU{u:AT}{N cap n m c:Nat}{C:Nat->Ce}(G:CB u N 0 n C){p:zze}(F:Og u p m)(hn:n<=160000):Cw 25 #[Sq N n cap,.slice p m c] u λe u'=>WZ e/\Bq u u':=by
 have M:prog.follows .mixedOrders=true:=pt;replace G:=qH G;replace F:=qH F;by_cases e:n=m;rotate_right
 .have e':((n:Int)!=m)=true:=by simp;omega
  go_enter func25,ntmps25;go_wp2;go_ret;exact⟨⟨_,rfl⟩,Ok⟩
 subst e;go_enter func25,ntmps25;go_wp2;go_loopw[5] (λi wr=>∃j:Nat,i=Iq j/\j<=n/\Hid (Bq u wr)) (λi _=>n-(intOf i).toNat);.exact⟨0,rfl,dg,Ok⟩
 obtain⟨j,rfl,hj,f⟩:=hrel;by_cases h:j<n;rotate_right;.have l:¬(j:Int)<n:=dg;go_wp2;go_ret;exact⟨⟨_,rfl⟩,f⟩
 have l:(j:Int)<n:=dg;obtain⟨g,rfl,J⟩:=F.out.2 dg;have K:Hid (∀W,Bq u W->∃B f1 y z A,W.cell? (aq N (j*5))=some (.string B)/\W.cell? (aq N (j*5+1))=some (Iq f1)/\W.cell? (aq N (j*5+2))=some (Iq y)/\W.cell? (aq N (j*5+3))=some (Iq z)/\W.cell? (aq N (j*5+4))=some (Iq A)):=λW hW=>by have q:=(G.out.low hW).cl.cell j h;rw[b_]at q;exact⟨_,_,_,_,_,q 0 _ rfl,q 1 _ rfl,q 2 _ rfl,q 3 _ rfl,q 4 _ rfl⟩
 obtain⟨B,f1,y,z,A,R,c1,c2,c3,c4⟩:=K.out wr f.out;obtain⟨x,f2,b,o,s,⟨d0,d1,d2,d3,d4⟩,_⟩:=(J.below f).ce h;have O:Hid (∀U,Cw 52 #[.agg #[.string x,Iq f2,Iq b,Iq o,Iq s]] U λr w'=>r=Rw (.agg #[.string x,Iq f2,Iq b,Iq o,Iq s])/\Gr U w'):=F7 ⟨x,f2,b,o,s⟩;have P:Hid (Bq wr wr.drew):=Ok.drew;clear J K;rcases Ug (B.toList==x.toList) (f1==f2) (y==b) (z==o) (A==s)with V|⟨V,Y|⟨Y,Z|⟨Z,e3|⟨e3,e4|e4⟩⟩⟩⟩;all_goals
  go_wp2_with fail;go_region_held(λW=>(W.cell? (aq N (j*5))=some (.string B)/\W.cell? (aq N (j*5+1))=some (Iq f1)/\W.cell? (aq N (j*5+2))=some (Iq y)/\W.cell? (aq N (j*5+3))=some (Iq z)/\W.cell? (aq N (j*5+4))=some (Iq A))/\W.cell? (aq g (j*5))=some (.string x)/\W.cell? (aq g (j*5+1))=some (Iq f2)/\W.cell? (aq g (j*5+2))=some (Iq b)/\W.cell? (aq g (j*5+3))=some (Iq o)/\W.cell? (aq g (j*5+4))=some (Iq s)) (go_keep) (first
   |(go_at_call 52;refine ag (O.out _) ?_;rintro e u2 ⟨rfl,d⟩;have a:=qH (P.out.trans d.below);have x0:=aV a.out R;have x1:=aV a.out c1;have x2:=aV a.out c2;have x3:=aV a.out c3;have x4:=aV a.out c4;have y0:=aV a.out d0;have y1:=aV a.out d1;have y2:=aV a.out d2;have y3:=aV a.out d3;have y4:=aV a.out d4;clear d));all_goals
   have I:=qH (f.out.trans (a.out.mono f.out.size));go_wp2;first
    |exact⟨⟨j+1,by go_num,dg,I⟩,by simp only[intOf];omega⟩
    |(go_ret;exact⟨⟨_,rfl⟩,I⟩)
section
variable{U w0 w w':AT} {E:zzi} {g0 g:Nat->Nat} {X S Q T k n:Nat} {fr:Bool}
def Kw(hG:xV U E)(h:fg U w0 g0 X S Q T k fr n w)(B:k<=4000000000000)(id:Int):Cw 12 #[Pq S,Iq id] w λe w'=>PP e/\fg U w0 g0 X S Q T k fr n w':=by obtain⟨g,h⟩:=h;obtain⟨W,H,r,m,t,sh,mv,C,F,p⟩:=h.p1;have q:=hG.below h.b;obtain⟨L,Wd,Hf,l,f,c⟩:=p.sz;obtain⟨a,_,_,d⟩:=tX f c W H id;obtain⟨⟨x,y⟩,z,A⟩:=p.wh;refine(noffset_any S r m W H t sh mv id a E w q.glo q.apart q.ert q.tab p.ses p.mp dg l c dg d).mono λe w' ⟨o,s⟩=>⟨?_,_,h.pure s⟩;rw[o];unfold Nw;split<;>exact⟨_,_,_,rfl⟩
def Td(hG:xV U E)(h:fg U w0 g0 X S Q T k fr n w)(B:k<=4000000000000)(x y:Int):Cw 23 #[Pq S,Iq x,Iq y] w λe w'=>Sg e/\fg U w0 g0 X S Q T k fr n w':=by obtain⟨g,h⟩:=h;obtain⟨W,H,r,m,t,sh,mv,C,F,p⟩:=h.p1;have q:=hG.below h.b;obtain⟨L,Wd,Hf,c,A,a⟩:=p.sz;obtain⟨⟨l,o⟩,s,z⟩:=p.wh;exact(Ul S r m W H t sh mv x y E w q.glo q.apart q.ert q.tab p.ses p.mp dg c a dg).mono λe w' ⟨d,f⟩=>⟨d,_,h.pure f⟩
def FV(h:fg U w0 g0 X S Q T k fr n w)(f:k<=1000000000000)(id:Int):Cw 22 #[Pq Q,Iq id] w λe w'=>PP e/\fg U w0 g0 X S Q T k fr n w':=by obtain⟨g,h⟩:=h;obtain⟨t,p,q,v,m,a,d,_⟩:=h.p2;exact(vC a (Rg a dg) id).mono λe w' ⟨b,c⟩=>⟨b,_,h.pure c⟩
def QB(h:fg U w0 g0 X S Q T k fr n w)(f:k<=1000000000000)(x y:Int):Cw 24 #[Pq Q,Iq x,Iq y] w λe w'=>Sg e/\fg U w0 g0 X S Q T k fr n w':=by obtain⟨g,h⟩:=h;obtain⟨t,p,q,v,m,a,d,_⟩:=h.p2;exact(Rj a (Rg a dg) x y).mono λe w' ⟨b,c⟩=>⟨b,_,h.pure c⟩
def Kz(hG:xV U E)(h:KX U w0 g0 X S Q T k fr n g w)(y:k<=4000000000000):Cw 9 #[Pq S] w λe w'=>∃N m a,e=Rw (Sq N m a)/\Hid (∃W H C,W*H=m/\m<=160000/\Cv 46 w' N W H C/\w.heap.size<=N/\Bq w w'):=by obtain⟨W,H,r,m,t,sh,mv,C,z,p⟩:=h.p1;have q:=hG.below h.b;obtain⟨L,Wd,Hf,d,x,c⟩:=p.sz;exact(nscreen_any S r m W H t sh mv E w q.glo q.apart q.ert q.tab p.ses p.mp dg d c p.wh.1 p.wh.2).mono λe w' ⟨N,a,C,f,l,_,o,s⟩=>⟨N,W*H,a,f,W,H,C,rfl,ik p.wh.1.2 p.wh.2.2,l,o.out.1,s⟩
def O_(hG:xV U E)(h:fg U w0 g0 X S Q T k fr n w)(hk:k<=2180000)(d a b:Int)(s t:BY)(p:zze)(z m:Nat)(zh:d=5\/d=6\/d=7\/(d≠1/\d≠2/\d≠3/\d≠4/\d≠5/\d≠6/\d≠7)):
 Cw 6 #[Pq X,.agg #[Iq d,Iq a,Iq b,.string s,.string t,.slice p z m]] w (sX U w0 g0 X S Q T (k+2)):=by
 have zi:prog.follows .mixedOrders=true:=pt;obtain⟨W1,g1,zj,R,I,P⟩:=Ry h d a b s t (.slice p z m);obtain⟨⟨c0,c1⟩,o0,o1,o2,o3,o4,o5⟩:=I W1 k fr n R;have HN:=qH jU;have FX:Hid (∀u c,fg U W1 g1 X S Q T k fr n u->sX U w0 g0 X S Q T (k+2) (.returned (.bool c)) u):=λu c K=>P.out u _ _ (sX.mono (k':=k+2) ⟨⟨c,rfl⟩,_,_,K⟩ dg);clear h P;rcases zh with rfl|rfl|rfl|⟨n1,n2,n3,n4,n5,n6,n7⟩
 .go_enter func6,ntmps6;have HD:=qH R.out.drew;go_wp2_with fail;go_region_held(λu=>u.cell? (aq X 0)=some (Pq S)/\u.cell? (aq w.heap.size 1)=some (Iq a)) (go_keep) (first
   |(go_at_call 12;refine ag (Kw hG HD.out dg a) ?_;rintro e u5 ⟨⟨x,y,x2,rfl⟩,f⟩;obtain⟨⟨d0,d1⟩,p0,p1,p2,p3,p4,p5⟩:=I.out u5 _ _ _ f;have B:=qH f;clear f));all_goals
   have A:=qH B.out.drew;clear c0 c1 o0 o1 o2 o3 o4 o5;go_wp2_with fail;go_region_held(λu=>u.cell? (aq X 1)=some (Pq Q)/\u.cell? (aq w.heap.size 1)=some (Iq a)) (go_keep) (first
    |(go_at_call 22;refine ag (FV A.out dg a) ?_;rintro e u6 ⟨⟨x',y',z',rfl⟩,G⟩;obtain⟨⟨d0,d1⟩,p0,p1,p2,p3,p4,p5⟩:=I.out u6 _ _ _ G;have F:=qH G;clear G));all_goals have F6:=qH λc=>FX.out u6 c F.out;obtain⟨e1,Z⟩:=af (x==x');obtain⟨e2,h2⟩:=af (y==y');cases e1<;>cases e2;all_goals go_wp2_with(go_at_call 10;refine(HN.out _ _).mono ?_;rintro e4 u4 ⟨rfl,h4⟩;obtain rfl:=h4.symm);all_goals go_ret;exact F6 _
 .go_enter func6,ntmps6;have HD:=qH R.out.drew;go_wp2_with fail;go_region_held(λu=>u.cell? (aq X 0)=some (Pq S)/\u.cell? (aq w.heap.size 1)=some (Iq a)/\u.cell? (aq w.heap.size 2)=some (Iq b)) (go_keep) (first
   |(go_at_call 23;refine ag (Td hG HD.out dg a b) ?_;rintro e u5 ⟨⟨x,y,rfl⟩,f⟩;obtain⟨⟨d0,d1⟩,p0,p1,p2,p3,p4,p5⟩:=I.out u5 _ _ _ f;have B:=qH f;clear f));all_goals
   have A:=qH B.out.drew;clear c0 c1 o0 o1 o2 o3 o4 o5;go_wp2_with fail;go_region_held(λu=>u.cell? (aq X 1)=some (Pq Q)/\u.cell? (aq w.heap.size 1)=some (Iq a)/\u.cell? (aq w.heap.size 2)=some (Iq b)) (go_keep) (first
    |(go_at_call 24;refine ag (QB A.out dg a b) ?_;rintro e u6 ⟨⟨x',y',rfl⟩,G⟩;obtain⟨⟨d0,d1⟩,p0,p1,p2,p3,p4,p5⟩:=I.out u6 _ _ _ G;have F:=qH G;clear G));all_goals have F6:=qH λc=>FX.out u6 c F.out;obtain⟨e1,Z⟩:=af (x==x');cases e1;all_goals go_wp2_with(go_at_call 10;refine(HN.out _ _).mono ?_;rintro e4 u4 ⟨rfl,h4⟩;obtain rfl:=h4.symm);all_goals go_ret;exact F6 _
 .go_enter func6,ntmps6;obtain⟨g,K⟩:=id R.out;go_wp2_with fail;refine(Kz hG K dg).mono ?_;rintro e u5 ⟨N,M,r,rfl,V5⟩;obtain⟨W,H,C,hM,ze,V,hN,B5⟩:=id V5.out;have f:=K.pure B5;have d1:=(I.out u5 _ _ _ ⟨_,f⟩).1.2;obtain⟨t',p',q',v',m',Z,h2,_⟩:=f.p2;replace K:=qH K;clear c0 c1 o0 o1 o2 o3 o4 o5 f;go_wp2_with fail;refine(vD Z (Rg Z dg)).mono ?_;rintro e u6 ⟨J,pp,mm,cc,rfl,z2,z3⟩;have zg:Og u6 pp mm:=⟨z2,λl=>by obtain⟨M',e,_,K'⟩:=z3 l;exact⟨M',e,K'⟩⟩;have Y:=V.keep (J.block N V.lt);have hc:CB u6 N 0 M (j_ W C):=by have:=Bf Y;rwa[eJ,hM]at this
  have CS:=qH (OU (cap:=r) (c:=cc) hc zg ze);replace J:=qH (B5.trans (J.mono B5.size));replace Y:=qH Y;clear zg hc V Z z3 d1 V5;go_wp2_with fail;refine CS.out.mono ?_;rintro e u7 ⟨⟨bb,rfl⟩,o⟩;have SM:=qH (EH (cap:=r) u7 (Y.out.keep (o.block N Y.out.lt)) M hM ze);replace o:=qH (J.out.trans (o.mono J.out.size));clear CS;go_wp2_with fail;refine Ut SM.out ?_;rintro u8 O;have F8:=qH (FX.out u8 bb ⟨_,K.out.pure ⟨O.os.trans o.out.os,O.tape.trans o.out.tape,O.output.trans o.out.output,aA o.out.size O.size,λi hi=>(O.block i (zz006 hi o.out.size) dg).trans (o.out.block i hi)⟩⟩);go_wp2;go_ret;exact F8
 .have e1:(d==1)=false:=by simpa using n1
  have e2:(d==2)=false:=by simpa using n2
  have e3:(d==3)=false:=by simpa using n3
  have e4:(d==4)=false:=by simpa using n4
  have e5:(d==5)=false:=by simpa using n5
  have e6:(d==6)=false:=by simpa using n6
  have e7:(d==7)=false:=by simpa using n7
  clear n1 n2 n3 n4 n5 n6 n7;go_enter func6,ntmps6;go_wp2;go_ret;exact FX.out _ _ R.out
end
structure Dc(U:AT)(E:zzi)(X S q n W H:Nat)(t:BY)(v:Fd)(mv:Int->Int)(D:zzd)(u:AT):Prop where
 b:Bq U u
 g:xV u E
 x:u.cell? (aq X 0)=some (Pq S)
 s:iX u S W H t q v
 m:Mp u q n mv
 sh:J5 u W H v True D
 o:U.heap.size<=S
def Uf{w w':AT}{p:Addr}(h:w'.heap[p.block]?=w.heap[p.block]?):w'.cell? p=w.cell? p:=aQ h
def Dc.low{U:AT}{E:zzi}{X S q n W H:Nat}{t:BY}{v:Fd}{mv:Int->Int}{D:zzd}{u a:AT}(h:Dc U E X S q n W H t v mv D u)(b:Bq u a):Dc U E X S q n W H t v mv D a:=
 ⟨h.b.trans (b.mono h.b.size),h.g.below b,aV b h.x,(b.block S h.s.lt).trans h.s,h.m.below b h.m.lt,h.sh.keep λM n c _ l=>b.block M l,h.o⟩
structure Sf(t:BY)(L:zza)(Wd:zzb)(Hf:zzg)(W H:Nat)(mv:Int->Int)(D:zzd)(S q n:Nat):Prop where
 p:bv t=.ok L
 t:ep t L
 z:Sz L Wd Hf
 w:1<=W/\W<=400
 h:1<=H/\H<=400
 n:n<=4000000000000
 e:S≠q
 i:gq L Wd Hf W H mv D
section
variable{U u:AT} {E:zzi} {X S q n W H:Nat} {t:BY} {v:Fd} {mv:Int->Int} {D:zzd} {L:zza} {Wd:zzb} {Hf:zzg}
def B3(F:Sf t L Wd Hf W H mv D S q n)(h:Dc U E X S q n W H t v mv D u):Cw 9 #[Pq S] u λe b=>∃N a,e=Rw (Sq N (W*H) a)/\Hid (CB b N 0 (W*H) (j_ W D))/\Hid (u.heap.size<=N)/\Hid (Bq u b):=by refine(nscreen_any S q n W H t v mv E u h.g.glo h.g.apart h.g.ert h.g.tab h.s h.m F.n F.p F.z F.w F.h).mono λe b ⟨N,a,C,c,d,f,l,o⟩=>⟨N,a,c,?_,l.out.1,o⟩;obtain rfl:=gq.uniq F.t f.out F.i;have:=Bf d.out;rwa[eJ]at this
def MJ(F:Sf t L Wd Hf W H mv D S q n)(h:Dc U E X S q n W H t v mv D u){f d:Int}(x:∀(i:Nat) l off o P,lq L f=(i:Int)->i<L.length->cI L Wd Hf W H l off o P L.length->P i 9=d/\P i 8=min (max 0 (gp f l off o)) d){a b c:Int}(y:Nw (lq L f) (mv f) d=Rw (.tuple #[Iq a,Iq b,Iq c])):Cw 12 #[Pq S,Iq f] u λe r=>e=Rw (.tuple #[Iq a,Iq b,Iq c])/\Hid (Bq u r):=
 (noffset_any S q n W H t v mv f d E u h.g.glo h.g.apart h.g.ert h.g.tab h.s h.m F.n F.p F.z (by have:=F.w;have:=F.h;omega) x).mono λe r ⟨A,B⟩=>⟨A.trans y,B⟩
def MK(F:Sf t L Wd Hf W H mv D S q n)(h:Dc U E X S q n W H t v mv D u):Cw 11 #[Pq S] u λe a=>e=Rw (.string ⟨#[]⟩)/\Hid (Fs S S u a):=by refine(tK S q n W H t v True D mv E u h.g.glo h.g.apart h.g.ert h.g.tab h.g.g1 h.g.tens h.s h.m F.e F.n F.p F.z F.w F.h h.sh).mono λe a ⟨s,v,C,b,c,d,f⟩=>⟨?_,f.fs⟩;have:=c.out.2 ⟨trivial,gq.uniq F.t F.i d⟩;rw[b,show s=⟨#[]⟩from jx (JT this)]
end
def vN{U:AT}{E:zzi}(hG:xV U E)(w h:Nat)(hw:1<=w/\w<=400)(hh:1<=h/\h<=400)(av:zze)(n V:Nat)(op:Nat->Nx)(hn:n<=1048576)(hO:Fj U (.slice av n V) n op)(hW:∀i,i<n->eU (op i).a/\eU (op i).b)(A:BY)(ix bx:Int)(hid:eU ix)(zq:eU bx):
 Cw 4 #[Iq w,Iq h,.slice av n V,.string A,Iq ix,Iq bx] U λe U'=>e=Rw (.bool true)/\Bq U U':=by
 have zG:prog.follows .mixedOrders=true:=pt;have HH:Hid (n=0\/∃b off,av=some (aq b off)/\b<U.heap.size/\∀i,i<n->∀u,Bq U u->u.cell? (aq b (off+i*6))=some (Iq (op i).kd)/\u.cell? (aq b (off+i*6+1))=some (Iq (op i).a)/\u.cell? (aq b (off+i*6+2))=some (Iq (op i).b)/\u.cell? (aq b (off+i*6+3))=some (.string (op i).s)/\u.cell? (aq b (off+i*6+4))=some (.string (op i).t)/\u.cell? (aq b (off+i*6+5))=some (.slice (op i).p (op i).zs.length (op i).m)):=by obtain⟨a,c,e,z⟩:=hO;injection e with e1 _ e3;subst e1;refine z.imp (λq=>q) fun⟨b,off,q1,q2,q3⟩=>⟨b,off,q1,q2,λi hi u hu=>?_⟩;obtain⟨p0,p1,p2,p3,p4,p5,_⟩:=q3 i hi;exact⟨aV hu p0,aV hu p1,aV hu p2,aV hu p3,aV hu p4,aV hu p5⟩
 have HW:=qH hW;have J:=qH hG;have O1:=qH (LK w h hw hh);have zt:=qH hid;have zr:=qH zq;clear hO hW hG hid zq;go_enter func4,ntmps4;go_wp2_with fail;refine(O1.out U).mono ?_;rintro e1 U1 ⟨X,S,Q,T,m,r,g,rfl,Z1⟩;have K4:Hid (fg U U1 g X S Q T 0 true m U1):=⟨g,Z1.out.1⟩;clear Z1 O1;go_wp2;go_loopw[15] (λiv wi=>∃i:Nat,iv=Iq i/\i<=n/\Hid (∃fr m,fg U U1 g X S Q T (2*i) fr m wi)) (λiv _=>n-(intOf iv).toNat);.exact⟨0,rfl,dg,true,m,K4.out⟩
 obtain⟨i,rfl,hi,HI⟩:=hrel;by_cases zx:i<n
 .have zy:(i:Int)<n:=dg;have zM:(i:Int)<1152921504606846976:=dg;obtain⟨bb,off,rfl,zL,hc⟩:=HH.out.resolve_left dg;obtain⟨fr,m,KI⟩:=id HI.out;obtain⟨c0,c1,c2,c3,c4,c5⟩:=hc i zx wr (by obtain⟨_,K⟩:=KI;exact K.b);obtain⟨ze,zg⟩:=HW.out i zx;obtain⟨r0,zA⟩:=af (op i);rw[zA]at c0 c1 c2 c3 c4 c5 ze zg;obtain⟨kd,a,b,s,t,p,mm,zs⟩:=r0;simp only at c0 c1 c2 c3 c4 c5 ze zg;obtain⟨ln,zw⟩:=af zs.length;rw[zw]at c5;have ST:Hid (Cw 6 #[Pq X,.agg #[Iq kd,Iq a,Iq b,.string s,.string t,.slice p ln mm]] wr (sX U U1 g X S Q T (2*i+2))):=by
   by_cases hk:kd=1\/kd=2\/kd=3\/kd=4;.exact O9 J.out KI dg kd a b s t p ln mm hk ze zg
   .exact O_ J.out KI dg kd a b s t p ln mm dg
  clear hc zA zw ze zg KI;go_wp2_with fail;refine ST.out.mono ?_;rintro e u ⟨⟨c,rfl⟩,K5⟩;have zB:=qH K5;clear K5;go_wp2;exact⟨⟨i+1,by go_num,dg,zB⟩,by simp only[intOf];omega⟩
 have zy:¬(i:Int)<n:=dg;obtain⟨fr,m,g3,K⟩:=id HI.out;obtain⟨W,H,q,I,t,sh,mv,C,zD,p⟩:=K.p1;obtain⟨L,Wd,Hf,hp,hT,hZ⟩:=p.sz;obtain⟨_,_,_,x0,_⟩:=K.at;obtain⟨_,_,_,_,gX,_⟩:=K.p4;have zo:X≠S:=λe=>by rw[e,p.tg.1]at gX;cases gX
 have zi:U.heap.size<=S:=C' λl=>by have:=K.t0 S l;rw[p.tg.1]at this;cases this
 have hg:=J.out.below K.b;obtain⟨zh,r1,r2,hR⟩:=tX hT hZ W H ix;have R1:=qH (tK S q I W H t sh False C mv E wr hg.glo hg.apart hg.ert hg.tab hg.g1 hg.tens p.ses p.mp p.ne dg hp hZ p.wh.1 p.wh.2 p.kn);have FR:Hid (∀D,gq L Wd Hf W H mv D->Sf t L Wd Hf W H mv D S q I):=λD i=>⟨hp,hT,hZ,p.wh.1,p.wh.2,dg,p.ne,i⟩;have F1:Hid (∀u v D,Se wr u S q I W H t mv D v->Dc U E X S q I W H t v mv D u):=λu v D z=>by have b:=K.b.trans (z.fs.below zi zi K.b.size);exact⟨b,J.out.below b,(Uf (z.fs.block X (klt x0) zo zo)).trans x0,z.ses,z.mp,z.sh,zi⟩
 obtain⟨oa,ob,oc,Y,zE⟩:∃a b c,Nw (lq L ix) (mv ix) zh=Rw (.tuple #[Iq a,Iq b,Iq c])/\((lq L ix<0/\c=7)\/c=0):=by
  unfold Nw;split;.rename_i hs;exact⟨_,_,_,rfl,.inl ⟨hs,rfl⟩⟩
  .exact⟨_,_,_,rfl,.inr rfl⟩
 replace hR:=qH hR;replace Y:=qH Y;have O:=p.wh;clear K p hp hT hZ hg HI gX zD;go_wp2_with fail;refine R1.out.mono ?_;rintro e1 u1 ⟨s1,v,D,rfl,_,I1,z⟩;have F:=qH (FR.out D I1);have Q1:=qH (F1.out u1 v D z);have x1:=Q1.out.x;clear R1 F1 FR z x0 I1;go_wp2_with fail;refine(B3 F.out Q1.out).mono ?_;rintro e2 u2 ⟨N1,k1,rfl,G,l1,b2⟩;have d:=qH (Q1.out.low b2.out);have xx:=d.out.x;have zm:Hid (N1≠S):=λe=>by have:=l1.out;have:=Q1.out.s.lt;omega
 have OF:Hid (∀u,Dc U E X S q I W H t v mv D u->_):=λu h=>MJ F.out h hR.out Y.out;have PA:=qH (Gq A);have SE:Hid (∀u,Dc U E X S q I W H t v mv D u->Cw 8 #[Pq S,.string A] u λe B=>Kk u B S q I W H t v mv A (bv A) e):=λu h=>wD S q I W H t v mv A E u h.g.glo h.g.apart h.g.ert h.s h.m F.out.e;have SC:Hid (∀u,Dc U E X S q I W H t v mv D u->lq L ix<0->Cw 14 #[Pq S,Iq ix,Iq bx] u λe B=>e=Rw (Iq 7)/\Hid (Bq u B)):=λu h hs=>(nE S q I W H t v mv ix zh bx E u h.g.glo h.g.apart h.g.ert h.g.tab h.s h.m F.out.e F.out.n F.out.p F.out.z (by have:=F.out.w;have:=F.out.h;omega) zt.out zr.out ⟨r1,r2⟩ hR.out).mono λe B z=>by unfold Qp at z;rw[if_pos hs]at z;exact⟨z.1,z.2⟩
 have RB:=qH (jj S);have zl:=qH jU;obtain⟨M,hM⟩:=af (W*H);have zC:Hid (1<=M/\M<=160000):=by rw[<-hM];exact⟨Nat.mul_pos O.1.1 O.2.1,ik O.1.2 O.2.2⟩
 have SN:Hid (∀u,Dc U E X S q I W H t v mv D u->Cw 9 #[Pq S] u λe B=>∃N V,e=Rw (Sq N M V)/\Hid (CB B N 0 M (j_ W D))/\Hid (u.heap.size<=N)/\Hid (Bq u B)):=λu h=>by rw[<-hM];exact B3 F.out h
 have RE:=qH λu h=>MK (u:=u) (X:=X) (U:=U) (E:=E) (v:=v) F.out h;rw[hM]at G|-;have hF:=qH F.out.e;clear Q1 x1 hR Y O hM F b2 l1 J;go_wp2_with fail;refine(OF.out u2 d.out).mono ?_;rintro e3 u3 ⟨rfl,b3⟩;replace G:=qH (G.out.low b3.out);replace d:=qH (d.out.low b3.out);go_wp2_with fail;refine(PA.out u3).mono ?_;rintro e4 u4 ⟨B4,z4⟩;replace G:=qH (G.out.low B4);replace d:=qH (d.out.low B4);have xx:=d.out.x;have RP:∃(lv:Fd) (f y:Int),e4=Rw (.tuple #[lv,Iq f,Iq y])/\((f=0)\/(f !=0)=true/\∀u,Dc U E X S q I W H t v mv D u->Cw 8 #[Pq S,.string A] u λe B=>∃y,e=Rw (.tuple #[Iq f,Iq y])/\Hid (Bq u B)):=by
  cases Z:bv A with
  |error x=>rw[lT Z]at z4;obtain⟨p,z4⟩:=z4;refine⟨_,_,_,z4,.inr ⟨by have:=lH Z;simp;omega,λu h=>(SE.out u h).mono λe B z=>?_⟩⟩;rw[Z]at z;exact⟨_,z.1,z.2⟩
  |ok Lb=>rw[de Z]at z4;obtain⟨nv,_,_,_,e,_⟩:=z4;exact⟨_,_,_,e,.inl rfl⟩
 obtain⟨lv,f,y,rfl,RP⟩:=RP;have zk:Hid (∀u B (P k2:Nat),Dc U E X S q I W H t v mv D u->CB u N1 0 M (j_ W D)->CB u P 0 M (j_ W D)->P≠S->Fs S S u B->CL B N1 0 M (j_ W D)/\CL B P 0 M (j_ W D)/\Bq U B):=λu B P k2 h c1 c2 hn fs=>by have k:∀N,N≠S->CB u N 0 M (j_ W D)->CL B N 0 M (j_ W D):=λN hN c=>(c.kept λcs fz he=>(fs.block N (aj.1 he).1 hN hN).trans he).cl;exact⟨k N1 zm.out c1,k P hn c2,h.b.trans (fs.below h.o h.o h.b.size)⟩
 clear z4 SE PA b3 B4;rcases RP with rfl|⟨hf,ST⟩<;>rcases zE with⟨zF,rfl⟩|rfl;all_goals
  try replace ST:=qH ST
  go_wp2_with(first
   |(go_at_call 10;refine(zl.out _ _).mono ?_;rintro e7 u7 ⟨rfl,h7⟩;obtain rfl:=h7.symm)
   |(go_at_call 8;refine(ST.out _ d.out).mono ?_;rintro e5 u5 ⟨y5,rfl,b5⟩;replace G:=qH (G.out.low b5.out);replace d:=qH (d.out.low b5.out);have xx:=d.out.x)
   |(go_at_call 7;refine(RB.out _ _ dg _).mono ?_;rintro e6 u6 ⟨rfl,h6⟩;obtain rfl:=h6.symm)
   |(go_at_call 14;refine(SC.out _ d.out zF).mono ?_;rintro e8 u8 ⟨rfl,b8⟩;replace G:=qH (G.out.low b8.out);replace d:=qH (d.out.low b8.out);have xx:=d.out.x)
   |fail);refine(SN.out _ d.out).mono ?_;rintro e9 u9 ⟨P,k2,rfl,A2,l2,b9⟩;have zn:Hid (P≠S):=λe=>by have:=l2.out;have:=d.out.s.lt;omega
  replace G:=qH (G.out.low b9.out);replace d:=qH (d.out.low b9.out);have xx:=d.out.x;clear l2 b9;go_wp2_with fail;refine(OF.out _ d.out).mono ?_;rintro zH u10 ⟨rfl,R⟩;replace G:=qH (G.out.low R.out);replace A2:=qH (A2.out.low R.out);replace d:=qH (d.out.low R.out);have xx:=d.out.x;clear R;go_wp2_with fail;refine(RE.out _ d.out).mono ?_;rintro zI u11 ⟨rfl,f11⟩;obtain⟨L1,L2,BF⟩:=zk.out u10 u11 P k2 d.out G.out A2.out zn.out f11.out;replace L1:=qH L1;replace L2:=qH L2;replace BF:=qH BF;have zK:=zC.out;have zJ:((M:Int)==0)=false:=by simp;omega
  clear G A2 d xx f11 zk RE SN OF RB SC zm zn;go_wp2_with(go_at_call 10;refine(zl.out _ _).mono ?_;rintro e7 u7 ⟨rfl,h7⟩;obtain rfl:=h7.symm);go_loopw[33] (λjv wj=>∃j:Nat,j<=M/\jv=Iq j/\Hid (Gr u11 wj)) (λjv _=>M-(intOf jv).toNat);.exact⟨0,dg,rfl,Gr.refl u11⟩
  obtain⟨j,hj,rfl,HJ⟩:=hrel;by_cases zu:j<M;.have M1:=L1.out.below HJ.out.below;have M2:=L2.out.below HJ.out.below;obtain⟨ce,zj⟩:=af (j_ W D j);obtain⟨t0,f0,g0,b0,p0⟩:=ce;have zv:(j:Int)<(M:Int):=dg;have m1:∀(k:Nat) u,(c5 ⟨t0,f0,g0,b0,p0⟩)[k]?=some u->wr.cell? (aq N1 (0+j*5+k))=some u:=λk u hu=>M1.cell j zu k u (by rw[zj];exact hu);have m2:∀(k:Nat) u,(c5 ⟨t0,f0,g0,b0,p0⟩)[k]?=some u->wr.cell? (aq P (0+j*5+k))=some u:=λk u hu=>M2.cell j zu k u (by rw[zj];exact hu);simp only[b_]at m1 m2;have x0:wr.cell? (aq N1 (j*5))=some (.string t0):=m1 0 _ rfl;have x1:=m1 1 (Iq f0) rfl;have x2:=m1 2 (Iq g0) rfl;have x3:=m1 3 (Iq b0) rfl;have x4:=m1 4 (Iq p0) rfl;have y0:wr.cell? (aq P (j*5))=some (.string t0):=m2 0 _ rfl;have y1:=m2 1 (Iq f0) rfl;have y2:=m2 2 (Iq g0) rfl;have y3:=m2 3 (Iq b0) rfl;have y4:=m2 4 (Iq p0) rfl;clear M1 M2 zj m1 m2;go_wp2_with fail;go_quiet(fail);go_wp2;exact⟨⟨j+1,dg,by go_num,HJ.out.trans ((Gr.refl _).drewN _)⟩,by simp only[intOf];omega⟩
  .have zv:¬(j:Int)<(M:Int):=dg;go_wp2;go_ret;exact⟨rfl,BF.out.trans (HJ.out.below.mono BF.out.size)⟩
def rh{U:AT}{E:zzi}(hG:xV U E)(w h:Int)(l:zze)(n c:Nat)(op:Nat->Nx)(z:n<=1048576)(r:Fj U (.slice l n c) n op)(s:∀i,i<n->eU (op i).a/\eU (op i).b)(d:BY)(p m:Int)(hid:eU p)(o:eU m):
 Cw 4 #[Iq w,Iq h,.slice l n c,.string d,Iq p,Iq m] U λe y=>e=Rw (.bool true)/\Bq U y:=by
 by_cases f:1<=w/\w<=400/\1<=h/\h<=400;.obtain⟨w,rfl⟩:=db (by omega:0<=w);obtain⟨h,rfl⟩:=db (by omega:0<=h);exact vN hG w h dg dg l n c op z r s d p m hid o
 .have O:=qH (Hl w h f);clear f r s hG;go_enter func4,ntmps4;go_wp2_with fail;refine(O.out U).mono ?_;rintro B A ⟨rfl,x⟩;go_wp2;go_ret;exact⟨rfl,x.out⟩
section
open Go.ChangeShapes Go.WideShapes
def Na{W:AT}(h:laidMetH prog dL W):gC W/\11<W.heap.size:=by
 obtain⟨C,r,s,l⟩:=(laidMetH_iff.1 h).1;obtain⟨g,t,B,f,p,m,o,d,e,A⟩:=jh r (lm 2) (fX 2 pt pt);have b:prog.globalNamed (lm 2).1=some 11:=pt;have x:(prog.globals[11]?).map (·.type)=some 433:=pt;obtain rfl:=ic (b.symm.trans m);obtain rfl:=ic (x.symm.trans o);have hd:(lm 2).2=.agg (Lib.pow10Tab.map λz=>.lit (.int .u64 z)):=pt;rw[hd]at e;have a:=Lib.cells_of_tab (P:=prog) underlying433 underlying280 pt pt e;have y:W.var? prog (lm 2).1=some (Lib.pow10Tab.map λz=>Value.int .u64 z).toArray:=by rw[d,<-a]
 refine⟨⟨(lm 2).1,b,y⟩,?_⟩;have c:=sR b d 0;refine nR W (aq 11 0) (u:=.int .u64 1) ?_;rw[c,<-Array.getElem?_toList,a];rfl
end
section
open Go.ChangeShapes Go.WideShapes Go.ChangeAt Go.Deep
def Kt{W:AT}(J:laidMetH prog dL W):aY W:=by
 obtain⟨o,hh⟩:=laidMetH_iff.1 J;obtain⟨ps,C,N,B⟩:=o;obtain⟨R,t',l,b,p,r,x,h,hd,_⟩:=jh C (lm 4) (fX 4 pt pt);have a:prog.globalNamed (lm 4).1=some 10:=pt;obtain rfl:=ic (a.symm.trans r);obtain rfl:=ic (yo.symm.trans x);have m:DataW.trod (λ_=>()) prog W 0 (λ_=>true) false b 430 l.toList=some ((Rows.laid_pane_glyph_spans:DataW Unit),p):=hd;clear hd;have hd:=m;rw[L6]at hd;obtain⟨G,n,_,P,_,C,K⟩:=DataW.trod_array underlying430 hd;have z:G.map (·.1)=eZ.map λs=>(.agg [.lit (.int .i64 s.1),.lit (.int .i64 s.2.1),.lit (.int .i64 s.2.2)]:DataW Unit):=by have:=congrArg Prod.fst P;simp only[DataW.agg.injEq]at this;exact this.symm
 intro i hi;have f:=K i hi;rw[Dq]at f;have O:eZ[i]?=some (cD i):=by unfold cD;have:i<eZ.length:=hi;rw[sP,da this];rfl
 have e:(G.map (·.1))[i]?=some (.agg [.lit (.int .i64 (cD i).1),.lit (.int .i64 (cD i).2.1),.lit (.int .i64 (cD i).2.2)]:DataW Unit):=by rw[z,Cs,O];rfl
 rw[Cs]at e;obtain⟨y,hy,A⟩:=jy.1 e;rw[hy]at f;obtain⟨d,pl⟩:=y;simp only at A;subst A;obtain⟨V,Y,Z⟩:=Ao f;have I:∀k v,k<3->((l.toList.drop (i*3)).take 3)[k]?=some v->l[i*3+k]?=some v:=by intro k v M F;rw[qI,if_pos M,CY,JR]at F;exact F
 have c:=λk=>sR a h k;grind
end
section
open Go.ChangeShapes Go.WideShapes
def Ie{W:AT}(h:laidMetH prog dL W):∃E,xV W E:=by obtain⟨E,hG,a,b⟩:=vd (W:=W) h;obtain⟨t1,t2⟩:=Na h;exact⟨E,hG,a,b,Kt h,t1,t2⟩
def FT{H:Type}(d:DataW H):1<=Rows.uptoBulk d:=by
 cases d with
 |lit l=>cases l<;>simp[Rows.uptoBulk]
 |_=>simp[Rows.uptoBulk]
def uG{H:Type}:∀l:List (DataW H),l.length<=Rows.uptoBulkAll l
 |[]=>LT
 |d::l=>by have a:=FT d;have b:=uG l;simp only[Rows.uptoBulkAll,cV];omega
