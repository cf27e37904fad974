import Derived.Test.YtaanagpadfcmlaaGreatDoorQ11
set_option linter.all false
set_option maxRecDepth 100000
set_option maxHeartbeats 16000000
namespace Go.Proofs.YtaanagpadfcmlaaGreatDoor
open Go.RowKit Go.Sort Go.Proofs.Tryz
theorem VH{a b c d a' e c' d'}(f:a=a')(h1:b=e)(g:c=c')(h:d=d'):Ending.returned (.agg #[Iq a,Iq b,Iq c,Iq d])=Ending.returned (rv a' e c' d'):=by subst f h1 g h;rfl
def pC(x y a b n:Int):Value:=rv (aJ x+min (aO n) (aO a/2)) (aJ y+min (aO n) (aO b/2)) (max 0 (aO a-2*aO n)) (max 0 (aO b-2*aO n))
theorem Fl(x y a b n:Int)(w:World):Cw 95 #[rv x y a b,Iq n] w λe w'=>e=Rw (pC x y a b n)/\Gr w w':=by
 have L:Hid (∀x y a b w,Cw 97 #[rv x y a b] w λe w'=>e=Rw (rv (aJ x) (aJ y) (aO a) (aO b))/\Gr w w'):=clamped_gr;have Y:Hid (∀n w,Cw 47 #[Iq n] w λe w'=>e=Rw (Iq (aO n))/\w'=w):=length_any;have Z:=cH x;have b2:=cH y;have T:=bQ a;have U:=bQ b;have b5:=bQ n;obtain⟨A,o⟩:=ad (aJ x);obtain⟨B,r⟩:=ad (aJ y);obtain⟨C,s⟩:=ad (aO a);obtain⟨D,t⟩:=ad (aO b);obtain⟨m,u⟩:=ad (aO n);have E:Hid (pC x y a b n=rv (A+min m (C/2)) (B+min m (D/2)) (max 0 (C-2*m)) (max 0 (D-2*m))):=by show _=_;unfold pC;rw[o,r,s,t,u]
 rw[o]at Z;rw[r]at b2;rw[s]at T;rw[t]at U;rw[u]at b5;unfold rv at L⊢;go_enter func95,ntmps95;go_wp2_with fail;obtain⟨F,f⟩:=ad ((w.alloc (.cells #[Iq x,Iq y,Iq a,Iq b] 52)).alloc (.cells #[Iq 0,Iq 0,Iq 0,Iq 0] 52));obtain⟨S,hS⟩:=ad w.heap.size;have P:Hid (w.heap.size=S):=hS;have N:Hid (Gr w F):=by rw[<-f];exact((Gr.refl w).alloc _).alloc _
 have Q:Hid (R4 52 F S x y a b):=by rw[<-f,<-hS];exact(R4.new w _ _ _ _ _).gr ((Gr.refl _).alloc _)
 have R:Hid (R4 52 F (S+1) 0 0 0 0):=by have:=R4.new (w.alloc (.cells #[Iq x,Iq y,Iq a,Iq b] 52)) 0 0 0 0 52;simp only[au,hS]at this;rw[<-f];exact this
 rw[f,hS];clear f hS;refine(L _ _ _ _ _).mono ?_;rintro e v ⟨rfl,i⟩;have O:Hid (Gr w v):=N.trans i;have h:Hid (R4 52 v S x y a b):=Q.gr i;have j:Hid (R4 52 v (S+1) 0 0 0 0):=R.gr i;clear i Q R N;have V:=h.c0;have c1:=h.c1;have c2:=h.c2;have c3:=h.c3;have f0:=h.fz 0;have f1:=h.fz 1;have f2:=h.fz 2;have f3:=h.fz 3;rw[o,r,s,t];go_wp2_with fail;obtain⟨w3,g⟩:=ad ((((v.setCell (aj S 0) (Iq A)).setCell (aj S 1) (Iq B)).setCell (aj S 2) (Iq C)).setCell (aj S 3) (Iq D));have z:Hid (Gr w w3):=by rw[<-g];exact O.set4 (by rw[P.out];omega) _ _ _ _
 have R3:Hid (R4 52 w3 S A B C D):=by rw[<-g];exact h.set A B C D
 have d:Hid (R4 52 w3 (S+1) 0 0 0 0):=by rw[<-g];exact j.others dg _ _ _ _
 rw[g];clear g V c1 c2 c3 f0 f1 f2 f3 h j O;refine(Y _ _).mono ?_;rintro e w4 ⟨rfl,J⟩;obtain rfl:=J.symm;rw[u];have V:=R3.c0;have c1:=R3.c1;have c2:=R3.c2;have c3:=R3.c3;have d0:=d.c0;have d1:=d.c1;have d2:=d.c2;have d3:=d.c3;have f0:=d.fz 0;have f1:=d.fz 1;have f2:=d.fz 2;have f3:=d.fz 3;clear o r s t u;have q1:C.tdiv 2=C/2:=ux T.1;have q2:D.tdiv 2=D/2:=ux U.1;obtain⟨p,hp⟩:=ad (C/2);obtain⟨q,X⟩:=ad (D/2);rw[hp]at q1 E;rw[X]at q2 E;have k1:2*p<=C/\C<=2*p+1:=dg;have k2:2*q<=D/\D<=2*q+1:=dg;clear hp X;rcases(by omega:(2*m<=C/\m<=p/\0<=C-2*m)\/(C<2*m/\p<=m/\C-2*m<0))with⟨h1,G,k⟩|⟨h1,G,k⟩<;>rcases(by omega:(2*m<=D/\m<=q/\0<=D-2*m)\/(D<2*m/\q<=m/\D-2*m<0))with⟨h2,I,l⟩|⟨h2,I,l⟩;all_goals go_wp2
 all_goals refine bodyPost_ret (results_cell_row rfl _ _ (S+1) _ _ _ _ rfl (d.set _ _ _ _) underlying52 rfl ns) rfl ?_;exact⟨by rw[E.out];grind[VH],z.set4 (by rw[P.out];omega) _ _ _ _⟩
theorem least_any(a b:Int)(w:World):Cw 74 #[Iq a,Iq b] w λe w'=>e=Rw (Iq (min a b))/\w'=w:=by
 go_enter func74,ntmps74;by_cases h:a<b;·go_wp2;go_ret;exact⟨by rw[show min a b=a by omega];rfl,rfl⟩
 ·have d:b<=a:=dg
  go_wp2;go_ret;exact⟨by rw[show min a b=b by omega];rfl,rfl⟩
theorem greatest_any(a b:Int)(w:World):Cw 73 #[Iq a,Iq b] w λe w'=>e=Rw (Iq (max a b))/\w'=w:=by
 go_enter func73,ntmps73;by_cases h:b<a;·go_wp2;go_ret;exact⟨by rw[show max a b=a by omega];rfl,rfl⟩
 ·have d:a<=b:=dg
  go_wp2;go_ret;exact⟨by rw[show max a b=b by omega];rfl,rfl⟩
theorem rClamped_any(n:Int)(w:World):Cw 157 #[Iq n] w λe w'=>e=Rw (Iq (aO n))/\w'=w:=by
 go_enter func157,ntmps157;by_cases h:n<0;·go_wp2;go_ret;exact⟨by rw[show aO n=0 by grind[aO]];rfl,rfl⟩
 ·by_cases d:100000<n;·have a:=h;go_wp2;go_ret;exact⟨by rw[show aO n=100000 by grind[aO]];rfl,rfl⟩
  ·have a:n<=100000:=dg
   have b:0<=n:=dg;go_wp2;go_ret;exact⟨by rw[show aO n=n by grind[aO]];rfl,rfl⟩
theorem firm_any(x y a b:Int)(w:World):Cw 72 #[rv x y a b] w λe w'=>e=Rw (rv (aJ x) (aJ y) (aO a) (aO b))/\Gr w w':=by
 have k:=qH<|least_any;have j:=qH<|greatest_any;have CS:=qH<|rClamped_any;obtain⟨g,n⟩:=ad (max (-100000) (min 100000 x));obtain⟨h,o⟩:=ad (max (-100000) (min 100000 y));have l:aJ x=g:=by unfold aJ;omega
 have m:aJ y=h:=by unfold aJ;omega
 rw[l,m];obtain⟨p,d⟩:=ad (aO a);obtain⟨q,f⟩:=ad (aO b);unfold rv;rw[d,f];go_enter func72,ntmps72;go_wp2_with(first|(go_at_call 74;refine(k _ _ _).mono ?_;rintro e i ⟨rfl,rfl⟩)|(go_at_call 73;refine(j _ _ _).mono ?_;rintro e i ⟨rfl,rfl⟩));go_region_held(λW=>W.cell? (aj w.heap.size 2)=some (Iq a)/\W.cell? (aj w.heap.size 3)=some (Iq b)) (go_keep) (first|(go_at_call 157;refine(CS _ _).mono ?_;rintro e i ⟨rfl,rfl⟩));all_goals
  try rw[d,f]
  go_wp2;refine bodyPost_ret (v:=rv g h p q) (by simp[results,Tryz.results72,go_sem,rv]) rfl ?_;exact⟨rfl,(((Gr.refl w).alloc _).alloc _).drew⟩
theorem B8(x y a b d f:Int)(w:World):Cw 77 #[rv x y a b,Iq d,Iq f] w λe w'=>e=Rw (.bool (gV x y a b d f))/\Gr w w':=by
 have p:=qH<|firm_any;have k:Hid ((aJ x<=d/\d<aJ x+aO a/\aJ y<=f/\f<aJ y+aO b)->gV x y a b d f=true):=Fi;have j:Hid (¬(aJ x<=d/\d<aJ x+aO a/\aJ y<=f/\f<aJ y+aO b)->gV x y a b d f=false):=Is;have q:=cH x;have r:=cH y;have s:=bQ a;have t:=bQ b;obtain⟨A,l⟩:=ad (aJ x);obtain⟨B,m⟩:=ad (aJ y);obtain⟨C,n⟩:=ad (aO a);obtain⟨D,o⟩:=ad (aO b);rw[l,m,n,o]at k j;rw[l]at q;rw[m]at r;rw[n]at s;rw[o]at t;unfold rv at p⊢;go_enter func77,ntmps77;go_wp2_with(go_at_call 72;refine(p _ _ _ _ _).mono ?_;rintro e u ⟨rfl,h⟩;have i:=qH<|((Gr.refl w).alloc _).trans h;have g:Hid (R4 101 u w.heap.size x y a b):=(R4.new w x y a b _).gr h;clear h;have v:=g.c0;have c1:=g.c1;have c2:=g.c2;have c3:=g.c3;have f0:=g.fz 0;have f1:=g.fz 1;have f2:=g.fz 2;have f3:=g.fz 3;rw[l,m,n,o];by_cases h1:A<=d;by_cases E:B<=f;by_cases F:d<A+C;by_cases G:f<B+D);all_goals
  go_ret;first
   |exact⟨by rw[k dg];rfl,i.set4 (ae _) _ _ _ _⟩
   |exact⟨by rw[j dg];rfl,i.set4 (ae _) _ _ _ _⟩
   |exact⟨by rw[k dg];exact congrArg (λz=>Ending.returned (Value.bool z)) (decide_eq_true dg),i.set4 (ae _) _ _ _ _⟩
   |exact⟨by rw[j dg];simp_all,i.set4 (ae _) _ _ _ _⟩
theorem FN(f g b f2 i d:Int)(w:World):Calls Tryz.prog 71 #[sv f g b,sv f2 i d] w λe w'=>e=Rw (sv (ov f f2) (ov g i) (sL b d))/\Gr w w':=by
 have V:Hid (∀f g b w,Calls Tryz.prog 75 #[sv f g b] w λe w'=>e=Rw (sv (kn f) (kn g) (bo b))/\Gr w w'):=uh;obtain⟨x,hx⟩:∃z,kn f=z:=⟨_,rfl⟩;obtain⟨y,hy⟩:∃z,kn g=z:=⟨_,rfl⟩;obtain⟨z,hz⟩:∃z,bo b=z:=⟨_,rfl⟩;obtain⟨t,I⟩:∃z,kn f2=z:=⟨_,rfl⟩;obtain⟨v,J⟩:∃z,kn i=z:=⟨_,rfl⟩;obtain⟨u,s⟩:∃z,bo d=z:=⟨_,rfl⟩;have HV:Hid (sv (ov f f2) (ov g i) (sL b d)=sv (if t=0 then x else t) (if v=0 then y else v) (max u z)):=by show _=_;unfold ov sL;rw[hx,hy,hz,I,J,s]
 have bz:=qu b;have zc:=qu d;rw[hz]at bz;rw[s]at zc;have T:Hid (∀w,_):=V.out f g b;have U:Hid (∀w,_):=V.out f2 i d;rw[hx,hy,hz]at T;rw[I,J,s]at U;unfold sv at T U⊢;clear V;go_enter Tryz.func71,Tryz.ntmps71;go_wp2_with fail;obtain⟨S,hS⟩:∃x,w.heap.size=x:=⟨_,rfl⟩;obtain⟨W0,k⟩:∃x,((w.alloc (.cells #[.int .i64 f,.int .i64 g,.int .i64 b] 75)).alloc (.cells #[.int .i64 f2,.int .i64 i,.int .i64 d] 75)).alloc (.cells #[.int .i64 0,.int .i64 0,.int .i64 0] 75)=x:=⟨_,rfl⟩;have G0:Hid (Gr w W0):=by rw[<-k];exact(((Gr.refl w).alloc _).alloc _).alloc _
 have RB:Hid (R3 75 W0 (S+1) f2 i d):=by have:=R3.new (w.alloc (.cells #[.int .i64 f,.int .i64 g,.int .i64 b] 75)) f2 i d 75;simp only[au,hS]at this;rw[<-k];exact this.gr ((Gr.refl _).alloc _)
 have RC:Hid (R3 75 W0 (S+1+1) 0 0 0):=by have:=R3.new ((w.alloc (.cells #[.int .i64 f,.int .i64 g,.int .i64 b] 75)).alloc (.cells #[.int .i64 f2,.int .i64 i,.int .i64 d] 75)) 0 0 0 75;simp only[au,hS]at this;rw[<-k];exact this
 rw[k,hS];clear k;have HS:Hid (w.heap.size=S):=hS;clear hS;refine ag (T.out _) ?_;rintro e L ⟨rfl,m⟩;have G1:Hid (Gr w L):=G0.out.trans m;have E:Hid (R3 75 L (S+1) f2 i d):=RB.out.gr m;have r:Hid (R3 75 L (S+1+1) 0 0 0):=RC.out.gr m;have L1:Hid (S+1+1<L.heap.size):=r.out.lt;clear m G0 RB RC;have N:=E.out.gr ((Gr.refl _).alloc (.cells #[.int .i64 x,.int .i64 y,.int .i64 z] 75));have q0:=N.c0;have Q:=N.c1;have R:=N.c2;go_wp2_with fail;refine ag (U.out _) ?_;rintro e l ⟨rfl,n⟩;clear q0 Q R N;obtain⟨A,P⟩:∃z,L.heap.size=z:=⟨_,rfl⟩;have j:Hid (R3 75 l A x y z):=by rw[<-P];exact R3.gr (by grind[R3.new]) n
 have G2:Hid (Gr w l):=(G1.out.alloc _).trans n;have za:Hid (R3 75 l (S+1+1) 0 0 0):=(r.out.gr ((Gr.refl _).alloc _)).gr n;have LA:Hid (S+1+1<A):=by have:=L1.out;rw[P]at this;exact this
 have LB:Hid (A<l.heap.size):=j.out.lt;rw[P];clear n G1 E r L1 P;have a0:=j.out.c0;have a1:=j.out.c1;have a2:=j.out.c2;obtain⟨F,G⟩:∃q,l.alloc (.cells #[.int .i64 t,.int .i64 v,.int .i64 u] 75)=q:=⟨_,rfl⟩;obtain⟨B,hB⟩:∃q,l.heap.size=q:=⟨_,rfl⟩;have a:Hid (R3 75 F B t v u):=by rw[<-G,<-hB];exact R3.new l _ _ _ _
 have X:Hid (Gr l F):=by rw[<-G];exact(Gr.refl _).alloc _
 have p:Hid (R3 75 F A x y z):=j.out.gr X.out;have zb:Hid (R3 75 F (S+1+1) 0 0 0):=za.out.gr X.out;have G3:Hid (Gr w F):=G2.out.trans X.out;have Z:Hid (A<B):=by have:=LB.out;rw[hB]at this;exact this
 have DD:S+1+1<A/\A<B:=⟨LA.out,Z.out⟩;have Y:Hid (w.heap.size<=B):=by show _<=_;rw[HS.out];omega
 clear a0 a1 a2;have a0:=p.out.c0;have a1:=p.out.c1;have a2:=p.out.c2;have b0:=a.out.c0;have b1:=a.out.c1;have ze:=a.out.c2;have g0:=a.out.fz 0;have g1:=a.out.fz 1;have zg:=a.out.fz 2;have e0:(l.alloc (.cells #[.int .i64 t,.int .i64 v,.int .i64 u] 75)).cell? (aj l.heap.size 0)=some (.int .i64 t):=(R3.new l t v u _).c0;go_upto_if 13 with(fail);clear e0;have hl:=Y.out;obtain⟨W4,x3,Q,p1⟩:=P2.ch0 (C:=S+1+1) (w:=w) ⟨a.out,zb.out,G3.out⟩ dg hl x;obtain⟨W5,y3,R,p2⟩:=p1.ch1 dg hl y;obtain⟨O,D,q3,o⟩:∃O D,((z=1/\O=W5.setCell (aj B 2) (Iq 1)/\D=1)\/(¬z=1/\O=W5/\D=u))/\P2 75 w O B (S+1+1) x3 y3 D:=by
  by_cases h:z=1;·exact⟨_,_,.inl ⟨h,rfl,rfl⟩,p2.set2 dg hl 1⟩
  ·exact⟨_,_,.inr ⟨h,rfl,rfl⟩,p2⟩
 have HW:Hid (sv (ov f f2) (ov g i) (sL b d)=sv x3 y3 D):=by show _=_;rw[HV.out,Dp Q,Dp R,show max u z=D by omega]
 clear p1 p2;rcases Q with⟨h1,rfl,rfl⟩|⟨h1,rfl,rfl⟩<;>rcases R with⟨h2,rfl,rfl⟩|⟨h2,rfl,rfl⟩<;>rcases q3 with⟨h3,rfl,rfl⟩|⟨h3,rfl,rfl⟩;all_goals have n0:=o.1.c0;have n1:=o.1.c1;have n2:=o.1.c2;have o0:=o.2.1.c0;have o1:=o.2.1.c1;have o2:=o.2.1.c2;have k0:=o.2.1.fz;go_wp2;refine bodyPost_ret (results_cell_row rfl _ _ (S+1+1) _ _ _ _ rfl (o.2.1.set _ _ _) Tryz.underlying75 rfl ns) rfl ?_;exact⟨by show _=Ending.returned (sv (ov f f2) (ov g i) (sL b d));rw[HW.out];rfl,o.2.2.set3 (by rw[HS.out];omega) _ _ _⟩
section
variable{K M cap W H:Nat} {c:Nat->Nat->Ce}
def rQ(W H:Nat)(x y:Int):Bool:=decide (0<=x/\x<W/\0<=y/\y<H)
theorem yH{W H:Nat}{x y:Int}(h:0<=x/\x<W/\0<=y/\y<H):rQ W H x y=true:=decide_eq_true h
theorem nx{W H:Nat}{x y:Int}(h:¬(0<=x/\x<W/\0<=y/\y<H)):rQ W H x y=false:=decide_eq_false h
theorem rR(w:World)(h:CS 71 77 w K M cap W H c)(x y:Int):Calls Tryz.prog 76 #[Pq K,Iq x,Iq y] w λe w'=>e=Rw (.bool (rQ W H x y))/\w'=w:=by
 have k:=h.k0;have l:=h.k1;clear h;have j:x<0\/(0<=x/\(W:Int)<=x)\/(0<=x/\x<W/\y<0)\/(0<=x/\x<W/\0<=y/\(H:Int)<=y)\/(0<=x/\x<W/\0<=y/\y<H):=dg;rcases j with h1|⟨h1,b⟩|⟨h1,b,f⟩|⟨h1,b,f,i⟩|⟨h1,b,f,i⟩;·rw[nx dg];go_enter Tryz.func76,Tryz.ntmps76;go_wp2;go_ret;simp_all
 ·rw[nx dg];have a:decide (x<(W:Int))=false:=decide_eq_false dg;go_enter Tryz.func76,Tryz.ntmps76;go_wp2;go_ret;simp_all
 ·rw[nx dg];have a:decide (x<(W:Int))=true:=decide_eq_true dg;have d:decide (0<=y)=false:=decide_eq_false dg;go_enter Tryz.func76,Tryz.ntmps76;go_wp2;go_ret;simp_all
 ·rw[nx dg];have a:decide (x<(W:Int))=true:=decide_eq_true dg;have d:decide (0<=y)=true:=decide_eq_true dg;have g:decide (y<(H:Int))=false:=decide_eq_false dg;go_enter Tryz.func76,Tryz.ntmps76;go_wp2;go_ret;simp_all
 ·rw[yH dg];have a:decide (x<(W:Int))=true:=decide_eq_true dg;have d:decide (0<=y)=true:=decide_eq_true dg;have g:decide (y<(H:Int))=true:=decide_eq_true dg;go_enter Tryz.func76,Tryz.ntmps76;go_wp2;go_ret;simp_all
theorem BC{W H y x:Nat}(hy:y<H)(a:x<W):y*W+x<W*H:=by have:(y+1)*W<=H*W:=lR _ dg;grind
theorem Cb(w:World)(h:CS 71 77 w K M cap W H c)(k:W<=400)(j:H<=400)(y x:Nat)(hy:y<H)(d:x<W)(i:Nat)(hi:i=y*W+x):Calls Tryz.prog 159 #[Pq K,Iq i] w λe w'=>e=Rw (.tuple #[])/\Cv 77 w' M W H (da c y x (bl (c y x)))/\bp M w w':=by
 have p:=h.k2;have r:=h.klt;have o:i<W*H:=by rw[hi];exact BC hy d
 have l:=h.hc;obtain⟨n,b⟩:=ad (W*H);have s:n<=160000:=by rw[<-b];exact jJ k j
 rw[b]at p o l;have g:y*W*5+x*5=i*5:=by rw[hi,kN]
 have f:Hid (y*W*5+x*5=i*5):=g;have a:Hid (Cv 77 w M W H c):=h.cv;have d0:=a.c0 hy d;have d1:=a.c1 hy d;have d2:=a.c2 hy d;have d3:=a.c3 hy d;have d4:=a.c4 hy d;rw[g]at d0 d1 d2 d3 d4;have q:=a.fz;have m:(i:Int)<(n:Int):=dg;clear h b g hi;go_enter Tryz.func159,Tryz.ntmps159;go_wp2_with fail;go_region;all_goals go_wp2;go_end0;refine⟨rfl,?_,((bp.gr ((Gr.refl w).drew))).set5 _ _ _ _ _⟩;have:=(a.gr ((Gr.refl w).drew)).set hy d (bl (c y x));rw[f.out]at this;exact this
end
def Ld(c:Nat->Nat->Ce)(y x a q:Nat):Nat->Nat->Ce:=
 if(c y x).p=1/\x=q then da c y (x+1) (bl (c y (x+1)))else if(c y x).p=2/\x=a then da c y (x-1) (bl (c y (x-1)))else c
def AH(c:Nat->Nat->Ce)(y a q k:Nat):Nat->Nat->Ce:=if k<=a then c else if k<=q then eV c y a else cut c y a q
theorem Hn{W:Nat}{c:Nat->Nat->Ce}{y a q k:Nat}(hp:ly W (c y))(h:a<=q)(o:q<=a+1)(n:q<W)(h1:a<=k)(l:k<=q):Ld (AH c y a q k) y k a q=AH c y a q (k+1):=by
 by_cases i:k=a
 ·subst i;have f:AH c y k q k=c:=if_pos (ae _);rw[f];have g:AH c y k q (k+1)=if k+1<=q then eV c y k else cut c y k q:=if_neg dg;rw[g];unfold Ld;by_cases d:k+1<=q
  ·rw[if_pos d,if_neg (c:=(c y k).p=1/\k=q) dg];by_cases b:(c y k).p=2;·obtain⟨j,rfl,_⟩:=hp.tail k dg b;grind[nY]
   grind[nX]
  ·rw[if_neg d];obtain rfl:q=k:=dg
   unfold cut;by_cases b:(c y q).p=2;·obtain⟨j,rfl,_⟩:=hp.tail q dg b;grind[kT,pR,nY]
   ·rw[nX b];by_cases e:(c y q).p=1;·rw[if_pos ⟨e,rfl⟩,nZ e]
    ·rw[if_neg (λm=>e m.1),if_neg (λm=>b m.1),kT e]
 ·obtain rfl:k=q:=dg
  have f:AH c y a k k=eV c y a:=by unfold AH;rw[if_neg dg,if_pos (ae _)]
  have g:AH c y a k (k+1)=cut c y a k:=by unfold AH;rw[if_neg dg,if_neg dg]
  rw[f,g];grind[Ld,cut,eV,nZ,kT]
section
variable{K M cap W H:Nat} {c:Nat->Nat->Ce}
theorem EK(w:World)(h:CS 71 77 w K M cap W H c)(Q:W<=400)(P:H<=400)(y x a q:Nat)(hy:y<H)(J:x<W)(Y:a<=x)(za:x<=q)(h1:(c y x).p=1->x+1<W)(l:(c y x).p=2->0<x)(i s t:Nat)(hi:i=y*W+x)(d:s=y*W+a)(f:t=y*W+q):
 Calls Tryz.prog 78 #[Pq K,Iq i,Iq s,Iq t] w λe w'=>e=Rw (.tuple #[])/\Cv 77 w' M W H (Ld c y x a q)/\bp M w w':=by
 have v:Hid (∀(u:Nat),u<W->∀(D:Nat),D=y*W+u->Calls Tryz.prog 159 #[Pq K,Iq D] w λe w'=>e=Rw (.tuple #[])/\Cv 77 w' M W H (da c y u (bl (c y u)))/\bp M w w'):=λu L D B=>Cb w h Q P y u hy L D B;have R:=h.k2;have Z:i<W*H:=by rw[hi];exact BC hy J
 have C:Hid (CS 71 77 w K M cap W H c):=h;have V:Hid (i=y*W+x):=hi;obtain⟨n,b⟩:=ad (W*H);have X:Hid (W*H=n):=b;have nb:n<=160000:=by rw[<-b];exact jJ Q P
 rw[b]at R Z;have d4:=h.cv.c4 hy J;rw[show y*W*5+x*5=i*5 by omega]at d4;obtain⟨p,hp⟩:=ad ((c y x).p);rw[hp]at d4;have z:Hid ((c y x).p=p):=hp;rw[hp]at h1 l;have B:(i:Int)<(n:Int):=dg
 have t1:s<=i:=dg;have t2:i<=t:=dg;have e1:decide ((i:Int)+1<s)=false:=decide_eq_false dg;rcases(by omega:(p=1/\x=q)\/(p=1/\x<q)\/(p=2/\x=a)\/(p=2/\a<x)\/(p≠1/\p≠2))with⟨rfl,rfl⟩|⟨rfl,I⟩|⟨rfl,rfl⟩|⟨rfl,I⟩|⟨T,U⟩
 ·have g:Hid (Ld c y x a x=da c y (x+1) (bl (c y (x+1)))):=if_pos ⟨z,rfl⟩;have E:Hid (∀o:Int,o=(i:Int)+1->Calls Tryz.prog 159 #[Pq K,Iq o] w λe w'=>e=Rw (.tuple #[])/\Cv 77 w' M W H (da c y (x+1) (bl (c y (x+1))))/\bp M w w'):=by rintro o rfl;exact v (x+1) (h1 rfl) (i+1) dg
  have G:decide ((t:Int)<(i:Int)+1)=true:=decide_eq_true dg;clear h b hi d f h1 l hp;go_enter Tryz.func78,Tryz.ntmps78;go_wp2_with fail;refine ag (E _ rfl) ?_;rintro e j ⟨rfl,k,r⟩;have O:=C.put r k;have N:=O.k2;rw[X.out]at N;have F:=k.c4 hy J;rw[show y*W*5+x*5=i*5 by rw[V.out,kN],show da c y (x+1) (bl (c y (x+1))) y x=c y x from if_neg dg,z.out]at F;have A:Hid (Cv 77 j M W H (da c y (x+1) (bl (c y (x+1))))/\bp M w j):=(⟨k,r⟩:Cv 77 j M W H (da c y (x+1) (bl (c y (x+1))))/\bp M w j);clear k r O R d4;go_wp2_with fail;go_end0;exact⟨rfl,by rw[g.out];exact A.1,A.2⟩
 ·have g:Hid (Ld c y x a q=c):=(if_neg (λm=>dg)).trans (if_neg (λm=>dg));have G:decide ((t:Int)<(i:Int)+1)=false:=decide_eq_false dg;clear h b hi d f h1 l hp;go_enter Tryz.func78,Tryz.ntmps78;go_wp2_with fail;go_end0;exact⟨rfl,by rw[g.out];exact C.cv,bp.gr (Gr.refl w)⟩
 ·have g:Hid (Ld c y x x q=da c y (x-1) (bl (c y (x-1)))):=(if_neg (λm=>dg)).trans (if_pos ⟨z,rfl⟩);have E:Hid (∀o:Int,o=(i:Int)-1->Calls Tryz.prog 159 #[Pq K,Iq o] w λe w'=>e=Rw (.tuple #[])/\Cv 77 w' M W H (da c y (x-1) (bl (c y (x-1))))/\bp M w w'):=by rintro o rfl;have:=l rfl;rw[show(i:Int)-1=((i-1:Nat):Int)by omega];exact v (x-1) dg (i-1) dg
  have G:decide ((i:Int)-1<(s:Int))=true:=decide_eq_true dg;clear h b hi d f h1 l hp;go_enter Tryz.func78,Tryz.ntmps78;go_wp2_with fail;refine ag (E _ rfl) ?_;rintro e j ⟨rfl,k,r⟩;have A:Hid (Cv 77 j M W H (da c y (x-1) (bl (c y (x-1))))/\bp M w j):=(⟨k,r⟩:Cv 77 j M W H (da c y (x-1) (bl (c y (x-1))))/\bp M w j);clear k r;go_wp2_with fail;go_end0;exact⟨rfl,by rw[g.out];exact A.1,A.2⟩
 ·have g:Hid (Ld c y x a q=c):=(if_neg (λm=>dg)).trans (if_neg (λm=>dg));have G:decide ((i:Int)-1<(s:Int))=false:=decide_eq_false dg;have e3:decide ((t:Int)<(i:Int)-1)=false:=decide_eq_false dg;clear h b hi d f h1 l hp;go_enter Tryz.func78,Tryz.ntmps78;go_wp2_with fail;go_end0;exact⟨rfl,by rw[g.out];exact C.cv,bp.gr (Gr.refl w)⟩
 ·have m1:(p==1)=false:=by simpa using T
  have m2:(p==2)=false:=by simpa using U
  have g:Hid (Ld c y x a q=c):=(if_neg (λm=>T (z.symm.trans m.1))).trans (if_neg (λm=>U (z.symm.trans m.1)));clear h b hi d f h1 l hp;go_enter Tryz.func78,Tryz.ntmps78;go_wp2_with fail;go_end0;exact⟨rfl,by rw[g.out];exact C.cv,bp.gr (Gr.refl w)⟩
end
section
variable{K M cap W H:Nat} {c:Nat->Nat->Ce}
theorem JG(w:World)(h:CS 71 77 w K M cap W H c)(o:1<=W/\W<=400)(n:1<=H/\H<=400)(x y:Int)(dR:ByteArray)(wd f g b cx cy ca cb:Int)(l:¬(wd=1\/wd=2)\/y<0\/(H:Int)<=y\/x< -1\/(W:Int)<=x):
 Calls Tryz.prog 41 #[Pq K,Iq x,Iq y,.agg #[.string dR,Iq wd],sv f g b,rv cx cy ca cb] w λe w'=>e=Rw (.tuple #[])/\Gr w w':=by
 have i:=h.gr ((((Gr.refl w).alloc (.cells #[.string dR,Iq wd] 112)).alloc (.cells #[Iq f,Iq g,Iq b] 75)).alloc (.cells #[Iq cx,Iq cy,Iq ca,Iq cb] 101));have p:=i.k0;have q:=i.k1;clear h i;unfold sv rv;rcases(by omega:(¬(wd=1)/\¬(wd=2))\/((wd=1\/wd=2)/\y<0)\/((wd=1\/wd=2)/\0<=y/\(H:Int)<=y)\/((wd=1\/wd=2)/\0<=y/\y<H/\x< -1)\/((wd=1\/wd=2)/\0<=y/\y<H/\-1<=x/\(W:Int)<=x))with⟨a,d⟩|⟨a|a,d⟩|⟨a|a,d,j⟩|⟨a|a,d,j,k⟩|⟨a|a,d,j,k,m⟩;all_goals
  clear l;try subst a
  go_enter Tryz.func41,Tryz.ntmps41;go_wp2;refine bodyPost_ret (results_none rfl _ _ _) rfl ?_;exact⟨rfl,(((Gr.refl w).alloc _).alloc _).alloc _⟩
end
structure PB(w wi:World)(K M cap W H:Nat)(c:Nat->Nat->Ce)(S:Nat)(dR:ByteArray)(wd kf kg kb cx cy ca cb:Int):Prop where
 cs:CS 71 77 wi K M cap W H c
 cl:kR 112 wi S dR wd
 st:R3 75 wi (S+1) kf kg kb
 rc:R4 101 wi (S+1+1) cx cy ca cb
 gr:bp M w wi
section
variable{w wi wj:World} {K M cap W H S:Nat} {c c':Nat->Nat->Ce} {dR:ByteArray} {wd kf kg kb cx cy ca cb:Int}
theorem PB.new(h:CS 71 77 w K M cap W H c)(dR:ByteArray)(wd f g b cx cy ca cb:Int)(hS:w.heap.size=S):
 PB w (((w.alloc (.cells #[.string dR,Iq wd] 112)).alloc (.cells #[Iq f,Iq g,Iq b] 75)).alloc (.cells #[Iq cx,Iq cy,Iq ca,Iq cb] 101)) K M cap W H c S dR wd f g b cx cy ca cb:=by
 have a:=(((Gr.refl w).alloc (.cells #[.string dR,Iq wd] 112)).alloc (.cells #[Iq f,Iq g,Iq b] 75)).alloc (.cells #[Iq cx,Iq cy,Iq ca,Iq cb] 101);refine⟨h.gr a,?_,?_,?_,bp.gr a⟩;·rw[<-hS];exact(kR.new w _ _ _).gr (((Gr.refl _).alloc _).alloc _)
 ·rw[<-hS];have:=(R3.new (w.alloc (.cells #[.string dR,Iq wd] 112)) f g b 75).gr ((Gr.refl _).alloc (.cells #[Iq cx,Iq cy,Iq ca,Iq cb] 101));simp_all
 ·rw[<-hS];have:=R4.new ((w.alloc (.cells #[.string dR,Iq wd] 112)).alloc (.cells #[Iq f,Iq g,Iq b] 75)) cx cy ca cb 101;simp_all
theorem PB.more(h:PB w wi K M cap W H c S dR wd kf kg kb cx cy ca cb)(g:Gr wi wj):PB w wj K M cap W H c S dR wd kf kg kb cx cy ca cb:=
 ⟨h.cs.gr g,h.cl.gr g,h.st.gr g,h.rc.gr g,h.gr.thenGr g⟩
theorem PB.style(h:PB w wi K M cap W H c S dR wd kf kg kb cx cy ca cb)(a:K<S)(d:M<S)(e:w.heap.size<=S)(f g b:Int):PB w (((wi.setCell (aj (S+1) 0) (Iq f)).setCell (aj (S+1) 1) (Iq g)).setCell (aj (S+1) 2) (Iq b)) K M cap W H c S dR wd f g b cx cy ca cb:=by have G:bp (S+1) wi (((wi.setCell (aj (S+1) 0) (Iq f)).setCell (aj (S+1) 1) (Iq g)).setCell (aj (S+1) 2) (Iq b)):=(((bp.refl (S+1) wi).set (.inl rfl) _ _).set (.inl rfl) _ _).set (.inl rfl) _ _;exact⟨h.cs.ch G dg dg,h.cl.ch G dg,h.st.set _ _ _,h.rc.ch G dg,((h.gr.set (.inr dg) _ _).set (.inr dg) _ _).set (.inr dg) _ _⟩
theorem PB.cells(h:PB w wi K M cap W H c S dR wd kf kg kb cx cy ca cb)(a:M<S)(g:bp M wi wj)(v:Cv 77 wj M W H c'):PB w wj K M cap W H c' S dR wd kf kg kb cx cy ca cb:=
 ⟨h.cs.put g v,h.cl.ch g dg,h.st.ch g dg,h.rc.ch g dg,h.gr.trans g⟩
end
theorem QK{W H:Nat}{x y wd cx cy ca cb l t u v:Int}(h:jQ W H x y wd 1 cx cy ca cb l t u v)(b:wd=1\/wd=2)(hy:0<=y/\y<400)(d:-1<=x/\x<400)(p:Int)(h1:x<=p)(a:p<x+wd):(rQ W H p y&&gV cx cy ca cb p y)=decide (l<=p/\p<l+u):=by have m:=h.vis b hy d p h1 a;grind[yH,gV,nx]
theorem rB(E F D C s f q p:Int)(w:World):Cw 39 #[rv E F D C,rv s f q p] w λe w'=>e=Rw (nW E F D C s f q p)/\Gr w w':=by
 have CC:Hid (∀x y a b w,Cw 72 #[rv x y a b] w λe w'=>e=Rw (rv (aJ x) (aJ y) (aO a) (aO b))/\Gr w w'):=firm_any;have LS:Hid (∀a b w,Cw 74 #[Iq a,Iq b] w λe w'=>e=Rw (Iq (min a b))/\w'=w):=least_any;have GS:Hid (∀a b w,Cw 73 #[Iq a,Iq b] w λe w'=>e=Rw (Iq (max a b))/\w'=w):=greatest_any;unfold rv at CC⊢;go_enter func39,ntmps39;go_wp2_with fail;obtain⟨A,hA⟩:=ad w.heap.size;obtain⟨W0,m⟩:=ad (((w.alloc (.cells #[Iq E,Iq F,Iq D,Iq C] 101)).alloc (.cells #[Iq s,Iq f,Iq q,Iq p] 101)).alloc (.cells #[Iq 0,Iq 0,Iq 0,Iq 0] 101));have G0:Hid (Gr w W0):=by rw[<-m];exact(((Gr.refl w).alloc _).alloc _).alloc _
 have RA:Hid (R4 101 W0 A E F D C):=by rw[<-m,<-hA];exact(R4.new w _ _ _ _ _).gr (((Gr.refl _).alloc _).alloc _)
 have RB:Hid (R4 101 W0 (A+1) s f q p):=by have:=R4.new (w.alloc (.cells #[Iq E,Iq F,Iq D,Iq C] 101)) s f q p 101;simp only[au,hA]at this;rw[<-m];exact this.gr ((Gr.refl _).alloc _)
 have RC:Hid (R4 101 W0 (A+1+1) 0 0 0 0):=by have:=R4.new ((w.alloc (.cells #[Iq E,Iq F,Iq D,Iq C] 101)).alloc (.cells #[Iq s,Iq f,Iq q,Iq p] 101)) 0 0 0 0 101;simp only[au,hA]at this;rw[<-m];exact this
 rw[m,hA];clear m;have HA:Hid (w.heap.size=A):=hA;clear hA;have a0:=RA.c0;have a1:=RA.c1;have a2:=RA.c2;have a3:=RA.c3;have b0:=RB.c0;have b1:=RB.c1;have b2:=RB.c2;have b3:=RB.c3;obtain⟨z,N⟩:=ad (aJ E);obtain⟨B,O⟩:=ad (aJ F);obtain⟨X,J⟩:=ad (aO D);obtain⟨Y,L⟩:=ad (aO C);obtain⟨U,R⟩:=ad (aJ s);obtain⟨V,T⟩:=ad (aJ f);obtain⟨qa,P⟩:=ad (aO q);obtain⟨qb,Q⟩:=ad (aO p);clear a0 a1 a2 a3 b0 b1 b2 b3;refine(CC _ _ _ _ _).mono ?_;rintro e w2 ⟨rfl,u⟩;have HG:Hid (Gr w w2):=G0.trans u;have h:Hid (R4 101 w2 A E F D C):=RA.gr u;have k:Hid (R4 101 w2 (A+1) s f q p):=RB.gr u;have zg:Hid (R4 101 w2 (A+1+1) 0 0 0 0):=RC.gr u;clear u RA RB RC G0;have a0:=h.c0;have a1:=h.c1;have a2:=h.c2;have a3:=h.c3;have f0:=h.fz 0;have f1:=h.fz 1;have f2:=h.fz 2;have f3:=h.fz 3;have b0:=k.c0;have b1:=k.c1;have b2:=k.c2;have b3:=k.c3;rw[N,O,J,L];go_wp2_with fail;obtain⟨w3,n⟩:=ad ((((w2.setCell (aj A 0) (Iq z)).setCell (aj A 1) (Iq B)).setCell (aj A 2) (Iq X)).setCell (aj A 3) (Iq Y));have za:Hid (Gr w w3):=by rw[<-n];exact HG.set4 (by rw[HA.out];omega) _ _ _ _
 have zc:Hid (R4 101 w3 A z B X Y):=by rw[<-n];exact h.set z B X Y
 have ze:Hid (R4 101 w3 (A+1) s f q p):=by rw[<-n];exact k.others dg _ _ _ _
 have zh:Hid (R4 101 w3 (A+1+1) 0 0 0 0):=by rw[<-n];exact zg.others dg _ _ _ _
 rw[n];clear n a0 a1 a2 a3 b0 b1 b2 b3 f0 f1 f2 f3 HG h k zg;refine(CC _ _ _ _ _).mono ?_;rintro e w4 ⟨rfl,v⟩;have zb:Hid (Gr w w4):=za.trans v;have j:Hid (R4 101 w4 A z B X Y):=zc.gr v;have i:Hid (R4 101 w4 (A+1) s f q p):=ze.gr v;have zi:Hid (R4 101 w4 (A+1+1) 0 0 0 0):=zh.gr v;clear v zc ze zh za;have b0:=i.c0;have b1:=i.c1;have b2:=i.c2;have b3:=i.c3;have f0:=i.fz 0;have f1:=i.fz 1;have f2:=i.fz 2;have f3:=i.fz 3;have a0:=j.c0;have a1:=j.c1;have a2:=j.c2;have a3:=j.c3;rw[R,T,P,Q];go_wp2_with fail;obtain⟨w5,o⟩:=ad ((((w4.setCell (aj (A+1) 0) (Iq U)).setCell (aj (A+1) 1) (Iq V)).setCell (aj (A+1) 2) (Iq qa)).setCell (aj (A+1) 3) (Iq qb));have Z:Hid (Gr w w5):=by rw[<-o];exact zb.set4 (by rw[HA.out];omega) _ _ _ _
 have G:Hid (R4 101 w5 A z B X Y):=by rw[<-o];exact j.others dg _ _ _ _
 have I:Hid (R4 101 w5 (A+1) U V qa qb):=by rw[<-o];exact i.set U V qa qb
 have g:Hid (R4 101 w5 (A+1+1) 0 0 0 0):=by rw[<-o];exact zi.others dg _ _ _ _
 rw[o];clear o a0 a1 a2 a3 b0 b1 b2 b3 f0 f1 f2 f3 zb j i zi;have a0:=G.c0;have a1:=G.c1;have a2:=G.c2;have a3:=G.c3;have b0:=I.c0;have b1:=I.c1;have b2:=I.c2;have b3:=I.c3;have c0:=g.c0;have c1:=g.c1;have c2:=g.c2;have c3:=g.c3;have f0:=g.fz 0;have f1:=g.fz 1;have f2:=g.fz 2;have f3:=g.fz 3;have zl:=cH E;have zm:=cH F;have zj:=bQ D;have zk:=bQ C;have zq:=cH s;have zr:=cH f;have zn:=bQ q;have zo:=bQ p;rw[N]at zl;rw[O]at zm;rw[J]at zj;rw[L]at zk;rw[R]at zq;rw[T]at zr;rw[P]at zn;rw[Q]at zo;obtain⟨l,hl⟩:=ad (max z U);obtain⟨r,hr⟩:=ad (min (z+X) (U+qa));obtain⟨t,ht⟩:=ad (max B V);obtain⟨d,hd⟩:=ad (min (B+Y) (V+qb));have HV:Hid (nW E F D C s f q p=if l>=r\/t>=d then rv 0 0 0 0 else rv l t (r-l) (d-t)):=by show _=_;unfold nW eQ fQ;rw[N,O,J,L,R,T,P,Q,hl,hr,ht,hd]
 have L1:Hid (∀w,Cw 74 #[Iq (z+X),Iq (U+qa)] w λe w'=>e=Rw (Iq r)/\w'=w):=λw=>by have:=LS (z+X) (U+qa) w;rw[hr]at this;exact this
 have L2:Hid (∀w,Cw 74 #[Iq (B+Y),Iq (V+qb)] w λe w'=>e=Rw (Iq d)/\w'=w):=λw=>by have:=LS (B+Y) (V+qb) w;rw[hd]at this;exact this
 have G1:Hid (∀w,Cw 73 #[Iq z,Iq U] w λe w'=>e=Rw (Iq l)/\w'=w):=λw=>by have:=GS z U w;rw[hl]at this;exact this
 have G2:Hid (∀w,Cw 73 #[Iq B,Iq V] w λe w'=>e=Rw (Iq t)/\w'=w):=λw=>by have:=GS B V w;rw[ht]at this;exact this
 have bl:-100000<=l/\l<=100000:=dg;have br:-100000<=r/\r<=200000:=dg;have bt:-100000<=t/\t<=100000:=dg;have bd:-100000<=d/\d<=200000:=dg;clear N O J L R T P Q hl hr ht hd;go_wp2_with fail;refine(G1 _).mono ?_;rintro e w6 ⟨rfl,zt⟩;obtain rfl:=zt.symm;go_wp2_with fail;refine(G2 _).mono ?_;rintro e w7 ⟨rfl,zu⟩;obtain rfl:=zu.symm;go_wp2_with fail;refine(L1 _).mono ?_;rintro e w8 ⟨rfl,zv⟩;obtain rfl:=zv.symm;go_wp2_with fail;refine(L2 _).mono ?_;rintro e w9 ⟨rfl,zw⟩;obtain rfl:=zw.symm;by_cases h1:r-l<=0;·have e1:=decide_eq_true h1;go_wp2;refine bodyPost_ret (results_cell_row rfl _ _ (A+1+1) _ _ _ _ rfl (g.set _ _ _ _) underlying101 rfl ns) rfl ?_;exact⟨by rw[HV.out,if_pos dg];rfl,Z.set4 (by rw[HA.out];omega) _ _ _ _⟩
 ·have e1:=decide_eq_false h1;by_cases h2:d-t<=0;·have e2:=decide_eq_true h2;go_wp2;refine bodyPost_ret (results_cell_row rfl _ _ (A+1+1) _ _ _ _ rfl (g.set _ _ _ _) underlying101 rfl ns) rfl ?_;exact⟨by rw[HV.out,if_pos dg];rfl,Z.set4 (by rw[HA.out];omega) _ _ _ _⟩
  ·have e2:=decide_eq_false h2;go_wp2;refine bodyPost_ret (results_cell_row rfl _ _ (A+1+1) _ _ _ _ rfl (g.set _ _ _ _) underlying101 rfl ns) rfl ?_;exact⟨by rw[HV.out,if_neg dg];rfl,Z.set4 (by rw[HA.out];omega) _ _ _ _⟩
theorem B9(x y a b n:Int)(w:World):Cw 153 #[rv x y a b,Iq n] w λe w'=>e=Rw (pC x y a b n)/\Gr w w':=by
 have J:Hid (∀x y a b w,Cw 72 #[rv x y a b] w λe w'=>e=Rw (rv (aJ x) (aJ y) (aO a) (aO b))/\Gr w w'):=firm_any;have X:Hid (∀n w,Cw 157 #[Iq n] w λe w'=>e=Rw (Iq (aO n))/\w'=w):=rClamped_any;have Y:Hid (∀a b w,Cw 74 #[Iq a,Iq b] w λe w'=>e=Rw (Iq (min a b))/\w'=w):=least_any;have Z:=cH x;have b2:=cH y;have R:=bQ a;have T:=bQ b;have b5:=bQ n;obtain⟨A,o⟩:=ad (aJ x);obtain⟨B,r⟩:=ad (aJ y);obtain⟨C,s⟩:=ad (aO a);obtain⟨D,t⟩:=ad (aO b);obtain⟨m,u⟩:=ad (aO n);have E:Hid (pC x y a b n=rv (A+min m (C/2)) (B+min m (D/2)) (max 0 (C-2*m)) (max 0 (D-2*m))):=by show _=_;unfold pC;rw[o,r,s,t,u]
 rw[o]at Z;rw[r]at b2;rw[s]at R;rw[t]at T;rw[u]at b5;unfold rv at J⊢;go_enter func153,ntmps153;go_wp2_with fail;obtain⟨F,f⟩:=ad ((w.alloc (.cells #[Iq x,Iq y,Iq a,Iq b] 101)).alloc (.cells #[Iq 0,Iq 0,Iq 0,Iq 0] 101));obtain⟨S,hS⟩:=ad w.heap.size;have O:Hid (w.heap.size=S):=hS;have L:Hid (Gr w F):=by rw[<-f];exact((Gr.refl w).alloc _).alloc _
 have P:Hid (R4 101 F S x y a b):=by rw[<-f,<-hS];exact(R4.new w _ _ _ _ _).gr ((Gr.refl _).alloc _)
 have Q:Hid (R4 101 F (S+1) 0 0 0 0):=by have:=R4.new (w.alloc (.cells #[Iq x,Iq y,Iq a,Iq b] 101)) 0 0 0 0 101;simp only[au,hS]at this;rw[<-f];exact this
 rw[f,hS];clear f hS;refine(J _ _ _ _ _).mono ?_;rintro e v ⟨rfl,i⟩;have N:Hid (Gr w v):=L.trans i;have h:Hid (R4 101 v S x y a b):=P.gr i;have j:Hid (R4 101 v (S+1) 0 0 0 0):=Q.gr i;clear i P Q L;have U:=h.c0;have c1:=h.c1;have c2:=h.c2;have c3:=h.c3;have f0:=h.fz 0;have f1:=h.fz 1;have f2:=h.fz 2;have f3:=h.fz 3;rw[o,r,s,t];go_wp2_with fail;obtain⟨w3,g⟩:=ad ((((v.setCell (aj S 0) (Iq A)).setCell (aj S 1) (Iq B)).setCell (aj S 2) (Iq C)).setCell (aj S 3) (Iq D));have z:Hid (Gr w w3):=by rw[<-g];exact N.set4 (by rw[O.out];omega) _ _ _ _
 have R3:Hid (R4 101 w3 S A B C D):=by rw[<-g];exact h.set A B C D
 have d:Hid (R4 101 w3 (S+1) 0 0 0 0):=by rw[<-g];exact j.others dg _ _ _ _
 rw[g];clear g U c1 c2 c3 f0 f1 f2 f3 h j N;refine(X _ _).mono ?_;rintro e w4 ⟨rfl,G⟩;obtain rfl:=G.symm;rw[u];have U:=R3.c0;have c1:=R3.c1;have c2:=R3.c2;have c3:=R3.c3;have d0:=d.c0;have d1:=d.c1;have d2:=d.c2;have d3:=d.c3;have f0:=d.fz 0;have f1:=d.fz 1;have f2:=d.fz 2;have f3:=d.fz 3;clear o r s t u;have q1:C.tdiv 2=C/2:=ux R.1;have q2:D.tdiv 2=D/2:=ux T.1;obtain⟨p,hp⟩:=ad (C/2);obtain⟨q,V⟩:=ad (D/2);rw[hp]at q1 E;rw[V]at q2 E;have k1:2*p<=C/\C<=2*p+1:=dg;have k2:2*q<=D/\D<=2*q+1:=dg;clear hp V;rcases(by omega:(C<=2*m/\min m p=p)\/(2*m<C/\min m p=m))with⟨h1,k⟩|⟨h1,k⟩<;>rcases(by omega:(D<=2*m/\min m q=q)\/(2*m<D/\min m q=m))with⟨h2,l⟩|⟨h2,l⟩;all_goals go_wp2_with(first|(go_at_call 74;refine(Y _ _ _).mono ?_;rintro e w5 ⟨rfl,I⟩;obtain rfl:=I.symm;first|rw[k]|rw[l]|skip))
 all_goals refine bodyPost_ret (results_cell_row rfl _ _ (S+1) _ _ _ _ rfl (d.set _ _ _ _) underlying101 rfl ns) rfl ?_;exact⟨by rw[E.out];grind[VH],z.set4 (by rw[O.out];omega) _ _ _ _⟩
theorem Ot:(Tryz.prog.info? 77).map (λi=>(i.zero,i.size,i.bytes))=some (some (.agg #[.string ⟨#[]⟩,Iq 0,Iq 0,Iq 0,Iq 0]),5,48):=ns
def rM:Nat->List Value
 |0=>[]
 |n+1=>rM n++c5 (bk 0 0 0)
theorem FW(n:Nat):(rM n).length=n*5:=by
 induction n with
 |zero=>rfl
 |succ n a=>grind[rM,Hd]
theorem FV{n i k:Nat}{u:Value}(hi:i<n)(hu:(c5 (bk 0 0 0))[k]?=some u):(rM n)[i*5+k]?=some u:=by
 induction n with
 |zero=>omega
 |succ n a=>grind[rM,FW]
def KB(T:TypeId)(Q:World)(K W H:Nat)(v:Value):Prop:=Q.heap[K]?=some (.cells #[Iq W,Iq H,v] T (0,0))
theorem KB.lt{T:TypeId}{Q:World}{K W H:Nat}{v:Value}(h:KB T Q K W H v):K<Q.heap.size:=(aD.1 h).1
theorem KB.c2{T:TypeId}{Q:World}{K W H:Nat}{v:Value}(h:KB T Q K W H v):Q.cell? (aj K 2)=some v:=by unfold KB at h;simp[World.cell?,h]
theorem KB.fz{T:TypeId}{Q:World}{K W H:Nat}{v:Value}(h:KB T Q K W H v)(j:Nat):Q.frozen? (aj K j)=false:=frozen_of_row _ _ _ _ _ h
theorem KB.set{T:TypeId}{Q:World}{K W H:Nat}{v:Value}(h:KB T Q K W H v)(a:Value):KB T (Q.setCell (aj K 2) a) K W H a:=heap_setCell_same _ K 2 _ T _ h
theorem sP(w:World)(e:Ce)(T:TypeId)(j:Nat)(u:Value)(a:(c5 e)[j]?=some u):(w.alloc (.cells #[.string e.t,Iq e.f,Iq e.g,Iq e.b,Iq e.p] T)).cell? (((aj w.heap.size 0):Addr).add j)=some u:=by
 have h:=R5.new w e T;have d:j<5:=(lQ.1 a).1;rcases(by omega:j=0\/j=1\/j=2\/j=3\/j=4)with rfl|rfl|rfl|rfl|rfl;·exact h.c0.trans a
 ·exact h.c1.trans a
 ·exact h.c2.trans a
 ·exact h.c3.trans a
 ·exact h.c4.trans a
theorem Me{w:World}{B n size k:Nat}{e:TypeId}{v:Value}{i:List Value}(h:w.ownsRow B e size v n i)(l:k<B)(o:Nat)(u:Value):(w.setCell (aj k o) u).ownsRow B e size v n i:=by
 refine⟨h.1,?_⟩;rcases h.2 with j|⟨g,cap,f,a,b,c,d⟩;·grind
 ·exact .inr ⟨g,cap,f,a,b,(bK w (aj k o) u g rd).trans c,d⟩
def RN(w w':World)(W H K:Nat):Prop:=w.heap.size<=K/\∃M cap,CS 71 77 w' K M cap W H (λ_ _=>bk 0 0 0)/\w.heap.size<=M/\Bt w w'
theorem Mr(W H:Nat)(hW:1<=W/\W<=400)(Y:1<=H/\H<=400)(w:World):Calls Tryz.prog 16 #[Iq W,Iq H] w λe w'=>∃K,e=Rw (.tuple #[Pq K,Iq 0])/\RN w w' W H K:=by
 obtain⟨i0,L,Q,R,T⟩:=info_parts Ot;obtain⟨n,f⟩:=ad (W*H);have nb:1<=n/\n<=160000:=by rw[<-f];exact⟨jJ hW.1 Y.1,jJ hW.2 Y.2⟩
 have eN:(W:Int)*(H:Int)=(n:Int):=by rw[<-f];simp
 have X:Hid (W*H=n):=f;clear f;obtain⟨S,hS⟩:=ad w.heap.size;have l:Hid (w.heap.size=S):=hS;go_enter Tryz.func16,Tryz.ntmps16;go_wp2_with fail;obtain⟨E,d⟩:=ad (w.alloc (.cells #[Iq W,Iq H,.slice none 0 0] 71));have V:Hid (Bt w E/\S+1<=E.heap.size):=by rw[<-d];exact⟨((Gr.refl w).alloc _).below,by rw[au,hS];omega⟩
 have R0:Hid (KB 71 E S W H (.slice none 0 0)):=by rw[<-d,<-hS];exact heap_alloc_new _ _
 try rw[d]
 try rw[hS]
 clear d hS;go_loopw[7] (λU wi=>∃i:Nat,i<=n/\U=Iq i/\∃v,Hid (KB 71 wi S W H v/\wi.ownsRow (S+1) 77 5 v i (rM i)/\Bt w wi/\S+1<=wi.heap.size)) (λU _=>n-(intOf U).toNat);case atStart=>exact⟨0,dg,rfl,_,R0,eO _ _ _ _,V.1,V.2⟩
 case round=>
  obtain⟨i,hi,rfl,v,b⟩:=hrel;by_cases za:i<n
  ·have t:(i:Int)<(n:Int):=dg
   have k2:=b.1.c2;have zb:=b.2.2.2;go_wp2_with(at_builtin;refine wpList_append_own _ rfl _ _ 29 rfl (S+1) 77 i0 (.agg #[.string ⟨#[]⟩,Iq 0,Iq 0,Iq 0,Iq 0]) 5 48 Tryz.underlying29 L Q R T rfl (by decide) _ _ _ rfl (b.2.1.alloc _) _ 1 1 (c5 (bk 0 0 0)) rfl rfl ?c1 ?c2 ?c3 ?c4 ?c5 ?_);case c1=>exact sP _ (bk 0 0 0) _
   case c2=>intro u hu;unfold c5 at hu;simp at hu;rcases hu with rfl|rfl|rfl|rfl|rfl<;>rfl
   case c3=>unfold maxLen;omega
   case c4=>omega
   case c5=>simp;omega
   intro v' m a C _;have j:=λq N=>b.2.1.lt q N;have kl:=b.1.lt;have B:KB 71 m S W H v:=by refine(C.block S (by rw[au];omega) (λe=>rd)).trans ?_;exact(((Gr.refl wr).alloc _).block kl).trans b.1
   have r:=(b.2.2.1.alloc (by rw[l.out];omega) _).grown C (by rw[au,l.out];omega) (λq N=>by have:=j q N;rw[l.out];omega);have z:S+1<=m.heap.size:=by have:=C.size;rw[au]at this;omega
   have A:Hid (KB 71 m S W H v/\m.ownsRow (S+1) 77 5 v' (i+1) (rM (i+1))/\Bt w m/\S+1<=m.heap.size):=⟨B,a,r,z⟩;rcases a.2 with⟨_,h0⟩|⟨g,cp,o,P,_⟩;·omega
   subst P;have zc:=B.c2;have fz:=B.fz;clear B r z C a j k2;go_wp2;go_roundw;case rel=>
    refine⟨i+1,dg,by go_num,_,A.1.set _,Me A.2.1 dg _ _,?_,?_⟩;·exact A.2.2.1.setCell (p:=(aj S 2)) (by show w.heap.size<=S;rw[l.out];omega) _
    ·simpa[World.setCell]using A.2.2.2
   case measure=>simp[intOf];omega
  ·have t:¬(i:Int)<(n:Int):=dg
   obtain rfl:i=n:=dg;rcases b.2.1.2 with⟨_,h0⟩|⟨M,cap,o,O,Z,h,F,G,I,J⟩;·omega
   have s:=b.2.1.cells (g:=M) (by rw[O];rfl);have D:Hid (CS 71 77 wr S M cap W H (λ_ _=>bk 0 0 0)):=by
    refine⟨?_,⟨⟨o,h⟩,λy x hy hx k u hu=>?_⟩,dg,dg⟩;·have:=b.1;rw[O,<-X.out]at this;exact this
    ·have hl:=BC hy hx;rw[X.out]at hl;have:=s _ u (FV hl hu);rw[show((aj M 0):Addr).add ((y*W+x)*5+k)=(aj M (y*W*5+x*5+k))by unfold Addr.add;grind]at this;omega
   have HF:Hid (S+1<=M):=Z;clear O h F G I J Z s;go_wp2;refine bodyPost_ret (results_tmp2 rfl _ _ _) rfl ?_;exact⟨S,rfl,by rw[l.out];omega,M,cap,D,by rw[l.out];have:=HF.out;omega,b.2.2.1⟩
section
variable{M M' cap P5 W H:Nat} {c:Nat->Nat->Ce}
theorem BA(w:World)(h:Cv 73 w M W H c)(D:Cv 77 w M' W H c)(n:Nat)(G:W*H=n)(nb:n<=160000):Calls Tryz.prog 7 #[Sq M n cap,Sq M' n P5] w λe w'=>e=Rw (.bool true)/\Gr w w':=by
 have L:Hid (∀e w,Calls Tryz.prog 18 #[Dg e] w λr w'=>r=Rw (Dg e)/\Gr w w'):=Hg;have O:Hid (Cv 73 w M W H c):=h;have z:Hid (Cv 77 w M' W H c):=D;have N:Hid (W*H=n):=G;clear h D G;go_enter Tryz.func7,Tryz.ntmps7;go_wp2_with fail;go_loopw[5] (λB wi=>∃i:Nat,i<=n/\B=Iq i/\Hid (Gr w wi)) (λB _=>n-(intOf B).toNat);case atStart=>exact⟨0,dg,rfl,Gr.refl w⟩
 case round=>
  obtain⟨i,hi,rfl,m⟩:=hrel;by_cases A:i<n
  ·obtain⟨y,x,hy,j,l⟩:=Fv (by rw[N.out];exact A);have C:y*W*5+x*5=i*5:=by rw[l,kN]
   have a:=O.gr m;have d:=z.gr m;have d0:=a.c0 hy j;have d1:=a.c1 hy j;have d2:=a.c2 hy j;have d3:=a.c3 hy j;have d4:=a.c4 hy j;have o:=d.c0 hy j;have q:=d.c1 hy j;have s:=d.c2 hy j;have u:=d.c3 hy j;have v:=d.c4 hy j;rw[C]at d0 d1 d2 d3 d4 o q s u v;have k:(i:Int)<(n:Int):=dg;obtain⟨e,E⟩:=ad (c y x);rw[E]at d0 d1 d2 d3 d4 o q s u v;obtain⟨t,f,g,b,p⟩:=e;have I:Hid (∀w,Calls Tryz.prog 18 #[.agg #[.string t,Iq f,Iq g,Iq b,Iq p]] w λr w'=>r=Rw (.agg #[.string t,Iq f,Iq g,Iq b,Iq p])/\Gr w w'):=λw=>L ⟨t,f,g,b,p⟩ w;have P:=cell_grown a.lt d0;have Q:=cell_grown a.lt d1;have R:=cell_grown a.lt d2;have T:=cell_grown a.lt d3;have U:=cell_grown a.lt d4;have V:=cell_grown d.lt o;have X:=cell_grown d.lt q;have Y:=cell_grown d.lt s;have Z:=cell_grown d.lt u;have b4:=cell_grown d.lt v;clear C l a d E d0 d1 d2 d3 d4 o q s u v;go_wp2_with fail;have F:Tryz.prog.follows .mixedOrders=true:=ns
   go_quiet_grown(first|(go_at_call 18;exact Calls.grown_of (I _)));have J:Hid (Gr w (grow (wr.drewN nq) osq)):=m.trans ⟨nq,osq,rfl⟩;go_wp2;go_roundw;case rel=>exact⟨i+1,dg,by go_num,J⟩
   case measure=>simp[intOf];omega
  ·have k:¬(i:Int)<(n:Int):=dg
   go_wp2;go_ret;exact⟨rfl,m⟩
end
