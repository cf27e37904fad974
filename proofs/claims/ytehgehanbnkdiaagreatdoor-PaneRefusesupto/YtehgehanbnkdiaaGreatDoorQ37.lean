import Derived.Test.YtehgehanbnkdiaaGreatDoorQ36
import Derived.Test.YtehgehanbnkdiaaGreatDoorQ35
set_option linter.all false
set_option maxRecDepth 100000
set_option maxHeartbeats 16000000
namespace Go.Proofs.YtehgehanbnkdiaaGreatDoor
open Go.RowKit Go.Sort Go.Proofs.Tryz
def md(l r:BY)(n:Nat):BY:=l++⟨(Lib.repeatL [226,148,128] n).toArray⟩++r
theorem qf l:∀n,(Lib.repeatL l n).length=l.length*n
 |0=>rfl
 |n+1=>by show(l++Lib.repeatL l n).length=_;rw[aN,qf l n,Nat.mul_succ];omega
def qi l r n:(md l r n).size=l.size+3*n+r.size:=by unfold md;rw[kG,kG];show l.size+(Lib.repeatL [226,148,128] n).toArray.size+r.size=_;grind[qf]
section
variable(W H:Nat) (f g bd cx cy ca cb:Int)
def Qy(x rt y:Int)(c:zzd):Nat->Nat->Nat->Ce
 |0=>c
 |k+1=>wrL W H f g bd cx cy ca cb rt (y+1+k) [226,148,130] (wrL W H f g bd cx cy ca cb x (y+1+k) [226,148,130] (Qy x rt y c k))
def PQ(x y w hh:Int)(c:zzd):Nat->Nat->Ce:=
 wrL W H f g bd cx cy ca cb x (y+hh-1) (md ⟨#[226,148,148]⟩ ⟨#[226,148,152]⟩ (w-2).toNat).data.toList (Qy W H f g bd cx cy ca cb x (x+w-1) y (wrL W H f g bd cx cy ca cb x y (md ⟨#[226,148,140]⟩ ⟨#[226,148,144]⟩ (w-2).toNat).data.toList c) (hh-2).toNat)
def bdK_keep{P:(Nat->Nat->Ce)->Prop}x b y c(a:∀x y s c,P c->P (wrL W H f g bd cx cy ca cb x y s c))(h:P c):∀k,P (Qy W H f g bd cx cy ca cb x b y c k)
 |0=>h
 |k+1=>a _ _ _ _ (a _ _ _ _ (bdK_keep x b y c a h k))
theorem FM{P:(Nat->Nat->Ce)->Prop}x y w hh c(a:∀x y s c,P c->P (wrL W H f g bd cx cy ca cb x y s c))(h:P c):P (PQ W H f g bd cx cy ca cb x y w hh c):=
 a _ _ _ _ (bdK_keep W H f g bd cx cy ca cb _ _ _ _ a (a _ _ _ _ h) _)
end
section
variable{K M cap W H:Nat} {c:zzd}
def oq(U0 p:AT)(h:CS 196 46 p K M cap W H c)(hW:1<=W/\W<=400)(hH:1<=H/\H<=400)(hp:PAll W H c)(ht:aY U0)(hU:Bq U0 p)(hM:U0.heap.size<=M)(f g bd cx cy ca cb:Int)(x y w hh:Int)(hx:-100000000000<=x/\x<=100000000000)(hy:-100000000000<=y/\y<=100000000000)(hw:2<=w/\w<=100000)(zC:2<=hh/\hh<=100000)(zu:-1000000000000<=cy/\cy<=1000000000000)(zt:-1000000000000<=cb/\cb<=1000000000000):
 Cw 99 #[E0 K f g bd cx cy ca cb,rv x y w hh] p λe w'=>e=Rw (.tuple #[])/\Cv 46 w' M W H (PQ W H f g bd cx cy ca cb x y w hh c)/\bM M p w':=by
 have zA:prog.follows .mixedOrders=true:=pt;have Q:=h.cv.lt;obtain⟨A,V⟩:=af p.heap.size;obtain⟨a,d⟩:=af ((p.alloc (.cells #[Pq K,Iq f,Iq g,Iq bd,Iq cx,Iq cy,Iq ca,Iq cb] 148)).alloc (.cells #[Iq x,Iq y,Iq w,Iq hh] 93));have b:Hid (Bq p a):=by rw[<-d];exact(((Gr.refl p).alloc _).alloc _).below
 have R:a.heap[A]?=some (.cells #[Pq K,Iq f,Iq g,Iq bd,Iq cx,Iq cy,Iq ca,Iq cb] 148 (0,0)):=by rw[<-d,<-V,bG _ _ _ (by simp_all)];exact heap_alloc_new _ _
 have B:a.heap[A+1]?=some (.cells #[Iq x,Iq y,Iq w,Iq hh] 93 (0,0)):=by rw[<-d,<-V,<-World.size_alloc];exact heap_alloc_new _ _
 have O:=qH<|(aj.1 B).1;have zg:Hid (M<A):=by rw[<-V];exact Q
 have L:Hid (∀u,bM M a u->u.cell? (aq A 0)=some (Pq K)/\u.cell? (aq A 1)=some (Iq f)/\u.cell? (aq A 2)=some (Iq g)/\u.cell? (aq A 3)=some (Iq bd)/\u.cell? (aq A 4)=some (Iq cx)/\u.cell? (aq A 5)=some (Iq cy)/\u.cell? (aq A 6)=some (Iq ca)/\u.cell? (aq A 7)=some (Iq cb)/\u.cell? (aq (A+1) 0)=some (Iq x)/\u.cell? (aq (A+1) 1)=some (Iq y)/\u.cell? (aq (A+1) 2)=some (Iq w)/\u.cell? (aq (A+1) 3)=some (Iq hh)):=λu hu=>by
  have e1:=(hu.block A rn dg).trans R;have e3:=(hu.block (A+1) O dg).trans B;refine⟨?_,?_,?_,?_,?_,?_,?_,?_,?_,?_,?_,?_⟩;all_goals first
   |(rw[Lib.cell_of_heap e1];rfl)
   |(rw[Lib.cell_of_heap e3];rfl)
 obtain⟨z0,z1,z2,z3,z4,z5,z6,z7,r0,r1,r2,r3⟩:=L a (bM.refl _ _);have v:=hU.trans (b.mono hU.size);have zk:Hid (∀u,bM M a u->aY u):=λu hu=>ht.below (hu.low hM v.size v);have WR:Hid (∀c1 u (q D:Int) (s:BY),bM M a u->Cv 46 u M W H c1->PAll W H c1->s.size<=1000000->-900000000000<=q->q<=900000000000->Cw 174 #[.agg #[Pq K,Iq f,Iq g,Iq bd,Iq cx,Iq cy,Iq ca,Iq cb],Iq q,Iq D,.string s] u λe o=>e=Rw (.tuple #[])/\Hid (Cv 46 o M W H (wrL W H f g bd cx cy ca cb q D s.data.toList c1))/\Hid (bM M a o)):=λc1 u q D s hu hv zy zE zF zG=>by have zv:=(hu.block K (zz006 h.klt b.size) h.ne).trans (b.block K h.klt);refine Ut (sI u ⟨zv.trans h.kb,hv,h.ne,h.hc⟩ hW hH zy (zk u hu) q D f g bd cx cy ca cb s dg dg zu zt) ?_;rintro o ⟨q1,q2⟩;exact⟨rfl,q1,hu.trans q2⟩
 have HK:Hid (∀x y s c,PAll W H c->PAll W H (wrL W H f g bd cx cy ca cb x y s c)):=λx y s c hc=>hc.wrL hW hH _ _ _ _ _ _ _ _ _ _;obtain⟨n,hn⟩:=af (w-2).toNat;have zx:(n:Int)=w-2:=dg;obtain⟨C,i⟩:∃z:BY,⟨(Lib.repeatL [226,148,128] n).toArray⟩=z:=⟨_,rfl⟩;have RE:Hid (∀u,Cw 173 #[.string ⟨#[226,148,128]⟩,Iq (w-2)] u λe o=>e=Rw (.string C)/\Bq u o):=λu=>by rw[<-zx,<-i];exact qg ⟨#[226,148,128]⟩ n u dg (by show 3*n<=_;omega)
 have zB:C.size=3*n:=by rw[<-i];show(Lib.repeatL [226,148,128] n).toArray.size=_;rw[iS,qf];rfl
 have N:Hid (∀l r:BY,md l r n=l++C++r):=λl r=>by rw[<-i];rfl
 have ze:=qH<|h.cv.keep (b.block M Q);have HP:=qH hp;have e1:IntKind.i64.wrap (x+w)=x+w:=IntWalk.i64_in _ dg;have e2:IntKind.i64.wrap (x+w-1)=x+w-1:=IntWalk.i64_in _ dg;have e3:IntKind.i64.wrap (y+hh)=y+hh:=IntWalk.i64_in _ dg;have e4:IntKind.i64.wrap (y+hh-1)=y+hh-1:=IntWalk.i64_in _ dg;have e5:IntKind.i64.wrap (w-2)=w-2:=IntWalk.i64_in _ dg;have e6:IntKind.i64.wrap (y+1)=y+1:=IntWalk.i64_in _ dg;unfold PQ;rw[hn];obtain⟨m,hm⟩:=af (hh-2).toNat;have zD:(m:Int)=hh-2:=dg;rw[hm];clear h hp ht hU v R B hn i;unfold E0 rv;go_enter func99,ntmps99;go_wp2_with fail;clear d V;go_quiet(fail);go_wp2_with fail;refine Ut (RE _) ?_;rintro u1 b1;have J:=qH<|Below.trans ((Gr.refl a).drewN _).below b1;have E:Hid (bM M a u1):=bM.below J;have zm:=qH<|ze.keep (J.block M (by have:=zg.out;have:=O.out;omega));obtain⟨y0,D,y2,y3,y4,y5,y6,y7,q0,q1,q2,q3⟩:=L u1 E;have zh:=qH<|N ⟨#[226,148,140]⟩ ⟨#[226,148,144]⟩;have T:=qi ⟨#[226,148,140]⟩ ⟨#[226,148,144]⟩ n;have W1:=qH<|WR c u1 x y (md ⟨#[226,148,140]⟩ ⟨#[226,148,144]⟩ n) E zm HP (by rw[T];show 3+3*n+3<=_;omega) dg dg;obtain⟨c1,j⟩:=af (wrL W H f g bd cx cy ca cb x y (md ⟨#[226,148,140]⟩ ⟨#[226,148,144]⟩ n).data.toList c);have zj:Hid (PAll W H c1):=by rw[<-j];exact HK _ _ _ _ HP
 rw[j,zh.out]at W1;have F:=qH<|j;have k1:¬9223372036854775807<3+C.size:=dg;have k2:¬9223372036854775807<3+C.size+3:=dg;clear RE b1 z0 z1 z2 z3 z4 z5 z6 z7 r0 r1 r2 r3 j T;go_wp2_with fail;refine Ut W1 ?_;rintro u2 ⟨zn,G⟩;obtain⟨x0,q,x2,x3,x4,x5,x6,x7,p0,p1,p2,p3⟩:=L u2 G;clear W1 y0 D y2 y3 y4 y5 y6 y7 q0 q1 q2 q3;go_wp2;go_loopw[7] (λyv wr=>∃k:Nat,k<=m/\yv=Iq (y+1+k)/\Hid (Cv 46 wr M W H (Qy W H f g bd cx cy ca cb x (x+w-1) y c1 k))/\Hid (bM M a wr)) (λyv _=>(y+hh-intOf yv).toNat);.exact⟨0,LT,rn,zn,G⟩
 obtain⟨k,hk,rfl,HV,X⟩:=hrel;have t:=qH<|bdK_keep W H f g bd cx cy ca cb (P:=PAll W H) x (x+w-1) y c1 HK zj k;obtain⟨d0,d1,d2,d3,d4,d5,d6,d7,i0,i1,i2,i3⟩:=L wr X;clear x0 q x2 x3 x4 x5 x6 x7 p0 p1 p2 p3;by_cases zw:k<m
 .have S:y+1+(k:Int)<y+hh-1:=dg;have W2:=qH<|WR _ wr x (y+1+k) ⟨#[226,148,130]⟩ X HV t (by decide) dg dg;have zl:=HV;clear zl;go_wp2_with fail;refine Ut W2 ?_;rintro u3 ⟨zo,I⟩;obtain⟨j0,j1,j2,j3,j4,j5,j6,j7,l0,l1,l2,l3⟩:=L u3 I;have W4:=qH<|WR _ u3 (x+w-1) (y+1+k) ⟨#[226,148,130]⟩ I zo (HK _ _ _ _ t) (by decide) dg dg;have e7:IntKind.i64.wrap (y+1+(k:Int)+1)=y+1+k+1:=IntWalk.i64_in _ dg;clear W2 d0 d1 d2 d3 d4 d5 d6 d7 i0 i1 i2 i3;go_wp2_with fail;refine Ut W4 ?_;rintro u4 ⟨zq,Y⟩;clear W4;go_wp2;go_roundw;.exact⟨k+1,zw,rn,zq,Y⟩
  .simp[intOf];omega
 .have S:¬y+1+(k:Int)<y+hh-1:=dg;obtain rfl:k=m:=dg;have U:=qi ⟨#[226,148,148]⟩ ⟨#[226,148,152]⟩ n;have zi:=qH<|N ⟨#[226,148,148]⟩ ⟨#[226,148,152]⟩;have W5:=qH<|WR _ wr x (y+hh-1) (md ⟨#[226,148,148]⟩ ⟨#[226,148,152]⟩ n) X HV t (by rw[U];show 3+3*n+3<=_;omega) dg dg;have HE:=zi;have W6:Hid (Cw 174 #[.agg #[Pq K,Iq f,Iq g,Iq bd,Iq cx,Iq cy,Iq ca,Iq cb],Iq x,Iq (y+hh-1),.string (⟨#[226,148,148]⟩++C++⟨#[226,148,152]⟩)] wr λe o=>e=Rw (.tuple #[])/\Hid (Cv 46 o M W H (wrL W H f g bd cx cy ca cb x (y+hh-1) (md ⟨#[226,148,148]⟩ ⟨#[226,148,152]⟩ n).data.toList (Qy W H f g bd cx cy ca cb x (x+w-1) y c1 k)))/\Hid (bM M a o)):=by rw[<-HE.out];exact W5
  clear W5 U;go_wp2_with fail;refine Ut W6 ?_;rintro u5 ⟨zr,Z⟩;go_wp2;go_end0;exact⟨rfl,by rw[F.out];exact zr,(bM.below b).trans Z⟩
end
