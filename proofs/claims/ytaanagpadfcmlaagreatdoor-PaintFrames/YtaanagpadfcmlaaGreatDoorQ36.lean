import Derived.Test.YtaanagpadfcmlaaGreatDoorQ35
import Derived.Test.YtaanagpadfcmlaaGreatDoorQ34
set_option linter.all false
set_option maxRecDepth 100000
set_option maxHeartbeats 16000000
namespace Go.Proofs.YtaanagpadfcmlaaGreatDoor
open Go.RowKit Go.Sort Go.Proofs.Tryz
def ic(l r:ByteArray)(n:Nat):ByteArray:=l++⟨(Lib.repeatL [226,148,128] n).toArray⟩++r
theorem rF l:∀n,(Lib.repeatL l n).length=l.length*n
 |0=>rfl
 |n+1=>by show(l++Lib.repeatL l n).length=_;rw[aU,rF l n,Nat.mul_succ];omega
theorem rS l r n:(ic l r n).size=l.size+3*n+r.size:=by unfold ic;rw[ByteArray.size_append,ByteArray.size_append];show l.size+(Lib.repeatL [226,148,128] n).toArray.size+r.size=_;grind[rF]
section
variable(W H:Nat) (f g bd cx cy ca cb:Int)
def bdK(x rt y:Int)(c:Nat->Nat->Ce):Nat->Nat->Nat->Ce
 |0=>c
 |k+1=>wrL W H f g bd cx cy ca cb rt (y+1+k) [226,148,130] (wrL W H f g bd cx cy ca cb x (y+1+k) [226,148,130] (bdK x rt y c k))
def bdF(x y w hh:Int)(c:Nat->Nat->Ce):Nat->Nat->Ce:=
 wrL W H f g bd cx cy ca cb x (y+hh-1) (ic ⟨#[226,148,148]⟩ ⟨#[226,148,152]⟩ (w-2).toNat).data.toList (bdK W H f g bd cx cy ca cb x (x+w-1) y (wrL W H f g bd cx cy ca cb x y (ic ⟨#[226,148,140]⟩ ⟨#[226,148,144]⟩ (w-2).toNat).data.toList c) (hh-2).toNat)
theorem bdK_keep{P:(Nat->Nat->Ce)->Prop}x b y c(a:∀x y s c,P c->P (wrL W H f g bd cx cy ca cb x y s c))(h:P c):∀k,P (bdK W H f g bd cx cy ca cb x b y c k)
 |0=>h
 |k+1=>a _ _ _ _ (a _ _ _ _ (bdK_keep x b y c a h k))
theorem G8{P:(Nat->Nat->Ce)->Prop}x y w hh c(a:∀x y s c,P c->P (wrL W H f g bd cx cy ca cb x y s c))(h:P c):P (bdF W H f g bd cx cy ca cb x y w hh c):=
 a _ _ _ _ (bdK_keep W H f g bd cx cy ca cb _ _ _ _ a (a _ _ _ _ h) _)
end
section
variable{K M cap W H:Nat} {c:Nat->Nat->Ce}
theorem pF(U0 p:World)(h:CS 91 73 p K M cap W H c)(hW:1<=W/\W<=400)(hH:1<=H/\H<=400)(hp:PAll W H c)(ht:bN U0)(hU:Bt U0 p)(hM:U0.heap.size<=M)(f g bd cx cy ca cb:Int)(x y w hh:Int)(hx:-100000000000<=x/\x<=100000000000)(hy:-100000000000<=y/\y<=100000000000)(hw:2<=w/\w<=100000)(zy:2<=hh/\hh<=100000)(zq:-1000000000000<=cy/\cy<=1000000000000)(zo:-1000000000000<=cb/\cb<=1000000000000):
 Cw 31 #[Gp K f g bd cx cy ca cb,rv x y w hh] p λe w'=>e=Rw (.tuple #[])/\Cv 73 w' M W H (bdF W H f g bd cx cy ca cb x y w hh c)/\bp M p w':=by
 have zw:prog.follows .mixedOrders=true:=ns;have Q:=h.cv.lt;obtain⟨A,V⟩:=ad p.heap.size;obtain⟨a,d⟩:=ad ((p.alloc (.cells #[Pq K,Iq f,Iq g,Iq bd,Iq cx,Iq cy,Iq ca,Iq cb] 54)).alloc (.cells #[Iq x,Iq y,Iq w,Iq hh] 52));have b:Hid (Bt p a):=by rw[<-d];exact(((Gr.refl p).alloc _).alloc _).below
 have R:a.heap[A]?=some (.cells #[Pq K,Iq f,Iq g,Iq bd,Iq cx,Iq cy,Iq ca,Iq cb] 54 (0,0)):=by rw[<-d,<-V,cK _ _ _ (by simp_all)];exact heap_alloc_new _ _
 have B:a.heap[A+1]?=some (.cells #[Iq x,Iq y,Iq w,Iq hh] 52 (0,0)):=by rw[<-d,<-V,<-World.size_alloc];exact heap_alloc_new _ _
 have O:=qH<|(aD.1 B).1;have zb:Hid (M<A):=by rw[<-V];exact Q
 have L:Hid (∀u,bp M a u->u.cell? (aj A 0)=some (Pq K)/\u.cell? (aj A 1)=some (Iq f)/\u.cell? (aj A 2)=some (Iq g)/\u.cell? (aj A 3)=some (Iq bd)/\u.cell? (aj A 4)=some (Iq cx)/\u.cell? (aj A 5)=some (Iq cy)/\u.cell? (aj A 6)=some (Iq ca)/\u.cell? (aj A 7)=some (Iq cb)/\u.cell? (aj (A+1) 0)=some (Iq x)/\u.cell? (aj (A+1) 1)=some (Iq y)/\u.cell? (aj (A+1) 2)=some (Iq w)/\u.cell? (aj (A+1) 3)=some (Iq hh)):=λu hu=>by
  have e1:=(hu.block A rd dg).trans R;have e3:=(hu.block (A+1) O dg).trans B;refine⟨?_,?_,?_,?_,?_,?_,?_,?_,?_,?_,?_,?_⟩;all_goals first
   |(rw[Lib.cell_of_heap e1];rfl)
   |(rw[Lib.cell_of_heap e3];rfl)
 obtain⟨z0,z1,z2,z3,z4,z5,z6,z7,r0,r1,r2,r3⟩:=L a (bp.refl _ _);have v:=hU.trans (b.mono hU.size);have zh:Hid (∀u,bp M a u->bN u):=λu hu=>ht.below (hu.low hM v.size v);have WR:Hid (∀c1 u (q D:Int) (s:ByteArray),bp M a u->Cv 73 u M W H c1->PAll W H c1->s.size<=1000000->-900000000000<=q->q<=900000000000->Cw 64 #[.agg #[Pq K,Iq f,Iq g,Iq bd,Iq cx,Iq cy,Iq ca,Iq cb],Iq q,Iq D,.string s] u λe o=>e=Rw (.tuple #[])/\Hid (Cv 73 o M W H (wrL W H f g bd cx cy ca cb q D s.data.toList c1))/\Hid (bp M a o)):=λc1 u q D s hu hv zv zA zB zC=>by have zr:=(hu.block K (zz007 h.klt b.size) h.ne).trans (b.block K h.klt);refine(uq u ⟨zr.trans h.kb,hv,h.ne,h.hc⟩ hW hH zv (zh u hu) q D f g bd cx cy ca cb s dg dg zq zo).mono ?_;rintro e o ⟨rfl,q1,q2⟩;exact⟨rfl,q1,hu.trans q2⟩
 have HK:Hid (∀x y s c,PAll W H c->PAll W H (wrL W H f g bd cx cy ca cb x y s c)):=λx y s c hc=>hc.wrL hW hH _ _ _ _ _ _ _ _ _ _;obtain⟨n,hn⟩:=ad (w-2).toNat;have zu:(n:Int)=w-2:=dg;obtain⟨C,i⟩:∃z:ByteArray,⟨(Lib.repeatL [226,148,128] n).toArray⟩=z:=⟨_,rfl⟩;have RE:Hid (∀u,Cw 63 #[.string ⟨#[226,148,128]⟩,Iq (w-2)] u λe o=>e=Rw (.string C)/\Bt u o):=λu=>by rw[<-zu,<-i];exact rG ⟨#[226,148,128]⟩ n u dg (by show 3*n<=_;omega)
 have zx:C.size=3*n:=by rw[<-i];show(Lib.repeatL [226,148,128] n).toArray.size=_;rw[jh,rF];rfl
 have N:Hid (∀l r:ByteArray,ic l r n=l++C++r):=λl r=>by rw[<-i];rfl
 have za:=qH<|h.cv.keep (b.block M Q);have HP:=qH hp;have e1:IntKind.i64.wrap (x+w)=x+w:=IntWalk.i64_in _ dg;have e2:IntKind.i64.wrap (x+w-1)=x+w-1:=IntWalk.i64_in _ dg;have e3:IntKind.i64.wrap (y+hh)=y+hh:=IntWalk.i64_in _ dg;have e4:IntKind.i64.wrap (y+hh-1)=y+hh-1:=IntWalk.i64_in _ dg;have e5:IntKind.i64.wrap (w-2)=w-2:=IntWalk.i64_in _ dg;have e6:IntKind.i64.wrap (y+1)=y+1:=IntWalk.i64_in _ dg;unfold bdF;rw[hn];obtain⟨m,hm⟩:=ad (hh-2).toNat;have zz:(m:Int)=hh-2:=dg
 rw[hm];clear h hp ht hU v R B hn i;unfold Gp rv;go_enter func31,ntmps31;go_wp2_with fail;clear d V;go_quiet(fail);go_wp2_with fail;refine(RE _).mono ?_;rintro e u1 ⟨rfl,b1⟩;have J:=qH<|Below.trans ((Gr.refl a).drewN _).below b1;have E:Hid (bp M a u1):=bp.below J;have zj:=qH<|za.keep (J.block M (by have:=zb.out;have:=O.out;omega));obtain⟨y0,D,y2,y3,y4,y5,y6,y7,q0,q1,q2,q3⟩:=L u1 E;have zc:=qH<|N ⟨#[226,148,140]⟩ ⟨#[226,148,144]⟩;have T:=rS ⟨#[226,148,140]⟩ ⟨#[226,148,144]⟩ n;have W1:=qH<|WR c u1 x y (ic ⟨#[226,148,140]⟩ ⟨#[226,148,144]⟩ n) E zj HP (by rw[T];show 3+3*n+3<=_;omega) dg dg;obtain⟨c1,j⟩:=ad (wrL W H f g bd cx cy ca cb x y (ic ⟨#[226,148,140]⟩ ⟨#[226,148,144]⟩ n).data.toList c);have zg:Hid (PAll W H c1):=by rw[<-j];exact HK _ _ _ _ HP
 rw[j,zc.out]at W1;have F:=qH<|j;have k1:¬9223372036854775807<3+C.size:=dg
 have k2:¬9223372036854775807<3+C.size+3:=dg;clear RE b1 z0 z1 z2 z3 z4 z5 z6 z7 r0 r1 r2 r3 j T;go_wp2_with fail;refine W1.mono ?_;rintro e u2 ⟨rfl,zk,G⟩;obtain⟨x0,q,x2,x3,x4,x5,x6,x7,p0,p1,p2,p3⟩:=L u2 G;clear W1 y0 D y2 y3 y4 y5 y6 y7 q0 q1 q2 q3;go_wp2;go_loopw[7] (λyv wr=>∃k:Nat,k<=m/\yv=Iq (y+1+k)/\Hid (Cv 73 wr M W H (bdK W H f g bd cx cy ca cb x (x+w-1) y c1 k))/\Hid (bp M a wr)) (λyv _=>(y+hh-intOf yv).toNat);case atStart=>exact⟨0,aR _,rd,zk,G⟩
 case round=>
  obtain⟨k,hk,rfl,HV,X⟩:=hrel;have t:=qH<|bdK_keep W H f g bd cx cy ca cb (P:=PAll W H) x (x+w-1) y c1 HK zg k;obtain⟨d0,d1,d2,d3,d4,d5,d6,d7,i0,i1,i2,i3⟩:=L wr X;clear x0 q x2 x3 x4 x5 x6 x7 p0 p1 p2 p3;by_cases zt:k<m
  ·have S:y+1+(k:Int)<y+hh-1:=dg
   have W2:=qH<|WR _ wr x (y+1+k) ⟨#[226,148,130]⟩ X HV t (by decide) dg dg;have zi:=HV;clear zi;go_wp2_with fail;refine W2.mono ?_;rintro e u3 ⟨rfl,zl,I⟩;obtain⟨j0,j1,j2,j3,j4,j5,j6,j7,l0,l1,l2,l3⟩:=L u3 I;have W4:=qH<|WR _ u3 (x+w-1) (y+1+k) ⟨#[226,148,130]⟩ I zl (HK _ _ _ _ t) (by decide) dg dg;have e7:IntKind.i64.wrap (y+1+(k:Int)+1)=y+1+k+1:=IntWalk.i64_in _ dg;clear W2 d0 d1 d2 d3 d4 d5 d6 d7 i0 i1 i2 i3;go_wp2_with fail;refine W4.mono ?_;rintro e u4 ⟨rfl,zm,Y⟩;clear W4;go_wp2;go_roundw;case rel=>exact⟨k+1,zt,rd,zm,Y⟩
   case measure=>simp[intOf];omega
  ·have S:¬y+1+(k:Int)<y+hh-1:=dg
   obtain rfl:k=m:=dg;have U:=rS ⟨#[226,148,148]⟩ ⟨#[226,148,152]⟩ n;have ze:=qH<|N ⟨#[226,148,148]⟩ ⟨#[226,148,152]⟩;have W5:=qH<|WR _ wr x (y+hh-1) (ic ⟨#[226,148,148]⟩ ⟨#[226,148,152]⟩ n) X HV t (by rw[U];show 3+3*n+3<=_;omega) dg dg;have HE:=ze;have W6:Hid (Cw 64 #[.agg #[Pq K,Iq f,Iq g,Iq bd,Iq cx,Iq cy,Iq ca,Iq cb],Iq x,Iq (y+hh-1),.string (⟨#[226,148,148]⟩++C++⟨#[226,148,152]⟩)] wr λe o=>e=Rw (.tuple #[])/\Hid (Cv 73 o M W H (wrL W H f g bd cx cy ca cb x (y+hh-1) (ic ⟨#[226,148,148]⟩ ⟨#[226,148,152]⟩ n).data.toList (bdK W H f g bd cx cy ca cb x (x+w-1) y c1 k)))/\Hid (bp M a o)):=by rw[<-HE.out];exact W5
   clear W5 U;go_wp2_with fail;refine W6.mono ?_;rintro e u5 ⟨rfl,zn,Z⟩;go_wp2;go_end0;exact⟨rfl,by rw[F.out];exact zn,(bp.below b).trans Z⟩
end
