import Derived.Test.YtmbefonnkkhfgaaGreatDoorQ38
import Derived.Test.YtmbefonnkkhfgaaGreatDoorQ37
import Derived.BigQuiet
set_option linter.unusedVariables false
set_option maxRecDepth 100000
set_option maxHeartbeats 16000000
namespace Go.Proofs.YtmbefonnkkhfgaaGreatDoor
section
open Go.RowKit Go.Sort Go.Proofs.Tryz
def sideT(l r:ByteArray)(n:Nat):ByteArray:=l++⟨(Lib.repeatL [226,148,128] n).toArray⟩++r
theorem repL_len(l:List UInt8):∀n,(Lib.repeatL l n).length=l.length*n
 |0=>rfl
 |n+1=>by show(l++Lib.repeatL l n).length=_;rw[List.length_append,repL_len l n,Nat.mul_succ];omega
theorem sideT_size(l r:ByteArray)(n:Nat):(sideT l r n).size=l.size+3*n+r.size:=by unfold sideT;rw[ByteArray.size_append,ByteArray.size_append];show l.size+(Lib.repeatL [226,148,128] n).toArray.size+r.size=_;rw[List.size_toArray,repL_len];rfl
section
variable(W H:Nat) (f g bd cx cy ca cb:Int)
def bdK(x rt y:Int)(c:Nat->Nat->Ce):Nat->Nat->Nat->Ce
 |0=>c
 |k+1=>wrL W H f g bd cx cy ca cb rt (y+1+k) [226,148,130] (wrL W H f g bd cx cy ca cb x (y+1+k) [226,148,130] (bdK x rt y c k))
def bdF(x y w hh:Int)(c:Nat->Nat->Ce):Nat->Nat->Ce:=
 wrL W H f g bd cx cy ca cb x (y+hh-1) (sideT ⟨#[226,148,148]⟩ ⟨#[226,148,152]⟩ (w-2).toNat).data.toList (bdK W H f g bd cx cy ca cb x (x+w-1) y (wrL W H f g bd cx cy ca cb x y (sideT ⟨#[226,148,140]⟩ ⟨#[226,148,144]⟩ (w-2).toNat).data.toList c) (hh-2).toNat)
theorem bdK_keep{P:(Nat->Nat->Ce)->Prop}(x rt y:Int)(c:Nat->Nat->Ce)(hs:∀x y s c,P c->P (wrL W H f g bd cx cy ca cb x y s c))(h:P c):∀k,P (bdK W H f g bd cx cy ca cb x rt y c k)
 |0=>h
 |k+1=>hs _ _ _ _ (hs _ _ _ _ (bdK_keep x rt y c hs h k))
theorem bdF_keep{P:(Nat->Nat->Ce)->Prop}(x y w hh:Int)(c:Nat->Nat->Ce)(hs:∀x y s c,P c->P (wrL W H f g bd cx cy ca cb x y s c))(h:P c):P (bdF W H f g bd cx cy ca cb x y w hh c):=
 hs _ _ _ _ (bdK_keep W H f g bd cx cy ca cb _ _ _ _ hs (hs _ _ _ _ h) _)
end
section
variable{K M cap W H:Nat} {c:Nat->Nat->Ce}
theorem paintBorder_any(U0 w0:World)(h:CS 89 34 w0 K M cap W H c)(hW:1≤W∧W≤400)(hH:1≤H∧H≤400)(hp:PAll W H c)(ht:TabAt U0)(hU:Below U0.heap.size U0 w0)(hM:U0.heap.size≤M)(f g bd cx cy ca cb:Int)(x y w hh:Int)
 (hx:-100000000000≤x∧x≤100000000000) (hy:-100000000000≤y∧y≤100000000000) (hw:2≤w∧w≤100000) (hhh:2≤hh∧hh≤100000) (hcy:-1000000000000≤cy∧cy≤1000000000000) (hcb:-1000000000000≤cb∧cb≤1000000000000):
 Calls prog 35 #[brv K f g bd cx cy ca cb,rv x y w hh] w0 fun e w'=>e=.returned (.tuple #[])∧Cv 34 w' M W H (bdF W H f g bd cx cy ca cb x y w hh c)∧Chm M w0 w':=by
 have hmix:prog.follows .mixedOrders=true:=by kernel_rfl
 have hMl:=h.cv.lt;obtain⟨A,hA⟩:=nmd w0.heap.size;obtain⟨W3,hW3⟩:=nmd ((w0.alloc (.cells #[Pq K,Iq f,Iq g,Iq bd,Iq cx,Iq cy,Iq ca,Iq cb] 58)).alloc (.cells #[Iq x,Iq y,Iq w,Iq hh] 56));have HB3:Hid (Below w0.heap.size w0 W3):=by rw[<-hW3];exact(((Gr.refl w0).alloc _).alloc _).below
 have hb3:W3.heap[A]?=some (.cells #[Pq K,Iq f,Iq g,Iq bd,Iq cx,Iq cy,Iq ca,Iq cb] 58 (0,0)):=by rw[<-hW3,<-hA,Below.heap_alloc _ _ _ (by rw[World.size_alloc];omega)];exact heap_alloc_new _ _
 have hr3:W3.heap[A+1]?=some (.cells #[Iq x,Iq y,Iq w,Iq hh] 56 (0,0)):=by rw[<-hW3,<-hA,<-World.size_alloc];exact heap_alloc_new _ _
 have HZ3:Hid (A+1<W3.heap.size):=(Array.getElem?_eq_some_iff.1 hr3).1;have HMA:Hid (M<A):=by rw[<-hA];exact hMl
 have HS:Hid (∀u,Chm M W3 u->u.cell? ⟨A,0,none⟩=some (Pq K)∧u.cell? ⟨A,1,none⟩=some (Iq f)∧u.cell? ⟨A,2,none⟩=some (Iq g)∧u.cell? ⟨A,3,none⟩=some (Iq bd)∧u.cell? ⟨A,4,none⟩=some (Iq cx)∧u.cell? ⟨A,5,none⟩=some (Iq cy)∧u.cell? ⟨A,6,none⟩=some (Iq ca)∧u.cell? ⟨A,7,none⟩=some (Iq cb)∧u.cell? ⟨A+1,0,none⟩=some (Iq x)∧u.cell? ⟨A+1,1,none⟩=some (Iq y)∧u.cell? ⟨A+1,2,none⟩=some (Iq w)∧u.cell? ⟨A+1,3,none⟩=some (Iq hh)):=fun u hu=>by
  have e1:=(hu.block A (by have:=HZ3.out;omega) (by have:=HMA.out;omega)).trans hb3;have e3:=(hu.block (A+1) HZ3 (by have:=HMA.out;omega)).trans hr3;refine⟨?_,?_,?_,?_,?_,?_,?_,?_,?_,?_,?_,?_⟩;all_goals first
   |(rw[Lib.cell_of_heap e1];rfl)
   |(rw[Lib.cell_of_heap e3];rfl)
 obtain⟨z0,z1,z2,z3,z4,z5,z6,z7,r0,r1,r2,r3⟩:=HS W3 (Chm.refl _ _);have hU3:Below U0.heap.size U0 W3:=hU.trans (HB3.mono hU.size);have HTW:Hid (∀u,Chm M W3 u->TabAt u):=fun u hu=>ht.below (hu.low hM hU3.size hU3);have WR:Hid (∀c1 u (x1 y1:Int) (s:ByteArray),Chm M W3 u->Cv 34 u M W H c1->PAll W H c1->s.size≤1000000->-900000000000≤x1->x1≤900000000000->Calls prog 67 #[.agg #[Pq K,Iq f,Iq g,Iq bd,Iq cx,Iq cy,Iq ca,Iq cb],Iq x1,Iq y1,.string s] u fun e u'=>e=.returned (.tuple #[])∧Hid (Cv 34 u' M W H (wrL W H f g bd cx cy ca cb x1 y1 s.data.toList c1))∧Hid (Chm M W3 u')):=fun c1 u x1 y1 s hu hv hp1 hs1 hx1 hx2=>by have hku:u.heap[K]?=w0.heap[K]?:=(hu.block K (Nat.lt_of_lt_of_le h.klt HB3.size) h.ne).trans (HB3.block K h.klt);refine(write_any u ⟨hku.trans h.kb,hv,h.ne,h.hc⟩ hW hH hp1 (HTW u hu) x1 y1 f g bd cx cy ca cb s (by omega) (by omega) hcy hcb).mono ?_;rintro e u' ⟨rfl,q1,q2⟩;exact⟨rfl,q1,hu.trans q2⟩
 have HK:Hid (∀x y s c,PAll W H c->PAll W H (wrL W H f g bd cx cy ca cb x y s c)):=fun x y s c hc=>hc.wrL hW hH _ _ _ _ _ _ _ _ _ _;obtain⟨n,hn⟩:=nmd (w-2).toNat;have hnI:(n:Int)=w-2:=by omega
 obtain⟨bt,hbt⟩:∃z:ByteArray,⟨(Lib.repeatL [226,148,128] n).toArray⟩=z:=⟨_,rfl⟩;have RE:Hid (∀u,Calls prog 66 #[.string ⟨#[226,148,128]⟩,Iq (w-2)] u fun e u'=>e=.returned (.string bt)∧Below u.heap.size u u'):=fun u=>by rw[<-hnI,<-hbt];exact repeat_lib ⟨#[226,148,128]⟩ n u (by omega) (by show 3*n≤_;omega)
 have hbs:bt.size=3*n:=by rw[<-hbt];show(Lib.repeatL [226,148,128] n).toArray.size=_;rw[List.size_toArray,repL_len];rfl
 have HST:Hid (∀l r:ByteArray,sideT l r n=l++bt++r):=fun l r=>by rw[<-hbt];rfl
 have HCV:Hid (Cv 34 W3 M W H c):=h.cv.keep (HB3.block M hMl);have HP:=qH hp;have e1:IntKind.i64.wrap (x+w)=x+w:=IntWalk.i64_in _ (by omega);have e2:IntKind.i64.wrap (x+w-1)=x+w-1:=IntWalk.i64_in _ (by omega);have e3:IntKind.i64.wrap (y+hh)=y+hh:=IntWalk.i64_in _ (by omega);have e4:IntKind.i64.wrap (y+hh-1)=y+hh-1:=IntWalk.i64_in _ (by omega);have e5:IntKind.i64.wrap (w-2)=w-2:=IntWalk.i64_in _ (by omega);have e6:IntKind.i64.wrap (y+1)=y+1:=IntWalk.i64_in _ (by omega);unfold bdF;rw[hn];obtain⟨m,hm⟩:=nmd (hh-2).toNat;have hmI:(m:Int)=hh-2:=by omega
 rw[hm];clear h hp ht hU hU3 hb3 hr3 hn hbt;unfold brv rv;go_enter func35,ntmps35;go_wp2_with fail;clear hW3 hA;go_quiet(fail);go_wp2_with fail;refine(RE _).mono ?_;rintro e u1 ⟨rfl,b1⟩;have HG1:Hid (Below W3.heap.size W3 u1):=Below.trans ((Gr.refl W3).drewN _).below b1;have HC1:Hid (Chm M W3 u1):=Chm.below HG1;have HV1:Hid (Cv 34 u1 M W H c):=HCV.keep (HG1.block M (by have:=HMA.out;have:=HZ3.out;omega));obtain⟨y0,y1,y2,y3,y4,y5,y6,y7,q0,q1,q2,q3⟩:=HS u1 HC1;have HN1:=qH<|HST ⟨#[226,148,140]⟩ ⟨#[226,148,144]⟩;have hz1:=sideT_size ⟨#[226,148,140]⟩ ⟨#[226,148,144]⟩ n;have W1:=qH<|WR c u1 x y (sideT ⟨#[226,148,140]⟩ ⟨#[226,148,144]⟩ n) HC1 HV1 HP (by rw[hz1];show 3+3*n+3≤_;omega) (by omega) (by omega);obtain⟨c1,hc1⟩:=nmd (wrL W H f g bd cx cy ca cb x y (sideT ⟨#[226,148,140]⟩ ⟨#[226,148,144]⟩ n).data.toList c);have HP1:Hid (PAll W H c1):=by rw[<-hc1];exact HK _ _ _ _ HP
 rw[hc1,HN1.out]at W1;have HC1E:Hid (wrL W H f g bd cx cy ca cb x y (sideT ⟨#[226,148,140]⟩ ⟨#[226,148,144]⟩ n).data.toList c=c1):=hc1;have k1:¬9223372036854775807<3+bt.size:=by omega
 have k2:¬9223372036854775807<3+bt.size+3:=by omega
 clear RE b1 z0 z1 z2 z3 z4 z5 z6 z7 r0 r1 r2 r3 hc1 hz1;go_wp2_with fail;refine W1.mono ?_;rintro e u2 ⟨rfl,HV2,HC2⟩;obtain⟨x0,x1,x2,x3,x4,x5,x6,x7,p0,p1,p2,p3⟩:=HS u2 HC2;clear W1 y0 y1 y2 y3 y4 y5 y6 y7 q0 q1 q2 q3;go_wp2;go_loopw[7] (fun yv wr=>∃k:Nat,k≤m∧yv=Iq (y+1+k)∧Hid (Cv 34 wr M W H (bdK W H f g bd cx cy ca cb x (x+w-1) y c1 k))∧Hid (Chm M W3 wr)) (fun yv _=>(y+hh-intOf yv).toNat);case atStart=>exact⟨0,Nat.zero_le _,by show _=Iq (y+1+0);rw[Int.add_zero],HV2,HC2⟩
 case round=>
  obtain⟨k,hk,rfl,HV,HC⟩:=hrel;have HPK:=qH<|bdK_keep W H f g bd cx cy ca cb (P:=PAll W H) x (x+w-1) y c1 HK HP1 k;obtain⟨d0,d1,d2,d3,d4,d5,d6,d7,i0,i1,i2,i3⟩:=HS wr HC;clear x0 x1 x2 x3 x4 x5 x6 x7 p0 p1 p2 p3;by_cases hlt:k<m
  ·have hlt':y+1+(k:Int)<y+hh-1:=by omega
   have W2:=qH<|WR _ wr x (y+1+k) ⟨#[226,148,130]⟩ HC HV HPK (by decide) (by omega) (by omega);have HV':=HV;clear HV';go_wp2_with fail;refine W2.mono ?_;rintro e u3 ⟨rfl,HV3,HC3⟩;obtain⟨j0,j1,j2,j3,j4,j5,j6,j7,l0,l1,l2,l3⟩:=HS u3 HC3;have W4:=qH<|WR _ u3 (x+w-1) (y+1+k) ⟨#[226,148,130]⟩ HC3 HV3 (HK _ _ _ _ HPK) (by decide) (by omega) (by omega);have e7:IntKind.i64.wrap (y+1+(k:Int)+1)=y+1+k+1:=IntWalk.i64_in _ (by omega);clear W2 d0 d1 d2 d3 d4 d5 d6 d7 i0 i1 i2 i3;go_wp2_with fail;refine W4.mono ?_;rintro e u4 ⟨rfl,HV4,HC4⟩;clear W4;go_wp2;go_roundw;case rel=>exact⟨k+1,hlt,by show Iq _=Iq (y+1+((k+1:Nat):Int));rw[show y+1+((k+1:Nat):Int)=y+1+k+1 by omega],HV4,HC4⟩
   case measure=>simp[intOf];omega
  ·have hlt':¬y+1+(k:Int)<y+hh-1:=by omega
   obtain rfl:k=m:=by omega
   have hz2:=sideT_size ⟨#[226,148,148]⟩ ⟨#[226,148,152]⟩ n;have HN2:=qH<|HST ⟨#[226,148,148]⟩ ⟨#[226,148,152]⟩;have W5:=qH<|WR _ wr x (y+hh-1) (sideT ⟨#[226,148,148]⟩ ⟨#[226,148,152]⟩ n) HC HV HPK (by rw[hz2];show 3+3*n+3≤_;omega) (by omega) (by omega);have HE:Hid (sideT ⟨#[226,148,148]⟩ ⟨#[226,148,152]⟩ n=⟨#[226,148,148]⟩++bt++⟨#[226,148,152]⟩):=HN2;have W6:Hid (Calls prog 67 #[.agg #[Pq K,Iq f,Iq g,Iq bd,Iq cx,Iq cy,Iq ca,Iq cb],Iq x,Iq (y+hh-1),.string (⟨#[226,148,148]⟩++bt++⟨#[226,148,152]⟩)] wr fun e u'=>e=.returned (.tuple #[])∧Hid (Cv 34 u' M W H (wrL W H f g bd cx cy ca cb x (y+hh-1) (sideT ⟨#[226,148,148]⟩ ⟨#[226,148,152]⟩ n).data.toList (bdK W H f g bd cx cy ca cb x (x+w-1) y c1 k)))∧Hid (Chm M W3 u')):=by rw[<-HE.out];exact W5
   clear W5 hz2;go_wp2_with fail;refine W6.mono ?_;rintro e u5 ⟨rfl,HV5,HC5⟩;go_wp2;go_end0;exact⟨rfl,by rw[HC1E.out];exact HV5,(Chm.below HB3).trans HC5⟩
end
end
end Go.Proofs.YtmbefonnkkhfgaaGreatDoor
