import Derived.Test.YtadhgppeafpdgaaGreatDoorQ29
import Derived.Test.YtadhgppeafpdgaaGreatDoorQ31
set_option linter.all false
set_option maxRecDepth 100000
set_option maxHeartbeats 16000000
namespace Go.Proofs.YtadhgppeafpdgaaGreatDoor
open Go.RowKit Go.Sort Go.Proofs.Tryz
def pC(l r:ByteArray)(n:Nat):ByteArray:=l++⟨(Lib.repeatL [226,148,128] n).toArray⟩++r
theorem vf  l  :∀n,(Lib.repeatL l n).length=l.length*n
 |0=>rfl
 |n+1=>by show(l++Lib.repeatL l n).length=_;rw[aI,vf l n,Nat.mul_succ];omega
theorem vq  l r   n  :(pC l r n).size=l.size+3*n+r.size:=by unfold pC;rw[Ec,Ec];show l.size+(Lib.repeatL [226,148,128] n).toArray.size+r.size=_;grind[vf]
section
variable(W H:Nat) (f g bd cx cy ca cb:Int)
def bdK(x rt y:Int)(c:Nat->Nat->Ce):Nat->Nat->Nat->Ce
 |0=>c
 |k+1=>wrL W H f g bd cx cy ca cb rt (y+1+k) [226,148,130] (wrL W H f g bd cx cy ca cb x (y+1+k) [226,148,130] (bdK x rt y c k))
def ZR(x y w hh:Int)(c:Nat->Nat->Ce):Nat->Nat->Ce:=
 wrL W H f g bd cx cy ca cb x (y+hh-1) (pC ⟨#[226,148,148]⟩ ⟨#[226,148,152]⟩ (w-2).toNat).data.toList (bdK W H f g bd cx cy ca cb x (x+w-1) y (wrL W H f g bd cx cy ca cb x y (pC ⟨#[226,148,140]⟩ ⟨#[226,148,144]⟩ (w-2).toNat).data.toList c) (hh-2).toNat)
theorem bdK_keep{P:(Nat->Nat->Ce)->Prop}  x rt y   c  (hs:∀x y s c,P c->P (wrL W H f g bd cx cy ca cb x y s c)) (h:P c):∀k,P (bdK W H f g bd cx cy ca cb x rt y c k)
 |0=>h
 |k+1=>hs _ _ _ _ (hs _ _ _ _ (bdK_keep x rt y c hs h k))
theorem Np{P:(Nat->Nat->Ce)->Prop}  x y w hh   c  (hs:∀x y s c,P c->P (wrL W H f g bd cx cy ca cb x y s c)) (h:P c):P (ZR W H f g bd cx cy ca cb x y w hh c):=
 hs _ _ _ _ (bdK_keep W H f g bd cx cy ca cb _ _ _ _ hs (hs _ _ _ _ h) _)
end
section
variable{K M cap W H:Nat} {c:Nat->Nat->Ce}
theorem sy(U0 w0:World)(h:CS 84 47 w0 K M cap W H c)(hW:1<=W/\W<=400)(hH:1<=H/\H<=400)(hp:PAll W H c)(ht:aL U0)(hU:Bt U0 w0)(hM:U0.heap.size<=M)(f g bd cx cy ca cb:Int)(x y w hh:Int)
 (hx:-100000000000<=x/\x<=100000000000) (hy:-100000000000<=y/\y<=100000000000) (hw:2<=w/\w<=100000) (RT:2<=hh/\hh<=100000) (Wm:-1000000000000<=cy/\cy<=1000000000000) (BR:-1000000000000<=cb/\cb<=1000000000000):
 Cw 73 #[LV K f g bd cx cy ca cb,rv x y w hh] w0 fun e w'=>e=Rw (.tuple #[])/\Cv 47 w' M W H (ZR W H f g bd cx cy ca cb x y w hh c)/\bK M w0 w':=by
 have kU:prog.follows .mixedOrders=true:=by kernel_rfl
 have vQ:=h.cv.lt;obtain⟨A,hA⟩:=af w0.heap.size;obtain⟨W3,ld⟩:=af ((w0.alloc (.cells #[Pq K,Iq f,Iq g,Iq bd,Iq cx,Iq cy,Iq ca,Iq cb] 117)).alloc (.cells #[Iq x,Iq y,Iq w,Iq hh] 100));have fm:Hid (Bt w0 W3):=by rw[<-ld];exact(((Gr.refl w0).alloc _).alloc _).below
 have xF:W3.heap[A]?=some (.cells #[Pq K,Iq f,Iq g,Iq bd,Iq cx,Iq cy,Iq ca,Iq cb] 117 (0,0)):=by rw[<-ld,<-hA,cG _ _ _ (by simp_all)];exact heap_alloc_new _ _
 have Hx:W3.heap[A+1]?=some (.cells #[Iq x,Iq y,Iq w,Iq hh] 100 (0,0)):=by rw[<-ld,<-hA,<-World.size_alloc];exact heap_alloc_new _ _
 have VO:=qH<|(az.1 Hx).1;have Rv:Hid (M<A):=by rw[<-hA];exact vQ
 have HS:Hid (∀u,bK M W3 u->u.cell? (aq A 0)=some (Pq K)/\u.cell? (aq A 1)=some (Iq f)/\u.cell? (aq A 2)=some (Iq g)/\u.cell? (aq A 3)=some (Iq bd)/\u.cell? (aq A 4)=some (Iq cx)/\u.cell? (aq A 5)=some (Iq cy)/\u.cell? (aq A 6)=some (Iq ca)/\u.cell? (aq A 7)=some (Iq cb)/\u.cell? (aq (A+1) 0)=some (Iq x)/\u.cell? (aq (A+1) 1)=some (Iq y)/\u.cell? (aq (A+1) 2)=some (Iq w)/\u.cell? (aq (A+1) 3)=some (Iq hh)):=fun u hu=>by
  have e1:=(hu.block A (by grind) (by omega)).trans xF;have e3:=(hu.block (A+1) VO (by omega)).trans Hx;refine⟨?_,?_,?_,?_,?_,?_,?_,?_,?_,?_,?_,?_⟩;all_goals first
   |(rw[Lib.cell_of_heap e1];rfl)
   |(rw[Lib.cell_of_heap e3];rfl)
 obtain⟨z0,z1,z2,z3,z4,z5,z6,z7,r0,r1,r2,r3⟩:=HS W3 (bK.refl _ _);have Om:=hU.trans (fm.mono hU.size);have Xv:Hid (∀u,bK M W3 u->aL u):=fun u hu=>ht.below (hu.low hM Om.size Om);have WR:Hid (∀c1 u (x1 y1:Int) (s:ByteArray),bK M W3 u->Cv 47 u M W H c1->PAll W H c1->s.size<=1000000->-900000000000<=x1->x1<=900000000000->Cw 133 #[.agg #[Pq K,Iq f,Iq g,Iq bd,Iq cx,Iq cy,Iq ca,Iq cb],Iq x1,Iq y1,.string s] u fun e u'=>e=Rw (.tuple #[])/\Hid (Cv 47 u' M W H (wrL W H f g bd cx cy ca cb x1 y1 s.data.toList c1))/\Hid (bK M W3 u')):=fun c1 u x1 y1 s hu hv vS hs1 uA ky=>by have _f:=(hu.block K (zz007 h.klt fm.size) h.ne).trans (fm.block K h.klt);refine(ye u ⟨_f.trans h.kb,hv,h.ne,h.hc⟩ hW hH vS (Xv u hu) x1 y1 f g bd cx cy ca cb s (by omega) (by omega) Wm BR).mono ?_;rintro e u' ⟨rfl,q1,q2⟩;exact⟨rfl,q1,hu.trans q2⟩
 have HK:Hid (∀x y s c,PAll W H c->PAll W H (wrL W H f g bd cx cy ca cb x y s c)):=fun x y s c hc=>hc.wrL hW hH _ _ _ _ _ _ _ _ _ _;obtain⟨n,hn⟩:=af (w-2).toNat;have hnI:(n:Int)=w-2:=by omega
 obtain⟨bt,Ts⟩:∃z:ByteArray,⟨(Lib.repeatL [226,148,128] n).toArray⟩=z:=⟨_,rfl⟩;have RE:Hid (∀u,Cw 132 #[.string ⟨#[226,148,128]⟩,Iq (w-2)] u fun e u'=>e=Rw (.string bt)/\Bt u u'):=fun u=>by rw[<-hnI,<-Ts];exact vg ⟨#[226,148,128]⟩ n u (by omega) (by show 3*n<=_;omega)
 have hbs:bt.size=3*n:=by rw[<-Ts];show(Lib.repeatL [226,148,128] n).toArray.size=_;rw[kQ,vf];rfl
 have HST:Hid (∀l r:ByteArray,pC l r n=l++bt++r):=fun l r=>by rw[<-Ts];rfl
 have HCV:=qH<|h.cv.keep (fm.block M vQ);have HP:=qH hp;have e1:IntKind.i64.wrap (x+w)=x+w:=IntWalk.i64_in _ (by omega);have e2:IntKind.i64.wrap (x+w-1)=x+w-1:=IntWalk.i64_in _ (by omega);have e3:IntKind.i64.wrap (y+hh)=y+hh:=IntWalk.i64_in _ (by omega);have e4:IntKind.i64.wrap (y+hh-1)=y+hh-1:=IntWalk.i64_in _ (by omega);have e5:IntKind.i64.wrap (w-2)=w-2:=IntWalk.i64_in _ (by omega);have e6:IntKind.i64.wrap (y+1)=y+1:=IntWalk.i64_in _ (by omega);unfold ZR;rw[hn];obtain⟨m,hm⟩:=af (hh-2).toNat;have hmI:(m:Int)=hh-2:=by omega
 rw[hm];clear h hp ht hU Om xF Hx hn Ts;unfold LV rv;go_enter func73,ntmps73;go_wp2_with fail;clear ld hA;go_quiet(fail);go_wp2_with fail;refine(RE _).mono ?_;rintro e u1 ⟨rfl,b1⟩;have HG1:=qH<|Below.trans ((Gr.refl W3).drewN _).below b1;have ii:Hid (bK M W3 u1):=bK.below HG1;have VM:=qH<|HCV.keep (HG1.block M (by have:=Rv.out;have:=VO.out;omega));obtain⟨y0,y1,y2,y3,y4,y5,y6,y7,q0,q1,q2,q3⟩:=HS u1 ii;have HN1:=qH<|HST ⟨#[226,148,140]⟩ ⟨#[226,148,144]⟩;have fy:=vq ⟨#[226,148,140]⟩ ⟨#[226,148,144]⟩ n;have W1:=qH<|WR c u1 x y (pC ⟨#[226,148,140]⟩ ⟨#[226,148,144]⟩ n) ii VM HP (by rw[fy];show 3+3*n+3<=_;omega) (by omega) (by omega);obtain⟨c1,hc1⟩:=af (wrL W H f g bd cx cy ca cb x y (pC ⟨#[226,148,140]⟩ ⟨#[226,148,144]⟩ n).data.toList c);have tn:Hid (PAll W H c1):=by rw[<-hc1];exact HK _ _ _ _ HP
 rw[hc1,HN1.out]at W1;have zes:=qH<|hc1;have k1:¬9223372036854775807<3+bt.size:=by omega
 have k2:¬9223372036854775807<3+bt.size+3:=by omega
 clear RE b1 z0 z1 z2 z3 z4 z5 z6 z7 r0 r1 r2 r3 hc1 fy;go_wp2_with fail;refine W1.mono ?_;rintro e u2 ⟨rfl,Mw,HC2⟩;obtain⟨x0,x1,x2,x3,x4,x5,x6,x7,p0,p1,p2,p3⟩:=HS u2 HC2;clear W1 y0 y1 y2 y3 y4 y5 y6 y7 q0 q1 q2 q3;go_wp2;go_loopw[7] (fun yv wr=>∃k:Nat,k<=m/\yv=Iq (y+1+k)/\Hid (Cv 47 wr M W H (bdK W H f g bd cx cy ca cb x (x+w-1) y c1 k))/\Hid (bK M W3 wr)) (fun yv _=>(y+hh-intOf yv).toNat);case atStart=>exact⟨0,bm _,by grind,Mw,HC2⟩
 case round=>
  obtain⟨k,hk,rfl,HV,HC⟩:=hrel;have VI:=qH<|bdK_keep W H f g bd cx cy ca cb (P:=PAll W H) x (x+w-1) y c1 HK tn k;obtain⟨d0,d1,d2,d3,d4,d5,d6,d7,i0,i1,i2,i3⟩:=HS wr HC;clear x0 x1 x2 x3 x4 x5 x6 x7 p0 p1 p2 p3;by_cases hlt:k<m
  ·have aR:y+1+(k:Int)<y+hh-1:=by omega
   have W2:=qH<|WR _ wr x (y+1+k) ⟨#[226,148,130]⟩ HC HV VI (by decide) (by omega) (by omega);have HV':=HV;clear HV';go_wp2_with fail;refine W2.mono ?_;rintro e u3 ⟨rfl,GH,HC3⟩;obtain⟨j0,j1,j2,j3,j4,j5,j6,j7,l0,l1,l2,l3⟩:=HS u3 HC3;have W4:=qH<|WR _ u3 (x+w-1) (y+1+k) ⟨#[226,148,130]⟩ HC3 GH (HK _ _ _ _ VI) (by decide) (by omega) (by omega);have e7:IntKind.i64.wrap (y+1+(k:Int)+1)=y+1+k+1:=IntWalk.i64_in _ (by omega);clear W2 d0 d1 d2 d3 d4 d5 d6 d7 i0 i1 i2 i3;go_wp2_with fail;refine W4.mono ?_;rintro e u4 ⟨rfl,VN,Ah⟩;clear W4;go_wp2;go_roundw;case rel=>exact⟨k+1,hlt,by grind,VN,Ah⟩
   case measure=>simp[intOf];omega
  ·have aR:¬y+1+(k:Int)<y+hh-1:=by omega
   obtain rfl:k=m:=by omega
   have fB:=vq ⟨#[226,148,148]⟩ ⟨#[226,148,152]⟩ n;have HN2:=qH<|HST ⟨#[226,148,148]⟩ ⟨#[226,148,152]⟩;have W5:=qH<|WR _ wr x (y+hh-1) (pC ⟨#[226,148,148]⟩ ⟨#[226,148,152]⟩ n) HC HV VI (by rw[fB];show 3+3*n+3<=_;omega) (by omega) (by omega);have HE:=HN2;have W6:Hid (Cw 133 #[.agg #[Pq K,Iq f,Iq g,Iq bd,Iq cx,Iq cy,Iq ca,Iq cb],Iq x,Iq (y+hh-1),.string (⟨#[226,148,148]⟩++bt++⟨#[226,148,152]⟩)] wr fun e u'=>e=Rw (.tuple #[])/\Hid (Cv 47 u' M W H (wrL W H f g bd cx cy ca cb x (y+hh-1) (pC ⟨#[226,148,148]⟩ ⟨#[226,148,152]⟩ n).data.toList (bdK W H f g bd cx cy ca cb x (x+w-1) y c1 k)))/\Hid (bK M W3 u')):=by rw[<-HE.out];exact W5
   clear W5 fB;go_wp2_with fail;refine W6.mono ?_;rintro e u5 ⟨rfl,HV5,AJ⟩;go_wp2;go_end0;exact⟨rfl,by rw[zes.out];exact HV5,(bK.below fm).trans AJ⟩
end
