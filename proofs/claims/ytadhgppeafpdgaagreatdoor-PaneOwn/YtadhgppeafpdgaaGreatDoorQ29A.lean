import Derived.Test.YtadhgppeafpdgaaGreatDoorQ27
import Derived.Test.YtadhgppeafpdgaaGreatDoorQ28
import Derived.Test.YtadhgppeafpdgaaGreatDoorQ10
import Derived.Test.YtadhgppeafpdgaaGreatDoorQ14
set_option linter.all false
set_option maxRecDepth 100000
set_option maxHeartbeats 16000000
namespace Go.Proofs.YtadhgppeafpdgaaGreatDoor
open Go.RowKit Go.Sort Go.Proofs.Tryz
def oD(p:Int):Int:=if p=0 then 1 else if p=1 then 2 else 0
theorem mZ(p:Int)(w:World):Calls Tryz.prog 123 #[.int .i64 p] w fun e w'=>e=Rw (.int .i64 (oD p))/\w'=w:=by
 go_enter Tryz.func123,Tryz.ntmps123;by_cases h0:p=0;·subst h0;go_wp2;go_ret;exact⟨rfl,rfl⟩
 ·have e0:(p==0)=false:=by simpa using h0
  by_cases h1:p=1;·subst h1;go_wp2;go_ret;exact⟨rfl,rfl⟩
  ·have e1:(p==1)=false:=by simpa using h1
   go_wp2;go_ret;exact⟨by unfold oD;rw[if_neg h0,if_neg h1];rfl,rfl⟩
theorem J5(n:Int)(w:World):Calls Tryz.prog 65 #[.int .i64 n] w fun e w'=>e=Rw (.bool (decide (1<=n/\n<=400)))/\w'=w:=by
 go_enter Tryz.func65,Tryz.ntmps65;by_cases h1:1<=n
 ·by_cases h2:n<=400;·rw[decide_eq_true ⟨h1,h2⟩];go_wp2;go_ret;exact⟨rfl,rfl⟩
  ·rw[decide_eq_false (fun q=>h2 q.2)];go_wp2;go_ret;exact⟨rfl,rfl⟩
 ·rw[decide_eq_false (fun q=>h1 q.1)];go_wp2;go_ret;exact⟨rfl,rfl⟩
theorem zaY{W:World}{B n size:Nat}{e:TypeId}{v:Value}{xs:List Value}(h:W.ownsRow B e size v n xs):∃p c,v=.slice p n c:=by
 rcases h.2 with⟨rfl,rfl⟩|⟨g,cap,cM,rfl,_⟩;·exact⟨_,_,rfl⟩
 ·exact⟨_,_,rfl⟩
theorem zb{a b:ByteArray}(h:¬a=b):(a.toList==b.toList)=false:=by rw[beq_eq_false_iff_ne];intro e;rw[ByteArray.toList_eq,ByteArray.toList_eq]at e;exact h (ju (Array.toList_inj.1 e))
def K0(ct:List UInt8)(t:ByteArray):Prop:=¬(⟨ct.toArray⟩:ByteArray)=t
def MP(w w':World)(r:Ending)(P:Prop):Prop:=∃b:Bool,r=Rw (.bool b)/\(b=true↔P)/\Bt w w'
theorem Cc(e:Ce)(n:Int)(w:World)(ht:aL w)(hs:e.t.size<=1099511627776):
 Calls Tryz.prog 124 #[NG e,.int .i64 n] w fun r w'=>MP w w' r (n≠0/\AQ e/\GL e n):=by
 have kU:Tryz.prog.follows .mixedOrders=true:=by kernel_rfl
 have HT:Hid (aL w):=ht;obtain⟨t,f,g,b,p⟩:=e;have OV:Hid (∀w,Calls Tryz.prog 71 #[sv 0 0 0,sv f g b] w fun e w'=>e=Rw (sv (kn f) (kn g) (bo b))/\Gr w w'):=fun w=>by have:=oZ 0 0 0 f g b w;rw[td,td,C7]at this;exact this
 clear ht;unfold NG;unfold sv at OV;go_enter Tryz.func124,Tryz.ntmps124;go_wp2_with fail;obtain⟨S,hS⟩:∃z,w.heap.size=z:=⟨_,rfl⟩;obtain⟨W0,bc⟩:∃z,w.alloc (.cells #[.string t,.int .i64 f,.int .i64 g,.int .i64 b,.int .i64 p] 47)=z:=⟨_,rfl⟩;have G0:Hid (Gr w W0):=by rw[<-bc];exact(Gr.refl w).alloc _
 have R0:Hid (R5 47 W0 S ⟨t,f,g,b,p⟩):=by rw[<-bc,<-hS];exact R5.new w ⟨t,f,g,b,p⟩ _
 rw[bc,hS];have HS:Hid (w.heap.size=S):=hS;clear bc hS;have q0:=cell_grown R0.out.lt R0.out.c0;have q1:=cell_grown R0.out.lt R0.out.c1;have q2:=cell_grown R0.out.lt R0.out.c2;have q3:=cell_grown R0.out.lt R0.out.c3;by_cases h0:n=0;·subst h0;go_quiet_grown(first|(go_at_call 71;exact Calls.grown_of (OV.out _)));go_wp2;go_ret;exact⟨false,rfl,by simp,(G0.out.trans ⟨nq,osq,rfl⟩).below⟩
 ·have e0:(n==0)=false:=by simpa using h0
  obtain⟨f2,hf2⟩:∃z,kn f=z:=⟨_,rfl⟩;obtain⟨g2,lz⟩:∃z,kn g=z:=⟨_,rfl⟩;obtain⟨b2,dE⟩:∃z,bo b=z:=⟨_,rfl⟩;rw[hf2,lz,dE]at OV;by_cases h1:f2=f
  ·by_cases h2:g2=g
   ·by_cases h3:b2=b
    ·subst h1 h2 h3;have HST:Hid (AQ ⟨t,f2,g2,b2,p⟩):=⟨hf2,lz,dE⟩;go_quiet_grown(first|(go_at_call 71;exact Calls.grown_of (OV.out _)));have G1:Hid (Gr w (grow (W0.drewN nq) osq)):=G0.out.trans ⟨nq,osq,rfl⟩;have R1:Hid (R5 47 (grow (W0.drewN nq) osq) S ⟨t,f2,g2,b2,p⟩):=R0.out.gr ⟨nq,osq,rfl⟩;obtain⟨W1,bZ⟩:∃z,grow (W0.drewN nq) osq=z:=⟨_,rfl⟩;rw[bZ]at G1 R1;rw[bZ];have c0:=R1.out.c0;have CG:Hid (Calls Tryz.prog 167 #[.string t] W1 fun e w'=>∃v,e=Rw v/\w'.ownsRow W1.heap.size 57 2 v (bi (ap t.data.toList)).length (dN (bi (ap t.data.toList)))/\Bt W1 w'):=e_ t W1 (HT.out.below G1.out.below) hs;obtain⟨K,hK⟩:∃K,bi (ap t.data.toList)=K:=⟨_,rfl⟩;have Mv:Hid (GL ⟨t,f2,g2,b2,p⟩ n↔K=[(t.data.toList,n)]):=by show _↔_;unfold GL;rw[hK]
     rw[hK]at CG;clear q0 q1 q2 q3 bZ hK hf2 lz dE OV;go_wp2_with fail;refine CG.out.mono ?_;rintro e w2 ⟨v,rfl,hv,Nl⟩;have Rt:Hid (Bt w w2):=G1.out.below.trans (Nl.mono G1.out.below.size);have R2:Hid (R5 47 w2 S ⟨t,f2,g2,b2,p⟩):=(Nl.block _ R1.out.lt).trans R1.out;have z0:=cell_grown R2.out.lt R2.out.c0;clear Nl CG c0;obtain⟨m,hm⟩:∃m,K.length=m:=⟨_,rfl⟩;by_cases h1m:m=1
     ·have hK1:∃ct cw,K=[(ct,cw)]:=by
       rcases K with _|⟨⟨ct,cw⟩,_|⟨c2,K⟩⟩;·simp at hm;omega
       ·exact⟨ct,cw,rfl⟩
       ·simp at hm;omega
      obtain⟨ct,cw,rfl⟩:=hK1;clear hm h1m;obtain⟨g1,c1,rfl,_⟩:∃g1 c1,v=.slice (some (aq g1 0)) 1 c1/\True:=by
       rcases hv.2 with⟨_,h⟩|⟨g1,c1,cM,e,_⟩;·cases h
       ·exact⟨g1,c1,e,trivial⟩
      have y0:w2.cell? (aq g1 0)=some (.string ⟨ct.toArray⟩):=hv.cellAt 0 (by decide);have y1:w2.cell? (aq g1 1)=some (.int .i64 cw):=hv.cellAt 1 (by decide);have gl:=(hv.lt g1 rfl).2;clear hv;by_cases Wl:(⟨ct.toArray⟩:ByteArray)=t
      ·have HCE:Hid (ct=t.data.toList):=by show _=_;rw[<-Wl]
       rw[Wl]at y0;have y0:=cell_grown gl y0;have y1:=cell_grown gl y1;clear Wl;by_cases Ym:cw=n;·subst Ym;go_wp2_with fail;go_quiet_grown(fail);go_wp2;go_ret;exact⟨true,rfl,⟨fun _=>⟨h0,HST.out,Mv.out.2 (by rw[HCE.out])⟩,fun _=>rfl⟩,(Rt.out.trans ((Gr.below ⟨nq,osq,rfl⟩).mono Rt.out.size))⟩
       ·have e5:(cw==n)=false:=by simpa using Ym
        go_wp2_with fail;go_quiet_grown(fail);go_wp2;go_ret;exact⟨false,rfl,⟨fun h=>(nomatch h),fun h=>by have:=Mv.out.1 h.2.2;injection this with this;injection this with _ this;exact absurd this Ym⟩,(Rt.out.trans ((Gr.below ⟨nq,osq,rfl⟩).mono Rt.out.size))⟩
      ·have HCT:Hid (K0 ct t):=Wl;obtain⟨cb,BR⟩:∃z,(⟨ct.toArray⟩:ByteArray)=z:=⟨_,rfl⟩;rw[BR]at Wl y0;have e5:(cb.toList==t.toList)=false:=zb Wl;have y0:=cell_grown gl y0;have y1:=cell_grown gl y1;clear BR;go_wp2_with fail;go_quiet_grown(fail);go_wp2;go_ret;exact⟨false,rfl,⟨fun h=>(nomatch h),fun h=>by have:=Mv.out.1 h.2.2;injection this with this;injection this with this _;exact absurd (by rw[this]) HCT.out⟩,(Rt.out.trans ((Gr.below ⟨nq,osq,rfl⟩).mono Rt.out.size))⟩
     ·obtain⟨p1,c1,rfl⟩:∃p c,v=.slice p m c:=by rw[<-hm];exact zaY hv
      have HNK:Hid (∀x,K≠[x]):=fun x hx=>h1m (by rw[<-hm,hx];rfl);have e5:((m:Int)==1)=false:=by simp;omega
      clear hv hm;clear z0;go_wp2_with fail;go_quiet(fail);go_wp2;go_ret;exact⟨false,rfl,⟨fun h=>(nomatch h),fun h=>absurd (Mv.out.1 h.2.2) (HNK.out _)⟩,Rt.out.trans ((Gr.below ((Gr.refl _).drewN _)).mono Rt.out.size)⟩
    ·have e3:(b2==b)=false:=by simpa using h3
     subst h1 h2;go_quiet_grown(first|(go_at_call 71;exact Calls.grown_of (OV.out _)));go_wp2;go_ret;exact⟨false,rfl,⟨fun h=>(nomatch h),fun h=>by exfalso;first|exact h3 (dE.symm.trans h.2.1.2.2)|exact h3 (dE.symm.trans h.1.2.2)⟩,(G0.out.trans ⟨nq,osq,rfl⟩).below⟩
   ·have e3:(g2==g)=false:=by simpa using h2
    subst h1;go_quiet_grown(first|(go_at_call 71;exact Calls.grown_of (OV.out _)));go_wp2;go_ret;exact⟨false,rfl,⟨fun h=>(nomatch h),fun h=>by exfalso;first|exact h2 (lz.symm.trans h.2.1.2.1)|exact h2 (lz.symm.trans h.1.2.1)⟩,(G0.out.trans ⟨nq,osq,rfl⟩).below⟩
  ·have e3:(f2==f)=false:=by simpa using h1
   go_quiet_grown(first|(go_at_call 71;exact Calls.grown_of (OV.out _)));go_wp2;go_ret;exact⟨false,rfl,⟨fun h=>(nomatch h),fun h=>by exfalso;first|exact h1 (hf2.symm.trans h.2.1.1)|exact h1 (hf2.symm.trans h.1.1)⟩,(G0.out.trans ⟨nq,osq,rfl⟩).below⟩
def Ag(w:World)(v:Value)(l:List (List UInt8×Int)):Prop:=
 ∃a cap,v=.slice a l.length cap/\(l=[]\/∃b off,a=some (aq b off)/\b<w.heap.size/\∀j (hj:j<l.length),w.cell? (aq b (off+j*2))=some (.string ⟨(l[j]).1.toArray⟩)/\w.cell? (aq b (off+j*2+1))=some (Iq (l[j]).2))
theorem Ag.below{w w'}{v}{l}(h:Ag w v l)(hb:Bt w w'):Ag w' v l:=by
 obtain⟨a,cap,rfl,hh⟩:=h;refine⟨a,cap,rfl,?_⟩;rcases hh with rfl|⟨b,off,rfl,hl,hc⟩;·grind
 ·exact .inr ⟨b,off,rfl,zz007 hl hb.size,fun j hj=>⟨(hb.cell (p:=(aq b (off+j*2))) hl).trans (hc j hj).1,(hb.cell (p:=(aq b (off+j*2+1))) hl).trans (hc j hj).2⟩⟩
theorem mY  l  :(dN l).length=l.length*2:=by
 induction l with
 |nil=>rfl
 |cons c l ih=>grind[dN]
theorem JN  l   j  (hj:j<l.length):(dN l)[j*2]?=some (.string ⟨(l[j]).1.toArray⟩)/\(dN l)[j*2+1]?=some (Iq (l[j]).2):=by
 induction l generalizing j with
 |nil=>grind
 |cons c l ih=>have e:dN (c::l)=.string ⟨c.1.toArray⟩::Iq c.2::dN l:=rfl;grind
theorem yX{w}{B n}{e}{v}{l}(h:w.ownsRow B e 2 v n (dN l)):Ag w v l:=by
 have hl:l.length=n:=by have:=h.1;rw[mY]at this;omega
 rcases h.2 with⟨rfl,rfl⟩|⟨g,cap,cM,rfl,_,hg,_⟩;·have hz:=jy.1 hl;subst hz;exact⟨none,0,rfl,.inl rfl⟩
 ·refine⟨some (aq g 0),cap,by rw[hl],.inr ⟨g,0,rfl,(az.1 hg).1,fun j hj=>?_⟩⟩;have c:=JN l j hj;have a0:=h.cells (g:=g) rfl (j*2) _ c.1;have a1:=h.cells (g:=g) rfl (j*2+1) _ c.2;have e0:((aq g 0):Addr).add (j*2)=(aq g (0+j*2)):=by unfold Addr.add;split<;>simp_all
  have e1:((aq g 0):Addr).add (j*2+1)=(aq g (0+j*2+1)):=by unfold Addr.add;split<;>simp_all
  grind
def LV(K:Nat)(f g bd cx cy ca cb:Int):Value:=.agg #[Pq K,Iq f,Iq g,Iq bd,Iq cx,Iq cy,Iq ca,Iq cb]
section
variable(W H:Nat) (f g bd cx cy ca cb:Int)
def wrF(y:Int):List (List UInt8×Int)->Int->(Nat->Nat->Ce)->Nat->Nat->Ce
 |[],_,c=>c
 |q::r,x,c=>wrF y r (x+q.2) (iY W H c x y ⟨q.1.toArray⟩ q.2 f g bd cx cy ca cb)
def wrL(x y:Int)(s:List UInt8)(c:Nat->Nat->Ce):Nat->Nat->Ce:=if y<cy\/cy+cb<=y then c else wrF W H f g bd cx cy ca cb y (bi (ap s)) x c
theorem DY  y  :∀  l   q   x   c,wrF W H f g bd cx cy ca cb y (l++[q]) x c=iY W H (wrF W H f g bd cx cy ca cb y l x c) (x+aj l) y ⟨q.1.toArray⟩ q.2 f g bd cx cy ca cb
 |[],q,x,c=>by show iY W H c x y _ _ _ _ _ _ _ _ _=iY W H c (x+0) y _ _ _ _ _ _ _ _ _;grind
 |p::l,q,x,c=>by show wrF W H f g bd cx cy ca cb y (l++[q]) (x+p.2) _=_;rw[DY y l q];grind[iY,wrF,aj]
theorem wrF_next  y  (l:List (List UInt8×Int))  k  (hk:k<l.length)  x   c  :wrF W H f g bd cx cy ca cb y (l.take (k+1)) x c=iY W H (wrF W H f g bd cx cy ca cb y (l.take k) x c) (x+aj (l.take k)) y ⟨l[k].1.toArray⟩ l[k].2 f g bd cx cy ca cb:=by rw[ip hk,DY]
theorem pG{P:(Nat->Nat->Ce)->Prop}  y  :∀  l   x   c,(∀q∈l,∀x c,P c->P (iY W H c x y ⟨q.1.toArray⟩ q.2 f g bd cx cy ca cb))->P c->P (wrF W H f g bd cx cy ca cb y l x c)
 |[],_,_,_,h=>h
 |q::r,x,c,hs,h=>pG y r _ _ (fun p hp=>hs p (yf _ hp)) (hs q nj x c h)
end
theorem PAll.wrF{W H:Nat}(hW:1<=W/\W<=400)(hH:1<=H/\H<=400)(f g bd cx cy ca cb y:Int)(l:List (List UInt8×Int))(x:Int){c:Nat->Nat->Ce}(h:PAll W H c):PAll W H (wrF W H f g bd cx cy ca cb y l x c):=
 pG W H f g bd cx cy ca cb (P:=PAll W H) y l x c (fun q _ x c hc=>hc.putX hW hH _ _ _ _ _ _ _ _ _ _ _) h
theorem PAll.wrL{W H:Nat}(hW:1<=W/\W<=400)(hH:1<=H/\H<=400)(f g bd cx cy ca cb x y:Int)(s:List UInt8){c:Nat->Nat->Ce}(h:PAll W H c):PAll W H (wrL W H f g bd cx cy ca cb x y s c):=by unfold Go.Proofs.YtadhgppeafpdgaaGreatDoor.wrL;grind[PAll.wrF]
section
variable{K M cap W H:Nat} {c:Nat->Nat->Ce}
theorem ye(w:World)(h:CS 84 47 w K M cap W H c)(hW:1<=W/\W<=400)(hH:1<=H/\H<=400)(hp:PAll W H c)(ht:aL w)(x y f g bd cx cy ca cb:Int)(s:ByteArray)(hs:s.size<=1099511627776)(hx:-1000000000000<=x/\x<=1000000000000)(Wm:-1000000000000<=cy/\cy<=1000000000000)(BR:-1000000000000<=cb/\cb<=1000000000000):
 Cw 133 #[LV K f g bd cx cy ca cb,Iq x,Iq y,.string s] w fun e w'=>e=Rw (.tuple #[])/\Cv 47 w' M W H (wrL W H f g bd cx cy ca cb x y s.data.toList c)/\bK M w w':=by
 have pR:s.data.toList.length=s.size:=by rw[gc];rfl
 have hR:=bp s.data.toList;have hC:=cu (ap s.data.toList);rw[pR]at hR;have hbd:=gB (ap s.data.toList);have vQ:=h.cv.lt;obtain⟨A,hA⟩:=af w.heap.size;obtain⟨W1,bZ⟩:=af (w.alloc (.cells #[Pq K,Iq f,Iq g,Iq bd,Iq cx,Iq cy,Iq ca,Iq cb] 117));have HB1:Hid (Bt w W1):=by rw[<-bZ];exact((Gr.refl w).alloc _).below
 have dm:W1.heap[A]?=some (.cells #[Pq K,Iq f,Iq g,Iq bd,Iq cx,Iq cy,Iq ca,Iq cb] 117 (0,0)):=by rw[<-bZ,<-hA];exact heap_alloc_new _ _
 have dj:Hid (∀u:World,u.heap[A]?=W1.heap[A]?->u.cell? (aq A 0)=some (Pq K)/\u.cell? (aq A 1)=some (Iq f)/\u.cell? (aq A 2)=some (Iq g)/\u.cell? (aq A 3)=some (Iq bd)/\u.cell? (aq A 4)=some (Iq cx)/\u.cell? (aq A 5)=some (Iq cy)/\u.cell? (aq A 6)=some (Iq ca)/\u.cell? (aq A 7)=some (Iq cb)):=fun u hu=>by refine⟨?_,?_,?_,?_,?_,?_,?_,?_⟩<;>(rw[Lib.cell_of_heap (hu.trans dm)];rfl)
 have Mk:=qH<|(az.1 dm).1;obtain⟨z0,z1,z2,z3,z4,z5,z6,z7⟩:=dj W1 rfl;have HCS:=qH h;have HP:=qH hp;have GC:Hid (Cw 167 #[.string s] W1 fun e w'=>∃v,e=Rw v/\Hid (Ag w' v (bi (ap s.data.toList)))/\Hid (∀q,v.ownBlock=some q->W1.heap.size<=q)/\Bt W1 w'):=by refine(e_ s W1 (ht.below HB1) hs).mono ?_;rintro e w1 ⟨v,rfl,o,b⟩;exact⟨v,rfl,yX o,fun q hq=>(o.lt q hq).1,b⟩
 unfold wrL;obtain⟨l,hl⟩:=af (bi (ap s.data.toList));rw[hl]at GC hC hbd⊢;have kZ:=qH hbd;have _B:IntKind.i64.wrap (cy+cb)=cy+cb:=IntWalk.i64_in _ (by omega);clear hl pR ht hbd h hp dm;unfold LV;go_enter func133,ntmps133;by_cases h1:y<cy;·rw[if_pos (.inl h1)];go_wp2;refine bodyPost_ret (results_none rfl _ _ _) rfl ?_;exact⟨rfl,HCS.cv.ch (bK.below HB1) (Nat.ne_of_lt vQ),bK.below HB1⟩
 by_cases h2:cy+cb<=y;·rw[if_pos (.inr h2)];go_wp2;refine bodyPost_ret (results_none rfl _ _ _) rfl ?_;exact⟨rfl,HCS.cv.ch (bK.below HB1) (Nat.ne_of_lt vQ),bK.below HB1⟩
 rw[if_neg (by omega)];go_wp2_with fail;refine GC.mono ?_;rintro e w2 ⟨v,rfl,⟨a,oA,rfl,hh⟩,HO,b2⟩;have HB2:=qH<|HB1.trans (b2.mono HB1.size);have _X:Hid (∀u:World,u.heap[A]?=w2.heap[A]?->u.heap[A]?=W1.heap[A]?):=fun u hu=>hu.trans (b2.block A Mk);have Xg:=qH<|zz007 Mk b2.size;have Rv:Hid (M<A):=by rw[<-hA];exact vQ
 have Jt:=qH<|zz121 Rv Mk;have HCV:=qH<|HCS.cv.keep (HB2.block M vQ);have HK:=qH<|HB2.block K HCS.klt;clear GC b2 z0 z1 z2 z3 z4 z5 z6 z7 bZ hA;go_wp2;go_loopw[1,29] (fun xv iv wr=>∃k:Nat,k<=l.length/\iv=Iq k/\xv=Iq (x+aj (l.take k))/\Hid (Cv 47 wr M W H (wrF W H f g bd cx cy ca cb y (l.take k) x c))/\Hid (bK M w2 wr)) (fun _ i _=>l.length-(intOf i).toNat);case atStart=>exact⟨0,bm _,rfl,by grind[aj],HCV,bK.refl _ _⟩
 case round=>
  obtain⟨k,hk,rfl,rfl,HV,HC⟩:=hrel;have hwb:=dp l kZ k;by_cases hlt:k<l.length
  ·have aR:(k:Int)<(l.length:Int):=by omega
   have bj:l≠[]:=fun e=>by grind
   obtain⟨b,off,rfl,hb,hc⟩:=hh.resolve_left bj;have hbM:b≠M:=by have:=HO b rfl;have:=Jt.out;omega
   have hAM:A≠M:=by have:=Rv.out;omega
   obtain⟨y0,y1,y2,y3,y4,y5,y6,y7⟩:=dj wr (_X wr (HC.block A Xg hAM));obtain⟨T,wd,Ol⟩:∃T wd,l[k]=(T,wd):=⟨_,_,rfl⟩;have OW:=kZ l[k] (rT hlt);have c0:wr.cell? (aq b (off+k*2))=some (.string ⟨T.toArray⟩):=by have:=(hc k hlt).1;rw[Ol]at this;exact(ba (a:=(aq b (off+k*2))) (HC.block b hb hbM)).trans this
   have c1:wr.cell? (aq b (off+k*2+1))=some (Iq wd):=by have:=(hc k hlt).2;rw[Ol]at this;exact(ba (a:=(aq b (off+k*2+1))) (HC.block b hb hbM)).trans this
   have HS:Hid (aj (l.take (k+1))=aj (l.take k)+wd):=by show _=_;rw[f_ l k hlt,Ol]
   have HN:=qH<|wrF_next W H f g bd cx cy ca cb y l k hlt x c;rw[Ol]at OW HN;simp only at OW HN;obtain⟨X,hX⟩:=af (aj (l.take k));rw[hX]at HS hwb HN;rw[hX];obtain⟨W3,ld⟩:=af (wr.alloc (.cells #[.string ⟨T.toArray⟩,Iq wd] 57));have Gy:Hid (Gr wr W3):=by rw[<-ld];exact(Gr.refl wr).alloc _
   have hR3:ou 57 W3 wr.heap.size ⟨T.toArray⟩ wd:=by rw[<-ld];exact ou.new _ _ _ _
   have HR3:=qH hR3;have r0:=hR3.c0;have r1:=hR3.c1;obtain⟨x0,x1,x2,x3,x4,x5,x6,x7⟩:=dj W3 (((Gy.block (zz007 Xg HC.size))).trans (_X wr (HC.block A Xg hAM)));have HPA:=qH<|PAll.wrF hW hH f g bd cx cy ca cb y (l.take k) x HP;have PT:Hid (Cw 146 #[Pq K,Iq (x+X),Iq y,.agg #[.string ⟨T.toArray⟩,Iq wd],sv f g bd,rv cx cy ca cb] W3 fun e w'=>e=Rw (.tuple #[])/\Hid (Cv 47 w' M W H (wrF W H f g bd cx cy ca cb y (l.take (k+1)) x c))/\Hid (bK M W3 w')):=by have hk:=(HC.block K (zz007 HCS.klt HB2.size) HCS.ne).trans HK;have iD:CS 84 47 wr K M cap W H (wrF W H f g bd cx cy ca cb y (l.take k) x c):=⟨hk.trans HCS.kb,HV,HCS.ne,HCS.hc⟩;rw[HN.out];exact Iv W3 (iD.gr Gy) hW hH HPA (x+X) y ⟨T.toArray⟩ wd f g bd cx cy ca cb
   have Jo:=qH<|HV.lt;unfold sv rv at PT;have hwx:IntKind.i64.wrap (x+X+wd)=x+X+wd:=IntWalk.i64_in _ (by omega);have HE:Hid (x+aj (l.take (k+1))=x+X+wd):=by show _=_;rw[HS.out];omega
   clear hc Ol hX bj hh hR3 HN HV HPA;go_wp2_with fail;clear ld;refine PT.mono ?_;rintro e w4 ⟨rfl,VN,Ah⟩;have s1:=(HR3.ch Ah (by have:=Jo.out;omega)).c1;clear PT;go_wp2;go_roundw;case rel=>exact⟨k+1,hlt,by go_num,by rw[HE.out],VN,HC.trans ((bK.gr Gy).trans Ah)⟩
   case measure=>simp[intOf];omega
  ·have aR:¬(k:Int)<(l.length:Int):=by omega
   obtain rfl:k=l.length:=by omega
   go_wp2;go_end0;refine⟨rfl,?_,(bK.below HB2).trans HC⟩;have:=HV.out;grind
end
structure Ti(s:Tm):Prop where
 x0:0<=s.r.x
 x1:s.r.x<=s.W
 y0:0<=s.r.y
 y1:s.r.y<s.H
 m0:0<=s.r.lm
 m1:s.r.lm<=4
 ts:(s.r.lt.size:Int)<=4+4*s.r.lm
def jq(s:Tm)(mk:ByteArray):Tm:=if s.r.lw=0\/s.r.lm=4 then s else sB {s with r:={s.r with lm:=s.r.lm+1,lt:=s.r.lt++mk}}
def qM(s:Tm)(r:Int):Tm:=
 if kY r=0 then jq s ⟨(enc [r]).toArray⟩
 else if s.r.x+kY r>s.W then{s with r:=clr s.r}
 else
  {sB {s with r:={clr s.r with lx:=s.r.x,ly:=s.r.y,lt:=⟨(enc [r]).toArray⟩,lw:=kY r}}with r:={clr s.r with lx:=s.r.x,ly:=s.r.y,lt:=⟨(enc [r]).toArray⟩,lw:=kY r,x:=s.r.x+kY r}}
section
variable{T K M cap:Nat} {s:Tm} {nv:Value}
theorem wV(w:World)(h:TM w T K M cap s nv)(hi:Ti s)(mk:ByteArray)(hm:mk.size<=4):Calls Tryz.prog 87 #[.pointer (some (aq T 0)),.string mk] w fun e w'=>e=Rw (.tuple #[])/\TM w' T K M cap (jq s mk) nv/\C2 T M w w':=by
 have c8:w.cell? (aq T 8)=some (.string s.r.lt):=h.at rfl;have c9:w.cell? (aq T 9)=some (.int .i64 s.r.lw):=h.at rfl;have c10:w.cell? (aq T 10)=some (.int .i64 s.r.lm):=h.at rfl;have fz:=h.fz;have HM:Hid (TM w T K M cap s nv):=h;have As:=hi.ts;have OI:=hi.m0;have rj:=hi.m1;clear h hi;obtain⟨lw,_j⟩:∃z,s.r.lw=z:=⟨_,rfl⟩;obtain⟨lm,BU⟩:∃z,s.r.lm=z:=⟨_,rfl⟩;obtain⟨lt,hlt⟩:∃z,s.r.lt=z:=⟨_,rfl⟩;have HLW:Hid (s.r.lw=lw):=_j;have HLM:Hid (s.r.lm=lm):=BU;have HLT:Hid (s.r.lt=lt):=hlt;rw[_j]at c9;rw[BU]at c10 As OI rj;rw[hlt]at c8 As;clear _j BU hlt;go_enter Tryz.func87,Tryz.ntmps87;by_cases h0:lw=0
 ·have HE:Hid (jq s mk=s):=by show _=_;unfold jq;rw[if_pos (.inl (HLW.out.trans h0))]
  subst h0;go_wp2;refine bodyPost_ret (v:=.tuple #[]) (by simp[results,Tryz.results87,go_sem]) rfl ?_;rw[HE.out];exact⟨rfl,HM.out,C2.refl _ _ _⟩
 ·have e0:(lw==0)=false:=by simpa using h0
  by_cases h4:lm=4
  ·have HE:Hid (jq s mk=s):=by show _=_;unfold jq;rw[if_pos (.inr (HLM.out.trans h4))]
   subst h4;go_wp2;refine bodyPost_ret (v:=.tuple #[]) (by simp[results,Tryz.results87,go_sem]) rfl ?_;rw[HE.out];exact⟨rfl,HM.out,C2.refl _ _ _⟩
  ·have e4:(lm==4)=false:=by simpa using h4
   have HE:Hid (jq s mk=sB {s with r:={s.r with lm:=s.r.lm+1,lt:=s.r.lt++mk}}):=by show _=_;unfold jq;rw[if_neg (by rw[HLW.out,HLM.out];omega)]
   have H1:Hid (TM ((w.setCell (aq T 10) (.int .i64 (lm+1))).setCell (aq T 8) (.string (lt++mk))) T K M cap {s with r:={s.r with lm:=s.r.lm+1,lt:=s.r.lt++mk}} nv):=by have h1:=HM.out.set 10 (.int .i64 (lm+1)) {s.r with lm:=s.r.lm+1} nv (by rw[HLM.out];rfl);exact h1.set 8 (.string (lt++mk)) {s.r with lm:=s.r.lm+1,lt:=s.r.lt++mk} nv (by rw[HLT.out];rfl)
   have ii:Hid (C2 T M w ((w.setCell (aq T 10) (.int .i64 (lm+1))).setCell (aq T 8) (.string (lt++mk)))):=((C2.refl T M w).set _ _).set _ _;go_wp2_with fail;refine(rG _ H1.out).mono ?_;rintro e w1 ⟨rfl,h1,g1⟩;have H2:Hid (TM w1 T K M cap (jq s mk) nv/\C2 T M w w1):=by show _/\_;rw[HE.out];exact⟨h1,ii.out.trans g1⟩
   clear h1 g1;go_wp2;go_end0;exact⟨rfl,H2.out.1,H2.out.2⟩
theorem oE(r:Int):(⟨(enc [r]).toArray⟩:ByteArray).size<=4:=by
 have h:=ud [r];have e:(⟨(enc [r]).toArray⟩:ByteArray).size=(enc [r]).length:=by show(enc [r]).toArray.size=_;simp
 rw[e];simpa using h
theorem LI(r:Int):kY r=0\/kY r=1\/kY r=2:=by have:=Gq r;omega
def AK(T:TypeId)(Q:World)(b:Nat)(t:ByteArray)(n:Int):Prop:=Q.heap[b]?=some (.cells #[.string t,.int .i64 n] T (0,0))
theorem AK.lt{T:TypeId}{Q:World}{b:Nat}{t:ByteArray}{n:Int}(h:AK T Q b t n):b<Q.heap.size:=(az.1 h).1
theorem AK.c0{T:TypeId}{Q:World}{b:Nat}{t:ByteArray}{n:Int}(h:AK T Q b t n):Q.cell? (aq b 0)=some (.string t):=by unfold AK at h;simp[World.cell?,h]
theorem AK.c1{T:TypeId}{Q:World}{b:Nat}{t:ByteArray}{n:Int}(h:AK T Q b t n):Q.cell? (aq b 1)=some (.int .i64 n):=by unfold AK at h;simp[World.cell?,h]
theorem AK.c2{T:TypeId}{Q Q':World}{b X M:Nat}{t:ByteArray}{n:Int}(h:AK T Q b t n)(g:C2 X M Q Q')(h1:b≠X)(h2:b≠M):AK T Q' b t n:=(g.block b h.lt h1 h2).trans h
theorem xS(w:World)(h:TM w T K M cap s nv)(hi:Ti s)(ht:aL w)(r:Int):Calls Tryz.prog 55 #[.pointer (some (aq T 0)),.int .i64 r] w fun e w'=>e=Rw (.tuple #[])/\TM w' T K M cap (qM s r) nv/\C2 T M w w':=by
 have kU:Tryz.prog.follows .mixedOrders=true:=by kernel_rfl
 have HM:Hid (TM w T K M cap s nv):=h;have HT:Hid (aL w):=ht;have HI:Hid (Ti s):=hi;have Aw:=hi.x0;have uA:=hi.x1;have hWb:=h.hW.2;clear h hi ht;obtain⟨tx,oM⟩:∃z,(⟨(enc [r]).toArray⟩:ByteArray)=z:=⟨_,rfl⟩;obtain⟨wd,OW⟩:∃z,kY r=z:=⟨_,rfl⟩;have vM:Hid (qM s r=if wd=0 then jq s tx else if s.r.x+wd>s.W then{s with r:=clr s.r}else{sB {s with r:={clr s.r with lx:=s.r.x,ly:=s.r.y,lt:=tx,lw:=wd}}with r:={clr s.r with lx:=s.r.x,ly:=s.r.y,lt:=tx,lw:=wd,x:=s.r.x+wd}}):=by show _=_;unfold qM;rw[oM,OW]
 have As:tx.size<=4:=by rw[<-oM];exact oE r
 have _B:wd=0\/wd=1\/wd=2:=by rw[<-OW];exact LI r
 have EN:Hid (∀v w,nG w v [r]->Calls Tryz.prog 85 #[v] w fun e w'=>e=Rw (.string tx)/\Bt w w'):=fun v w hv=>by have:=lq [r] v w hv (by simp);rw[oM]at this;exact this
 have WI:Hid (∀w,aL w->Calls Tryz.prog 86 #[.int .i64 r] w fun e w'=>e=Rw (.int .i64 wd)/\w'=w):=fun w ht=>by have:=ku r w ht;rw[OW]at this;exact this
 clear oM OW;go_enter Tryz.func55,Tryz.ntmps55;go_wp2_with fail;have eU:nG (w.alloc (.cells #[.int .i64 r] 3)) (.slice (some (aq w.heap.size 0)) 1 1) [r]:=⟨some (aq w.heap.size 0),1,rfl,.inr ⟨w.heap.size,0,rfl,by simp,fun j hj=>by
  obtain rfl:j=0:=by simp at hj;omega
  rw[World.cell?_alloc_at _ _ _ _ rfl];rfl⟩⟩;refine(EN.out _ _ eU).mono ?_;rintro e w1 ⟨rfl,b1⟩;have HB1:Hid (Bt w w1):=((Gr.refl w).alloc (.cells #[.int .i64 r] 3)).below.trans (b1.mono (by simp));clear b1 eU;go_wp2_with fail;refine(WI.out _ (HT.out.below HB1.out)).mono ?_;rintro e w2 ⟨rfl,hw⟩;obtain rfl:=hw.symm;by_cases h0:wd=0
 ·subst h0;have H1:Hid (TM (w1.alloc (.cells #[.string tx,.int .i64 0] 57)) T K M cap s nv):=(HM.out.below HB1.out).gr ((Gr.refl _).alloc _);have ii:Hid (C2 T M w (w1.alloc (.cells #[.string tx,.int .i64 0] 57))):=(C2.below HB1.out).trans (C2.gr ((Gr.refl _).alloc _));have GD:Hid (qM s r=jq s tx):=by show _=_;rw[vM.out,if_pos rfl]
  go_wp2_with fail;refine(wV _ H1.out HI.out tx As).mono ?_;rintro e w3 ⟨rfl,h3,g3⟩;have H3:Hid (TM w3 T K M cap (qM s r) nv/\C2 T M w w3):=by show _/\_;rw[GD.out];exact⟨h3,ii.out.trans g3⟩
  clear h3 g3;go_wp2;refine bodyPost_ret (v:=.tuple #[]) (by simp[results,Tryz.results55,go_sem]) rfl ?_;exact⟨rfl,H3.out.1,H3.out.2⟩
 ·have e0:(wd==0)=false:=by simpa using h0
  go_wp2_with fail;obtain⟨S,hS⟩:∃z,w1.heap.size=z:=⟨_,rfl⟩;obtain⟨W2,qd⟩:∃z,w1.alloc (.cells #[.string tx,.int .i64 wd] 57)=z:=⟨_,rfl⟩;have H1:Hid (TM W2 T K M cap s nv):=by rw[<-qd];exact(HM.out.below HB1.out).gr ((Gr.refl _).alloc _)
  have ii:Hid (C2 T M w W2):=by rw[<-qd];exact(C2.below HB1.out).trans (C2.gr ((Gr.refl _).alloc _))
  have R1:Hid (AK 57 W2 S tx wd):=by rw[<-qd,<-hS];exact heap_alloc_new _ _
  have hST:S≠T:=by have h1:=HM.out.lt;have h2:=HB1.out.size;omega
  have Z6:S≠M:=by have h1:=HM.out.cs.cv.lt;have h2:=HB1.out.size;omega
  have GD:Hid (qM s r=if s.r.x+wd>s.W then{s with r:=clr s.r}else{sB {s with r:={clr s.r with lx:=s.r.x,ly:=s.r.y,lt:=tx,lw:=wd}}with r:={clr s.r with lx:=s.r.x,ly:=s.r.y,lt:=tx,lw:=wd,x:=s.r.x+wd}}):=by show _=_;rw[vM.out,if_neg h0]
  rw[qd,hS];clear qd hS;refine(kt _ H1.out).mono ?_;rintro e w3 ⟨rfl,h3,g3⟩;have H3:Hid (TM w3 T K M cap {s with r:=clr s.r} nv):=h3;have HC3:Hid (C2 T M w w3):=ii.out.trans g3;have Jv:Hid (AK 57 w3 S tx wd):=R1.out.c2 g3 hST Z6;clear h3 g3 R1 H1 ii;go_wp2_with fail;refine(qR _ H3.out).mono ?_;rintro e w4 ⟨rfl,g4⟩;have H4:Hid (TM w4 T K M cap {s with r:=clr s.r} nv):=H3.out.gr g4;have Ah:Hid (C2 T M w w4):=HC3.out.trans (C2.gr g4);have MI:Hid (AK 57 w4 S tx wd):=Jv.out.c2 (C2.gr (T:=T) (M:=M) g4) hST Z6;clear g4 Jv H3 HC3;have c1:w4.cell? (aq T 1)=some (.int .i64 s.r.x):=H4.out.at rfl;have c2:w4.cell? (aq T 2)=some (.int .i64 s.r.y):=H4.out.at rfl;have d0:=MI.out.c0;have d1:=MI.out.c1;obtain⟨x,hx⟩:∃z,s.r.x=z:=⟨_,rfl⟩;obtain⟨y,hy⟩:∃z,s.r.y=z:=⟨_,rfl⟩;have HX:Hid (s.r.x=x):=hx;have HY:Hid (s.r.y=y):=hy;rw[hx]at c1 Aw uA;rw[hy]at c2;clear hx hy;by_cases hf:(s.W:Int)<x+wd
  ·have hf':decide ((s.W:Int)<x+wd)=true:=decide_eq_true hf;have HPF:Hid (qM s r={s with r:=clr s.r}):=by show _=_;rw[GD.out,if_pos (by rw[HX.out];exact hf)]
   go_wp2_with fail;go_quiet(fail);go_wp2;refine bodyPost_ret (v:=.tuple #[]) (by simp[results,Tryz.results55,go_sem]) rfl ?_;rw[HPF.out];exact⟨rfl,H4.out.gr ((Gr.refl _).drewN _),Ah.out.trans (C2.gr ((Gr.refl _).drewN _))⟩
  ·have hf':decide ((s.W:Int)<x+wd)=false:=decide_eq_false hf;have HPF:Hid (qM s r={sB {s with r:={clr s.r with lx:=s.r.x,ly:=s.r.y,lt:=tx,lw:=wd}}with r:={clr s.r with lx:=s.r.x,ly:=s.r.y,lt:=tx,lw:=wd,x:=s.r.x+wd}}):=by show _=_;rw[GD.out,if_neg (by rw[HX.out];exact hf)]
   go_wp2_with fail;go_quiet(fail);go_wp2_with fail;obtain⟨W5,Hm⟩:∃z,w4.drewN nq=z:=⟨_,rfl⟩;have H5:Hid (TM W5 T K M cap {s with r:=clr s.r} nv):=by rw[<-Hm];exact H4.out.gr ((Gr.refl _).drewN _)
   have AJ:Hid (C2 T M w W5):=by rw[<-Hm];exact Ah.out.trans (C2.gr ((Gr.refl _).drewN _))
   have R5':Hid (AK 57 W5 S tx wd):=by rw[<-Hm];exact MI.out.c2 (C2.gr (T:=T) (M:=M) ((Gr.refl _).drewN _)) hST Z6
   rw[Hm];clear Hm c1 c2 d0 d1 MI H4 Ah;have c1:W5.cell? (aq T 1)=some (.int .i64 x):=by rw[<-HX.out];exact H5.out.at rfl
   have c2:W5.cell? (aq T 2)=some (.int .i64 y):=by rw[<-HY.out];exact H5.out.at rfl
   have c6:W5.cell? (aq T 6)=some (.int .i64 0):=H5.out.at rfl;have c7:W5.cell? (aq T 7)=some (.int .i64 0):=H5.out.at rfl;have c8:W5.cell? (aq T 8)=some (.string ⟨#[]⟩):=H5.out.at rfl;have c9:W5.cell? (aq T 9)=some (.int .i64 0):=H5.out.at rfl;have c10:W5.cell? (aq T 10)=some (.int .i64 0):=H5.out.at rfl;have fz:=H5.out.fz;have d0:=R5'.out.c0;have d1:=R5'.out.c1;go_region;go_wp2_with fail;obtain⟨W6,hW6⟩:∃z,(((((W5.setCell (aq T 6) (.int .i64 x)).setCell (aq T 7) (.int .i64 y)).setCell (aq T 8) (.string tx)).setCell (aq T 9) (.int .i64 wd)).setCell (aq T 10) (.int .i64 0)).drew=z:=⟨_,rfl⟩;have H6:Hid (TM W6 T K M cap {s with r:={clr s.r with lx:=s.r.x,ly:=s.r.y,lt:=tx,lw:=wd}} nv):=by rw[<-hW6];have h1:=H5.out.set 6 (.int .i64 x) {clr s.r with lx:=x} nv rfl;have h2:=h1.set 7 (.int .i64 y) {clr s.r with lx:=x,ly:=y} nv rfl;have h3:=h2.set 8 (.string tx) {clr s.r with lx:=x,ly:=y,lt:=tx} nv rfl;have h4:=h3.set 9 (.int .i64 wd) {clr s.r with lx:=x,ly:=y,lt:=tx,lw:=wd} nv rfl;have h5:=h4.set 10 (.int .i64 0) {clr s.r with lx:=x,ly:=y,lt:=tx,lw:=wd} nv rfl;rw[HX.out,HY.out];exact h5.gr (Gr.refl _).drew
   have HC6:Hid (C2 T M w W6):=by rw[<-hW6];exact(((((AJ.out.set _ _).set _ _).set _ _).set _ _).set _ _).trans (C2.gr (Gr.refl _).drew)
   have R6:Hid (AK 57 W6 S tx wd):=by rw[<-hW6];exact R5'.out.c2 ((((((C2.refl T M W5).set _ _).set _ _).set _ _).set _ _).set _ _|>.trans (C2.gr (Gr.refl _).drew)) hST Z6
   rw[hW6];clear hW6 c1 c2 c6 c7 c8 c9 c10 fz d0 d1 R5' H5 AJ;refine(rG _ H6.out).mono ?_;rintro e w7 ⟨rfl,h7,g7⟩;have H7:Hid (TM w7 T K M cap (sB {s with r:={clr s.r with lx:=s.r.x,ly:=s.r.y,lt:=tx,lw:=wd}}) nv):=h7;have HC7:Hid (C2 T M w w7):=HC6.out.trans g7;have R7:Hid (AK 57 w7 S tx wd):=R6.out.c2 g7 hST Z6;clear h7 g7 H6 HC6 R6;have c1:w7.cell? (aq T 1)=some (.int .i64 x):=by rw[<-HX.out];exact H7.out.at rfl
   have fz:=H7.out.fz;have d1:=R7.out.c1;go_wp2_with fail;go_region;have H8:Hid (TM ((w7.setCell (aq T 1) (.int .i64 (x+wd))).drew) T K M cap (qM s r) nv):=by have h1:=H7.out.set 1 (.int .i64 (x+wd)) {clr s.r with lx:=s.r.x,ly:=s.r.y,lt:=tx,lw:=wd,x:=s.r.x+wd} nv (by rw[HX.out];rfl);show TM _ _ _ _ _ _ _;rw[HPF.out];exact h1.gr (Gr.refl _).drew
   have HC8:Hid (C2 T M w ((w7.setCell (aq T 1) (.int .i64 (x+wd))).drew)):=(HC7.out.set _ _).trans (C2.gr (Gr.refl _).drew);go_wp2;go_end0;exact⟨rfl,H8.out,HC8.out⟩
end
