import Derived.Test.YtadhgppeafpdgaaGreatDoorQ08
import Derived.Test.YtadhgppeafpdgaaGreatDoorQ02
import Derived.Lib.ItoaNum
import Derived.Lib.Join
set_option linter.all false
set_option maxRecDepth 100000
set_option maxHeartbeats 16000000
namespace Go.Proofs.YtadhgppeafpdgaaGreatDoor
open Go.RowKit Go.Sort
def uz(n base own:Int):Int:=if n=0 then own else base+n
def gp(z z2:Int):List Int:=if z<z2 then[1]else[]
def Al(x x2:Int):List Int:=if x2=x then[]else[uz x2 29 39]
def Ak(y y2:Int):List Int:=if y2=y then[]else[uz y2 39 49]
def jP(x y z x2 y2 z2:Int):List Int:=gp z z2++(Al x x2++Ak y y2)
def cJ(x y z x2 y2 z2:Int):List Int:=
 if x=x2/\y=y2/\z=z2 then[]else if x2=0/\y2=0/\z2=0 then[0]else if z2<z then 0::jP 0 0 0 x2 y2 z2 else jP x y z x2 y2 z2
def dc(n:Int):List UInt8:=Lib.decDigits n.toNat
def sq(ns:List Int):List UInt8:=[27,91]++(Lib.join (ns.map dc) [59]++[109])
def Hb(ns:List Int):List UInt8:=if ns=[]then[]else sq ns
theorem OT{n b o:Int}(h:0<=n/\n<=8)(hb:0<=b/\b<=80)(ho:0<=o/\o<100):0<=uz n b o/\uz n b o<100:=by unfold uz;split<;>omega
def fH(ns:List Int):Prop:=∀n∈ns,0<=n/\n<100
theorem fH.app{a b:List Int}(h:fH a)(k:fH b):fH (a++b):=fun n hn=>by rcases lX.1 hn with h1|h1;exact h n h1;exact k n h1
theorem mc{x y z x2 y2 z2:Int}(hx:0<=x2/\x2<=8)(hy:0<=y2/\y2<=8):fH (jP x y z x2 y2 z2):=by
 refine fH.app ?_ (fH.app ?_ ?_)
 ·unfold gp;split;·intro n hn;simp at hn;omega
  ·intro n hn;simp at hn
 ·unfold Al;split;·intro n hn;simp at hn
  ·intro n hn;simp only[pI]at hn;subst hn;exact OT hx (by decide) (by decide)
 ·unfold Ak;split;·intro n hn;simp at hn
  ·intro n hn;simp only[pI]at hn;subst hn;exact OT hy (by decide) (by decide)
theorem sQ(x y z x2 y2 z2:Int):(jP x y z x2 y2 z2).length<=3:=by unfold jP gp Al Ak;(repeat' split)<;>simp
theorem qB{x y z x2 y2 z2:Int}(hx:0<=x2/\x2<=8)(hy:0<=y2/\y2<=8):fH (cJ x y z x2 y2 z2):=by
 unfold cJ;split;·intro n hn;simp at hn
 ·split;·intro n hn;simp at hn;omega
  ·split
   ·intro n hn;rcases ja.1 hn with rfl|h;·omega
    ·exact mc hx hy n h
   ·exact mc hx hy
theorem zJ(x y z x2 y2 z2:Int):(cJ x y z x2 y2 z2).length<=4:=by unfold cJ;have:=sQ x y z x2 y2 z2;have:=sQ 0 0 0 x2 y2 z2;(repeat' split)<;>simp<;>omega
theorem C_{w:World}{B B':Nat}{e:TypeId}{size:Nat}{v:Value}{n:Nat}{xs:List Value}(h:w.ownsRow B e size v n xs)(hB:B'<=B):w.ownsRow B' e size v n xs:=by
 refine⟨h.1,?_⟩;rcases h.2 with h2|⟨g,cap,cM,a,b,c⟩;·exact .inl h2
 ·exact .inr ⟨g,cap,cM,a,aH hB b,c⟩
theorem gM(w:World)(u:Value)(T:TypeId)(j:Nat)(x:Value)(h:[u][j]?=some x):(w.alloc (.cells #[u] T)).cell? (((aq w.heap.size 0):Addr).add j)=some x:=by
 rcases j with _|j;·simp at h;subst h;show(w.alloc (.cells #[u] T)).cell? (aq w.heap.size 0)=_;unfold World.cell?;rw[show(w.alloc (.cells #[u] T)).heap[w.heap.size]?=some (.cells #[u] T)from heap_alloc_new _ _];rfl
 ·simp at h
theorem one_cell(n:Int)(u:Value)(h:u∈[Value.int .i64 n]):u.oneCell'=true:=by simp at h;subst h;rfl
theorem QR:(Tryz.prog.info? 3).map (fun i=>(i.zero,i.size,i.bytes))=some (some (.int .i64 0),1,8):=by kernel_rfl
structure ST(T:TypeId)(w:World)(A C B:Nat)(cM:World)(v:Value)(xs:List Int)(a0 a1 a2 c0 c1 c2:Int):Prop where
 own:cM.ownsRow B 3 1 v xs.length (xs.map (Value.int .i64))
 ra:R3 T cM A a0 a1 a2
 rc:R3 T cM C c0 c1 c2
 bel:Bt w cM
 hA:w.heap.size<=A/\A<B/\w.heap.size<=C/\C<B/\A≠C/\B<=cM.heap.size
section
variable{T:TypeId} {w cM:World} {A C B:Nat} {v:Value} {xs:List Int} {a0 a1 a2 c0 c1 c2:Int}
theorem ST.next(h:ST T w A C B cM v xs a0 a1 a2 c0 c1 c2){o:Obj}{v':Value}{w':World}{x:Int}(ho:w'.ownsRow B 3 1 v' (xs.length+1) (xs.map (Value.int .i64)++[.int .i64 x]))(hg:(cM.alloc o).grownBy w' v.ownBlock):ST T w A C B w' v' (xs++[x]) a0 a1 a2 c0 c1 c2:=by
 have hlt:∀k,v.ownBlock=some k->B<=k:=fun k hk=>(h.own.lt k hk).1;obtain⟨q1,q2,q3,q4,q5,q6⟩:=h.hA;have keep:∀k,k<B->w'.heap[k]?=cM.heap[k]?:=fun k hk=>by rw[hg.block k (by rw[aA];omega) (fun e=>by have:=hlt k e.symm;omega),cG _ _ _ (by omega)]
 refine⟨by rw[aI,pK];exact ho,(keep A q2).trans h.ra,(keep C q4).trans h.rc,?_,q1,q2,q3,q4,q5,?_⟩;·exact(h.bel.alloc (by omega) o).grown hg (by rw[aA];omega) (fun k hk=>by have:=hlt k hk;omega)
 ·have:=hg.size;rw[aA]at this;omega
theorem ST.bd(h:ST T w A C B cM v xs a0 a1 a2 c0 c1 c2)(o:Obj):B<=(cM.alloc o).heap.size:=by have:=h.hA;rw[aA];omega
theorem ST.zero(h:ST T w A C B cM v xs a0 a1 a2 c0 c1 c2):ST T w A C B (((cM.setCell (aq A 0) (.int .i64 0)).setCell (aq A 1) (.int .i64 0)).setCell (aq A 2) (.int .i64 0)) v xs 0 0 0 c0 c1 c2:=by obtain⟨q1,q2,q3,q4,q5,q6⟩:=h.hA;refine⟨ownsRow_setCell_below (ownsRow_setCell_below (ownsRow_setCell_below h.own q2 _) q2 _) q2 _,h.ra.set 0 0 0,h.rc.others (fun e=>q5 e.symm) _ _ _,?_,q1,q2,q3,q4,q5,by simpa[World.setCell]using q6⟩;exact((h.bel.setCell q1 _).setCell q1 _).setCell q1 _
end
theorem tX(n b o:Int)(w:World)(h:0<=n/\n<=8)(hb:0<=b/\b<=80):Calls Tryz.prog 207 #[.int .i64 n,.int .i64 b,.int .i64 o] w fun e w'=>e=Rw (.int .i64 (uz n b o))/\w'=w:=by
 go_enter Tryz.func207,Tryz.ntmps207;by_cases h1:n=0;·subst h1;go_wp2;go_ret;exact⟨rfl,rfl⟩
 ·go_wp2;go_ret;exact⟨by unfold uz;rw[if_neg h1];rfl,rfl⟩
theorem zh3(w:World)(T:TypeId)(f g b f2 g2 b2:Int)(hw:True):ST T w w.heap.size (w.heap.size+1) (w.heap.size+2) ((w.alloc (.cells #[.int .i64 f,.int .i64 g,.int .i64 b] T)).alloc (.cells #[.int .i64 f2,.int .i64 g2,.int .i64 b2] T)) (.slice none 0 0) [] f g b f2 g2 b2:=by
 refine⟨jb _ _ _ _,(R3.new w _ _ _ _).gr ((Gr.refl _).alloc _),?_,(((Gr.refl w).alloc _).alloc _).below,?_⟩;·have:=R3.new (w.alloc (.cells #[.int .i64 f,.int .i64 g,.int .i64 b] T)) f2 g2 b2 T;simp only[aA]at this;exact this
 ·simp only[aA];omega
theorem qZ(x y z x2 y2 z2:Int)(w:World)(ky:0<=x2/\x2<=8)(zy:0<=y2/\y2<=8):Calls Tryz.prog 169 #[sv x y z,sv x2 y2 z2] w fun e w'=>∃v,e=Rw v/\w'.ownsRow w.heap.size 3 1 v (jP x y z x2 y2 z2).length ((jP x y z x2 y2 z2).map (Value.int .i64))/\Bt w w':=by
 have CF:Hid (∀w,Calls Tryz.prog 207 #[.int .i64 x2,.int .i64 29,.int .i64 39] w fun e w'=>e=Rw (.int .i64 (uz x2 29 39))/\w'=w):=fun w=>tX _ _ _ w ky (by decide);have CG:Hid (∀w,Calls Tryz.prog 207 #[.int .i64 y2,.int .i64 39,.int .i64 49] w fun e w'=>e=Rw (.int .i64 (uz y2 39 49))/\w'=w):=fun w=>tX _ _ _ w zy (by decide);obtain⟨i0,hi,dJ,fy,fB⟩:=info_parts QR;obtain⟨A,hA⟩:∃q,w.heap.size=q:=⟨_,rfl⟩;obtain⟨W0,bc⟩:∃q,(w.alloc (.cells #[.int .i64 x,.int .i64 y,.int .i64 z] 45)).alloc (.cells #[.int .i64 x2,.int .i64 y2,.int .i64 z2] 45)=q:=⟨_,rfl⟩;have HL:Hid (ST 45 w A (A+1) (A+2) W0 (.slice none 0 0) [] x y z x2 y2 z2):=by rw[<-bc,<-hA];exact zh3 w 45 x y z x2 y2 z2 trivial
 obtain⟨p,hp⟩:∃q,uz x2 29 39=q:=⟨_,rfl⟩;obtain⟨q,hq⟩:∃r,uz y2 39 49=r:=⟨_,rfl⟩;rw[hp]at CF;rw[hq]at CG;have HP:Hid (uz x2 29 39=p):=hp;have HQ:Hid (uz y2 39 49=q):=hq;have HA:Hid (w.heap.size=A):=hA;clear hp hq;unfold sv;go_enter Tryz.func169,Tryz.ntmps169;have r0:=HL.out.ra.c0;have r1:=HL.out.ra.c1;have r2:=HL.out.ra.c2;have s0:=HL.out.rc.c0;have s1:=HL.out.rc.c1;have s2:=HL.out.rc.c2;have rl:=HL.out.ra.lt;have sl:=HL.out.rc.lt;go_upto_if 10 with(fail);clear bc hA;have E:Hid (∀l,jP x y z x2 y2 z2=l->∀w' v a0 a1 a2 b0 b1 b2,ST 45 w A (A+1) (A+2) w' v l a0 a1 a2 b0 b1 b2->w'.ownsRow w.heap.size 3 1 v (jP x y z x2 y2 z2).length ((jP x y z x2 y2 z2).map (Value.int .i64))/\Bt w w'):=fun l hl w' v a0 a1 a2 b0 b1 b2 h=>by rw[hl];exact⟨C_ h.own (by rw[HA.out];omega),h.bel⟩
 by_cases h1:z<z2
 ·by_cases h2:x2=x
  ·have t2:(x2 !=x)=false:=by simp[h2]
   have H2:Hid ((x2=x)):=h2;clear h2;by_cases h3:y2=y
   ·have t3:(y2 !=y)=false:=by simp[h3]
    have H3:Hid ((y2=y)):=h3;clear h3;go_wp2_with(first|(go_at_call 207;(with_reducible refine ai (CF.out _) ?_);rintro e w2 ⟨rfl,rfl⟩)|(go_at_call 207;(with_reducible refine ai (CG.out _) ?_);rintro e w2 ⟨rfl,rfl⟩)|(at_builtin;refine wpList_append_own _ rfl _ _ 34 rfl (A+2) 3 i0 (.int .i64 0) 1 8 Tryz.underlying34 hi dJ fy fB rfl (by decide) _ _ _ rfl (HL.out.own.alloc _) _ 1 1 [.int .i64 _] rfl rfl (gM _ _ _) (one_cell _) (by simp[maxLen]) (by simp) (HL.out.bd _) ?_;intro v1 w1 o1 g1 _;have HL:Hid (ST 45 w A (A+1) (A+2) w1 v1 _ _ _ _ _ _ _):=HL.out.next o1 g1;clear o1 g1;have r0:=HL.out.ra.c0;have r1:=HL.out.ra.c1;have r2:=HL.out.ra.c2;have s0:=HL.out.rc.c0;have s1:=HL.out.rc.c1;have s2:=HL.out.rc.c2;have rl:=HL.out.ra.lt;have sl:=HL.out.rc.lt));go_ret;exact⟨_,rfl,E.out [1] (by unfold jP gp Al Ak;rw[if_pos h1,if_pos H2.out,if_pos H3.out];rfl) _ _ _ _ _ _ _ _ HL.out⟩
   ·have t3:(y2 !=y)=true:=by simp[h3]
    have H3:Hid (¬(y2=y)):=h3;clear h3;go_wp2_with(first|(go_at_call 207;(with_reducible refine ai (CF.out _) ?_);rintro e w2 ⟨rfl,rfl⟩)|(go_at_call 207;(with_reducible refine ai (CG.out _) ?_);rintro e w2 ⟨rfl,rfl⟩)|(at_builtin;refine wpList_append_own _ rfl _ _ 34 rfl (A+2) 3 i0 (.int .i64 0) 1 8 Tryz.underlying34 hi dJ fy fB rfl (by decide) _ _ _ rfl (HL.out.own.alloc _) _ 1 1 [.int .i64 _] rfl rfl (gM _ _ _) (one_cell _) (by simp[maxLen]) (by simp) (HL.out.bd _) ?_;intro v1 w1 o1 g1 _;have HL:Hid (ST 45 w A (A+1) (A+2) w1 v1 _ _ _ _ _ _ _):=HL.out.next o1 g1;clear o1 g1;have r0:=HL.out.ra.c0;have r1:=HL.out.ra.c1;have r2:=HL.out.ra.c2;have s0:=HL.out.rc.c0;have s1:=HL.out.rc.c1;have s2:=HL.out.rc.c2;have rl:=HL.out.ra.lt;have sl:=HL.out.rc.lt));go_ret;exact⟨_,rfl,E.out [1,q] (by unfold jP gp Al Ak;rw[if_pos h1,if_pos H2.out,if_neg H3.out,HQ.out];rfl) _ _ _ _ _ _ _ _ HL.out⟩
  ·have t2:(x2 !=x)=true:=by simp[h2]
   have H2:Hid (¬(x2=x)):=h2;clear h2;by_cases h3:y2=y
   ·have t3:(y2 !=y)=false:=by simp[h3]
    have H3:Hid ((y2=y)):=h3;clear h3;go_wp2_with(first|(go_at_call 207;(with_reducible refine ai (CF.out _) ?_);rintro e w2 ⟨rfl,rfl⟩)|(go_at_call 207;(with_reducible refine ai (CG.out _) ?_);rintro e w2 ⟨rfl,rfl⟩)|(at_builtin;refine wpList_append_own _ rfl _ _ 34 rfl (A+2) 3 i0 (.int .i64 0) 1 8 Tryz.underlying34 hi dJ fy fB rfl (by decide) _ _ _ rfl (HL.out.own.alloc _) _ 1 1 [.int .i64 _] rfl rfl (gM _ _ _) (one_cell _) (by simp[maxLen]) (by simp) (HL.out.bd _) ?_;intro v1 w1 o1 g1 _;have HL:Hid (ST 45 w A (A+1) (A+2) w1 v1 _ _ _ _ _ _ _):=HL.out.next o1 g1;clear o1 g1;have r0:=HL.out.ra.c0;have r1:=HL.out.ra.c1;have r2:=HL.out.ra.c2;have s0:=HL.out.rc.c0;have s1:=HL.out.rc.c1;have s2:=HL.out.rc.c2;have rl:=HL.out.ra.lt;have sl:=HL.out.rc.lt));go_ret;exact⟨_,rfl,E.out [1,p] (by unfold jP gp Al Ak;rw[if_pos h1,if_neg H2.out,if_pos H3.out,HP.out];rfl) _ _ _ _ _ _ _ _ HL.out⟩
   ·have t3:(y2 !=y)=true:=by simp[h3]
    have H3:Hid (¬(y2=y)):=h3;clear h3;go_wp2_with(first|(go_at_call 207;(with_reducible refine ai (CF.out _) ?_);rintro e w2 ⟨rfl,rfl⟩)|(go_at_call 207;(with_reducible refine ai (CG.out _) ?_);rintro e w2 ⟨rfl,rfl⟩)|(at_builtin;refine wpList_append_own _ rfl _ _ 34 rfl (A+2) 3 i0 (.int .i64 0) 1 8 Tryz.underlying34 hi dJ fy fB rfl (by decide) _ _ _ rfl (HL.out.own.alloc _) _ 1 1 [.int .i64 _] rfl rfl (gM _ _ _) (one_cell _) (by simp[maxLen]) (by simp) (HL.out.bd _) ?_;intro v1 w1 o1 g1 _;have HL:Hid (ST 45 w A (A+1) (A+2) w1 v1 _ _ _ _ _ _ _):=HL.out.next o1 g1;clear o1 g1;have r0:=HL.out.ra.c0;have r1:=HL.out.ra.c1;have r2:=HL.out.ra.c2;have s0:=HL.out.rc.c0;have s1:=HL.out.rc.c1;have s2:=HL.out.rc.c2;have rl:=HL.out.ra.lt;have sl:=HL.out.rc.lt));go_ret;exact⟨_,rfl,E.out [1,p,q] (by unfold jP gp Al Ak;rw[if_pos h1,if_neg H2.out,if_neg H3.out,HP.out,HQ.out];rfl) _ _ _ _ _ _ _ _ HL.out⟩
 ·replace h1:z2<=z:=by omega
  by_cases h2:x2=x
  ·have t2:(x2 !=x)=false:=by simp[h2]
   have H2:Hid ((x2=x)):=h2;clear h2;by_cases h3:y2=y
   ·have t3:(y2 !=y)=false:=by simp[h3]
    have H3:Hid ((y2=y)):=h3;clear h3;go_wp2_with(first|(go_at_call 207;(with_reducible refine ai (CF.out _) ?_);rintro e w2 ⟨rfl,rfl⟩)|(go_at_call 207;(with_reducible refine ai (CG.out _) ?_);rintro e w2 ⟨rfl,rfl⟩)|(at_builtin;refine wpList_append_own _ rfl _ _ 34 rfl (A+2) 3 i0 (.int .i64 0) 1 8 Tryz.underlying34 hi dJ fy fB rfl (by decide) _ _ _ rfl (HL.out.own.alloc _) _ 1 1 [.int .i64 _] rfl rfl (gM _ _ _) (one_cell _) (by simp[maxLen]) (by simp) (HL.out.bd _) ?_;intro v1 w1 o1 g1 _;have HL:Hid (ST 45 w A (A+1) (A+2) w1 v1 _ _ _ _ _ _ _):=HL.out.next o1 g1;clear o1 g1;have r0:=HL.out.ra.c0;have r1:=HL.out.ra.c1;have r2:=HL.out.ra.c2;have s0:=HL.out.rc.c0;have s1:=HL.out.rc.c1;have s2:=HL.out.rc.c2;have rl:=HL.out.ra.lt;have sl:=HL.out.rc.lt));go_ret;exact⟨_,rfl,E.out [] (by unfold jP gp Al Ak;rw[if_neg (show¬z<z2 by omega),if_pos H2.out,if_pos H3.out];rfl) _ _ _ _ _ _ _ _ HL.out⟩
   ·have t3:(y2 !=y)=true:=by simp[h3]
    have H3:Hid (¬(y2=y)):=h3;clear h3;go_wp2_with(first|(go_at_call 207;(with_reducible refine ai (CF.out _) ?_);rintro e w2 ⟨rfl,rfl⟩)|(go_at_call 207;(with_reducible refine ai (CG.out _) ?_);rintro e w2 ⟨rfl,rfl⟩)|(at_builtin;refine wpList_append_own _ rfl _ _ 34 rfl (A+2) 3 i0 (.int .i64 0) 1 8 Tryz.underlying34 hi dJ fy fB rfl (by decide) _ _ _ rfl (HL.out.own.alloc _) _ 1 1 [.int .i64 _] rfl rfl (gM _ _ _) (one_cell _) (by simp[maxLen]) (by simp) (HL.out.bd _) ?_;intro v1 w1 o1 g1 _;have HL:Hid (ST 45 w A (A+1) (A+2) w1 v1 _ _ _ _ _ _ _):=HL.out.next o1 g1;clear o1 g1;have r0:=HL.out.ra.c0;have r1:=HL.out.ra.c1;have r2:=HL.out.ra.c2;have s0:=HL.out.rc.c0;have s1:=HL.out.rc.c1;have s2:=HL.out.rc.c2;have rl:=HL.out.ra.lt;have sl:=HL.out.rc.lt));go_ret;exact⟨_,rfl,E.out [q] (by unfold jP gp Al Ak;rw[if_neg (show¬z<z2 by omega),if_pos H2.out,if_neg H3.out,HQ.out];rfl) _ _ _ _ _ _ _ _ HL.out⟩
  ·have t2:(x2 !=x)=true:=by simp[h2]
   have H2:Hid (¬(x2=x)):=h2;clear h2;by_cases h3:y2=y
   ·have t3:(y2 !=y)=false:=by simp[h3]
    have H3:Hid ((y2=y)):=h3;clear h3;go_wp2_with(first|(go_at_call 207;(with_reducible refine ai (CF.out _) ?_);rintro e w2 ⟨rfl,rfl⟩)|(go_at_call 207;(with_reducible refine ai (CG.out _) ?_);rintro e w2 ⟨rfl,rfl⟩)|(at_builtin;refine wpList_append_own _ rfl _ _ 34 rfl (A+2) 3 i0 (.int .i64 0) 1 8 Tryz.underlying34 hi dJ fy fB rfl (by decide) _ _ _ rfl (HL.out.own.alloc _) _ 1 1 [.int .i64 _] rfl rfl (gM _ _ _) (one_cell _) (by simp[maxLen]) (by simp) (HL.out.bd _) ?_;intro v1 w1 o1 g1 _;have HL:Hid (ST 45 w A (A+1) (A+2) w1 v1 _ _ _ _ _ _ _):=HL.out.next o1 g1;clear o1 g1;have r0:=HL.out.ra.c0;have r1:=HL.out.ra.c1;have r2:=HL.out.ra.c2;have s0:=HL.out.rc.c0;have s1:=HL.out.rc.c1;have s2:=HL.out.rc.c2;have rl:=HL.out.ra.lt;have sl:=HL.out.rc.lt));go_ret;exact⟨_,rfl,E.out [p] (by unfold jP gp Al Ak;rw[if_neg (show¬z<z2 by omega),if_neg H2.out,if_pos H3.out,HP.out];rfl) _ _ _ _ _ _ _ _ HL.out⟩
   ·have t3:(y2 !=y)=true:=by simp[h3]
    have H3:Hid (¬(y2=y)):=h3;clear h3;go_wp2_with(first|(go_at_call 207;(with_reducible refine ai (CF.out _) ?_);rintro e w2 ⟨rfl,rfl⟩)|(go_at_call 207;(with_reducible refine ai (CG.out _) ?_);rintro e w2 ⟨rfl,rfl⟩)|(at_builtin;refine wpList_append_own _ rfl _ _ 34 rfl (A+2) 3 i0 (.int .i64 0) 1 8 Tryz.underlying34 hi dJ fy fB rfl (by decide) _ _ _ rfl (HL.out.own.alloc _) _ 1 1 [.int .i64 _] rfl rfl (gM _ _ _) (one_cell _) (by simp[maxLen]) (by simp) (HL.out.bd _) ?_;intro v1 w1 o1 g1 _;have HL:Hid (ST 45 w A (A+1) (A+2) w1 v1 _ _ _ _ _ _ _):=HL.out.next o1 g1;clear o1 g1;have r0:=HL.out.ra.c0;have r1:=HL.out.ra.c1;have r2:=HL.out.ra.c2;have s0:=HL.out.rc.c0;have s1:=HL.out.rc.c1;have s2:=HL.out.rc.c2;have rl:=HL.out.ra.lt;have sl:=HL.out.rc.lt));go_ret;exact⟨_,rfl,E.out [p,q] (by unfold jP gp Al Ak;rw[if_neg (show¬z<z2 by omega),if_neg H2.out,if_neg H3.out,HP.out,HQ.out];rfl) _ _ _ _ _ _ _ _ HL.out⟩
