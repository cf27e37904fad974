import Derived.Test.YtmbefonnkkhfgaaGreatDoorQ00
import Derived.Test.YtmbefonnkkhfgaaGreatDoorQ09
import Derived.Deep.OwnRows
set_option linter.unusedVariables false
set_option maxRecDepth 100000
set_option maxHeartbeats 16000000
namespace Go.Proofs.YtmbefonnkkhfgaaGreatDoor
section
open Go.RowKit Go.Proofs.Tryz
def cl(x:Int):Int:=if x<0 then 0 else if 100000<x then 100000 else x
theorem cl_bd(x:Int):0≤cl x∧cl x≤100000:=by unfold cl;split;omega;split<;>omega
theorem shClamped_any(x:Int)(w:World):
 Calls prog 162 #[Iq x] w fun e w'=>e=.returned (Iq (cl x))∧w'=w:=by
 obtain⟨y,hy⟩:=nmd (cl x);rw[hy];unfold cl at hy;by_cases h1:x<0
 ·rw[if_pos h1]at hy;subst hy;have h0:x≤0:=by omega
  go_enter func162,ntmps162;go_wp2;go_ret;exact⟨rfl,rfl⟩
 ·rw[if_neg h1]at hy;have h0:0≤x:=by omega
  by_cases h2:100000<x;·rw[if_pos h2]at hy;subst hy;go_enter func162,ntmps162;go_wp2;go_ret;exact⟨rfl,rfl⟩
  ·rw[if_neg h2]at hy;subst hy;have h3:x≤100000:=by omega
   go_enter func162,ntmps162;go_wp2;go_ret;exact⟨rfl,rfl⟩
def WRow(W:World)(blk off n:Nat)(a b c:Nat->Int):Prop:=blk<W.heap.size∧∀j,j<n->W.cell? ⟨blk,off+j*3,none⟩=some (Iq (a j))∧W.cell? ⟨blk,off+j*3+1,none⟩=some (Iq (b j))∧W.cell? ⟨blk,off+j*3+2,none⟩=some (Iq (c j))
theorem WRow.below{A B:World}{blk off n:Nat}{a b c:Nat->Int}(h:WRow A blk off n a b c)(hb:Below A.heap.size A B):WRow B blk off n a b c:=
 ⟨Nat.lt_of_lt_of_le h.1 hb.size,fun j hj=>⟨(hb.cell (p:=⟨blk,_,none⟩) h.1).trans (h.2 j hj).1,(hb.cell (p:=⟨blk,_,none⟩) h.1).trans (h.2 j hj).2.1,(hb.cell (p:=⟨blk,_,none⟩) h.1).trans (h.2 j hj).2.2⟩⟩
theorem WRow.grown{A B:World}{blk off n:Nat}{a b c:Nat->Int}{r:Nat}(h:WRow A blk off n a b c)(hb:A.grownBy B (some r))(hn:blk≠r):WRow B blk off n a b c:=
 ⟨Nat.lt_of_lt_of_le h.1 hb.size,fun j hj=>⟨hb.cell (h.2 j hj).1 (by simpa using hn),hb.cell (h.2 j hj).2.1 (by simpa using hn),hb.cell (h.2 j hj).2.2 (by simpa using hn)⟩⟩
def hMax(mn mx:Int):Int:=if mx<0 then 100000 else if cl mx<cl mn then cl mn else cl mx
theorem hMax_bd(a b:Int):cl a≤hMax a b∧hMax a b≤100000:=by have:=cl_bd a;have:=cl_bd b;unfold hMax;split;omega;split<;>omega
theorem infoWant:(prog.info? 246).map (fun i=>(i.zero,i.size,i.bytes))=some (some (.agg #[Iq 0,Iq 0,Iq 0]),3,24):=by kernel_rfl
theorem undWants:prog.underlying 150=some (.slice 246):=by kernel_rfl
theorem run_make3(n:Nat)(hn:n≤1099511627776)(w:World):(Instr.makeSlice 150 (Iq (n:Int)) (Iq (n:Int))).run prog w=.ok (Sq w.heap.size n n) (w.alloc (.cells (madeCells #[Iq 0,Iq 0,Iq 0] (n*3)) 246)):=by obtain⟨i,hi,hzz⟩:=Option.map_eq_some_iff.1 infoWant;simp only[Prod.mk.injEq]at hzz;obtain⟨hz,hs,hb⟩:=hzz;have hr:=run_make (P:=prog) w 150 246 i _ undWants hi hz .i64 .i64 n n (by omega) (Int.le_refl _) (by rw[hb];omega) (by omega);simp only[Int.toNat_natCast,hs]at hr;exact hr
def Part(w wr:World)(B n k:Nat)(a b c:Nat->Int):Prop:=Below w.heap.size w wr∧B<wr.heap.size∧(∀j,wr.frozen? ⟨B,j,none⟩=false)∧(∀j,j<n*3->∃v,wr.cell? ⟨B,j,none⟩=some v)∧∀j,j<k->wr.cell? ⟨B,0+j*3,none⟩=some (Iq (cl (a j)))∧wr.cell? ⟨B,0+j*3+1,none⟩=some (Iq (hMax (a j) (b j)))∧wr.cell? ⟨B,0+j*3+2,none⟩=some (Iq (cl (c j)))
theorem set_at(W:World)(B i j:Nat)(v:Value)(h:∃u,W.cell? ⟨B,i,none⟩=some u):(W.setCell ⟨B,i,none⟩ v).cell? ⟨B,j,none⟩=if j=i then some v else W.cell? ⟨B,j,none⟩:=by
 obtain⟨u,hu⟩:=h;by_cases e:j=i;·subst e;rw[if_pos rfl,World.cell?_setCell_same' _ _ _ (by rw[hu];rfl)]
 ·rw[if_neg e,World.cell?_setCell_other _ _ _ _ (fun h=>e (by injection h with h1 h2;exact h2.symm))]
theorem part_set{w wr:World}{n k:Nat}{a b c:Nat->Int}(h:Part w wr w.heap.size n k a b c)(hk:k<n)(x y z:Int)(hx:x=cl (a k))(hy:y=hMax (a k) (b k))(hz:z=cl (c k)):
 Part w (((wr.setCell ⟨w.heap.size,k*3,none⟩ (Iq x)).setCell ⟨w.heap.size,k*3+1,none⟩ (Iq y)).setCell ⟨w.heap.size,k*3+2,none⟩ (Iq z)) w.heap.size n (k+1) a b c:=by
 obtain⟨h1,h2,h3,h4,h5⟩:=h;subst hx hy hz;have key:∀j,(((wr.setCell ⟨w.heap.size,k*3,none⟩ (Iq (cl (a k)))).setCell ⟨w.heap.size,k*3+1,none⟩ (Iq (hMax (a k) (b k)))).setCell ⟨w.heap.size,k*3+2,none⟩ (Iq (cl (c k)))).cell? ⟨w.heap.size,j,none⟩
  =if j=k*3+2 then some (Iq (cl (c k)))else if j=k*3+1 then some (Iq (hMax (a k) (b k)))else if j=k*3 then some (Iq (cl (a k)))else wr.cell? ⟨w.heap.size,j,none⟩:=by intro j;obtain⟨v0,e0⟩:=h4 (k*3) (by omega);obtain⟨v1,e1⟩:=h4 (k*3+1) (by omega);obtain⟨v2,e2⟩:=h4 (k*3+2) (by omega);have s0:=fun j=>(set_at wr w.heap.size (k*3) j (Iq (cl (a k))) ⟨v0,e0⟩);have s1:=fun j=>(set_at (wr.setCell ⟨w.heap.size,k*3,none⟩ (Iq (cl (a k)))) w.heap.size (k*3+1) j (Iq (hMax (a k) (b k))) ⟨v1,by rw[s0,if_neg (by omega),e1]⟩);rw[set_at _ w.heap.size (k*3+2) j _ ⟨v2,by rw[s1,if_neg (by omega),s0,if_neg (by omega),e2]⟩,s1,s0]
 refine⟨?_,?_,?_,?_,?_⟩;·exact((h1.setCell (Nat.le_refl _) _).setCell (Nat.le_refl _) _).setCell (Nat.le_refl _) _
 ·simp;omega
 ·intro j;simp only[World.frozen?_setCell];exact h3 j
 ·intro j hj;rw[key];split;·exact⟨_,rfl⟩
  ·split;·exact⟨_,rfl⟩
   ·split;·exact⟨_,rfl⟩
    ·exact h4 j hj
 ·intro j hj;by_cases e:j=k
  ·subst e;refine⟨?_,?_,?_⟩;·rw[key,if_neg (by omega),if_neg (by omega),if_pos (by omega)]
   ·rw[key,if_neg (by omega),if_pos (by omega)]
   ·rw[key,if_pos (by omega)]
  ·obtain⟨q1,q2,q3⟩:=h5 j (by omega);refine⟨?_,?_,?_⟩<;>rw[key,if_neg (by omega),if_neg (by omega),if_neg (by omega)]<;>assumption
theorem part_alloc{w wr:World}{n k:Nat}{a b c:Nat->Int}(h:Part w wr w.heap.size n k a b c)(o:Obj):Part w (wr.alloc o) w.heap.size n k a b c:=by obtain⟨h1,h2,h3,h4,h5⟩:=h;have hA:∀j,(wr.alloc o).cell? ⟨w.heap.size,j,none⟩=wr.cell? ⟨w.heap.size,j,none⟩:=fun j=>World.cell?_alloc_past o _ _ h2;refine⟨h1.alloc (by omega) o,by simp;omega,fun j=>(World.frozen?_alloc_past o _ _ h2).trans (h3 j),fun j hj=>by rw[hA];exact h4 j hj,fun j hj=>by rw[hA,hA,hA];exact h5 j hj⟩
theorem part_next{w wr:World}{n k:Nat}{a b c:Nat->Int}(h:Part w wr w.heap.size n k a b c)(hk:k<n)(o:Obj)(x y z:Int)(hx:x=cl (a k))(hy:y=hMax (a k) (b k))(hz:z=cl (c k)):
 Part w ((((wr.setCell ⟨w.heap.size,k*3,none⟩ (Iq x)).setCell ⟨w.heap.size,k*3+1,none⟩ (Iq y)).setCell ⟨w.heap.size,k*3+2,none⟩ (Iq z)).alloc o) w.heap.size n (k+1) a b c:=
 part_alloc (part_set h hk x y z hx hy hz) o
theorem part_start(w:World)(n:Nat)(a b c:Nat->Int)(cs:Array Value)(t:TypeId)(hc:cs.size=n*3):Part w (w.alloc (.cells cs t)) w.heap.size n 0 a b c:=by refine⟨(Below.refl _ _).alloc (Nat.le_refl _) _,by simp,fun j=>World.frozen?_alloc_at _ _ _ _ rfl,fun j hj=>⟨cs[j]'(by omega),?_⟩,fun j hj=>by omega⟩;rw[World.cell?_alloc_at _ _ _ _ rfl,Array.getElem?_eq_getElem (by omega)]
theorem clampedWants_any(n:Nat)(blk off cap:Nat)(a b c:Nat->Int)(w:World)(h:WRow w blk off n a b c)(hn:n≤1099511627776):
 Calls prog 161 #[.slice (some ⟨blk,off,none⟩) n cap] w fun e w'=>e=.returned (Sq w.heap.size n n)∧WRow w' w.heap.size 0 n (fun j=>cl (a j)) (fun j=>hMax (a j) (b j)) (fun j=>cl (c j))∧Below w.heap.size w w':=by
 have HR:=qH<|h;have hblk:=h.1;clear h;have hmk:=run_make3 n hn;go_enter func161,ntmps161;go_wp2;go_loopw[13] (fun i wr=>∃k:Nat,i=Iq k∧k≤n∧Hid (Part w wr w.heap.size n k a b c)) (fun i _=>n-(intOf i).toNat);case atStart=>exact⟨0,rfl,Nat.zero_le _,part_start w n a b c _ _ (size_madeCells _ _)⟩
 case round=>
  obtain⟨k,rfl,hk,HP⟩:=hrel;have CC:=qH<|shClamped_any;have hP:=HP.out;by_cases hlt:k<n
  ·have hlt':(k:Int)<(n:Int):=by omega
   have hc:=HR.2 k hlt;obtain⟨a1,ha1⟩:=nmd (a k);obtain⟨a2,ha2⟩:=nmd (b k);obtain⟨a3,ha3⟩:=nmd (c k);rw[ha1,ha2,ha3]at hc;have hz:=Nat.lt_of_lt_of_le hblk hP.1.size;have ca1:=(hP.1.cell (p:=⟨blk,_,none⟩) hblk).trans hc.1;have ca2:=(hP.1.cell (p:=⟨blk,_,none⟩) hblk).trans hc.2.1;have ca3:=(hP.1.cell (p:=⟨blk,_,none⟩) hblk).trans hc.2.2;have hz2:=hP.2.1;have hfr:=hP.2.2.1;obtain⟨v0,e0⟩:=hP.2.2.2.1 (k*3) (by omega);obtain⟨v1,e1⟩:=hP.2.2.2.1 (k*3+1) (by omega);obtain⟨v2,e2⟩:=hP.2.2.2.1 (k*3+2) (by omega);have HA1:=qH<|ha1;have HA2:=qH<|ha2;have HA3:=qH<|ha3;clear hc hP ha1 ha2 ha3;by_cases hneg:a2<0
   ·have hneg':¬0≤a2:=by omega
    have HN:=qH<|
     fun o=>part_next HP hlt o _ _ _ (by rw[HA1.out]) (by unfold hMax;rw[HA2.out,if_pos hneg]) (by rw[HA3.out]);go_wp2_with(go_at_call 162;refine(CC _ _).mono ?_;rintro e w5 ⟨rfl,rfl⟩);go_roundw;case rel=>exact⟨k+1,by go_num,by omega,HN _⟩
    case measure=>simp[intOf];omega
   ·have hneg':0≤a2:=by omega
    by_cases hlm:cl a2<cl a1
    ·have hlm2:cl a2≤cl a1:=by omega
     have HN:=qH<|
      fun o=>part_next HP hlt o _ _ _ (by rw[HA1.out]) (by unfold hMax;rw[HA2.out,HA1.out,if_neg hneg,if_pos hlm]) (by rw[HA3.out]);go_wp2_with(go_at_call 162;refine(CC _ _).mono ?_;rintro e w5 ⟨rfl,rfl⟩);go_roundw;case rel=>exact⟨k+1,by go_num,by omega,HN _⟩
     case measure=>simp[intOf];omega
    ·have hlm2:cl a1≤cl a2:=by omega
     have HN:Hid (∀o,Part w ((((wr.setCell ⟨w.heap.size,k*3,none⟩ (Iq (cl a1))).setCell ⟨w.heap.size,k*3+1,none⟩ (Iq (if cl a1<cl a2 then cl a2 else cl a1))).setCell ⟨w.heap.size,k*3+2,none⟩ (Iq (cl a3))).alloc o) w.heap.size n (k+1) a b c):=
      fun o=>part_next HP hlt o _ _ _ (by rw[HA1.out]) (by unfold hMax;rw[HA2.out,HA1.out,if_neg hneg,if_neg hlm];split<;>omega) (by rw[HA3.out]);go_wp2_with(go_at_call 162;refine(CC _ _).mono ?_;rintro e w5 ⟨rfl,rfl⟩);go_roundw;case rel=>exact⟨k+1,by go_num,by omega,HN _⟩
     case measure=>simp[intOf];omega
  ·have hge:¬(k:Int)<(n:Int):=by omega
   obtain rfl:k=n:=by omega
   clear hP;go_wp2;go_ret;exact⟨rfl,⟨HP.2.1,HP.2.2.2.2⟩,HP.1⟩
end
end Go.Proofs.YtmbefonnkkhfgaaGreatDoor
