import Derived.Test.YtnponhbgicbkcaaGreatDoorC06
import Derived.Test.YtnponhbgicbkcaaGreatDoorC36
import Derived.Test.YtnponhbgicbkcaaGreatDoorC24
import Derived.BigCall
set_option linter.unusedVariables false
set_option maxRecDepth 100000
set_option maxHeartbeats 16000000
namespace Go.Proofs.YtnponhbgicbkcaaGreatDoor
section
open Go.RowKit
theorem zj5(n:Nat):Lib.repeatL [32] n=List.replicate n 32:=by
 induction n with
 | zero=>rfl
 | succ n ih=>simp[Lib.repeatL,ih,List.replicate_succ]
theorem zk2(n:Nat)(w:World)(hn:n≤140737488355328) :
 Calls Tryz.prog 203 #[.string ⟨#[32]⟩,.int .i64 n] w fun e w'=>e=.returned (.string ⟨(List.replicate n 32).toArray⟩)∧Below w.heap.size w w':=by
 refine (zj4 ⟨#[32]⟩ n w (by omega) (by show 1*n≤_;omega)).mono ?_
 rintro e w1 ⟨rfl,b⟩
 rw[show (⟨#[32]⟩:ByteArray).data.toList=[32] from rfl,zj5]
 exact⟨rfl,b⟩
theorem zjl(l:List (List UInt8×Int))(v:Value)(w:World)(hcl:Cls w v l)(hlen:l.length≤1099511627776)(hj:(z0m l).length≤70368744177664) :
 Calls Tryz.prog 204 #[v] w fun e w'=>e=.returned (.string ⟨(z0m l).toArray⟩)∧Below w.heap.size w w':=by
 obtain⟨a,cap,rfl,hh⟩:=hcl
 have HJT:Hid (∀k,(z0m (l.take k)).length≤(z0m l).length):=fun k=>zaf l k
 go_enter Tryz.func204,Tryz.ntmps204
 go_wp2
 go_loopw [8] (fun i wr=>∃k:Nat,k≤l.length∧i=.int .i64 k∧Hid (Lib.IsBuilderF 233 5 w.heap.size w.heap.size (Lib.byteCells (z0m (l.take k))) wr)∧Below w.heap.size w wr) (fun i _=>l.length - (intOf i).toNat)
 case atStart=>exact⟨0,Nat.zero_le _,rfl,Lib.IsBuilderF.of (Lib.fresh_isBuilder 233 5 w),(Below.refl _ _).alloc (Nat.le_refl _) _⟩
 case round =>
  obtain⟨k,hk,rfl,hI,hbw⟩:=hrel
  have hsz:=hbw.size
  by_cases hlt:k<l.length
  ·have hlt':(k:Int)<(l.length:Int):=by omega
   have hne:l≠[]:=fun e=>by rw[e] at hlt;simp at hlt
   obtain⟨b,off,rfl,hb,hc⟩:=hh.resolve_left hne
   obtain⟨T,V,hTV⟩:∃T V,l[k]=(T,V):=⟨_,_,rfl⟩
   have c0:wr.cell? ⟨b,off+k*2,none⟩=some (.string ⟨T.toArray⟩):=by
    have:=(hc k hlt).1;rw[hTV] at this;exact (hbw.cell (p:=⟨b,off+k*2,none⟩) hb).trans this
   have c1:wr.cell? ⟨b,off+k*2+1,none⟩=some (.int .i64 V):=by
    have:=(hc k hlt).2;rw[hTV] at this;exact (hbw.cell (p:=⟨b,off+k*2+1,none⟩) hb).trans this
   have HS:Hid (z0m (l.take (k+1))=z0m (l.take k)++T):=by show _=_;rw[zf3 l k hlt,hTV]
   have hj1:=HJT.out (k+1)
   rw[HS.out,List.length_append] at hj1
   have hTs:(⟨T.toArray⟩:ByteArray).size=T.length:=by simp[ByteArray.size]
   obtain⟨Y,hY⟩:∃Y,z0m (l.take k)=Y:=⟨_,rfl⟩
   rw[hY] at HS hj1 hI
   clear hh hc hTV hne hY
   go_wp2_with fail
   refine (za8 w.heap.size w.heap.size _ ⟨T.toArray⟩ _ (hI.out.alloc _) (by rw[Lib.byteCells_length,hTs];omega) (by simp;omega)).mono ?_
   rintro e W1 ⟨rfl,h1,b1,k1⟩
   have hb1:Below w.heap.size w W1:=(hbw.alloc hsz _).trans b1
   clear hI c0 c1 b1 k1
   go_wp2
   go_roundw
   case rel =>
    refine⟨k+1,by omega,by go_num,?_,hb1⟩
    show Lib.IsBuilderF _ _ _ _ _ _
    rw[HS.out,Lib.byteCells_append];exact Or.inr h1
   case measure=>simp[intOf];omega
  ·have hlt':¬(k:Int)<(l.length:Int):=by omega
   have HE:Hid (l.take k=l):=List.take_of_length_le (by omega)
   clear hh
   go_wp2_with fail
   refine (zjj w.heap.size w.heap.size (z0m (l.take k)) _ hI.out hsz).mono ?_
   rintro e W1 ⟨rfl,_,b1,_⟩
   go_wp2
   go_ret
   rw[HE.out]
   exact⟨rfl,hbw.trans b1⟩
def ClsO(B:Nat)(w:World)(v:Value)(l:List (List UInt8×Int)):Prop :=
 ∃a cap,v=.slice a l.length cap∧l.length≤cap∧cap≤maxLen∧(l=[]∨∃b off,a=some ⟨b,off,none⟩∧B≤b∧b<w.heap.size∧∀j (hj:j<l.length),w.cell? ⟨b,off+j*2,none⟩=some (.string ⟨(l[j]).1.toArray⟩)∧w.cell? ⟨b,off+j*2+1,none⟩=some (.int .i64 (l[j]).2)∧w.frozen? ⟨b,off+j*2,none⟩=false∧w.frozen? ⟨b,off+j*2+1,none⟩=false)
theorem ClsO.cls{B:Nat}{w:World}{v:Value}{l:List (List UInt8×Int)}(h:ClsO B w v l):Cls w v l:=by
 obtain⟨a,cap,rfl,_,_,hh⟩:=h
 refine⟨a,cap,rfl,hh.imp id ?_⟩
 rintro ⟨b,off,rfl,_,hb,hc⟩
 exact⟨b,off,rfl,hb,fun j hj=>⟨(hc j hj).1,(hc j hj).2.1⟩⟩
theorem zof{w:World}{B n:Nat}{e:TypeId}{v:Value}{l:List (List UInt8×Int)}(h:w.ownsRow B e 2 v n (z2a l)):ClsO B w v l:=by
 have hl:l.length=n:=by have:=h.1;rw[z6c] at this;omega
 have hC:=zkb h
 rcases h.2 with ⟨rfl,rfl⟩|⟨g,cap,cur,rfl,hB,hg,hcap,hmax,_⟩
 ·have hz:l=[]:=List.length_eq_zero_iff.1 hl
  subst hz
  exact⟨none,0,rfl,Nat.le_refl _,Nat.zero_le _,.inl rfl⟩
 ·obtain⟨a,cap',e1,hh⟩:=hC
  cases e1
  refine⟨_,_,rfl,by omega,hmax,hh.imp id ?_⟩
  rintro ⟨b,off,e2,hb,hc⟩
  cases e2
  exact⟨g,0,rfl,hB,hb,fun j hj=>⟨(hc j hj).1,(hc j hj).2,frozen_of_row _ _ _ _ _ hg,frozen_of_row _ _ _ _ _ hg⟩⟩
end
section
open Go.RowKit
def ClsC(w:World)(v:Value)(l:List (List UInt8×Int)):Prop :=
 ∃a cap,v=.slice a l.length cap∧l.length≤cap∧cap≤maxLen∧(l=[]∨∃b off,a=some ⟨b,off,none⟩∧b<w.heap.size∧∀j (hj:j<l.length),w.cell? ⟨b,off+j*2,none⟩=some (.string ⟨(l[j]).1.toArray⟩)∧w.cell? ⟨b,off+j*2+1,none⟩=some (.int .i64 (l[j]).2))
theorem ClsC.cls{w:World}{v:Value}{l:List (List UInt8×Int)}(h:ClsC w v l):Cls w v l:=by
 obtain⟨a,cap,rfl,_,_,hh⟩:=h
 exact⟨a,cap,rfl,hh⟩
theorem ClsC.below{w w':World}{v:Value}{l:List (List UInt8×Int)}(h:ClsC w v l)(hb:Below w.heap.size w w'):ClsC w' v l:=by
 obtain⟨a,cap,rfl,h1,h2,hh⟩:=h
 obtain⟨a',cap',e,hh'⟩:=(Cls.below ⟨a,cap,rfl,hh⟩ hb:Cls w' (.slice a l.length cap) l)
 cases e
 exact⟨a,cap,rfl,h1,h2,hh'⟩
theorem ClsO.clsC{B:Nat}{w:World}{v:Value}{l:List (List UInt8×Int)}(h:ClsO B w v l):ClsC w v l:=by
 obtain⟨a,cap,rfl,h1,h2,hh⟩:=h
 refine⟨a,cap,rfl,h1,h2,hh.imp id ?_⟩
 rintro ⟨b,off,rfl,_,hb,hc⟩
 exact⟨b,off,rfl,hb,fun j hj=>⟨(hc j hj).1,(hc j hj).2.1⟩⟩
theorem zog{w:World}{b off cap n:Nat}{l:List (List UInt8×Int)}(hb:b<w.heap.size)(hc:∀j (hj:j<l.length),w.cell? ⟨b,off+j*2,none⟩=some (.string ⟨(l[j]).1.toArray⟩)∧w.cell? ⟨b,off+j*2+1,none⟩=some (.int .i64 (l[j]).2))(hn:n≤l.length) :
 Cls w (.slice (some ⟨b,off,none⟩) n cap) (l.take n):=by
 refine⟨_,cap,by rw[List.length_take,Nat.min_eq_left hn],.inr ⟨b,off,rfl,hb,fun j hj=>?_⟩⟩
 rw[List.length_take] at hj
 have:=hc j (by omega)
 rw[List.getElem_take]
 exact this
theorem zaz(l:List (List UInt8×Int))(n:Nat)(hn:n≤l.length):∀k,k≤n->z1w (l.take n) k=z1w l k
 | 0,_=>rfl
 | k+1,h=>by
  have e:tx (l.take n) k=tx l k:=by simp[tx,show k<n by omega]
  simp only[z1w,e,zaz l n hn k (by omega)]
theorem z6h(l:List (List UInt8×Int))(v:Value)(W:Int)(w:World)(hcl:ClsC w v l)(hbd:∀c∈l,0≤c.2∧c.2≤2)(hlen:l.length≤1099511627776)(hW0:1≤W)(hW1:W≤9223372036854775807) :
 Calls Tryz.prog 185 #[v,.int .i64 W] w fun e w'=>e=.returned (.tuple #[.int .i64 (z0g l W).n,.int .i64 (z0g l W).d,.int .i64 (z0g l W).e])∧Below w.heap.size w w':=by
 have HF:Hid (Calls Tryz.prog 201 #[v,.int .i64 W] w fun e w'=>e=.returned (.int .i64 (fitN l W))∧Below w.heap.size w w'):=zev l v W w hcl.cls hbd hlen (by omega) hW1
 have hle:=z91 l W
 obtain⟨n,hn⟩:∃n,fitN l W=n:=⟨_,rfl⟩
 have HL:Hid (z0g l W=if n=l.length then ⟨n,0,3⟩
  else if tx l n=[10] then ⟨n,1,2⟩
  else if n=0 then ⟨1,0,1⟩
  else if tx l n=[32] then ⟨n,1,0⟩
  else if 0≤z1w l n then ⟨(z1w l n).toNat,1,0⟩
  else ⟨n,0,1⟩):=by show _=_;unfold z0g;rw[hn]
 rw[hn] at HF hle
 clear hn hbd
 have HCL:Hid (ClsC w v l):=hcl
 obtain⟨a,cap,rfl,hcap,hmax,hh⟩:=hcl
 go_enter Tryz.func185,Tryz.ntmps185
 go_wp2_with fail
 refine HF.out.mono ?_
 rintro e w1 ⟨rfl,b1⟩
 clear HF
 by_cases h1:n=l.length
 ·have HE:Hid (z0g l W=⟨n,0,3⟩):=by show _=_;rw[HL.out,if_pos h1]
  clear hh
  subst h1
  go_wp2
  go_ret3
  rw[HE.out]
  exact⟨rfl,b1⟩
 have hlt:n<l.length:=by omega
 have hne:l≠[]:=fun e=>by rw[e] at hlt;simp at hlt
 obtain⟨b,off,rfl,hb,hc⟩:=hh.resolve_left hne
 have hb':b<w1.heap.size:=Nat.lt_of_lt_of_le hb b1.size
 have hc1:Hid (∀j (hj:j<l.length),w1.cell? ⟨b,off+j*2,none⟩=some (.string ⟨(l[j]).1.toArray⟩)∧w1.cell? ⟨b,off+j*2+1,none⟩=some (.int .i64 (l[j]).2)) :=
  fun j hj=>⟨(b1.cell (p:=⟨b,off+j*2,none⟩) hb).trans (hc j hj).1,(b1.cell (p:=⟨b,off+j*2+1,none⟩) hb).trans (hc j hj).2⟩
 have HT:Hid (Cls w1 (.slice (some ⟨b,off,none⟩) n cap) (l.take n)):=zog hb' hc1.out (by omega)
 obtain⟨T,V,hTV⟩:∃T V,l[n]=(T,V):=⟨_,_,rfl⟩
 have c0:w1.cell? ⟨b,off+n*2,none⟩=some (.string ⟨T.toArray⟩):=by have:=(hc1.out n hlt).1;rw[hTV] at this;exact this
 have HX:Hid (tx l n=T):=by show _=_;rw[zqa hlt,hTV]
 have h1':(n:Int)<(l.length:Int):=by omega
 clear hh hc hTV hne
 by_cases h10:T=[10]
 ·have HE:Hid (z0g l W=⟨n,1,2⟩):=by show _=_;rw[HL.out,if_neg h1,if_pos (by rw[HX.out,h10])]
  have h10':(T==[10])=true:=by rw[h10];rfl
  go_wp2
  go_ret3
  rw[HE.out]
  exact⟨rfl,b1⟩
 have h10':(T==[10])=false:=by simpa using h10
 by_cases h0:n=0
 ·have HE:Hid (z0g l W=⟨1,0,1⟩):=by show _=_;rw[HL.out,if_neg h1,if_neg (by rw[HX.out];exact h10),if_pos h0]
  subst h0
  have c0':w1.cell? ⟨b,off,none⟩=some (.string ⟨T.toArray⟩):=by simpa using c0
  clear c0
  go_wp2
  go_ret3
  rw[HE.out]
  exact⟨rfl,b1⟩
 by_cases h32:T=[32]
 ·have HE:Hid (z0g l W=⟨n,1,0⟩):=by show _=_;rw[HL.out,if_neg h1,if_neg (by rw[HX.out];exact h10),if_neg h0,if_pos (by rw[HX.out,h32])]
  have h32':(T==[32])=true:=by rw[h32];rfl
  have h0':¬(n:Int)=0:=by omega
  go_wp2
  go_ret3
  rw[HE.out]
  exact⟨rfl,b1⟩
 have h32':(T==[32])=false:=by simpa using h32
 have h0':¬(n:Int)=0:=by omega
 have HB:=zbx (l.take n) _ w1 HT.out (by rw[List.length_take];omega)
 have hbn:=z8j l n
 rw[List.length_take,Nat.min_eq_left hle,zaz l n hle n (Nat.le_refl _)] at HB
 have HB':Hid (Calls Tryz.prog 202 #[.slice (some ⟨b,off,none⟩) n cap] w1 fun e w'=>e=.returned (.int .i64 (z1w l n))∧Below w1.heap.size w1 w'):=HB
 obtain⟨m,hm⟩:∃m,z1w l n=m:=⟨_,rfl⟩
 have HM:Hid (z1w l n=m):=hm
 rw[hm] at HB' hbn
 clear HB hm
 go_wp2_with fail
 refine HB'.out.mono ?_
 rintro e w2 ⟨rfl,b2⟩
 have hB:Below w.heap.size w w2:=b1.trans (b2.mono b1.size)
 clear HB' HT hc1 HCL
 by_cases hm0:0≤m
 ·have HE:Hid (z0g l W=⟨m.toNat,1,0⟩):=by show _=_;rw[HL.out,if_neg h1,if_neg (by rw[HX.out];exact h10),if_neg h0,if_neg (by rw[HX.out];exact h32),HM.out,if_pos hm0]
  have hmm:((m.toNat:Nat):Int)=m:=by omega
  have HMM:Hid (((m.toNat:Nat):Int)=m):=hmm
  clear hmm
  go_wp2
  go_ret3
  rw[HE.out]
  simp only[HMM.out]
  exact⟨rfl,hB⟩
 ·have HE:Hid (z0g l W=⟨n,0,1⟩):=by show _=_;rw[HL.out,if_neg h1,if_neg (by rw[HX.out];exact h10),if_neg h0,if_neg (by rw[HX.out];exact h32),HM.out,if_neg hm0]
  have hm0':m<0:=by omega
  go_wp2
  go_ret3
  rw[HE.out]
  exact⟨rfl,hB⟩
theorem row5{w:World}{B:Nat}{t:TypeId}{a0 a1 a2 a3 a4 b0 b1 b2 b3 b4:Value}(h:w.heap[B]?=some (.cells #[a0,a1,a2,a3,a4] t (0,0))) :
 (((((w.setCell ⟨B,0,none⟩ b0).setCell ⟨B,1,none⟩ b1).setCell ⟨B,2,none⟩ b2).setCell ⟨B,3,none⟩ b3).setCell ⟨B,4,none⟩ b4).heap[B]?=some (.cells #[b0,b1,b2,b3,b4] t (0,0)):=by
 rw[heap_setCell_same _ _ _ _ _ _ (heap_setCell_same _ _ _ _ _ _ (heap_setCell_same _ _ _ _ _ _ (heap_setCell_same _ _ _ _ _ _ (heap_setCell_same _ _ _ _ _ _ h))))]
 rfl
def zsj(T:List UInt8)(W:Int)(F N E:Int):Value:=.agg #[.string ⟨T.toArray⟩,.int .i64 W,.int .i64 F,.int .i64 N,.int .i64 E]
def zdq(l:List (List UInt8×Int))(W:Int):Value:=if W<z05 l then zsj (List.replicate W.toNat 32) W 0 1 0 else zsj (z0m l) (z05 l) 0 l.length 0
theorem zb0(l:List (List UInt8×Int))(v:Value)(W:Int)(w:World)(hcl:Cls w v l)(hbd:∀c∈l,0≤c.2∧c.2≤2)(hlen:l.length≤1099511627776)(hj:(z0m l).length≤70368744177664)(hW0:1≤W)(hW1:W<z05 l->W≤1099511627776) :
 Calls Tryz.prog 186 #[v,.int .i64 W] w fun e w'=>e=.returned (zdq l W)∧Below w.heap.size w w':=by
 have HBD:Hid (∀c∈l,0≤c.2∧c.2≤2):=hbd
 have hall:=z27 l hbd l.length
 rw[List.take_length] at hall
 have HCL:Hid (Cls w v l):=hcl
 obtain⟨a,cap,rfl,hh⟩:=hcl
 clear hbd
 go_enter Tryz.func186,Tryz.ntmps186
 go_wp2
 go_loopw [5,10] (fun t i wr=>∃k:Nat,k≤l.length∧i=.int .i64 k∧t=.int .i64 (z05 (l.take k))∧Below w.heap.size w wr∧w.heap.size<wr.heap.size∧wr.heap[w.heap.size]?=some (.cells #[.string ⟨#[]⟩,.int .i64 0,.int .i64 0,.int .i64 0,.int .i64 0] 267)) (fun _ i _=>l.length - (intOf i).toNat)
 case atStart=>exact⟨0,Nat.zero_le _,rfl,rfl,(Below.refl _ _).alloc (Nat.le_refl _) _,by simp,heap_alloc_new _ _⟩
 case round =>
  obtain⟨k,hk,rfl,rfl,hbw,hsw,hrow⟩:=hrel
  have hwb:=z27 l HBD.out k
  have hsz:=hbw.size
  by_cases hlt:k<l.length
  ·have hlt':(k:Int)<(l.length:Int):=by omega
   have hne:l≠[]:=fun e=>by rw[e] at hlt;simp at hlt
   obtain⟨b,off,rfl,hb,hc⟩:=hh.resolve_left hne
   obtain⟨T,V,hTV⟩:∃T V,l[k]=(T,V):=⟨_,_,rfl⟩
   have hV:=HBD.out l[k] (List.getElem_mem hlt)
   have c0:wr.cell? ⟨b,off+k*2,none⟩=some (.string ⟨T.toArray⟩):=by
    have:=(hc k hlt).1;rw[hTV] at this;exact (hbw.cell (p:=⟨b,off+k*2,none⟩) hb).trans this
   have c1:wr.cell? ⟨b,off+k*2+1,none⟩=some (.int .i64 V):=by
    have:=(hc k hlt).2;rw[hTV] at this;exact (hbw.cell (p:=⟨b,off+k*2+1,none⟩) hb).trans this
   have HS:Hid (z05 (l.take (k+1))=z05 (l.take k)+V):=by show _=_;rw[z2y l k hlt,hTV]
   rw[hTV] at hV
   obtain⟨X,hX⟩:∃X,z05 (l.take k)=X:=⟨_,rfl⟩
   rw[hX] at HS hwb
   rw[hX]
   simp only at hV
   have HROW:Hid (wr.heap[w.heap.size]?=some (.cells #[.string ⟨#[]⟩,.int .i64 0,.int .i64 0,.int .i64 0,.int .i64 0] 267)):=hrow
   clear hh hc hTV hX hne hrow
   go_wp2
   go_roundw
   case rel=>exact⟨k+1,by omega,by go_num,by rw[HS.out],hbw.alloc hsz _,by simp;omega,(((Below.refl wr.heap.size wr).alloc (Nat.le_refl _) _).block w.heap.size hsw).trans HROW.out⟩
   case measure=>simp[intOf];omega
  ·have hlt':¬(k:Int)<(l.length:Int):=by omega
   have e:l.take k=l:=List.take_of_length_le (by omega)
   rw[e] at hwb ⊢
   have HROW:Hid (wr.heap[w.heap.size]?=some (.cells #[.string ⟨#[]⟩,.int .i64 0,.int .i64 0,.int .i64 0,.int .i64 0] 267)):=hrow
   have HCL2:Hid (Cls wr (.slice a l.length cap) l):=HCL.out.below hbw
   have HJ:Hid (Calls Tryz.prog 204 #[.slice a l.length cap] wr fun e w'=>e=.returned (.string ⟨(z0m l).toArray⟩)∧Below wr.heap.size wr w'):=zjl l _ wr HCL2.out hlen hj
   obtain⟨X,hX⟩:∃X,z05 l=X:=⟨_,rfl⟩
   have HXE:Hid (z05 l=X):=hX
   rw[hX] at hwb hall hW1 ⊢
   obtain⟨J,hJ⟩:∃J,z0m l=J:=⟨_,rfl⟩
   have HJE:Hid (z0m l=J):=hJ
   rw[hJ] at HJ
   clear e hh hrow hX hJ hj
   by_cases hgt:W<X
   ·obtain⟨c,hc⟩:∃c:Nat,W=c:=⟨W.toNat,by omega⟩
    have hW2:=hW1 hgt
    subst hc
    have HR:Hid (Calls Tryz.prog 203 #[.string ⟨#[32]⟩,.int .i64 c] wr fun e w'=>e=.returned (.string ⟨(List.replicate c 32).toArray⟩)∧Below wr.heap.size wr w'):=zk2 c wr (by omega)
    obtain⟨Y,hY⟩:∃Y,List.replicate c (32:UInt8)=Y:=⟨_,rfl⟩
    have HY:Hid (List.replicate c (32:UInt8)=Y):=hY
    rw[hY] at HR
    clear hY hW1
    go_wp2_with fail
    refine HR.out.mono ?_
    rintro e w2 ⟨rfl,b2⟩
    have hs2:=b2.size
    have hr2:=(b2.block w.heap.size hsw).trans HROW.out
    have hlt2:w.heap.size<w2.heap.size:=by omega
    have q0:w2.cell? ⟨w.heap.size,0,none⟩=some (.string ⟨#[]⟩):=by simp[World.cell?,hr2]
    have q1:w2.cell? ⟨w.heap.size,1,none⟩=some (.int .i64 0):=by simp[World.cell?,hr2]
    have q2:w2.cell? ⟨w.heap.size,2,none⟩=some (.int .i64 0):=by simp[World.cell?,hr2]
    have q3:w2.cell? ⟨w.heap.size,3,none⟩=some (.int .i64 0):=by simp[World.cell?,hr2]
    have q4:w2.cell? ⟨w.heap.size,4,none⟩=some (.int .i64 0):=by simp[World.cell?,hr2]
    have fr:∀j,w2.frozen? ⟨w.heap.size,j,none⟩=false:=fun j=>frozen_of_row _ _ _ _ _ hr2
    have HR2:Hid (w2.heap[w.heap.size]?=some (.cells #[.string ⟨#[]⟩,.int .i64 0,.int .i64 0,.int .i64 0,.int .i64 0] 267)):=hr2
    clear hr2 HR HJ HCL2 HCL HROW
    go_wp2
    try simp only[Exit.inBlock,Exit.then]
    refine bodyPost_ret (results_cell_row rfl _ _ w.heap.size _ _ _ _ rfl (row5 HR2.out) Tryz.underlying267 rfl (by kernel_rfl)) rfl ?_
    rw[zdq,HXE.out,if_pos hgt]
    refine⟨?_,?_⟩
    ·rw[show ((c:Int)).toNat=c from rfl,HY.out];rfl
    ·have hB2:Below w.heap.size w w2:=hbw.trans (b2.mono hsz)
     exact ((((hB2.setCell (p:=⟨w.heap.size,0,none⟩) (Nat.le_refl _) _).setCell (p:=⟨w.heap.size,1,none⟩) (Nat.le_refl _) _).setCell (p:=⟨w.heap.size,2,none⟩) (Nat.le_refl _) _).setCell (p:=⟨w.heap.size,3,none⟩) (Nat.le_refl _) _).setCell (p:=⟨w.heap.size,4,none⟩) (Nat.le_refl _) _
   ·go_wp2_with fail
    refine HJ.out.mono ?_
    rintro e w2 ⟨rfl,b2⟩
    have hs2:=b2.size
    have hr2:=(b2.block w.heap.size hsw).trans HROW.out
    have hlt2:w.heap.size<w2.heap.size:=by omega
    have q0:w2.cell? ⟨w.heap.size,0,none⟩=some (.string ⟨#[]⟩):=by simp[World.cell?,hr2]
    have q1:w2.cell? ⟨w.heap.size,1,none⟩=some (.int .i64 0):=by simp[World.cell?,hr2]
    have q2:w2.cell? ⟨w.heap.size,2,none⟩=some (.int .i64 0):=by simp[World.cell?,hr2]
    have q3:w2.cell? ⟨w.heap.size,3,none⟩=some (.int .i64 0):=by simp[World.cell?,hr2]
    have q4:w2.cell? ⟨w.heap.size,4,none⟩=some (.int .i64 0):=by simp[World.cell?,hr2]
    have fr:∀j,w2.frozen? ⟨w.heap.size,j,none⟩=false:=fun j=>frozen_of_row _ _ _ _ _ hr2
    have HR2:Hid (w2.heap[w.heap.size]?=some (.cells #[.string ⟨#[]⟩,.int .i64 0,.int .i64 0,.int .i64 0,.int .i64 0] 267)):=hr2
    clear hr2 HJ HCL2 HCL HROW
    go_wp2
    try simp only[Exit.inBlock,Exit.then]
    refine bodyPost_ret (results_cell_row rfl _ _ w.heap.size _ _ _ _ rfl (row5 HR2.out) Tryz.underlying267 rfl (by kernel_rfl)) rfl ?_
    rw[zdq,HXE.out,HJE.out,if_neg (by omega)]
    refine⟨rfl,?_⟩
    have hB2:Below w.heap.size w w2:=hbw.trans (b2.mono hsz)
    exact ((((hB2.setCell (p:=⟨w.heap.size,0,none⟩) (Nat.le_refl _) _).setCell (p:=⟨w.heap.size,1,none⟩) (Nat.le_refl _) _).setCell (p:=⟨w.heap.size,2,none⟩) (Nat.le_refl _) _).setCell (p:=⟨w.heap.size,3,none⟩) (Nat.le_refl _) _).setCell (p:=⟨w.heap.size,4,none⟩) (Nat.le_refl _) _
end
end Go.Proofs.YtnponhbgicbkcaaGreatDoor
