import Derived.Test.YtnponhbgicbkcaaGreatDoorL00
import Derived.Test.YtnponhbgicbkcaaGreatDoorL04
import Derived.Test.YtnponhbgicbkcaaGreatDoorL31
set_option linter.unusedVariables false
set_option maxRecDepth 100000
set_option maxHeartbeats 16000000
namespace Go.Proofs.YtnponhbgicbkcaaGreatDoor
section
open Go.RowKit Go.Proofs.Tryz
theorem repeat_one n :Lib.repeatL [32] n=List.replicate n 32:=by
 induction n with
 |zero=>rfl
 |succ n ih=>simp[Lib.repeatL,ih,List.replicate_succ]
theorem blank_any(n:Nat) w (hn:n≤140737488355328):
 Calls prog 203 #[.string ⟨#[32]⟩,Iq n] w fun e w'=>e=.returned (.string ⟨(List.replicate n 32).toArray⟩)∧Below w.heap.size w w':=by refine(repeat_lib ⟨#[32]⟩ n w (by omega) (by show 1*n≤_;omega)).mono ?_;rintro e w1 ⟨rfl,b⟩;rw[show(⟨#[32]⟩:ByteArray).data.toList=[32]from rfl,repeat_one];exact⟨rfl,b⟩
theorem textOf_any l  v  w (hcl:Cls w v l)(hlen:l.length≤1099511627776)(hj:(joined l).length≤70368744177664):
 Calls prog 204 #[v] w fun e w'=>e=.returned (.string ⟨(joined l).toArray⟩)∧Below w.heap.size w w':=by
 obtain⟨a,cap,rfl,hh⟩:=hcl;have HJT:=qH<|fun k=>joined_take_le l k;go_enter func204,ntmps204;go_wp2;go_loopw[8] (fun i wr=>∃k:Nat,k≤l.length∧i=Iq k∧Hid (Lib.IsBuilderF 233 5 w.heap.size w.heap.size (Lib.byteCells (joined (l.take k))) wr)∧Below w.heap.size w wr) (fun i _=>l.length-(intOf i).toNat);case atStart=>exact⟨0,Nat.zero_le _,rfl,Lib.IsBuilderF.of (Lib.fresh_isBuilder 233 5 w),(Below.refl _ _).alloc (Nat.le_refl _) _⟩
 case round=>
  obtain⟨k,hk,rfl,hI,hbw⟩:=hrel;have hsz:=hbw.size;by_cases hlt:k<l.length
  ·have hlt':(k:Int)<(l.length:Int):=by omega
   have hne:l≠[]:=fun e=>by rw[e]at hlt;simp at hlt
   obtain⟨b,off,rfl,hb,hc⟩:=hh.resolve_left hne;obtain⟨T,V,hTV⟩:∃T V,l[k]=(T,V):=⟨_,_,rfl⟩;have c0:wr.cell? ⟨b,off+k*2,none⟩=some (.string ⟨T.toArray⟩):=by have:=(hc k hlt).1;rw[hTV]at this;exact(hbw.cell (p:=⟨b,off+k*2,none⟩) hb).trans this
   have c1:wr.cell? ⟨b,off+k*2+1,none⟩=some (Iq V):=by have:=(hc k hlt).2;rw[hTV]at this;exact(hbw.cell (p:=⟨b,off+k*2+1,none⟩) hb).trans this
   have HS:Hid (joined (l.take (k+1))=joined (l.take k)++T):=by show _=_;rw[joined_snoc l k hlt,hTV]
   have hj1:=HJT (k+1);rw[HS.out,List.length_append]at hj1;have hTs:(⟨T.toArray⟩:ByteArray).size=T.length:=by simp[ByteArray.size]
   obtain⟨Y,hY⟩:=nmd (joined (l.take k));rw[hY]at HS hj1 hI;clear hh hc hTV hne hY;go_wp2_with fail;refine(writeString_lib w.heap.size w.heap.size _ ⟨T.toArray⟩ _ (hI.alloc _) (by rw[Lib.byteCells_length,hTs];omega) (by simp;omega)).mono ?_;rintro e W1 ⟨rfl,h1,b1,k1⟩;have hb1:=(hbw.alloc hsz _).trans b1;clear hI c0 c1 b1 k1;go_wp2;go_roundw;case rel=>refine⟨k+1,by omega,by go_num,?_,hb1⟩;show Lib.IsBuilderF _ _ _ _ _ _;rw[HS.out,Lib.byteCells_append];exact Or.inr h1
   case measure=>simp[intOf];omega
  ·have hlt':¬(k:Int)<(l.length:Int):=by omega
   have HE:Hid (l.take k=l):=List.take_of_length_le (by omega);clear hh;go_wp2_with fail;refine(string_lib w.heap.size w.heap.size (joined (l.take k)) _ hI hsz).mono ?_;rintro e W1 ⟨rfl,_,b1,_⟩;go_wp2;go_ret;rw[HE.out];exact⟨rfl,hbw.trans b1⟩
def ClsO(B:Nat)(w:World)(v:Value)(l:List (List UInt8×Int)):Prop:=
 ∃a cap,v=.slice a l.length cap∧l.length≤cap∧cap≤maxLen∧(l=[]∨∃b off,a=some ⟨b,off,none⟩∧B≤b∧b<w.heap.size∧∀j (hj:j<l.length),w.cell? ⟨b,off+j*2,none⟩=some (.string ⟨(l[j]).1.toArray⟩)∧w.cell? ⟨b,off+j*2+1,none⟩=some (Iq (l[j]).2)∧w.frozen? ⟨b,off+j*2,none⟩=false∧w.frozen? ⟨b,off+j*2+1,none⟩=false)
theorem ClsO.cls{B}{w}{v}{l}(h:ClsO B w v l):Cls w v l:=by obtain⟨a,cap,rfl,_,_,hh⟩:=h;refine⟨a,cap,rfl,hh.imp id ?_⟩;rintro⟨b,off,rfl,_,hb,hc⟩;exact⟨b,off,rfl,hb,fun j hj=>⟨(hc j hj).1,(hc j hj).2.1⟩⟩
theorem clsO_own{w}{B n}{e}{v}{l}(h:w.ownsRow B e 2 v n (cCells l)):ClsO B w v l:=by
 have hl:l.length=n:=by have:=h.1;rw[cCells_length]at this;omega
 have hC:=cls_own h;rcases h.2 with⟨rfl,rfl⟩|⟨g,cap,cur,rfl,hB,hg,hcap,hmax,_⟩;·have hz:=List.length_eq_zero_iff.1 hl;subst hz;exact⟨none,0,rfl,Nat.le_refl _,Nat.zero_le _,.inl rfl⟩
 ·obtain⟨a,cap',e1,hh⟩:=hC;cases e1;refine⟨_,_,rfl,by omega,hmax,hh.imp id ?_⟩;rintro⟨b,off,e2,hb,hc⟩;cases e2;exact⟨g,0,rfl,hB,hb,fun j hj=>⟨(hc j hj).1,(hc j hj).2,frozen_of_row _ _ _ _ _ hg,frozen_of_row _ _ _ _ _ hg⟩⟩
def ClsC(w:World)(v:Value)(l:List (List UInt8×Int)):Prop:=
 ∃a cap,v=.slice a l.length cap∧l.length≤cap∧cap≤maxLen∧(l=[]∨∃b off,a=some ⟨b,off,none⟩∧b<w.heap.size∧∀j (hj:j<l.length),w.cell? ⟨b,off+j*2,none⟩=some (.string ⟨(l[j]).1.toArray⟩)∧w.cell? ⟨b,off+j*2+1,none⟩=some (Iq (l[j]).2))
theorem ClsC.cls{w}{v}{l}(h:ClsC w v l):Cls w v l:=by obtain⟨a,cap,rfl,_,_,hh⟩:=h;exact⟨a,cap,rfl,hh⟩
theorem ClsC.below{w w'}{v}{l}(h:ClsC w v l)(hb:Below w.heap.size w w'):ClsC w' v l:=by obtain⟨a,cap,rfl,h1,h2,hh⟩:=h;obtain⟨a',cap',e,hh'⟩:=(Cls.below ⟨a,cap,rfl,hh⟩ hb:Cls w' (.slice a l.length cap) l);cases e;exact⟨a,cap,rfl,h1,h2,hh'⟩
theorem ClsO.clsC{B}{w}{v}{l}(h:ClsO B w v l):ClsC w v l:=by obtain⟨a,cap,rfl,h1,h2,hh⟩:=h;refine⟨a,cap,rfl,h1,h2,hh.imp id ?_⟩;rintro⟨b,off,rfl,_,hb,hc⟩;exact⟨b,off,rfl,hb,fun j hj=>⟨(hc j hj).1,(hc j hj).2.1⟩⟩
theorem cls_take{w}{b off cap n}{l:List (List UInt8×Int)}(hb:b<w.heap.size)(hc:∀j (hj:j<l.length),w.cell? ⟨b,off+j*2,none⟩=some (.string ⟨(l[j]).1.toArray⟩)∧w.cell? ⟨b,off+j*2+1,none⟩=some (Iq (l[j]).2))(hn:n≤l.length):
 Cls w (.slice (some ⟨b,off,none⟩) n cap) (l.take n):=by refine⟨_,cap,by rw[List.length_take,Nat.min_eq_left hn],.inr ⟨b,off,rfl,hb,fun j hj=>?_⟩⟩;rw[List.length_take]at hj;have:=hc j (by omega);rw[List.getElem_take];exact this
theorem lastB_take l  n (hn:n≤l.length):∀k,k≤n->lastB (l.take n) k=lastB l k
 |0,_=>rfl
 |k+1,h=>by
  have e:tx (l.take n) k=tx l k:=by simp[tx,show k<n by omega]
  simp only[lastB,e,lastB_take l n hn k (by omega)]
theorem firstLine_any l  v  W  w (hcl:ClsC w v l)(hbd:∀c∈l,0≤c.2∧c.2≤2)(hlen:l.length≤1099511627776)(hW0:1≤W)(hW1:W≤9223372036854775807):
 Calls prog 185 #[v,Iq W] w fun e w'=>e=.returned (.tuple #[Iq (firstL l W).n,Iq (firstL l W).d,Iq (firstL l W).e])∧Below w.heap.size w w':=by
 have HF:=qH<|fitting_any l v W w hcl.cls hbd hlen (by omega) hW1;have hle:=fitN_le l W;obtain⟨n,hn⟩:=nmd (fitN l W);have HL:Hid (firstL l W=if n=l.length then⟨n,0,3⟩
  else if tx l n=[10]then⟨n,1,2⟩
  else if n=0 then⟨1,0,1⟩
  else if tx l n=[32]then⟨n,1,0⟩
  else if 0≤lastB l n then⟨(lastB l n).toNat,1,0⟩
  else⟨n,0,1⟩):=by show _=_;unfold firstL;rw[hn]
 rw[hn]at HF hle;obtain⟨a,cap,rfl,hcap,hmax,hh⟩:=hcl;go_enter func185,ntmps185;go_wp2_with fail;refine HF.mono ?_;rintro e w1 ⟨rfl,b1⟩;by_cases h1:n=l.length
 ·have HE:Hid (firstL l W=⟨n,0,3⟩):=by show _=_;rw[HL.out,if_pos h1]
  subst h1;go_wp2;go_ret3;rw[HE.out];exact⟨rfl,b1⟩
 have hlt:n<l.length:=by omega
 have hne:l≠[]:=fun e=>by rw[e]at hlt;simp at hlt
 obtain⟨b,off,rfl,hb,hc⟩:=hh.resolve_left hne;have hb':=Nat.lt_of_lt_of_le hb b1.size;have hc1:Hid (∀j (hj:j<l.length),w1.cell? ⟨b,off+j*2,none⟩=some (.string ⟨(l[j]).1.toArray⟩)∧w1.cell? ⟨b,off+j*2+1,none⟩=some (Iq (l[j]).2)):=
  fun j hj=>⟨(b1.cell (p:=⟨b,off+j*2,none⟩) hb).trans (hc j hj).1,(b1.cell (p:=⟨b,off+j*2+1,none⟩) hb).trans (hc j hj).2⟩;have HT:Hid (Cls w1 (.slice (some ⟨b,off,none⟩) n cap) (l.take n)):=cls_take hb' hc1 (by omega);obtain⟨T,V,hTV⟩:∃T V,l[n]=(T,V):=⟨_,_,rfl⟩;have c0:w1.cell? ⟨b,off+n*2,none⟩=some (.string ⟨T.toArray⟩):=by have:=(hc1 n hlt).1;rw[hTV]at this;exact this
 have HX:Hid (tx l n=T):=by show _=_;rw[tx_at hlt,hTV]
 by_cases h10:T=[10]
 ·have HE:Hid (firstL l W=⟨n,1,2⟩):=by show _=_;rw[HL.out,if_neg h1,if_pos (by rw[HX.out,h10])]
  go_wp2;go_ret3;rw[HE.out];exact⟨rfl,b1⟩
 have h10':(T==[10])=false:=by simpa using h10
 by_cases h0:n=0
 ·have HE:Hid (firstL l W=⟨1,0,1⟩):=by show _=_;rw[HL.out,if_neg h1,if_neg (by rw[HX.out];exact h10),if_pos h0]
  subst h0;have c0':w1.cell? ⟨b,off,none⟩=some (.string ⟨T.toArray⟩):=by simpa using c0
  go_wp2;go_ret3;rw[HE.out];exact⟨rfl,b1⟩
 by_cases h32:T=[32]
 ·have HE:Hid (firstL l W=⟨n,1,0⟩):=by show _=_;rw[HL.out,if_neg h1,if_neg (by rw[HX.out];exact h10),if_neg h0,if_pos (by rw[HX.out,h32])]
  go_wp2;go_ret3;rw[HE.out];exact⟨rfl,b1⟩
 have h32':(T==[32])=false:=by simpa using h32
 have HB:=lastBlank_any (l.take n) _ w1 HT (by rw[List.length_take];omega);have hbn:=lastB_lt l n;rw[List.length_take,Nat.min_eq_left hle,lastB_take l n hle n (Nat.le_refl _)]at HB;have HB':=qH<|HB;obtain⟨m,hm⟩:=nmd (lastB l n);have HM:=qH<|hm;rw[hm]at HB' hbn;go_wp2_with fail;refine HB'.mono ?_;rintro e w2 ⟨rfl,b2⟩;have hB:=b1.trans (b2.mono b1.size);by_cases hm0:0≤m
 ·have HE:Hid (firstL l W=⟨m.toNat,1,0⟩):=by show _=_;rw[HL.out,if_neg h1,if_neg (by rw[HX.out];exact h10),if_neg h0,if_neg (by rw[HX.out];exact h32),HM.out,if_pos hm0]
  have hmm:((m.toNat:Nat):Int)=m:=by omega
  have HMM:=qH<|hmm;go_wp2;go_ret3;rw[HE.out];simp only[HMM.out];exact⟨rfl,hB⟩
 ·have HE:Hid (firstL l W=⟨n,0,1⟩):=by show _=_;rw[HL.out,if_neg h1,if_neg (by rw[HX.out];exact h10),if_neg h0,if_neg (by rw[HX.out];exact h32),HM.out,if_neg hm0]
  go_wp2;go_ret3;rw[HE.out];exact⟨rfl,hB⟩
theorem row5{w:World}{B}{t}{a0 a1 a2 a3 a4 b0 b1 b2 b3 b4}(h:w.heap[B]?=some (.cells #[a0,a1,a2,a3,a4] t (0,0))):
 (((((w.setCell ⟨B,0,none⟩ b0).setCell ⟨B,1,none⟩ b1).setCell ⟨B,2,none⟩ b2).setCell ⟨B,3,none⟩ b3).setCell ⟨B,4,none⟩ b4).heap[B]?=some (.cells #[b0,b1,b2,b3,b4] t (0,0)):=by rw[heap_setCell_same _ _ _ _ _ _ (heap_setCell_same _ _ _ _ _ _ (heap_setCell_same _ _ _ _ _ _ (heap_setCell_same _ _ _ _ _ _ (heap_setCell_same _ _ _ _ _ _ h))))];rfl
def lineV(T:List UInt8)(W:Int)(F N E:Int):Value:=.agg #[.string ⟨T.toArray⟩,Iq W,Iq F,Iq N,Iq E]
def lineO(l:List (List UInt8×Int))(W:Int):Value:=if W<wideSum l then lineV (List.replicate W.toNat 32) W 0 1 0 else lineV (joined l) (wideSum l) 0 l.length 0
theorem lineOf_any l  v  W  w (hcl:Cls w v l)(hbd:∀c∈l,0≤c.2∧c.2≤2)(hlen:l.length≤1099511627776)(hj:(joined l).length≤70368744177664)(hW0:1≤W)(hW1:W<wideSum l->W≤1099511627776):
 Calls prog 186 #[v,Iq W] w fun e w'=>e=.returned (lineO l W)∧Below w.heap.size w w':=by
 have HBD:=qH<|hbd;have hall:=wideSum_bd l hbd l.length;rw[List.take_length]at hall;have HCL:=qH<|hcl;obtain⟨a,cap,rfl,hh⟩:=hcl;go_enter func186,ntmps186;go_wp2;go_loopw[5,10] (fun t i wr=>∃k:Nat,k≤l.length∧i=Iq k∧t=Iq (wideSum (l.take k))∧Below w.heap.size w wr∧w.heap.size<wr.heap.size∧wr.heap[w.heap.size]?=some (.cells #[.string ⟨#[]⟩,Iq 0,Iq 0,Iq 0,Iq 0] 267)) (fun _ i _=>l.length-(intOf i).toNat);case atStart=>exact⟨0,Nat.zero_le _,rfl,rfl,(Below.refl _ _).alloc (Nat.le_refl _) _,by simp,heap_alloc_new _ _⟩
 case round=>
  obtain⟨k,hk,rfl,rfl,hbw,hsw,hrow⟩:=hrel;have hwb:=wideSum_bd l HBD k;have hsz:=hbw.size;by_cases hlt:k<l.length
  ·have hlt':(k:Int)<(l.length:Int):=by omega
   have hne:l≠[]:=fun e=>by rw[e]at hlt;simp at hlt
   obtain⟨b,off,rfl,hb,hc⟩:=hh.resolve_left hne;obtain⟨T,V,hTV⟩:∃T V,l[k]=(T,V):=⟨_,_,rfl⟩;have hV:=HBD l[k] (List.getElem_mem hlt);have c0:wr.cell? ⟨b,off+k*2,none⟩=some (.string ⟨T.toArray⟩):=by have:=(hc k hlt).1;rw[hTV]at this;exact(hbw.cell (p:=⟨b,off+k*2,none⟩) hb).trans this
   have c1:wr.cell? ⟨b,off+k*2+1,none⟩=some (Iq V):=by have:=(hc k hlt).2;rw[hTV]at this;exact(hbw.cell (p:=⟨b,off+k*2+1,none⟩) hb).trans this
   have HS:Hid (wideSum (l.take (k+1))=wideSum (l.take k)+V):=by show _=_;rw[wideSum_snoc l k hlt,hTV]
   rw[hTV]at hV;obtain⟨X,hX⟩:=nmd (wideSum (l.take k));rw[hX]at HS hwb;rw[hX];simp only at hV;have HROW:=qH<|hrow;go_wp2;go_roundw;case rel=>exact⟨k+1,by omega,by go_num,by rw[HS.out],hbw.alloc hsz _,by simp;omega,(((Below.refl wr.heap.size wr).alloc (Nat.le_refl _) _).block w.heap.size hsw).trans HROW⟩
   case measure=>simp[intOf];omega
  ·have hlt':¬(k:Int)<(l.length:Int):=by omega
   have e:l.take k=l:=List.take_of_length_le (by omega);rw[e]at hwb⊢;have HROW:=qH<|hrow;have HCL2:=qH<|HCL.below hbw;have HJ:=qH<|textOf_any l _ wr HCL2 hlen hj;obtain⟨X,hX⟩:=nmd (wideSum l);have HXE:=qH<|hX;rw[hX]at hwb hall hW1⊢;obtain⟨J,hJ⟩:=nmd (joined l);have HJE:=qH<|hJ;rw[hJ]at HJ;by_cases hgt:W<X
   ·obtain⟨c,hc⟩:∃c:Nat,W=c:=⟨W.toNat,by omega⟩;subst hc;have HR:=qH<|blank_any c wr (by omega);obtain⟨Y,hY⟩:=nmd (List.replicate c (32:UInt8));have HY:=qH<|hY;rw[hY]at HR;go_wp2_with fail;refine HR.mono ?_;rintro e w2 ⟨rfl,b2⟩;have hs2:=b2.size;have hr2:=(b2.block w.heap.size hsw).trans HROW;have q0:w2.cell? ⟨w.heap.size,0,none⟩=some (.string ⟨#[]⟩):=by simp[World.cell?,hr2]
    have q1:w2.cell? ⟨w.heap.size,1,none⟩=some (Iq 0):=by simp[World.cell?,hr2]
    have q2:w2.cell? ⟨w.heap.size,2,none⟩=some (Iq 0):=by simp[World.cell?,hr2]
    have q3:w2.cell? ⟨w.heap.size,3,none⟩=some (Iq 0):=by simp[World.cell?,hr2]
    have q4:w2.cell? ⟨w.heap.size,4,none⟩=some (Iq 0):=by simp[World.cell?,hr2]
    have fr:∀j,w2.frozen? ⟨w.heap.size,j,none⟩=false:=fun j=>frozen_of_row _ _ _ _ _ hr2;have HR2:=qH<|hr2;go_wp2;try simp only[Exit.inBlock,Exit.then]
    refine bodyPost_ret (results_cell_row rfl _ _ w.heap.size _ _ _ _ rfl (row5 HR2) underlying267 rfl (by kernel_rfl)) rfl ?_;rw[lineO,HXE.out,if_pos hgt];refine⟨?_,?_⟩;·rw[show((c:Int)).toNat=c from rfl,HY.out];rfl
    ·have hB2:=hbw.trans (b2.mono hsz);exact((((hB2.setCell (p:=⟨w.heap.size,0,none⟩) (Nat.le_refl _) _).setCell (p:=⟨w.heap.size,1,none⟩) (Nat.le_refl _) _).setCell (p:=⟨w.heap.size,2,none⟩) (Nat.le_refl _) _).setCell (p:=⟨w.heap.size,3,none⟩) (Nat.le_refl _) _).setCell (p:=⟨w.heap.size,4,none⟩) (Nat.le_refl _) _
   ·go_wp2_with fail;refine HJ.mono ?_;rintro e w2 ⟨rfl,b2⟩;have hs2:=b2.size;have hr2:=(b2.block w.heap.size hsw).trans HROW;have q0:w2.cell? ⟨w.heap.size,0,none⟩=some (.string ⟨#[]⟩):=by simp[World.cell?,hr2]
    have q1:w2.cell? ⟨w.heap.size,1,none⟩=some (Iq 0):=by simp[World.cell?,hr2]
    have q2:w2.cell? ⟨w.heap.size,2,none⟩=some (Iq 0):=by simp[World.cell?,hr2]
    have q3:w2.cell? ⟨w.heap.size,3,none⟩=some (Iq 0):=by simp[World.cell?,hr2]
    have q4:w2.cell? ⟨w.heap.size,4,none⟩=some (Iq 0):=by simp[World.cell?,hr2]
    have fr:∀j,w2.frozen? ⟨w.heap.size,j,none⟩=false:=fun j=>frozen_of_row _ _ _ _ _ hr2;have HR2:=qH<|hr2;clear hr2 HJ HCL2 HCL HROW;go_wp2;try simp only[Exit.inBlock,Exit.then]
    refine bodyPost_ret (results_cell_row rfl _ _ w.heap.size _ _ _ _ rfl (row5 HR2) underlying267 rfl (by kernel_rfl)) rfl ?_;rw[lineO,HXE.out,HJE.out,if_neg (by omega)];refine⟨rfl,?_⟩;have hB2:=hbw.trans (b2.mono hsz);exact((((hB2.setCell (p:=⟨w.heap.size,0,none⟩) (Nat.le_refl _) _).setCell (p:=⟨w.heap.size,1,none⟩) (Nat.le_refl _) _).setCell (p:=⟨w.heap.size,2,none⟩) (Nat.le_refl _) _).setCell (p:=⟨w.heap.size,3,none⟩) (Nat.le_refl _) _).setCell (p:=⟨w.heap.size,4,none⟩) (Nat.le_refl _) _
end
section
open Go.RowKit
def lnCells(x:Ln):List Value:=[.string ⟨x.T.toArray⟩,Iq x.W,Iq x.F,Iq x.N,Iq x.E]
def lCells(ls:List Ln):List Value:=ls.flatMap lnCells
theorem lCells_snoc ls  x :lCells (ls++[x])=lCells ls++lnCells x:=by simp[lCells]
theorem new_five(W:World) x  t :∀ j   u ,(lnCells x)[j]?=some u->(W.alloc (.cells (lnCells x).toArray t)).cell? ((⟨W.heap.size,0,none⟩:Addr).add j)=some u:=by
 intro j u hu;have e0:(⟨W.heap.size,0,none⟩:Addr).add j=⟨W.heap.size,j,none⟩:=by unfold Addr.add;split<;>simp_all
 rw[e0];have hh:=heap_alloc_new W (.cells (lnCells x).toArray t);simp only[World.cell?];rw[hh];simpa using hu
end
section
open Go.RowKit Go.Proofs.Tryz
theorem cls_sub{w}{b off cap a n}{l:List (List UInt8×Int)}(hn:a+n≤l.length)(hcap:l.length≤cap)(hb:b<w.heap.size)(hc:∀j (hj:j<l.length),w.cell? ⟨b,off+j*2,none⟩=some (.string ⟨(l[j]).1.toArray⟩)∧w.cell? ⟨b,off+j*2+1,none⟩=some (Iq (l[j]).2)):
 Cls w (.slice (if cap=a then some ⟨b,off,none⟩else some ⟨b,off+a*2,none⟩) n (cap-a)) ((l.drop a).take n):=by
 have hl:((l.drop a).take n).length=n:=by rw[List.length_take,List.length_drop];omega
 refine⟨_,_,by rw[hl],?_⟩;by_cases e:cap=a;·left;exact List.length_eq_zero_iff.1 (by rw[hl];omega)
 ·right;rw[if_neg e];refine⟨b,off+a*2,rfl,hb,fun j hj=>?_⟩;rw[hl]at hj;have:=hc (a+j) (by omega);rw[List.getElem_take,List.getElem_drop,show off+a*2+j*2=off+(a+j)*2 by omega];exact this
theorem results_line{fn:Func}{p u}{ty}(h:fn.results=#[.cell p ty,.tmp u]) tmps  P  w  g  cs 
 (hp:tmps.getD p undef=Pq g) (hl:(loadVar ty ⟨g,0,none⟩).run P w=.ok (.agg cs) w):
 (results fn tmps).run P w=.ok (.tuple #[.agg cs,tmps.getD u undef]) w:=by rw[results_cell_tmp h,hp];simp[asAddr,hl]
theorem rline_some(l:List (List UInt8×Int)) b off cap a  W  w (hb:b<w.heap.size)(hcap:l.length≤cap)(hc:∀j (hj:j<l.length),w.cell? ⟨b,off+j*2,none⟩=some (.string ⟨(l[j]).1.toArray⟩)∧w.cell? ⟨b,off+j*2+1,none⟩=some (Iq (l[j]).2))
 (ha:a≤l.length) (hbd:∀c∈l,0≤c.2∧c.2≤2) (hsh:∀c∈l,c.1.length≤20) (hlen:l.length≤68719476736) (hW0:1≤W) (hW1:W≤9223372036854775807):
 Calls prog 57 #[.slice (some ⟨b,off,none⟩) l.length cap,Iq a,Iq W] w fun e w'=>e=.returned (.tuple #[.agg #[.string ⟨(lnAt l W a).T.toArray⟩,Iq (lnAt l W a).W,Iq (lnAt l W a).F,Iq (lnAt l W a).N,Iq (lnAt l W a).E],Iq (nxt l W a)])∧Below w.heap.size w w':=by
 have hr:∀c∈l.drop a,0≤c.2∧c.2≤2:=fun c hc=>hbd c (List.mem_of_mem_drop hc);have hle:=fitN_le (l.drop a) W;rw[List.length_drop]at hle;have hfw:=fit_wide (l.drop a) W hr hW0;have HBD:=qH<|hbd;have HSH:=qH<|hsh;have HC:Hid (∀w',Below w.heap.size w w'->∀j (hj:j<l.length),w'.cell? ⟨b,off+j*2,none⟩=some (.string ⟨(l[j]).1.toArray⟩)∧w'.cell? ⟨b,off+j*2+1,none⟩=some (Iq (l[j]).2)):=
  fun w' hw' j hj=>⟨(hw'.cell (p:=⟨b,off+j*2,none⟩) hb).trans (hc j hj).1,(hw'.cell (p:=⟨b,off+j*2+1,none⟩) hb).trans (hc j hj).2⟩;obtain⟨n,hn⟩:=nmd (fitN (l.drop a) W);have HLE:Hid (lnAt l W a=(if W<wideSum ((l.drop a).take (firstL (l.drop a) W).n)then⟨List.replicate W.toNat 32,W,a,1,(firstL (l.drop a) W).e⟩else⟨joined ((l.drop a).take (firstL (l.drop a) W).n),wideSum ((l.drop a).take (firstL (l.drop a) W).n),a,((l.drop a).take (firstL (l.drop a) W).n).length,(firstL (l.drop a) W).e⟩)):=rfl;have HNX:Hid (nxt l W a=a+(firstL (l.drop a) W).n+(firstL (l.drop a) W).d):=rfl;have HFL:Hid (firstL (l.drop a) W=if n=l.length-a then⟨n,0,3⟩
  else if tx l (a+n)=[10]then⟨n,1,2⟩
  else if n=0 then⟨1,0,1⟩
  else if tx l (a+n)=[32]then⟨n,1,0⟩
  else if 0≤lastB (l.drop a) n then⟨(lastB (l.drop a) n).toNat,1,0⟩
  else⟨n,0,1⟩):=by show _=_;unfold firstL;rw[hn,List.length_drop,tx_drop]
 rw[hn]at hle hfw;obtain⟨pp,hpp⟩:=nmd (if cap=a then some (⟨b,off,none⟩:Addr)else some ⟨b,off+a*2,none⟩);have HCS:Hid (∀w',Below w.heap.size w w'->∀m,a+m≤l.length->Cls w' (.slice pp m (cap-a)) ((l.drop a).take m)):=by intro w' hw' m hm;have:=cls_sub (a:=a) (n:=m) hm hcap (Nat.lt_of_lt_of_le hb hw'.size) (HC w' hw');rw[hpp]at this;exact this
 have HFT:Hid (∀w',Below w.heap.size w w'->Calls prog 90 #[.slice pp (l.length-a) (cap-a),Iq W] w' fun e w2=>e=.returned (Iq n)∧w2=w'):=by intro w' hw';have h1:=HCS w' hw' (l.length-a) (by omega);rw[List.take_of_length_le (by rw[List.length_drop];omega)]at h1;have:=rfitting_any (l.drop a) _ W w' h1 (fun c hc=>HBD c (List.mem_of_mem_drop hc)) (by rw[List.length_drop];omega);rw[hn]at this;exact this
 have HTX:Hid (∀w',Below w.heap.size w w'->∀m,a+m≤l.length->Calls prog 91 #[.slice pp m (cap-a)] w' fun e w2=>e=.returned (.string ⟨(joined ((l.drop a).take m)).toArray⟩)∧w2=w'):=by
  intro w' hw' m hm;have hjb:=joined_bd _ (fun c hc=>HSH c (List.mem_of_mem_drop (List.mem_of_mem_take hc)):∀c∈(l.drop a).take m,c.1.length≤20);have hlN:((l.drop a).take m).length≤l.length:=by rw[List.length_take,List.length_drop];omega
  exact rtext_any _ _ w' (HCS w' hw' m hm) (by omega) (by omega)
 have HWD:Hid (∀w',Below w.heap.size w w'->∀m,a+m≤l.length->Calls prog 55 #[.slice pp m (cap-a)] w' fun e w2=>e=.returned (Iq (wideSum ((l.drop a).take m)))∧w2=w'):=by
  intro w' hw' m hm;have hlN:((l.drop a).take m).length≤l.length:=by rw[List.length_take,List.length_drop];omega
  exact rwide_any _ _ w' (HCS w' hw' m hm) (fun c hc=>HBD c (List.mem_of_mem_drop (List.mem_of_mem_take hc))) (by omega)
 have HLN:Hid (∀m d e,m≤n->firstL (l.drop a) W=⟨m,d,e⟩->lnAt l W a=⟨joined ((l.drop a).take m),wideSum ((l.drop a).take m),a,m,e⟩∧nxt l W a=a+m+d):=by
  intro m d e hm hf;have h1:=take_wide_le (l.drop a) hr hm;have h2:((l.drop a).take m).length=m:=by rw[List.length_take,List.length_drop];omega
  rw[HLE.out,HNX.out,hf];simp only;rw[if_neg (by omega),h2];exact⟨rfl,by first|rfl|trivial⟩
 have HWI:Hid (n=0->a<l.length->tx l a≠[10]->W<wideSum ((l.drop a).take 1)∧W=1):=by intro h0 h1 h2;have sp:=(fitN_spec (l.drop a) W hr).2;rw[hn,h0,List.length_drop,tx_drop]at sp;have h3:=(sp (by omega)).resolve_left h2;have h4:=take1_bd (l.drop a) hr;simp at h3;exact⟨h3,by omega⟩
 clear hr hbd hsh hc hn;go_enter func57,ntmps57;go_wp2_with fail;refine(HFT _ ((Below.refl _ _).alloc (Nat.le_refl _) _)).mono ?_;rintro e w1 ⟨rfl,rfl⟩;clear HFT;have hmx:prog.follows .mixedOrders=true:=by kernel_rfl
 obtain⟨w1,hw1⟩:=nmd (w.alloc (.cells #[.string ⟨#[]⟩,Iq 0,Iq 0,Iq 0,Iq 0] 116));have hrow0:Hid (w1.heap[w.heap.size]?=some (.cells #[.string ⟨#[]⟩,Iq 0,Iq 0,Iq 0,Iq 0] 116 (0,0))):=by show _=_;rw[<-hw1];exact heap_alloc_new w _
 have hB1:Below w.heap.size w w1:=by rw[<-hw1];exact(Below.refl _ _).alloc (Nat.le_refl _) _
 have hs1:w.heap.size<w1.heap.size:=by rw[<-hw1,World.size_alloc];omega
 rw[hw1];clear hw1;obtain⟨J,hJ⟩:=nmd (joined ((l.drop a).take n));obtain⟨X,hX⟩:=nmd (wideSum ((l.drop a).take n));have T1:Hid (∀w',Below w.heap.size w w'->Calls prog 91 #[.slice pp n (cap-a)] w' fun e w2=>e=.returned (.string ⟨J.toArray⟩)∧w2=w'):=by intro w' hw';have:=HTX w' hw' n (by omega);rw[hJ]at this;exact this
 have W1:Hid (∀w',Below w.heap.size w w'->Calls prog 55 #[.slice pp n (cap-a)] w' fun e w2=>e=.returned (Iq X)∧w2=w'):=by intro w' hw';have:=HWD w' hw' n (by omega);rw[hX]at this;exact this
 obtain⟨q,hq⟩:∃q:Nat,a+n=q:=⟨_,rfl⟩;have hqi:(a:Int)+(n:Int)=(q:Int):=by omega
 have hq1:(q:Int)≤(cap:Int):=by omega
 have hq2:a≤q:=by omega
 have hq3:q-a=n:=by omega
 have HQ:=qH<|hq;have HQ3:=qH<|hq3;have HPP:=qH<|hpp;clear hq;go_wp2_with fail;go_cut[10]from 12 to 32 (fun p wx=>∃B,p=Pq B∧w1.heap.size≤B∧wx.heap[B]?=some (.cells #[.string ⟨J.toArray⟩,Iq X,Iq a,Iq n,Iq 0] 116 (0,0))∧Below w1.heap.size w1 wx);case first=>
  go_region_with(first|(go_at_call 91;refine(T1 _ (by first|exact hB1.drew|exact(hB1.alloc (by omega) _).drew)).mono ?_;rintro e wq ⟨rfl,rfl⟩)|(go_at_call 55;refine(W1 _ (by first|exact hB1.drew|exact(hB1.alloc (by omega) _).drew)).mono ?_;rintro e wq ⟨rfl,rfl⟩));all_goals(go_wp2_with fail)
  all_goals go_meet
  all_goals exact⟨_,rfl,Nat.le_refl _,heap_alloc_new w1 _,((Below.refl _ _).alloc (Nat.le_refl _) _).drew⟩
 case rest=>
  obtain⟨B,rfl,hB,hrow,by2⟩:=hcut;have hBR:B≠w.heap.size:=by omega
  have hsy:=by2.size;have hrR:=(by2.block _ hs1).trans hrow0;have hRc:w.heap.size<wc.heap.size:=by omega
  have q0:wc.cell? ⟨B,0,none⟩=some (.string ⟨J.toArray⟩):=by simp[World.cell?,hrow]
  have q1:wc.cell? ⟨B,1,none⟩=some (Iq X):=by simp[World.cell?,hrow]
  have q2:wc.cell? ⟨B,2,none⟩=some (Iq a):=by simp[World.cell?,hrow]
  have q3:wc.cell? ⟨B,3,none⟩=some (Iq n):=by simp[World.cell?,hrow]
  have q4:wc.cell? ⟨B,4,none⟩=some (Iq 0):=by simp[World.cell?,hrow]
  have fr:∀j,wc.frozen? ⟨B,j,none⟩=false:=fun j=>frozen_of_row _ _ _ _ _ hrow;have r0:wc.cell? ⟨w.heap.size,0,none⟩=some (.string ⟨#[]⟩):=by simp[World.cell?,hrR]
  have r1:wc.cell? ⟨w.heap.size,1,none⟩=some (Iq 0):=by simp[World.cell?,hrR]
  have r2:wc.cell? ⟨w.heap.size,2,none⟩=some (Iq 0):=by simp[World.cell?,hrR]
  have r3:wc.cell? ⟨w.heap.size,3,none⟩=some (Iq 0):=by simp[World.cell?,hrR]
  have r4:wc.cell? ⟨w.heap.size,4,none⟩=some (Iq 0):=by simp[World.cell?,hrR]
  have frR:∀j,wc.frozen? ⟨w.heap.size,j,none⟩=false:=fun j=>frozen_of_row _ _ _ _ _ hrR;have HRR:=qH<|hrR;have hBc:=hB1.trans (by2.mono (by omega));have HFIN:Hid (∀(wz:World) (v0 v1 v2 v3 v4:Value),Below w.heap.size w wz->Below w.heap.size w (((((wz.setCell ⟨w.heap.size,0,none⟩ v0).setCell ⟨w.heap.size,1,none⟩ v1).setCell ⟨w.heap.size,2,none⟩ v2).setCell ⟨w.heap.size,3,none⟩ v3).setCell ⟨w.heap.size,4,none⟩ v4)):=
   fun wz v0 v1 v2 v3 v4 h=>((((h.setCell (p:=⟨w.heap.size,0,none⟩) (Nat.le_refl _) _).setCell (p:=⟨w.heap.size,1,none⟩) (Nat.le_refl _) _).setCell (p:=⟨w.heap.size,2,none⟩) (Nat.le_refl _) _).setCell (p:=⟨w.heap.size,3,none⟩) (Nat.le_refl _) _).setCell (p:=⟨w.heap.size,4,none⟩) (Nat.le_refl _) _;have HJE:=qH<|hJ;have HXE:=qH<|hX;have HBl:Hid (w.heap.size≤B):=by show w.heap.size≤B;omega
  clear hrow hrR hJ hX T1 W1;by_cases hall:n=l.length-a
  ·have hf:firstL (l.drop a) W=⟨n,0,3⟩:=by rw[HFL.out,if_pos hall]
   obtain⟨e1,e2⟩:=HLN n 0 3 (Nat.le_refl _) hf;have HE1:Hid (lnAt l W a=⟨J,X,a,n,3⟩):=by show _=_;rw[e1,HJE.out,HXE.out]
   have HE2:Hid (nxt l W a=q):=by show _=_;rw[e2,HQ.out];rfl
   have HZ:Hid ((wc.setCell ⟨B,4,none⟩ (Iq 3)).heap[w.heap.size]?=some (.cells #[.string ⟨#[]⟩,Iq 0,Iq 0,Iq 0,Iq 0] 116 (0,0))):=by show _=_;rw[heap_setCell_other _ _ _ _ (fun e=>hBR e.symm)];exact HRR
   have hqe:(q:Int)=(l.length:Int):=by have:=HQ.out;omega
   clear e1 e2 hf hall;go_wp2;try simp only[Exit.inBlock,Exit.then]
   refine bodyPost_ret (results_line rfl _ _ _ w.heap.size _ rfl (run_loadVar_row _ _ _ _ _ _ _ (row5 HZ) underlying116 rfl (by kernel_rfl))) rfl ?_;rw[HE1.out,HE2.out];exact⟨rfl,HFIN _ _ _ _ _ _ (hBc.setCell (p:=⟨B,4,none⟩) HBl _)⟩
  have hq5:q<l.length:=by have:=HQ.out;omega
  have hq6:(q:Int)<(l.length:Int):=by omega
  have hqn:¬(q:Int)=(l.length:Int):=by omega
  obtain⟨T,V,hTV⟩:∃T V,l[q]=(T,V):=⟨_,_,rfl⟩;have c0:wc.cell? ⟨b,off+q*2,none⟩=some (.string ⟨T.toArray⟩):=by have:=(HC wc hBc q hq5).1;rw[hTV]at this;exact this
  have HTX2:Hid (tx l (a+n)=T):=by show _=_;rw[HQ.out,tx_at hq5,hTV]
  clear hTV;by_cases h10:T=[10]
  ·have hf:firstL (l.drop a) W=⟨n,1,2⟩:=by rw[HFL.out,if_neg hall,if_pos (by rw[HTX2.out,h10])]
   obtain⟨e1,e2⟩:=HLN n 1 2 (Nat.le_refl _) hf;have HE1:Hid (lnAt l W a=⟨J,X,a,n,2⟩):=by show _=_;rw[e1,HJE.out,HXE.out]
   have HE2:Hid (nxt l W a=q+1):=by show _=_;rw[e2,HQ.out]
   have HZ:Hid ((wc.setCell ⟨B,4,none⟩ (Iq 2)).heap[w.heap.size]?=some (.cells #[.string ⟨#[]⟩,Iq 0,Iq 0,Iq 0,Iq 0] 116 (0,0))):=by show _=_;rw[heap_setCell_other _ _ _ _ (fun e=>hBR e.symm)];exact HRR
   have h10':(T==[10])=true:=by rw[h10];rfl
   clear e1 e2 hf hall;go_wp2;try simp only[Exit.inBlock,Exit.then]
   refine bodyPost_ret (results_line rfl _ _ _ w.heap.size _ rfl (run_loadVar_row _ _ _ _ _ _ _ (row5 HZ) underlying116 rfl (by kernel_rfl))) rfl ?_;rw[HE1.out,HE2.out];exact⟨by simp,HFIN _ _ _ _ _ _ (hBc.setCell (p:=⟨B,4,none⟩) HBl _)⟩
  have h10':(T==[10])=false:=by simpa using h10
  by_cases h0:n=0
  ·have hf:firstL (l.drop a) W=⟨1,0,1⟩:=by rw[HFL.out,if_neg hall,if_neg (by rw[HTX2.out];exact h10),if_pos h0]
   have haq:a=q:=by have:=HQ.out;omega
   obtain⟨g1,g2⟩:=HWI h0 (by omega) (by have:=HTX2.out;rw[h0,Nat.add_zero]at this;rw[this];exact h10);have HE1:Hid (lnAt l W a=⟨[32],1,a,1,1⟩):=by show _=_;rw[HLE.out,hf];simp only;rw[if_pos g1,g2];rfl
   have HE2:Hid (nxt l W a=q+1):=by show _=_;rw[HNX.out,hf];simp only;omega
   have HZ:=HRR;have R1:Hid (∀w',Calls prog 92 #[Iq W] w' fun e w2=>e=.returned (.string ⟨#[32]⟩)∧w2=w'):=by intro w';rw[g2];exact rblanks_any 1 w' (by omega)
   have HWE:=qH<|g2;have hn0:(n:Int)=0:=by omega
   clear hf hall g1 g2 haq;subst h0;go_wp2_with fail;refine(R1 _).mono ?_;rintro e w5 ⟨rfl,rfl⟩;clear R1;go_wp2;try simp only[Exit.inBlock,Exit.then]
   refine bodyPost_ret (results_line rfl _ _ _ w.heap.size _ rfl (run_loadVar_row _ _ _ _ _ _ _ (row5 HZ) underlying116 rfl (by kernel_rfl))) rfl ?_;rw[HE1.out,HE2.out];refine⟨?_,HFIN _ _ _ _ _ _ hBc⟩;simp[HWE.out]
  by_cases h32:T=[32]
  ·have hf:firstL (l.drop a) W=⟨n,1,0⟩:=by rw[HFL.out,if_neg hall,if_neg (by rw[HTX2.out];exact h10),if_neg h0,if_pos (by rw[HTX2.out,h32])]
   obtain⟨e1,e2⟩:=HLN n 1 0 (Nat.le_refl _) hf;have HE1:Hid (lnAt l W a=⟨J,X,a,n,0⟩):=by show _=_;rw[e1,HJE.out,HXE.out]
   have HE2:Hid (nxt l W a=q+1):=by show _=_;rw[e2,HQ.out]
   have HZ:=HRR;have h32':(T==[32])=true:=by rw[h32];rfl
   have hn0:¬(n:Int)=0:=by omega
   clear e1 e2 hf hall;go_wp2;try simp only[Exit.inBlock,Exit.then]
   refine bodyPost_ret (results_line rfl _ _ _ w.heap.size _ rfl (run_loadVar_row _ _ _ _ _ _ _ (row5 HZ) underlying116 rfl (by kernel_rfl))) rfl ?_;rw[HE1.out,HE2.out];exact⟨by simp,HFIN _ _ _ _ _ _ hBc⟩
  have h32':(T==[32])=false:=by simpa using h32
  have hn0:¬(n:Int)=0:=by omega
  have HFB:Hid (firstL (l.drop a) W=if 0≤lastB (l.drop a) n then⟨(lastB (l.drop a) n).toNat,1,0⟩else⟨n,0,1⟩):=by show _=_;rw[HFL.out,if_neg hall,if_neg (by rw[HTX2.out];exact h10),if_neg h0,if_neg (by rw[HTX2.out];exact h32)]
  have HCw:=qH<|HC wc hBc;clear hall;go_wp2;go_loop[11] (fun i=>∃m:Nat,m≤n∧i=Iq ((a:Int)+(m:Int)-1)∧Hid (lastB (l.drop a) n=lastB (l.drop a) m)) (fun i=>(intOf i+1-a).toNat);case atStart=>exact⟨n,Nat.le_refl _,by rw[hqi],rfl⟩
  case round=>
   obtain⟨m,hm,rfl,hLB⟩:=hrel;cases m with
   |zero=>
    have hf:firstL (l.drop a) W=⟨n,0,1⟩:=by rw[HFB.out,hLB.out];simp[lastB]
    obtain⟨e1,e2⟩:=HLN n 0 1 (Nat.le_refl _) hf;have HE1:Hid (lnAt l W a=⟨J,X,a,n,1⟩):=by show _=_;rw[e1,HJE.out,HXE.out]
    have HE2:Hid (nxt l W a=q):=by show _=_;rw[e2,HQ.out];rfl
    have HZ:Hid ((wc.setCell ⟨B,4,none⟩ (Iq 1)).heap[w.heap.size]?=some (.cells #[.string ⟨#[]⟩,Iq 0,Iq 0,Iq 0,Iq 0] 116 (0,0))):=by show _=_;rw[heap_setCell_other _ _ _ _ (fun e=>hBR e.symm)];exact HRR
    have hlt:¬(a:Int)≤(a:Int)+((0:Nat):Int)-1:=by omega
    clear e1 e2 hf;go_wp2;try simp only[Exit.inBlock,Exit.then]
    refine bodyPost_ret (results_line rfl _ _ _ w.heap.size _ rfl (run_loadVar_row _ _ _ _ _ _ _ (row5 HZ) underlying116 rfl (by kernel_rfl))) rfl ?_;rw[HE1.out,HE2.out];exact⟨rfl,HFIN _ _ _ _ _ _ (hBc.setCell (p:=⟨B,4,none⟩) HBl _)⟩
   |succ m=>
    obtain⟨p,hp⟩:∃p:Nat,a+m=p:=⟨_,rfl⟩;have hpi:(a:Int)+((m+1:Nat):Int)-1=(p:Int):=by omega
    rw[hpi];have hpl:p<l.length:=by have:=HQ.out;omega
    have hpl':(p:Int)<(l.length:Int):=by omega
    have hap:(a:Int)≤(p:Int):=by omega
    have hap2:a≤p:=by omega
    have hpc:(p:Int)≤(cap:Int):=by omega
    have HP:=qH<|hp;obtain⟨T',V',hTV'⟩:∃T V,l[p]=(T,V):=⟨_,_,rfl⟩;have c0':wc.cell? ⟨b,off+p*2,none⟩=some (.string ⟨T'.toArray⟩):=by have:=(HCw p hpl).1;rw[hTV']at this;exact this
    have HTX3:Hid (tx (l.drop a) m=T'):=by show _=_;rw[tx_drop,hp,tx_at hpl,hTV']
    have hpm:p-a=m:=by omega
    have hpmi:(p:Int)-(a:Int)=(m:Int):=by omega
    clear hTV' hpi;by_cases hb32:T'=[32]
    ·have hlb:lastB (l.drop a) n=m:=by rw[hLB.out];simp only[lastB];rw[if_pos (by rw[HTX3.out,hb32])]
     have hf:firstL (l.drop a) W=⟨m,1,0⟩:=by rw[HFB.out,hlb];simp
     obtain⟨e1,e2⟩:=HLN m 1 0 (by omega) hf;have hm1:a+m≤l.length:=by omega
     have T2:=qH<|fun w' hw'=>HTX w' hw' m hm1;have W2:=qH<|fun w' hw'=>HWD w' hw' m hm1;obtain⟨J2,hJ2⟩:=nmd (joined ((l.drop a).take m));obtain⟨X2,hX2⟩:=nmd (wideSum ((l.drop a).take m));rw[hJ2]at e1 T2;rw[hX2]at e1 W2;have HE1:=qH<|e1;have HE2:Hid (nxt l W a=p+1):=by show _=_;rw[e2,hp]
     have HZ:=HRR;have hb32':(T'==[32])=true:=by rw[hb32];rfl
     have hwr1:IntKind.i64.wrap (m:Int)=(m:Int):=IntWalk.i64_in _ ⟨by omega,by omega⟩;have hwr2:IntKind.i64.wrap ((p:Int)+1)=(p:Int)+1:=IntWalk.i64_in _ ⟨by omega,by omega⟩;clear e1 e2 hf hlb hJ2 hX2 hp;go_wp2_with fail;go_region_with(first|(go_at_call 91;refine(T2 _ hBc.drew).mono ?_;rintro e wq ⟨rfl,rfl⟩)|(go_at_call 55;refine(W2 _ hBc.drew).mono ?_;rintro e wq ⟨rfl,rfl⟩));all_goals(go_wp2_with fail)
     all_goals refine bodyPost_ret (results_line rfl _ _ _ w.heap.size #[.string ⟨J2.toArray⟩,Iq X2,Iq a,Iq m,Iq 0] rfl (run_loadVar_row _ _ _ _ _ _ _ (row5 HZ) underlying116 rfl (by kernel_rfl))) rfl ?_;rw[HE1.out,HE2.out];exact⟨rfl,(HFIN _ _ _ _ _ _ hBc).drew⟩
    ·have hb32':(T'==[32])=false:=by simpa using hb32
     have HLB':Hid (lastB (l.drop a) n=lastB (l.drop a) m):=by show _=_;rw[hLB.out];simp only[lastB];rw[if_neg (by rw[HTX3.out];exact hb32)]
     clear hp;go_wp2;go_round;case rel=>exact⟨m,by omega,by have:=HP.out;congr 1;omega,HLB'⟩
     case measure=>have:=HP.out;simp[intOf];omega
theorem infoRLine:(prog.info? 116).map (fun i=>(i.zero,i.size,i.bytes))=some (some (.agg #[.string ⟨#[]⟩,Iq 0,Iq 0,Iq 0,Iq 0]),5,48):=by kernel_rfl
theorem own_belowN{w w'}{B n k}{e}{v}{xs}(h:w.ownsRow B e k v n xs)(hb:Below w.heap.size w w'):w'.ownsRow B e k v n xs:=by refine⟨h.1,h.2.imp id ?_⟩;rintro⟨g,cap,cur,e1,e2,e3,e4⟩;exact⟨g,cap,cur,e1,e2,(hb.block g (Array.getElem?_eq_some_iff.1 e3).1).trans e3,e4⟩
def boolN:Value->Nat
 |.bool true=>1
 |_=>0
theorem lnAt_nil W (hW:1≤W):lnAt [] W 0=⟨[],0,0,0,3⟩∧nxt [] W 0=0:=by
 have h1:¬W<0:=by omega
 constructor;·simp[lnAt,firstL,fitN,joined,wideSum,h1]
 ·simp[nxt,firstL,fitN]
theorem rline_none W  w (hW0:1≤W)(hW1:W≤9223372036854775807):
 Calls prog 57 #[.slice none 0 0,Iq 0,Iq W] w fun e w'=>e=.returned (.tuple #[.agg #[.string ⟨#[]⟩,Iq 0,Iq 0,Iq 0,Iq 3],Iq 0])∧Below w.heap.size w w':=by
 have hcl0:∀w':World,Cls w' (.slice none 0 0) []:=fun w'=>⟨none,0,rfl,.inl rfl⟩;have HFT:Hid (∀w',Calls prog 90 #[.slice none 0 0,Iq W] w' fun e w2=>e=.returned (Iq 0)∧w2=w'):=fun w'=>rfitting_any [] _ W w' (hcl0 w') (by simp) (by simp);have T1:Hid (∀w',Calls prog 91 #[.slice none 0 0] w' fun e w2=>e=.returned (.string ⟨#[]⟩)∧w2=w'):=fun w'=>rtext_any [] _ w' (hcl0 w') (by simp) (by simp[joined]);have W1:Hid (∀w',Calls prog 55 #[.slice none 0 0] w' fun e w2=>e=.returned (Iq 0)∧w2=w'):=fun w'=>rwide_any [] _ w' (hcl0 w') (by simp) (by simp);go_enter func57,ntmps57;go_wp2_with fail;refine(HFT _).mono ?_;rintro e w1 ⟨rfl,rfl⟩;obtain⟨w1,hw1⟩:=nmd (w.alloc (.cells #[.string ⟨#[]⟩,Iq 0,Iq 0,Iq 0,Iq 0] 116));have hrow0:Hid (w1.heap[w.heap.size]?=some (.cells #[.string ⟨#[]⟩,Iq 0,Iq 0,Iq 0,Iq 0] 116 (0,0))):=by show _=_;rw[<-hw1];exact heap_alloc_new w _
 have hB1:Below w.heap.size w w1:=by rw[<-hw1];exact(Below.refl _ _).alloc (Nat.le_refl _) _
 have hs1:w.heap.size<w1.heap.size:=by rw[<-hw1,World.size_alloc];omega
 rw[hw1];go_wp2_with fail;go_cut[10]from 12 to 32 (fun p wx=>∃B,p=Pq B∧w1.heap.size≤B∧wx.heap[B]?=some (.cells #[.string ⟨#[]⟩,Iq 0,Iq 0,Iq 0,Iq 0] 116 (0,0))∧Below w1.heap.size w1 wx);case first=>
  go_region_with(first|(go_at_call 91;refine(T1 _).mono ?_;rintro e wq ⟨rfl,rfl⟩)|(go_at_call 55;refine(W1 _).mono ?_;rintro e wq ⟨rfl,rfl⟩));all_goals(go_wp2_with fail)
  all_goals go_meet
  all_goals exact⟨_,rfl,Nat.le_refl _,heap_alloc_new w1 _,((Below.refl _ _).alloc (Nat.le_refl _) _).drew⟩
 case rest=>
  obtain⟨B,rfl,hB,hrow,by2⟩:=hcut;have hBR:B≠w.heap.size:=by omega
  have hrR:=(by2.block _ hs1).trans hrow0;have q0:wc.cell? ⟨B,0,none⟩=some (.string ⟨#[]⟩):=by simp[World.cell?,hrow]
  have q1:wc.cell? ⟨B,1,none⟩=some (Iq 0):=by simp[World.cell?,hrow]
  have q2:wc.cell? ⟨B,2,none⟩=some (Iq 0):=by simp[World.cell?,hrow]
  have q3:wc.cell? ⟨B,3,none⟩=some (Iq 0):=by simp[World.cell?,hrow]
  have q4:wc.cell? ⟨B,4,none⟩=some (Iq 0):=by simp[World.cell?,hrow]
  have fr:∀j,wc.frozen? ⟨B,j,none⟩=false:=fun j=>frozen_of_row _ _ _ _ _ hrow;have r0:wc.cell? ⟨w.heap.size,0,none⟩=some (.string ⟨#[]⟩):=by simp[World.cell?,hrR]
  have r1:wc.cell? ⟨w.heap.size,1,none⟩=some (Iq 0):=by simp[World.cell?,hrR]
  have r2:wc.cell? ⟨w.heap.size,2,none⟩=some (Iq 0):=by simp[World.cell?,hrR]
  have r3:wc.cell? ⟨w.heap.size,3,none⟩=some (Iq 0):=by simp[World.cell?,hrR]
  have r4:wc.cell? ⟨w.heap.size,4,none⟩=some (Iq 0):=by simp[World.cell?,hrR]
  have frR:∀j,wc.frozen? ⟨w.heap.size,j,none⟩=false:=fun j=>frozen_of_row _ _ _ _ _ hrR;have hBc:=hB1.trans (by2.mono (by omega));have HBl:Hid (w.heap.size≤B):=by show w.heap.size≤B;omega
  have HZ:Hid ((wc.setCell ⟨B,4,none⟩ (Iq 3)).heap[w.heap.size]?=some (.cells #[.string ⟨#[]⟩,Iq 0,Iq 0,Iq 0,Iq 0] 116 (0,0))):=by show _=_;rw[heap_setCell_other _ _ _ _ (fun e=>hBR e.symm)];exact hrR
  clear hrow hrR T1 W1;go_wp2;try simp only[Exit.inBlock,Exit.then]
  refine bodyPost_ret (results_line rfl _ _ _ w.heap.size _ rfl (run_loadVar_row _ _ _ _ _ _ _ (row5 HZ) underlying116 rfl (by kernel_rfl))) rfl ?_;refine⟨rfl,?_⟩;have h:=hBc.setCell (p:=⟨B,4,none⟩) HBl (Iq 3);exact((((h.setCell (p:=⟨w.heap.size,0,none⟩) (Nat.le_refl _) _).setCell (p:=⟨w.heap.size,1,none⟩) (Nat.le_refl _) _).setCell (p:=⟨w.heap.size,2,none⟩) (Nat.le_refl _) _).setCell (p:=⟨w.heap.size,3,none⟩) (Nat.le_refl _) _).setCell (p:=⟨w.heap.size,4,none⟩) (Nat.le_refl _) _
theorem rline_any(l:List (List UInt8×Int)) B0  v  a  W  w (ho:w.ownsRow B0 153 2 v l.length (cCells l))
 (ha:a≤l.length) (hbd:∀c∈l,0≤c.2∧c.2≤2) (hsh:∀c∈l,c.1.length≤20) (hlen:l.length≤68719476736) (hW0:1≤W) (hW1:W≤9223372036854775807):
 Calls prog 57 #[v,Iq a,Iq W] w fun e w'=>e=.returned (.tuple #[.agg #[.string ⟨(lnAt l W a).T.toArray⟩,Iq (lnAt l W a).W,Iq (lnAt l W a).F,Iq (lnAt l W a).N,Iq (lnAt l W a).E],Iq (nxt l W a)])∧Below w.heap.size w w':=by
 have hO:=clsO_own ho;rcases ho.2 with⟨rfl,h0⟩|⟨g,cap,cur,rfl,_,hg,hcap,_⟩
 ·have hl:=List.length_eq_zero_iff.1 h0;subst hl;obtain rfl:a=0:=by simpa using ha
  obtain⟨e1,e2⟩:=lnAt_nil W hW0;rw[e1,e2];exact rline_none W w hW0 hW1
 ·obtain⟨a',cap',e1,_,_,hh⟩:=hO;cases e1;have hgl:=(Array.getElem?_eq_some_iff.1 hg).1;rcases hh with hz|⟨b,off,e2,_,hb,hc⟩;·subst hz;exact rline_some [] g 0 cap a W w hgl hcap (fun j hj=>by simp at hj) ha hbd hsh hlen hW0 hW1
  ·cases e2;exact rline_some l g 0 cap a W w hgl hcap (fun j hj=>⟨(hc j hj).1,(hc j hj).2.1⟩) ha hbd hsh hlen hW0 hW1
theorem rlines_any s  W  w (hs:s.size≤68719476736)(hW0:-9223372036854775808≤W)(hW1:W≤9223372036854775807):
 Calls prog 32 #[.string s,Iq W] w fun e w'=>∃v,e=.returned v∧w'.ownsRow w.heap.size 116 5 v (linesOf (clus (runes s.data.toList)) W).length (lCells (linesOf (clus (runes s.data.toList)) W))∧Below w.heap.size w w':=by
 obtain⟨i0,hi,hz0,hz1,hz2⟩:=info_parts infoRLine;have hsl:s.data.toList.length=s.size:=by rw[Array.length_toList];rfl
 have hR:=runes_length s.data.toList;have hC:=clus_length (runes s.data.toList);rw[hsl]at hR;have hbd:=clus_wide (runes s.data.toList);have hsh:=clus_short (runes s.data.toList);have G:=qH<|rClusters_any s w (by omega);obtain⟨l,hl⟩:=nmd (clus (runes s.data.toList));rw[hl]at hC hbd hsh G⊢;have HBD:=qH<|hbd;have HSH:=qH<|hsh;by_cases hlt:W<1
 ·have HE:Hid (linesOf l W=[]):=by show _=_;rw[linesOf,if_pos hlt]
  go_enter func32,ntmps32;go_wp2;go_ret;rw[HE.out];exact⟨_,rfl,World.ownsRow_nil _ _ _ _,Below.refl _ _⟩
 have hW1':1≤W:=by omega
 have HE:Hid (linesOf l W=linesA l W 0):=by show _=_;rw[linesOf,if_neg hlt]
 have hLl:=(linesA_length l W 0 (Nat.zero_le _)).2;go_enter func32,ntmps32;go_wp2_with fail;refine G.mono ?_;rintro e w1 ⟨v1,rfl,o1,b1⟩;have HO:=qH<|o1;have hs1:=b1.size;go_wp2;go_loopw[6,7,8] (fun o p m wr=>∃(pre:List Ln) (a:Nat),wr.ownsRow w1.heap.size 116 5 o pre.length (lCells pre)∧Below w1.heap.size w1 wr∧p=Iq a∧a≤l.length∧((m=.bool true∧Hid (pre++linesA l W a=linesA l W 0))∨(m=.bool false∧Hid (pre=linesA l W 0)))) (fun _ p m _=>2*(l.length+1-(intOf p).toNat)+boolN m);case atStart=>exact⟨[],0,World.ownsRow_nil _ _ _ _,Below.refl _ _,rfl,Nat.zero_le _,.inl ⟨rfl,rfl⟩⟩
 case round=>
  obtain⟨pre,a,hown,hbw,rfl,ha,hst⟩:=hrel;have hsz:=hbw.size;rcases hst with⟨rfl,hpre⟩|⟨rfl,hpre⟩
  ·have hpl:pre.length<l.length+1:=by have:=congrArg List.length hpre;have h2:=(linesA_length l W a ha).1;rw[List.length_append]at this;omega
   have HLC:=qH<|
    rline_any l _ v1 a W wr (own_belowN HO hbw) ha HBD HSH (by omega) hW1' hW1;have hnl:=nxt_le l W a ha;have HNL:=qH<|nxt_lt l W a;have HST:Hid (linesA l W a=if(lnAt l W a).E=3 then[lnAt l W a]else lnAt l W a::linesA l W (nxt l W a)):=by
    show _=_;by_cases h:(lnAt l W a).E=3;·rw[if_pos h,linesA_end ha h]
    ·rw[if_neg h,linesA_step ha h]
   have hgea:a≤nxt l W a:=by unfold nxt;omega
   obtain⟨⟨T,V,F,N,E⟩,hx⟩:=nmd (lnAt l W a);rw[hx]at HLC HNL HST;simp only at HLC HNL HST;obtain⟨m,hm⟩:=nmd (nxt l W a);rw[hm]at HLC HNL HST hnl hgea;go_wp2_with fail;refine HLC.mono ?_;rintro e w2 ⟨rfl,b2⟩;have hs2:=b2.size;have hown2:=own_belowN hown b2;have hB2:=hbw.trans (b2.mono hsz);go_wp2_with(at_builtin;refine wpList_append_own _ rfl _ _ 83 rfl w1.heap.size 116 i0 (.agg #[.string ⟨#[]⟩,Iq 0,Iq 0,Iq 0,Iq 0]) 5 48 underlying83 hi hz0 hz1 hz2 rfl (by decide) _ _ _ rfl ((hown2.alloc _).alloc _) _ 1 1 (lnCells ⟨T,V,F,N,E⟩) rfl rfl ?c1 ?c2 ?c3 ?c4 ?c5 ?_);case c1=>have:=new_five (w2.alloc (.cells #[.string ⟨T.toArray⟩,Iq V,Iq F,Iq N,Iq E] 116)) ⟨T,V,F,N,E⟩ 116;rw[World.size_alloc]at this;exact this
   case c2=>intro u hu;simp[lnCells]at hu;rcases hu with rfl|rfl|rfl|rfl|rfl<;>rfl
   case c3=>unfold maxLen;omega
   case c4=>omega
   case c5=>rw[World.size_alloc,World.size_alloc];omega
   intro v' w3 hown' hg _;have hrow:=fun q hq=>(hown2.lt q hq).1;have hs12:=hB2.size;have hne9:=fun q hq=>(hown2.lt q hq).2;have hB3:=((hB2.alloc hs12 _).alloc (by rw[World.size_alloc];omega) _).grown hg (by rw[World.size_alloc,World.size_alloc];omega) hrow;have hx4:w3.cell? ⟨w2.heap.size,4,none⟩=some (Iq E):=by
    have h1:(⟨w2.heap.size,4,none⟩:Addr).block<((w2.alloc (.cells #[.string ⟨T.toArray⟩,Iq V,Iq F,Iq N,Iq E] 116)).alloc (.cells (lnCells ⟨T,V,F,N,E⟩).toArray 116)).heap.size:=by rw[World.size_alloc,World.size_alloc];show w2.heap.size<_;omega
    have h2:=World.cell?_of_block (a:=⟨w2.heap.size,4,none⟩) (hg.block w2.heap.size h1 (fun e=>by have:=hne9 _ e.symm;omega));refine h2.trans ?_;have h3:=World.cell?_of_block (a:=⟨w2.heap.size,4,none⟩) (((Below.refl _ (w2.alloc (.cells #[.string ⟨T.toArray⟩,Iq V,Iq F,Iq N,Iq E] 116))).alloc (Nat.le_refl _) (.cells (lnCells ⟨T,V,F,N,E⟩).toArray 116)).block w2.heap.size (by rw[World.size_alloc];omega));refine h3.trans ?_;simp
   by_cases h3:E=3
   ·have HF:Hid (pre++[⟨T,V,F,N,E⟩]=linesA l W 0):=by show _=_;rw[<-hpre.out,HST.out,if_pos h3]
    subst h3;go_wp2;go_roundw;case rel=>exact⟨pre++[⟨T,V,F,N,3⟩],m,by rw[List.length_append,lCells_snoc];exact hown',hB3,rfl,hnl,.inr ⟨rfl,HF⟩⟩
    case measure=>simp[intOf,boolN];omega
   ·have HF:Hid ((pre++[⟨T,V,F,N,E⟩])++linesA l W m=linesA l W 0):=by show _=_;rw[<-hpre.out,HST.out,if_neg h3];simp
    have hlt2:=HNL h3;have hb3:(E !=3)=true:=by simpa using h3
    go_wp2;go_roundw;case rel=>exact⟨pre++[⟨T,V,F,N,E⟩],m,by rw[List.length_append,lCells_snoc];exact hown',hB3,rfl,hnl,.inl ⟨rfl,HF⟩⟩
    case measure=>simp[intOf,boolN];omega
  ·go_wp2;go_ret;rw[HE.out,<-hpre.out];exact⟨_,rfl,ownsRow_base hown hs1,b1.trans (hbw.mono hs1)⟩
