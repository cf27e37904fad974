import Derived.Test.YtmbefonnkkhfgaaGreatDoorQ00
import Derived.Test.YtmbefonnkkhfgaaGreatDoorQ05
import Derived.Test.YtmbefonnkkhfgaaGreatDoorQ35
import Derived.Test.YtmbefonnkkhfgaaGreatDoorQ24
import Derived.BigCall
set_option linter.unusedVariables false
set_option maxRecDepth 100000
set_option maxHeartbeats 16000000
namespace Go.Proofs.YtmbefonnkkhfgaaGreatDoor
section
open Go.RowKit Go.Proofs.Tryz
theorem repeat_one(n:Nat):Lib.repeatL [32] n=List.replicate n 32:=by
 induction n with
 |zero=>rfl
 |succ n ih=>simp[Lib.repeatL,ih,List.replicate_succ]
theorem blank_any(n:Nat)(w:World)(hn:n≤140737488355328):
 Calls prog 66 #[.string ⟨#[32]⟩,Iq n] w fun e w'=>e=.returned (.string ⟨(List.replicate n 32).toArray⟩)∧Below w.heap.size w w':=by refine(repeat_lib ⟨#[32]⟩ n w (by omega) (by show 1*n≤_;omega)).mono ?_;rintro e w1 ⟨rfl,b⟩;rw[show(⟨#[32]⟩:ByteArray).data.toList=[32]from rfl,repeat_one];exact⟨rfl,b⟩
theorem textOf_any(l:List (List UInt8×Int))(v:Value)(w:World)(hcl:Cls w v l)(hlen:l.length≤1099511627776)(hj:(joined l).length≤70368744177664):
 Calls prog 157 #[v] w fun e w'=>e=.returned (.string ⟨(joined l).toArray⟩)∧Below w.heap.size w w':=by
 obtain⟨a,cap,rfl,hh⟩:=hcl;have HJT:=qH<|fun k=>joined_take_le l k;go_enter func157,ntmps157;go_wp2;go_loopw[8] (fun i wr=>∃k:Nat,k≤l.length∧i=Iq k∧Hid (Lib.IsBuilderF 193 5 w.heap.size w.heap.size (Lib.byteCells (joined (l.take k))) wr)∧Below w.heap.size w wr) (fun i _=>l.length-(intOf i).toNat);case atStart=>exact⟨0,Nat.zero_le _,rfl,Lib.IsBuilderF.of (Lib.fresh_isBuilder 193 5 w),(Below.refl _ _).alloc (Nat.le_refl _) _⟩
 case round=>
  obtain⟨k,hk,rfl,hI,hbw⟩:=hrel;have hsz:=hbw.size;by_cases hlt:k<l.length
  ·have hlt':(k:Int)<(l.length:Int):=by omega
   have hne:l≠[]:=fun e=>by rw[e]at hlt;simp at hlt
   obtain⟨b,off,rfl,hb,hc⟩:=hh.resolve_left hne;obtain⟨T,V,hTV⟩:∃T V,l[k]=(T,V):=⟨_,_,rfl⟩;have c0:wr.cell? ⟨b,off+k*2,none⟩=some (.string ⟨T.toArray⟩):=by have:=(hc k hlt).1;rw[hTV]at this;exact(hbw.cell (p:=⟨b,off+k*2,none⟩) hb).trans this
   have c1:wr.cell? ⟨b,off+k*2+1,none⟩=some (Iq V):=by have:=(hc k hlt).2;rw[hTV]at this;exact(hbw.cell (p:=⟨b,off+k*2+1,none⟩) hb).trans this
   have HS:Hid (joined (l.take (k+1))=joined (l.take k)++T):=by show _=_;rw[joined_snoc l k hlt,hTV]
   have hj1:=HJT (k+1);rw[HS.out,List.length_append]at hj1;have hTs:(⟨T.toArray⟩:ByteArray).size=T.length:=by simp[ByteArray.size]
   obtain⟨Y,hY⟩:=nmd (joined (l.take k));rw[hY]at HS hj1 hI;clear hh hc hTV hne hY;go_wp2_with fail;refine(writeString_lib w.heap.size w.heap.size _ ⟨T.toArray⟩ _ (hI.alloc _) (by rw[Lib.byteCells_length,hTs];omega) (by simp;omega)).mono ?_;rintro e W1 ⟨rfl,h1,b1,k1⟩;have hb1:=(hbw.alloc hsz _).trans b1;clear hI c0 c1 b1 k1;go_wp2;go_roundw;case rel=>refine⟨k+1,by omega,by go_num,?_,hb1⟩;show Lib.IsBuilderF _ _ _ _ _ _;rw[HS.out,Lib.byteCells_append];exact Or.inr h1
   case measure=>simp[intOf];omega
  ·have hlt':¬(k:Int)<(l.length:Int):=by omega
   have HE:Hid (l.take k=l):=List.take_of_length_le (by omega);clear hh;go_wp2_with fail;refine(string_lib w.heap.size w.heap.size (joined (l.take k)) _ hI hsz).mono ?_;rintro e W1 ⟨rfl,_,b1,_⟩;go_wp2;go_ret;rw[HE.out];exact⟨rfl,hbw.trans b1⟩
theorem cell_off(w:World)(b i j:Nat)(v:Value)(h:i≠j):(w.setCell ⟨b,i,none⟩ v).cell? ⟨b,j,none⟩=w.cell? ⟨b,j,none⟩:=
 World.cell?_setCell_other _ _ _ _ (fun e=>h (by injection e))
def ClsO(B:Nat)(w:World)(v:Value)(l:List (List UInt8×Int)):Prop:=
 ∃a cap,v=.slice a l.length cap∧l.length≤cap∧cap≤maxLen∧(l=[]∨∃b off,a=some ⟨b,off,none⟩∧B≤b∧b<w.heap.size∧∀j (hj:j<l.length),w.cell? ⟨b,off+j*2,none⟩=some (.string ⟨(l[j]).1.toArray⟩)∧w.cell? ⟨b,off+j*2+1,none⟩=some (Iq (l[j]).2)∧w.frozen? ⟨b,off+j*2,none⟩=false∧w.frozen? ⟨b,off+j*2+1,none⟩=false)
theorem ClsO.cls{B:Nat}{w:World}{v:Value}{l:List (List UInt8×Int)}(h:ClsO B w v l):Cls w v l:=by obtain⟨a,cap,rfl,_,_,hh⟩:=h;refine⟨a,cap,rfl,hh.imp id ?_⟩;rintro⟨b,off,rfl,_,hb,hc⟩;exact⟨b,off,rfl,hb,fun j hj=>⟨(hc j hj).1,(hc j hj).2.1⟩⟩
theorem clsO_own{w:World}{B n:Nat}{e:TypeId}{v:Value}{l:List (List UInt8×Int)}(h:w.ownsRow B e 2 v n (cCells l)):ClsO B w v l:=by
 have hl:l.length=n:=by have:=h.1;rw[cCells_length]at this;omega
 have hC:=cls_own h;rcases h.2 with⟨rfl,rfl⟩|⟨g,cap,cur,rfl,hB,hg,hcap,hmax,_⟩;·have hz:=List.length_eq_zero_iff.1 hl;subst hz;exact⟨none,0,rfl,Nat.le_refl _,Nat.zero_le _,.inl rfl⟩
 ·obtain⟨a,cap',e1,hh⟩:=hC;cases e1;refine⟨_,_,rfl,by omega,hmax,hh.imp id ?_⟩;rintro⟨b,off,e2,hb,hc⟩;cases e2;exact⟨g,0,rfl,hB,hb,fun j hj=>⟨(hc j hj).1,(hc j hj).2,frozen_of_row _ _ _ _ _ hg,frozen_of_row _ _ _ _ _ hg⟩⟩
theorem one_at(l:List (List UInt8×Int))(j:Nat)(hj:j<l.length)(hj':j<(one l).length):(one l)[j]=if(l[j]).1=[10]then([32],1)else l[j]:=by simp[one]
end
section
open Go.RowKit Go.Proofs.Tryz
def ClsC(w:World)(v:Value)(l:List (List UInt8×Int)):Prop:=
 ∃a cap,v=.slice a l.length cap∧l.length≤cap∧cap≤maxLen∧(l=[]∨∃b off,a=some ⟨b,off,none⟩∧b<w.heap.size∧∀j (hj:j<l.length),w.cell? ⟨b,off+j*2,none⟩=some (.string ⟨(l[j]).1.toArray⟩)∧w.cell? ⟨b,off+j*2+1,none⟩=some (Iq (l[j]).2))
theorem ClsC.cls{w:World}{v:Value}{l:List (List UInt8×Int)}(h:ClsC w v l):Cls w v l:=by obtain⟨a,cap,rfl,_,_,hh⟩:=h;exact⟨a,cap,rfl,hh⟩
theorem ClsC.below{w w':World}{v:Value}{l:List (List UInt8×Int)}(h:ClsC w v l)(hb:Below w.heap.size w w'):ClsC w' v l:=by obtain⟨a,cap,rfl,h1,h2,hh⟩:=h;obtain⟨a',cap',e,hh'⟩:=(Cls.below ⟨a,cap,rfl,hh⟩ hb:Cls w' (.slice a l.length cap) l);cases e;exact⟨a,cap,rfl,h1,h2,hh'⟩
theorem ClsO.clsC{B:Nat}{w:World}{v:Value}{l:List (List UInt8×Int)}(h:ClsO B w v l):ClsC w v l:=by obtain⟨a,cap,rfl,h1,h2,hh⟩:=h;refine⟨a,cap,rfl,h1,h2,hh.imp id ?_⟩;rintro⟨b,off,rfl,_,hb,hc⟩;exact⟨b,off,rfl,hb,fun j hj=>⟨(hc j hj).1,(hc j hj).2.1⟩⟩
theorem cls_take{w:World}{b off cap n:Nat}{l:List (List UInt8×Int)}(hb:b<w.heap.size)(hc:∀j (hj:j<l.length),w.cell? ⟨b,off+j*2,none⟩=some (.string ⟨(l[j]).1.toArray⟩)∧w.cell? ⟨b,off+j*2+1,none⟩=some (Iq (l[j]).2))(hn:n≤l.length):
 Cls w (.slice (some ⟨b,off,none⟩) n cap) (l.take n):=by refine⟨_,cap,by rw[List.length_take,Nat.min_eq_left hn],.inr ⟨b,off,rfl,hb,fun j hj=>?_⟩⟩;rw[List.length_take]at hj;have:=hc j (by omega);rw[List.getElem_take];exact this
theorem lastB_take(l:List (List UInt8×Int))(n:Nat)(hn:n≤l.length):∀k,k≤n->lastB (l.take n) k=lastB l k
 |0,_=>rfl
 |k+1,h=>by
  have e:tx (l.take n) k=tx l k:=by simp[tx,show k<n by omega]
  simp only[lastB,e,lastB_take l n hn k (by omega)]
theorem firstLine_any(l:List (List UInt8×Int))(v:Value)(W:Int)(w:World)(hcl:ClsC w v l)(hbd:∀c∈l,0≤c.2∧c.2≤2)(hlen:l.length≤1099511627776)(hW0:1≤W)(hW1:W≤9223372036854775807):
 Calls prog 172 #[v,Iq W] w fun e w'=>e=.returned (.tuple #[Iq (firstL l W).n,Iq (firstL l W).d,Iq (firstL l W).e])∧Below w.heap.size w w':=by
 have HF:=qH<|fitting_any l v W w hcl.cls hbd hlen (by omega) hW1;have hle:=fitN_le l W;obtain⟨n,hn⟩:=nmd (fitN l W);have HL:Hid (firstL l W=if n=l.length then⟨n,0,3⟩
  else if tx l n=[10]then⟨n,1,2⟩
  else if n=0 then⟨1,0,1⟩
  else if tx l n=[32]then⟨n,1,0⟩
  else if 0≤lastB l n then⟨(lastB l n).toNat,1,0⟩
  else⟨n,0,1⟩):=by show _=_;unfold firstL;rw[hn]
 rw[hn]at HF hle;obtain⟨a,cap,rfl,hcap,hmax,hh⟩:=hcl;go_enter func172,ntmps172;go_wp2_with fail;refine HF.mono ?_;rintro e w1 ⟨rfl,b1⟩;by_cases h1:n=l.length
 ·have HE:Hid (firstL l W=⟨n,0,3⟩):=by show _=_;rw[HL.out,if_pos h1]
  subst h1;go_wp2;go_ret3;rw[HE.out];exact⟨rfl,b1⟩
 have hlt:n<l.length:=by omega
 have hne:l≠[]:=fun e=>by rw[e]at hlt;simp at hlt
 obtain⟨b,off,rfl,hb,hc⟩:=hh.resolve_left hne;have hb':=Nat.lt_of_lt_of_le hb b1.size;have hc1:Hid (∀j (hj:j<l.length),w1.cell? ⟨b,off+j*2,none⟩=some (.string ⟨(l[j]).1.toArray⟩)∧w1.cell? ⟨b,off+j*2+1,none⟩=some (Iq (l[j]).2)):=
  fun j hj=>⟨(b1.cell (p:=⟨b,off+j*2,none⟩) hb).trans (hc j hj).1,(b1.cell (p:=⟨b,off+j*2+1,none⟩) hb).trans (hc j hj).2⟩;have HT:Hid (Cls w1 (.slice (some ⟨b,off,none⟩) n cap) (l.take n)):=cls_take hb' hc1 (by omega);obtain⟨T,V,hTV⟩:∃T V,l[n]=(T,V):=⟨_,_,rfl⟩;have c0:w1.cell? ⟨b,off+n*2,none⟩=some (.string ⟨T.toArray⟩):=by have:=(hc1 n hlt).1;rw[hTV]at this;exact this
 have HX:Hid (tx l n=T):=by show _=_;rw[tx_at hlt,hTV]
 by_cases h10:T=[10]
 ·have HE:Hid (firstL l W=⟨n,1,2⟩):=by show _=_;rw[HL.out,if_neg h1,if_pos (by rw[HX.out,h10])]
  go_wp2;go_ret3;rw[HE.out];exact⟨rfl,b1⟩
 have h10':(T==[10])=false:=by simpa using h10
 by_cases h0:n=0
 ·have HE:Hid (firstL l W=⟨1,0,1⟩):=by show _=_;rw[HL.out,if_neg h1,if_neg (by rw[HX.out];exact h10),if_pos h0]
  subst h0;have c0':w1.cell? ⟨b,off,none⟩=some (.string ⟨T.toArray⟩):=by simpa using c0
  go_wp2;go_ret3;rw[HE.out];exact⟨rfl,b1⟩
 by_cases h32:T=[32]
 ·have HE:Hid (firstL l W=⟨n,1,0⟩):=by show _=_;rw[HL.out,if_neg h1,if_neg (by rw[HX.out];exact h10),if_neg h0,if_pos (by rw[HX.out,h32])]
  go_wp2;go_ret3;rw[HE.out];exact⟨rfl,b1⟩
 have h32':(T==[32])=false:=by simpa using h32
 have HB:=lastBlank_any (l.take n) _ w1 HT (by rw[List.length_take];omega);have hbn:=lastB_lt l n;rw[List.length_take,Nat.min_eq_left hle,lastB_take l n hle n (Nat.le_refl _)]at HB;have HB':=qH<|HB;obtain⟨m,hm⟩:=nmd (lastB l n);have HM:=qH<|hm;rw[hm]at HB' hbn;go_wp2_with fail;refine HB'.mono ?_;rintro e w2 ⟨rfl,b2⟩;have hB:=b1.trans (b2.mono b1.size);by_cases hm0:0≤m
 ·have HE:Hid (firstL l W=⟨m.toNat,1,0⟩):=by show _=_;rw[HL.out,if_neg h1,if_neg (by rw[HX.out];exact h10),if_neg h0,if_neg (by rw[HX.out];exact h32),HM.out,if_pos hm0]
  have hmm:((m.toNat:Nat):Int)=m:=by omega
  have HMM:=qH<|hmm;go_wp2;go_ret3;rw[HE.out];simp only[HMM.out];exact⟨rfl,hB⟩
 ·have HE:Hid (firstL l W=⟨n,0,1⟩):=by show _=_;rw[HL.out,if_neg h1,if_neg (by rw[HX.out];exact h10),if_neg h0,if_neg (by rw[HX.out];exact h32),HM.out,if_neg hm0]
  go_wp2;go_ret3;rw[HE.out];exact⟨rfl,hB⟩
theorem row5{w:World}{B:Nat}{t:TypeId}{a0 a1 a2 a3 a4 b0 b1 b2 b3 b4:Value}(h:w.heap[B]?=some (.cells #[a0,a1,a2,a3,a4] t (0,0))):
 (((((w.setCell ⟨B,0,none⟩ b0).setCell ⟨B,1,none⟩ b1).setCell ⟨B,2,none⟩ b2).setCell ⟨B,3,none⟩ b3).setCell ⟨B,4,none⟩ b4).heap[B]?=some (.cells #[b0,b1,b2,b3,b4] t (0,0)):=by rw[heap_setCell_same _ _ _ _ _ _ (heap_setCell_same _ _ _ _ _ _ (heap_setCell_same _ _ _ _ _ _ (heap_setCell_same _ _ _ _ _ _ (heap_setCell_same _ _ _ _ _ _ h))))];rfl
def lineV(T:List UInt8)(W:Int)(F N E:Int):Value:=.agg #[.string ⟨T.toArray⟩,Iq W,Iq F,Iq N,Iq E]
def lineO(l:List (List UInt8×Int))(W:Int):Value:=if W<wideSum l then lineV (List.replicate W.toNat 32) W 0 1 0 else lineV (joined l) (wideSum l) 0 l.length 0
theorem lineOf_any(l:List (List UInt8×Int))(v:Value)(W:Int)(w:World)(hcl:Cls w v l)(hbd:∀c∈l,0≤c.2∧c.2≤2)(hlen:l.length≤1099511627776)(hj:(joined l).length≤70368744177664)(hW0:1≤W)(hW1:W<wideSum l->W≤1099511627776):
 Calls prog 173 #[v,Iq W] w fun e w'=>e=.returned (lineO l W)∧Below w.heap.size w w':=by
 have HBD:=qH<|hbd;have hall:=wideSum_bd l hbd l.length;rw[List.take_length]at hall;have HCL:=qH<|hcl;obtain⟨a,cap,rfl,hh⟩:=hcl;go_enter func173,ntmps173;go_wp2;go_loopw[5,10] (fun t i wr=>∃k:Nat,k≤l.length∧i=Iq k∧t=Iq (wideSum (l.take k))∧Below w.heap.size w wr∧w.heap.size<wr.heap.size∧wr.heap[w.heap.size]?=some (.cells #[.string ⟨#[]⟩,Iq 0,Iq 0,Iq 0,Iq 0] 201)) (fun _ i _=>l.length-(intOf i).toNat);case atStart=>exact⟨0,Nat.zero_le _,rfl,rfl,(Below.refl _ _).alloc (Nat.le_refl _) _,by simp,heap_alloc_new _ _⟩
 case round=>
  obtain⟨k,hk,rfl,rfl,hbw,hsw,hrow⟩:=hrel;have hwb:=wideSum_bd l HBD k;have hsz:=hbw.size;by_cases hlt:k<l.length
  ·have hlt':(k:Int)<(l.length:Int):=by omega
   have hne:l≠[]:=fun e=>by rw[e]at hlt;simp at hlt
   obtain⟨b,off,rfl,hb,hc⟩:=hh.resolve_left hne;obtain⟨T,V,hTV⟩:∃T V,l[k]=(T,V):=⟨_,_,rfl⟩;have hV:=HBD l[k] (List.getElem_mem hlt);have c0:wr.cell? ⟨b,off+k*2,none⟩=some (.string ⟨T.toArray⟩):=by have:=(hc k hlt).1;rw[hTV]at this;exact(hbw.cell (p:=⟨b,off+k*2,none⟩) hb).trans this
   have c1:wr.cell? ⟨b,off+k*2+1,none⟩=some (Iq V):=by have:=(hc k hlt).2;rw[hTV]at this;exact(hbw.cell (p:=⟨b,off+k*2+1,none⟩) hb).trans this
   have HS:Hid (wideSum (l.take (k+1))=wideSum (l.take k)+V):=by show _=_;rw[wideSum_snoc l k hlt,hTV]
   rw[hTV]at hV;obtain⟨X,hX⟩:=nmd (wideSum (l.take k));rw[hX]at HS hwb;rw[hX];simp only at hV;have HROW:=qH<|hrow;go_wp2;go_roundw;case rel=>exact⟨k+1,by omega,by go_num,by rw[HS.out],hbw.alloc hsz _,by simp;omega,(((Below.refl wr.heap.size wr).alloc (Nat.le_refl _) _).block w.heap.size hsw).trans HROW⟩
   case measure=>simp[intOf];omega
  ·have hlt':¬(k:Int)<(l.length:Int):=by omega
   have e:l.take k=l:=List.take_of_length_le (by omega);rw[e]at hwb⊢;have HROW:=qH<|hrow;have HCL2:=qH<|HCL.below hbw;have HJ:=qH<|textOf_any l _ wr HCL2 hlen hj;obtain⟨X,hX⟩:=nmd (wideSum l);have HXE:=qH<|hX;rw[hX]at hwb hall hW1⊢;obtain⟨J,hJ⟩:=nmd (joined l);have HJE:=qH<|hJ;rw[hJ]at HJ;by_cases hgt:W<X
   ·obtain⟨c,hc⟩:∃c:Nat,W=c:=⟨W.toNat,by omega⟩;subst hc;have HR:=qH<|blank_any c wr (by omega);obtain⟨Y,hY⟩:=nmd (List.replicate c (32:UInt8));have HY:=qH<|hY;rw[hY]at HR;go_wp2_with fail;refine HR.mono ?_;rintro e w2 ⟨rfl,b2⟩;have hs2:=b2.size;have hr2:=(b2.block w.heap.size hsw).trans HROW;have q0:w2.cell? ⟨w.heap.size,0,none⟩=some (.string ⟨#[]⟩):=by simp[World.cell?,hr2]
    have q1:w2.cell? ⟨w.heap.size,1,none⟩=some (Iq 0):=by simp[World.cell?,hr2]
    have q2:w2.cell? ⟨w.heap.size,2,none⟩=some (Iq 0):=by simp[World.cell?,hr2]
    have q3:w2.cell? ⟨w.heap.size,3,none⟩=some (Iq 0):=by simp[World.cell?,hr2]
    have q4:w2.cell? ⟨w.heap.size,4,none⟩=some (Iq 0):=by simp[World.cell?,hr2]
    have fr:∀j,w2.frozen? ⟨w.heap.size,j,none⟩=false:=fun j=>frozen_of_row _ _ _ _ _ hr2;have HR2:=qH<|hr2;go_wp2;try simp only[Exit.inBlock,Exit.then]
    refine bodyPost_ret (results_cell_row rfl _ _ w.heap.size _ _ _ _ rfl (row5 HR2) underlying201 rfl (by kernel_rfl)) rfl ?_;rw[lineO,HXE.out,if_pos hgt];refine⟨?_,?_⟩;·rw[show((c:Int)).toNat=c from rfl,HY.out];rfl
    ·have hB2:=hbw.trans (b2.mono hsz);exact((((hB2.setCell (p:=⟨w.heap.size,0,none⟩) (Nat.le_refl _) _).setCell (p:=⟨w.heap.size,1,none⟩) (Nat.le_refl _) _).setCell (p:=⟨w.heap.size,2,none⟩) (Nat.le_refl _) _).setCell (p:=⟨w.heap.size,3,none⟩) (Nat.le_refl _) _).setCell (p:=⟨w.heap.size,4,none⟩) (Nat.le_refl _) _
   ·go_wp2_with fail;refine HJ.mono ?_;rintro e w2 ⟨rfl,b2⟩;have hs2:=b2.size;have hr2:=(b2.block w.heap.size hsw).trans HROW;have q0:w2.cell? ⟨w.heap.size,0,none⟩=some (.string ⟨#[]⟩):=by simp[World.cell?,hr2]
    have q1:w2.cell? ⟨w.heap.size,1,none⟩=some (Iq 0):=by simp[World.cell?,hr2]
    have q2:w2.cell? ⟨w.heap.size,2,none⟩=some (Iq 0):=by simp[World.cell?,hr2]
    have q3:w2.cell? ⟨w.heap.size,3,none⟩=some (Iq 0):=by simp[World.cell?,hr2]
    have q4:w2.cell? ⟨w.heap.size,4,none⟩=some (Iq 0):=by simp[World.cell?,hr2]
    have fr:∀j,w2.frozen? ⟨w.heap.size,j,none⟩=false:=fun j=>frozen_of_row _ _ _ _ _ hr2;have HR2:=qH<|hr2;clear hr2 HJ HCL2 HCL HROW;go_wp2;try simp only[Exit.inBlock,Exit.then]
    refine bodyPost_ret (results_cell_row rfl _ _ w.heap.size _ _ _ _ rfl (row5 HR2) underlying201 rfl (by kernel_rfl)) rfl ?_;rw[lineO,HXE.out,HJE.out,if_neg (by omega)];refine⟨rfl,?_⟩;have hB2:=hbw.trans (b2.mono hsz);exact((((hB2.setCell (p:=⟨w.heap.size,0,none⟩) (Nat.le_refl _) _).setCell (p:=⟨w.heap.size,1,none⟩) (Nat.le_refl _) _).setCell (p:=⟨w.heap.size,2,none⟩) (Nat.le_refl _) _).setCell (p:=⟨w.heap.size,3,none⟩) (Nat.le_refl _) _).setCell (p:=⟨w.heap.size,4,none⟩) (Nat.le_refl _) _
end
section
open Go.RowKit
def lnCells(x:Ln):List Value:=[.string ⟨x.T.toArray⟩,Iq x.W,Iq x.F,Iq x.N,Iq x.E]
def lCells(ls:List Ln):List Value:=ls.flatMap lnCells
theorem lCells_snoc(ls:List Ln)(x:Ln):lCells (ls++[x])=lCells ls++lnCells x:=by simp[lCells]
theorem cell_five{W:World}{B:Nat}{x:Ln}{t:TypeId}(h:W.heap[B]?=some (.cells (lnCells x).toArray t (0,0))):W.cell? ⟨B,0,none⟩=some (.string ⟨x.T.toArray⟩)∧W.cell? ⟨B,1,none⟩=some (Iq x.W)∧W.cell? ⟨B,2,none⟩=some (Iq x.F)∧W.cell? ⟨B,3,none⟩=some (Iq x.N)∧W.cell? ⟨B,4,none⟩=some (Iq x.E):=by simp[World.cell?,h,lnCells]
theorem new_five(W:World)(x:Ln)(t:TypeId):∀(j:Nat) (u:Value),(lnCells x)[j]?=some u->(W.alloc (.cells (lnCells x).toArray t)).cell? ((⟨W.heap.size,0,none⟩:Addr).add j)=some u:=by
 intro j u hu;have e0:(⟨W.heap.size,0,none⟩:Addr).add j=⟨W.heap.size,j,none⟩:=by unfold Addr.add;split<;>simp_all
 rw[e0];have hh:=heap_alloc_new W (.cells (lnCells x).toArray t);simp only[World.cell?];rw[hh];simpa using hu
end
section
open Go.RowKit Go.Proofs.Tryz
theorem inOneLine_any(s:ByteArray)(w:World)(ht:TabAt w)(hs:s.size≤1099511627776):
 Calls prog 155 #[.string s] w fun e w'=>∃v,e=.returned v∧ClsO w.heap.size w' v (one (clus (runes s.data.toList)))∧Below w.heap.size w w':=by
 have hsl:s.data.toList.length=s.size:=by rw[Array.length_toList];rfl
 have hR:=runes_length s.data.toList;have hC:=clus_length (runes s.data.toList);rw[hsl]at hR;have G:Hid (Calls prog 9 #[.string s] w fun e w'=>∃v,e=.returned v∧ClsO w.heap.size w' v (clus (runes s.data.toList))∧Below w.heap.size w w'):=by refine(gClusters_any s w ht hs).mono ?_;rintro e w1 ⟨v,rfl,o,b⟩;exact⟨v,rfl,clsO_own o,b⟩
 obtain⟨l,hl⟩:=nmd (clus (runes s.data.toList));rw[hl]at G hC⊢;clear hl hsl ht;go_enter func155,ntmps155;go_wp2_with fail;refine G.mono ?_;rintro e w1 ⟨v1,rfl,⟨a,cap,rfl,hcap,hmax,hh⟩,b1⟩;clear G;have hs1:=b1.size;have hol:(one l).length=l.length:=one_length l;by_cases hne:l=[]
 ·subst hne;go_wp2;go_loopw[9] (fun i wr=>i=Iq 0∧wr=w1) (fun i _=>0);case atStart=>exact⟨rfl,rfl⟩
  case round=>obtain⟨rfl,rfl⟩:=hrel;go_wp2;go_ret;exact⟨_,rfl,⟨a,cap,rfl,hcap,hmax,.inl rfl⟩,b1⟩
 obtain⟨b,off,rfl,hB,hb,hc⟩:=hh.resolve_left hne;have HC:Hid (∀j (hj:j<l.length),w1.cell? ⟨b,off+j*2,none⟩=some (.string ⟨(l[j]).1.toArray⟩)∧w1.cell? ⟨b,off+j*2+1,none⟩=some (Iq (l[j]).2)∧w1.frozen? ⟨b,off+j*2,none⟩=false∧w1.frozen? ⟨b,off+j*2+1,none⟩=false):=hc;clear hc hh;go_wp2;go_loopw[9] (fun i wr=>∃k:Nat,k≤l.length∧i=Iq k∧b<wr.heap.size∧Hid (∀j (hj:j<l.length) (hj':j<(one l).length),(j<k->wr.cell? ⟨b,off+j*2,none⟩=some (.string ⟨((one l)[j]).1.toArray⟩)∧wr.cell? ⟨b,off+j*2+1,none⟩=some (Iq ((one l)[j]).2))∧(k≤j->wr.cell? ⟨b,off+j*2,none⟩=some (.string ⟨(l[j]).1.toArray⟩)∧wr.cell? ⟨b,off+j*2+1,none⟩=some (Iq (l[j]).2))∧wr.frozen? ⟨b,off+j*2,none⟩=false∧wr.frozen? ⟨b,off+j*2+1,none⟩=false)∧Below w.heap.size w wr) (fun i _=>l.length-(intOf i).toNat);case atStart=>exact⟨0,Nat.zero_le _,rfl,hb,fun j hj _=>⟨fun h=>by omega,fun _=>⟨(HC j hj).1,(HC j hj).2.1⟩,(HC j hj).2.2⟩,b1⟩
 case round=>
  obtain⟨k,hk,rfl,hbr,HR,hbw⟩:=hrel;have hsz:=hbw.size;by_cases hlt:k<l.length
  ·have hlt':(k:Int)<(l.length:Int):=by omega
   obtain⟨T,V,hTV⟩:∃T V,l[k]=(T,V):=⟨_,_,rfl⟩;have hRk:=HR k hlt (by omega);have c0:wr.cell? ⟨b,off+k*2,none⟩=some (.string ⟨T.toArray⟩):=by have:=(hRk.2.1 (Nat.le_refl _)).1;rw[hTV]at this;exact this
   have c1:wr.cell? ⟨b,off+k*2+1,none⟩=some (Iq V):=by have:=(hRk.2.1 (Nat.le_refl _)).2;rw[hTV]at this;exact this
   have f0:=hRk.2.2.1;have f1:=hRk.2.2.2;have hok:(one l)[k]'(by omega)=if T=[10]then([32],1)else(T,V):=by rw[one_at l k hlt,hTV]
   have HOK:Hid (∀hj':k<(one l).length,(one l)[k]=if T=[10]then([32],1)else(T,V)):=fun _=>hok;clear hRk hok hTV;by_cases h10:T=[10]
   ·have h10':(T==[10])=true:=by rw[h10];rfl
    go_wp2;go_roundw;case rel=>
     refine⟨k+1,by omega,by go_num,by simpa using hbr,fun j hj hj'=>?_,?_⟩
     ·have hR:=HR j hj hj';simp only[World.frozen?_setCell];refine⟨fun h=>?_,fun h=>?_,hR.2.2⟩
      ·by_cases e:j=k
       ·subst e;rw[HOK hj',if_pos h10];refine⟨?_,?_⟩;·rw[cell_off _ _ _ _ _ (by omega)];exact World.cell?_setCell_same' _ _ _ (by rw[c0];rfl)
        ·exact World.cell?_setCell_same' _ _ _ (by rw[cell_off _ _ _ _ _ (by omega)];rw[c1];rfl)
       ·have h2:=hR.1 (by omega);refine⟨?_,?_⟩;·rw[cell_off _ _ _ _ _ (by omega),cell_off _ _ _ _ _ (by omega)];exact h2.1
        ·rw[cell_off _ _ _ _ _ (by omega),cell_off _ _ _ _ _ (by omega)];exact h2.2
      ·have h2:=hR.2.1 (by omega);refine⟨?_,?_⟩;·rw[cell_off _ _ _ _ _ (by omega),cell_off _ _ _ _ _ (by omega)];exact h2.1
       ·rw[cell_off _ _ _ _ _ (by omega),cell_off _ _ _ _ _ (by omega)];exact h2.2
     ·exact(hbw.setCell (p:=⟨b,off+k*2,none⟩) hB _).setCell (p:=⟨b,off+k*2+1,none⟩) hB _
    case measure=>simp[intOf];omega
   ·have h10':(T==[10])=false:=by simpa using h10
    go_wp2;go_roundw;case rel=>
     refine⟨k+1,by omega,by go_num,hbr,fun j hj hj'=>?_,hbw⟩;have hR:=HR j hj hj';refine⟨fun h=>?_,fun h=>hR.2.1 (by omega),hR.2.2⟩;by_cases e:j=k;·subst e;rw[HOK hj',if_neg h10];exact⟨c0,c1⟩
     ·exact hR.1 (by omega)
    case measure=>simp[intOf];omega
  ·have hlt':¬(k:Int)<(l.length:Int):=by omega
   go_wp2;go_ret;refine⟨_,rfl,⟨_,cap,by rw[hol];rfl,by omega,hmax,.inr ⟨b,off,rfl,hB,hbr,fun j hj=>?_⟩⟩,hbw⟩;have hR:=HR j (by omega) hj;exact⟨(hR.1 (by omega)).1,(hR.1 (by omega)).2,hR.2.2⟩
end
section
open Go.RowKit Go.Proofs.Tryz
def cutL(m:List (List UInt8×Int))(W:Int):List UInt8:=if W<1 then[]else if wideSum m≤W then joined m else joined (m.take (fitN m (W-1)))++[226,128,166]
theorem cut_any(s:ByteArray)(W:Int)(w:World)(ht:TabAt w)(hs:s.size≤1099511627776)(hW0:-9223372036854775808≤W)(hW1:W≤9223372036854775807):
 Calls prog 130 #[.string s,Iq W] w fun e w'=>e=.returned (.string ⟨(cutL (one (clus (runes s.data.toList))) W).toArray⟩)∧Below w.heap.size w w':=by
 have hsl:s.data.toList.length=s.size:=by rw[Array.length_toList];rfl
 have hR:=runes_length s.data.toList;have hC:=clus_length (runes s.data.toList);rw[hsl]at hR;by_cases hlt:W<1
 ·have HE:Hid (cutL (one (clus (runes s.data.toList))) W=[]):=by show _=_;rw[cutL,if_pos hlt]
  go_enter func130,ntmps130;go_wp2;go_ret;rw[HE.out];exact⟨rfl,Below.refl _ _⟩
 have hol:=one_length (clus (runes s.data.toList));have hbd:=one_wide (clus_wide (runes s.data.toList));have h10:=one_ten (clus (runes s.data.toList));have hjb:=joined_bd _ (one_short (clus_short (runes s.data.toList)));have G:Hid (Calls prog 155 #[.string s] w fun e w'=>∃v,e=.returned v∧ClsO w.heap.size w' v (one (clus (runes s.data.toList)))∧Below w.heap.size w w'):=inOneLine_any s w ht hs;obtain⟨m,hm⟩:=nmd (one (clus (runes s.data.toList)));rw[hm]at hol hbd h10 hjb G⊢;have hfa:=fit_all m W hbd h10 (by omega);have hf1:=fitN_le m (W-1);have hml:m.length≤1099511627776:=by omega
 have HC:Hid (cutL m W=if wideSum m≤W then joined m else joined (m.take (fitN m (W-1)))++[226,128,166]):=by show _=_;rw[cutL,if_neg hlt]
 have HBD:Hid (∀c∈m,0≤c.2∧c.2≤2):=hbd;have HJT:Hid (∀k,(joined (m.take k)).length≤(joined m).length):=fun k=>joined_take_le m k;clear hm hsl hC hbd h10 ht hol;go_enter func130,ntmps130;go_wp2_with fail;refine G.mono ?_;rintro e w1 ⟨v1,rfl,co,b1⟩;have HCC:Hid (ClsC w1 v1 m):=co.clsC;obtain⟨a,cap,rfl,hcap,hmax,hh⟩:=co;clear G;go_wp2_with fail;refine(fitting_any m _ W w1 HCC.cls HBD hml hW0 hW1).mono ?_;rintro e w2 ⟨rfl,b2⟩;have HC2:Hid (ClsC w2 (.slice a m.length cap) m):=HCC.below b2;have hfw:=fitN_le m W;obtain⟨f,hf⟩:=nmd (fitN m W);rw[hf]at hfa hfw⊢;clear hf HCC;by_cases hall:f=m.length
 ·have HE:Hid (cutL m W=joined m):=by show _=_;rw[HC.out,if_pos (hfa.1 hall)]
  subst hall;clear hfa hh;go_wp2_with fail;refine(textOf_any m _ w2 HC2.cls hml (by omega)).mono ?_;rintro e w3 ⟨rfl,b3⟩;go_wp2;go_ret;rw[HE.out];exact⟨rfl,b1.trans ((b2.mono b1.size).trans (b3.mono (Nat.le_trans b1.size b2.size)))⟩
 ·have HE:Hid (cutL m W=joined (m.take (fitN m (W-1)))++[226,128,166]):=by show _=_;rw[HC.out,if_neg (fun h=>hall (hfa.2 h))]
  have hne:m≠[]:=fun e=>by rw[e]at hall hfw;simp at hall hfw;omega
  obtain⟨b,off,rfl,hB,hb,hc⟩:=hh.resolve_left hne;have hall':¬(f:Int)=(m.length:Int):=by omega
  clear hfa hh hc;go_wp2_with fail;refine(fitting_any m _ (W-1) w2 HC2.cls HBD hml (by omega) (by omega)).mono ?_;rintro e w3 ⟨rfl,b3⟩;have HC3:Hid (ClsC w3 (.slice (some ⟨b,off,none⟩) m.length cap) m):=HC2.below b3;obtain⟨g,hg⟩:=nmd (fitN m (W-1));rw[hg]at HE hf1⊢;have HT:Hid (Cls w3 (.slice (some ⟨b,off,none⟩) g cap) (m.take g)):=by obtain⟨a',cap',e1,_,_,hh⟩:=HC3.out;cases e1;obtain⟨b',off',e2,hb',hc'⟩:=hh.resolve_left hne;cases e2;exact cls_take hb' hc' hf1
  have hjg:=HJT g;have hlg:(m.take g).length≤1099511627776:=by rw[List.length_take];omega
  clear hg HC2 HC3;have hgc:(g:Int)≤(cap:Int):=by omega
  go_wp2_with fail;refine(textOf_any (m.take g) _ w3 HT hlg (by omega)).mono ?_;rintro e w4 ⟨rfl,b4⟩;obtain⟨Y,hY⟩:=nmd (joined (m.take g));rw[hY]at HE hjg⊢;clear hY HT;go_wp2;go_ret;rw[HE.out,<-str_app];have s1:=b1.size;have s2:=b2.size;have s3:=b3.size;exact⟨rfl,b1.trans ((b2.mono s1).trans ((b3.mono (by omega)).trans (b4.mono (by omega))))⟩
end
section
open Go.RowKit Go.Proofs.Tryz
theorem mk_list(s:ByteArray):(⟨s.data.toList.toArray⟩:ByteArray)=s:=by cases s;simp
theorem app3(s:ByteArray)(X Y:List UInt8):(⟨X.toArray⟩:ByteArray)++s++(⟨Y.toArray⟩:ByteArray)=⟨(X++s.data.toList++Y).toArray⟩:=by apply ByteArray.ext;simp
def ahd(n:Nat)(how:Int):Nat:=if how=1 then n/2 else if how=2 then n else 0
theorem ahd_le(n:Nat)(how:Int):ahd n how≤n:=by unfold ahd;(repeat' split)<;>omega
def algn(T:List UInt8)(c W how:Int):List UInt8:=if min W 100000≤c then T else List.replicate (ahd (min W 100000-c).toNat how) 32++T++List.replicate ((min W 100000-c).toNat-ahd (min W 100000-c).toNat how) 32
theorem align_any(s:ByteArray)(W how:Int)(w:World)(ht:TabAt w)(hs:s.size≤1099511627776)(hW0:-9223372036854775808≤W)(hW1:W≤9223372036854775807):
 Calls prog 69 #[.string s,Iq W,Iq how] w fun e w'=>e=.returned (.string ⟨(algn s.data.toList (wideSum (clus (runes s.data.toList))) W how).toArray⟩)∧Below w.heap.size w w':=by
 have hsl:s.data.toList.length=s.size:=by rw[Array.length_toList];rfl
 have hR:=runes_length s.data.toList;have hC:=clus_length (runes s.data.toList);rw[hsl]at hR;have hbd:=wideSum_bd _ (clus_wide (runes s.data.toList)) (clus (runes s.data.toList)).length;rw[List.take_length]at hbd;have K:Hid (Calls prog 131 #[.string s] w fun e w'=>e=.returned (Iq (wideSum (clus (runes s.data.toList))))∧Below w.heap.size w w'):=columns_any s w ht hs;obtain⟨c,hc⟩:=nmd (wideSum (clus (runes s.data.toList)));rw[hc]at K hbd⊢;have hSE:(⟨s.data.toList.toArray⟩:ByteArray)=s:=by cases s;simp
 have HSE:Hid ((⟨s.data.toList.toArray⟩:ByteArray)=s):=hSE;obtain⟨M,hM⟩:=nmd (min W 100000);have hM1:M≤100000:=by omega
 have hM0:-9223372036854775808≤M:=by omega
 have HM:Hid (min W 100000=M):=hM;clear hc hsl ht hSE;by_cases hle:M≤c
 ·have HE:Hid (algn s.data.toList c W how=s.data.toList):=by show _=_;unfold algn;rw[if_pos (by rw[HM.out];exact hle)]
  go_enter func69,ntmps69;go_wp2_with fail;refine K.mono ?_;rintro e w1 ⟨rfl,b1⟩;clear K hM;go_wp2;go_ret;rw[HE.out,mk_list];exact⟨rfl,b1⟩
 ·obtain⟨n,hn⟩:∃n:Nat,M-c=n:=⟨(M-c).toNat,by omega⟩;have hn1:n≤100000:=by omega
  have HE:Hid (algn s.data.toList c W how=List.replicate (ahd n how) 32++s.data.toList++List.replicate (n-ahd n how) 32):=by show _=_;unfold algn;rw[if_neg (by rw[HM.out];exact hle),HM.out,hn];simp
  have hal:=ahd_le n how;have D1:how=1->ahd n how=n/2:=fun h=>by unfold ahd;rw[if_pos h]
  have D2:how=2->ahd n how=n:=fun h=>by unfold ahd;rw[if_neg (by omega),if_pos h]
  have D3:how≠1->how≠2->ahd n how=0:=fun h h'=>by unfold ahd;rw[if_neg h,if_neg h']
  obtain⟨a,ha⟩:=nmd (ahd n how);rw[ha]at HE hal D1 D2 D3;have hna:(n:Int)-(a:Int)=((n-a:Nat):Int):=by omega
  have hR1:∀w,Calls prog 66 #[.string ⟨#[32]⟩,Iq a] w fun e w'=>e=.returned (.string ⟨(List.replicate a 32).toArray⟩)∧Below w.heap.size w w':=fun w=>blank_any a w (by omega);have hR2:∀w,Calls prog 66 #[.string ⟨#[32]⟩,Iq ((n-a:Nat):Int)] w fun e w'=>e=.returned (.string ⟨(List.replicate (n-a) 32).toArray⟩)∧Below w.heap.size w w':=fun w=>blank_any (n-a) w (by omega);have R1:Hid (∀w,Calls prog 66 #[.string ⟨#[32]⟩,Iq a] w fun e w'=>e=.returned (.string ⟨(List.replicate a 32).toArray⟩)∧Below w.heap.size w w'):=hR1;have R2:Hid (∀w,Calls prog 66 #[.string ⟨#[32]⟩,Iq ((n-a:Nat):Int)] w fun e w'=>e=.returned (.string ⟨(List.replicate (n-a) 32).toArray⟩)∧Below w.heap.size w w'):=hR2;have HNA:Hid ((n:Int)-(a:Int)=((n-a:Nat):Int)):=hna;have HN:Hid (M-c=n):=hn;have l1:(List.replicate a (32:UInt8)).length=a:=List.length_replicate;have l2:(List.replicate (n-a) (32:UInt8)).length=n-a:=List.length_replicate;obtain⟨X,hX⟩:=nmd (List.replicate a (32:UInt8));obtain⟨Y,hY⟩:=nmd (List.replicate (n-a) (32:UInt8));rw[hX]at HE R1 l1;rw[hY]at HE R2 l2;clear hR1 hR2 hna hn hX hY ha;go_enter func69,ntmps69;go_wp2_with fail;refine K.mono ?_;rintro e w1 ⟨rfl,b1⟩;clear K hM;have e0:M-c-(a:Int)=((n-a:Nat):Int):=by have:=HN.out;omega
  have E0:Hid (M-c-(a:Int)=((n-a:Nat):Int)):=e0;have hMc:M-c≤100000:=by have:=HN.out;omega
  have hMc0:0<M-c:=by omega
  by_cases h1:how=1
  ·have e1:a=n/2:=D1 h1;have E1:Hid (((n:Int))/2=(a:Int)):=by show _=_;rw[e1];rfl
   have E2:Hid ((M-c).tdiv 2=(a:Int)):=by show _=_;rw[HN.out,e1];rfl
   clear D1 D2 D3 e1 e0;subst h1;have hq:(M-c).tdiv 2=(a:Int):=E2.out;go_wp2_with fail;try rw[E1.out]
   refine(R1 _).mono ?_;rintro e w2 ⟨rfl,b2⟩;go_wp2_with fail;refine(show Calls _ _ #[_,Iq (M-c-(a:Int))] _ _ by rw[E0.out];exact R2 _).mono ?_;rintro e w3 ⟨rfl,b3⟩;go_wp2;go_ret;rw[HE.out,<-app3];exact⟨rfl,b1.trans ((b2.mono b1.size).trans (b3.mono (Nat.le_trans b1.size b2.size)))⟩
  ·by_cases h2:how=2
   ·have e1:a=n:=D2 h2;have R1':Hid (∀w,Calls prog 66 #[.string ⟨#[32]⟩,Iq (M-c)] w fun e w'=>e=.returned (.string ⟨X.toArray⟩)∧Below w.heap.size w w'):=by intro w;rw[HN.out,<-e1];exact R1 w
    have R2':Hid (∀w,Calls prog 66 #[.string ⟨#[32]⟩,Iq 0] w fun e w'=>e=.returned (.string ⟨Y.toArray⟩)∧Below w.heap.size w w'):=by intro w;have:=R2 w;rw[show((n-a:Nat):Int)=0 by omega]at this;exact this
    clear D1 D2 D3 e1 e0 R1 R2;subst h2;go_wp2_with fail;refine(R1' _).mono ?_;rintro e w2 ⟨rfl,b2⟩;go_wp2_with fail;refine(R2' _).mono ?_;rintro e w3 ⟨rfl,b3⟩;go_wp2;go_ret;rw[HE.out,<-app3];exact⟨rfl,b1.trans ((b2.mono b1.size).trans (b3.mono (Nat.le_trans b1.size b2.size)))⟩
   ·have e1:a=0:=D3 h1 h2;have R1':Hid (∀w,Calls prog 66 #[.string ⟨#[32]⟩,Iq 0] w fun e w'=>e=.returned (.string ⟨X.toArray⟩)∧Below w.heap.size w w'):=by intro w;have:=R1 w;rw[show(a:Int)=0 by omega]at this;exact this
    have R2':Hid (∀w,Calls prog 66 #[.string ⟨#[32]⟩,Iq (M-c)] w fun e w'=>e=.returned (.string ⟨Y.toArray⟩)∧Below w.heap.size w w'):=by intro w;have:=R2 w;rw[show((n-a:Nat):Int)=M-c by have:=HN.out;omega]at this;exact this
    have g1:¬how=1:=h1;have g2:¬how=2:=h2;clear D1 D2 D3 e1 e0 R1 R2;go_wp2_with fail;refine(R1' _).mono ?_;rintro e w2 ⟨rfl,b2⟩;go_wp2_with fail;refine(R2' _).mono ?_;rintro e w3 ⟨rfl,b3⟩;go_wp2;go_ret;rw[HE.out,<-app3];exact⟨rfl,b1.trans ((b2.mono b1.size).trans (b3.mono (Nat.le_trans b1.size b2.size)))⟩
end
end Go.Proofs.YtmbefonnkkhfgaaGreatDoor
