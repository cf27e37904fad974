import Derived.Test.YtbeiapdobffpiaaGreatDoorQ00
import Derived.Test.YtbeiapdobffpiaaGreatDoorQ05
import Derived.Test.YtbeiapdobffpiaaGreatDoorQ32
set_option linter.all false
set_option maxRecDepth 100000
set_option maxHeartbeats 16000000
namespace Go.Proofs.YtbeiapdobffpiaaGreatDoor
open Go.RowKit Go.Proofs.Tryz
theorem Dy  n  :Lib.repeatL [32] n=List.replicate n 32:=by
 induction n with
 |zero=>rfl
 |succ n ih=>simp[Lib.repeatL,ih,List.replicate_succ]
theorem blank_any(n:Nat)  w  (hn:n<=140737488355328):
 Cw 263 #[.string ⟨#[32]⟩,Iq n] w fun e w'=>e=Rw (.string ⟨(List.replicate n 32).toArray⟩)/\Bt w w':=by refine(Dx ⟨#[32]⟩ n w (by omega) (by show 1*n<=_;omega)).mono ?_;grind[Dy]
theorem textOf_any(l:List (List UInt8×Int))(v:Value)(w:World)(hcl:ri w v l)(bH:l.length<=1099511627776)(hj:(bJ l).length<=70368744177664):
 Cw 264 #[v] w fun e w'=>e=Rw (.string ⟨(bJ l).toArray⟩)/\Bt w w':=by
 obtain⟨a,al,rfl,hh⟩:=hcl;have _L:=qH<|fun k=>kN l k;go_enter func264,ntmps264;go_wp2;go_loopw[8] (fun i wr=>∃k:Nat,k<=l.length/\i=Iq k/\Hid (Lib.IsBuilderF 226 5 w.heap.size w.heap.size (Lib.byteCells (bJ (l.take k))) wr)/\Bt w wr) (fun i _=>l.length-(intOf i).toNat);case atStart=>exact⟨0,bc _,rfl,Lib.IsBuilderF.of (Lib.fresh_isBuilder 226 5 w),(ag _ _).alloc (ai _) _⟩
 case round=>
  obtain⟨k,hk,rfl,hI,hbw⟩:=hrel;have fT:=hbw.size;by_cases hlt:k<l.length
  ·have aK:(k:Int)<(l.length:Int):=by omega
   have bG:l≠[]:=fun e=>by grind
   obtain⟨b,off,rfl,hb,hc⟩:=hh.resolve_left bG;obtain⟨T,V,jj⟩:∃T V,l[k]=(T,V):=⟨_,_,rfl⟩;have c0:wr.cell? (az b (off+k*2))=some (.string ⟨T.toArray⟩):=by have:=(hc k hlt).1;rw[jj]at this;exact(hbw.cell (p:=(az b (off+k*2))) hb).trans this
   have c1:wr.cell? (az b (off+k*2+1))=some (Iq V):=by have:=(hc k hlt).2;rw[jj]at this;exact(hbw.cell (p:=(az b (off+k*2+1))) hb).trans this
   have HS:Hid (bJ (l.take (k+1))=bJ (l.take k)++T):=by show _=_;rw[pT l k hlt,jj]
   have OJ:=_L (k+1);rw[HS.out,bf]at OJ;have hTs:(⟨T.toArray⟩:ByteArray).size=T.length:=by simp[ByteArray.size]
   obtain⟨Y,hY⟩:=aj (bJ (l.take k));rw[hY]at HS OJ hI;clear hh hc jj bG hY;go_wp2_with fail;refine(qP w.heap.size w.heap.size _ ⟨T.toArray⟩ _ (hI.alloc _) (by rw[Lib.byteCells_length,hTs];omega) (by simp;omega)).mono ?_;rintro e W1 ⟨rfl,h1,b1,k1⟩;have hb1:=(hbw.alloc fT _).trans b1;clear hI c0 c1 b1 k1;go_wp2;go_roundw;case rel=>refine⟨k+1,by omega,by go_num,?_,hb1⟩;show Lib.IsBuilderF _ _ _ _ _ _;rw[HS.out,Lib.byteCells_append];exact Or.inr h1
   case measure=>simp[intOf];omega
  ·have aK:¬(k:Int)<(l.length:Int):=by omega
   have HE:Hid (l.take k=l):=gt (by omega);clear hh;go_wp2_with fail;refine(DR w.heap.size w.heap.size (bJ (l.take k)) _ hI fT).mono ?_;rintro e W1 ⟨rfl,_,b1,_⟩;go_wp2;go_ret;rw[HE.out];exact⟨rfl,hbw.trans b1⟩
def Iv(B:Nat)(w:World)(v:Value)(l:List (List UInt8×Int)):Prop:=
 ∃a al,v=.slice a l.length al/\l.length<=al/\al<=maxLen/\(l=[]\/∃b off,a=some (az b off)/\B<=b/\b<w.heap.size/\∀j (hj:j<l.length),w.cell? (az b (off+j*2))=some (.string ⟨(l[j]).1.toArray⟩)/\w.cell? (az b (off+j*2+1))=some (Iq (l[j]).2)/\w.frozen? (az b (off+j*2))=false/\w.frozen? (az b (off+j*2+1))=false)
theorem Iv.cls{B}{w}{v}{l}(h:Iv B w v l):ri w v l:=by obtain⟨a,al,rfl,_,_,hh⟩:=h;refine⟨a,al,rfl,hh.imp id ?_⟩;grind
theorem yu{w}{B n}{e}{v}{l}(h:w.ownsRow B e 2 v n (dF l)):Iv B w v l:=by
 have hl:l.length=n:=by have:=h.1;rw[lQ]at this;omega
 have hC:=wm h;rcases h.2 with⟨rfl,rfl⟩|⟨g,al,iT,rfl,hB,hg,kG,r_,_⟩;·have hz:=ot.1 hl;subst hz;exact⟨none,0,rfl,ai _,bc _,.inl rfl⟩
 ·obtain⟨a,mg,e1,hh⟩:=hC;cases e1;refine⟨_,_,rfl,by omega,r_,hh.imp id ?_⟩;rintro⟨b,off,e2,hb,hc⟩;cases e2;exact⟨g,0,rfl,hB,hb,fun j hj=>⟨(hc j hj).1,(hc j hj).2,frozen_of_row _ _ _ _ _ hg,frozen_of_row _ _ _ _ _ hg⟩⟩
def rj(w:World)(v:Value)(l:List (List UInt8×Int)):Prop:=
 ∃a al,v=.slice a l.length al/\l.length<=al/\al<=maxLen/\(l=[]\/∃b off,a=some (az b off)/\b<w.heap.size/\∀j (hj:j<l.length),w.cell? (az b (off+j*2))=some (.string ⟨(l[j]).1.toArray⟩)/\w.cell? (az b (off+j*2+1))=some (Iq (l[j]).2))
theorem rj.cls{w}{v}{l}(h:rj w v l):ri w v l:=by obtain⟨a,al,rfl,_,_,hh⟩:=h;exact⟨a,al,rfl,hh⟩
theorem rj.below{w w'}{v}{l}(h:rj w v l)(hb:Bt w w'):rj w' v l:=by obtain⟨a,al,rfl,h1,h2,hh⟩:=h;obtain⟨a',mg,e,QS⟩:=(ri.below ⟨a,al,rfl,hh⟩ hb:ri w' (.slice a l.length al) l);cases e;exact⟨a,al,rfl,h1,h2,QS⟩
theorem Iv.clsC{B}{w}{v}{l}(h:Iv B w v l):rj w v l:=by obtain⟨a,al,rfl,h1,h2,hh⟩:=h;refine⟨a,al,rfl,h1,h2,hh.imp id ?_⟩;grind
theorem JA{w}{b off al n}{l:List (List UInt8×Int)}(hb:b<w.heap.size)(hc:∀j (hj:j<l.length),w.cell? (az b (off+j*2))=some (.string ⟨(l[j]).1.toArray⟩)/\w.cell? (az b (off+j*2+1))=some (Iq (l[j]).2))(hn:n<=l.length):
 ri w (.slice (some (az b off)) n al) (l.take n):=by refine⟨_,al,by grind,.inr ⟨b,off,rfl,hb,fun j hj=>?_⟩⟩;grind
theorem sy  l   n  (hn:n<=l.length):∀k,k<=n->cV (l.take n) k=cV l k
 |0,_=>rfl
 |k+1,h=>by
  have e:tx (l.take n) k=tx l k:=by simp[tx,show k<n by omega]
  simp only[cV,e,sy l n hn k (by omega)]
theorem lS(l:List (List UInt8×Int))(v:Value)(W:Int)(w:World)(hcl:rj w v l)(hbd:∀c∈l,0<=c.2/\c.2<=2)(bH:l.length<=1099511627776)(dG:1<=W)(cE:W<=9223372036854775807):
 Cw 249 #[v,Iq W] w fun e w'=>e=Rw (.tuple #[Iq (aQ l W).n,Iq (aQ l W).d,Iq (aQ l W).e])/\Bt w w':=by
 have HF:=qH<|fitting_any l v W w hcl.cls hbd bH (by omega) cE;have hle:=qV l W;obtain⟨n,hn⟩:=aj (e_ l W);have HL:Hid (aQ l W=if n=l.length then⟨n,0,3⟩
  else if tx l n=[10]then⟨n,1,2⟩
  else if n=0 then⟨1,0,1⟩
  else if tx l n=[32]then⟨n,1,0⟩
  else if 0<=cV l n then⟨(cV l n).toNat,1,0⟩
  else⟨n,0,1⟩):=by show _=_;unfold aQ;rw[hn]
 rw[hn]at HF hle;obtain⟨a,al,rfl,kG,r_,hh⟩:=hcl;go_enter func249,ntmps249;go_wp2_with fail;refine HF.mono ?_;rintro e w1 ⟨rfl,b1⟩;by_cases h1:n=l.length
 ·have HE:Hid (aQ l W=⟨n,0,3⟩):=by show _=_;rw[HL.out,if_pos h1]
  subst h1;go_wp2;go_ret3;rw[HE.out];simp_all
 have hlt:n<l.length:=by omega
 have bG:l≠[]:=fun e=>by grind
 obtain⟨b,off,rfl,hb,hc⟩:=hh.resolve_left bG;have j4:=bn hb b1.size;have SS:Hid (∀j (hj:j<l.length),w1.cell? (az b (off+j*2))=some (.string ⟨(l[j]).1.toArray⟩)/\w1.cell? (az b (off+j*2+1))=some (Iq (l[j]).2)):=
  fun j hj=>⟨(b1.cell (p:=(az b (off+j*2))) hb).trans (hc j hj).1,(b1.cell (p:=(az b (off+j*2+1))) hb).trans (hc j hj).2⟩;have HT:Hid (ri w1 (.slice (some (az b off)) n al) (l.take n)):=JA j4 SS (by omega);obtain⟨T,V,jj⟩:∃T V,l[n]=(T,V):=⟨_,_,rfl⟩;have c0:w1.cell? (az b (off+n*2))=some (.string ⟨T.toArray⟩):=by have:=(SS n hlt).1;rw[jj]at this;exact this
 have HX:Hid (tx l n=T):=by show _=_;rw[vk hlt,jj]
 by_cases eq:T=[10]
 ·have HE:Hid (aQ l W=⟨n,1,2⟩):=by show _=_;rw[HL.out,if_neg h1,if_pos (by rw[HX.out,eq])]
  go_wp2;go_ret3;rw[HE.out];simp_all
 have tL:(T==[10])=false:=by simpa using eq
 by_cases h0:n=0
 ·have HE:Hid (aQ l W=⟨1,0,1⟩):=by show _=_;rw[HL.out,if_neg h1,if_neg (by rw[HX.out];exact eq),if_pos h0]
  subst h0;have c0':w1.cell? (az b off)=some (.string ⟨T.toArray⟩):=by simpa using c0
  go_wp2;go_ret3;rw[HE.out];simp_all
 by_cases yP:T=[32]
 ·have HE:Hid (aQ l W=⟨n,1,0⟩):=by show _=_;rw[HL.out,if_neg h1,if_neg (by rw[HX.out];exact eq),if_neg h0,if_pos (by rw[HX.out,yP])]
  go_wp2;go_ret3;rw[HE.out];simp_all
 have Oe:(T==[32])=false:=by simpa using yP
 have HB:=tZ (l.take n) _ w1 HT (by grind);have Bz:=sw l n;rw[cX,Nat.min_eq_left hle,sy l n hle n (ai _)]at HB;have HB':=qH<|HB;obtain⟨m,hm⟩:=aj (cV l n);have HM:=qH<|hm;rw[hm]at HB' Bz;go_wp2_with fail;refine HB'.mono ?_;rintro e w2 ⟨rfl,b2⟩;have hB:=b1.trans (b2.mono b1.size);by_cases ZO:0<=m
 ·have HE:Hid (aQ l W=⟨m.toNat,1,0⟩):=by show _=_;rw[HL.out,if_neg h1,if_neg (by rw[HX.out];exact eq),if_neg h0,if_neg (by rw[HX.out];exact yP),HM.out,if_pos ZO]
  have hmm:((m.toNat:Nat):Int)=m:=by omega
  have H8:=qH<|hmm;go_wp2;go_ret3;rw[HE.out];simp_all
 ·have HE:Hid (aQ l W=⟨n,0,1⟩):=by show _=_;rw[HL.out,if_neg h1,if_neg (by rw[HX.out];exact eq),if_neg h0,if_neg (by rw[HX.out];exact yP),HM.out,if_neg ZO]
  go_wp2;go_ret3;rw[HE.out];simp_all
theorem sQ{w:World}{B}{t}{a0 a1 a2 a3 a4 b0 b1 b2 b3 b4}(h:w.heap[B]?=some (.cells #[a0,a1,a2,a3,a4] t (0,0))):
 (((((w.setCell (az B 0) b0).setCell (az B 1) b1).setCell (az B 2) b2).setCell (az B 3) b3).setCell (az B 4) b4).heap[B]?=some (.cells #[b0,b1,b2,b3,b4] t (0,0)):=by rw[heap_setCell_same _ _ _ _ _ _ (heap_setCell_same _ _ _ _ _ _ (heap_setCell_same _ _ _ _ _ _ (heap_setCell_same _ _ _ _ _ _ (heap_setCell_same _ _ _ _ _ _ h))))];rfl
def KN(T:List UInt8)(W:Int)(F N E:Int):Value:=.agg #[.string ⟨T.toArray⟩,Iq W,Iq F,Iq N,Iq E]
def pX(l:List (List UInt8×Int))(W:Int):Value:=if W<aF l then KN (List.replicate W.toNat 32) W 0 1 0 else KN (bJ l) (aF l) 0 l.length 0
theorem sB(l:List (List UInt8×Int))(v:Value)(W:Int)(w:World)(hcl:ri w v l)(hbd:∀c∈l,0<=c.2/\c.2<=2)(bH:l.length<=1099511627776)(hj:(bJ l).length<=70368744177664)(dG:1<=W)(cE:W<aF l->W<=1099511627776):
 Cw 250 #[v,Iq W] w fun e w'=>e=Rw (pX l W)/\Bt w w':=by
 have iW:=qH<|hbd;have eI:=dR l hbd l.length;rw[qj]at eI;have HCL:=qH<|hcl;obtain⟨a,al,rfl,hh⟩:=hcl;go_enter func250,ntmps250;go_wp2;go_loopw[5,10] (fun t i wr=>∃k:Nat,k<=l.length/\i=Iq k/\t=Iq (aF (l.take k))/\Bt w wr/\w.heap.size<wr.heap.size/\wr.heap[w.heap.size]?=some (.cells #[.string ⟨#[]⟩,Iq 0,Iq 0,Iq 0,Iq 0] 346)) (fun _ i _=>l.length-(intOf i).toNat);case atStart=>exact⟨0,bc _,rfl,rfl,(ag _ _).alloc (ai _) _,by simp,heap_alloc_new _ _⟩
 case round=>
  obtain⟨k,hk,rfl,rfl,hbw,Tm,hrow⟩:=hrel;have hwb:=dR l iW k;have fT:=hbw.size;by_cases hlt:k<l.length
  ·have aK:(k:Int)<(l.length:Int):=by omega
   have bG:l≠[]:=fun e=>by grind
   obtain⟨b,off,rfl,hb,hc⟩:=hh.resolve_left bG;obtain⟨T,V,jj⟩:∃T V,l[k]=(T,V):=⟨_,_,rfl⟩;have hV:=iW l[k] (l6 hlt);have c0:wr.cell? (az b (off+k*2))=some (.string ⟨T.toArray⟩):=by have:=(hc k hlt).1;rw[jj]at this;exact(hbw.cell (p:=(az b (off+k*2))) hb).trans this
   have c1:wr.cell? (az b (off+k*2+1))=some (Iq V):=by have:=(hc k hlt).2;rw[jj]at this;exact(hbw.cell (p:=(az b (off+k*2+1))) hb).trans this
   have HS:Hid (aF (l.take (k+1))=aF (l.take k)+V):=by show _=_;rw[dS l k hlt,jj]
   rw[jj]at hV;obtain⟨X,hX⟩:=aj (aF (l.take k));rw[hX]at HS hwb;rw[hX];simp only at hV;have HROW:=qH<|hrow;go_wp2;go_roundw;case rel=>exact⟨k+1,by omega,by go_num,by rw[HS.out],hbw.alloc fT _,by simp;omega,(((ag wr.heap.size wr).alloc (ai _) _).block w.heap.size Tm).trans HROW⟩
   case measure=>simp[intOf];omega
  ·have aK:¬(k:Int)<(l.length:Int):=by omega
   have e:l.take k=l:=gt (by omega);rw[e]at hwb⊢;have HROW:=qH<|hrow;have VD:=qH<|HCL.below hbw;have HJ:=qH<|textOf_any l _ wr VD bH hj;obtain⟨X,hX⟩:=aj (aF l);have R9:=qH<|hX;rw[hX]at hwb eI cE⊢;obtain⟨J,hJ⟩:=aj (bJ l);have Uk:=qH<|hJ;rw[hJ]at HJ;by_cases yU:W<X
   ·obtain⟨c,hc⟩:∃c:Nat,W=c:=⟨W.toNat,by omega⟩;subst hc;have HR:=qH<|blank_any c wr (by omega);obtain⟨Y,hY⟩:=aj (List.replicate c (32:UInt8));have HY:=qH<|hY;rw[hY]at HR;go_wp2_with fail;refine HR.mono ?_;rintro e w2 ⟨rfl,b2⟩;have mZ:=b2.size;have hr2:=(b2.block w.heap.size Tm).trans HROW;have q0:w2.cell? (az w.heap.size 0)=some (.string ⟨#[]⟩):=by simp[World.cell?,hr2]
    have q1:w2.cell? (az w.heap.size 1)=some (Iq 0):=by simp[World.cell?,hr2]
    have q2:w2.cell? (az w.heap.size 2)=some (Iq 0):=by simp[World.cell?,hr2]
    have q3:w2.cell? (az w.heap.size 3)=some (Iq 0):=by simp[World.cell?,hr2]
    have q4:w2.cell? (az w.heap.size 4)=some (Iq 0):=by simp[World.cell?,hr2]
    have fr:∀j,w2.frozen? (az w.heap.size j)=false:=fun j=>frozen_of_row _ _ _ _ _ hr2;have HR2:=qH<|hr2;go_wp2;try simp only[Exit.inBlock,Exit.then]
    refine bodyPost_ret (results_cell_row rfl _ _ w.heap.size _ _ _ _ rfl (sQ HR2) underlying346 rfl (by kernel_rfl)) rfl ?_;rw[pX,R9.out,if_pos yU];refine⟨?_,?_⟩;·rw[show((c:Int)).toNat=c from rfl,HY.out];rfl
    ·have lU:=hbw.trans (b2.mono fT);exact((((lU.setCell (p:=(az w.heap.size 0)) (ai _) _).setCell (p:=(az w.heap.size 1)) (ai _) _).setCell (p:=(az w.heap.size 2)) (ai _) _).setCell (p:=(az w.heap.size 3)) (ai _) _).setCell (p:=(az w.heap.size 4)) (ai _) _
   ·go_wp2_with fail;refine HJ.mono ?_;rintro e w2 ⟨rfl,b2⟩;have mZ:=b2.size;have hr2:=(b2.block w.heap.size Tm).trans HROW;have q0:w2.cell? (az w.heap.size 0)=some (.string ⟨#[]⟩):=by simp[World.cell?,hr2]
    have q1:w2.cell? (az w.heap.size 1)=some (Iq 0):=by simp[World.cell?,hr2]
    have q2:w2.cell? (az w.heap.size 2)=some (Iq 0):=by simp[World.cell?,hr2]
    have q3:w2.cell? (az w.heap.size 3)=some (Iq 0):=by simp[World.cell?,hr2]
    have q4:w2.cell? (az w.heap.size 4)=some (Iq 0):=by simp[World.cell?,hr2]
    have fr:∀j,w2.frozen? (az w.heap.size j)=false:=fun j=>frozen_of_row _ _ _ _ _ hr2;have HR2:=qH<|hr2;clear hr2 HJ VD HCL HROW;go_wp2;try simp only[Exit.inBlock,Exit.then]
    refine bodyPost_ret (results_cell_row rfl _ _ w.heap.size _ _ _ _ rfl (sQ HR2) underlying346 rfl (by kernel_rfl)) rfl ?_;rw[pX,R9.out,Uk.out,if_neg (by omega)];refine⟨rfl,?_⟩;have lU:=hbw.trans (b2.mono fT);exact((((lU.setCell (p:=(az w.heap.size 0)) (ai _) _).setCell (p:=(az w.heap.size 1)) (ai _) _).setCell (p:=(az w.heap.size 2)) (ai _) _).setCell (p:=(az w.heap.size 3)) (ai _) _).setCell (p:=(az w.heap.size 4)) (ai _) _
def gF(x:Ln):List Value:=[.string ⟨x.T.toArray⟩,Iq x.W,Iq x.F,Iq x.N,Iq x.E]
def su(ls:List Ln):List Value:=ls.flatMap gF
theorem pW  ls   x  :su (ls++[x])=su ls++gF x:=by simp[su]
theorem K2(W:World)  x   t  :∀  j   u,(gF x)[j]?=some u->(W.alloc (.cells (gF x).toArray t)).cell? (((az W.heap.size 0):Addr).add j)=some u:=by
 intro j u hu;have e0:((az W.heap.size 0):Addr).add j=(az W.heap.size j):=by unfold Addr.add;split<;>simp_all
 simp_all
theorem N3{w}{b off al a n}{l:List (List UInt8×Int)}(hn:a+n<=l.length)(kG:l.length<=al)(hb:b<w.heap.size)(hc:∀j (hj:j<l.length),w.cell? (az b (off+j*2))=some (.string ⟨(l[j]).1.toArray⟩)/\w.cell? (az b (off+j*2+1))=some (Iq (l[j]).2)):
 ri w (.slice (if al=a then some (az b off)else some (az b (off+a*2))) n (al-a)) ((l.drop a).take n):=by
 have hl:((l.drop a).take n).length=n:=by rw[cX,cW];omega
 refine⟨_,_,by rw[hl],?_⟩;by_cases e:al=a;·grind
 ·right;rw[if_neg e];grind
theorem cj{fn:Func}{p u}{ty}(h:fn.results=#[.cell p ty,.tmp u])  tmps   P   w   g   cs 
 (hp:tmps.getD p undef=Pq g) (hl:(loadVar ty (az g 0)).run P w=.ok (.agg cs) w):
 (results fn tmps).run P w=.ok (.tuple #[.agg cs,tmps.getD u undef]) w:=by rw[results_cell_tmp h,hp];simp[asAddr,hl]
theorem sP(l:List (List UInt8×Int))(b off al a:Nat)(W:Int)(w:World)(hb:b<w.heap.size)(kG:l.length<=al)(hc:∀j (hj:j<l.length),w.cell? (az b (off+j*2))=some (.string ⟨(l[j]).1.toArray⟩)/\w.cell? (az b (off+j*2+1))=some (Iq (l[j]).2))
 (ha:a<=l.length) (hbd:∀c∈l,0<=c.2/\c.2<=2) (hsh:∀c∈l,c.1.length<=20) (bH:l.length<=68719476736) (dG:1<=W) (cE:W<=9223372036854775807):
 Cw 192 #[.slice (some (az b off)) l.length al,Iq a,Iq W] w fun e w'=>e=Rw (.tuple #[.agg #[.string ⟨(cP l W a).T.toArray⟩,Iq (cP l W a).W,Iq (cP l W a).F,Iq (cP l W a).N,Iq (cP l W a).E],Iq (oF l W a)])/\Bt w w':=by
 have hr:∀c∈l.drop a,0<=c.2/\c.2<=2:=fun c hc=>hbd c (ke hc);have hle:=qV (l.drop a) W;rw[cW]at hle;have hfw:=JQ (l.drop a) W hr dG;have iW:=qH<|hbd;have VV:=qH<|hsh;have HC:Hid (∀w',Bt w w'->∀j (hj:j<l.length),w'.cell? (az b (off+j*2))=some (.string ⟨(l[j]).1.toArray⟩)/\w'.cell? (az b (off+j*2+1))=some (Iq (l[j]).2)):=
  fun w' sd j hj=>⟨(sd.cell (p:=(az b (off+j*2))) hb).trans (hc j hj).1,(sd.cell (p:=(az b (off+j*2+1))) hb).trans (hc j hj).2⟩;obtain⟨n,hn⟩:=aj (e_ (l.drop a) W);have VI:Hid (cP l W a=(if W<aF ((l.drop a).take (aQ (l.drop a) W).n)then⟨List.replicate W.toNat 32,W,a,1,(aQ (l.drop a) W).e⟩else⟨bJ ((l.drop a).take (aQ (l.drop a) W).n),aF ((l.drop a).take (aQ (l.drop a) W).n),a,((l.drop a).take (aQ (l.drop a) W).n).length,(aQ (l.drop a) W).e⟩)):=rfl;have HNX:Hid (oF l W a=a+(aQ (l.drop a) W).n+(aQ (l.drop a) W).d):=rfl;have BJ:Hid (aQ (l.drop a) W=if n=l.length-a then⟨n,0,3⟩
  else if tx l (a+n)=[10]then⟨n,1,2⟩
  else if n=0 then⟨1,0,1⟩
  else if tx l (a+n)=[32]then⟨n,1,0⟩
  else if 0<=cV (l.drop a) n then⟨(cV (l.drop a) n).toNat,1,0⟩
  else⟨n,0,1⟩):=by show _=_;unfold aQ;rw[hn,cW,xC]
 rw[hn]at hle hfw;obtain⟨pp,hpp⟩:=aj (if al=a then some ((az b off):Addr)else some (az b (off+a*2)));have _u:Hid (∀w',Bt w w'->∀m,a+m<=l.length->ri w' (.slice pp m (al-a)) ((l.drop a).take m)):=by intro w' sd m hm;have:=N3 (a:=a) (n:=m) hm kG (bn hb sd.size) (HC w' sd);rw[hpp]at this;exact this
 have YL:Hid (∀w',Bt w w'->Cw 214 #[.slice pp (l.length-a) (al-a),Iq W] w' fun e w2=>e=Rw (Iq n)/\w2=w'):=by intro w' sd;have h1:=_u w' sd (l.length-a) (by omega);rw[gt (by grind)]at h1;have:=nZ (l.drop a) _ W w' h1 (fun c hc=>iW c (ke hc)) (by grind);rw[hn]at this;exact this
 have HTX:Hid (∀w',Bt w w'->∀m,a+m<=l.length->Cw 215 #[.slice pp m (al-a)] w' fun e w2=>e=Rw (.string ⟨(bJ ((l.drop a).take m)).toArray⟩)/\w2=w'):=by
  intro w' sd m hm;have hjb:=o_ _ (fun c hc=>VV c (ke (qk hc)):∀c∈(l.drop a).take m,c.1.length<=20);have hlN:((l.drop a).take m).length<=l.length:=by rw[cX,cW];omega
  exact vf _ _ w' (_u w' sd m hm) (by omega) (by omega)
 have HWD:Hid (∀w',Bt w w'->∀m,a+m<=l.length->Cw 210 #[.slice pp m (al-a)] w' fun e w2=>e=Rw (Iq (aF ((l.drop a).take m)))/\w2=w'):=by
  intro w' sd m hm;have hlN:((l.drop a).take m).length<=l.length:=by rw[cX,cW];omega
  exact pB _ _ w' (_u w' sd m hm) (fun c hc=>iW c (ke (qk hc))) (by omega)
 have Fy:Hid (∀m d e,m<=n->aQ (l.drop a) W=⟨m,d,e⟩->cP l W a=⟨bJ ((l.drop a).take m),aF ((l.drop a).take m),a,m,e⟩/\oF l W a=a+m+d):=by
  intro m d e hm hf;have h1:=xA (l.drop a) hr hm;have h2:((l.drop a).take m).length=m:=by rw[cX,cW];omega
  rw[VI.out,HNX.out,hf];simp only;rw[if_neg (by omega),h2];exact⟨rfl,by grind⟩
 have HWI:Hid (n=0->a<l.length->tx l a≠[10]->W<aF ((l.drop a).take 1)/\W=1):=by intro h0 h1 h2;have sp:=(oN (l.drop a) W hr).2;rw[hn,h0,cW,xC]at sp;have h3:=(sp (by omega)).resolve_left h2;have h4:=LR (l.drop a) hr;simp at h3;exact⟨h3,by omega⟩
 clear hr hbd hsh hc hn;go_enter func192,ntmps192;go_wp2_with fail;refine(YL _ ((ag _ _).alloc (ai _) _)).mono ?_;rintro e w1 ⟨rfl,rfl⟩;clear YL;have mY:prog.follows .mixedOrders=true:=by kernel_rfl
 obtain⟨w1,eu⟩:=aj (w.alloc (.cells #[.string ⟨#[]⟩,Iq 0,Iq 0,Iq 0,Iq 0] 294));have uL:Hid (w1.heap[w.heap.size]?=some (.cells #[.string ⟨#[]⟩,Iq 0,Iq 0,Iq 0,Iq 0] 294 (0,0))):=by show _=_;rw[<-eu];exact heap_alloc_new w _
 have jo:Bt w w1:=by rw[<-eu];exact(ag _ _).alloc (ai _) _
 have hs1:w.heap.size<w1.heap.size:=by rw[<-eu,aO];omega
 rw[eu];clear eu;obtain⟨J,hJ⟩:=aj (bJ ((l.drop a).take n));obtain⟨X,hX⟩:=aj (aF ((l.drop a).take n));have T1:Hid (∀w',Bt w w'->Cw 215 #[.slice pp n (al-a)] w' fun e w2=>e=Rw (.string ⟨J.toArray⟩)/\w2=w'):=by intro w' sd;have:=HTX w' sd n (by omega);rw[hJ]at this;exact this
 have W1:Hid (∀w',Bt w w'->Cw 210 #[.slice pp n (al-a)] w' fun e w2=>e=Rw (Iq X)/\w2=w'):=by intro w' sd;have:=HWD w' sd n (by omega);rw[hX]at this;exact this
 obtain⟨q,hq⟩:∃q:Nat,a+n=q:=⟨_,rfl⟩;have ZV:(a:Int)+(n:Int)=(q:Int):=by omega
 have tR:(q:Int)<=(al:Int):=by omega
 have wQ:a<=q:=by omega
 have hq3:q-a=n:=by omega
 have HQ:=qH<|hq;have _9:=qH<|hq3;have II:=qH<|hpp;clear hq;go_wp2_with fail;go_cut[10]from 12 to 32 (fun p wx=>∃B,p=Pq B/\w1.heap.size<=B/\wx.heap[B]?=some (.cells #[.string ⟨J.toArray⟩,Iq X,Iq a,Iq n,Iq 0] 294 (0,0))/\Bt w1 wx);case first=>
  go_region_with(first|(go_at_call 215;refine(T1 _ (by first|exact jo.drew|exact(jo.alloc (by omega) _).drew)).mono ?_;rintro e wq ⟨rfl,rfl⟩)|(go_at_call 210;refine(W1 _ (by first|exact jo.drew|exact(jo.alloc (by omega) _).drew)).mono ?_;rintro e wq ⟨rfl,rfl⟩));all_goals(go_wp2_with fail)
  all_goals go_meet
  all_goals exact⟨_,rfl,ai _,heap_alloc_new w1 _,((ag _ _).alloc (ai _) _).drew⟩
 case rest=>
  obtain⟨B,rfl,hB,hrow,Ib⟩:=hcut;have WX:B≠w.heap.size:=by omega
  have hsy:=Ib.size;have hrR:=(Ib.block _ hs1).trans uL;have hRc:w.heap.size<wc.heap.size:=by omega
  have q0:wc.cell? (az B 0)=some (.string ⟨J.toArray⟩):=by simp[World.cell?,hrow]
  have q1:wc.cell? (az B 1)=some (Iq X):=by simp[World.cell?,hrow]
  have q2:wc.cell? (az B 2)=some (Iq a):=by simp[World.cell?,hrow]
  have q3:wc.cell? (az B 3)=some (Iq n):=by simp[World.cell?,hrow]
  have q4:wc.cell? (az B 4)=some (Iq 0):=by simp[World.cell?,hrow]
  have fr:∀j,wc.frozen? (az B j)=false:=fun j=>frozen_of_row _ _ _ _ _ hrow;have r0:wc.cell? (az w.heap.size 0)=some (.string ⟨#[]⟩):=by simp[World.cell?,hrR]
  have r1:wc.cell? (az w.heap.size 1)=some (Iq 0):=by simp[World.cell?,hrR]
  have r2:wc.cell? (az w.heap.size 2)=some (Iq 0):=by simp[World.cell?,hrR]
  have r3:wc.cell? (az w.heap.size 3)=some (Iq 0):=by simp[World.cell?,hrR]
  have r4:wc.cell? (az w.heap.size 4)=some (Iq 0):=by simp[World.cell?,hrR]
  have frR:∀j,wc.frozen? (az w.heap.size j)=false:=fun j=>frozen_of_row _ _ _ _ _ hrR;have lL:=qH<|hrR;have Ic:=jo.trans (Ib.mono (by omega));have gT:Hid (∀(wz:World) (v0 v1 v2 v3 v4:Value),Bt w wz->Bt w (((((wz.setCell (az w.heap.size 0) v0).setCell (az w.heap.size 1) v1).setCell (az w.heap.size 2) v2).setCell (az w.heap.size 3) v3).setCell (az w.heap.size 4) v4)):=
   fun wz v0 v1 v2 v3 v4 h=>((((h.setCell (p:=(az w.heap.size 0)) (ai _) _).setCell (p:=(az w.heap.size 1)) (ai _) _).setCell (p:=(az w.heap.size 2)) (ai _) _).setCell (p:=(az w.heap.size 3)) (ai _) _).setCell (p:=(az w.heap.size 4)) (ai _) _;have Uk:=qH<|hJ;have R9:=qH<|hX;have VA:Hid (w.heap.size<=B):=by show w.heap.size<=B;omega
  clear hrow hrR hJ hX T1 W1;by_cases eI:n=l.length-a
  ·have hf:aQ (l.drop a) W=⟨n,0,3⟩:=by rw[BJ.out,if_pos eI]
   obtain⟨e1,e2⟩:=Fy n 0 3 (ai _) hf;have HE1:Hid (cP l W a=⟨J,X,a,n,3⟩):=by show _=_;rw[e1,Uk.out,R9.out]
   have HE2:Hid (oF l W a=q):=by show _=_;rw[e2,HQ.out];rfl
   have HZ:Hid ((wc.setCell (az B 4) (Iq 3)).heap[w.heap.size]?=some (.cells #[.string ⟨#[]⟩,Iq 0,Iq 0,Iq 0,Iq 0] 294 (0,0))):=by show _=_;rw[heap_setCell_other _ _ _ _ (fun e=>WX e.symm)];exact lL
   have ZU:(q:Int)=(l.length:Int):=by have:=HQ.out;omega
   clear e1 e2 hf eI;go_wp2;try simp only[Exit.inBlock,Exit.then]
   refine bodyPost_ret (cj rfl _ _ _ w.heap.size _ rfl (run_loadVar_row _ _ _ _ _ _ _ (sQ HZ) underlying294 rfl (by kernel_rfl))) rfl ?_;rw[HE1.out,HE2.out];exact⟨rfl,gT _ _ _ _ _ _ (Ic.setCell (p:=(az B 4)) VA _)⟩
  have hq5:q<l.length:=by have:=HQ.out;omega
  have hq6:(q:Int)<(l.length:Int):=by omega
  have XU:¬(q:Int)=(l.length:Int):=by omega
  obtain⟨T,V,jj⟩:∃T V,l[q]=(T,V):=⟨_,_,rfl⟩;have c0:wc.cell? (az b (off+q*2))=some (.string ⟨T.toArray⟩):=by have:=(HC wc Ic q hq5).1;rw[jj]at this;exact this
  have BP:Hid (tx l (a+n)=T):=by show _=_;rw[HQ.out,vk hq5,jj]
  clear jj;by_cases eq:T=[10]
  ·have hf:aQ (l.drop a) W=⟨n,1,2⟩:=by rw[BJ.out,if_neg eI,if_pos (by rw[BP.out,eq])]
   obtain⟨e1,e2⟩:=Fy n 1 2 (ai _) hf;have HE1:Hid (cP l W a=⟨J,X,a,n,2⟩):=by show _=_;rw[e1,Uk.out,R9.out]
   have HE2:Hid (oF l W a=q+1):=by show _=_;rw[e2,HQ.out]
   have HZ:Hid ((wc.setCell (az B 4) (Iq 2)).heap[w.heap.size]?=some (.cells #[.string ⟨#[]⟩,Iq 0,Iq 0,Iq 0,Iq 0] 294 (0,0))):=by show _=_;rw[heap_setCell_other _ _ _ _ (fun e=>WX e.symm)];exact lL
   have tL:(T==[10])=true:=by rw[eq];rfl
   clear e1 e2 hf eI;go_wp2;try simp only[Exit.inBlock,Exit.then]
   refine bodyPost_ret (cj rfl _ _ _ w.heap.size _ rfl (run_loadVar_row _ _ _ _ _ _ _ (sQ HZ) underlying294 rfl (by kernel_rfl))) rfl ?_;rw[HE1.out,HE2.out];exact⟨by simp,gT _ _ _ _ _ _ (Ic.setCell (p:=(az B 4)) VA _)⟩
  have tL:(T==[10])=false:=by simpa using eq
  by_cases h0:n=0
  ·have hf:aQ (l.drop a) W=⟨1,0,1⟩:=by rw[BJ.out,if_neg eI,if_neg (by rw[BP.out];exact eq),if_pos h0]
   have SG:a=q:=by have:=HQ.out;omega
   obtain⟨g1,g2⟩:=HWI h0 (by omega) (by have:=BP.out;grind);have HE1:Hid (cP l W a=⟨[32],1,a,1,1⟩):=by show _=_;rw[VI.out,hf];simp only;rw[if_pos g1,g2];rfl
   have HE2:Hid (oF l W a=q+1):=by show _=_;rw[HNX.out,hf];simp only;omega
   have HZ:=lL;have R1:Hid (∀w',Cw 216 #[Iq W] w' fun e w2=>e=Rw (.string ⟨#[32]⟩)/\w2=w'):=by intro w';rw[g2];exact Ad 1 w' (by omega)
   have HWE:=qH<|g2;have y_:(n:Int)=0:=by omega
   clear hf eI g1 g2 SG;subst h0;go_wp2_with fail;refine(R1 _).mono ?_;rintro e w5 ⟨rfl,rfl⟩;clear R1;go_wp2;try simp only[Exit.inBlock,Exit.then]
   refine bodyPost_ret (cj rfl _ _ _ w.heap.size _ rfl (run_loadVar_row _ _ _ _ _ _ _ (sQ HZ) underlying294 rfl (by kernel_rfl))) rfl ?_;rw[HE1.out,HE2.out];refine⟨?_,gT _ _ _ _ _ _ Ic⟩;simp[HWE.out]
  by_cases yP:T=[32]
  ·have hf:aQ (l.drop a) W=⟨n,1,0⟩:=by rw[BJ.out,if_neg eI,if_neg (by rw[BP.out];exact eq),if_neg h0,if_pos (by rw[BP.out,yP])]
   obtain⟨e1,e2⟩:=Fy n 1 0 (ai _) hf;have HE1:Hid (cP l W a=⟨J,X,a,n,0⟩):=by show _=_;rw[e1,Uk.out,R9.out]
   have HE2:Hid (oF l W a=q+1):=by show _=_;rw[e2,HQ.out]
   have HZ:=lL;have Oe:(T==[32])=true:=by rw[yP];rfl
   have y_:¬(n:Int)=0:=by omega
   clear e1 e2 hf eI;go_wp2;try simp only[Exit.inBlock,Exit.then]
   refine bodyPost_ret (cj rfl _ _ _ w.heap.size _ rfl (run_loadVar_row _ _ _ _ _ _ _ (sQ HZ) underlying294 rfl (by kernel_rfl))) rfl ?_;rw[HE1.out,HE2.out];exact⟨by simp,gT _ _ _ _ _ _ Ic⟩
  have Oe:(T==[32])=false:=by simpa using yP
  have y_:¬(n:Int)=0:=by omega
  have HFB:Hid (aQ (l.drop a) W=if 0<=cV (l.drop a) n then⟨(cV (l.drop a) n).toNat,1,0⟩else⟨n,0,1⟩):=by show _=_;rw[BJ.out,if_neg eI,if_neg (by rw[BP.out];exact eq),if_neg h0,if_neg (by rw[BP.out];exact yP)]
  have HCw:=qH<|HC wc Ic;clear eI;go_wp2;go_loop[11] (fun i=>∃m:Nat,m<=n/\i=Iq ((a:Int)+(m:Int)-1)/\Hid (cV (l.drop a) n=cV (l.drop a) m)) (fun i=>(intOf i+1-a).toNat);case atStart=>grind
  case round=>
   obtain⟨m,hm,rfl,hLB⟩:=hrel;cases m with
   |zero=>
    have hf:aQ (l.drop a) W=⟨n,0,1⟩:=by rw[HFB.out,hLB.out];simp[cV]
    obtain⟨e1,e2⟩:=Fy n 0 1 (ai _) hf;have HE1:Hid (cP l W a=⟨J,X,a,n,1⟩):=by show _=_;rw[e1,Uk.out,R9.out]
    have HE2:Hid (oF l W a=q):=by show _=_;rw[e2,HQ.out];rfl
    have HZ:Hid ((wc.setCell (az B 4) (Iq 1)).heap[w.heap.size]?=some (.cells #[.string ⟨#[]⟩,Iq 0,Iq 0,Iq 0,Iq 0] 294 (0,0))):=by show _=_;rw[heap_setCell_other _ _ _ _ (fun e=>WX e.symm)];exact lL
    have hlt:¬(a:Int)<=(a:Int)+((0:Nat):Int)-1:=by omega
    clear e1 e2 hf;go_wp2;try simp only[Exit.inBlock,Exit.then]
    refine bodyPost_ret (cj rfl _ _ _ w.heap.size _ rfl (run_loadVar_row _ _ _ _ _ _ _ (sQ HZ) underlying294 rfl (by kernel_rfl))) rfl ?_;rw[HE1.out,HE2.out];exact⟨rfl,gT _ _ _ _ _ _ (Ic.setCell (p:=(az B 4)) VA _)⟩
   |succ m=>
    obtain⟨p,hp⟩:∃p:Nat,a+m=p:=⟨_,rfl⟩;have ZS:(a:Int)+((m+1:Nat):Int)-1=(p:Int):=by omega
    rw[ZS];have BF:p<l.length:=by have:=HQ.out;omega
    have zj4:(p:Int)<(l.length:Int):=by omega
    have hap:(a:Int)<=(p:Int):=by omega
    have ziU:a<=p:=by omega
    have Q4:(p:Int)<=(al:Int):=by omega
    have HP:=qH<|hp;obtain⟨T',V',SB⟩:∃T V,l[p]=(T,V):=⟨_,_,rfl⟩;have c0':wc.cell? (az b (off+p*2))=some (.string ⟨T'.toArray⟩):=by have:=(HCw p BF).1;rw[SB]at this;exact this
    have VX:Hid (tx (l.drop a) m=T'):=by show _=_;rw[xC,hp,vk BF,SB]
    have hpm:p-a=m:=by omega
    have zj7:(p:Int)-(a:Int)=(m:Int):=by omega
    clear SB ZS;by_cases Ou:T'=[32]
    ·have hlb:cV (l.drop a) n=m:=by rw[hLB.out];simp only[cV];rw[if_pos (by rw[VX.out,Ou])]
     have hf:aQ (l.drop a) W=⟨m,1,0⟩:=by rw[HFB.out,hlb];simp
     obtain⟨e1,e2⟩:=Fy m 1 0 (by omega) hf;have kI:a+m<=l.length:=by omega
     have T2:=qH<|fun w' sd=>HTX w' sd m kI;have W2:=qH<|fun w' sd=>HWD w' sd m kI;obtain⟨J2,hJ2⟩:=aj (bJ ((l.drop a).take m));obtain⟨X2,hX2⟩:=aj (aF ((l.drop a).take m));rw[hJ2]at e1 T2;rw[hX2]at e1 W2;have HE1:=qH<|e1;have HE2:Hid (oF l W a=p+1):=by show _=_;rw[e2,hp]
     have HZ:=lL;have Xh:(T'==[32])=true:=by rw[Ou];rfl
     have zcZ:IntKind.i64.wrap (m:Int)=(m:Int):=IntWalk.i64_in _ ⟨by omega,by omega⟩;have zc0:IntKind.i64.wrap ((p:Int)+1)=(p:Int)+1:=IntWalk.i64_in _ ⟨by omega,by omega⟩;clear e1 e2 hf hlb hJ2 hX2 hp;go_wp2_with fail;go_region_with(first|(go_at_call 215;refine(T2 _ Ic.drew).mono ?_;rintro e wq ⟨rfl,rfl⟩)|(go_at_call 210;refine(W2 _ Ic.drew).mono ?_;rintro e wq ⟨rfl,rfl⟩));all_goals(go_wp2_with fail)
     all_goals refine bodyPost_ret (cj rfl _ _ _ w.heap.size #[.string ⟨J2.toArray⟩,Iq X2,Iq a,Iq m,Iq 0] rfl (run_loadVar_row _ _ _ _ _ _ _ (sQ HZ) underlying294 rfl (by kernel_rfl))) rfl ?_;rw[HE1.out,HE2.out];exact⟨rfl,(gT _ _ _ _ _ _ Ic).drew⟩
    ·have Xh:(T'==[32])=false:=by simpa using Ou
     have _T:Hid (cV (l.drop a) n=cV (l.drop a) m):=by show _=_;rw[hLB.out];simp only[cV];rw[if_neg (by rw[VX.out];exact Ou)]
     clear hp;go_wp2;go_round;case rel=>exact⟨m,by omega,by have:=HP.out;congr 1;omega,_T⟩
     case measure=>have:=HP.out;simp[intOf];omega
theorem GD:(prog.info? 294).map (fun i=>(i.zero,i.size,i.bytes))=some (some (.agg #[.string ⟨#[]⟩,Iq 0,Iq 0,Iq 0,Iq 0]),5,48):=by kernel_rfl
theorem sH{w w'}{B n k}{e}{v}{xs}(h:w.ownsRow B e k v n xs)(hb:Bt w w'):w'.ownsRow B e k v n xs:=by refine⟨h.1,h.2.imp id ?_⟩;rintro⟨g,al,iT,e1,e2,e3,e4⟩;exact⟨g,al,iT,e1,e2,(hb.block g (aS.1 e3).1).trans e3,e4⟩
def Jp:Value->Nat
 |.bool true=>1
 |_=>0
theorem KQ  W  (hW:1<=W):cP [] W 0=⟨[],0,0,0,3⟩/\oF [] W 0=0:=by grind[cP,aQ,e_,bJ,aF,oF]
theorem DA(W:Int)(w:World)(dG:1<=W)(cE:W<=9223372036854775807):
 Cw 192 #[.slice none 0 0,Iq 0,Iq W] w fun e w'=>e=Rw (.tuple #[.agg #[.string ⟨#[]⟩,Iq 0,Iq 0,Iq 0,Iq 3],Iq 0])/\Bt w w':=by
 have Cp:∀w':World,ri w' (.slice none 0 0) []:=fun w'=>⟨none,0,rfl,.inl rfl⟩;have YL:Hid (∀w',Cw 214 #[.slice none 0 0,Iq W] w' fun e w2=>e=Rw (Iq 0)/\w2=w'):=fun w'=>nZ [] _ W w' (Cp w') (by simp) (by simp);have T1:Hid (∀w',Cw 215 #[.slice none 0 0] w' fun e w2=>e=Rw (.string ⟨#[]⟩)/\w2=w'):=fun w'=>vf [] _ w' (Cp w') (by simp) (by simp[bJ]);have W1:Hid (∀w',Cw 210 #[.slice none 0 0] w' fun e w2=>e=Rw (Iq 0)/\w2=w'):=fun w'=>pB [] _ w' (Cp w') (by simp) (by simp);go_enter func192,ntmps192;go_wp2_with fail;refine(YL _).mono ?_;rintro e w1 ⟨rfl,rfl⟩;obtain⟨w1,eu⟩:=aj (w.alloc (.cells #[.string ⟨#[]⟩,Iq 0,Iq 0,Iq 0,Iq 0] 294));have uL:Hid (w1.heap[w.heap.size]?=some (.cells #[.string ⟨#[]⟩,Iq 0,Iq 0,Iq 0,Iq 0] 294 (0,0))):=by show _=_;rw[<-eu];exact heap_alloc_new w _
 have jo:Bt w w1:=by rw[<-eu];exact(ag _ _).alloc (ai _) _
 have hs1:w.heap.size<w1.heap.size:=by rw[<-eu,aO];omega
 rw[eu];go_wp2_with fail;go_cut[10]from 12 to 32 (fun p wx=>∃B,p=Pq B/\w1.heap.size<=B/\wx.heap[B]?=some (.cells #[.string ⟨#[]⟩,Iq 0,Iq 0,Iq 0,Iq 0] 294 (0,0))/\Bt w1 wx);case first=>
  go_region_with(first|(go_at_call 215;refine(T1 _).mono ?_;rintro e wq ⟨rfl,rfl⟩)|(go_at_call 210;refine(W1 _).mono ?_;rintro e wq ⟨rfl,rfl⟩));all_goals(go_wp2_with fail)
  all_goals go_meet
  all_goals exact⟨_,rfl,ai _,heap_alloc_new w1 _,((ag _ _).alloc (ai _) _).drew⟩
 case rest=>
  obtain⟨B,rfl,hB,hrow,Ib⟩:=hcut;have WX:B≠w.heap.size:=by omega
  have hrR:=(Ib.block _ hs1).trans uL;have q0:wc.cell? (az B 0)=some (.string ⟨#[]⟩):=by simp[World.cell?,hrow]
  have q1:wc.cell? (az B 1)=some (Iq 0):=by simp[World.cell?,hrow]
  have q2:wc.cell? (az B 2)=some (Iq 0):=by simp[World.cell?,hrow]
  have q3:wc.cell? (az B 3)=some (Iq 0):=by simp[World.cell?,hrow]
  have q4:wc.cell? (az B 4)=some (Iq 0):=by simp[World.cell?,hrow]
  have fr:∀j,wc.frozen? (az B j)=false:=fun j=>frozen_of_row _ _ _ _ _ hrow;have r0:wc.cell? (az w.heap.size 0)=some (.string ⟨#[]⟩):=by simp[World.cell?,hrR]
  have r1:wc.cell? (az w.heap.size 1)=some (Iq 0):=by simp[World.cell?,hrR]
  have r2:wc.cell? (az w.heap.size 2)=some (Iq 0):=by simp[World.cell?,hrR]
  have r3:wc.cell? (az w.heap.size 3)=some (Iq 0):=by simp[World.cell?,hrR]
  have r4:wc.cell? (az w.heap.size 4)=some (Iq 0):=by simp[World.cell?,hrR]
  have frR:∀j,wc.frozen? (az w.heap.size j)=false:=fun j=>frozen_of_row _ _ _ _ _ hrR;have Ic:=jo.trans (Ib.mono (by omega));have VA:Hid (w.heap.size<=B):=by show w.heap.size<=B;omega
  have HZ:Hid ((wc.setCell (az B 4) (Iq 3)).heap[w.heap.size]?=some (.cells #[.string ⟨#[]⟩,Iq 0,Iq 0,Iq 0,Iq 0] 294 (0,0))):=by show _=_;rw[heap_setCell_other _ _ _ _ (fun e=>WX e.symm)];exact hrR
  clear hrow hrR T1 W1;go_wp2;try simp only[Exit.inBlock,Exit.then]
  refine bodyPost_ret (cj rfl _ _ _ w.heap.size _ rfl (run_loadVar_row _ _ _ _ _ _ _ (sQ HZ) underlying294 rfl (by kernel_rfl))) rfl ?_;refine⟨rfl,?_⟩;have h:=Ic.setCell (p:=(az B 4)) VA (Iq 3);exact((((h.setCell (p:=(az w.heap.size 0)) (ai _) _).setCell (p:=(az w.heap.size 1)) (ai _) _).setCell (p:=(az w.heap.size 2)) (ai _) _).setCell (p:=(az w.heap.size 3)) (ai _) _).setCell (p:=(az w.heap.size 4)) (ai _) _
theorem Hc(l:List (List UInt8×Int))  B0   v   a   W   w  (ho:w.ownsRow B0 316 2 v l.length (dF l))
 (ha:a<=l.length) (hbd:∀c∈l,0<=c.2/\c.2<=2) (hsh:∀c∈l,c.1.length<=20) (bH:l.length<=68719476736) (dG:1<=W) (cE:W<=9223372036854775807):
 Cw 192 #[v,Iq a,Iq W] w fun e w'=>e=Rw (.tuple #[.agg #[.string ⟨(cP l W a).T.toArray⟩,Iq (cP l W a).W,Iq (cP l W a).F,Iq (cP l W a).N,Iq (cP l W a).E],Iq (oF l W a)])/\Bt w w':=by
 have hO:=yu ho;rcases ho.2 with⟨rfl,h0⟩|⟨g,al,iT,rfl,_,hg,kG,_⟩;·simp_all[KQ,DA]
 ·obtain⟨a',mg,e1,_,_,hh⟩:=hO;cases e1;have iU:=(aS.1 hg).1;rcases hh with hz|⟨b,off,e2,_,hb,hc⟩;·subst hz;exact sP [] g 0 al a W w iU kG (fun j hj=>by grind) ha hbd hsh bH dG cE
  grind[sP]
theorem DB(s:ByteArray)(W:Int)(w:World)(hs:s.size<=68719476736)(dG:-9223372036854775808<=W)(cE:W<=9223372036854775807):
 Cw 164 #[.string s,Iq W] w fun e w'=>∃v,e=Rw v/\w'.ownsRow w.heap.size 294 5 v (cK (cL (aZ s.data.toList)) W).length (su (cK (cL (aZ s.data.toList)) W))/\Bt w w':=by
 obtain⟨i0,hi,eK,fZ,iD⟩:=info_parts GD;have uM:s.data.toList.length=s.size:=by rw[j9];rfl
 have hR:=du s.data.toList;have hC:=fM (aZ s.data.toList);rw[uM]at hR;have hbd:=jv (aZ s.data.toList);have hsh:=rM (aZ s.data.toList);have G:=qH<|rClusters_any s w (by omega);obtain⟨l,hl⟩:=aj (cL (aZ s.data.toList));rw[hl]at hC hbd hsh G⊢;have iW:=qH<|hbd;have VV:=qH<|hsh;by_cases hlt:W<1
 ·have HE:Hid (cK l W=[]):=by show _=_;rw[cK,if_pos hlt]
  go_enter func164,ntmps164;go_wp2;go_ret;rw[HE.out];exact⟨_,rfl,gM _ _ _ _,ag _ _⟩
 have zbm:1<=W:=by omega
 have HE:Hid (cK l W=cZ l W 0):=by show _=_;rw[cK,if_neg hlt]
 have hLl:=(ft l W 0 (bc _)).2;go_enter func164,ntmps164;go_wp2_with fail;refine G.mono ?_;rintro e w1 ⟨v1,rfl,o1,b1⟩;have HO:=qH<|o1;have hs1:=b1.size;go_wp2;go_loopw[6,7,8] (fun o p m wr=>∃(pre:List Ln) (a:Nat),wr.ownsRow w1.heap.size 294 5 o pre.length (su pre)/\Bt w1 wr/\p=Iq a/\a<=l.length/\((m=.bool true/\Hid (pre++cZ l W a=cZ l W 0))\/(m=.bool false/\Hid (pre=cZ l W 0)))) (fun _ p m _=>2*(l.length+1-(intOf p).toNat)+Jp m);case atStart=>exact⟨[],0,gM _ _ _ _,ag _ _,rfl,bc _,.inl ⟨rfl,rfl⟩⟩
 case round=>
  obtain⟨pre,a,bi,hbw,rfl,ha,hst⟩:=hrel;have fT:=hbw.size;rcases hst with⟨rfl,gV⟩|⟨rfl,gV⟩
  ·have BF:pre.length<l.length+1:=by have:=congrArg List.length gV;have h2:=(ft l W a ha).1;rw[bf]at this;omega
   have YU:=qH<|
    Hc l _ v1 a W wr (sH HO hbw) ha iW VV (by omega) zbm cE;have QY:=xe l W a ha;have Un:=qH<|nxt_lt l W a;have HST:Hid (cZ l W a=if(cP l W a).E=3 then[cP l W a]else cP l W a::cZ l W (oF l W a)):=by
    show _=_;by_cases h:(cP l W a).E=3;·grind[jR]
    ·grind[kP]
   have zbW:a<=oF l W a:=by unfold oF;omega
   obtain⟨⟨T,V,F,N,E⟩,hx⟩:=aj (cP l W a);rw[hx]at YU Un HST;simp only at YU Un HST;obtain⟨m,hm⟩:=aj (oF l W a);rw[hm]at YU Un HST QY zbW;go_wp2_with fail;refine YU.mono ?_;rintro e w2 ⟨rfl,b2⟩;have mZ:=b2.size;have fj:=sH bi b2;have lU:=hbw.trans (b2.mono fT);go_wp2_with(at_builtin;refine wpList_append_own _ rfl _ _ 262 rfl w1.heap.size 294 i0 (.agg #[.string ⟨#[]⟩,Iq 0,Iq 0,Iq 0,Iq 0]) 5 48 underlying262 hi eK fZ iD rfl (by decide) _ _ _ rfl ((fj.alloc _).alloc _) _ 1 1 (gF ⟨T,V,F,N,E⟩) rfl rfl ?c1 ?c2 ?c3 ?c4 ?c5 ?_);case c1=>have:=K2 (w2.alloc (.cells #[.string ⟨T.toArray⟩,Iq V,Iq F,Iq N,Iq E] 294)) ⟨T,V,F,N,E⟩ 294;rw[aO]at this;exact this
   case c2=>intro u hu;simp[gF]at hu;rcases hu with rfl|rfl|rfl|rfl|rfl<;>rfl
   case c3=>unfold maxLen;omega
   case c4=>omega
   case c5=>rw[aO,aO];omega
   intro v' w3 bK hg _;have hrow:=fun q hq=>(fj.lt q hq).1;have Kj:=lU.size;have zjR:=fun q hq=>(fj.lt q hq).2;have Cm:=((lU.alloc Kj _).alloc (by rw[aO];omega) _).grown hg (by rw[aO,aO];omega) hrow;have hx4:w3.cell? (az w2.heap.size 4)=some (Iq E):=by
    have h1:((az w2.heap.size 4):Addr).block<((w2.alloc (.cells #[.string ⟨T.toArray⟩,Iq V,Iq F,Iq N,Iq E] 294)).alloc (.cells (gF ⟨T,V,F,N,E⟩).toArray 294)).heap.size:=by rw[aO,aO];show w2.heap.size<_;omega
    have h2:=bU (a:=(az w2.heap.size 4)) (hg.block w2.heap.size h1 (fun e=>by grind));refine h2.trans ?_;have h3:=bU (a:=(az w2.heap.size 4)) (((ag _ (w2.alloc (.cells #[.string ⟨T.toArray⟩,Iq V,Iq F,Iq N,Iq E] 294))).alloc (ai _) (.cells (gF ⟨T,V,F,N,E⟩).toArray 294)).block w2.heap.size (by simp_all));refine h3.trans ?_;simp
   by_cases h3:E=3
   ·have HF:Hid (pre++[⟨T,V,F,N,E⟩]=cZ l W 0):=by show _=_;rw[<-gV.out,HST.out,if_pos h3]
    subst h3;go_wp2;go_roundw;case rel=>grind[pW]
    case measure=>simp[intOf,Jp];omega
   ·have HF:Hid ((pre++[⟨T,V,F,N,E⟩])++cZ l W m=cZ l W 0):=by show _=_;rw[<-gV.out,HST.out,if_neg h3];simp
    have qD:=Un h3;have uG:(E !=3)=true:=by simpa using h3
    go_wp2;go_roundw;case rel=>grind[pW]
    case measure=>simp[intOf,Jp];omega
  ·go_wp2;go_ret;rw[HE.out,<-gV.out];exact⟨_,rfl,ij bi hs1,b1.trans (hbw.mono hs1)⟩
