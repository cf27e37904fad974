import Derived.Test.YtadhgppeafpdgaaGreatDoorQ00
import Derived.Test.YtadhgppeafpdgaaGreatDoorQ22
import Derived.Test.YtadhgppeafpdgaaGreatDoorQ29
import Derived.Test.YtadhgppeafpdgaaGreatDoorQ30
set_option linter.all false
set_option maxRecDepth 100000
set_option maxHeartbeats 16000000
namespace Go.Proofs.YtadhgppeafpdgaaGreatDoor
open Go.RowKit Go.Proofs.Tryz
theorem FZ  n  :Lib.repeatL [32] n=List.replicate n 32:=by
 induction n with
 |zero=>rfl
 |succ n ih=>simp[Lib.repeatL,ih,List.replicate_succ]
theorem blank_any(n:Nat)  w  (hn:n<=140737488355328):
 Cw 132 #[.string ⟨#[32]⟩,Iq n] w fun e w'=>e=Rw (.string ⟨(List.replicate n 32).toArray⟩)/\Bt w w':=by refine(vg ⟨#[32]⟩ n w (by omega) (by show 1*n<=_;omega)).mono ?_;grind[FZ]
theorem textOf_any(l:List (List UInt8×Int))(v:Value)(w:World)(hcl:Ag w v l)(aO:l.length<=1099511627776)(hj:(aK l).length<=70368744177664):
 Cw 215 #[v] w fun e w'=>e=Rw (.string ⟨(aK l).toArray⟩)/\Bt w w':=by
 obtain⟨a,cap,rfl,hh⟩:=hcl;have HJT:=qH<|fun k=>iP l k;go_enter func215,ntmps215;go_wp2;go_loopw[8] (fun i wr=>∃k:Nat,k<=l.length/\i=Iq k/\Hid (Lib.IsBuilderF 108 5 w.heap.size w.heap.size (Lib.byteCells (aK (l.take k))) wr)/\Bt w wr) (fun i _=>l.length-(intOf i).toNat);case atStart=>exact⟨0,bm _,rfl,Lib.IsBuilderF.of (Lib.fresh_isBuilder 108 5 w),(ag _ _).alloc (ae _) _⟩
 case round=>
  obtain⟨k,hk,rfl,hI,b_⟩:=hrel;have eV:=b_.size;by_cases hlt:k<l.length
  ·have aR:(k:Int)<(l.length:Int):=by omega
   have bj:l≠[]:=fun e=>by grind
   obtain⟨b,off,rfl,hb,hc⟩:=hh.resolve_left bj;obtain⟨T,V,pP⟩:∃T V,l[k]=(T,V):=⟨_,_,rfl⟩;have c0:wr.cell? (aq b (off+k*2))=some (.string ⟨T.toArray⟩):=by have:=(hc k hlt).1;rw[pP]at this;exact(b_.cell (p:=(aq b (off+k*2))) hb).trans this
   have c1:wr.cell? (aq b (off+k*2+1))=some (Iq V):=by have:=(hc k hlt).2;rw[pP]at this;exact(b_.cell (p:=(aq b (off+k*2+1))) hb).trans this
   have HS:Hid (aK (l.take (k+1))=aK (l.take k)++T):=by show _=_;rw[Cd l k hlt,pP]
   have hj1:=HJT (k+1);rw[HS.out,aI]at hj1;have hTs:(⟨T.toArray⟩:ByteArray).size=T.length:=by simp[ByteArray.size]
   obtain⟨Y,hY⟩:=af (aK (l.take k));rw[hY]at HS hj1 hI;clear hh hc pP bj hY;go_wp2_with fail;refine(sM w.heap.size w.heap.size _ ⟨T.toArray⟩ _ (hI.alloc _) (by rw[Lib.byteCells_length,hTs];omega) (by simp;omega)).mono ?_;rintro e W1 ⟨rfl,h1,b1,k1⟩;have hb1:=(b_.alloc eV _).trans b1;clear hI c0 c1 b1 k1;go_wp2;go_roundw;case rel=>refine⟨k+1,by omega,by go_num,?_,hb1⟩;show Lib.IsBuilderF _ _ _ _ _ _;rw[HS.out,Lib.byteCells_append];exact Or.inr h1
   case measure=>simp[intOf];omega
  ·have aR:¬(k:Int)<(l.length:Int):=by omega
   have HE:Hid (l.take k=l):=im (by omega);clear hh;go_wp2_with fail;refine(Gi w.heap.size w.heap.size (aK (l.take k)) _ hI eV).mono ?_;rintro e W1 ⟨rfl,_,b1,_⟩;go_wp2;go_ret;rw[HE.out];exact⟨rfl,b_.trans b1⟩
theorem oB(w:World)  b i j   v  (h:i≠j):(w.setCell (aq b i) v).cell? (aq b j)=w.cell? (aq b j):=
 dy _ _ _ _ (fun e=>h (by grind))
def AD(B:Nat)(w:World)(v:Value)(l:List (List UInt8×Int)):Prop:=
 ∃a cap,v=.slice a l.length cap/\l.length<=cap/\cap<=maxLen/\(l=[]\/∃b off,a=some (aq b off)/\B<=b/\b<w.heap.size/\∀j (hj:j<l.length),w.cell? (aq b (off+j*2))=some (.string ⟨(l[j]).1.toArray⟩)/\w.cell? (aq b (off+j*2+1))=some (Iq (l[j]).2)/\w.frozen? (aq b (off+j*2))=false/\w.frozen? (aq b (off+j*2+1))=false)
theorem AD.cls{B}{w}{v}{l}(h:AD B w v l):Ag w v l:=by obtain⟨a,cap,rfl,_,_,hh⟩:=h;refine⟨a,cap,rfl,hh.imp id ?_⟩;grind
theorem Bd{w}{B n}{e}{v}{l}(h:w.ownsRow B e 2 v n (dN l)):AD B w v l:=by
 have hl:l.length=n:=by have:=h.1;rw[mY]at this;omega
 have hC:=yX h;rcases h.2 with⟨rfl,rfl⟩|⟨g,cap,cM,rfl,hB,hg,un,uw,_⟩;·have hz:=jy.1 hl;subst hz;exact⟨none,0,rfl,ae _,bm _,.inl rfl⟩
 ·obtain⟨a,cH,e1,hh⟩:=hC;cases e1;refine⟨_,_,rfl,by omega,uw,hh.imp id ?_⟩;rintro⟨b,off,e2,hb,hc⟩;cases e2;exact⟨g,0,rfl,hB,hb,fun j hj=>⟨(hc j hj).1,(hc j hj).2,frozen_of_row _ _ _ _ _ hg,frozen_of_row _ _ _ _ _ hg⟩⟩
theorem Za  l   j  (hj:j<l.length) (Ht:j<(one l).length):(one l)[j]=if(l[j]).1=[10]then([32],1)else l[j]:=by simp[one]
def ol(w:World)(v:Value)(l:List (List UInt8×Int)):Prop:=
 ∃a cap,v=.slice a l.length cap/\l.length<=cap/\cap<=maxLen/\(l=[]\/∃b off,a=some (aq b off)/\b<w.heap.size/\∀j (hj:j<l.length),w.cell? (aq b (off+j*2))=some (.string ⟨(l[j]).1.toArray⟩)/\w.cell? (aq b (off+j*2+1))=some (Iq (l[j]).2))
theorem ol.cls{w}{v}{l}(h:ol w v l):Ag w v l:=by obtain⟨a,cap,rfl,_,_,hh⟩:=h;exact⟨a,cap,rfl,hh⟩
theorem ol.below{w w'}{v}{l}(h:ol w v l)(hb:Bt w w'):ol w' v l:=by obtain⟨a,cap,rfl,h1,h2,hh⟩:=h;obtain⟨a',cH,e,Wq⟩:=(Ag.below ⟨a,cap,rfl,hh⟩ hb:Ag w' (.slice a l.length cap) l);cases e;exact⟨a,cap,rfl,h1,h2,Wq⟩
theorem AD.clsC{B}{w}{v}{l}(h:AD B w v l):ol w v l:=by obtain⟨a,cap,rfl,h1,h2,hh⟩:=h;refine⟨a,cap,rfl,h1,h2,hh.imp id ?_⟩;grind
theorem Be{w}{b off cap n}{l:List (List UInt8×Int)}(hb:b<w.heap.size)(hc:∀j (hj:j<l.length),w.cell? (aq b (off+j*2))=some (.string ⟨(l[j]).1.toArray⟩)/\w.cell? (aq b (off+j*2+1))=some (Iq (l[j]).2))(hn:n<=l.length):
 Ag w (.slice (some (aq b off)) n cap) (l.take n):=by refine⟨_,cap,by grind,.inr ⟨b,off,rfl,hb,fun j hj=>?_⟩⟩;grind
theorem uN  l   n  (hn:n<=l.length):∀k,k<=n->fe (l.take n) k=fe l k
 |0,_=>rfl
 |k+1,h=>by
  have e:tx (l.take n) k=tx l k:=by simp[tx,show k<n by omega]
  simp only[fe,e,uN l n hn k (by omega)]
theorem m6(l:List (List UInt8×Int))(v:Value)(W:Int)(w:World)(hcl:ol w v l)(hbd:∀c∈l,0<=c.2/\c.2<=2)(aO:l.length<=1099511627776)(bc:1<=W)(bZ:W<=9223372036854775807):
 Cw 242 #[v,Iq W] w fun e w'=>e=Rw (.tuple #[Iq (aS l W).n,Iq (aS l W).d,Iq (aS l W).e])/\Bt w w':=by
 have HF:=qH<|fitting_any l v W w hcl.cls hbd aO (by omega) bZ;have qj:=mf l W;obtain⟨n,hn⟩:=af (dI l W);have HL:Hid (aS l W=if n=l.length then⟨n,0,3⟩
  else if tx l n=[10]then⟨n,1,2⟩
  else if n=0 then⟨1,0,1⟩
  else if tx l n=[32]then⟨n,1,0⟩
  else if 0<=fe l n then⟨(fe l n).toNat,1,0⟩
  else⟨n,0,1⟩):=by show _=_;unfold aS;rw[hn]
 rw[hn]at HF qj;obtain⟨a,cap,rfl,un,uw,hh⟩:=hcl;go_enter func242,ntmps242;go_wp2_with fail;refine HF.mono ?_;rintro e w1 ⟨rfl,b1⟩;by_cases h1:n=l.length
 ·have HE:Hid (aS l W=⟨n,0,3⟩):=by show _=_;rw[HL.out,if_pos h1]
  subst h1;go_wp2;go_ret3;rw[HE.out];simp_all
 have hlt:n<l.length:=by omega
 have bj:l≠[]:=fun e=>by grind
 obtain⟨b,off,rfl,hb,hc⟩:=hh.resolve_left bj;have sr:=zz007 hb b1.size;have hc1:Hid (∀j (hj:j<l.length),w1.cell? (aq b (off+j*2))=some (.string ⟨(l[j]).1.toArray⟩)/\w1.cell? (aq b (off+j*2+1))=some (Iq (l[j]).2)):=
  fun j hj=>⟨(b1.cell (p:=(aq b (off+j*2))) hb).trans (hc j hj).1,(b1.cell (p:=(aq b (off+j*2+1))) hb).trans (hc j hj).2⟩;have HT:Hid (Ag w1 (.slice (some (aq b off)) n cap) (l.take n)):=Be sr hc1 (by omega);obtain⟨T,V,pP⟩:∃T V,l[n]=(T,V):=⟨_,_,rfl⟩;have c0:w1.cell? (aq b (off+n*2))=some (.string ⟨T.toArray⟩):=by have:=(hc1 n hlt).1;rw[pP]at this;exact this
 have HX:Hid (tx l n=T):=by show _=_;rw[IL hlt,pP]
 by_cases fM:T=[10]
 ·have HE:Hid (aS l W=⟨n,1,2⟩):=by show _=_;rw[HL.out,if_neg h1,if_pos (by rw[HX.out,fM])]
  go_wp2;go_ret3;rw[HE.out];simp_all
 have EX:(T==[10])=false:=by simpa using fM
 by_cases h0:n=0
 ·have HE:Hid (aS l W=⟨1,0,1⟩):=by show _=_;rw[HL.out,if_neg h1,if_neg (by rw[HX.out];exact fM),if_pos h0]
  subst h0;have c0':w1.cell? (aq b off)=some (.string ⟨T.toArray⟩):=by simpa using c0
  go_wp2;go_ret3;rw[HE.out];simp_all
 by_cases LW:T=[32]
 ·have HE:Hid (aS l W=⟨n,1,0⟩):=by show _=_;rw[HL.out,if_neg h1,if_neg (by rw[HX.out];exact fM),if_neg h0,if_pos (by rw[HX.out,LW])]
  go_wp2;go_ret3;rw[HE.out];simp_all
 have za6:(T==[32])=false:=by simpa using LW
 have HB:=wN (l.take n) _ w1 HT (by grind);have Ho:=uM l n;rw[bU,Rl qj,uN l n qj n (ae _)]at HB;have HB':=qH<|HB;obtain⟨m,hm⟩:=af (fe l n);have HM:=qH<|hm;rw[hm]at HB' Ho;go_wp2_with fail;refine HB'.mono ?_;rintro e w2 ⟨rfl,b2⟩;have hB:=b1.trans (b2.mono b1.size);by_cases OI:0<=m
 ·have HE:Hid (aS l W=⟨m.toNat,1,0⟩):=by show _=_;rw[HL.out,if_neg h1,if_neg (by rw[HX.out];exact fM),if_neg h0,if_neg (by rw[HX.out];exact LW),HM.out,if_pos OI]
  have hmm:((m.toNat:Nat):Int)=m:=by omega
  have LK:=qH<|hmm;go_wp2;go_ret3;rw[HE.out];simp_all
 ·have HE:Hid (aS l W=⟨n,0,1⟩):=by show _=_;rw[HL.out,if_neg h1,if_neg (by rw[HX.out];exact fM),if_neg h0,if_neg (by rw[HX.out];exact LW),HM.out,if_neg OI]
  go_wp2;go_ret3;rw[HE.out];simp_all
theorem UW{w:World}{B}{t}{a0 a1 a2 a3 a4 b0 b1 b2 b3 b4}(h:w.heap[B]?=some (.cells #[a0,a1,a2,a3,a4] t (0,0))):
 (((((w.setCell (aq B 0) b0).setCell (aq B 1) b1).setCell (aq B 2) b2).setCell (aq B 3) b3).setCell (aq B 4) b4).heap[B]?=some (.cells #[b0,b1,b2,b3,b4] t (0,0)):=by rw[heap_setCell_same _ _ _ _ _ _ (heap_setCell_same _ _ _ _ _ _ (heap_setCell_same _ _ _ _ _ _ (heap_setCell_same _ _ _ _ _ _ (heap_setCell_same _ _ _ _ _ _ h))))];rfl
def Pp(T:List UInt8)(W:Int)(F N E:Int):Value:=.agg #[.string ⟨T.toArray⟩,Iq W,Iq F,Iq N,Iq E]
def rx(l:List (List UInt8×Int))(W:Int):Value:=if W<aj l then Pp (List.replicate W.toNat 32) W 0 1 0 else Pp (aK l) (aj l) 0 l.length 0
theorem uO(l:List (List UInt8×Int))(v:Value)(W:Int)(w:World)(hcl:Ag w v l)(hbd:∀c∈l,0<=c.2/\c.2<=2)(aO:l.length<=1099511627776)(hj:(aK l).length<=70368744177664)(bc:1<=W)(bZ:W<aj l->W<=1099511627776):
 Cw 243 #[v,Iq W] w fun e w'=>e=Rw (rx l W)/\Bt w w':=by
 have kZ:=qH<|hbd;have fU:=dp l hbd l.length;rw[l6]at fU;have HCL:=qH<|hcl;obtain⟨a,cap,rfl,hh⟩:=hcl;go_enter func243,ntmps243;go_wp2;go_loopw[5,10] (fun t i wr=>∃k:Nat,k<=l.length/\i=Iq k/\t=Iq (aj (l.take k))/\Bt w wr/\w.heap.size<wr.heap.size/\wr.heap[w.heap.size]?=some (.cells #[.string ⟨#[]⟩,Iq 0,Iq 0,Iq 0,Iq 0] 277)) (fun _ i _=>l.length-(intOf i).toNat);case atStart=>exact⟨0,bm _,rfl,rfl,(ag _ _).alloc (ae _) _,by simp,heap_alloc_new _ _⟩
 case round=>
  obtain⟨k,hk,rfl,rfl,b_,hsw,hrow⟩:=hrel;have hwb:=dp l kZ k;have eV:=b_.size;by_cases hlt:k<l.length
  ·have aR:(k:Int)<(l.length:Int):=by omega
   have bj:l≠[]:=fun e=>by grind
   obtain⟨b,off,rfl,hb,hc⟩:=hh.resolve_left bj;obtain⟨T,V,pP⟩:∃T V,l[k]=(T,V):=⟨_,_,rfl⟩;have hV:=kZ l[k] (rT hlt);have c0:wr.cell? (aq b (off+k*2))=some (.string ⟨T.toArray⟩):=by have:=(hc k hlt).1;rw[pP]at this;exact(b_.cell (p:=(aq b (off+k*2))) hb).trans this
   have c1:wr.cell? (aq b (off+k*2+1))=some (Iq V):=by have:=(hc k hlt).2;rw[pP]at this;exact(b_.cell (p:=(aq b (off+k*2+1))) hb).trans this
   have HS:Hid (aj (l.take (k+1))=aj (l.take k)+V):=by show _=_;rw[f_ l k hlt,pP]
   rw[pP]at hV;obtain⟨X,hX⟩:=af (aj (l.take k));rw[hX]at HS hwb;rw[hX];simp only at hV;have HROW:=qH<|hrow;go_wp2;go_roundw;case rel=>exact⟨k+1,by omega,by go_num,by rw[HS.out],b_.alloc eV _,by simp;omega,(((ag wr.heap.size wr).alloc (ae _) _).block w.heap.size hsw).trans HROW⟩
   case measure=>simp[intOf];omega
  ·have aR:¬(k:Int)<(l.length:Int):=by omega
   have e:l.take k=l:=im (by omega);rw[e]at hwb⊢;have HROW:=qH<|hrow;have _0:=qH<|HCL.below b_;have HJ:=qH<|textOf_any l _ wr _0 aO hj;obtain⟨X,hX⟩:=af (aj l);have HXE:=qH<|hX;rw[hX]at hwb fU bZ⊢;obtain⟨J,hJ⟩:=af (aK l);have HJE:=qH<|hJ;rw[hJ]at HJ;by_cases Tx:W<X
   ·obtain⟨c,hc⟩:∃c:Nat,W=c:=⟨W.toNat,by omega⟩;subst hc;have HR:=qH<|blank_any c wr (by omega);obtain⟨Y,hY⟩:=af (List.replicate c (32:UInt8));have HY:=qH<|hY;rw[hY]at HR;go_wp2_with fail;refine HR.mono ?_;rintro e w2 ⟨rfl,b2⟩;have jD:=b2.size;have hr2:=(b2.block w.heap.size hsw).trans HROW;have q0:w2.cell? (aq w.heap.size 0)=some (.string ⟨#[]⟩):=by simp[World.cell?,hr2]
    have q1:w2.cell? (aq w.heap.size 1)=some (Iq 0):=by simp[World.cell?,hr2]
    have q2:w2.cell? (aq w.heap.size 2)=some (Iq 0):=by simp[World.cell?,hr2]
    have q3:w2.cell? (aq w.heap.size 3)=some (Iq 0):=by simp[World.cell?,hr2]
    have q4:w2.cell? (aq w.heap.size 4)=some (Iq 0):=by simp[World.cell?,hr2]
    have fr:∀j,w2.frozen? (aq w.heap.size j)=false:=fun j=>frozen_of_row _ _ _ _ _ hr2;have HR2:=qH<|hr2;go_wp2;try simp only[Exit.inBlock,Exit.then]
    refine bodyPost_ret (results_cell_row rfl _ _ w.heap.size _ _ _ _ rfl (UW HR2) underlying277 rfl (by kernel_rfl)) rfl ?_;rw[rx,HXE.out,if_pos Tx];refine⟨?_,?_⟩;·rw[show((c:Int)).toNat=c from rfl,HY.out];rfl
    ·have sS:=b_.trans (b2.mono eV);exact((((sS.setCell (p:=(aq w.heap.size 0)) (ae _) _).setCell (p:=(aq w.heap.size 1)) (ae _) _).setCell (p:=(aq w.heap.size 2)) (ae _) _).setCell (p:=(aq w.heap.size 3)) (ae _) _).setCell (p:=(aq w.heap.size 4)) (ae _) _
   ·go_wp2_with fail;refine HJ.mono ?_;rintro e w2 ⟨rfl,b2⟩;have jD:=b2.size;have hr2:=(b2.block w.heap.size hsw).trans HROW;have q0:w2.cell? (aq w.heap.size 0)=some (.string ⟨#[]⟩):=by simp[World.cell?,hr2]
    have q1:w2.cell? (aq w.heap.size 1)=some (Iq 0):=by simp[World.cell?,hr2]
    have q2:w2.cell? (aq w.heap.size 2)=some (Iq 0):=by simp[World.cell?,hr2]
    have q3:w2.cell? (aq w.heap.size 3)=some (Iq 0):=by simp[World.cell?,hr2]
    have q4:w2.cell? (aq w.heap.size 4)=some (Iq 0):=by simp[World.cell?,hr2]
    have fr:∀j,w2.frozen? (aq w.heap.size j)=false:=fun j=>frozen_of_row _ _ _ _ _ hr2;have HR2:=qH<|hr2;clear hr2 HJ _0 HCL HROW;go_wp2;try simp only[Exit.inBlock,Exit.then]
    refine bodyPost_ret (results_cell_row rfl _ _ w.heap.size _ _ _ _ rfl (UW HR2) underlying277 rfl (by kernel_rfl)) rfl ?_;rw[rx,HXE.out,HJE.out,if_neg (by omega)];refine⟨rfl,?_⟩;have sS:=b_.trans (b2.mono eV);exact((((sS.setCell (p:=(aq w.heap.size 0)) (ae _) _).setCell (p:=(aq w.heap.size 1)) (ae _) _).setCell (p:=(aq w.heap.size 2)) (ae _) _).setCell (p:=(aq w.heap.size 3)) (ae _) _).setCell (p:=(aq w.heap.size 4)) (ae _) _
def cI(x:Ln):List Value:=[.string ⟨x.T.toArray⟩,Iq x.W,Iq x.F,Iq x.N,Iq x.E]
def iR(ls:List Ln):List Value:=ls.flatMap cI
theorem Cl  ls   x  :iR (ls++[x])=iR ls++cI x:=by simp[iR]
theorem JP{W:World}{B}{x}{t}(h:W.heap[B]?=some (.cells (cI x).toArray t (0,0))):W.cell? (aq B 0)=some (.string ⟨x.T.toArray⟩)/\W.cell? (aq B 1)=some (Iq x.W)/\W.cell? (aq B 2)=some (Iq x.F)/\W.cell? (aq B 3)=some (Iq x.N)/\W.cell? (aq B 4)=some (Iq x.E):=by simp[World.cell?,h,cI]
theorem Py(W:World)  x   t  :∀  j   u,(cI x)[j]?=some u->(W.alloc (.cells (cI x).toArray t)).cell? (((aq W.heap.size 0):Addr).add j)=some u:=by
 intro j u hu;have e0:((aq W.heap.size 0):Addr).add j=(aq W.heap.size j):=by unfold Addr.add;split<;>simp_all
 simp_all
theorem wH(s:ByteArray)(w:World)(ht:aL w)(hs:s.size<=1099511627776):
 Cw 213 #[.string s] w fun e w'=>∃v,e=Rw v/\AD w.heap.size w' v (one (bi (ap s.data.toList)))/\Bt w w':=by
 have pR:s.data.toList.length=s.size:=by rw[gc];rfl
 have hR:=bp s.data.toList;have hC:=cu (ap s.data.toList);rw[pR]at hR;have G:Hid (Cw 167 #[.string s] w fun e w'=>∃v,e=Rw v/\AD w.heap.size w' v (bi (ap s.data.toList))/\Bt w w'):=by refine(e_ s w ht hs).mono ?_;rintro e w1 ⟨v,rfl,o,b⟩;exact⟨v,rfl,Bd o,b⟩
 obtain⟨l,hl⟩:=af (bi (ap s.data.toList));rw[hl]at G hC⊢;clear hl pR ht;go_enter func213,ntmps213;go_wp2_with fail;refine G.mono ?_;rintro e w1 ⟨v1,rfl,⟨a,cap,rfl,un,uw,hh⟩,b1⟩;clear G;have hs1:=b1.size;have hol:=uV l;by_cases bj:l=[]
 ·subst bj;go_wp2;go_loopw[9] (fun i wr=>i=Iq 0/\wr=w1) (fun i _=>0);case atStart=>grind
  case round=>obtain⟨rfl,rfl⟩:=hrel;go_wp2;go_ret;exact⟨_,rfl,⟨a,cap,rfl,un,uw,.inl rfl⟩,b1⟩
 obtain⟨b,off,rfl,hB,hb,hc⟩:=hh.resolve_left bj;have HC:Hid (∀j (hj:j<l.length),w1.cell? (aq b (off+j*2))=some (.string ⟨(l[j]).1.toArray⟩)/\w1.cell? (aq b (off+j*2+1))=some (Iq (l[j]).2)/\w1.frozen? (aq b (off+j*2))=false/\w1.frozen? (aq b (off+j*2+1))=false):=hc;clear hc hh;go_wp2;go_loopw[9] (fun i wr=>∃k:Nat,k<=l.length/\i=Iq k/\b<wr.heap.size/\Hid (∀j (hj:j<l.length) (Ht:j<(one l).length),(j<k->wr.cell? (aq b (off+j*2))=some (.string ⟨((one l)[j]).1.toArray⟩)/\wr.cell? (aq b (off+j*2+1))=some (Iq ((one l)[j]).2))/\(k<=j->wr.cell? (aq b (off+j*2))=some (.string ⟨(l[j]).1.toArray⟩)/\wr.cell? (aq b (off+j*2+1))=some (Iq (l[j]).2))/\wr.frozen? (aq b (off+j*2))=false/\wr.frozen? (aq b (off+j*2+1))=false)/\Bt w wr) (fun i _=>l.length-(intOf i).toNat);case atStart=>exact⟨0,bm _,rfl,hb,fun j hj _=>⟨fun h=>by omega,fun _=>⟨(HC j hj).1,(HC j hj).2.1⟩,(HC j hj).2.2⟩,b1⟩
 case round=>
  obtain⟨k,hk,rfl,Yg,HR,b_⟩:=hrel;have eV:=b_.size;by_cases hlt:k<l.length
  ·have aR:(k:Int)<(l.length:Int):=by omega
   obtain⟨T,V,pP⟩:∃T V,l[k]=(T,V):=⟨_,_,rfl⟩;have hRk:=HR k hlt (by omega);have c0:wr.cell? (aq b (off+k*2))=some (.string ⟨T.toArray⟩):=by have:=(hRk.2.1 (ae _)).1;rw[pP]at this;exact this
   have c1:wr.cell? (aq b (off+k*2+1))=some (Iq V):=by have:=(hRk.2.1 (ae _)).2;rw[pP]at this;exact this
   have f0:=hRk.2.2.1;have f1:=hRk.2.2.2;have Aq:(one l)[k]'(by omega)=if T=[10]then([32],1)else(T,V):=by rw[Za l k hlt,pP]
   have HOK:Hid (∀Ht:k<(one l).length,(one l)[k]=if T=[10]then([32],1)else(T,V)):=fun _=>Aq;clear hRk Aq pP;by_cases fM:T=[10]
   ·have EX:(T==[10])=true:=by rw[fM];rfl
    go_wp2;go_roundw;case rel=>
     refine⟨k+1,by omega,by go_num,by simpa using Yg,fun j hj Ht=>?_,?_⟩
     ·have hR:=HR j hj Ht;simp only[kO];refine⟨fun h=>?_,fun h=>?_,hR.2.2⟩
      ·by_cases e:j=k
       ·subst e;rw[HOK Ht,if_pos fM];refine⟨?_,?_⟩;·rw[oB _ _ _ _ _ (by omega)];exact rO _ _ _ (by grind)
        ·exact rO _ _ _ (by grind[oB])
       grind[oB]
      grind[oB]
     ·exact(b_.setCell (p:=(aq b (off+k*2))) hB _).setCell (p:=(aq b (off+k*2+1))) hB _
    case measure=>simp[intOf];omega
   ·have EX:(T==[10])=false:=by simpa using fM
    go_wp2;go_roundw;case rel=>
     refine⟨k+1,by omega,by go_num,Yg,fun j hj Ht=>?_,b_⟩;have hR:=HR j hj Ht;refine⟨fun h=>?_,fun h=>hR.2.1 (by omega),hR.2.2⟩;by_cases e:j=k;·subst e;rw[HOK Ht,if_neg fM];grind
     grind
    case measure=>simp[intOf];omega
  ·have aR:¬(k:Int)<(l.length:Int):=by omega
   go_wp2;go_ret;refine⟨_,rfl,⟨_,cap,by rw[hol];rfl,by omega,uw,.inr ⟨b,off,rfl,hB,Yg,fun j hj=>?_⟩⟩,b_⟩;have hR:=HR j (by omega) hj;grind
def wk(m:List (List UInt8×Int))(W:Int):List UInt8:=if W<1 then[]else if aj m<=W then aK m else aK (m.take (dI m (W-1)))++[226,128,166]
theorem SW(s:ByteArray)(W:Int)(w:World)(ht:aL w)(hs:s.size<=1099511627776)(bc:-9223372036854775808<=W)(bZ:W<=9223372036854775807):
 Cw 178 #[.string s,Iq W] w fun e w'=>e=Rw (.string ⟨(wk (one (bi (ap s.data.toList))) W).toArray⟩)/\Bt w w':=by
 have pR:s.data.toList.length=s.size:=by rw[gc];rfl
 have hR:=bp s.data.toList;have hC:=cu (ap s.data.toList);rw[pR]at hR;by_cases hlt:W<1
 ·have HE:Hid (wk (one (bi (ap s.data.toList))) W=[]):=by show _=_;rw[wk,if_pos hlt]
  go_enter func178,ntmps178;go_wp2;go_ret;rw[HE.out];exact⟨rfl,ag _ _⟩
 have hol:=uV (bi (ap s.data.toList));have hbd:=PK (gB (ap s.data.toList));have fM:=UF (bi (ap s.data.toList));have hjb:=qr _ (K4 (tU (ap s.data.toList)));have G:Hid (Cw 213 #[.string s] w fun e w'=>∃v,e=Rw v/\AD w.heap.size w' v (one (bi (ap s.data.toList)))/\Bt w w'):=wH s w ht hs;obtain⟨m,hm⟩:=af (one (bi (ap s.data.toList)));rw[hm]at hol hbd fM hjb G⊢;have hfa:=S9 m W hbd fM (by omega);have Yq:=mf m (W-1);have OK:m.length<=1099511627776:=by omega
 have HC:Hid (wk m W=if aj m<=W then aK m else aK (m.take (dI m (W-1)))++[226,128,166]):=by show _=_;rw[wk,if_neg hlt]
 have kZ:Hid (∀c∈m,0<=c.2/\c.2<=2):=hbd;have HJT:Hid (∀k,(aK (m.take k)).length<=(aK m).length):=fun k=>iP m k;clear hm pR hC hbd fM ht hol;go_enter func178,ntmps178;go_wp2_with fail;refine G.mono ?_;rintro e w1 ⟨v1,rfl,co,b1⟩;have Eu:Hid (ol w1 v1 m):=co.clsC;obtain⟨a,cap,rfl,un,uw,hh⟩:=co;clear G;go_wp2_with fail;refine(fitting_any m _ W w1 Eu.cls kZ OK bc bZ).mono ?_;rintro e w2 ⟨rfl,b2⟩;have HC2:Hid (ol w2 (.slice a m.length cap) m):=Eu.below b2;have hfw:=mf m W;obtain⟨f,hf⟩:=af (dI m W);rw[hf]at hfa hfw⊢;clear hf Eu;by_cases fU:f=m.length
 ·have HE:Hid (wk m W=aK m):=by show _=_;rw[HC.out,if_pos (hfa.1 fU)]
  subst fU;clear hfa hh;go_wp2_with fail;refine(textOf_any m _ w2 HC2.cls OK (by omega)).mono ?_;rintro e w3 ⟨rfl,b3⟩;go_wp2;go_ret;rw[HE.out];exact⟨rfl,b1.trans ((b2.mono b1.size).trans (b3.mono (aH b1.size b2.size)))⟩
 ·have HE:Hid (wk m W=aK (m.take (dI m (W-1)))++[226,128,166]):=by show _=_;rw[HC.out,if_neg (fun h=>fU (hfa.2 h))]
  have bj:m≠[]:=fun e=>by grind
  obtain⟨b,off,rfl,hB,hb,hc⟩:=hh.resolve_left bj;have zbm:¬(f:Int)=(m.length:Int):=by omega
  clear hfa hh hc;go_wp2_with fail;refine(fitting_any m _ (W-1) w2 HC2.cls kZ OK (by omega) (by omega)).mono ?_;rintro e w3 ⟨rfl,b3⟩;have HC3:Hid (ol w3 (.slice (some (aq b off)) m.length cap) m):=HC2.below b3;obtain⟨g,hg⟩:=af (dI m (W-1));rw[hg]at HE Yq⊢;have HT:Hid (Ag w3 (.slice (some (aq b off)) g cap) (m.take g)):=by obtain⟨a',cH,e1,_,_,hh⟩:=HC3.out;cases e1;obtain⟨b',Y_,e2,sr,Yh⟩:=hh.resolve_left bj;cases e2;exact Be sr Yh Yq
  have hjg:=HJT g;have hlg:(m.take g).length<=1099511627776:=by rw[bU];omega
  clear hg HC2 HC3;have hgc:(g:Int)<=(cap:Int):=by omega
  go_wp2_with fail;refine(textOf_any (m.take g) _ w3 HT hlg (by omega)).mono ?_;rintro e w4 ⟨rfl,b4⟩;obtain⟨Y,hY⟩:=af (aK (m.take g));rw[hY]at HE hjg⊢;clear hY HT;go_wp2;go_ret;rw[HE.out,<-Ve];have s1:=b1.size;have s2:=b2.size;have s3:=b3.size;exact⟨rfl,b1.trans ((b2.mono s1).trans ((b3.mono (by omega)).trans (b4.mono (by omega))))⟩
theorem Uo  s  :(⟨s.data.toList.toArray⟩:ByteArray)=s:=by grind
theorem zaK  s   X Y  :(⟨X.toArray⟩:ByteArray)++s++(⟨Y.toArray⟩:ByteArray)=⟨(X++s.data.toList++Y).toArray⟩:=by apply ju;simp
def JB(n:Nat)(how:Int):Nat:=if how=1 then n/2 else if how=2 then n else 0
theorem MY  n   how  :JB n how<=n:=by grind[JB]
def vX(T:List UInt8)(c W how:Int):List UInt8:=if min W 100000<=c then T else List.replicate (JB (min W 100000-c).toNat how) 32++T++List.replicate ((min W 100000-c).toNat-JB (min W 100000-c).toNat how) 32
theorem JC(s:ByteArray)(W how:Int)(w:World)(ht:aL w)(hs:s.size<=1099511627776)(bc:-9223372036854775808<=W)(bZ:W<=9223372036854775807):
 Cw 135 #[.string s,Iq W,Iq how] w fun e w'=>e=Rw (.string ⟨(vX s.data.toList (aj (bi (ap s.data.toList))) W how).toArray⟩)/\Bt w w':=by
 have pR:s.data.toList.length=s.size:=by rw[gc];rfl
 have hR:=bp s.data.toList;have hC:=cu (ap s.data.toList);rw[pR]at hR;have hbd:=dp _ (gB (ap s.data.toList)) (bi (ap s.data.toList)).length;rw[l6]at hbd;have K:Hid (Cw 179 #[.string s] w fun e w'=>e=Rw (Iq (aj (bi (ap s.data.toList))))/\Bt w w'):=q_ s w ht hs;obtain⟨c,hc⟩:=af (aj (bi (ap s.data.toList)));rw[hc]at K hbd⊢;have hSE:(⟨s.data.toList.toArray⟩:ByteArray)=s:=by cases s;simp
 have HSE:Hid ((⟨s.data.toList.toArray⟩:ByteArray)=s):=hSE;obtain⟨M,hM⟩:=af (min W 100000);have hM1:M<=100000:=by omega
 have hM0:-9223372036854775808<=M:=by omega
 have HM:Hid (min W 100000=M):=hM;clear hc pR ht hSE;by_cases qj:M<=c
 ·have HE:Hid (vX s.data.toList c W how=s.data.toList):=by show _=_;unfold vX;rw[if_pos (by omega)]
  go_enter func135,ntmps135;go_wp2_with fail;refine K.mono ?_;rintro e w1 ⟨rfl,b1⟩;clear K hM;go_wp2;go_ret;rw[HE.out,Uo];simp_all
 ·obtain⟨n,hn⟩:∃n:Nat,M-c=n:=⟨(M-c).toNat,by omega⟩;have zv:n<=100000:=by omega
  have HE:Hid (vX s.data.toList c W how=List.replicate (JB n how) 32++s.data.toList++List.replicate (n-JB n how) 32):=by show _=_;unfold vX;rw[if_neg (by omega),HM.out,hn];simp
  have zq:=MY n how;have D1:how=1->JB n how=n/2:=fun h=>by grind[JB]
  have D2:how=2->JB n how=n:=fun h=>by grind[JB]
  have D3:how≠1->how≠2->JB n how=0:=fun h h'=>by grind[JB]
  obtain⟨a,ha⟩:=af (JB n how);rw[ha]at HE zq D1 D2 D3;have hna:(n:Int)-(a:Int)=((n-a:Nat):Int):=by omega
  have hR1:=fun w=>blank_any a w (by omega);have hR2:=fun w=>blank_any (n-a) w (by omega);have R1:Hid (∀w,Cw 132 #[.string ⟨#[32]⟩,Iq a] w fun e w'=>e=Rw (.string ⟨(List.replicate a 32).toArray⟩)/\Bt w w'):=hR1;have R2:Hid (∀w,Cw 132 #[.string ⟨#[32]⟩,Iq ((n-a:Nat):Int)] w fun e w'=>e=Rw (.string ⟨(List.replicate (n-a) 32).toArray⟩)/\Bt w w'):=hR2;have HNA:Hid ((n:Int)-(a:Int)=((n-a:Nat):Int)):=hna;have HN:Hid (M-c=n):=hn;have l1:(List.replicate a (32:UInt8)).length=a:=List.length_replicate;have l2:(List.replicate (n-a) (32:UInt8)).length=n-a:=List.length_replicate;obtain⟨X,hX⟩:=af (List.replicate a (32:UInt8));obtain⟨Y,hY⟩:=af (List.replicate (n-a) (32:UInt8));rw[hX]at HE R1 l1;rw[hY]at HE R2 l2;clear hR1 hR2 hna hn hX hY ha;go_enter func135,ntmps135;go_wp2_with fail;refine K.mono ?_;rintro e w1 ⟨rfl,b1⟩;clear K hM;have e0:M-c-(a:Int)=((n-a:Nat):Int):=by have:=HN.out;omega
  have E0:Hid (M-c-(a:Int)=((n-a:Nat):Int)):=e0;have hMc:M-c<=100000:=by have:=HN.out;omega
  have znf:0<M-c:=by omega
  by_cases h1:how=1
  ·have e1:=D1 h1;have E1:Hid (((n:Int))/2=(a:Int)):=by show _=_;rw[e1];rfl
   have E2:Hid ((M-c).tdiv 2=(a:Int)):=by show _=_;rw[HN.out,e1];rfl
   clear D1 D2 D3 e1 e0;subst h1;have hq:=E2.out;go_wp2_with fail;try rw[E1.out]
   refine(R1 _).mono ?_;rintro e w2 ⟨rfl,b2⟩;go_wp2_with fail;refine(show Calls _ _ #[_,Iq (M-c-(a:Int))] _ _ by rw[E0.out];exact R2 _).mono ?_;rintro e w3 ⟨rfl,b3⟩;go_wp2;go_ret;rw[HE.out,<-zaK];exact⟨rfl,b1.trans ((b2.mono b1.size).trans (b3.mono (aH b1.size b2.size)))⟩
  ·by_cases h2:how=2;focus
    have e1:=D2 h2;have R1':Hid (∀w,Cw 132 #[.string ⟨#[32]⟩,Iq (M-c)] w fun e w'=>e=Rw (.string ⟨X.toArray⟩)/\Bt w w'):=by intro w;rw[HN.out,<-e1];exact R1 w
    have R2':Hid (∀w,Cw 132 #[.string ⟨#[32]⟩,Iq 0] w fun e w'=>e=Rw (.string ⟨Y.toArray⟩)/\Bt w w'):=by intro w;have:=R2 w;rw[show((n-a:Nat):Int)=0 by omega]at this;exact this
    clear D1 D2 D3 e1 e0 R1 R2;subst h2
   rotate_left;focus
    have e1:=D3 h1 h2;have R1':Hid (∀w,Cw 132 #[.string ⟨#[32]⟩,Iq 0] w fun e w'=>e=Rw (.string ⟨X.toArray⟩)/\Bt w w'):=by intro w;have:=R1 w;rw[show(a:Int)=0 by omega]at this;exact this
    have R2':Hid (∀w,Cw 132 #[.string ⟨#[32]⟩,Iq (M-c)] w fun e w'=>e=Rw (.string ⟨Y.toArray⟩)/\Bt w w'):=by intro w;have:=R2 w;rw[show((n-a:Nat):Int)=M-c by omega]at this;exact this
    have g1:=h1;have g2:=h2;clear D1 D2 D3 e1 e0 R1 R2
   rotate_left;all_goals go_wp2_with fail;refine(R1' _).mono ?_;rintro e w2 ⟨rfl,b2⟩;go_wp2_with fail;refine(R2' _).mono ?_;rintro e w3 ⟨rfl,b3⟩;go_wp2;go_ret;rw[HE.out,<-zaK];exact⟨rfl,b1.trans ((b2.mono b1.size).trans (b3.mono (aH b1.size b2.size)))⟩
