import Derived.Test.YtiaimhjebnobnaaGreatDoorQ00
import Derived.Test.YtiaimhjebnobnaaGreatDoorQ22
import Derived.Test.YtiaimhjebnobnaaGreatDoorQ32
set_option linter.all false
set_option maxRecDepth 100000
set_option maxHeartbeats 16000000
namespace Go.Proofs.YtiaimhjebnobnaaGreatDoor
open Go.RowKit Go.Proofs.Tryz
theorem Hl  n  :Lib.repeatL [32] n=List.replicate n 32:=by
 induction n with
 |zero=>rfl
 |succ n ih=>simp[Lib.repeatL,ih,RU]
theorem blank_any(n:Nat)  w  (hn:n<=140737488355328):
 Cw 73 #[.string ⟨#[32]⟩,Iq n] w fun e w'=>e=Rw (.string ⟨(List.replicate n 32).toArray⟩)/\Bt w w':=by refine(vW ⟨#[32]⟩ n w (by omega) (by show 1*n<=_;omega)).mono ?_;grind[Hl]
theorem textOf_any(l:List (List UInt8×Int))(v:Value)(w:World)(hcl:oM w v l)(bY:l.length<=1099511627776)(hj:(aJ l).length<=70368744177664):
 Cw 192 #[v] w fun e w'=>e=Rw (.string ⟨(aJ l).toArray⟩)/\Bt w w':=by
 obtain⟨a,cap,rfl,hh⟩:=hcl;have XU:=qH<|fun k=>fK l k;go_enter func192,ntmps192;go_wp2;go_loopw[8] (fun i wr=>∃k:Nat,k<=l.length/\i=Iq k/\Hid (Lib.IsBuilderF 221 5 w.heap.size w.heap.size (Lib.byteCells (aJ (l.take k))) wr)/\Bt w wr) (fun i _=>l.length-(intOf i).toNat);case atStart=>exact⟨0,aZ _,rfl,Lib.IsBuilderF.of (Lib.fresh_isBuilder 221 5 w),(aj _ _).alloc (ai _) _⟩
 case round=>
  obtain⟨k,hk,rfl,hI,hbw⟩:=hrel;have f_:=hbw.size;by_cases hlt:k<l.length
  ·have aN:(k:Int)<(l.length:Int):=by omega
   have bZ:l≠[]:=fun e=>by grind
   obtain⟨b,off,rfl,hb,hc⟩:=hh.resolve_left bZ;obtain⟨T,V,iT⟩:∃T V,l[k]=(T,V):=⟨_,_,rfl⟩;have c0:wr.cell? (az b (off+k*2))=some (.string ⟨T.toArray⟩):=by have:=(hc k hlt).1;rw[iT]at this;exact(hbw.cell (p:=(az b (off+k*2))) hb).trans this
   have c1:wr.cell? (az b (off+k*2+1))=some (Iq V):=by have:=(hc k hlt).2;rw[iT]at this;exact(hbw.cell (p:=(az b (off+k*2+1))) hb).trans this
   have HS:Hid (aJ (l.take (k+1))=aJ (l.take k)++T):=by show _=_;rw[sE l k hlt,iT]
   have Uu:=XU (k+1);rw[HS.out,bm]at Uu;have hTs:(⟨T.toArray⟩:ByteArray).size=T.length:=by simp[ByteArray.size]
   obtain⟨Y,hY⟩:=ag (aJ (l.take k));rw[hY]at HS Uu hI;clear hh hc iT bZ hY;go_wp2_with fail;refine(tS w.heap.size w.heap.size _ ⟨T.toArray⟩ _ (hI.alloc _) (by rw[Lib.byteCells_length,hTs];omega) (by simp;omega)).mono ?_;rintro e W1 ⟨rfl,h1,b1,k1⟩;have hb1:=(hbw.alloc f_ _).trans b1;clear hI c0 c1 b1 k1;go_wp2;go_roundw;case rel=>refine⟨k+1,by omega,by go_num,?_,hb1⟩;show Lib.IsBuilderF _ _ _ _ _ _;rw[HS.out,Lib.byteCells_append];exact Or.inr h1
   case measure=>simp[intOf];omega
  ·have aN:¬(k:Int)<(l.length:Int):=by omega
   have HE:Hid (l.take k=l):=gV (by omega);clear hh;go_wp2_with fail;refine(Ia w.heap.size w.heap.size (aJ (l.take k)) _ hI f_).mono ?_;rintro e W1 ⟨rfl,_,b1,_⟩;go_wp2;go_ret;rw[HE.out];exact⟨rfl,hbw.trans b1⟩
theorem iS(w:World)  b i j   v  (h:i≠j):(w.setCell (az b i) v).cell? (az b j)=w.cell? (az b j):=
 eu _ _ _ _ (fun e=>h (by grind))
def zo(B:Nat)(w:World)(v:Value)(l:List (List UInt8×Int)):Prop:=
 ∃a cap,v=.slice a l.length cap/\l.length<=cap/\cap<=maxLen/\(l=[]\/∃b off,a=some (az b off)/\B<=b/\b<w.heap.size/\∀j (hj:j<l.length),w.cell? (az b (off+j*2))=some (.string ⟨(l[j]).1.toArray⟩)/\w.cell? (az b (off+j*2+1))=some (Iq (l[j]).2)/\w.frozen? (az b (off+j*2))=false/\w.frozen? (az b (off+j*2+1))=false)
theorem zo.cls{B}{w}{v}{l}(h:zo B w v l):oM w v l:=by obtain⟨a,cap,rfl,_,_,hh⟩:=h;refine⟨a,cap,rfl,hh.imp id ?_⟩;grind
theorem pO{w}{B n}{e}{v}{l}(h:w.ownsRow B e 2 v n (eE l)):zo B w v l:=by
 have hl:l.length=n:=by have:=h.1;rw[oq]at this;omega
 have hC:=t_ h;rcases h.2 with⟨rfl,rfl⟩|⟨g,cap,ik,rfl,hB,hg,kB,oh,_⟩;·have hz:=ln.1 hl;subst hz;exact⟨none,0,rfl,ai _,aZ _,.inl rfl⟩
 ·obtain⟨a,dD,e1,hh⟩:=hC;cases e1;refine⟨_,_,rfl,by omega,oh,hh.imp id ?_⟩;rintro⟨b,off,e2,hb,hc⟩;cases e2;exact⟨g,0,rfl,hB,hb,fun j hj=>⟨(hc j hj).1,(hc j hj).2,frozen_of_row _ _ _ _ _ hg,frozen_of_row _ _ _ _ _ hg⟩⟩
theorem Qm  l   j  (hj:j<l.length) (rq:j<(one l).length):(one l)[j]=if(l[j]).1=[10]then([32],1)else l[j]:=by simp[one]
def pG(w:World)(v:Value)(l:List (List UInt8×Int)):Prop:=
 ∃a cap,v=.slice a l.length cap/\l.length<=cap/\cap<=maxLen/\(l=[]\/∃b off,a=some (az b off)/\b<w.heap.size/\∀j (hj:j<l.length),w.cell? (az b (off+j*2))=some (.string ⟨(l[j]).1.toArray⟩)/\w.cell? (az b (off+j*2+1))=some (Iq (l[j]).2))
theorem pG.cls{w}{v}{l}(h:pG w v l):oM w v l:=by obtain⟨a,cap,rfl,_,_,hh⟩:=h;exact⟨a,cap,rfl,hh⟩
theorem pG.below{w w'}{v}{l}(h:pG w v l)(hb:Bt w w'):pG w' v l:=by obtain⟨a,cap,rfl,h1,h2,hh⟩:=h;obtain⟨a',dD,e,WW⟩:=(oM.below ⟨a,cap,rfl,hh⟩ hb:oM w' (.slice a l.length cap) l);cases e;exact⟨a,cap,rfl,h1,h2,WW⟩
theorem zo.clsC{B}{w}{v}{l}(h:zo B w v l):pG w v l:=by obtain⟨a,cap,rfl,h1,h2,hh⟩:=h;refine⟨a,cap,rfl,h1,h2,hh.imp id ?_⟩;grind
theorem uP{w}{b off cap n}{l:List (List UInt8×Int)}(hb:b<w.heap.size)(hc:∀j (hj:j<l.length),w.cell? (az b (off+j*2))=some (.string ⟨(l[j]).1.toArray⟩)/\w.cell? (az b (off+j*2+1))=some (Iq (l[j]).2))(hn:n<=l.length):
 oM w (.slice (some (az b off)) n cap) (l.take n):=by refine⟨_,cap,by grind,.inr ⟨b,off,rfl,hb,fun j hj=>?_⟩⟩;grind
theorem vB  l   n  (hn:n<=l.length):∀k,k<=n->dA (l.take n) k=dA l k
 |0,_=>rfl
 |k+1,h=>by
  have e:tx (l.take n) k=tx l k:=by simp[tx,show k<n by omega]
  simp only[dA,e,vB l n hn k (by omega)]
theorem ox(l:List (List UInt8×Int))(v:Value)(W:Int)(w:World)(hcl:pG w v l)(hbd:∀c∈l,0<=c.2/\c.2<=2)(bY:l.length<=1099511627776)(cK:1<=W)(cC:W<=9223372036854775807):
 Cw 218 #[v,Iq W] w fun e w'=>e=Rw (.tuple #[Iq (aU l W).n,Iq (aU l W).d,Iq (aU l W).e])/\Bt w w':=by
 have HF:=qH<|fitting_any l v W w hcl.cls hbd bY (by omega) cC;have hle:=ka l W;obtain⟨n,hn⟩:=ag (dy l W);have HL:Hid (aU l W=if n=l.length then⟨n,0,3⟩
  else if tx l n=[10]then⟨n,1,2⟩
  else if n=0 then⟨1,0,1⟩
  else if tx l n=[32]then⟨n,1,0⟩
  else if 0<=dA l n then⟨(dA l n).toNat,1,0⟩
  else⟨n,0,1⟩):=by show _=_;unfold aU;rw[hn]
 rw[hn]at HF hle;obtain⟨a,cap,rfl,kB,oh,hh⟩:=hcl;go_enter func218,ntmps218;go_wp2_with fail;refine HF.mono ?_;rintro e w1 ⟨rfl,b1⟩;by_cases h1:n=l.length
 ·have HE:Hid (aU l W=⟨n,0,3⟩):=by show _=_;rw[HL.out,if_pos h1]
  subst h1;go_wp2;go_ret3;rw[HE.out];simp_all
 have hlt:n<l.length:=by omega
 have bZ:l≠[]:=fun e=>by grind
 obtain⟨b,off,rfl,hb,hc⟩:=hh.resolve_left bZ;have jF:=zz008 hb b1.size;have hc1:Hid (∀j (hj:j<l.length),w1.cell? (az b (off+j*2))=some (.string ⟨(l[j]).1.toArray⟩)/\w1.cell? (az b (off+j*2+1))=some (Iq (l[j]).2)):=
  fun j hj=>⟨(b1.cell (p:=(az b (off+j*2))) hb).trans (hc j hj).1,(b1.cell (p:=(az b (off+j*2+1))) hb).trans (hc j hj).2⟩;have HT:Hid (oM w1 (.slice (some (az b off)) n cap) (l.take n)):=uP jF hc1 (by omega);obtain⟨T,V,iT⟩:∃T V,l[n]=(T,V):=⟨_,_,rfl⟩;have c0:w1.cell? (az b (off+n*2))=some (.string ⟨T.toArray⟩):=by have:=(hc1 n hlt).1;rw[iT]at this;exact this
 have HX:Hid (tx l n=T):=by show _=_;rw[wQ hlt,iT]
 by_cases dI:T=[10]
 ·have HE:Hid (aU l W=⟨n,1,2⟩):=by show _=_;rw[HL.out,if_neg h1,if_pos (by rw[HX.out,dI])]
  go_wp2;go_ret3;rw[HE.out];simp_all
 have pT:(T==[10])=false:=by simpa using dI
 by_cases h0:n=0
 ·have HE:Hid (aU l W=⟨1,0,1⟩):=by show _=_;rw[HL.out,if_neg h1,if_neg (by rw[HX.out];exact dI),if_pos h0]
  subst h0;have c0':w1.cell? (az b off)=some (.string ⟨T.toArray⟩):=by simpa using c0
  go_wp2;go_ret3;rw[HE.out];simp_all
 by_cases Dd:T=[32]
 ·have HE:Hid (aU l W=⟨n,1,0⟩):=by show _=_;rw[HL.out,if_neg h1,if_neg (by rw[HX.out];exact dI),if_neg h0,if_pos (by rw[HX.out,Dd])]
  go_wp2;go_ret3;rw[HE.out];simp_all
 have T0:(T==[32])=false:=by simpa using Dd
 have HB:=xO (l.take n) _ w1 HT (by grind);have Ft:=vA l n;rw[cX,RV hle,vB l n hle n (ai _)]at HB;have HB':=qH<|HB;obtain⟨m,hm⟩:=ag (dA l n);have HM:=qH<|hm;rw[hm]at HB' Ft;go_wp2_with fail;refine HB'.mono ?_;rintro e w2 ⟨rfl,b2⟩;have hB:=b1.trans (b2.mono b1.size);by_cases hm0:0<=m
 ·have HE:Hid (aU l W=⟨m.toNat,1,0⟩):=by show _=_;rw[HL.out,if_neg h1,if_neg (by rw[HX.out];exact dI),if_neg h0,if_neg (by rw[HX.out];exact Dd),HM.out,if_pos hm0]
  have hmm:((m.toNat:Nat):Int)=m:=by omega
  have Sh:=qH<|hmm;go_wp2;go_ret3;rw[HE.out];simp_all
 ·have HE:Hid (aU l W=⟨n,0,1⟩):=by show _=_;rw[HL.out,if_neg h1,if_neg (by rw[HX.out];exact dI),if_neg h0,if_neg (by rw[HX.out];exact Dd),HM.out,if_neg hm0]
  go_wp2;go_ret3;rw[HE.out];simp_all
theorem v_{w:World}{B}{t}{a0 a1 a2 a3 a4 b0 b1 b2 b3 b4}(h:w.heap[B]?=some (.cells #[a0,a1,a2,a3,a4] t (0,0))):
 (((((w.setCell (az B 0) b0).setCell (az B 1) b1).setCell (az B 2) b2).setCell (az B 3) b3).setCell (az B 4) b4).heap[B]?=some (.cells #[b0,b1,b2,b3,b4] t (0,0)):=by rw[heap_setCell_same _ _ _ _ _ _ (heap_setCell_same _ _ _ _ _ _ (heap_setCell_same _ _ _ _ _ _ (heap_setCell_same _ _ _ _ _ _ (heap_setCell_same _ _ _ _ _ _ h))))];rfl
def P5(T:List UInt8)(W:Int)(F N E:Int):Value:=.agg #[.string ⟨T.toArray⟩,Iq W,Iq F,Iq N,Iq E]
def sI(l:List (List UInt8×Int))(W:Int):Value:=if W<ap l then P5 (List.replicate W.toNat 32) W 0 1 0 else P5 (aJ l) (ap l) 0 l.length 0
theorem vD(l:List (List UInt8×Int))(v:Value)(W:Int)(w:World)(hcl:oM w v l)(hbd:∀c∈l,0<=c.2/\c.2<=2)(bY:l.length<=1099511627776)(hj:(aJ l).length<=70368744177664)(cK:1<=W)(cC:W<ap l->W<=1099511627776):
 Cw 219 #[v,Iq W] w fun e w'=>e=Rw (sI l W)/\Bt w w':=by
 have iM:=qH<|hbd;have ef:=cJ l hbd l.length;rw[l5]at ef;have HCL:=qH<|hcl;obtain⟨a,cap,rfl,hh⟩:=hcl;go_enter func219,ntmps219;go_wp2;go_loopw[5,10] (fun t i wr=>∃k:Nat,k<=l.length/\i=Iq k/\t=Iq (ap (l.take k))/\Bt w wr/\w.heap.size<wr.heap.size/\wr.heap[w.heap.size]?=some (.cells #[.string ⟨#[]⟩,Iq 0,Iq 0,Iq 0,Iq 0] 231)) (fun _ i _=>l.length-(intOf i).toNat);case atStart=>exact⟨0,aZ _,rfl,rfl,(aj _ _).alloc (ai _) _,by simp,heap_alloc_new _ _⟩
 case round=>
  obtain⟨k,hk,rfl,rfl,hbw,Zm,hrow⟩:=hrel;have hwb:=cJ l iM k;have f_:=hbw.size;by_cases hlt:k<l.length
  ·have aN:(k:Int)<(l.length:Int):=by omega
   have bZ:l≠[]:=fun e=>by grind
   obtain⟨b,off,rfl,hb,hc⟩:=hh.resolve_left bZ;obtain⟨T,V,iT⟩:∃T V,l[k]=(T,V):=⟨_,_,rfl⟩;have hV:=iM l[k] (lX hlt);have c0:wr.cell? (az b (off+k*2))=some (.string ⟨T.toArray⟩):=by have:=(hc k hlt).1;rw[iT]at this;exact(hbw.cell (p:=(az b (off+k*2))) hb).trans this
   have c1:wr.cell? (az b (off+k*2+1))=some (Iq V):=by have:=(hc k hlt).2;rw[iT]at this;exact(hbw.cell (p:=(az b (off+k*2+1))) hb).trans this
   have HS:Hid (ap (l.take (k+1))=ap (l.take k)+V):=by show _=_;rw[dY l k hlt,iT]
   rw[iT]at hV;obtain⟨X,hX⟩:=ag (ap (l.take k));rw[hX]at HS hwb;rw[hX];simp only at hV;have HROW:=qH<|hrow;go_wp2;go_roundw;case rel=>exact⟨k+1,by omega,by go_num,by rw[HS.out],hbw.alloc f_ _,by simp;omega,(((aj wr.heap.size wr).alloc (ai _) _).block w.heap.size Zm).trans HROW⟩
   case measure=>simp[intOf];omega
  ·have aN:¬(k:Int)<(l.length:Int):=by omega
   have e:l.take k=l:=gV (by omega);rw[e]at hwb⊢;have HROW:=qH<|hrow;have zaG:=qH<|HCL.below hbw;have HJ:=qH<|textOf_any l _ wr zaG bY hj;obtain⟨X,hX⟩:=ag (ap l);have Yh:=qH<|hX;rw[hX]at hwb ef cC⊢;obtain⟨J,hJ⟩:=ag (aJ l);have _q:=qH<|hJ;rw[hJ]at HJ;by_cases Di:W<X
   ·obtain⟨c,hc⟩:∃c:Nat,W=c:=⟨W.toNat,by omega⟩;subst hc;have HR:=qH<|blank_any c wr (by omega);obtain⟨Y,hY⟩:=ag (List.replicate c (32:UInt8));have HY:=qH<|hY;rw[hY]at HR;go_wp2_with fail;refine HR.mono ?_;rintro e w2 ⟨rfl,b2⟩;have oi:=b2.size;have hr2:=(b2.block w.heap.size Zm).trans HROW;have q0:w2.cell? (az w.heap.size 0)=some (.string ⟨#[]⟩):=by simp[World.cell?,hr2]
    have q1:w2.cell? (az w.heap.size 1)=some (Iq 0):=by simp[World.cell?,hr2]
    have q2:w2.cell? (az w.heap.size 2)=some (Iq 0):=by simp[World.cell?,hr2]
    have q3:w2.cell? (az w.heap.size 3)=some (Iq 0):=by simp[World.cell?,hr2]
    have q4:w2.cell? (az w.heap.size 4)=some (Iq 0):=by simp[World.cell?,hr2]
    have fr:∀j,w2.frozen? (az w.heap.size j)=false:=fun j=>frozen_of_row _ _ _ _ _ hr2;have HR2:=qH<|hr2;go_wp2;try simp only[Exit.inBlock,Exit.then]
    refine bodyPost_ret (results_cell_row rfl _ _ w.heap.size _ _ _ _ rfl (v_ HR2) underlying231 rfl (by kernel_rfl)) rfl ?_;rw[sI,Yh.out,if_pos Di];refine⟨?_,?_⟩;·rw[show((c:Int)).toNat=c from rfl,HY.out];rfl
    ·have oy:=hbw.trans (b2.mono f_);exact((((oy.setCell (p:=(az w.heap.size 0)) (ai _) _).setCell (p:=(az w.heap.size 1)) (ai _) _).setCell (p:=(az w.heap.size 2)) (ai _) _).setCell (p:=(az w.heap.size 3)) (ai _) _).setCell (p:=(az w.heap.size 4)) (ai _) _
   ·go_wp2_with fail;refine HJ.mono ?_;rintro e w2 ⟨rfl,b2⟩;have oi:=b2.size;have hr2:=(b2.block w.heap.size Zm).trans HROW;have q0:w2.cell? (az w.heap.size 0)=some (.string ⟨#[]⟩):=by simp[World.cell?,hr2]
    have q1:w2.cell? (az w.heap.size 1)=some (Iq 0):=by simp[World.cell?,hr2]
    have q2:w2.cell? (az w.heap.size 2)=some (Iq 0):=by simp[World.cell?,hr2]
    have q3:w2.cell? (az w.heap.size 3)=some (Iq 0):=by simp[World.cell?,hr2]
    have q4:w2.cell? (az w.heap.size 4)=some (Iq 0):=by simp[World.cell?,hr2]
    have fr:∀j,w2.frozen? (az w.heap.size j)=false:=fun j=>frozen_of_row _ _ _ _ _ hr2;have HR2:=qH<|hr2;clear hr2 HJ zaG HCL HROW;go_wp2;try simp only[Exit.inBlock,Exit.then]
    refine bodyPost_ret (results_cell_row rfl _ _ w.heap.size _ _ _ _ rfl (v_ HR2) underlying231 rfl (by kernel_rfl)) rfl ?_;rw[sI,Yh.out,_q.out,if_neg (by omega)];refine⟨rfl,?_⟩;have oy:=hbw.trans (b2.mono f_);exact((((oy.setCell (p:=(az w.heap.size 0)) (ai _) _).setCell (p:=(az w.heap.size 1)) (ai _) _).setCell (p:=(az w.heap.size 2)) (ai _) _).setCell (p:=(az w.heap.size 3)) (ai _) _).setCell (p:=(az w.heap.size 4)) (ai _) _
def cP(x:Ln):List Value:=[.string ⟨x.T.toArray⟩,Iq x.W,Iq x.F,Iq x.N,Iq x.E]
def iF(ls:List Ln):List Value:=ls.flatMap cP
theorem mS  ls   x  :iF (ls++[x])=iF ls++cP x:=by simp[iF]
theorem Kh{W:World}{B}{x}{t}(h:W.heap[B]?=some (.cells (cP x).toArray t (0,0))):W.cell? (az B 0)=some (.string ⟨x.T.toArray⟩)/\W.cell? (az B 1)=some (Iq x.W)/\W.cell? (az B 2)=some (Iq x.F)/\W.cell? (az B 3)=some (Iq x.N)/\W.cell? (az B 4)=some (Iq x.E):=by simp[World.cell?,h,cP]
theorem DQ(W:World)  x   t  :∀  j   u,(cP x)[j]?=some u->(W.alloc (.cells (cP x).toArray t)).cell? (((az W.heap.size 0):Addr).add j)=some u:=by
 intro j u hu;have e0:((az W.heap.size 0):Addr).add j=(az W.heap.size j):=by unfold Addr.add;split<;>simp_all
 simp_all
theorem xJ(s:ByteArray)(w:World)(ht:cG w)(hs:s.size<=1099511627776):
 Cw 190 #[.string s] w fun e w'=>∃v,e=Rw v/\zo w.heap.size w' v (one (a_ (aD s.data.toList)))/\Bt w w':=by
 have lq:s.data.toList.length=s.size:=by rw[fV];rfl
 have hR:=bK s.data.toList;have hC:=cE (aD s.data.toList);rw[lq]at hR;have G:Hid (Cw 151 #[.string s] w fun e w'=>∃v,e=Rw v/\zo w.heap.size w' v (a_ (aD s.data.toList))/\Bt w w'):=by refine(iO s w ht hs).mono ?_;rintro e w1 ⟨v,rfl,o,b⟩;exact⟨v,rfl,pO o,b⟩
 obtain⟨l,hl⟩:=ag (a_ (aD s.data.toList));rw[hl]at G hC⊢;clear hl lq ht;go_enter func190,ntmps190;go_wp2_with fail;refine G.mono ?_;rintro e w1 ⟨v1,rfl,⟨a,cap,rfl,kB,oh,hh⟩,b1⟩;clear G;have hs1:=b1.size;have Uz:=o_ l;by_cases bZ:l=[]
 ·subst bZ;go_wp2;go_loopw[9] (fun i wr=>i=Iq 0/\wr=w1) (fun i _=>0);case atStart=>grind
  case round=>obtain⟨rfl,rfl⟩:=hrel;go_wp2;go_ret;exact⟨_,rfl,⟨a,cap,rfl,kB,oh,.inl rfl⟩,b1⟩
 obtain⟨b,off,rfl,hB,hb,hc⟩:=hh.resolve_left bZ;have HC:Hid (∀j (hj:j<l.length),w1.cell? (az b (off+j*2))=some (.string ⟨(l[j]).1.toArray⟩)/\w1.cell? (az b (off+j*2+1))=some (Iq (l[j]).2)/\w1.frozen? (az b (off+j*2))=false/\w1.frozen? (az b (off+j*2+1))=false):=hc;clear hc hh;go_wp2;go_loopw[9] (fun i wr=>∃k:Nat,k<=l.length/\i=Iq k/\b<wr.heap.size/\Hid (∀j (hj:j<l.length) (rq:j<(one l).length),(j<k->wr.cell? (az b (off+j*2))=some (.string ⟨((one l)[j]).1.toArray⟩)/\wr.cell? (az b (off+j*2+1))=some (Iq ((one l)[j]).2))/\(k<=j->wr.cell? (az b (off+j*2))=some (.string ⟨(l[j]).1.toArray⟩)/\wr.cell? (az b (off+j*2+1))=some (Iq (l[j]).2))/\wr.frozen? (az b (off+j*2))=false/\wr.frozen? (az b (off+j*2+1))=false)/\Bt w wr) (fun i _=>l.length-(intOf i).toNat);case atStart=>exact⟨0,aZ _,rfl,hb,fun j hj _=>⟨fun h=>by omega,fun _=>⟨(HC j hj).1,(HC j hj).2.1⟩,(HC j hj).2.2⟩,b1⟩
 case round=>
  obtain⟨k,hk,rfl,Sw,HR,hbw⟩:=hrel;have f_:=hbw.size;by_cases hlt:k<l.length
  ·have aN:(k:Int)<(l.length:Int):=by omega
   obtain⟨T,V,iT⟩:∃T V,l[k]=(T,V):=⟨_,_,rfl⟩;have ON:=HR k hlt (by omega);have c0:wr.cell? (az b (off+k*2))=some (.string ⟨T.toArray⟩):=by have:=(ON.2.1 (ai _)).1;rw[iT]at this;exact this
   have c1:wr.cell? (az b (off+k*2+1))=some (Iq V):=by have:=(ON.2.1 (ai _)).2;rw[iT]at this;exact this
   have f0:=ON.2.2.1;have f1:=ON.2.2.2;have MM:(one l)[k]'(by omega)=if T=[10]then([32],1)else(T,V):=by rw[Qm l k hlt,iT]
   have HOK:Hid (∀rq:k<(one l).length,(one l)[k]=if T=[10]then([32],1)else(T,V)):=fun _=>MM;clear ON MM iT;by_cases dI:T=[10]
   ·have pT:(T==[10])=true:=by rw[dI];rfl
    go_wp2;go_roundw;case rel=>
     refine⟨k+1,by omega,by go_num,by simpa using Sw,fun j hj rq=>?_,?_⟩
     ·have hR:=HR j hj rq;simp only[ij];refine⟨fun h=>?_,fun h=>?_,hR.2.2⟩
      ·by_cases e:j=k
       ·subst e;rw[HOK rq,if_pos dI];refine⟨?_,?_⟩;·rw[iS _ _ _ _ _ (by omega)];exact oJ _ _ _ (by grind)
        ·exact oJ _ _ _ (by grind[iS])
       grind[iS]
      grind[iS]
     ·exact(hbw.setCell (p:=(az b (off+k*2))) hB _).setCell (p:=(az b (off+k*2+1))) hB _
    case measure=>simp[intOf];omega
   ·have pT:(T==[10])=false:=by simpa using dI
    go_wp2;go_roundw;case rel=>
     refine⟨k+1,by omega,by go_num,Sw,fun j hj rq=>?_,hbw⟩;have hR:=HR j hj rq;refine⟨fun h=>?_,fun h=>hR.2.1 (by omega),hR.2.2⟩;by_cases e:j=k;·subst e;rw[HOK rq,if_neg dI];grind
     grind
    case measure=>simp[intOf];omega
  ·have aN:¬(k:Int)<(l.length:Int):=by omega
   go_wp2;go_ret;refine⟨_,rfl,⟨_,cap,by rw[Uz];rfl,by omega,oh,.inr ⟨b,off,rfl,hB,Sw,fun j hj=>?_⟩⟩,hbw⟩;have hR:=HR j (by omega) hj;grind
def mc(m:List (List UInt8×Int))(W:Int):List UInt8:=if W<1 then[]else if ap m<=W then aJ m else aJ (m.take (dy m (W-1)))++[226,128,166]
theorem TL(s:ByteArray)(W:Int)(w:World)(ht:cG w)(hs:s.size<=1099511627776)(cK:-9223372036854775808<=W)(cC:W<=9223372036854775807):
 Cw 155 #[.string s,Iq W] w fun e w'=>e=Rw (.string ⟨(mc (one (a_ (aD s.data.toList))) W).toArray⟩)/\Bt w w':=by
 have lq:s.data.toList.length=s.size:=by rw[fV];rfl
 have hR:=bK s.data.toList;have hC:=cE (aD s.data.toList);rw[lq]at hR;by_cases hlt:W<1
 ·have HE:Hid (mc (one (a_ (aD s.data.toList))) W=[]):=by show _=_;rw[mc,if_pos hlt]
  go_enter func155,ntmps155;go_wp2;go_ret;rw[HE.out];exact⟨rfl,aj _ _⟩
 have Uz:=o_ (a_ (aD s.data.toList));have hbd:=vK (dO (aD s.data.toList));have dI:=Ji (a_ (aD s.data.toList));have hjb:=kW _ (yO (lB (aD s.data.toList)));have G:Hid (Cw 190 #[.string s] w fun e w'=>∃v,e=Rw v/\zo w.heap.size w' v (one (a_ (aD s.data.toList)))/\Bt w w'):=xJ s w ht hs;obtain⟨m,hm⟩:=ag (one (a_ (aD s.data.toList)));rw[hm]at Uz hbd dI hjb G⊢;have IU:=TV m W hbd dI (by omega);have xg:=ka m (W-1);have BG:m.length<=1099511627776:=by omega
 have HC:Hid (mc m W=if ap m<=W then aJ m else aJ (m.take (dy m (W-1)))++[226,128,166]):=by show _=_;rw[mc,if_neg hlt]
 have iM:Hid (∀c∈m,0<=c.2/\c.2<=2):=hbd;have XU:Hid (∀k,(aJ (m.take k)).length<=(aJ m).length):=fun k=>fK m k;clear hm lq hC hbd dI ht Uz;go_enter func155,ntmps155;go_wp2_with fail;refine G.mono ?_;rintro e w1 ⟨v1,rfl,co,b1⟩;have Bm:Hid (pG w1 v1 m):=co.clsC;obtain⟨a,cap,rfl,kB,oh,hh⟩:=co;clear G;go_wp2_with fail;refine(fitting_any m _ W w1 Bm.cls iM BG cK cC).mono ?_;rintro e w2 ⟨rfl,b2⟩;have HC2:Hid (pG w2 (.slice a m.length cap) m):=Bm.below b2;have hfw:=ka m W;obtain⟨f,hf⟩:=ag (dy m W);rw[hf]at IU hfw⊢;clear hf Bm;by_cases ef:f=m.length
 ·have HE:Hid (mc m W=aJ m):=by show _=_;rw[HC.out,if_pos (IU.1 ef)]
  subst ef;clear IU hh;go_wp2_with fail;refine(textOf_any m _ w2 HC2.cls BG (by omega)).mono ?_;rintro e w3 ⟨rfl,b3⟩;go_wp2;go_ret;rw[HE.out];exact⟨rfl,b1.trans ((b2.mono b1.size).trans (b3.mono (aO b1.size b2.size)))⟩
 ·have HE:Hid (mc m W=aJ (m.take (dy m (W-1)))++[226,128,166]):=by show _=_;rw[HC.out,if_neg (fun h=>ef (IU.2 h))]
  have bZ:m≠[]:=fun e=>by grind
  obtain⟨b,off,rfl,hB,hb,hc⟩:=hh.resolve_left bZ;have zce:¬(f:Int)=(m.length:Int):=by omega
  clear IU hh hc;go_wp2_with fail;refine(fitting_any m _ (W-1) w2 HC2.cls iM BG (by omega) (by omega)).mono ?_;rintro e w3 ⟨rfl,b3⟩;have zw:Hid (pG w3 (.slice (some (az b off)) m.length cap) m):=HC2.below b3;obtain⟨g,hg⟩:=ag (dy m (W-1));rw[hg]at HE xg⊢;have HT:Hid (oM w3 (.slice (some (az b off)) g cap) (m.take g)):=by obtain⟨a',dD,e1,_,_,hh⟩:=zw.out;cases e1;obtain⟨b',zjc,e2,jF,hc'⟩:=hh.resolve_left bZ;cases e2;exact uP jF hc' xg
  have hjg:=XU g;have Zc:(m.take g).length<=1099511627776:=by rw[cX];omega
  clear hg HC2 zw;have hgc:(g:Int)<=(cap:Int):=by omega
  go_wp2_with fail;refine(textOf_any (m.take g) _ w3 HT Zc (by omega)).mono ?_;rintro e w4 ⟨rfl,b4⟩;obtain⟨Y,hY⟩:=ag (aJ (m.take g));rw[hY]at HE hjg⊢;clear hY HT;go_wp2;go_ret;rw[HE.out,<-Bc];have s1:=b1.size;have s2:=b2.size;have s3:=b3.size;exact⟨rfl,b1.trans ((b2.mono s1).trans ((b3.mono (by omega)).trans (b4.mono (by omega))))⟩
theorem Vb  s  :(⟨s.data.toList.toArray⟩:ByteArray)=s:=by grind
theorem zbw  s   X Y  :(⟨X.toArray⟩:ByteArray)++s++(⟨Y.toArray⟩:ByteArray)=⟨(X++s.data.toList++Y).toArray⟩:=by apply nh;simp
def Cd(n:Nat)(how:Int):Nat:=if how=1 then n/2 else if how=2 then n else 0
theorem FQ  n   how  :Cd n how<=n:=by grind[Cd]
def tq(T:List UInt8)(c W how:Int):List UInt8:=if min W 100000<=c then T else List.replicate (Cd (min W 100000-c).toNat how) 32++T++List.replicate ((min W 100000-c).toNat-Cd (min W 100000-c).toNat how) 32
theorem J9(s:ByteArray)(W how:Int)(w:World)(ht:cG w)(hs:s.size<=1099511627776)(cK:-9223372036854775808<=W)(cC:W<=9223372036854775807):
 Cw 76 #[.string s,Iq W,Iq how] w fun e w'=>e=Rw (.string ⟨(tq s.data.toList (ap (a_ (aD s.data.toList))) W how).toArray⟩)/\Bt w w':=by
 have lq:s.data.toList.length=s.size:=by rw[fV];rfl
 have hR:=bK s.data.toList;have hC:=cE (aD s.data.toList);rw[lq]at hR;have hbd:=cJ _ (dO (aD s.data.toList)) (a_ (aD s.data.toList)).length;rw[l5]at hbd;have K:Hid (Cw 156 #[.string s] w fun e w'=>e=Rw (Iq (ap (a_ (aD s.data.toList))))/\Bt w w'):=sd s w ht hs;obtain⟨c,hc⟩:=ag (ap (a_ (aD s.data.toList)));rw[hc]at K hbd⊢;have hSE:(⟨s.data.toList.toArray⟩:ByteArray)=s:=by cases s;simp
 have HSE:Hid ((⟨s.data.toList.toArray⟩:ByteArray)=s):=hSE;obtain⟨M,hM⟩:=ag (min W 100000);have hM1:M<=100000:=by omega
 have hM0:-9223372036854775808<=M:=by omega
 have HM:Hid (min W 100000=M):=hM;clear hc lq ht hSE;by_cases hle:M<=c
 ·have HE:Hid (tq s.data.toList c W how=s.data.toList):=by show _=_;unfold tq;rw[if_pos (by omega)]
  go_enter func76,ntmps76;go_wp2_with fail;refine K.mono ?_;rintro e w1 ⟨rfl,b1⟩;clear K hM;go_wp2;go_ret;rw[HE.out,Vb];simp_all
 ·obtain⟨n,hn⟩:∃n:Nat,M-c=n:=⟨(M-c).toNat,by omega⟩;have xi:n<=100000:=by omega
  have HE:Hid (tq s.data.toList c W how=List.replicate (Cd n how) 32++s.data.toList++List.replicate (n-Cd n how) 32):=by show _=_;unfold tq;rw[if_neg (by omega),HM.out,hn];simp
  have tC:=FQ n how;have D1:how=1->Cd n how=n/2:=fun h=>by grind[Cd]
  have D2:how=2->Cd n how=n:=fun h=>by grind[Cd]
  have D3:how≠1->how≠2->Cd n how=0:=fun h h'=>by grind[Cd]
  obtain⟨a,ha⟩:=ag (Cd n how);rw[ha]at HE tC D1 D2 D3;have hna:(n:Int)-(a:Int)=((n-a:Nat):Int):=by omega
  have hR1:=fun w=>blank_any a w (by omega);have hR2:=fun w=>blank_any (n-a) w (by omega);have R1:Hid (∀w,Cw 73 #[.string ⟨#[32]⟩,Iq a] w fun e w'=>e=Rw (.string ⟨(List.replicate a 32).toArray⟩)/\Bt w w'):=hR1;have R2:Hid (∀w,Cw 73 #[.string ⟨#[32]⟩,Iq ((n-a:Nat):Int)] w fun e w'=>e=Rw (.string ⟨(List.replicate (n-a) 32).toArray⟩)/\Bt w w'):=hR2;have HNA:Hid ((n:Int)-(a:Int)=((n-a:Nat):Int)):=hna;have HN:Hid (M-c=n):=hn;have l1:(List.replicate a (32:UInt8)).length=a:=List.length_replicate;have l2:(List.replicate (n-a) (32:UInt8)).length=n-a:=List.length_replicate;obtain⟨X,hX⟩:=ag (List.replicate a (32:UInt8));obtain⟨Y,hY⟩:=ag (List.replicate (n-a) (32:UInt8));rw[hX]at HE R1 l1;rw[hY]at HE R2 l2;clear hR1 hR2 hna hn hX hY ha;go_enter func76,ntmps76;go_wp2_with fail;refine K.mono ?_;rintro e w1 ⟨rfl,b1⟩;clear K hM;have e0:M-c-(a:Int)=((n-a:Nat):Int):=by have:=HN.out;omega
  have E0:Hid (M-c-(a:Int)=((n-a:Nat):Int)):=e0;have hMc:M-c<=100000:=by have:=HN.out;omega
  have zoP:0<M-c:=by omega
  by_cases h1:how=1
  ·have e1:=D1 h1;have E1:Hid (((n:Int))/2=(a:Int)):=by show _=_;rw[e1];rfl
   have E2:Hid ((M-c).tdiv 2=(a:Int)):=by show _=_;rw[HN.out,e1];rfl
   clear D1 D2 D3 e1 e0;subst h1;have hq:=E2.out;go_wp2_with fail;try rw[E1.out]
   refine(R1 _).mono ?_;rintro e w2 ⟨rfl,b2⟩;go_wp2_with fail;refine(show Calls _ _ #[_,Iq (M-c-(a:Int))] _ _ by rw[E0.out];exact R2 _).mono ?_;rintro e w3 ⟨rfl,b3⟩;go_wp2;go_ret;rw[HE.out,<-zbw];exact⟨rfl,b1.trans ((b2.mono b1.size).trans (b3.mono (aO b1.size b2.size)))⟩
  ·by_cases h2:how=2;focus
    have e1:=D2 h2;have R1':Hid (∀w,Cw 73 #[.string ⟨#[32]⟩,Iq (M-c)] w fun e w'=>e=Rw (.string ⟨X.toArray⟩)/\Bt w w'):=by intro w;rw[HN.out,<-e1];exact R1 w
    have R2':Hid (∀w,Cw 73 #[.string ⟨#[32]⟩,Iq 0] w fun e w'=>e=Rw (.string ⟨Y.toArray⟩)/\Bt w w'):=by intro w;have:=R2 w;rw[show((n-a:Nat):Int)=0 by omega]at this;exact this
    clear D1 D2 D3 e1 e0 R1 R2;subst h2
   rotate_left;focus
    have e1:=D3 h1 h2;have R1':Hid (∀w,Cw 73 #[.string ⟨#[32]⟩,Iq 0] w fun e w'=>e=Rw (.string ⟨X.toArray⟩)/\Bt w w'):=by intro w;have:=R1 w;rw[show(a:Int)=0 by omega]at this;exact this
    have R2':Hid (∀w,Cw 73 #[.string ⟨#[32]⟩,Iq (M-c)] w fun e w'=>e=Rw (.string ⟨Y.toArray⟩)/\Bt w w'):=by intro w;have:=R2 w;rw[show((n-a:Nat):Int)=M-c by omega]at this;exact this
    have g1:=h1;have g2:=h2;clear D1 D2 D3 e1 e0 R1 R2
   rotate_left;all_goals go_wp2_with fail;refine(R1' _).mono ?_;rintro e w2 ⟨rfl,b2⟩;go_wp2_with fail;refine(R2' _).mono ?_;rintro e w3 ⟨rfl,b3⟩;go_wp2;go_ret;rw[HE.out,<-zbw];exact⟨rfl,b1.trans ((b2.mono b1.size).trans (b3.mono (aO b1.size b2.size)))⟩
theorem TH{w}{b off cap a n}{l:List (List UInt8×Int)}(hn:a+n<=l.length)(kB:l.length<=cap)(hb:b<w.heap.size)(hc:∀j (hj:j<l.length),w.cell? (az b (off+j*2))=some (.string ⟨(l[j]).1.toArray⟩)/\w.cell? (az b (off+j*2+1))=some (Iq (l[j]).2)):
 oM w (.slice (if cap=a then some (az b off)else some (az b (off+a*2))) n (cap-a)) ((l.drop a).take n):=by
 have hl:((l.drop a).take n).length=n:=by rw[cX,dq];omega
 refine⟨_,_,by rw[hl],?_⟩;by_cases e:cap=a;·grind
 ·right;rw[if_neg e];grind
theorem cQ{fn:Func}{p u}{ty}(h:fn.results=#[.cell p ty,.tmp u])  tmps   P   w   g   cs 
 (hp:tmps.getD p undef=Pq g) (hl:(loadVar ty (az g 0)).run P w=.ok (.agg cs) w):
 (results fn tmps).run P w=.ok (.tuple #[.agg cs,tmps.getD u undef]) w:=by rw[results_cell_tmp h,hp];simp[asAddr,hl]
theorem vY(l:List (List UInt8×Int))(b off cap a:Nat)(W:Int)(w:World)(hb:b<w.heap.size)(kB:l.length<=cap)(hc:∀j (hj:j<l.length),w.cell? (az b (off+j*2))=some (.string ⟨(l[j]).1.toArray⟩)/\w.cell? (az b (off+j*2+1))=some (Iq (l[j]).2))
 (ha:a<=l.length) (hbd:∀c∈l,0<=c.2/\c.2<=2) (hsh:∀c∈l,c.1.length<=20) (bY:l.length<=68719476736) (cK:1<=W) (cC:W<=9223372036854775807):
 Cw 90 #[.slice (some (az b off)) l.length cap,Iq a,Iq W] w fun e w'=>e=Rw (.tuple #[.agg #[.string ⟨(c_ l W a).T.toArray⟩,Iq (c_ l W a).W,Iq (c_ l W a).F,Iq (c_ l W a).N,Iq (c_ l W a).E],Iq (qV l W a)])/\Bt w w':=by
 have hr:∀c∈l.drop a,0<=c.2/\c.2<=2:=fun c hc=>hbd c (ku hc);have hle:=ka (l.drop a) W;rw[dq]at hle;have hfw:=OE (l.drop a) W hr cK;have iM:=qH<|hbd;have HSH:=qH<|hsh;have HC:Hid (∀w',Bt w w'->∀j (hj:j<l.length),w'.cell? (az b (off+j*2))=some (.string ⟨(l[j]).1.toArray⟩)/\w'.cell? (az b (off+j*2+1))=some (Iq (l[j]).2)):=
  fun w' vs j hj=>⟨(vs.cell (p:=(az b (off+j*2))) hb).trans (hc j hj).1,(vs.cell (p:=(az b (off+j*2+1))) hb).trans (hc j hj).2⟩;obtain⟨n,hn⟩:=ag (dy (l.drop a) W);have HLE:Hid (c_ l W a=(if W<ap ((l.drop a).take (aU (l.drop a) W).n)then⟨List.replicate W.toNat 32,W,a,1,(aU (l.drop a) W).e⟩else⟨aJ ((l.drop a).take (aU (l.drop a) W).n),ap ((l.drop a).take (aU (l.drop a) W).n),a,((l.drop a).take (aU (l.drop a) W).n).length,(aU (l.drop a) W).e⟩)):=rfl;have HNX:Hid (qV l W a=a+(aU (l.drop a) W).n+(aU (l.drop a) W).d):=rfl;have FG:Hid (aU (l.drop a) W=if n=l.length-a then⟨n,0,3⟩
  else if tx l (a+n)=[10]then⟨n,1,2⟩
  else if n=0 then⟨1,0,1⟩
  else if tx l (a+n)=[32]then⟨n,1,0⟩
  else if 0<=dA (l.drop a) n then⟨(dA (l.drop a) n).toNat,1,0⟩
  else⟨n,0,1⟩):=by show _=_;unfold aU;rw[hn,dq,Bh]
 rw[hn]at hle hfw;obtain⟨pp,hpp⟩:=ag (if cap=a then some ((az b off):Addr)else some (az b (off+a*2)));have HCS:Hid (∀w',Bt w w'->∀m,a+m<=l.length->oM w' (.slice pp m (cap-a)) ((l.drop a).take m)):=by intro w' vs m hm;have:=TH (a:=a) (n:=m) hm kB (zz008 hb vs.size) (HC w' vs);rw[hpp]at this;exact this
 have XP:Hid (∀w',Bt w w'->Cw 93 #[.slice pp (l.length-a) (cap-a),Iq W] w' fun e w2=>e=Rw (Iq n)/\w2=w'):=by intro w' vs;have h1:=HCS w' vs (l.length-a) (by omega);rw[gV (by grind)]at h1;have:=lI (l.drop a) _ W w' h1 (fun c hc=>iM c (ku hc)) (by grind);rw[hn]at this;exact this
 have Nr:Hid (∀w',Bt w w'->∀m,a+m<=l.length->Cw 92 #[.slice pp m (cap-a)] w' fun e w2=>e=Rw (.string ⟨(aJ ((l.drop a).take m)).toArray⟩)/\w2=w'):=by
  intro w' vs m hm;have hjb:=kW _ (fun c hc=>HSH c (ku (lm hc)):∀c∈(l.drop a).take m,c.1.length<=20);have hlN:((l.drop a).take m).length<=l.length:=by rw[cX,dq];omega
  exact nW _ _ w' (HCS w' vs m hm) (by omega) (by omega)
 have Nt:Hid (∀w',Bt w w'->∀m,a+m<=l.length->Cw 91 #[.slice pp m (cap-a)] w' fun e w2=>e=Rw (Iq (ap ((l.drop a).take m)))/\w2=w'):=by
  intro w' vs m hm;have hlN:((l.drop a).take m).length<=l.length:=by rw[cX,dq];omega
  exact nX _ _ w' (HCS w' vs m hm) (fun c hc=>iM c (ku (lm hc))) (by omega)
 have Fl:Hid (∀m d e,m<=n->aU (l.drop a) W=⟨m,d,e⟩->c_ l W a=⟨aJ ((l.drop a).take m),ap ((l.drop a).take m),a,m,e⟩/\qV l W a=a+m+d):=by
  intro m d e hm hf;have h1:=Bf (l.drop a) hr hm;have h2:((l.drop a).take m).length=m:=by rw[cX,dq];omega
  rw[HLE.out,HNX.out,hf];simp only;rw[if_neg (by omega),h2];exact⟨rfl,by grind⟩
 have HWI:Hid (n=0->a<l.length->tx l a≠[10]->W<ap ((l.drop a).take 1)/\W=1):=by intro h0 h1 h2;have sp:=(kQ (l.drop a) W hr).2;rw[hn,h0,dq,Bh]at sp;have h3:=(sp (by omega)).resolve_left h2;have h4:=Q6 (l.drop a) hr;simp at h3;exact⟨h3,by omega⟩
 clear hr hbd hsh hc hn;go_enter func90,ntmps90;go_wp2_with fail;refine(XP _ ((aj _ _).alloc (ai _) _)).mono ?_;rintro e w1 ⟨rfl,rfl⟩;clear XP;have qT:prog.follows .mixedOrders=true:=by kernel_rfl
 obtain⟨w1,eQ⟩:=ag (w.alloc (.cells #[.string ⟨#[]⟩,Iq 0,Iq 0,Iq 0,Iq 0] 110));have vr:Hid (w1.heap[w.heap.size]?=some (.cells #[.string ⟨#[]⟩,Iq 0,Iq 0,Iq 0,Iq 0] 110 (0,0))):=by show _=_;rw[<-eQ];exact heap_alloc_new w _
 have kH:Bt w w1:=by rw[<-eQ];exact(aj _ _).alloc (ai _) _
 have hs1:w.heap.size<w1.heap.size:=by rw[<-eQ,aI];omega
 rw[eQ];clear eQ;obtain⟨J,hJ⟩:=ag (aJ ((l.drop a).take n));obtain⟨X,hX⟩:=ag (ap ((l.drop a).take n));have T1:Hid (∀w',Bt w w'->Cw 92 #[.slice pp n (cap-a)] w' fun e w2=>e=Rw (.string ⟨J.toArray⟩)/\w2=w'):=by intro w' vs;have:=Nr w' vs n (by omega);rw[hJ]at this;exact this
 have W1:Hid (∀w',Bt w w'->Cw 91 #[.slice pp n (cap-a)] w' fun e w2=>e=Rw (Iq X)/\w2=w'):=by intro w' vs;have:=Nt w' vs n (by omega);rw[hX]at this;exact this
 obtain⟨q,hq⟩:∃q:Nat,a+n=q:=⟨_,rfl⟩;have hqi:(a:Int)+(n:Int)=(q:Int):=by omega
 have tF:(q:Int)<=(cap:Int):=by omega
 have vq:a<=q:=by omega
 have hq3:q-a=n:=by omega
 have HQ:=qH<|hq;have HQ3:=qH<|hq3;have Nl:=qH<|hpp;clear hq;go_wp2_with fail;go_cut[10]from 12 to 32 (fun p wx=>∃B,p=Pq B/\w1.heap.size<=B/\wx.heap[B]?=some (.cells #[.string ⟨J.toArray⟩,Iq X,Iq a,Iq n,Iq 0] 110 (0,0))/\Bt w1 wx);case first=>
  go_region_with(first|(go_at_call 92;refine(T1 _ (by first|exact kH.drew|exact(kH.alloc (by omega) _).drew)).mono ?_;rintro e wq ⟨rfl,rfl⟩)|(go_at_call 91;refine(W1 _ (by first|exact kH.drew|exact(kH.alloc (by omega) _).drew)).mono ?_;rintro e wq ⟨rfl,rfl⟩));all_goals(go_wp2_with fail)
  all_goals go_meet
  all_goals exact⟨_,rfl,ai _,heap_alloc_new w1 _,((aj _ _).alloc (ai _) _).drew⟩
 case rest=>
  obtain⟨B,rfl,hB,hrow,MD⟩:=hcut;have hBR:B≠w.heap.size:=by omega
  have hsy:=MD.size;have hrR:=(MD.block _ hs1).trans vr;have hRc:w.heap.size<wc.heap.size:=by omega
  have q0:wc.cell? (az B 0)=some (.string ⟨J.toArray⟩):=by simp[World.cell?,hrow]
  have q1:wc.cell? (az B 1)=some (Iq X):=by simp[World.cell?,hrow]
  have q2:wc.cell? (az B 2)=some (Iq a):=by simp[World.cell?,hrow]
  have q3:wc.cell? (az B 3)=some (Iq n):=by simp[World.cell?,hrow]
  have q4:wc.cell? (az B 4)=some (Iq 0):=by simp[World.cell?,hrow]
  have fr:∀j,wc.frozen? (az B j)=false:=fun j=>frozen_of_row _ _ _ _ _ hrow;have r0:wc.cell? (az w.heap.size 0)=some (.string ⟨#[]⟩):=by simp[World.cell?,hrR]
  have r1:wc.cell? (az w.heap.size 1)=some (Iq 0):=by simp[World.cell?,hrR]
  have r2:wc.cell? (az w.heap.size 2)=some (Iq 0):=by simp[World.cell?,hrR]
  have r3:wc.cell? (az w.heap.size 3)=some (Iq 0):=by simp[World.cell?,hrR]
  have r4:wc.cell? (az w.heap.size 4)=some (Iq 0):=by simp[World.cell?,hrR]
  have frR:∀j,wc.frozen? (az w.heap.size j)=false:=fun j=>frozen_of_row _ _ _ _ _ hrR;have lO:=qH<|hrR;have ME:=kH.trans (MD.mono (by omega));have iB:Hid (∀(wz:World) (v0 v1 v2 v3 v4:Value),Bt w wz->Bt w (((((wz.setCell (az w.heap.size 0) v0).setCell (az w.heap.size 1) v1).setCell (az w.heap.size 2) v2).setCell (az w.heap.size 3) v3).setCell (az w.heap.size 4) v4)):=
   fun wz v0 v1 v2 v3 v4 h=>((((h.setCell (p:=(az w.heap.size 0)) (ai _) _).setCell (p:=(az w.heap.size 1)) (ai _) _).setCell (p:=(az w.heap.size 2)) (ai _) _).setCell (p:=(az w.heap.size 3)) (ai _) _).setCell (p:=(az w.heap.size 4)) (ai _) _;have _q:=qH<|hJ;have Yh:=qH<|hX;have Sa:Hid (w.heap.size<=B):=by show w.heap.size<=B;omega
  clear hrow hrR hJ hX T1 W1;by_cases ef:n=l.length-a
  ·have hf:aU (l.drop a) W=⟨n,0,3⟩:=by rw[FG.out,if_pos ef]
   obtain⟨e1,e2⟩:=Fl n 0 3 (ai _) hf;have HE1:Hid (c_ l W a=⟨J,X,a,n,3⟩):=by show _=_;rw[e1,_q.out,Yh.out]
   have HE2:Hid (qV l W a=q):=by show _=_;rw[e2,HQ.out];rfl
   have HZ:Hid ((wc.setCell (az B 4) (Iq 3)).heap[w.heap.size]?=some (.cells #[.string ⟨#[]⟩,Iq 0,Iq 0,Iq 0,Iq 0] 110 (0,0))):=by show _=_;rw[heap_setCell_other _ _ _ _ (fun e=>hBR e.symm)];exact lO
   have hqe:(q:Int)=(l.length:Int):=by have:=HQ.out;omega
   clear e1 e2 hf ef;go_wp2;try simp only[Exit.inBlock,Exit.then]
   refine bodyPost_ret (cQ rfl _ _ _ w.heap.size _ rfl (run_loadVar_row _ _ _ _ _ _ _ (v_ HZ) underlying110 rfl (by kernel_rfl))) rfl ?_;rw[HE1.out,HE2.out];exact⟨rfl,iB _ _ _ _ _ _ (ME.setCell (p:=(az B 4)) Sa _)⟩
  have hq5:q<l.length:=by have:=HQ.out;omega
  have hq6:(q:Int)<(l.length:Int):=by omega
  have hqn:¬(q:Int)=(l.length:Int):=by omega
  obtain⟨T,V,iT⟩:∃T V,l[q]=(T,V):=⟨_,_,rfl⟩;have c0:wc.cell? (az b (off+q*2))=some (.string ⟨T.toArray⟩):=by have:=(HC wc ME q hq5).1;rw[iT]at this;exact this
  have FK:Hid (tx l (a+n)=T):=by show _=_;rw[HQ.out,wQ hq5,iT]
  clear iT;by_cases dI:T=[10]
  ·have hf:aU (l.drop a) W=⟨n,1,2⟩:=by rw[FG.out,if_neg ef,if_pos (by rw[FK.out,dI])]
   obtain⟨e1,e2⟩:=Fl n 1 2 (ai _) hf;have HE1:Hid (c_ l W a=⟨J,X,a,n,2⟩):=by show _=_;rw[e1,_q.out,Yh.out]
   have HE2:Hid (qV l W a=q+1):=by show _=_;rw[e2,HQ.out]
   have HZ:Hid ((wc.setCell (az B 4) (Iq 2)).heap[w.heap.size]?=some (.cells #[.string ⟨#[]⟩,Iq 0,Iq 0,Iq 0,Iq 0] 110 (0,0))):=by show _=_;rw[heap_setCell_other _ _ _ _ (fun e=>hBR e.symm)];exact lO
   have pT:(T==[10])=true:=by rw[dI];rfl
   clear e1 e2 hf ef;go_wp2;try simp only[Exit.inBlock,Exit.then]
   refine bodyPost_ret (cQ rfl _ _ _ w.heap.size _ rfl (run_loadVar_row _ _ _ _ _ _ _ (v_ HZ) underlying110 rfl (by kernel_rfl))) rfl ?_;rw[HE1.out,HE2.out];exact⟨by simp,iB _ _ _ _ _ _ (ME.setCell (p:=(az B 4)) Sa _)⟩
  have pT:(T==[10])=false:=by simpa using dI
  by_cases h0:n=0
  ·have hf:aU (l.drop a) W=⟨1,0,1⟩:=by rw[FG.out,if_neg ef,if_neg (by rw[FK.out];exact dI),if_pos h0]
   have Uc:a=q:=by have:=HQ.out;omega
   obtain⟨g1,g2⟩:=HWI h0 (by omega) (by have:=FK.out;grind);have HE1:Hid (c_ l W a=⟨[32],1,a,1,1⟩):=by show _=_;rw[HLE.out,hf];simp only;rw[if_pos g1,g2];rfl
   have HE2:Hid (qV l W a=q+1):=by show _=_;rw[HNX.out,hf];simp only;omega
   have HZ:=lO;have R1:Hid (∀w',Cw 166 #[Iq W] w' fun e w2=>e=Rw (.string ⟨#[32]⟩)/\w2=w'):=by intro w';rw[g2];exact Eo 1 w' (by omega)
   have HWE:=qH<|g2;have Do:(n:Int)=0:=by omega
   clear hf ef g1 g2 Uc;subst h0;go_wp2_with fail;refine(R1 _).mono ?_;rintro e w5 ⟨rfl,rfl⟩;clear R1;go_wp2;try simp only[Exit.inBlock,Exit.then]
   refine bodyPost_ret (cQ rfl _ _ _ w.heap.size _ rfl (run_loadVar_row _ _ _ _ _ _ _ (v_ HZ) underlying110 rfl (by kernel_rfl))) rfl ?_;rw[HE1.out,HE2.out];refine⟨?_,iB _ _ _ _ _ _ ME⟩;simp[HWE.out]
  by_cases Dd:T=[32]
  ·have hf:aU (l.drop a) W=⟨n,1,0⟩:=by rw[FG.out,if_neg ef,if_neg (by rw[FK.out];exact dI),if_neg h0,if_pos (by rw[FK.out,Dd])]
   obtain⟨e1,e2⟩:=Fl n 1 0 (ai _) hf;have HE1:Hid (c_ l W a=⟨J,X,a,n,0⟩):=by show _=_;rw[e1,_q.out,Yh.out]
   have HE2:Hid (qV l W a=q+1):=by show _=_;rw[e2,HQ.out]
   have HZ:=lO;have T0:(T==[32])=true:=by rw[Dd];rfl
   have Do:¬(n:Int)=0:=by omega
   clear e1 e2 hf ef;go_wp2;try simp only[Exit.inBlock,Exit.then]
   refine bodyPost_ret (cQ rfl _ _ _ w.heap.size _ rfl (run_loadVar_row _ _ _ _ _ _ _ (v_ HZ) underlying110 rfl (by kernel_rfl))) rfl ?_;rw[HE1.out,HE2.out];exact⟨by simp,iB _ _ _ _ _ _ ME⟩
  have T0:(T==[32])=false:=by simpa using Dd
  have Do:¬(n:Int)=0:=by omega
  have HFB:Hid (aU (l.drop a) W=if 0<=dA (l.drop a) n then⟨(dA (l.drop a) n).toNat,1,0⟩else⟨n,0,1⟩):=by show _=_;rw[FG.out,if_neg ef,if_neg (by rw[FK.out];exact dI),if_neg h0,if_neg (by rw[FK.out];exact Dd)]
  have HCw:=qH<|HC wc ME;clear ef;go_wp2;go_loop[11] (fun i=>∃m:Nat,m<=n/\i=Iq ((a:Int)+(m:Int)-1)/\Hid (dA (l.drop a) n=dA (l.drop a) m)) (fun i=>(intOf i+1-a).toNat);case atStart=>grind
  case round=>
   obtain⟨m,hm,rfl,hLB⟩:=hrel;cases m with
   |zero=>
    have hf:aU (l.drop a) W=⟨n,0,1⟩:=by rw[HFB.out,hLB.out];simp[dA]
    obtain⟨e1,e2⟩:=Fl n 0 1 (ai _) hf;have HE1:Hid (c_ l W a=⟨J,X,a,n,1⟩):=by show _=_;rw[e1,_q.out,Yh.out]
    have HE2:Hid (qV l W a=q):=by show _=_;rw[e2,HQ.out];rfl
    have HZ:Hid ((wc.setCell (az B 4) (Iq 1)).heap[w.heap.size]?=some (.cells #[.string ⟨#[]⟩,Iq 0,Iq 0,Iq 0,Iq 0] 110 (0,0))):=by show _=_;rw[heap_setCell_other _ _ _ _ (fun e=>hBR e.symm)];exact lO
    have hlt:¬(a:Int)<=(a:Int)+((0:Nat):Int)-1:=by omega
    clear e1 e2 hf;go_wp2;try simp only[Exit.inBlock,Exit.then]
    refine bodyPost_ret (cQ rfl _ _ _ w.heap.size _ rfl (run_loadVar_row _ _ _ _ _ _ _ (v_ HZ) underlying110 rfl (by kernel_rfl))) rfl ?_;rw[HE1.out,HE2.out];exact⟨rfl,iB _ _ _ _ _ _ (ME.setCell (p:=(az B 4)) Sa _)⟩
   |succ m=>
    obtain⟨p,hp⟩:∃p:Nat,a+m=p:=⟨_,rfl⟩;have hpi:(a:Int)+((m+1:Nat):Int)-1=(p:Int):=by omega
    rw[hpi];have BI:p<l.length:=by have:=HQ.out;omega
    have zqg:(p:Int)<(l.length:Int):=by omega
    have hap:(a:Int)<=(p:Int):=by omega
    have zo8:a<=p:=by omega
    have Xb:(p:Int)<=(cap:Int):=by omega
    have HP:=qH<|hp;obtain⟨T',V',YO⟩:∃T V,l[p]=(T,V):=⟨_,_,rfl⟩;have c0':wc.cell? (az b (off+p*2))=some (.string ⟨T'.toArray⟩):=by have:=(HCw p BI).1;rw[YO]at this;exact this
    have za':Hid (tx (l.drop a) m=T'):=by show _=_;rw[Bh,hp,wQ BI,YO]
    have hpm:p-a=m:=by omega
    have zqj:(p:Int)-(a:Int)=(m:Int):=by omega
    clear YO hpi;by_cases Uf:T'=[32]
    ·have hlb:dA (l.drop a) n=m:=by rw[hLB.out];simp only[dA];rw[if_pos (by rw[za'.out,Uf])]
     have hf:aU (l.drop a) W=⟨m,1,0⟩:=by rw[HFB.out,hlb];simp
     obtain⟨e1,e2⟩:=Fl m 1 0 (by omega) hf;have og:a+m<=l.length:=by omega
     have T2:=qH<|fun w' vs=>Nr w' vs m og;have W2:=qH<|fun w' vs=>Nt w' vs m og;obtain⟨J2,hJ2⟩:=ag (aJ ((l.drop a).take m));obtain⟨X2,hX2⟩:=ag (ap ((l.drop a).take m));rw[hJ2]at e1 T2;rw[hX2]at e1 W2;have HE1:=qH<|e1;have HE2:Hid (qV l W a=p+1):=by show _=_;rw[e2,hp]
     have HZ:=lO;have zck:(T'==[32])=true:=by rw[Uf];rfl
     have zi1:IntKind.i64.wrap (m:Int)=(m:Int):=IntWalk.i64_in _ ⟨by omega,by omega⟩;have zi2:IntKind.i64.wrap ((p:Int)+1)=(p:Int)+1:=IntWalk.i64_in _ ⟨by omega,by omega⟩;clear e1 e2 hf hlb hJ2 hX2 hp;go_wp2_with fail;go_region_with(first|(go_at_call 92;refine(T2 _ ME.drew).mono ?_;rintro e wq ⟨rfl,rfl⟩)|(go_at_call 91;refine(W2 _ ME.drew).mono ?_;rintro e wq ⟨rfl,rfl⟩));all_goals(go_wp2_with fail)
     all_goals refine bodyPost_ret (cQ rfl _ _ _ w.heap.size #[.string ⟨J2.toArray⟩,Iq X2,Iq a,Iq m,Iq 0] rfl (run_loadVar_row _ _ _ _ _ _ _ (v_ HZ) underlying110 rfl (by kernel_rfl))) rfl ?_;rw[HE1.out,HE2.out];exact⟨rfl,(iB _ _ _ _ _ _ ME).drew⟩
    ·have zck:(T'==[32])=false:=by simpa using Uf
     have zf2:Hid (dA (l.drop a) n=dA (l.drop a) m):=by show _=_;rw[hLB.out];simp only[dA];rw[if_neg (by rw[za'.out];exact Uf)]
     clear hp;go_wp2;go_round;case rel=>exact⟨m,by omega,by have:=HP.out;congr 1;omega,zf2⟩
     case measure=>have:=HP.out;simp[intOf];omega
theorem Lm:(prog.info? 110).map (fun i=>(i.zero,i.size,i.bytes))=some (some (.agg #[.string ⟨#[]⟩,Iq 0,Iq 0,Iq 0,Iq 0]),5,48):=by kernel_rfl
theorem vO{w w'}{B n k}{e}{v}{xs}(h:w.ownsRow B e k v n xs)(hb:Bt w w'):w'.ownsRow B e k v n xs:=by refine⟨h.1,h.2.imp id ?_⟩;rintro⟨g,cap,ik,e1,e2,e3,e4⟩;exact⟨g,cap,ik,e1,e2,(hb.block g (aM.1 e3).1).trans e3,e4⟩
def N8:Value->Nat
 |.bool true=>1
 |_=>0
theorem P9  W  (hW:1<=W):c_ [] W 0=⟨[],0,0,0,3⟩/\qV [] W 0=0:=by grind[c_,aU,dy,aJ,ap,qV]
theorem Ho(W:Int)(w:World)(cK:1<=W)(cC:W<=9223372036854775807):
 Cw 90 #[.slice none 0 0,Iq 0,Iq W] w fun e w'=>e=Rw (.tuple #[.agg #[.string ⟨#[]⟩,Iq 0,Iq 0,Iq 0,Iq 3],Iq 0])/\Bt w w':=by
 have Gh:∀w':World,oM w' (.slice none 0 0) []:=fun w'=>⟨none,0,rfl,.inl rfl⟩;have XP:Hid (∀w',Cw 93 #[.slice none 0 0,Iq W] w' fun e w2=>e=Rw (Iq 0)/\w2=w'):=fun w'=>lI [] _ W w' (Gh w') (by simp) (by simp);have T1:Hid (∀w',Cw 92 #[.slice none 0 0] w' fun e w2=>e=Rw (.string ⟨#[]⟩)/\w2=w'):=fun w'=>nW [] _ w' (Gh w') (by simp) (by simp[aJ]);have W1:Hid (∀w',Cw 91 #[.slice none 0 0] w' fun e w2=>e=Rw (Iq 0)/\w2=w'):=fun w'=>nX [] _ w' (Gh w') (by simp) (by simp);go_enter func90,ntmps90;go_wp2_with fail;refine(XP _).mono ?_;rintro e w1 ⟨rfl,rfl⟩;obtain⟨w1,eQ⟩:=ag (w.alloc (.cells #[.string ⟨#[]⟩,Iq 0,Iq 0,Iq 0,Iq 0] 110));have vr:Hid (w1.heap[w.heap.size]?=some (.cells #[.string ⟨#[]⟩,Iq 0,Iq 0,Iq 0,Iq 0] 110 (0,0))):=by show _=_;rw[<-eQ];exact heap_alloc_new w _
 have kH:Bt w w1:=by rw[<-eQ];exact(aj _ _).alloc (ai _) _
 have hs1:w.heap.size<w1.heap.size:=by rw[<-eQ,aI];omega
 rw[eQ];go_wp2_with fail;go_cut[10]from 12 to 32 (fun p wx=>∃B,p=Pq B/\w1.heap.size<=B/\wx.heap[B]?=some (.cells #[.string ⟨#[]⟩,Iq 0,Iq 0,Iq 0,Iq 0] 110 (0,0))/\Bt w1 wx);case first=>
  go_region_with(first|(go_at_call 92;refine(T1 _).mono ?_;rintro e wq ⟨rfl,rfl⟩)|(go_at_call 91;refine(W1 _).mono ?_;rintro e wq ⟨rfl,rfl⟩));all_goals(go_wp2_with fail)
  all_goals go_meet
  all_goals exact⟨_,rfl,ai _,heap_alloc_new w1 _,((aj _ _).alloc (ai _) _).drew⟩
 case rest=>
  obtain⟨B,rfl,hB,hrow,MD⟩:=hcut;have hBR:B≠w.heap.size:=by omega
  have hrR:=(MD.block _ hs1).trans vr;have q0:wc.cell? (az B 0)=some (.string ⟨#[]⟩):=by simp[World.cell?,hrow]
  have q1:wc.cell? (az B 1)=some (Iq 0):=by simp[World.cell?,hrow]
  have q2:wc.cell? (az B 2)=some (Iq 0):=by simp[World.cell?,hrow]
  have q3:wc.cell? (az B 3)=some (Iq 0):=by simp[World.cell?,hrow]
  have q4:wc.cell? (az B 4)=some (Iq 0):=by simp[World.cell?,hrow]
  have fr:∀j,wc.frozen? (az B j)=false:=fun j=>frozen_of_row _ _ _ _ _ hrow;have r0:wc.cell? (az w.heap.size 0)=some (.string ⟨#[]⟩):=by simp[World.cell?,hrR]
  have r1:wc.cell? (az w.heap.size 1)=some (Iq 0):=by simp[World.cell?,hrR]
  have r2:wc.cell? (az w.heap.size 2)=some (Iq 0):=by simp[World.cell?,hrR]
  have r3:wc.cell? (az w.heap.size 3)=some (Iq 0):=by simp[World.cell?,hrR]
  have r4:wc.cell? (az w.heap.size 4)=some (Iq 0):=by simp[World.cell?,hrR]
  have frR:∀j,wc.frozen? (az w.heap.size j)=false:=fun j=>frozen_of_row _ _ _ _ _ hrR;have ME:=kH.trans (MD.mono (by omega));have Sa:Hid (w.heap.size<=B):=by show w.heap.size<=B;omega
  have HZ:Hid ((wc.setCell (az B 4) (Iq 3)).heap[w.heap.size]?=some (.cells #[.string ⟨#[]⟩,Iq 0,Iq 0,Iq 0,Iq 0] 110 (0,0))):=by show _=_;rw[heap_setCell_other _ _ _ _ (fun e=>hBR e.symm)];exact hrR
  clear hrow hrR T1 W1;go_wp2;try simp only[Exit.inBlock,Exit.then]
  refine bodyPost_ret (cQ rfl _ _ _ w.heap.size _ rfl (run_loadVar_row _ _ _ _ _ _ _ (v_ HZ) underlying110 rfl (by kernel_rfl))) rfl ?_;refine⟨rfl,?_⟩;have h:=ME.setCell (p:=(az B 4)) Sa (Iq 3);exact((((h.setCell (p:=(az w.heap.size 0)) (ai _) _).setCell (p:=(az w.heap.size 1)) (ai _) _).setCell (p:=(az w.heap.size 2)) (ai _) _).setCell (p:=(az w.heap.size 3)) (ai _) _).setCell (p:=(az w.heap.size 4)) (ai _) _
theorem L7(l:List (List UInt8×Int))  B0   v   a   W   w  (ho:w.ownsRow B0 163 2 v l.length (eE l))
 (ha:a<=l.length) (hbd:∀c∈l,0<=c.2/\c.2<=2) (hsh:∀c∈l,c.1.length<=20) (bY:l.length<=68719476736) (cK:1<=W) (cC:W<=9223372036854775807):
 Cw 90 #[v,Iq a,Iq W] w fun e w'=>e=Rw (.tuple #[.agg #[.string ⟨(c_ l W a).T.toArray⟩,Iq (c_ l W a).W,Iq (c_ l W a).F,Iq (c_ l W a).N,Iq (c_ l W a).E],Iq (qV l W a)])/\Bt w w':=by
 have hO:=pO ho;rcases ho.2 with⟨rfl,h0⟩|⟨g,cap,ik,rfl,_,hg,kB,_⟩;·simp_all[P9,Ho]
 ·obtain⟨a',dD,e1,_,_,hh⟩:=hO;cases e1;have kV:=(aM.1 hg).1;rcases hh with hz|⟨b,off,e2,_,hb,hc⟩;·subst hz;exact vY [] g 0 cap a W w kV kB (fun j hj=>by grind) ha hbd hsh bY cK cC
  grind[vY]
theorem vZ(s:ByteArray)(W:Int)(w:World)(hs:s.size<=68719476736)(cK:-9223372036854775808<=W)(cC:W<=9223372036854775807):
 Cw 45 #[.string s,Iq W] w fun e w'=>∃v,e=Rw v/\w'.ownsRow w.heap.size 110 5 v (bC (a_ (aD s.data.toList)) W).length (iF (bC (a_ (aD s.data.toList)) W))/\Bt w w':=by
 obtain⟨i0,hi,eG,fs,gd⟩:=info_parts Lm;have lq:s.data.toList.length=s.size:=by rw[fV];rfl
 have hR:=bK s.data.toList;have hC:=cE (aD s.data.toList);rw[lq]at hR;have hbd:=dO (aD s.data.toList);have hsh:=lB (aD s.data.toList);have G:=qH<|rClusters_any s w (by omega);obtain⟨l,hl⟩:=ag (a_ (aD s.data.toList));rw[hl]at hC hbd hsh G⊢;have iM:=qH<|hbd;have HSH:=qH<|hsh;by_cases hlt:W<1
 ·have HE:Hid (bC l W=[]):=by show _=_;rw[bC,if_pos hlt]
  go_enter func45,ntmps45;go_wp2;go_ret;rw[HE.out];exact⟨_,rfl,gF _ _ _ _,aj _ _⟩
 have zhw:1<=W:=by omega
 have HE:Hid (bC l W=dE l W 0):=by show _=_;rw[bC,if_neg hlt]
 have hLl:=(fe l W 0 (aZ _)).2;go_enter func45,ntmps45;go_wp2_with fail;refine G.mono ?_;rintro e w1 ⟨v1,rfl,o1,b1⟩;have HO:=qH<|o1;have hs1:=b1.size;go_wp2;go_loopw[6,7,8] (fun o p m wr=>∃(pre:List Ln) (a:Nat),wr.ownsRow w1.heap.size 110 5 o pre.length (iF pre)/\Bt w1 wr/\p=Iq a/\a<=l.length/\((m=.bool true/\Hid (pre++dE l W a=dE l W 0))\/(m=.bool false/\Hid (pre=dE l W 0)))) (fun _ p m _=>2*(l.length+1-(intOf p).toNat)+N8 m);case atStart=>exact⟨[],0,gF _ _ _ _,aj _ _,rfl,aZ _,.inl ⟨rfl,rfl⟩⟩
 case round=>
  obtain⟨pre,a,bu,hbw,rfl,ha,hst⟩:=hrel;have f_:=hbw.size;rcases hst with⟨rfl,je⟩|⟨rfl,je⟩
  ·have BI:pre.length<l.length+1:=by have:=congrArg List.length je;have h2:=(fe l W a ha).1;rw[bm]at this;omega
   have Ng:=qH<|
    L7 l _ v1 a W wr (vO HO hbw) ha iM HSH (by omega) zhw cC;have Pf:=Az l W a ha;have _u:=qH<|nxt_lt l W a;have HST:Hid (dE l W a=if(c_ l W a).E=3 then[c_ l W a]else c_ l W a::dE l W (qV l W a)):=by
    show _=_;by_cases h:(c_ l W a).E=3;·grind[lD]
    ·grind[mT]
   have zh2:a<=qV l W a:=by unfold qV;omega
   obtain⟨⟨T,V,F,N,E⟩,hx⟩:=ag (c_ l W a);rw[hx]at Ng _u HST;simp only at Ng _u HST;obtain⟨m,hm⟩:=ag (qV l W a);rw[hm]at Ng _u HST Pf zh2;go_wp2_with fail;refine Ng.mono ?_;rintro e w2 ⟨rfl,b2⟩;have oi:=b2.size;have gq:=vO bu b2;have oy:=hbw.trans (b2.mono f_);go_wp2_with(at_builtin;refine wpList_append_own _ rfl _ _ 107 rfl w1.heap.size 110 i0 (.agg #[.string ⟨#[]⟩,Iq 0,Iq 0,Iq 0,Iq 0]) 5 48 underlying107 hi eG fs gd rfl (by decide) _ _ _ rfl ((gq.alloc _).alloc _) _ 1 1 (cP ⟨T,V,F,N,E⟩) rfl rfl ?c1 ?c2 ?c3 ?c4 ?c5 ?_);case c1=>have:=DQ (w2.alloc (.cells #[.string ⟨T.toArray⟩,Iq V,Iq F,Iq N,Iq E] 110)) ⟨T,V,F,N,E⟩ 110;rw[aI]at this;exact this
   case c2=>intro u hu;simp[cP]at hu;rcases hu with rfl|rfl|rfl|rfl|rfl<;>rfl
   case c3=>unfold maxLen;omega
   case c4=>omega
   case c5=>rw[aI,aI];omega
   intro v' w3 bD hg _;have hrow:=fun q hq=>(gq.lt q hq).1;have Pn:=oy.size;have zp4:=fun q hq=>(gq.lt q hq).2;have Gc:=((oy.alloc Pn _).alloc (by rw[aI];omega) _).grown hg (by rw[aI,aI];omega) hrow;have hx4:w3.cell? (az w2.heap.size 4)=some (Iq E):=by
    have h1:((az w2.heap.size 4):Addr).block<((w2.alloc (.cells #[.string ⟨T.toArray⟩,Iq V,Iq F,Iq N,Iq E] 110)).alloc (.cells (cP ⟨T,V,F,N,E⟩).toArray 110)).heap.size:=by rw[aI,aI];show w2.heap.size<_;omega
    have h2:=bU (a:=(az w2.heap.size 4)) (hg.block w2.heap.size h1 (fun e=>by grind));refine h2.trans ?_;have h3:=bU (a:=(az w2.heap.size 4)) (((aj _ (w2.alloc (.cells #[.string ⟨T.toArray⟩,Iq V,Iq F,Iq N,Iq E] 110))).alloc (ai _) (.cells (cP ⟨T,V,F,N,E⟩).toArray 110)).block w2.heap.size (by simp_all));refine h3.trans ?_;simp
   by_cases h3:E=3
   ·have HF:Hid (pre++[⟨T,V,F,N,E⟩]=dE l W 0):=by show _=_;rw[<-je.out,HST.out,if_pos h3]
    subst h3;go_wp2;go_roundw;case rel=>grind[mS]
    case measure=>simp[intOf,N8];omega
   ·have HF:Hid ((pre++[⟨T,V,F,N,E⟩])++dE l W m=dE l W 0):=by show _=_;rw[<-je.out,HST.out,if_neg h3];simp
    have mM:=_u h3;have qR:(E !=3)=true:=by simpa using h3
    go_wp2;go_roundw;case rel=>grind[mS]
    case measure=>simp[intOf,N8];omega
  ·go_wp2;go_ret;rw[HE.out,<-je.out];exact⟨_,rfl,jr bu hs1,b1.trans (hbw.mono hs1)⟩
theorem KA:Lib.encodeRune 8230=[226,128,166]:=by decide+kernel
theorem QJ(s:ByteArray)(W:Int)(w:World)(hs:s.size<=1099511627776)(cK:-9223372036854775808<=W)(cC:W<=9223372036854775807):
 Calls Tryz.prog 47 #[.string s,.int .i64 W] w fun e w'=>e=Rw (.string ⟨(mc (one (a_ (aD s.data.toList))) W).toArray⟩)/\Bt w w':=by
 have lq:s.data.toList.length=s.size:=by rw[fV];rfl
 have hR:=bK s.data.toList;have hC:=cE (aD s.data.toList);rw[lq]at hR;by_cases hlt:W<1
 ·have HE:Hid (mc (one (a_ (aD s.data.toList))) W=[]):=by show _=_;rw[mc,if_pos hlt]
  go_enter Tryz.func47,Tryz.ntmps47;go_wp2;go_ret;rw[HE.out];exact⟨rfl,aj _ _⟩
 have Uz:=o_ (a_ (aD s.data.toList));have hbd:=vK (dO (aD s.data.toList));have dI:=Ji (a_ (aD s.data.toList));have hjb:=kW _ (yO (lB (aD s.data.toList)));have G:Hid (Calls Tryz.prog 89 #[.string s] w fun e w'=>∃v,e=Rw v/\zo w.heap.size w' v (a_ (aD s.data.toList))/\Bt w w'):=by refine(rClusters_any s w hs).mono ?_;rintro e w1 ⟨v,rfl,o,b⟩;exact⟨v,rfl,pO o,b⟩
 obtain⟨l,hl⟩:∃l,a_ (aD s.data.toList)=l:=⟨_,rfl⟩;rw[hl]at hC Uz hbd dI hjb G⊢;have HOA:Hid (∀(j:Nat) (hj:j<l.length) (rq:j<(one l).length),(one l)[j]=if(l[j]).1=[10]then([32],1)else l[j]):=fun j hj rq=>Qm l j hj rq;obtain⟨m,hm⟩:∃m,one l=m:=⟨_,rfl⟩;rw[hm]at Uz hbd dI hjb⊢;have xg:=ka m (W-1);have BG:m.length<=1099511627776:=by omega
 have HC:Hid (mc m W=if ap m<=W then aJ m else aJ (m.take (dy m (W-1)))++[226,128,166]):=by show _=_;rw[mc,if_neg hlt]
 have iM:Hid (∀c∈m,0<=c.2/\c.2<=2):=hbd;have hwm:=cJ m hbd m.length;rw[l5]at hwm;have XU:Hid (∀k,(aJ (m.take k)).length<=(aJ m).length):=fun k=>fK m k;have zge:Hid (∀(j:Nat) (hj:j<l.length) (rq:j<m.length),m[j]=if(l[j]).1=[10]then([32],1)else l[j]):=by subst hm;exact HOA.out
 have HOL:Hid (m.length=l.length):=Uz;have zqd:m.length<=l.length:=by omega
 have zqe:l.length<=m.length:=by omega
 clear hm hl lq hbd dI HOA Uz;go_enter Tryz.func47,Tryz.ntmps47;go_wp2_with fail;refine G.out.mono ?_;rintro e w1 ⟨v1,rfl,⟨a,cap,rfl,kB,oh,hh⟩,b1⟩;clear G;have hs1:=b1.size;have HO:Hid (l=[]\/∃b off,a=some (az b off)/\w.heap.size<=b/\b<w1.heap.size/\∀j (hj:j<l.length),w1.cell? (az b (off+j*2))=some (.string ⟨(l[j]).1.toArray⟩)/\w1.cell? (az b (off+j*2+1))=some (.int .i64 (l[j]).2)/\w1.frozen? (az b (off+j*2))=false/\w1.frozen? (az b (off+j*2+1))=false):=hh;clear hh;go_wp2;go_loopw[6] (fun i wr=>∃k:Nat,k<=l.length/\i=.int .i64 k/\Bt w wr/\Hid (l=[]\/∃b off,a=some (az b off)/\w.heap.size<=b/\b<wr.heap.size/\∀j (hj:j<l.length) (rq:j<m.length),(j<k->wr.cell? (az b (off+j*2))=some (.string ⟨(m[j]).1.toArray⟩)/\wr.cell? (az b (off+j*2+1))=some (.int .i64 (m[j]).2))/\(k<=j->wr.cell? (az b (off+j*2))=some (.string ⟨(l[j]).1.toArray⟩)/\wr.cell? (az b (off+j*2+1))=some (.int .i64 (l[j]).2))/\wr.frozen? (az b (off+j*2))=false/\wr.frozen? (az b (off+j*2+1))=false)) (fun i _=>l.length-(intOf i).toNat);case atStart=>refine⟨0,aZ _,rfl,b1,HO.out.imp id ?_⟩;grind
 case round=>
  obtain⟨k,hk,rfl,hbw,HR⟩:=hrel;have f_:=hbw.size;by_cases mM:k<l.length
  ·have aN:(k:Int)<(l.length:Int):=by omega
   have bZ:l≠[]:=fun e=>by grind
   obtain⟨b,off,rfl,hB,Sw,hrow⟩:=HR.out.resolve_left bZ;have HR2:Hid (∀j (hj:j<l.length) (rq:j<m.length),(j<k->wr.cell? (az b (off+j*2))=some (.string ⟨(m[j]).1.toArray⟩)/\wr.cell? (az b (off+j*2+1))=some (.int .i64 (m[j]).2))/\(k<=j->wr.cell? (az b (off+j*2))=some (.string ⟨(l[j]).1.toArray⟩)/\wr.cell? (az b (off+j*2+1))=some (.int .i64 (l[j]).2))/\wr.frozen? (az b (off+j*2))=false/\wr.frozen? (az b (off+j*2+1))=false):=hrow;obtain⟨T,V,iT⟩:∃T V,l[k]=(T,V):=⟨_,_,rfl⟩;have ON:=HR2.out k mM (by omega);have c0:wr.cell? (az b (off+k*2))=some (.string ⟨T.toArray⟩):=by have:=(ON.2.1 (ai _)).1;rw[iT]at this;exact this
   have c1:wr.cell? (az b (off+k*2+1))=some (.int .i64 V):=by have:=(ON.2.1 (ai _)).2;rw[iT]at this;exact this
   have f0:=ON.2.2.1;have f1:=ON.2.2.2;have HOK:Hid (∀rq:k<m.length,m[k]=if T=[10]then([32],1)else(T,V)):=fun rq=>by rw[zge.out k mM rq,iT]
   clear ON iT HR hrow HO;by_cases dI:T=[10]
   ·have pT:(T==[10])=true:=by rw[dI];rfl
    go_wp2;go_roundw;case rel=>
     refine⟨k+1,by omega,by go_num,(hbw.setCell (p:=(az b (off+k*2))) hB _).setCell (p:=(az b (off+k*2+1))) hB _,.inr ⟨b,off,rfl,hB,by simpa using Sw,fun j hj rq=>?_⟩⟩;have hR:=HR2.out j hj rq;simp only[ij];refine⟨fun h=>?_,fun h=>?_,hR.2.2⟩
     ·by_cases e:j=k
      ·subst e;rw[HOK.out rq,if_pos dI];refine⟨?_,?_⟩;·rw[iS _ _ _ _ _ (by omega)];exact oJ _ _ _ (by rw[c0];rfl)
       ·exact oJ _ _ _ (by grind[iS])
      grind[iS]
     grind[iS]
    case measure=>simp[intOf];omega
   ·have pT:(T==[10])=false:=by simpa using dI
    go_wp2;go_roundw;case rel=>
     refine⟨k+1,by omega,by go_num,hbw,.inr ⟨b,off,rfl,hB,Sw,fun j hj rq=>?_⟩⟩;have hR:=HR2.out j hj rq;refine⟨fun h=>?_,fun h=>hR.2.1 (by omega),hR.2.2⟩;by_cases e:j=k;·subst e;rw[HOK.out rq,if_neg dI];grind
     grind
    case measure=>simp[intOf];omega
  ·have aN:¬(k:Int)<(l.length:Int):=by omega
   have HCl:Hid (oM wr (.slice a m.length cap) m):=by refine⟨a,cap,rfl,HR.out.imp (fun e=>ln.1 (by grind)) ?_⟩;rintro⟨b,off,rfl,hB,hb,hc⟩;exact⟨b,off,rfl,hb,fun j hj=>(hc j (by omega) hj).1 (by omega)⟩
   have Nt:Hid (∀w,oM w (.slice a m.length cap) m->Calls Tryz.prog 91 #[.slice a l.length cap] w fun e w'=>e=Rw (.int .i64 (ap m))/\w'=w):=by intro w h;rw[<-HOL.out];exact nX m _ w h iM.out BG
   have Nr:Hid (∀w,oM w (.slice a m.length cap) m->Calls Tryz.prog 92 #[.slice a l.length cap] w fun e w'=>e=Rw (.string ⟨(aJ m).toArray⟩)/\w'=w):=by intro w h;rw[<-HOL.out];exact nW m _ w h BG (by omega)
   have XP:Hid (∀w,oM w (.slice a m.length cap) m->Calls Tryz.prog 93 #[.slice a l.length cap,.int .i64 (W-1)] w fun e w'=>e=Rw (.int .i64 (dy m (W-1)))/\w'=w):=by intro w h;rw[<-HOL.out];exact lI m _ (W-1) w h iM.out BG
   clear HR HO;go_wp2_with fail;refine(Nt.out _ HCl.out).mono ?_;rintro e w2 ⟨rfl,rfl⟩;obtain⟨X,hX⟩:∃X,ap m=X:=⟨_,rfl⟩;rw[hX]at hwm HC⊢;clear hX Nt;by_cases ef:X<=W
   ·have HE:Hid (mc m W=aJ m):=by show _=_;rw[HC.out,if_pos ef]
    go_wp2_with fail;refine(Nr.out _ HCl.out).mono ?_;rintro e w3 ⟨rfl,rfl⟩;go_wp2;go_ret;rw[HE.out];simp_all
   ·have HE:Hid (mc m W=aJ (m.take (dy m (W-1)))++[226,128,166]):=by show _=_;rw[HC.out,if_neg ef]
    have bZ:m≠[]:=by intro e;have:X<=2*(m.length:Int):=hwm.2;rw[e]at this;simp at this;omega
    go_wp2_with fail;refine(XP.out _ HCl.out).mono ?_;rintro e w3 ⟨rfl,rfl⟩;obtain⟨g,hg⟩:∃g,dy m (W-1)=g:=⟨_,rfl⟩;rw[hg]at HE xg⊢;obtain⟨b,off,rfl,hc⟩:∃b off,a=some (az b off)/\oM w3 (.slice a g cap) (m.take g):=by obtain⟨a',dD,e1,hh⟩:=HCl.out;grind[uP]
    have HT:Hid (oM w3 (.slice (some (az b off)) g cap) (m.take g)):=hc;have hjg:=XU.out g;have Zc:(m.take g).length<=1099511627776:=by rw[cX];omega
    clear hg HCl hc Nr XP;have hgc:(g:Int)<=(cap:Int):=by omega
    go_wp2_with fail;refine(nW (m.take g) _ w3 HT.out Zc (by omega)).mono ?_;rintro e w4 ⟨rfl,rfl⟩;obtain⟨Y,hY⟩:∃Y,aJ (m.take g)=Y:=⟨_,rfl⟩;rw[hY]at HE hjg⊢;clear hY HT;go_wp2_with fail;refine(nf 8230 w4).mono ?_;rw[KA];rintro e w5 ⟨rfl,b5⟩;go_wp2;go_ret;rw[HE.out,<-Bc];exact⟨rfl,hbw.trans (b5.mono f_)⟩
