import Derived.Test.YtaanagpadfcmlaaGreatDoorQ28
import Derived.Test.YtaanagpadfcmlaaGreatDoorQ27
set_option linter.all false
set_option maxRecDepth 100000
set_option maxHeartbeats 16000000
namespace Go.Proofs.YtaanagpadfcmlaaGreatDoor
open Go.RowKit Go.Proofs.Tryz
theorem node_all b B s(c:s.size<=1073741824):∀f,CZ b B s f
 |0=>λup a st g w h d hd e=>by have:=h.il;omega
 |f+1=>Fz b B s f (node_all b B s c f) c
def tn(w w':World)(e:Ending)(r:Except (Nat×Nat) (List Nd)):Prop:=Bt w w'/\match r with
 |.error (c,p)=>e=Rw (.tuple #[.slice none 0 0,Iq (c:Int),Iq (p:Int)])
 |.ok L=>∃nv AV KV,e=Rw (.tuple #[nv,Iq 0,Iq 0])/\RD w' (w.heap.size+1) nv L AV KV
theorem rN(s:ByteArray)(w:World):
 Cw 34 #[.string s] w λe w'=>tn w w' e (fu s):=by
 by_cases K:4000<s.size
 ·have B:Hid (fu s=.error (1,0)):=by show _=_;unfold fu;rw[if_pos K]
  have M:(4000:Int)<(s.size:Int):=dg;go_enter func34,ntmps34;go_wp2;refine bodyPost_ret (v:=.tuple #[.slice none 0 0,Iq 1,Iq 0]) (by simp[results,Tryz.results34,go_sem]) rfl ?_;show tn _ _ _ _;rw[B.out];exact⟨af _ _,rfl⟩
 ·have M:¬(4000:Int)<(s.size:Int):=dg
  have N:s.size<=1073741824:=dg;obtain⟨g,q⟩:=ad w.heap.size;obtain⟨o,p⟩:=ad (w.alloc (.cells #[.string s,Iq 0,.slice none 0 0,Iq (-1),Iq 0,Iq (-1),Iq 0] 150));have c:o.heap[g]?=some (.cells #[.string s,Iq 0,.slice none 0 0,Iq (-1),Iq 0,Iq (-1),Iq 0] 150 (0,0)):=by rw[<-p,<-q];exact heap_alloc_new _ _
  have P:o.heap.size=g+1:=by rw[<-p,au,q]
  have X:RS o g s 0 (.slice none 0 0) (-1) 0 (-1) 0:=⟨dg,by simp[World.cell?,c],by simp[World.cell?,c],by simp[World.cell?,c],by simp[World.cell?,c],by simp[World.cell?,c],by simp[World.cell?,c],by simp[World.cell?,c],λj=>frozen_of_row _ _ _ _ _ c⟩;have T:RW o o g (g+1) s 0 [] none (-1) ((0:Nat):Int):=⟨aR _,λ_=>ae _,λj=>by grind[aa,Vx],dg,dg,Fr.refl _ _ _,.slice none 0 0,λ_=>0,λ_=>.slice none 0 0,0,-1,X,λ_=>by show(-1:Int)<0;decide,RD.nothing _ _ _ _⟩;have z:=qH<|node_all g (g+1) s N (s.size+1) (-1) 0 ⟨0,[],none⟩ o o T (.inl rfl) (ae _) dg;have n:Hid (∀w',Fr (g+1) g o w'->Bt w w'):=λw' f=>by
   have Z:Bt w o:=by rw[<-p];exact(af _ _).alloc (ae _) _
   exact Z.trans ⟨f.os,f.tape,f.output,f.size,λk hk=>f.block k dg dg⟩
  have B:Hid (fu s=match cD s (s.size+1) (-1) 0 ⟨0,[],none⟩with
   |.error b=>.error (2,b)
   |.ok st=>if sk s st.i<s.size then .error (2,sk s st.i)else match st.er with
    |some f=>.error f
    |none=>.ok st.L):=by show _=_;unfold fu;rw[if_neg K];rfl
  have I:=qH<|q;clear c P X T K;go_enter func34,ntmps34;go_wp2_with fail;clear p q;cases hp:cD s (s.size+1) (-1) 0 ⟨0,[],none⟩with
  |error b=>
   rw[hp]at z;have a:Hid (fu s=.error (2,b)):=by show _=_;rw[B.out,hp]
   clear hp B;refine ag z ?_;rintro e w1 ⟨rfl,i1,L1,g1,h1⟩;have E:=qH<|rw_skip h1 N;clear h1 z;go_wp2_with fail;refine ag E ?_;rintro e D ⟨rfl,r⟩;have A:=qH<|r;have c3:=r.c3;have zb:decide ((b:Int)<0)=false:=decide_eq_false dg;have x:decide ((0:Int)<=(b:Int))=true:=decide_eq_true dg;clear r E;go_wp2_with fail;go_quiet(fail);go_wp2;refine bodyPost_ret (v:=.tuple #[.slice none 0 0,Iq 2,Iq (b:Int)]) (by simp[results,Tryz.results34,go_sem]) rfl ?_;show tn _ _ _ _;rw[a.out];exact⟨n _ (A.fr.trans (Fr.drewN _ _ _ _)),rfl⟩
  |ok st=>
   rw[hp]at z;have a:Hid (fu s=if sk s st.i<s.size then .error (2,sk s st.i)else match st.er with
    |some f=>.error f
    |none=>.ok st.L):=by show _=_;rw[B.out,hp]
   clear hp B;refine ag z ?_;rintro e w1 ⟨rfl,h1,p1,l1⟩;have E:=qH<|rw_skip h1 N;clear h1 z p1 l1;go_wp2_with fail;refine ag E ?_;rintro e D ⟨rfl,r⟩;obtain⟨C,R,U,G,at_,Q,f2,d2⟩:=r.mem;have A:=qH<|r;have c1:=Q.c1;have c3:=Q.c3;have O:=r.il;obtain⟨d,F⟩:=ad (sk s st.i);rw[F]at c1 O a f2;have u:Hid (RS D g s d C (-1) G at_ ((0:Nat):Int)/\FL G at_ st.er d/\RD D (g+1) C st.L R U):=⟨rd,f2 dg,d2⟩;clear r E Q f2 d2 F;by_cases y:d<s.size
   ·have m:Hid (fu s=.error (2,d)):=by show _=_;rw[a.out,if_pos y]
    have t:(d:Int)<(s.size:Int):=dg;have S:Hid (Cw 69 #[Pq g,Iq (d:Int)] D λe w'=>e=Rw (.tuple #[])/\RS w' g s d C (d:Int) G at_ ((0:Nat):Int)/\D.grownBy w' (some g)):=by
     have:=fail_any g s d C (-1) G at_ ((0:Nat):Int) (d:Int) D u.1;have e:e_ (-1) (d:Int)=d:=by unfold e_;rw[if_pos dg]
     rw[e]at this;exact this
    clear a;go_wp2_with fail;refine ag S ?_;rintro e w3 ⟨rfl,Y,W⟩;have H:=qH<|A.fr.trans (Fr.grown W A.le);have k3:=Y.c3;have x:decide ((0:Int)<=(d:Int))=true:=decide_eq_true dg;clear Y W S c1 c3;go_wp2_with fail;go_quiet(fail);go_wp2;refine bodyPost_ret (v:=.tuple #[.slice none 0 0,Iq 2,Iq (d:Int)]) (by simp[results,Tryz.results34,go_sem]) rfl ?_;show tn _ _ _ _;rw[m.out];exact⟨n _ (H.trans (Fr.drewN _ _ _ _)),rfl⟩
   ·have t:¬(d:Int)<(s.size:Int):=dg
    have zc:=decide_eq_false t;have c5:=u.1.c5;have c4:=u.1.c4;have c2:=u.1.c2;cases h:st.er with
    |some fp=>
     obtain⟨V,J⟩:=fp;have m:Hid (fu s=.error (V,J)):=by show _=_;rw[a.out,if_neg y,h]
     have l:=u.2.1;rw[h]at l;obtain⟨rfl,rfl,hq⟩:=l;have x:decide ((0:Int)<=(J:Int))=true:=decide_eq_true dg;clear a h hq;go_wp2_with fail;go_quiet(fail);go_wp2;refine bodyPost_ret (v:=.tuple #[.slice none 0 0,Iq (V:Int),Iq (J:Int)]) (by simp[results,Tryz.results34,go_sem]) rfl ?_;show tn _ _ _ _;rw[m.out];exact⟨n _ (A.fr.trans (Fr.drewN _ _ _ _)),rfl⟩
    |none=>
     have m:Hid (fu s=.ok st.L):=by show _=_;rw[a.out,if_neg y,h]
     have l:=u.2.1;rw[h]at l;have za:at_<0:=l;have x:decide ((0:Int)<=at_)=false:=decide_eq_false dg;clear a h l;go_wp2;refine bodyPost_ret (v:=.tuple #[C,Iq 0,Iq 0]) (by simp[results,Tryz.results34,go_sem]) rfl ?_;show tn _ _ _ _;rw[m.out];exact⟨n _ A.fr,C,R,U,rfl,by rw[I.out];exact u.2.2⟩
