import Derived.Test.YtiaimhjebnobnaaGreatDoorQ27
import Derived.Test.YtiaimhjebnobnaaGreatDoorQ26
set_option linter.all false
set_option maxRecDepth 100000
set_option maxHeartbeats 16000000
namespace Go.Proofs.YtiaimhjebnobnaaGreatDoor
open Go.RowKit Go.Proofs.Tryz
theorem node_all  rb B   s  (hs:s.size<=1073741824):∀f,Il rb B s f
 |0=>fun up af st w0 w h hup hd hf=>by have:=h.il;omega
 |f+1=>LF rb B s f (node_all rb B s hs f) hs
def uy(w w':World)(e:Ending)(r:Except (Nat×Nat) (List Nd)):Prop:=Bt w w'/\match r with
 |.error (c,p)=>e=Rw (.tuple #[.slice none 0 0,Iq (c:Int),Iq (p:Int)])
 |.ok L=>∃nv AV KV,e=Rw (.tuple #[nv,Iq 0,Iq 0])/\RD w' (w.heap.size+1) nv L AV KV
theorem wm(s:ByteArray)(w:World):
 Cw 12 #[.string s] w fun e w'=>uy w w' e (gC s):=by
 by_cases hl:4000<s.size
 ·have HP:Hid (gC s=.error (1,0)):=by show _=_;unfold gC;rw[if_pos hl]
  have SJ:(4000:Int)<(s.size:Int):=by omega
  go_enter func12,ntmps12;go_wp2;refine bodyPost_ret (v:=.tuple #[.slice none 0 0,Iq 1,Iq 0]) (by simp[results,Tryz.results12,go_sem]) rfl ?_;show uy _ _ _ _;rw[HP.out];exact⟨aj _ _,rfl⟩
 ·have SJ:¬(4000:Int)<(s.size:Int):=by omega
  have hs:s.size<=1073741824:=by omega
  obtain⟨rb,hrb⟩:=ag w.heap.size;obtain⟨W0,cK⟩:=ag (w.alloc (.cells #[.string s,Iq 0,.slice none 0 0,Iq (-1),Iq 0,Iq (-1),Iq 0] 85));have hb0:W0.heap[rb]?=some (.cells #[.string s,Iq 0,.slice none 0 0,Iq (-1),Iq 0,Iq (-1),Iq 0] 85 (0,0)):=by rw[<-cK,<-hrb];exact heap_alloc_new _ _
  have f_:W0.heap.size=rb+1:=by rw[<-cK,aI,hrb]
  have r0:RS W0 rb s 0 (.slice none 0 0) (-1) 0 (-1) 0:=⟨by omega,by simp[World.cell?,hb0],by simp[World.cell?,hb0],by simp[World.cell?,hb0],by simp[World.cell?,hb0],by simp[World.cell?,hb0],by simp[World.cell?,hb0],by simp[World.cell?,hb0],fun j=>frozen_of_row _ _ _ _ _ hb0⟩;have H0:RW W0 W0 rb (rb+1) s 0 [] none (-1) ((0:Nat):Int):=⟨aZ _,fun _=>ai _,fun j=>by grind[ae,nd0],by omega,by omega,Fr.refl _ _ _,.slice none 0 0,fun _=>0,fun _=>.slice none 0 0,0,-1,r0,fun _=>by show(-1:Int)<0;decide,RD.nothing _ _ _ _⟩;have CN:=qH<|node_all rb (rb+1) s hs (s.size+1) (-1) 0 ⟨0,[],none⟩ W0 W0 H0 (.inl rfl) (ai _) (by omega);have HBW:Hid (∀w',Fr (rb+1) rb W0 w'->Bt w w'):=fun w' f=>by
   have b0:Bt w W0:=by rw[<-cK];exact(aj _ _).alloc (ai _) _
   exact b0.trans ⟨f.os,f.tape,f.output,f.size,fun k hk=>f.block k (by omega) (by omega)⟩
  have HP:Hid (gC s=match de s (s.size+1) (-1) 0 ⟨0,[],none⟩with
   |.error b=>.error (2,b)
   |.ok st=>if sk s st.i<s.size then .error (2,sk s st.i)else match st.er with
    |some f=>.error f
    |none=>.ok st.L):=by show _=_;unfold gC;rw[if_neg hl];rfl
  have HRB:=qH<|hrb;clear hb0 f_ r0 H0 hl;go_enter func12,ntmps12;go_wp2_with fail;clear cK hrb;cases hp:de s (s.size+1) (-1) 0 ⟨0,[],none⟩with
  |error b=>
   rw[hp]at CN;have zz:Hid (gC s=.error (2,b)):=by show _=_;rw[HP.out,hp]
   clear hp HP;refine ao CN ?_;rintro e w1 ⟨rfl,i1,L1,g1,h1⟩;have SK:=qH<|rw_skip h1 hs;clear h1 CN;go_wp2_with fail;refine ao SK ?_;rintro e w2 ⟨rfl,h2⟩;have H2:=qH<|h2;have c3:=h2.c3;have hbf:decide ((b:Int)<0)=false:=decide_eq_false (by omega);have hbg:decide ((0:Int)<=(b:Int))=true:=decide_eq_true (by omega);clear h2 SK;go_wp2_with fail;go_quiet(fail);go_wp2;refine bodyPost_ret (v:=.tuple #[.slice none 0 0,Iq 2,Iq (b:Int)]) (by simp[results,Tryz.results12,go_sem]) rfl ?_;show uy _ _ _ _;rw[zz.out];exact⟨HBW _ (H2.fr.trans (Fr.drewN _ _ _ _)),rfl⟩
  |ok st=>
   rw[hp]at CN;have zz:Hid (gC s=if sk s st.i<s.size then .error (2,sk s st.i)else match st.er with
    |some f=>.error f
    |none=>.ok st.L):=by show _=_;rw[HP.out,hp]
   clear hp HP;refine ao CN ?_;rintro e w1 ⟨rfl,h1,p1,l1⟩;have SK:=qH<|rw_skip h1 hs;clear h1 CN p1 l1;go_wp2_with fail;refine ao SK ?_;rintro e w2 ⟨rfl,h2⟩;obtain⟨nv,AV,KV,er,at_,r2,f2,d2⟩:=h2.mem;have H2:=qH<|h2;have c1:=r2.c1;have c3:=r2.c3;have lq:=h2.il;obtain⟨i2,pW⟩:=ag (sk s st.i);rw[pW]at c1 lq zz f2;have R2:Hid (RS w2 rb s i2 nv (-1) er at_ ((0:Nat):Int)/\FL er at_ st.er i2/\RD w2 (rb+1) nv st.L AV KV):=⟨by grind,f2 (by omega),d2⟩;clear h2 SK r2 f2 d2 pW;by_cases hlt:i2<s.size
   ·have HPF:Hid (gC s=.error (2,i2)):=by show _=_;rw[zz.out,if_pos hlt]
    have aN:(i2:Int)<(s.size:Int):=by omega
    have FA:Hid (Cw 27 #[Pq rb,Iq (i2:Int)] w2 fun e w'=>e=Rw (.tuple #[])/\RS w' rb s i2 nv (i2:Int) er at_ ((0:Nat):Int)/\w2.grownBy w' (some rb)):=by
     have:=fail_any rb s i2 nv (-1) er at_ ((0:Nat):Int) (i2:Int) w2 R2.1;have e:gH (-1) (i2:Int)=i2:=by unfold gH;rw[if_pos (by omega)]
     rw[e]at this;exact this
    clear zz;go_wp2_with fail;refine ao FA ?_;rintro e w3 ⟨rfl,r3,g3⟩;have HF3:=qH<|H2.fr.trans (Fr.grown g3 H2.le);have k3:=r3.c3;have hbg:decide ((0:Int)<=(i2:Int))=true:=decide_eq_true (by omega);clear r3 g3 FA c1 c3;go_wp2_with fail;go_quiet(fail);go_wp2;refine bodyPost_ret (v:=.tuple #[.slice none 0 0,Iq 2,Iq (i2:Int)]) (by simp[results,Tryz.results12,go_sem]) rfl ?_;show uy _ _ _ _;rw[HPF.out];exact⟨HBW _ (HF3.trans (Fr.drewN _ _ _ _)),rfl⟩
   ·have aN:¬(i2:Int)<(s.size:Int):=by omega
    have hlf:=decide_eq_false aN;have c5:=R2.1.c5;have c4:=R2.1.c4;have c2:=R2.1.c2;cases Ac:st.er with
    |some fp=>
     obtain⟨fc,fq⟩:=fp;have HPF:Hid (gC s=.error (fc,fq)):=by show _=_;rw[zz.out,if_neg hlt,Ac]
     have hfl:=R2.2.1;rw[Ac]at hfl;obtain⟨rfl,rfl,hq⟩:=hfl;have hbg:decide ((0:Int)<=(fq:Int))=true:=decide_eq_true (by omega);clear zz Ac hq;go_wp2_with fail;go_quiet(fail);go_wp2;refine bodyPost_ret (v:=.tuple #[.slice none 0 0,Iq (fc:Int),Iq (fq:Int)]) (by simp[results,Tryz.results12,go_sem]) rfl ?_;show uy _ _ _ _;rw[HPF.out];exact⟨HBW _ (H2.fr.trans (Fr.drewN _ _ _ _)),rfl⟩
    |none=>
     have HPF:Hid (gC s=.ok st.L):=by show _=_;rw[zz.out,if_neg hlt,Ac]
     have hfl:=R2.2.1;rw[Ac]at hfl;have b9:at_<0:=hfl;have hbg:decide ((0:Int)<=at_)=false:=decide_eq_false (by omega);clear zz Ac hfl;go_wp2;refine bodyPost_ret (v:=.tuple #[nv,Iq 0,Iq 0]) (by simp[results,Tryz.results12,go_sem]) rfl ?_;show uy _ _ _ _;rw[HPF.out];exact⟨HBW _ H2.fr,nv,AV,KV,rfl,by rw[HRB.out];exact R2.2.2⟩
