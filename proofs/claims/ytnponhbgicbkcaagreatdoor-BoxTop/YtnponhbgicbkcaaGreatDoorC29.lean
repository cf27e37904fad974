import Derived.Test.YtnponhbgicbkcaaGreatDoorC15
import Derived.Test.YtnponhbgicbkcaaGreatDoorC09
import Derived.Test.YtnponhbgicbkcaaGreatDoorC28
import Derived.Test.YtnponhbgicbkcaaGreatDoorC27
set_option linter.unusedVariables false
set_option maxRecDepth 100000
set_option maxHeartbeats 16000000
namespace Go.Proofs.YtnponhbgicbkcaaGreatDoor
section
open Go.RowKit
def avV(ab:Nat):Value:=.slice (some ⟨ab,0,none⟩) 12 12
theorem zul(d:Nd)(a k:Value):(z2k d a k).length=5:=rfl
structure RD(W:World)(B:Nat)(nv:Value)(L:List Nd)(AV:Nat->Nat)(KV:Nat->Value):Prop where
 nr:NR W B 77 5 nv L.length (fun j=>z2k (nth L j) (avV (AV j)) (KV j)) KV (fun j=>(nth L j).kids)
 len:∀j,j<L.length->(nth L j).attr.length=12
 att:∀j,j<L.length->B≤AV j∧z2z W (AV j) (fun k=>.int .i64 ((nth L j).attr[k]?.getD 0))
 sepK:∀i j,i<L.length->j<L.length->(KV j).ownBlock≠some (AV i)
 sepN:∀i,i<L.length->nv.ownBlock≠some (AV i)
section
variable {W W' : World} {B : Nat} {nv : Value} {L : List Nd} {AV : Nat -> Nat} {KV : Nat -> Value}
theorem RD.nothing(W:World)(B:Nat)(AV:Nat->Nat)(KV:Nat->Value):RD W B (.slice none 0 0) [] AV KV :=
 ⟨NR.nothing _ _ _ _ _ _ _,fun j h=>absurd h (by show ¬j<0;omega),fun j h=>absurd h (by show ¬j<0;omega),fun i j h=>absurd h (by show ¬i<0;omega),fun i h=>absurd h (by show ¬i<0;omega)⟩
theorem RD.up(h:RD W B nv L AV KV)(hu:Up B W W'):RD W' B nv L AV KV :=
 ⟨h.nr.up hu,h.len,fun j hj=>⟨(h.att j hj).1,(h.att j hj).2.keep hu.size (hu.block _ (h.att j hj).1 (h.att j hj).2.1)⟩,h.sepK,h.sepN⟩
theorem RD.ids(h:RD W B nv L AV KV){rb:Nat}(hr:rb<B):zr9 W rb nv L:=by
 by_cases hL:L=[]
 ·subst hL
  obtain⟨xs,hx⟩:=h.nr.row
  rcases z2q hx with ⟨rfl,_⟩|⟨g,cap,rfl,h1,h2,h3,h4⟩
  ·exact .inl ⟨rfl,rfl⟩
  ·exact .inr ⟨g,cap,AV,rfl,h2,by omega,fun k hk=>absurd hk (by show ¬k<0;omega)⟩
 ·have hn:0<L.length:=List.length_pos_iff.2 hL
  obtain⟨g,cap,rfl,h1,h2,h3,h4⟩:=h.nr.form hn
  refine .inr ⟨g,cap,AV,rfl,h2,by omega,fun k hk=>⟨h.nr.cell hk rfl,(h.att k hk).2.1,by have:=(h.att k hk).1;omega,?_⟩⟩
  have:=((h.att k hk).2.2 0 (by omega)).1
  rw[this]
  have e:(L.map (fun d=>d.attr[0]?.getD 0))[k]?.getD 0=(nth L k).attr[0]?.getD 0:=by
   unfold nth
   rw[List.getElem?_map,List.getElem?_eq_getElem hk]
   rfl
  rw[e]
theorem RD.app{nv':Value}{xs:List Value}{d:Nd}{ab:Nat}(h:RD W B nv L AV KV)(hx:W.ownsRow B 77 5 nv L.length xs)(hx':W'.ownsRow B 77 5 nv' (L.length+1) (xs++z2k d (avV ab) (.slice none 0 0)))(hg:W.grownBy W' nv.ownBlock)(hat:nv'.ownBlock=nv.ownBlock∨nv'.ownBlock=some W.heap.size)
 (hl:d.attr.length=12) (hk:d.kids=[]) (hB:B≤ab) (ha:z2z W ab (fun k=>.int .i64 (d.attr[k]?.getD 0))) (haK:∀j,j<L.length->(KV j).ownBlock≠some ab) (haN:nv.ownBlock≠some ab) :
 RD W' B nv' (L++[d]) (fun j=>if j=L.length then ab else AV j) (fun j=>if j=L.length then .slice none 0 0 else KV j):=by
 have hl2:(L++[d]).length=L.length+1:=by simp
 have keepA:∀j,j<L.length->z2z W' (AV j) (fun k=>.int .i64 ((nth L j).attr[k]?.getD 0)):=fun j hj=>(h.att j hj).2.keep hg.size (hg.block _ (h.att j hj).2.1 (fun e=>h.sepN j hj e.symm))
 refine⟨?_,fun j hj=>?_,fun j hj=>?_,fun i j hi hj=>?_,fun i hi=>?_⟩
 ·rw[hl2]
  refine (h.nr.app (by decide) hx hx' hg (zul _ _ _)).congr (fun j hj=>?_) (fun j hj=>rfl) (fun j hj=>?_)
  ·by_cases e:j=L.length
   ·subst e;simp only[if_true];rw[z0r]
   ·rw[if_neg e,if_neg e,if_neg e,z0o (by omega)]
  ·by_cases e:j=L.length
   ·subst e;rw[if_pos rfl,z0r,hk]
   ·rw[if_neg e,z0o (by omega)]
 ·by_cases e:j=L.length
  ·subst e;rw[z0r];exact hl
  ·rw[z0o (by omega)];exact h.len j (by omega)
 ·by_cases e:j=L.length
  ·subst e
   rw[if_pos rfl,z0r]
   exact⟨hB,ha.keep hg.size (hg.block _ ha.1 (fun e=>haN e.symm))⟩
  ·rw[if_neg e,z0o (by omega)]
   exact⟨(h.att j (by omega)).1,keepA j (by omega)⟩
 ·by_cases e:j=L.length
  ·subst e;simp[Value.ownBlock]
  ·rw[if_neg e]
   by_cases e2:i=L.length
   ·subst e2;rw[if_pos rfl];exact haK j (by omega)
   ·rw[if_neg e2];exact h.sepK i j (by omega) (by omega)
 ·have hlt:(if i=L.length then ab else AV i)<W.heap.size:=by
   by_cases e:i=L.length
   ·rw[if_pos e];exact ha.1
   ·rw[if_neg e];exact (h.att i (by omega)).2.1
  rcases hat with e|e
  ·rw[e]
   by_cases e2:i=L.length
   ·rw[if_pos e2];exact haN
   ·rw[if_neg e2];exact h.sepN i (by omega)
  ·rw[e]
   intro q
   injection q with q
   omega
theorem RD.setText{g cap k:Nat}(h:RD W B (.slice (some ⟨g,0,none⟩) L.length cap) L AV KV)(hk:k<L.length)(x:List UInt8) :
 RD (W.setCell ⟨g,k*5+2,none⟩ (.string ⟨x.toArray⟩)) B (.slice (some ⟨g,0,none⟩) L.length cap) (z03 L k x) AV KV:=by
 have hl2:(z03 L k x).length=L.length:=by unfold z03;simp
 have hne:∀j,j<L.length->AV j≠g:=fun j hj e=>h.sepN j hj (by rw[e];rfl)
 have hat:∀j,(nth (z03 L k x) j).attr=(nth L j).attr∧(nth (z03 L k x) j).kids=(nth L j).kids:=fun j=>by
  unfold z03
  by_cases e:j=k
  ·subst e;rw[z0d _ hk];exact⟨rfl,rfl⟩
  ·rw[z0a _ e];exact⟨rfl,rfl⟩
 refine⟨?_,fun j hj=>?_,fun j hj=>?_,fun i j hi hj=>h.sepK i j (by omega) (by omega),fun i hi=>h.sepN i (by omega)⟩
 ·rw[hl2]
  refine (h.nr.set (by decide) hk (by omega) (.string ⟨x.toArray⟩)).congr (fun j hj=>?_) (fun j hj=>rfl) (fun j hj=>(hat j).2)
  by_cases e:j=k
  ·subst e;rw[if_pos rfl];unfold z03;rw[z0d _ hk];rfl
  ·rw[if_neg e];unfold z03;rw[z0a _ e]
 ·rw[(hat j).1];exact h.len j (by omega)
 ·rw[(hat j).1];exact⟨(h.att j (by omega)).1,(h.att j (by omega)).2.other (hne j (by omega)) _⟩
theorem RD.kid{g cap:Nat}{kv':Value}{k c:Nat}(h:RD W B (.slice (some ⟨g,0,none⟩) L.length cap) L AV KV)(hk:k<L.length)
 (hr:W'.ownsRow B 3 1 kv' ((nth L k).kids.length+1) (z6o ((nth L k).kids++[c]))) (hg:W.grownBy W' (KV k).ownBlock) (hat:kv'.ownBlock=(KV k).ownBlock∨kv'.ownBlock=some W.heap.size) :
 RD (W'.setCell ⟨g,k*5+3,none⟩ kv') B (.slice (some ⟨g,0,none⟩) L.length cap) (L.modify k fun u=>{ u with kids:=u.kids++[c] }) AV (fun j=>if j=k then kv' else KV j):=by
 have hl2:(L.modify k fun u=>{ u with kids:=u.kids++[c] }).length=L.length:=by simp
 have hne:∀j,j<L.length->AV j≠g:=fun j hj e=>h.sepN j hj (by rw[e];rfl)
 have ha:∀j,(nth (L.modify k fun u=>{ u with kids:=u.kids++[c] }) j).attr=(nth L j).attr:=fun j=>by
  by_cases e:j=k
  ·subst e;rw[z0d _ hk]
  ·rw[z0a _ e]
 refine⟨?_,fun j hj=>?_,fun j hj=>?_,fun i j hi hj=>?_,fun i hi=>h.sepN i (by omega)⟩
 ·rw[hl2]
  refine (h.nr.kid (t:=3) (by decide) hk (by omega) hr hg hat).congr (fun j hj=>?_) (fun j hj=>rfl) (fun j hj=>?_)
  ·by_cases e:j=k
   ·subst e;simp only[if_true];rw[z0d _ hk];rfl
   ·rw[if_neg e,if_neg e,z0a _ e]
  ·by_cases e:j=k
   ·subst e;rw[if_pos rfl,z0d _ hk]
   ·rw[if_neg e,z0a _ e]
 ·rw[ha j];exact h.len j (by omega)
 ·rw[ha j]
  exact⟨(h.att j (by omega)).1,((h.att j (by omega)).2.keep hg.size (hg.block _ (h.att j (by omega)).2.1 (fun e=>h.sepK j k (by omega) hk e.symm))).other (hne j (by omega)) _⟩
 ·by_cases e:j=k
  ·rw[if_pos e]
   rcases hat with q|q
   ·rw[q];exact h.sepK i k (by omega) hk
   ·rw[q];intro e2;injection e2 with e2;have:=(h.att i (by omega)).2.1;omega
  ·rw[if_neg e];exact h.sepK i j (by omega) (by omega)
end
end
section
open Go.RowKit
structure RW(W0 W:World)(rb B:Nat)(s:ByteArray)(i:Nat)(L:List Nd)(f:Flt)(bad dep:Int):Prop where
 il:i≤s.size
 ll:bad<0->L.length≤i
 kl:∀j,(nth L j).kids.length≤L.length
 rbB:rb<B
 le:B≤W.heap.size
 fr:Fr B rb W0 W
 mem:∃nv AV KV er at_,RS W rb s i nv bad er at_ dep∧(bad<0->FL er at_ f i)∧RD W B nv L AV KV
section
variable {W0 W W' : World} {rb B i i' : Nat} {s : ByteArray} {L : List Nd} {f : Flt} {bad bad' dep : Int}
theorem RW.step(h:RW W0 W rb B s i L f bad dep)(hi:i≤i')(hl:i'≤s.size)(hbb:bad'<0->bad<0)(g:W.grownBy W' (some rb))(hr:∀nv er at_,RS W rb s i nv bad er at_ dep->RS W' rb s i' nv bad' er at_ dep):RW W0 W' rb B s i' L f bad' dep:=by
 obtain⟨nv,AV,KV,er,at_,h1,h2,h3⟩:=h.mem
 exact⟨hl,fun e=>Nat.le_trans (h.ll (hbb e)) hi,h.kl,h.rbB,Nat.le_trans h.le g.size,h.fr.trans (Fr.grown g h.le),nv,AV,KV,er,at_,hr nv er at_ h1,fun e=>(h2 (hbb e)).on hi,h3.up (Up.grown g h.rbB)⟩
theorem RW.below(h:RW W0 W rb B s i L f bad dep)(hb:Below W.heap.size W W'):RW W0 W' rb B s i L f bad dep :=
 h.step (Nat.le_refl _) h.il id (z1o hb) (fun nv er at_ r=>r.below hb)
theorem zug(s:ByteArray)(i c:Nat)(bad:Int):i≤mI s i c bad:=by
 unfold mI;split
 ·exact z0n s i c
 ·exact z1y s i
theorem zuf{s:ByteArray}{i c:Nat}{bad:Int}(h:mB s i c bad<0):bad<0:=by
 unfold mB at h;split at h
 ·assumption
 ·exact h
theorem zcc(h:RW W0 W rb B s i L f bad dep)(hs:s.size≤1073741824):Calls Tryz.prog 25 #[.pointer (some ⟨rb,0,none⟩)] W fun e w'=>e=.returned (.tuple #[])∧RW W0 w' rb B s (sk s i) L f bad dep:=by
 obtain⟨nv,AV,KV,er,at_,h1,h2,h3⟩:=h.mem
 refine (z3l rb s i nv bad er at_ dep W h1 (by omega) h.il).mono ?_
 rintro e w' ⟨rfl,r,g⟩
 exact⟨rfl,z2w s i h.il,fun e=>Nat.le_trans (h.ll e) (z1y s i),h.kl,h.rbB,Nat.le_trans h.le g.size,h.fr.trans (Fr.grown g h.le),nv,AV,KV,er,at_,r,fun e=>(h2 e).on (z1y s i),h3.up (Up.grown g h.rbB)⟩
theorem z1g(c:Nat)(hc:c<256)(h:RW W0 W rb B s i L f bad dep)(hs:s.size≤1073741824):Calls Tryz.prog 53 #[.pointer (some ⟨rb,0,none⟩),.int .u8 (c:Int)] W fun e w'=>e=.returned (.tuple #[])∧RW W0 w' rb B s (mI s i c bad) L f (mB s i c bad) dep:=by
 obtain⟨nv,AV,KV,er,at_,h1,h2,h3⟩:=h.mem
 refine (z8k rb s i nv bad er at_ dep c W h1 (by omega) h.il hc).mono ?_
 rintro e w' ⟨rfl,r,g⟩
 have hi:=zug s i c bad
 have hbb:=zuf (s:=s) (i:=i) (c:=c) (bad:=bad)
 exact⟨rfl,zby bad hc h.il,fun e=>Nat.le_trans (h.ll (hbb e)) hi,h.kl,h.rbB,Nat.le_trans h.le g.size,h.fr.trans (Fr.grown g h.le),nv,AV,KV,er,at_,r,fun e=>(h2 (hbb e)).on hi,h3.up (Up.grown g h.rbB)⟩
theorem ze5(c:Nat)(hc:c<256)(h:RW W0 W rb B s i L f bad dep)(hs:s.size≤1073741824):Calls Tryz.prog 82 #[.pointer (some ⟨rb,0,none⟩),.int .u8 (c:Int)] W fun e w'=>e=.returned (.bool (gB s i c bad))∧RW W0 w' rb B s (mI s i c bad) L f bad dep:=by
 obtain⟨nv,AV,KV,er,at_,h1,h2,h3⟩:=h.mem
 refine (z92 rb s i nv bad er at_ dep c W h1 (by omega) h.il hc).mono ?_
 rintro e w' ⟨rfl,r,g⟩
 have hi:=zug s i c bad
 exact⟨rfl,zby bad hc h.il,fun e=>Nat.le_trans (h.ll e) hi,h.kl,h.rbB,Nat.le_trans h.le g.size,h.fr.trans (Fr.grown g h.le),nv,AV,KV,er,at_,r,fun e=>(h2 e).on hi,h3.up (Up.grown g h.rbB)⟩
theorem RW.c3(h:RW W0 W rb B s i L f bad dep):W.cell? ⟨rb,3,none⟩=some (.int .i64 bad):=by
 obtain⟨nv,AV,KV,er,at_,h1,h2,h3⟩:=h.mem
 exact h1.c3
theorem RW.rdI(h:RW W0 W rb B s i L f bad dep):rdI W rb=i:=by
 obtain⟨nv,AV,KV,er,at_,h1,h2,h3⟩:=h.mem
 exact h1.rdI
end
def NOut(W0 W':World)(rb B:Nat)(s:ByteArray)(dep:Int)(st:PS)(r:Except Nat PS):Prop:=match r with
 | .error b=>∃i L g,RW W0 W' rb B s i L g (b:Int) dep
 | .ok st'=>RW W0 W' rb B s st'.i st'.L st'.er (-1) dep∧st.i<st'.i∧st.L.length≤st'.L.length
def zhr(rb B:Nat)(s:ByteArray)(f:Nat):Prop:=∀ (up:Int) (depth:Nat) (st:PS) (w0 w:World),RW w0 w rb B s st.i st.L st.er (-1) (depth:Int)->(up = -1∨(0≤up∧up<st.L.length))->depth≤st.i->s.size<f+st.i ->
 Calls Tryz.prog 24 #[.pointer (some ⟨rb,0,none⟩),.int .i64 up] w fun e w'=>e=.returned (.tuple #[])∧NOut w0 w' rb B s (depth:Int) st (z0w s f up depth st)
theorem zar:z08 z0z ByteArray.empty 0 = -1:=by kernel_rfl
theorem z8l(rb B:Nat)(s:ByteArray)(i:Nat)(L:List Nd)(f:Flt)(bad dep:Int)(up:Int)(w0 w:World)(h:RW w0 w rb B s i L f bad dep)(hb:0≤bad)(hs:s.size≤1073741824) :
 Calls Tryz.prog 24 #[.pointer (some ⟨rb,0,none⟩),.int .i64 up] w fun e w'=>e=.returned (.tuple #[])∧RW w0 w' rb B s (sk s i) L f bad dep:=by
 have SK:Hid (Calls Tryz.prog 25 #[.pointer (some ⟨rb,0,none⟩)] w fun e w'=>e=.returned (.tuple #[])∧RW w0 w' rb B s (sk s i) L f bad dep):=zcc h hs
 have hge:decide (0≤bad)=true:=decide_eq_true hb
 clear h
 go_enter Tryz.func24,Tryz.ntmps24
 go_wp2_with fail
 refine Calls.mono SK.out ?_
 rintro e w1 ⟨rfl,h1⟩
 obtain⟨nv,AV,KV,er,at_,r1,f1,d1⟩:=h1.mem
 have c1:=r1.c1
 have H1:Hid (RW w0 w1 rb B s (sk s i) L f bad dep):=h1
 have WO:Hid (Calls Tryz.prog 47 #[.pointer (some ⟨rb,0,none⟩)] w1 fun e w'=>e=.returned (.string ByteArray.empty)∧RS w' rb s (sk s i) nv bad er at_ dep∧w1.grownBy w' (some rb)):=by
  have:=zhp rb s (sk s i) nv bad er at_ dep w1 r1 (by omega) h1.il hb
  rw[za1] at this
  exact this
 have HF1:Hid ((bad<0->FL er at_ f (sk s i))∧RD w1 B nv L AV KV):=⟨f1,d1⟩
 clear r1 f1 d1 h1 SK
 go_wp2_with fail
 clear c1
 refine Calls.mono WO.out ?_
 rintro e w2 ⟨rfl,r2,g2⟩
 have H2:Hid (RW w0 w2 rb B s (sk s i) L f bad dep):=⟨H1.out.il,H1.out.ll,H1.out.kl,H1.out.rbB,Nat.le_trans H1.out.le g2.size,H1.out.fr.trans (Fr.grown g2 H1.out.le),nv,AV,KV,er,at_,r2,HF1.out.1,HF1.out.2.up (Up.grown g2 H1.out.rbB)⟩
 clear r2 g2 WO H1 HF1
 go_wp2_with fail
 refine Calls.mono (zdp w2) ?_
 rintro e w3 ⟨rfl,hn3,hl3,b3⟩
 have H3:Hid (RW w0 w3 rb B s (sk s i) L f bad dep):=H2.out.below b3
 have FI:Hid (Calls Tryz.prog 48 #[.slice (some ⟨w2.heap.size,0,none⟩) 7 7,.string ByteArray.empty] w3 fun e w'=>e=.returned (.int .i64 (-1))∧w'=w3):=by
  have:=zbl z0z ByteArray.empty w2.heap.size 0 7 7 w3 hl3 hn3 rfl (by omega)
  rw[zar] at this
  exact this
 clear hn3 hl3 b3 H2
 go_wp2_with fail
 refine Calls.mono FI.out ?_
 rintro e w4 ⟨rfl,hw4⟩
 obtain rfl:=hw4.symm
 obtain⟨nv,AV,KV,er,at_,r3,f3,d3⟩:=H3.out.mem
 have FA:Hid (Calls Tryz.prog 26 #[.pointer (some ⟨rb,0,none⟩),.int .i64 (sk s i:Int)] w3 fun e w'=>e=.returned (.tuple #[])∧RS w' rb s (sk s i) nv bad er at_ dep∧w3.grownBy w' (some rb)):=by
  have:=z2p rb s (sk s i) nv bad er at_ dep (sk s i:Int) w3 r3
  have e:badI bad (sk s i:Int)=bad:=by unfold badI;rw[if_neg (by omega)]
  rw[e] at this
  exact this
 have HF3:Hid ((bad<0->FL er at_ f (sk s i))∧RD w3 B nv L AV KV):=⟨f3,d3⟩
 clear r3 f3 d3 FI
 go_wp2_with fail
 refine Calls.mono FA.out ?_
 rintro e w5 ⟨rfl,r5,g5⟩
 have H5:Hid (RW w0 w5 rb B s (sk s i) L f bad dep):=⟨H3.out.il,H3.out.ll,H3.out.kl,H3.out.rbB,Nat.le_trans H3.out.le g5.size,H3.out.fr.trans (Fr.grown g5 H3.out.le),nv,AV,KV,er,at_,r5,HF3.out.1,HF3.out.2.up (Up.grown g5 H3.out.rbB)⟩
 have c3:=r5.c3
 clear r5 g5 FA
 go_wp2
 refine bodyPost_ret (results_none rfl _ _ _) rfl ?_
 exact⟨rfl,H5.out⟩
end
section
open Go.RowKit
def z7o(s:ByteArray)(node:PS->Except Nat PS)(st:PS):Except Nat PS:=match z19 s st.i 91 with
 | .error b=>.error b
 | .ok i2=>if isAt s i2 93 then .ok { st with i:=gotI s i2 93 } else z2f s node (s.size+1) { st with i:=sk s i2 }
def endR(s:ByteArray)(st:PS):Except Nat PS:=match z19 s st.i 93 with
 | .error b=>.error b
 | .ok i3=>.ok { st with i:=i3 }
theorem zpg(s:ByteArray)(i c:Nat):z19 s (sk s i) c=z19 s i c:=by unfold z19;rw[zln,zl4,za1]
theorem zrq(s:ByteArray)(st:PS):endR s { st with i:=sk s st.i }=endR s st:=by unfold endR;simp only;rw[zpg]
theorem zlt{s:ByteArray}{node:PS->Except Nat PS}{g:Nat}{st:PS}{b:Nat}(h:node st=.error b):z2f s node (g+1) st=.error b:=by rw[z2f,h]
theorem zim{s:ByteArray}{node:PS->Except Nat PS}{g:Nat}{st st2:PS}(h:node st=.ok st2)(hm:isAt s st2.i 44=true):z2f s node (g+1) st=z2f s node g { st2 with i:=gotI s st2.i 44 }:=by
 rw[z2f,h];simp only;rw[if_pos hm]
theorem zil{s:ByteArray}{node:PS->Except Nat PS}{g:Nat}{st st2:PS}(h:node st=.ok st2)(hm:¬isAt s st2.i 44=true):z2f s node (g+1) st=endR s st2:=by
 rw[z2f,h];simp only;rw[if_neg hm];rfl
def KI(s:ByteArray)(node:PS->Except Nat PS)(R:Except Nat PS)(m:Bool)(i:Nat)(L:List Nd)(f:Flt)(bad:Int):Prop :=
 (bad = -1∧m=true∧∃g,s.size<g+i∧z2f s node g ⟨i,L,f⟩=R)∨(bad = -1∧m=false∧endR s ⟨i,L,f⟩=R)∨(∃b:Nat,bad=b∧m=false∧R=.error b)
section
variable {s : ByteArray} {i c : Nat} {b : Nat}
theorem zu5:gB s i c (-1)=isAt s i c:=by unfold gB;rw[if_pos (by omega)]
theorem zbz:mI s i c (-1)=gotI s i c:=by unfold mI;rw[if_pos (by omega)]
theorem zf9:mB s i c (-1)=if isAt s i c then -1 else (sk s i:Int):=by unfold mB;rw[if_pos (by omega)];rfl
theorem zl0:gB s i c (b:Int)=false:=by unfold gB;rw[if_neg (by omega)]
theorem z4n:mB s i c (b:Int)=b:=by unfold mB;rw[if_neg (by omega)]
theorem zry(h:isAt s i c=true):gotI s i c=sk s i+1:=by unfold gotI;rw[if_pos (by unfold isAt at h;simpa using h)]
theorem zgg(h:¬isAt s i c=true):gotI s i c=sk s i:=by unfold gotI;rw[if_neg (by unfold isAt at h;simpa using h)]
end
theorem zbw(rb B:Nat)(s:ByteArray)(i:Nat)(L:List Nd)(f:Flt)(b:Nat)(dep up:Int)(w0 w:World)(h:RW w0 w rb B s i L f (b:Int) dep)(hs:s.size≤1073741824) :
 Calls Tryz.prog 52 #[.pointer (some ⟨rb,0,none⟩),.int .i64 up] w fun e w'=>e=.returned (.tuple #[])∧∃i',RW w0 w' rb B s i' L f (b:Int) dep:=by
 have MU:Hid (∀ (c i:Nat) (w:World),c<256->RW w0 w rb B s i L f (b:Int) dep->Calls Tryz.prog 53 #[.pointer (some ⟨rb,0,none⟩),.int .u8 (c:Int)] w fun e w'=>e=.returned (.tuple #[])∧RW w0 w' rb B s (mI s i c b) L f (b:Int) dep):=fun c i w hc h=>by have:=z1g c hc h hs;rw[z4n] at this;exact this
 have GO:Hid (∀ (c i:Nat) (w:World),c<256->RW w0 w rb B s i L f (b:Int) dep->Calls Tryz.prog 82 #[.pointer (some ⟨rb,0,none⟩),.int .u8 (c:Int)] w fun e w'=>e=.returned (.bool false)∧RW w0 w' rb B s (mI s i c b) L f (b:Int) dep):=fun c i w hc h=>by have:=ze5 c hc h hs;rw[zl0] at this;exact this
 have M91:Hid (Calls Tryz.prog 53 #[.pointer (some ⟨rb,0,none⟩),.int .u8 91] w fun e w'=>e=.returned (.tuple #[])∧RW w0 w' rb B s (mI s i 91 b) L f (b:Int) dep):=MU.out 91 i w (by omega) h
 have hbf:decide ((b:Int)<0)=false:=decide_eq_false (by omega)
 clear h
 go_enter Tryz.func52,Tryz.ntmps52
 go_wp2_with fail
 refine Calls.mono M91.out ?_
 rintro e w1 ⟨rfl,h1⟩
 have G93:Hid (Calls Tryz.prog 82 #[.pointer (some ⟨rb,0,none⟩),.int .u8 93] w1 fun e w'=>e=.returned (.bool false)∧RW w0 w' rb B s (mI s (mI s i 91 b) 93 b) L f (b:Int) dep):=GO.out 93 _ w1 (by omega) h1
 clear h1 M91
 go_wp2_with fail
 refine Calls.mono G93.out ?_
 rintro e w2 ⟨rfl,h2⟩
 have H2:Hid (RW w0 w2 rb B s (mI s (mI s i 91 b) 93 b) L f (b:Int) dep):=h2
 have E93:Hid (Calls Tryz.prog 53 #[.pointer (some ⟨rb,0,none⟩),.int .u8 93] w2 fun e w'=>e=.returned (.tuple #[])∧RW w0 w' rb B s (mI s (mI s (mI s i 91 b) 93 b) 93 b) L f (b:Int) dep):=MU.out 93 _ w2 (by omega) h2
 clear h2 G93
 go_wp2_with fail
 go_loopw [4] (fun mv wr=>mv=.bool true∧wr=w2) (fun _ _=>0)
 case atStart=>exact⟨rfl,rfl⟩
 case round =>
  obtain⟨rfl,rfl⟩:=hrel
  have c3:=H2.out.c3
  go_wp2_with fail
  refine Calls.mono E93.out ?_
  rintro e w3 ⟨rfl,h3⟩
  have H3:Hid (RW w0 w3 rb B s (mI s (mI s (mI s i 91 b) 93 b) 93 b) L f (b:Int) dep):=h3
  clear h3 E93 c3
  go_wp2
  go_end0
  exact⟨rfl,_,H3.out⟩
theorem zf5(rb B:Nat)(s:ByteArray)(f:Nat)(hN:zhr rb B s f)(hs:s.size≤1073741824)(up:Nat)(depth:Nat)(st:PS)(w0 w:World)(h:RW w0 w rb B s st.i st.L st.er (-1) (depth:Int))(hup:up<st.L.length)(hd:depth≤st.i)(hf:s.size<f+st.i) :
 Calls Tryz.prog 52 #[.pointer (some ⟨rb,0,none⟩),.int .i64 (up:Int)] w fun e w'=>e=.returned (.tuple #[])∧NOut w0 w' rb B s (depth:Int) st (z7o s (z0w s f (up:Int) depth) st):=by
 by_cases hq:isAt s st.i 91=true
 ·have M91:Hid (Calls Tryz.prog 53 #[.pointer (some ⟨rb,0,none⟩),.int .u8 91] w fun e w'=>e=.returned (.tuple #[])∧RW w0 w' rb B s (gotI s st.i 91) st.L st.er (-1) (depth:Int)):=by
   have:=z1g 91 (by omega) h hs
   rw[zf9,if_pos hq,zbz] at this
   exact this
  have hi2:st.i<gotI s st.i 91:=by rw[zry hq];have:=z1y s st.i;omega
  have HK:Hid (z7o s (z0w s f (up:Int) depth) st=if isAt s (gotI s st.i 91) 93 then .ok { st with i:=gotI s (gotI s st.i 91) 93 } else z2f s (z0w s f (up:Int) depth) (s.size+1) { st with i:=sk s (gotI s st.i 91) }):=by show _=_;unfold z7o z19;rw[if_pos hq]
  obtain⟨R,hR⟩:∃z,z7o s (z0w s f (up:Int) depth) st=z:=⟨_,rfl⟩
  rw[hR] at HK ⊢
  have HN:Hid (zhr rb B s f):=hN
  obtain⟨i2,hi2e⟩:∃z,gotI s st.i 91=z:=⟨_,rfl⟩
  rw[hi2e] at M91 hi2 HK
  clear h hN hR hi2e hq
  go_enter Tryz.func52,Tryz.ntmps52
  go_wp2_with fail
  refine Calls.mono M91.out ?_
  rintro e w1 ⟨rfl,h1⟩
  have G93:Hid (Calls Tryz.prog 82 #[.pointer (some ⟨rb,0,none⟩),.int .u8 93] w1 fun e w'=>e=.returned (.bool (isAt s i2 93))∧RW w0 w' rb B s (gotI s i2 93) st.L st.er (-1) (depth:Int)):=by
   have:=ze5 93 (by omega) h1 hs
   rw[zu5,zbz] at this
   exact this
  clear h1 M91
  have hg93:=z0n s i2 93
  by_cases hq2:isAt s i2 93=true
  ·have HRE:Hid (R=.ok { st with i:=gotI s i2 93 }):=by show _=_;rw[HK.out,if_pos hq2]
   rw[hq2] at G93
   clear HK hq2
   go_wp2_with fail
   refine Calls.mono G93.out ?_
   rintro e w2 ⟨rfl,h2⟩
   have H2:Hid (RW w0 w2 rb B s (gotI s i2 93) st.L st.er (-1) (depth:Int)):=h2
   clear h2 G93
   go_wp2
   try simp only[Exit.inBlock,Exit.then]
   refine bodyPost_ret (results_none rfl _ _ _) rfl ?_
   refine⟨rfl,?_⟩
   show NOut _ _ _ _ _ _ _ _
   rw[HRE.out]
   exact⟨H2.out,by show st.i<gotI s i2 93;omega,Nat.le_refl _⟩
  ·have hsk:gotI s i2 93=sk s i2:=zgg hq2
   have HKF:Hid (z2f s (z0w s f (up:Int) depth) (s.size+1) ⟨sk s i2,st.L,st.er⟩=R):=by show _=_;rw[HK.out,if_neg hq2]
   rw[show isAt s i2 93=false by simpa using hq2,hsk] at G93
   rw[hsk] at hg93
   clear HK hq2 hsk
   go_wp2_with fail
   refine Calls.mono G93.out ?_
   rintro e w2 ⟨rfl,h2⟩
   have H2:Hid (RW w0 w2 rb B s (sk s i2) st.L st.er (-1) (depth:Int)):=h2
   have hsl:=h2.il
   clear h2 G93
   go_wp2_with fail
   go_loopw [4] (fun mv wr=>∃ (m:Bool) (i:Nat) (L:List Nd) (g:Flt) (bad:Int),mv=.bool m∧i≤s.size∧(bad = -1->st.i<i∧st.L.length≤L.length)∧Hid (KI s (z0w s f (up:Int) depth) R m i L g bad)∧Hid (RW w0 wr rb B s i L g bad (depth:Int))) (fun mv wr=>if zqy mv then s.size+1 - rdI wr rb else 0)
   case atStart=>exact⟨true,sk s i2,st.L,st.er,-1,rfl,hsl,fun _=>⟨by omega,Nat.le_refl _⟩,.inl ⟨rfl,rfl,s.size+1,by omega,HKF.out⟩,H2.out⟩
   case round =>
    clear H2 HKF
    obtain⟨m,i,L,g,bad,rfl,hil,hLL,HI,HS⟩:=hrel
    have c3:=HS.out.c3
    have HRd:Hid (rdI wr rb=i):=HS.out.rdI
    rcases HI.out with ⟨rfl,rfl,fu,hfu,hkf⟩|⟨rfl,rfl,hen⟩|⟨b,rfl,rfl,hre⟩
    ·obtain⟨fu,rfl⟩:∃q,fu=q+1:=⟨fu - 1,by omega⟩
     obtain⟨hii,hLs⟩:=hLL rfl
     clear hLL
     have CN:Hid (Calls Tryz.prog 24 #[.pointer (some ⟨rb,0,none⟩),.int .i64 (up:Int)] wr fun e w'=>e=.returned (.tuple #[])∧NOut w0 w' rb B s (depth:Int) ⟨i,L,g⟩ (z0w s f (up:Int) depth ⟨i,L,g⟩)):=HN.out (up:Int) depth ⟨i,L,g⟩ w0 wr HS.out (.inr ⟨by omega,by show (up:Int)<(L.length:Int);omega⟩) (by show depth≤i;omega) (by show s.size<f+i;omega)
     have HKF:Hid (z2f s (z0w s f (up:Int) depth) (fu+1) ⟨i,L,g⟩=R):=hkf
     clear hkf HI
     cases hp:z0w s f (up:Int) depth ⟨i,L,g⟩ with
     | error b =>
      have HRE:Hid (R=.error b):=by show _=_;rw[<-HKF.out];exact zlt hp
      rw[hp] at CN
      clear hp HKF
      go_wp2_with fail
      refine Calls.mono CN.out ?_
      rintro e w3 ⟨rfl,i3,L3,g3,h3⟩
      have G44:Hid (Calls Tryz.prog 82 #[.pointer (some ⟨rb,0,none⟩),.int .u8 44] w3 fun e w'=>e=.returned (.bool false)∧RW w0 w' rb B s (mI s i3 44 b) L3 g3 (b:Int) (depth:Int)):=by
       have:=ze5 44 (by omega) h3 hs
       rw[zl0] at this
       exact this
      clear h3 CN c3
      go_wp2_with fail
      refine Calls.mono G44.out ?_
      rintro e w4 ⟨rfl,h4⟩
      have H4:Hid (RW w0 w4 rb B s (mI s i3 44 b) L3 g3 (b:Int) (depth:Int)):=h4
      clear h4 G44
      go_wp2_with fail
      go_roundw
      case rel=>exact⟨false,_,L3,g3,(b:Int),rfl,H4.out.il,fun e=>by omega,.inr (.inr ⟨b,rfl,rfl,HRE.out⟩),H4.out⟩
      case measure=>rw[HRd.out];show 0<s.size+1 - i;omega
     | ok st3 =>
      rw[hp] at CN
      have HP:Hid (z0w s f (up:Int) depth ⟨i,L,g⟩=.ok st3):=hp
      clear hp
      go_wp2_with fail
      refine Calls.mono CN.out ?_
      rintro e w3 ⟨rfl,h3,p3,l3⟩
      have hp3:i<st3.i:=p3
      have hl3:L.length≤st3.L.length:=l3
      have G44:Hid (Calls Tryz.prog 82 #[.pointer (some ⟨rb,0,none⟩),.int .u8 44] w3 fun e w'=>e=.returned (.bool (isAt s st3.i 44))∧RW w0 w' rb B s (gotI s st3.i 44) st3.L st3.er (-1) (depth:Int)):=by
       have:=ze5 44 (by omega) h3 hs
       rw[zu5,zbz] at this
       exact this
      have hgg:=z0n s st3.i 44
      clear h3 CN c3 p3 l3
      go_wp2_with fail
      refine Calls.mono G44.out ?_
      rintro e w4 ⟨rfl,h4⟩
      have H4:Hid (RW w0 w4 rb B s (gotI s st3.i 44) st3.L st3.er (-1) (depth:Int)):=h4
      have HR4:Hid (rdI w4 rb=gotI s st3.i 44):=h4.rdI
      have hil4:=h4.il
      clear h4 G44
      by_cases hm:isAt s st3.i 44=true
      ·have HK2:Hid (z2f s (z0w s f (up:Int) depth) fu ⟨gotI s st3.i 44,st3.L,st3.er⟩=R):=by show _=_;rw[<-HKF.out];exact (zim HP.out hm).symm
       rw[hm]
       clear hm HP HKF
       go_wp2_with fail
       go_roundw
       case rel=>exact⟨true,gotI s st3.i 44,st3.L,st3.er,-1,rfl,hil4,fun _=>⟨by omega,by omega⟩,.inl ⟨rfl,rfl,fu,by omega,HK2.out⟩,H4.out⟩
       case measure=>rw[HRd.out,HR4.out];show s.size+1 - gotI s st3.i 44<s.size+1 - i;omega
      ·have hsk:gotI s st3.i 44=sk s st3.i:=zgg hm
       have HK2:Hid (endR s ⟨gotI s st3.i 44,st3.L,st3.er⟩=R):=by
        show _=_
        rw[<-HKF.out,zil HP.out hm,hsk]
        exact zrq s st3
       rw[show isAt s st3.i 44=false by simpa using hm]
       clear hm HP HKF hsk
       go_wp2_with fail
       go_roundw
       case rel=>exact⟨false,gotI s st3.i 44,st3.L,st3.er,-1,rfl,hil4,fun _=>⟨by omega,by omega⟩,.inr (.inl ⟨rfl,rfl,HK2.out⟩),H4.out⟩
       case measure=>rw[HRd.out];show 0<s.size+1 - i;omega
    ·obtain⟨hii,hLs⟩:=hLL rfl
     have HEN:Hid (endR s ⟨i,L,g⟩=R):=hen
     have M93:Hid (Calls Tryz.prog 53 #[.pointer (some ⟨rb,0,none⟩),.int .u8 93] wr fun e w'=>e=.returned (.tuple #[])∧RW w0 w' rb B s (gotI s i 93) L g (if isAt s i 93 then -1 else (sk s i:Int)) (depth:Int)):=by
      have:=z1g 93 (by omega) HS.out hs
      rw[zf9,zbz] at this
      exact this
     have hgg:=z0n s i 93
     clear hen HI hLL
     go_wp2_with fail
     refine Calls.mono M93.out ?_
     rintro e w3 ⟨rfl,h3⟩
     have H3:Hid (RW w0 w3 rb B s (gotI s i 93) L g (if isAt s i 93 then -1 else (sk s i:Int)) (depth:Int)):=h3
     clear h3 M93 c3
     go_wp2
     go_end0
     refine⟨rfl,?_⟩
     show NOut _ _ _ _ _ _ _ _
     rw[<-HEN.out]
     unfold endR z19
     have hh:=H3.out
     by_cases hm:isAt s i 93=true
     ·rw[if_pos hm] at hh
      simp only[hm,if_true]
      exact⟨hh,by show st.i<gotI s i 93;omega,hLs⟩
     ·rw[if_neg hm] at hh
      simp only[hm]
      exact⟨_,_,_,hh⟩
    ·have HRE:Hid (R=.error b):=hre
     have hbf:decide ((b:Int)<0)=false:=decide_eq_false (by omega)
     have M93:Hid (Calls Tryz.prog 53 #[.pointer (some ⟨rb,0,none⟩),.int .u8 93] wr fun e w'=>e=.returned (.tuple #[])∧RW w0 w' rb B s (mI s i 93 b) L g (b:Int) (depth:Int)):=by
      have:=z1g 93 (by omega) HS.out hs
      rw[z4n] at this
      exact this
     clear hre HI hLL
     go_wp2_with fail
     refine Calls.mono M93.out ?_
     rintro e w3 ⟨rfl,h3⟩
     have H3:Hid (RW w0 w3 rb B s (mI s i 93 b) L g (b:Int) (depth:Int)):=h3
     clear h3 M93 c3
     go_wp2
     go_end0
     refine⟨rfl,?_⟩
     show NOut _ _ _ _ _ _ _ _
     rw[HRE.out]
     exact⟨_,_,_,H3.out⟩
 ·have hR:z7o s (z0w s f (up:Int) depth) st=.error (sk s st.i):=by unfold z7o z19;rw[if_neg hq]
  have HR:Hid (z7o s (z0w s f (up:Int) depth) st=.error (sk s st.i)):=hR
  have M91:Hid (Calls Tryz.prog 53 #[.pointer (some ⟨rb,0,none⟩),.int .u8 91] w fun e w'=>e=.returned (.tuple #[])∧RW w0 w' rb B s (gotI s st.i 91) st.L st.er (sk s st.i:Int) (depth:Int)):=by
   have:=z1g 91 (by omega) h hs
   rw[zf9,if_neg hq,zbz] at this
   exact this
  have hbf:decide ((sk s st.i:Int)<0)=false:=decide_eq_false (by omega)
  rw[hR]
  clear hN hR h
  go_enter Tryz.func52,Tryz.ntmps52
  go_wp2_with fail
  refine Calls.mono M91.out ?_
  rintro e w1 ⟨rfl,h1⟩
  have G93:Hid (Calls Tryz.prog 82 #[.pointer (some ⟨rb,0,none⟩),.int .u8 93] w1 fun e w'=>e=.returned (.bool false)∧RW w0 w' rb B s (mI s (gotI s st.i 91) 93 (sk s st.i:Int)) st.L st.er (sk s st.i:Int) (depth:Int)):=by
   have:=ze5 93 (by omega) h1 hs
   rw[zl0] at this
   exact this
  clear h1 M91
  go_wp2_with fail
  refine Calls.mono G93.out ?_
  rintro e w2 ⟨rfl,h2⟩
  have H2:Hid (RW w0 w2 rb B s (mI s (gotI s st.i 91) 93 (sk s st.i:Int)) st.L st.er (sk s st.i:Int) (depth:Int)):=h2
  have E93:Hid (Calls Tryz.prog 53 #[.pointer (some ⟨rb,0,none⟩),.int .u8 93] w2 fun e w'=>e=.returned (.tuple #[])∧RW w0 w' rb B s (mI s (mI s (gotI s st.i 91) 93 (sk s st.i:Int)) 93 (sk s st.i:Int)) st.L st.er (sk s st.i:Int) (depth:Int)):=by
   have:=z1g 93 (by omega) h2 hs
   rw[z4n] at this
   exact this
  clear h2 G93
  go_wp2_with fail
  go_loopw [4] (fun mv wr=>mv=.bool true∧wr=w2) (fun _ _=>0)
  case atStart=>exact⟨rfl,rfl⟩
  case round =>
   obtain⟨rfl,rfl⟩:=hrel
   have c3:=H2.out.c3
   go_wp2_with fail
   refine Calls.mono E93.out ?_
   rintro e w3 ⟨rfl,h3⟩
   have H3:Hid (RW w0 w3 rb B s (mI s (mI s (gotI s st.i 91) 93 (sk s st.i:Int)) 93 (sk s st.i:Int)) st.L st.er (sk s st.i:Int) (depth:Int)):=h3
   clear h3 E93 c3
   go_wp2
   go_end0
   exact⟨rfl,_,_,_,H3.out⟩
end
section
open Go.RowKit
theorem zcb(rb B:Nat)(s:ByteArray)(i:Nat)(L:List Nd)(f:Flt)(b:Nat)(dep:Int)(w0 w:World)(h:RW w0 w rb B s i L f (b:Int) dep)(hs:s.size≤1073741824) :
 Calls Tryz.prog 54 #[.pointer (some ⟨rb,0,none⟩)] w fun e w'=>e=.returned (.string ByteArray.empty)∧∃p,RW w0 w' rb B s p L f (b:Int) dep:=by
 have MU:Hid (Calls Tryz.prog 53 #[.pointer (some ⟨rb,0,none⟩),.int .u8 34] w fun e w'=>e=.returned (.tuple #[])∧RW w0 w' rb B s (mI s i 34 b) L f (b:Int) dep):=by have:=z1g 34 (by omega) h hs;rw[z4n] at this;exact this
 have hbf:decide ((b:Int)<0)=false:=decide_eq_false (by omega)
 clear h
 go_enter Tryz.func54,Tryz.ntmps54
 go_wp2_with fail
 refine Calls.mono MU.out ?_
 rintro e w1 ⟨rfl,h1⟩
 have H1:Hid (RW w0 w1 rb B s (mI s i 34 b) L f (b:Int) dep):=h1
 clear h1 MU
 go_wp2_with fail
 go_loopw [3] (fun v wr=>wr=w1) (fun _ _=>0)
 case atStart=>exact rfl
 case round =>
  obtain rfl:=hrel
  have c3:=H1.out.c3
  go_wp2
  go_ret
  exact⟨rfl,_,H1.out⟩
theorem zmo{s:ByteArray}{i p:Nat}{t:List UInt8}(hi:i≤s.size)(h:quoR s i=.ok (p,t)):i≤p∧p≤s.size:=by
 unfold quoR at h
 split at h
 ·have g:=zmn _ _ _ _ _ (z22 (by omega) hi) h
  have:=z0n s i 34
  omega
 ·cases h
theorem zmw{rb B:Nat}{s:ByteArray}{i:Nat}{L:List Nd}{f:Flt}{dep:Int}{w0 w:World}(h:RW w0 w rb B s i L f (-1) dep)(hs:s.size≤1073741824) :
 Calls Tryz.prog 54 #[.pointer (some ⟨rb,0,none⟩)] w fun e w'=>match quoR s i with
  | .ok (p,t)=>e=.returned (.string ⟨t.toArray⟩)∧RW w0 w' rb B s p L f (-1) dep
  | .error b=>e=.returned (.string ByteArray.empty)∧∃p,RW w0 w' rb B s p L f (b:Int) dep:=by
 obtain⟨nv,AV,KV,er,at_,h1,h2,h3⟩:=h.mem
 refine (zj2 rb s i nv (-1) er at_ dep w h1 hs h.il (by omega)).mono ?_
 rintro e w' ⟨g,hq⟩
 have hfr:=h.fr.trans (Fr.grown g h.le)
 have hrd:=h3.up (Up.grown g h.rbB)
 have hle:=Nat.le_trans h.le g.size
 cases hR:quoR s i with
 | error b =>
  rw[hR] at hq
  obtain⟨rfl,p,hp,r⟩:=hq
  exact⟨rfl,p,hp,fun e=>by omega,h.kl,h.rbB,hle,hfr,nv,AV,KV,er,at_,r,fun e=>by omega,hrd⟩
 | ok q =>
  obtain⟨p,t⟩:=q
  rw[hR] at hq
  obtain⟨rfl,r⟩:=hq
  have hb:=zmo h.il hR
  exact⟨rfl,hb.2,fun e=>Nat.le_trans (h.ll e) hb.1,h.kl,h.rbB,hle,hfr,nv,AV,KV,er,at_,r,fun e=>(h2 e).on hb.1,hrd⟩
theorem z59(L:List Nd)(k:Nat)(x:List UInt8):(z03 L k x).length=L.length:=by unfold z03;simp
theorem zcl{L:List Nd}{k:Nat}(hk:k<L.length)(x:List UInt8)(j:Nat):(nth (z03 L k x) j).kids=(nth L j).kids:=by
 unfold z03
 by_cases e:j=k
 ·subst e;rw[z0d _ hk]
 ·rw[z0a _ e]
theorem RW.text{W0 W:World}{rb B i:Nat}{s:ByteArray}{L:List Nd}{f:Flt}{bad dep:Int}(h:RW W0 W rb B s i L f bad dep){k:Nat}(hk:k<L.length) :
 ∃g cap,W.cell? ⟨rb,2,none⟩=some (.slice (some ⟨g,0,none⟩) L.length cap)∧(∃u,W.cell? ⟨g,k*5+2,none⟩=some u)∧W.frozen? ⟨g,k*5+2,none⟩=false∧L.length≤cap∧g≠rb∧∀x:List UInt8,RW W0 (W.setCell ⟨g,k*5+2,none⟩ (.string ⟨x.toArray⟩)) rb B s i (z03 L k x) f bad dep:=by
 obtain⟨nv,AV,KV,er,at_,h1,h2,h3⟩:=h.mem
 obtain⟨g,cap,rfl,hBg,hgl,hc,_⟩:=h3.nr.form (by omega)
 have hrb:=h.rbB
 refine⟨g,cap,h1.c2,⟨_,h3.nr.cell hk rfl⟩,h3.nr.frozen _,hc,by omega,fun x=>?_⟩
 have hgs:=z0q W g (k*5+2) (.string ⟨x.toArray⟩)
 refine⟨h.il,fun e=>by rw[z59];exact h.ll e,fun j=>by rw[zcl hk,z59];exact h.kl j,h.rbB,by simpa [World.setCell] using h.le,h.fr.trans (Fr.own hgs h.le (fun q e=>by injection e with e;omega)),_,AV,KV,er,at_,RS.other h1 (by omega) _,h2,h3.setText hk x⟩
end
end Go.Proofs.YtnponhbgicbkcaaGreatDoor
