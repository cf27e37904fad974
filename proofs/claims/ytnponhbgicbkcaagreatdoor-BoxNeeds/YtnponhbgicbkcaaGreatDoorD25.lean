import Derived.Test.YtnponhbgicbkcaaGreatDoorD00
import Derived.Test.YtnponhbgicbkcaaGreatDoorD24
import Derived.Test.YtnponhbgicbkcaaGreatDoorD23
set_option linter.unusedVariables false
set_option maxRecDepth 100000
set_option maxHeartbeats 16000000
namespace Go.Proofs.YtnponhbgicbkcaaGreatDoor
section
open Go.RowKit
structure RW(W0 W:World)(rb B:Nat)(s:ByteArray)(i:Nat)(L:List Nd)(f:Flt)(bad dep:Int):Prop where
 il:i≤s.size
 ll:bad<0->L.length≤i
 kl:∀j,(nth L j).kids.length≤L.length
 rbB:rb<B
 le:B≤W.heap.size
 fr:Fr B rb W0 W
 mem:∃nv AV KV er at_,RS W rb s i nv bad er at_ dep∧(bad<0->FL er at_ f i)∧RD W B nv L AV KV
section
variable{W0 W W':World} {rb B i i':Nat} {s:ByteArray} {L:List Nd} {f:Flt} {bad bad' dep:Int}
theorem RW.step(h:RW W0 W rb B s i L f bad dep)(hi:i≤i')(hl:i'≤s.size)(hbb:bad'<0->bad<0)(g:W.grownBy W' (some rb))(hr:∀nv er at_,RS W rb s i nv bad er at_ dep->RS W' rb s i' nv bad' er at_ dep):RW W0 W' rb B s i' L f bad' dep:=by obtain⟨nv,AV,KV,er,at_,h1,h2,h3⟩:=h.mem;exact⟨hl,fun e=>Nat.le_trans (h.ll (hbb e)) hi,h.kl,h.rbB,Nat.le_trans h.le g.size,h.fr.trans (Fr.grown g h.le),nv,AV,KV,er,at_,hr nv er at_ h1,fun e=>(h2 (hbb e)).on hi,h3.up (Up.grown g h.rbB)⟩
theorem RW.below(h:RW W0 W rb B s i L f bad dep)(hb:Below W.heap.size W W'):RW W0 W' rb B s i L f bad dep:=
 h.step (Nat.le_refl _) h.il id (gr_below hb) (fun nv er at_ r=>r.below hb)
theorem mI_ge(s:ByteArray)(i c:Nat)(bad:Int):i≤mI s i c bad:=by
 unfold mI;split;·exact gotI_ge s i c
 ·exact sk_ge s i
theorem mB_neg{s:ByteArray}{i c:Nat}{bad:Int}(h:mB s i c bad<0):bad<0:=by
 unfold mB at h;split at h;·assumption
 ·exact h
theorem rw_skip(h:RW W0 W rb B s i L f bad dep)(hs:s.size≤1073741824):Calls Tryz.prog 25 #[.pointer (some ⟨rb,0,none⟩)] W fun e w'=>e=.returned (.tuple #[])∧RW W0 w' rb B s (sk s i) L f bad dep:=by obtain⟨nv,AV,KV,er,at_,h1,h2,h3⟩:=h.mem;refine(skip_any rb s i nv bad er at_ dep W h1 (by omega) h.il).mono ?_;rintro e w' ⟨rfl,r,g⟩;exact⟨rfl,sk_le s i h.il,fun e=>Nat.le_trans (h.ll e) (sk_ge s i),h.kl,h.rbB,Nat.le_trans h.le g.size,h.fr.trans (Fr.grown g h.le),nv,AV,KV,er,at_,r,fun e=>(h2 e).on (sk_ge s i),h3.up (Up.grown g h.rbB)⟩
theorem rw_must(c:Nat)(hc:c<256)(h:RW W0 W rb B s i L f bad dep)(hs:s.size≤1073741824):Calls Tryz.prog 53 #[.pointer (some ⟨rb,0,none⟩),.int .u8 (c:Int)] W fun e w'=>e=.returned (.tuple #[])∧RW W0 w' rb B s (mI s i c bad) L f (mB s i c bad) dep:=by obtain⟨nv,AV,KV,er,at_,h1,h2,h3⟩:=h.mem;refine(must_all rb s i nv bad er at_ dep c W h1 (by omega) h.il hc).mono ?_;rintro e w' ⟨rfl,r,g⟩;have hi:=mI_ge s i c bad;have hbb:=mB_neg (s:=s) (i:=i) (c:=c) (bad:=bad);exact⟨rfl,mI_le bad hc h.il,fun e=>Nat.le_trans (h.ll (hbb e)) hi,h.kl,h.rbB,Nat.le_trans h.le g.size,h.fr.trans (Fr.grown g h.le),nv,AV,KV,er,at_,r,fun e=>(h2 (hbb e)).on hi,h3.up (Up.grown g h.rbB)⟩
theorem rw_got(c:Nat)(hc:c<256)(h:RW W0 W rb B s i L f bad dep)(hs:s.size≤1073741824):Calls Tryz.prog 82 #[.pointer (some ⟨rb,0,none⟩),.int .u8 (c:Int)] W fun e w'=>e=.returned (.bool (gB s i c bad))∧RW W0 w' rb B s (mI s i c bad) L f bad dep:=by obtain⟨nv,AV,KV,er,at_,h1,h2,h3⟩:=h.mem;refine(got_all rb s i nv bad er at_ dep c W h1 (by omega) h.il hc).mono ?_;rintro e w' ⟨rfl,r,g⟩;have hi:=mI_ge s i c bad;exact⟨rfl,mI_le bad hc h.il,fun e=>Nat.le_trans (h.ll e) hi,h.kl,h.rbB,Nat.le_trans h.le g.size,h.fr.trans (Fr.grown g h.le),nv,AV,KV,er,at_,r,fun e=>(h2 e).on hi,h3.up (Up.grown g h.rbB)⟩
theorem RW.c3(h:RW W0 W rb B s i L f bad dep):W.cell? ⟨rb,3,none⟩=some (.int .i64 bad):=by obtain⟨nv,AV,KV,er,at_,h1,h2,h3⟩:=h.mem;exact h1.c3
theorem RW.rdI(h:RW W0 W rb B s i L f bad dep):rdI W rb=i:=by obtain⟨nv,AV,KV,er,at_,h1,h2,h3⟩:=h.mem;exact h1.rdI
end
def NOut(W0 W':World)(rb B:Nat)(s:ByteArray)(dep:Int)(st:PS)(r:Except Nat PS):Prop:=match r with
 |.error b=>∃i L g,RW W0 W' rb B s i L g (b:Int) dep
 |.ok st'=>RW W0 W' rb B s st'.i st'.L st'.er (-1) dep∧st.i<st'.i∧st.L.length≤st'.L.length
def NodeR(rb B:Nat)(s:ByteArray)(f:Nat):Prop:=∀(up:Int) (depth:Nat) (st:PS) (w0 w:World),RW w0 w rb B s st.i st.L st.er (-1) (depth:Int)->(up=-1∨(0≤up∧up<st.L.length))->depth≤st.i->s.size<f+st.i->
 Calls Tryz.prog 24 #[.pointer (some ⟨rb,0,none⟩),.int .i64 up] w fun e w'=>e=.returned (.tuple #[])∧NOut w0 w' rb B s (depth:Int) st (nodeF s f up depth st)
theorem find_empty:findF kindsL ByteArray.empty 0=-1:=by kernel_rfl
theorem node_bad(rb B:Nat)(s:ByteArray)(i:Nat)(L:List Nd)(f:Flt)(bad dep:Int)(up:Int)(w0 w:World)(h:RW w0 w rb B s i L f bad dep)(hb:0≤bad)(hs:s.size≤1073741824):
 Calls Tryz.prog 24 #[.pointer (some ⟨rb,0,none⟩),.int .i64 up] w fun e w'=>e=.returned (.tuple #[])∧RW w0 w' rb B s (sk s i) L f bad dep:=by
 have SK:=qH<|rw_skip h hs;have hge:=decide_eq_true hb;clear h;go_enter Tryz.func24,Tryz.ntmps24;go_wp2_with fail;refine Calls.mono SK.out ?_;rintro e w1 ⟨rfl,h1⟩;obtain⟨nv,AV,KV,er,at_,r1,f1,d1⟩:=h1.mem;have c1:=r1.c1;have H1:=qH<|h1;have WO:Hid (Calls Tryz.prog 47 #[.pointer (some ⟨rb,0,none⟩)] w1 fun e w'=>e=.returned (.string ByteArray.empty)∧RS w' rb s (sk s i) nv bad er at_ dep∧w1.grownBy w' (some rb)):=by have:=word_bad rb s (sk s i) nv bad er at_ dep w1 r1 (by omega) h1.il hb;rw[sk_sk]at this;exact this
 have HF1:Hid ((bad<0->FL er at_ f (sk s i))∧RD w1 B nv L AV KV):=⟨f1,d1⟩;clear r1 f1 d1 h1 SK;go_wp2_with fail;clear c1;refine Calls.mono WO.out ?_;rintro e w2 ⟨rfl,r2,g2⟩;have H2:Hid (RW w0 w2 rb B s (sk s i) L f bad dep):=⟨H1.out.il,H1.out.ll,H1.out.kl,H1.out.rbB,Nat.le_trans H1.out.le g2.size,H1.out.fr.trans (Fr.grown g2 H1.out.le),nv,AV,KV,er,at_,r2,HF1.out.1,HF1.out.2.up (Up.grown g2 H1.out.rbB)⟩;clear r2 g2 WO H1 HF1;go_wp2_with fail;refine Calls.mono (kinds_any w2) ?_;rintro e w3 ⟨rfl,hn3,hl3,b3⟩;have H3:=qH<|H2.out.below b3;have FI:Hid (Calls Tryz.prog 48 #[.slice (some ⟨w2.heap.size,0,none⟩) 7 7,.string ByteArray.empty] w3 fun e w'=>e=.returned (.int .i64 (-1))∧w'=w3):=by have:=find_any kindsL ByteArray.empty w2.heap.size 0 7 7 w3 hl3 hn3 rfl (by omega);rw[find_empty]at this;exact this
 clear hn3 hl3 b3 H2;go_wp2_with fail;refine Calls.mono FI.out ?_;rintro e w4 ⟨rfl,hw4⟩;obtain rfl:=hw4.symm;obtain⟨nv,AV,KV,er,at_,r3,f3,d3⟩:=H3.out.mem;have FA:Hid (Calls Tryz.prog 26 #[.pointer (some ⟨rb,0,none⟩),.int .i64 (sk s i:Int)] w3 fun e w'=>e=.returned (.tuple #[])∧RS w' rb s (sk s i) nv bad er at_ dep∧w3.grownBy w' (some rb)):=by
  have:=fail_any rb s (sk s i) nv bad er at_ dep (sk s i:Int) w3 r3;have e:badI bad (sk s i:Int)=bad:=by unfold badI;rw[if_neg (by omega)]
  rw[e]at this;exact this
 have HF3:Hid ((bad<0->FL er at_ f (sk s i))∧RD w3 B nv L AV KV):=⟨f3,d3⟩;clear r3 f3 d3 FI;go_wp2_with fail;refine Calls.mono FA.out ?_;rintro e w5 ⟨rfl,r5,g5⟩;have H5:Hid (RW w0 w5 rb B s (sk s i) L f bad dep):=⟨H3.out.il,H3.out.ll,H3.out.kl,H3.out.rbB,Nat.le_trans H3.out.le g5.size,H3.out.fr.trans (Fr.grown g5 H3.out.le),nv,AV,KV,er,at_,r5,HF3.out.1,HF3.out.2.up (Up.grown g5 H3.out.rbB)⟩;have c3:=r5.c3;clear r5 g5 FA;go_wp2;refine bodyPost_ret (results_none rfl _ _ _) rfl ?_;exact⟨rfl,H5.out⟩
end
section
open Go.RowKit
def kidsR(s:ByteArray)(node:PS->Except Nat PS)(st:PS):Except Nat PS:=match mustR s st.i 91 with
 |.error b=>.error b
 |.ok i2=>if isAt s i2 93 then .ok {st with i:=gotI s i2 93}else kidsF s node (s.size+1) {st with i:=sk s i2}
def endR(s:ByteArray)(st:PS):Except Nat PS:=match mustR s st.i 93 with
 |.error b=>.error b
 |.ok i3=>.ok {st with i:=i3}
theorem mustR_sk(s:ByteArray)(i c:Nat):mustR s (sk s i) c=mustR s i c:=by unfold mustR;rw[isAt_sk,gotI_sk,sk_sk]
theorem endR_sk(s:ByteArray)(st:PS):endR s {st with i:=sk s st.i}=endR s st:=by unfold endR;simp only;rw[mustR_sk]
theorem kidsF_err{s:ByteArray}{node:PS->Except Nat PS}{g:Nat}{st:PS}{b:Nat}(h:node st=.error b):kidsF s node (g+1) st=.error b:=by rw[kidsF,h]
theorem kidsF_more{s:ByteArray}{node:PS->Except Nat PS}{g:Nat}{st st2:PS}(h:node st=.ok st2)(hm:isAt s st2.i 44=true):kidsF s node (g+1) st=kidsF s node g {st2 with i:=gotI s st2.i 44}:=by rw[kidsF,h];simp only;rw[if_pos hm]
theorem kidsF_last{s:ByteArray}{node:PS->Except Nat PS}{g:Nat}{st st2:PS}(h:node st=.ok st2)(hm:¬isAt s st2.i 44=true):kidsF s node (g+1) st=endR s st2:=by rw[kidsF,h];simp only;rw[if_neg hm];rfl
def KI(s:ByteArray)(node:PS->Except Nat PS)(R:Except Nat PS)(m:Bool)(i:Nat)(L:List Nd)(f:Flt)(bad:Int):Prop:=
 (bad=-1∧m=true∧∃g,s.size<g+i∧kidsF s node g ⟨i,L,f⟩=R)∨(bad=-1∧m=false∧endR s ⟨i,L,f⟩=R)∨(∃b:Nat,bad=b∧m=false∧R=.error b)
section
variable{s:ByteArray} {i c:Nat} {b:Nat}
theorem gB_ok:gB s i c (-1)=isAt s i c:=by unfold gB;rw[if_pos (by omega)]
theorem mI_ok:mI s i c (-1)=gotI s i c:=by unfold mI;rw[if_pos (by omega)]
theorem mB_ok:mB s i c (-1)=if isAt s i c then-1 else(sk s i:Int):=by unfold mB;rw[if_pos (by omega)];rfl
theorem gB_bad:gB s i c (b:Int)=false:=by unfold gB;rw[if_neg (by omega)]
theorem mB_bad:mB s i c (b:Int)=b:=by unfold mB;rw[if_neg (by omega)]
theorem gI_at(h:isAt s i c=true):gotI s i c=sk s i+1:=by unfold gotI;rw[if_pos (by unfold isAt at h;simpa using h)]
theorem gotI_not(h:¬isAt s i c=true):gotI s i c=sk s i:=by unfold gotI;rw[if_neg (by unfold isAt at h;simpa using h)]
end
theorem kids_bad(rb B:Nat)(s:ByteArray)(i:Nat)(L:List Nd)(f:Flt)(b:Nat)(dep up:Int)(w0 w:World)(h:RW w0 w rb B s i L f (b:Int) dep)(hs:s.size≤1073741824):
 Calls Tryz.prog 52 #[.pointer (some ⟨rb,0,none⟩),.int .i64 up] w fun e w'=>e=.returned (.tuple #[])∧∃i',RW w0 w' rb B s i' L f (b:Int) dep:=by
 have MU:Hid (∀(c i:Nat) (w:World),c<256->RW w0 w rb B s i L f (b:Int) dep->Calls Tryz.prog 53 #[.pointer (some ⟨rb,0,none⟩),.int .u8 (c:Int)] w fun e w'=>e=.returned (.tuple #[])∧RW w0 w' rb B s (mI s i c b) L f (b:Int) dep):=fun c i w hc h=>by have:=rw_must c hc h hs;rw[mB_bad]at this;exact this
 have GO:Hid (∀(c i:Nat) (w:World),c<256->RW w0 w rb B s i L f (b:Int) dep->Calls Tryz.prog 82 #[.pointer (some ⟨rb,0,none⟩),.int .u8 (c:Int)] w fun e w'=>e=.returned (.bool false)∧RW w0 w' rb B s (mI s i c b) L f (b:Int) dep):=fun c i w hc h=>by have:=rw_got c hc h hs;rw[gB_bad]at this;exact this
 have M91:Hid (Calls Tryz.prog 53 #[.pointer (some ⟨rb,0,none⟩),.int .u8 91] w fun e w'=>e=.returned (.tuple #[])∧RW w0 w' rb B s (mI s i 91 b) L f (b:Int) dep):=MU.out 91 i w (by omega) h;have hbf:decide ((b:Int)<0)=false:=decide_eq_false (by omega);clear h;go_enter Tryz.func52,Tryz.ntmps52;go_wp2_with fail;refine Calls.mono M91.out ?_;rintro e w1 ⟨rfl,h1⟩;have G93:Hid (Calls Tryz.prog 82 #[.pointer (some ⟨rb,0,none⟩),.int .u8 93] w1 fun e w'=>e=.returned (.bool false)∧RW w0 w' rb B s (mI s (mI s i 91 b) 93 b) L f (b:Int) dep):=GO.out 93 _ w1 (by omega) h1;clear h1 M91;go_wp2_with fail;refine Calls.mono G93.out ?_;rintro e w2 ⟨rfl,h2⟩;have H2:=qH<|h2;have E93:Hid (Calls Tryz.prog 53 #[.pointer (some ⟨rb,0,none⟩),.int .u8 93] w2 fun e w'=>e=.returned (.tuple #[])∧RW w0 w' rb B s (mI s (mI s (mI s i 91 b) 93 b) 93 b) L f (b:Int) dep):=MU.out 93 _ w2 (by omega) h2;clear h2 G93;go_wp2_with fail;go_loopw[4] (fun mv wr=>mv=.bool true∧wr=w2) (fun _ _=>0);case atStart=>exact⟨rfl,rfl⟩
 case round=>obtain⟨rfl,rfl⟩:=hrel;have c3:=H2.out.c3;go_wp2_with fail;refine Calls.mono E93.out ?_;rintro e w3 ⟨rfl,h3⟩;have H3:=qH<|h3;clear h3 E93 c3;go_wp2;go_end0;exact⟨rfl,_,H3.out⟩
theorem kids_of(rb B:Nat)(s:ByteArray)(f:Nat)(hN:NodeR rb B s f)(hs:s.size≤1073741824)(up:Nat)(depth:Nat)(st:PS)(w0 w:World)(h:RW w0 w rb B s st.i st.L st.er (-1) (depth:Int))(hup:up<st.L.length)(hd:depth≤st.i)(hf:s.size<f+st.i):
 Calls Tryz.prog 52 #[.pointer (some ⟨rb,0,none⟩),.int .i64 (up:Int)] w fun e w'=>e=.returned (.tuple #[])∧NOut w0 w' rb B s (depth:Int) st (kidsR s (nodeF s f (up:Int) depth) st):=by
 by_cases hq:isAt s st.i 91=true
 ·have M91:Hid (Calls Tryz.prog 53 #[.pointer (some ⟨rb,0,none⟩),.int .u8 91] w fun e w'=>e=.returned (.tuple #[])∧RW w0 w' rb B s (gotI s st.i 91) st.L st.er (-1) (depth:Int)):=by have:=rw_must 91 (by omega) h hs;rw[mB_ok,if_pos hq,mI_ok]at this;exact this
  have hi2:st.i<gotI s st.i 91:=by rw[gI_at hq];have:=sk_ge s st.i;omega
  have HK:Hid (kidsR s (nodeF s f (up:Int) depth) st=if isAt s (gotI s st.i 91) 93 then .ok {st with i:=gotI s (gotI s st.i 91) 93}else kidsF s (nodeF s f (up:Int) depth) (s.size+1) {st with i:=sk s (gotI s st.i 91)}):=by show _=_;unfold kidsR mustR;rw[if_pos hq]
  obtain⟨R,hR⟩:∃z,kidsR s (nodeF s f (up:Int) depth) st=z:=⟨_,rfl⟩;rw[hR]at HK⊢;have HN:=qH<|hN;obtain⟨i2,hi2e⟩:∃z,gotI s st.i 91=z:=⟨_,rfl⟩;rw[hi2e]at M91 hi2 HK;clear h hN hR hi2e hq;go_enter Tryz.func52,Tryz.ntmps52;go_wp2_with fail;refine Calls.mono M91.out ?_;rintro e w1 ⟨rfl,h1⟩;have G93:Hid (Calls Tryz.prog 82 #[.pointer (some ⟨rb,0,none⟩),.int .u8 93] w1 fun e w'=>e=.returned (.bool (isAt s i2 93))∧RW w0 w' rb B s (gotI s i2 93) st.L st.er (-1) (depth:Int)):=by have:=rw_got 93 (by omega) h1 hs;rw[gB_ok,mI_ok]at this;exact this
  clear h1 M91;have hg93:=gotI_ge s i2 93;by_cases hq2:isAt s i2 93=true
  ·have HRE:Hid (R=.ok {st with i:=gotI s i2 93}):=by show _=_;rw[HK.out,if_pos hq2]
   rw[hq2]at G93;clear HK hq2;go_wp2_with fail;refine Calls.mono G93.out ?_;rintro e w2 ⟨rfl,h2⟩;have H2:=qH<|h2;clear h2 G93;go_wp2;try simp only[Exit.inBlock,Exit.then]
   refine bodyPost_ret (results_none rfl _ _ _) rfl ?_;refine⟨rfl,?_⟩;show NOut _ _ _ _ _ _ _ _;rw[HRE.out];exact⟨H2.out,by show st.i<gotI s i2 93;omega,Nat.le_refl _⟩
  ·have hsk:=gotI_not hq2;have HKF:Hid (kidsF s (nodeF s f (up:Int) depth) (s.size+1) ⟨sk s i2,st.L,st.er⟩=R):=by show _=_;rw[HK.out,if_neg hq2]
   rw[show isAt s i2 93=false by simpa using hq2,hsk]at G93;rw[hsk]at hg93;clear HK hq2 hsk;go_wp2_with fail;refine Calls.mono G93.out ?_;rintro e w2 ⟨rfl,h2⟩;have H2:=qH<|h2;have hsl:=h2.il;clear h2 G93;go_wp2_with fail;go_loopw[4] (fun mv wr=>∃(m:Bool) (i:Nat) (L:List Nd) (g:Flt) (bad:Int),mv=.bool m∧i≤s.size∧(bad=-1->st.i<i∧st.L.length≤L.length)∧Hid (KI s (nodeF s f (up:Int) depth) R m i L g bad)∧Hid (RW w0 wr rb B s i L g bad (depth:Int))) (fun mv wr=>if moreOf mv then s.size+1-rdI wr rb else 0);case atStart=>exact⟨true,sk s i2,st.L,st.er,-1,rfl,hsl,fun _=>⟨by omega,Nat.le_refl _⟩,.inl ⟨rfl,rfl,s.size+1,by omega,HKF.out⟩,H2.out⟩
   case round=>
    clear H2 HKF;obtain⟨m,i,L,g,bad,rfl,hil,hLL,HI,HS⟩:=hrel;have c3:=HS.out.c3;have HRd:=qH<|HS.out.rdI;rcases HI.out with⟨rfl,rfl,fu,hfu,hkf⟩|⟨rfl,rfl,hen⟩|⟨b,rfl,rfl,hre⟩;·obtain⟨fu,rfl⟩:∃q,fu=q+1:=⟨fu-1,by omega⟩;obtain⟨hii,hLs⟩:=hLL rfl;clear hLL;have CN:=qH<|HN.out (up:Int) depth ⟨i,L,g⟩ w0 wr HS.out (.inr ⟨by omega,by show(up:Int)<(L.length:Int);omega⟩) (by show depth≤i;omega) (by show s.size<f+i;omega);have HKF:=qH<|hkf;clear hkf HI;cases hp:nodeF s f (up:Int) depth ⟨i,L,g⟩with
     |error b=>
      have HRE:Hid (R=.error b):=by show _=_;rw[<-HKF.out];exact kidsF_err hp
      rw[hp]at CN;clear hp HKF;go_wp2_with fail;refine Calls.mono CN.out ?_;rintro e w3 ⟨rfl,i3,L3,g3,h3⟩;have G44:Hid (Calls Tryz.prog 82 #[.pointer (some ⟨rb,0,none⟩),.int .u8 44] w3 fun e w'=>e=.returned (.bool false)∧RW w0 w' rb B s (mI s i3 44 b) L3 g3 (b:Int) (depth:Int)):=by have:=rw_got 44 (by omega) h3 hs;rw[gB_bad]at this;exact this
      clear h3 CN c3;go_wp2_with fail;refine Calls.mono G44.out ?_;rintro e w4 ⟨rfl,h4⟩;have H4:=qH<|h4;clear h4 G44;go_wp2_with fail;go_roundw;case rel=>exact⟨false,_,L3,g3,(b:Int),rfl,H4.out.il,fun e=>by omega,.inr (.inr ⟨b,rfl,rfl,HRE.out⟩),H4.out⟩
      case measure=>rw[HRd.out];show 0<s.size+1-i;omega
     |ok st3=>
      rw[hp]at CN;have HP:=qH<|hp;clear hp;go_wp2_with fail;refine Calls.mono CN.out ?_;rintro e w3 ⟨rfl,h3,p3,l3⟩;have hp3:i<st3.i:=p3;have hl3:L.length≤st3.L.length:=l3;have G44:Hid (Calls Tryz.prog 82 #[.pointer (some ⟨rb,0,none⟩),.int .u8 44] w3 fun e w'=>e=.returned (.bool (isAt s st3.i 44))∧RW w0 w' rb B s (gotI s st3.i 44) st3.L st3.er (-1) (depth:Int)):=by have:=rw_got 44 (by omega) h3 hs;rw[gB_ok,mI_ok]at this;exact this
      have hgg:=gotI_ge s st3.i 44;clear h3 CN c3 p3 l3;go_wp2_with fail;refine Calls.mono G44.out ?_;rintro e w4 ⟨rfl,h4⟩;have H4:=qH<|h4;have HR4:=qH<|h4.rdI;have hil4:=h4.il;clear h4 G44;by_cases hm:isAt s st3.i 44=true
      ·have HK2:Hid (kidsF s (nodeF s f (up:Int) depth) fu ⟨gotI s st3.i 44,st3.L,st3.er⟩=R):=by show _=_;rw[<-HKF.out];exact(kidsF_more HP.out hm).symm
       rw[hm];clear hm HP HKF;go_wp2_with fail;go_roundw;case rel=>exact⟨true,gotI s st3.i 44,st3.L,st3.er,-1,rfl,hil4,fun _=>⟨by omega,by omega⟩,.inl ⟨rfl,rfl,fu,by omega,HK2.out⟩,H4.out⟩
       case measure=>rw[HRd.out,HR4.out];show s.size+1-gotI s st3.i 44<s.size+1-i;omega
      ·have hsk:=gotI_not hm;have HK2:Hid (endR s ⟨gotI s st3.i 44,st3.L,st3.er⟩=R):=by show _=_;rw[<-HKF.out,kidsF_last HP.out hm,hsk];exact endR_sk s st3
       rw[show isAt s st3.i 44=false by simpa using hm];clear hm HP HKF hsk;go_wp2_with fail;go_roundw;case rel=>exact⟨false,gotI s st3.i 44,st3.L,st3.er,-1,rfl,hil4,fun _=>⟨by omega,by omega⟩,.inr (.inl ⟨rfl,rfl,HK2.out⟩),H4.out⟩
       case measure=>rw[HRd.out];show 0<s.size+1-i;omega
    ·obtain⟨hii,hLs⟩:=hLL rfl;have HEN:=qH<|hen;have M93:Hid (Calls Tryz.prog 53 #[.pointer (some ⟨rb,0,none⟩),.int .u8 93] wr fun e w'=>e=.returned (.tuple #[])∧RW w0 w' rb B s (gotI s i 93) L g (if isAt s i 93 then-1 else(sk s i:Int)) (depth:Int)):=by have:=rw_must 93 (by omega) HS.out hs;rw[mB_ok,mI_ok]at this;exact this
     have hgg:=gotI_ge s i 93;clear hen HI hLL;go_wp2_with fail;refine Calls.mono M93.out ?_;rintro e w3 ⟨rfl,h3⟩;have H3:=qH<|h3;clear h3 M93 c3;go_wp2;go_end0;refine⟨rfl,?_⟩;show NOut _ _ _ _ _ _ _ _;rw[<-HEN.out];unfold endR mustR;have hh:=H3.out;by_cases hm:isAt s i 93=true;·rw[if_pos hm]at hh;simp only[hm,if_true];exact⟨hh,by show st.i<gotI s i 93;omega,hLs⟩
     ·rw[if_neg hm]at hh;simp only[hm];exact⟨_,_,_,hh⟩
    ·have HRE:=qH<|hre;have hbf:decide ((b:Int)<0)=false:=decide_eq_false (by omega);have M93:Hid (Calls Tryz.prog 53 #[.pointer (some ⟨rb,0,none⟩),.int .u8 93] wr fun e w'=>e=.returned (.tuple #[])∧RW w0 w' rb B s (mI s i 93 b) L g (b:Int) (depth:Int)):=by have:=rw_must 93 (by omega) HS.out hs;rw[mB_bad]at this;exact this
     clear hre HI hLL;go_wp2_with fail;refine Calls.mono M93.out ?_;rintro e w3 ⟨rfl,h3⟩;have H3:=qH<|h3;clear h3 M93 c3;go_wp2;go_end0;refine⟨rfl,?_⟩;show NOut _ _ _ _ _ _ _ _;rw[HRE.out];exact⟨_,_,_,H3.out⟩
 ·have hR:kidsR s (nodeF s f (up:Int) depth) st=.error (sk s st.i):=by unfold kidsR mustR;rw[if_neg hq]
  have HR:=qH<|hR;have M91:Hid (Calls Tryz.prog 53 #[.pointer (some ⟨rb,0,none⟩),.int .u8 91] w fun e w'=>e=.returned (.tuple #[])∧RW w0 w' rb B s (gotI s st.i 91) st.L st.er (sk s st.i:Int) (depth:Int)):=by have:=rw_must 91 (by omega) h hs;rw[mB_ok,if_neg hq,mI_ok]at this;exact this
  have hbf:decide ((sk s st.i:Int)<0)=false:=decide_eq_false (by omega);rw[hR];clear hN hR h;go_enter Tryz.func52,Tryz.ntmps52;go_wp2_with fail;refine Calls.mono M91.out ?_;rintro e w1 ⟨rfl,h1⟩;have G93:Hid (Calls Tryz.prog 82 #[.pointer (some ⟨rb,0,none⟩),.int .u8 93] w1 fun e w'=>e=.returned (.bool false)∧RW w0 w' rb B s (mI s (gotI s st.i 91) 93 (sk s st.i:Int)) st.L st.er (sk s st.i:Int) (depth:Int)):=by have:=rw_got 93 (by omega) h1 hs;rw[gB_bad]at this;exact this
  clear h1 M91;go_wp2_with fail;refine Calls.mono G93.out ?_;rintro e w2 ⟨rfl,h2⟩;have H2:=qH<|h2;have E93:Hid (Calls Tryz.prog 53 #[.pointer (some ⟨rb,0,none⟩),.int .u8 93] w2 fun e w'=>e=.returned (.tuple #[])∧RW w0 w' rb B s (mI s (mI s (gotI s st.i 91) 93 (sk s st.i:Int)) 93 (sk s st.i:Int)) st.L st.er (sk s st.i:Int) (depth:Int)):=by have:=rw_must 93 (by omega) h2 hs;rw[mB_bad]at this;exact this
  clear h2 G93;go_wp2_with fail;go_loopw[4] (fun mv wr=>mv=.bool true∧wr=w2) (fun _ _=>0);case atStart=>exact⟨rfl,rfl⟩
  case round=>obtain⟨rfl,rfl⟩:=hrel;have c3:=H2.out.c3;go_wp2_with fail;refine Calls.mono E93.out ?_;rintro e w3 ⟨rfl,h3⟩;have H3:=qH<|h3;clear h3 E93 c3;go_wp2;go_end0;exact⟨rfl,_,_,_,H3.out⟩
end
section
open Go.RowKit
theorem rw_quoted_bad(rb B:Nat)(s:ByteArray)(i:Nat)(L:List Nd)(f:Flt)(b:Nat)(dep:Int)(w0 w:World)(h:RW w0 w rb B s i L f (b:Int) dep)(hs:s.size≤1073741824):
 Calls Tryz.prog 54 #[.pointer (some ⟨rb,0,none⟩)] w fun e w'=>e=.returned (.string ByteArray.empty)∧∃p,RW w0 w' rb B s p L f (b:Int) dep:=by
 have MU:Hid (Calls Tryz.prog 53 #[.pointer (some ⟨rb,0,none⟩),.int .u8 34] w fun e w'=>e=.returned (.tuple #[])∧RW w0 w' rb B s (mI s i 34 b) L f (b:Int) dep):=by have:=rw_must 34 (by omega) h hs;rw[mB_bad]at this;exact this
 have hbf:decide ((b:Int)<0)=false:=decide_eq_false (by omega);clear h;go_enter Tryz.func54,Tryz.ntmps54;go_wp2_with fail;refine Calls.mono MU.out ?_;rintro e w1 ⟨rfl,h1⟩;have H1:=qH<|h1;clear h1 MU;go_wp2_with fail;go_loopw[3] (fun v wr=>wr=w1) (fun _ _=>0);case atStart=>exact rfl
 case round=>obtain rfl:=hrel;have c3:=H1.out.c3;go_wp2;go_ret;exact⟨rfl,_,H1.out⟩
theorem quoR_bd{s:ByteArray}{i p:Nat}{t:List UInt8}(hi:i≤s.size)(h:quoR s i=.ok (p,t)):i≤p∧p≤s.size:=by
 unfold quoR at h;split at h;·have g:=qF_bd _ _ _ _ _ (gotI_le (by omega) hi) h;have:=gotI_ge s i 34;omega
 ·cases h
theorem rw_quoted{rb B:Nat}{s:ByteArray}{i:Nat}{L:List Nd}{f:Flt}{dep:Int}{w0 w:World}(h:RW w0 w rb B s i L f (-1) dep)(hs:s.size≤1073741824):
 Calls Tryz.prog 54 #[.pointer (some ⟨rb,0,none⟩)] w fun e w'=>match quoR s i with
  |.ok (p,t)=>e=.returned (.string ⟨t.toArray⟩)∧RW w0 w' rb B s p L f (-1) dep
  |.error b=>e=.returned (.string ByteArray.empty)∧∃p,RW w0 w' rb B s p L f (b:Int) dep:=by
 obtain⟨nv,AV,KV,er,at_,h1,h2,h3⟩:=h.mem;refine(quoted_any rb s i nv (-1) er at_ dep w h1 hs h.il (by omega)).mono ?_;rintro e w' ⟨g,hq⟩;have hfr:=h.fr.trans (Fr.grown g h.le);have hrd:=h3.up (Up.grown g h.rbB);have hle:=Nat.le_trans h.le g.size;cases hR:quoR s i with
 |error b=>rw[hR]at hq;obtain⟨rfl,p,hp,r⟩:=hq;exact⟨rfl,p,hp,fun e=>by omega,h.kl,h.rbB,hle,hfr,nv,AV,KV,er,at_,r,fun e=>by omega,hrd⟩
 |ok q=>obtain⟨p,t⟩:=q;rw[hR]at hq;obtain⟨rfl,r⟩:=hq;have hb:=quoR_bd h.il hR;exact⟨rfl,hb.2,fun e=>Nat.le_trans (h.ll e) hb.1,h.kl,h.rbB,hle,hfr,nv,AV,KV,er,at_,r,fun e=>(h2 e).on hb.1,hrd⟩
theorem withText_len(L:List Nd)(k:Nat)(x:List UInt8):(withText L k x).length=L.length:=by unfold withText;simp
theorem withText_kids{L:List Nd}{k:Nat}(hk:k<L.length)(x:List UInt8)(j:Nat):(nth (withText L k x) j).kids=(nth L j).kids:=by
 unfold withText;by_cases e:j=k;·subst e;rw[nth_mod_same _ hk]
 ·rw[nth_mod_other _ e]
theorem RW.text{W0 W:World}{rb B i:Nat}{s:ByteArray}{L:List Nd}{f:Flt}{bad dep:Int}(h:RW W0 W rb B s i L f bad dep){k:Nat}(hk:k<L.length):
 ∃g cap,W.cell? ⟨rb,2,none⟩=some (.slice (some ⟨g,0,none⟩) L.length cap)∧(∃u,W.cell? ⟨g,k*5+2,none⟩=some u)∧W.frozen? ⟨g,k*5+2,none⟩=false∧L.length≤cap∧g≠rb∧∀x:List UInt8,RW W0 (W.setCell ⟨g,k*5+2,none⟩ (.string ⟨x.toArray⟩)) rb B s i (withText L k x) f bad dep:=by obtain⟨nv,AV,KV,er,at_,h1,h2,h3⟩:=h.mem;obtain⟨g,cap,rfl,hBg,hgl,hc,_⟩:=h3.nr.form (by omega);have hrb:=h.rbB;refine⟨g,cap,h1.c2,⟨_,h3.nr.cell hk rfl⟩,h3.nr.frozen _,hc,by omega,fun x=>?_⟩;have hgs:=gr_set W g (k*5+2) (.string ⟨x.toArray⟩);refine⟨h.il,fun e=>by rw[withText_len];exact h.ll e,fun j=>by rw[withText_kids hk,withText_len];exact h.kl j,h.rbB,by simpa[World.setCell]using h.le,h.fr.trans (Fr.own hgs h.le (fun q e=>by injection e with e;omega)),_,AV,KV,er,at_,RS.other h1 (by omega) _,h2,h3.setText hk x⟩
end
end Go.Proofs.YtnponhbgicbkcaaGreatDoor
