import Derived.Test.YtmbefonnkkhfgaaGreatDoorQ08
import Derived.Deep.Cut
import Derived.Deep.CutRange
import Derived.Test.YtmbefonnkkhfgaaGreatDoorQ00
set_option linter.unusedVariables false
set_option maxRecDepth 100000
set_option maxHeartbeats 16000000
namespace Go.Proofs.YtmbefonnkkhfgaaGreatDoor
section
open Go.RowKit
def Row12(W:World)(b:Nat)(v:Nat->Value):Prop:=b<W.heap.size∧∀k,k<12->W.cell? ⟨b,k,none⟩=some (v k)∧W.frozen? ⟨b,k,none⟩=false
theorem frozen_block{W W':World}{b:Nat}(h:W'.heap[b]?=W.heap[b]?)(k:Nat):W'.frozen? ⟨b,k,none⟩=W.frozen? ⟨b,k,none⟩:=by unfold World.frozen?;rw[h]
theorem Row12.keep{W W':World}{b:Nat}{v:Nat->Value}(h:Row12 W b v)(hz:W.heap.size≤W'.heap.size)(hb:W'.heap[b]?=W.heap[b]?):Row12 W' b v:=
 ⟨Nat.lt_of_lt_of_le h.1 hz,fun k hk=>⟨(World.cell?_of_block (a:=⟨b,k,none⟩) hb).trans (h.2 k hk).1,(frozen_block hb k).trans (h.2 k hk).2⟩⟩
theorem Row12.grown{W W':World}{b r:Nat}{v:Nat->Value}(h:Row12 W b v)(g:W.grownBy W' (some r))(hr:b≠r):Row12 W' b v:=h.keep g.size (g.block b h.1 (fun e=>hr (by injection e)))
theorem Row12.below{W W':World}{b:Nat}{v:Nat->Value}(h:Row12 W b v)(g:Below W.heap.size W W'):Row12 W' b v:=h.keep g.size (g.block b h.1)
theorem Row12.set{W:World}{b k:Nat}{v:Nat->Value}(h:Row12 W b v)(hk:k<12)(u:Value):Row12 (W.setCell ⟨b,k,none⟩ u) b (fun j=>if j=k then u else v j):=by
 refine⟨by simpa[World.setCell]using h.1,fun j hj=>⟨?_,(World.frozen?_setCell _ _ _ _).trans (h.2 j hj).2⟩⟩;by_cases e:j=k;·subst e;show _=some (if j=j then u else v j);rw[if_pos rfl];exact World.cell?_setCell_same _ _ _ (h.2 j hj).1
 ·show _=some (if j=k then u else v j);rw[if_neg e,World.cell?_setCell_other _ _ _ _ (fun q=>by injection q with _ q _;exact e q.symm)];exact(h.2 j hj).1
theorem Row12.other{W:World}{b b' k:Nat}{v:Nat->Value}(h:Row12 W b v)(hb:b≠b')(u:Value):Row12 (W.setCell ⟨b',k,none⟩ u) b v:=
 h.keep (by simp[World.setCell]) (Below.heap_setCell W ⟨b',k,none⟩ u b hb)
theorem RS.other{W:World}{rb b k:Nat}{s:ByteArray}{i:Nat}{lv:Value}{bad er at_ dep:Int}(h:RS W rb s i lv bad er at_ dep)(hb:rb≠b)(u:Value):RS (W.setCell ⟨b,k,none⟩ u) rb s i lv bad er at_ dep:=by have hh:=Below.heap_setCell W ⟨b,k,none⟩ u rb hb;have c:=fun j=>World.cell?_of_block (a:=⟨rb,j,none⟩) hh;exact⟨by simpa[World.setCell]using h.lt,(c 0).trans h.c0,(c 1).trans h.c1,(c 2).trans h.c2,(c 3).trans h.c3,(c 4).trans h.c4,(c 5).trans h.c5,(c 6).trans h.c6,fun j=>(frozen_block hh j).trans (h.fz j)⟩
structure AS(w wi:World)(rb ab sb:Nat)(s:ByteArray)(i:Nat)(lv:Value)(bad dep:Int)(f:Flt)(j:Nat)(a:List Int)(seen:List Nat):Prop where
 rs:∃er at_,RS wi rb s i lv bad er at_ dep∧FL er at_ f j
 len:a.length=12
 ar:Row12 wi ab (fun k=>Iq (a[k]?.getD 0))
 sr:Row12 wi sb (fun k=>.bool (seen.contains k))
 gr:w.grownBy wi (some rb)
structure AB(w:World)(rb ab sb:Nat):Prop where
 r:rb<w.heap.size
 a:w.heap.size≤ab
 s:w.heap.size≤sb
 ne:ab≠sb
section
variable{w wi wj:World} {rb ab sb:Nat} {s:ByteArray} {i i' j j':Nat} {lv:Value} {bad bad' dep:Int} {f f':Flt} {a:List Int} {seen:List Nat}
theorem AS.next(h:AS w wi rb ab sb s i lv bad dep f j a seen)(hB:AB w rb ab sb){er at_:Int}(hr:RS wj rb s i' lv bad' er at_ dep)(hf:FL er at_ f' j')(hg:wi.grownBy wj (some rb)):AS w wj rb ab sb s i' lv bad' dep f' j' a seen:=
 ⟨⟨er,at_,hr,hf⟩,h.len,h.ar.grown hg (by have:=hB.r;have:=hB.a;omega),h.sr.grown hg (by have:=hB.r;have:=hB.s;omega),gr_trans h.gr hg⟩
theorem AS.below(h:AS w wi rb ab sb s i lv bad dep f j a seen)(hb:Below wi.heap.size wi wj):AS w wj rb ab sb s i lv bad dep f j a seen:=by obtain⟨er,at_,h1,h2⟩:=h.rs;exact⟨⟨er,at_,h1.below hb,h2⟩,h.len,h.ar.below hb,h.sr.below hb,gr_trans h.gr (gr_below hb)⟩
theorem AS.on(h:AS w wi rb ab sb s i lv bad dep f j a seen)(hj:j≤j'):AS w wi rb ab sb s i lv bad dep f j' a seen:=by obtain⟨er,at_,h1,h2⟩:=h.rs;exact⟨⟨er,at_,h1,h2.on hj⟩,h.len,h.ar,h.sr,h.gr⟩
theorem gr_new{W0 W:World}{r b k:Nat}{u:Value}(h:W0.grownBy W (some r))(hb:W0.heap.size≤b):W0.grownBy (W.setCell ⟨b,k,none⟩ u) (some r):=
 ⟨h.os,h.tape,h.output,by simpa[World.setCell]using h.size,fun c hc hr=>(Below.heap_setCell W ⟨b,k,none⟩ u c (by show c≠b;omega)).trans (h.block c hc hr)⟩
theorem AS.setA(h:AS w wi rb ab sb s i lv bad dep f j a seen)(hB:AB w rb ab sb){k:Nat}(hk:k<12)(n:Int):AS w (wi.setCell ⟨ab,k,none⟩ (Iq n)) rb ab sb s i lv bad dep f j (a.set k n) seen:=by
 obtain⟨er,at_,h1,h2⟩:=h.rs;have hr:=hB.r;have ha:=hB.a;refine⟨⟨er,at_,h1.other (by omega) _,h2⟩,by rw[List.length_set];exact h.len,?_,h.sr.other (fun e=>hB.ne e.symm) _,gr_new h.gr ha⟩;have e:(fun j=>if j=k then Iq n else Iq (a[j]?.getD 0))=fun j=>Iq ((a.set k n)[j]?.getD 0):=by
  funext j;by_cases hj:j=k;·subst hj;rw[if_pos rfl,List.getElem?_set_self (by rw[h.len];exact hk)];rfl
  ·rw[if_neg hj,List.getElem?_set_ne (fun e=>hj e.symm)]
 have:=h.ar.set hk (Iq n);rw[e]at this;exact this
theorem AS.setS(h:AS w wi rb ab sb s i lv bad dep f j a seen)(hB:AB w rb ab sb){k:Nat}(hk:k<12):AS w (wi.setCell ⟨sb,k,none⟩ (.bool true)) rb ab sb s i lv bad dep f j a (k::seen):=by
 obtain⟨er,at_,h1,h2⟩:=h.rs;have hr:=hB.r;have ha:=hB.s;refine⟨⟨er,at_,h1.other (by omega) _,h2⟩,h.len,h.ar.other hB.ne _,?_,gr_new h.gr ha⟩;have e:(fun j=>if j=k then Value.bool true else .bool (seen.contains j))=fun j=>.bool ((k::seen).contains j):=by
  funext j;by_cases hj:j=k;·subst hj;simp
  ·rw[if_neg hj];simp[hj]
 have:=h.sr.set hk (.bool true);rw[e]at this;exact this
end
def IdsAt(w:World)(rb:Nat)(lv:Value)(L:List Nd):Prop:=(L=[]∧lv=.slice none 0 0)∨∃(g cap:Nat) (AV:Nat->Nat),lv=Sq g L.length cap∧g<w.heap.size∧g≠rb∧∀k,k<L.length->w.cell? ⟨g,k*5+1,none⟩=some (Sq (AV k) 12 12)∧AV k<w.heap.size∧AV k≠rb∧w.cell? ⟨AV k,0,none⟩=some (Iq ((L.map (fun d=>d.attr[0]?.getD 0))[k]?.getD 0))
theorem hasId_take(L:List Nd)(n:Int)(k:Nat)(hk:k<L.length):hasId (L.take (k+1)) n=(hasId (L.take k) n||((L.map (fun d=>d.attr[0]?.getD 0))[k]?.getD 0==n)):=by unfold hasId;rw[List.take_succ_eq_append_getElem hk,List.any_append];simp[hk]
theorem addIf_or(f:Flt)(b b':Bool)(c p:Nat):addIf (b||b') f c p=addIf b' (addIf b f c p) c p:=by cases b<;>cases b'<;>cases f<;>rfl
def AI(s:ByteArray)(kind:Nat)(L:List Nd)(R:Except Nat (Nat×Flt×List Int))(bad0:Int)(more:Bool)(i:Nat)(bad:Int)(f:Flt)(a:List Int)(seen:List Nat):Prop:=
 (bad=bad0∧more=true∧∃fuel,s.size-i<fuel∧attrsF s kind L fuel i f a seen=R)∨(bad=bad0∧more=false∧closeR s i f a=R)∨(0≤bad∧more=false∧R=.error bad.toNat)
theorem AI.round{s:ByteArray}{kind:Nat}{L:List Nd}{R:Except Nat (Nat×Flt×List Int)}{bad0:Int}(hb:bad0<0){i:Nat}{f:Flt}{a:List Int}{seen:List Nat}(hi:i≤s.size){fuel:Nat}(hf:s.size-i<fuel)(h:attrsF s kind L fuel i f a seen=R):
 AI s kind L R bad0 (gB s (step1 s i bad0).i 59 (step1 s i bad0).bad) (mI s (step1 s i bad0).i 59 (step1 s i bad0).bad) (step1 s i bad0).bad (fa kind L f a seen (step1 s i bad0)).1 (fa kind L f a seen (step1 s i bad0)).2.1 (fa kind L f a seen (step1 s i bad0)).2.2
 ∧(gB s (step1 s i bad0).i 59 (step1 s i bad0).bad=true->i<mI s (step1 s i bad0).i 59 (step1 s i bad0).bad):=by
 obtain⟨g,rfl⟩:∃g,fuel=g+1:=⟨fuel-1,by omega⟩;have pl:=step1_places s i bad0;have sz:=step1_size s i bad0 hi;have hst:=attr1_step s kind L i f a seen bad0 hb;obtain⟨q,hq⟩:=nmd (fa kind L f a seen (step1 s i bad0));rw[hq]at hst⊢;clear hq;obtain⟨f2,a2,s2⟩:=q;simp only;rcases hst with⟨h1,h2⟩|⟨h1,h2⟩
 ·rw[h1];have hg:gB s (step1 s i bad0).i 59 bad0=isAt s (step1 s i bad0).i 59:=by unfold gB;rw[if_pos hb]
  have hm:mI s (step1 s i bad0).i 59 bad0=gotI s (step1 s i bad0).i 59:=by unfold mI;rw[if_pos hb]
  rw[hg,hm];by_cases hat:isAt s (step1 s i bad0).i 59=true
  ·have hgot:gotI s (step1 s i bad0).i 59=sk s (step1 s i bad0).i+1:=by unfold gotI;rw[if_pos (by unfold isAt at hat;simpa using hat)]
   have:=sk_ge s (step1 s i bad0).i;have hle:=gotI_le (c:=59) (by omega) sz;rw[hgot]at hle;refine⟨.inl ⟨rfl,hat,g,?_,?_⟩,fun _=>by omega⟩;·rw[hgot];omega
   ·rw[<-h,attrsF_more h2 hat]
  ·have hgot:gotI s (step1 s i bad0).i 59=sk s (step1 s i bad0).i:=by unfold gotI;rw[if_neg (by unfold isAt at hat;simpa using hat)]
   refine⟨.inr (.inl ⟨rfl,by simpa using hat,?_⟩),fun e=>absurd e hat⟩;rw[hgot,closeR_sk,<-h,attrsF_last h2 hat]
 ·have hn:¬(step1 s i bad0).bad<0:=by omega
  have hg:gB s (step1 s i bad0).i 59 (step1 s i bad0).bad=false:=by unfold gB;rw[if_neg hn]
  rw[hg];refine⟨.inr (.inr ⟨h1,rfl,?_⟩),fun e=>by cases e⟩;rw[<-h,attrsF_err h2]
def moreOf:Value->Bool
 |.bool b=>b
 |_=>false
end
section
open Go.RowKit Go.Proofs.Tryz
def AtOut(w w':World)(e:Ending)(rb:Nat)(s:ByteArray)(lv:Value)(bad0 dep:Int)(R:Except Nat (Nat×Flt×List Int)):Prop:=
 ∃(ab:Nat) (a:List Int) (i:Nat) (bad er at_:Int),e=.returned (Sq ab 12 12)∧w.heap.size≤ab∧a.length=12∧Row12 w' ab (fun k=>Iq (a[k]?.getD 0))∧w.grownBy w' (some rb)∧RS w' rb s i lv bad er at_ dep∧i≤s.size∧
  match R with
  |.error b=>bad=(b:Int)
  |.ok (i2,f2,a2)=>bad=bad0∧i=i2∧a=a2∧FL er at_ f2 i2
theorem attrs_any(rb:Nat)(s:ByteArray)(i:Nat)(lv:Value)(bad er at_ dep:Int)(kind:Nat)(L:List Nd)(f:Flt)(w:World)(h:RS w rb s i lv bad er at_ dep)(hf:FL er at_ f i)(hL:IdsAt w rb lv L)(hs:s.size≤1073741824)(hi:i≤s.size)(hb:bad<0)(hk:kind<7)(hLl:L.length≤1073741824):
 Calls prog 46 #[Pq rb,Iq (kind:Int)] w fun e w'=>AtOut w w' e rb s lv bad dep (attrsR s kind L i f):=by
 have HR0:=qH<|h;have HF0:=qH<|hf;have HL:=qH<|hL;obtain⟨R,hR⟩:=nmd (attrsR s kind L i f);have HRR:=qH<|hR;rw[hR];go_enter func46,ntmps46;go_wp2_with fail;refine Calls.mono (without_any w) ?_;rintro e w1 ⟨rfl,hw,hsz,b1⟩;obtain⟨ab,hab⟩:=nmd w.heap.size;rw[hab]at hw hsz⊢;have HAB:=qH<|hab;have HB1:=qH<|b1;have HA1:Hid (Row12 w1 ab (fun k=>Iq (withoutL[k]?.getD 0))):=⟨hsz,fun k hk=>by have:=hw k hk;rw[Nat.zero_add]at this;exact this⟩;have GO:Hid (Calls prog 73 #[Pq rb,.int .u8 123] w1 fun e w'=>e=.returned (.bool (gB s i 123 bad))∧RS w' rb s (mI s i 123 bad) lv bad er at_ dep∧w1.grownBy w' (some rb)):=got_all rb s i lv bad er at_ dep 123 w1 (HR0.below HB1) (by omega) hi (by omega);have HrbL:=qH<|HR0.lt;go_wp2_with fail;refine Calls.mono GO ?_;rintro e w2 ⟨rfl,r2,g2⟩;have H2:Hid (RS w2 rb s (mI s i 123 bad) lv bad er at_ dep∧w.grownBy w2 (some rb)∧Row12 w2 ab (fun k=>Iq (withoutL[k]?.getD 0))):=⟨r2,gr_trans (gr_below HB1) g2,HA1.grown g2 (by have:=HrbL.out;have:=HAB.out;omega)⟩;have HM:Hid (mI s i 123 bad=gotI s i 123∧gB s i 123 bad=isAt s i 123):=by unfold mI gB;rw[if_pos hb,if_pos hb];exact⟨rfl,rfl⟩
 obtain⟨gg,hgg⟩:=nmd (gB s i 123 bad);have HGG:Hid (isAt s i 123=gg):=by show _=_;rw[<-HM.2];exact hgg
 rw[hgg];cases gg with
 |false=>
  go_wp2;go_ret;have hR:attrsR s kind L i f=.ok (sk s i,f,withoutL):=by unfold attrsR;rw[if_neg (by rw[HGG.out];simp)]
  have hgi:gotI s i 123=sk s i:=by unfold gotI;rw[if_neg (by have:=HGG.out;unfold isAt at this;simpa using this)]
  have hH:=H2.out;rw[HM.1,hgi]at hH;refine⟨ab,withoutL,sk s i,bad,er,at_,rfl,by rw[HAB.out];exact Nat.le_refl _,rfl,hH.2.2,hH.2.1,hH.1,sk_le s i hi,?_⟩;rw[<-HRR.out,hR];exact⟨rfl,rfl,rfl,HF0.on (sk_ge s i)⟩
 |true=>
  have HFU:Hid (attrsF s kind L (s.size+1) (gotI s i 123) f withoutL []=R):=by show _=_;rw[<-HRR.out];unfold attrsR;rw[if_pos HGG.out]
  have hgl:gotI s i 123≤s.size:=gotI_le (by omega) hi;have hgi:i≤gotI s i 123:=by unfold gotI;have:=sk_ge s i;split<;>omega
  have H3:Hid (RS w2 rb s (gotI s i 123) lv bad er at_ dep∧w.grownBy w2 (some rb)∧Row12 w2 ab (fun k=>Iq (withoutL[k]?.getD 0))):=by have:=H2.out;rw[HM.1]at this;exact this
  obtain⟨i0,hi0⟩:=nmd (gotI s i 123);rw[hi0]at HFU hgl hgi H3;have HF1:=qH<|HF0.on hgi;have hmk:∀w:World,(Instr.makeSlice 142 (Iq 12) (Iq 12)).run prog w=.ok (Sq w.heap.size 12 12) (w.alloc (.cells #[.bool false,.bool false,.bool false,.bool false,.bool false,.bool false,.bool false,.bool false,.bool false,.bool false,.bool false,.bool false] 4)):=fun w=>by kernel_rfl
  obtain⟨sb,hsb⟩:=nmd w2.heap.size;obtain⟨w3,hw3⟩:=nmd (w2.alloc (.cells #[.bool false,.bool false,.bool false,.bool false,.bool false,.bool false,.bool false,.bool false,.bool false,.bool false,.bool false,.bool false] 4));have AB0:Hid (AB w rb ab sb):=by have h3:=H3.2.2.1;exact⟨HrbL,by omega,by omega,by omega⟩
  have A0:Hid (AS w w3 rb ab sb s i0 lv bad dep f i0 withoutL []):=by
   have b3:Below w2.heap.size w2 w3:=by rw[<-hw3];exact(Below.refl _ _).alloc (Nat.le_refl _) _
   have hb3:w3.heap[sb]?=some (.cells #[.bool false,.bool false,.bool false,.bool false,.bool false,.bool false,.bool false,.bool false,.bool false,.bool false,.bool false,.bool false] 4 (0,0)):=by rw[<-hw3,<-hsb];exact heap_alloc_new _ _
   refine⟨⟨er,at_,H3.1.below b3,HF1⟩,rfl,H3.2.2.below b3,⟨(Array.getElem?_eq_some_iff.1 hb3).1,fun k hk=>⟨?_,frozen_of_row _ _ _ _ _ hb3⟩⟩,gr_trans H3.2.1 (gr_below b3)⟩;rcases(by omega:k=0∨k=1∨k=2∨k=3∨k=4∨k=5∨k=6∨k=7∨k=8∨k=9∨k=10∨k=11)with rfl|rfl|rfl|rfl|rfl|rfl|rfl|rfl|rfl|rfl|rfl|rfl<;>simp[World.cell?,hb3]
  go_wp2_with fail;go_loopw[7] (fun mv wi=>∃(more:Bool) (i1:Nat) (b1:Int) (f1:Flt) (a1:List Int) (seen1:List Nat),mv=.bool more∧i1≤s.size∧Hid (AI s kind L R bad more i1 b1 f1 a1 seen1)∧Hid (AS w wi rb ab sb s i1 lv b1 dep f1 i1 a1 seen1)) (fun mv wi=>if moreOf mv then s.size+1-rdI wi rb else 0);case atStart=>exact⟨true,i0,bad,f,withoutL,[],rfl,hgl,.inl ⟨rfl,rfl,s.size+1,by omega,HFU⟩,A0⟩
  case round=>
   obtain⟨more,i1,b1,f1,a1,seen1,rfl,hi1,HI,HA⟩:=hrel;obtain⟨er1,at1,r1,fl1⟩:=HA.rs;have c3:=r1.c3;have HRd:=qH<|r1.rdI;rcases HI.out with⟨rfl,rfl,fuel,hfu,hat⟩|⟨rfl,rfl,hcl⟩|⟨hb1,rfl,hbad⟩
   ·have HND:=qH<|AI.round hb hi1 hfu hat;have SK:=qH<|skip_any rb s i1 lv b1 er1 at1 dep wr r1 (by omega) hi1;have HF1:=qH<|fl1;have pl:=step1_places s i1 b1;have ssz:=step1_size s i1 b1 hi1;have six:=step1_ix s i1 b1;have sn:=step1_n s i1 b1;have hskle:=sk_le s i1 hi1;go_wp2_with fail;refine Calls.mono SK ?_;rintro e w4 ⟨rfl,r4,g4⟩;have A4:Hid (AS w w4 rb ab sb s (sk s i1) lv b1 dep f1 i1 a1 seen1∧RS w4 rb s (sk s i1) lv b1 er1 at1 dep):=⟨HA.next AB0 r4 HF1 g4,r4⟩;have c1:=r4.c1;have WO:=qH<|word_all rb s (sk s i1) lv b1 er1 at1 dep w4 r4 (by omega) hskle;go_wp2_with fail;refine Calls.mono WO ?_;rintro e w5 ⟨rfl,r5,g5⟩;have A5:=qH<|A4.1.next AB0 r5 HF1 g5;have MU:Hid (Calls prog 48 #[Pq rb,.int .u8 61] w5 fun e w'=>e=.returned (.tuple #[])∧RS w' rb s (mI s (wI s (sk s i1) b1) 61 (wB s (sk s i1) b1)) lv (mB s (wI s (sk s i1) b1) 61 (wB s (sk s i1) b1)) er1 at1 dep∧w5.grownBy w' (some rb)):=must_all rb s (wI s (sk s i1) b1) lv (wB s (sk s i1) b1) er1 at1 dep 61 w5 r5 (by omega) (wI_le _ hskle) (by omega);go_wp2_with fail;refine Calls.mono MU ?_;rintro e w6 ⟨rfl,r6,g6⟩;have A6:=qH<|A5.next AB0 r6 HF1 g6;have NU:Hid (Calls prog 74 #[Pq rb] w6 fun e w'=>e=.returned (.tuple #[Iq (step1 s i1 b1).n,Iq ((step1 s i1 b1).p:Int)])∧RS w' rb s (step1 s i1 b1).i lv (step1 s i1 b1).bad er1 at1 dep∧w6.grownBy w' (some rb)):=number_all rb s (mI s (wI s (sk s i1) b1) 61 (wB s (sk s i1) b1)) lv (mB s (wI s (sk s i1) b1) 61 (wB s (sk s i1) b1)) er1 at1 dep w6 r6 (by omega) (mI_le _ (by omega) (wI_le _ hskle));have HXW:Hid (findF namesL (wS s (sk s i1) b1) 0=(step1 s i1 b1).ix∧sk s i1=(step1 s i1 b1).at_):=⟨rfl,rfl⟩;clear r6 g6 MU A5;obtain⟨st,hst⟩:=nmd (step1 s i1 b1);rw[hst]at HND pl ssz six sn NU HXW;clear hst;go_wp2_with fail;refine Calls.mono NU ?_;rintro e w7 ⟨rfl,r7,g7⟩;have A7:=qH<|A6.next AB0 r7 HF1 g7;clear r7 g7 NU A6;go_wp2_with fail;refine Calls.mono (names_any w7) ?_;rintro e w8 ⟨rfl,hn8,hl8,b8⟩;have A8:=qH<|A7.below b8;have FI:Hid (Calls prog 43 #[Sq w7.heap.size 12 12,.string (wS s (sk s i1) b1)] w8 fun e w'=>e=.returned (Iq st.ix)∧w'=w8):=by have:=find_any namesL (wS s (sk s i1) b1) w7.heap.size 0 12 12 w8 hl8 hn8 rfl (by omega);rw[HXW.1]at this;exact this
    clear hn8 hl8 b8 A7;go_wp2_with fail;refine Calls.mono FI ?_;rintro e w9 ⟨rfl,hw9⟩;obtain rfl:=hw9.symm;clear FI;rw[HXW.2];obtain⟨si,sbad,sN,sp,sat,sx⟩:=st;simp only at HND pl ssz six sn HXW A8⊢;generalize wS s sat b1=tx;clear HXW hskle;by_cases hA:sx<0∨ownsB kind sx.toNat=false
    ·have HFA:Hid (fa kind L f1 a1 seen1 ⟨si,sbad,sN,sp,sat,sx⟩=(addF f1 7 sat,a1,seen1)):=if_pos hA;obtain⟨er8,at8,r8,fl8⟩:=A8.rs;have WR:=qH<|wrong_any rb s si lv sbad er8 at8 dep 7 sat w8 r8;have HF8:Hid (FL (wrE er8 at8 7 sat) (wrA at8 sat) (addF f1 7 sat) si):=(fl8.add 7 sat (by omega)).on (by omega);clear r8 fl8;have hA2:sx<0∨(¬sx<0∧∃x:Nat,sx=x∧x<12∧ownsB kind x=false):=by
      by_cases h0:sx<0;·exact .inl h0
      ·refine .inr ⟨h0,sx.toNat,by omega,by omega,hA.resolve_left h0⟩
     clear hA;rcases hA2 with h0|⟨h0,x,rfl,hx12,hown⟩
     ·have hd0:=decide_eq_true h0;go_wp2_with fail;refine Calls.mono WR ?_;rintro e w9 ⟨rfl,r9',g9'⟩;have A9:=qH<|A8.next AB0 r9' HF8 g9';clear r9' g9' WR;obtain⟨er9,at9,r9,fl9⟩:=A9.rs;have GO:Hid (Calls prog 73 #[Pq rb,.int .u8 59] w9 fun e w'=>e=.returned (.bool (gB s si 59 sbad))∧RS w' rb s (mI s si 59 sbad) lv sbad er9 at9 dep∧w9.grownBy w' (some rb)):=got_all rb s si lv sbad er9 at9 dep 59 w9 r9 (by omega) ssz (by omega);have HF9:=qH<|fl9;have hmi:si≤mI s si 59 sbad:=by
       unfold mI;split;·unfold gotI;have:=sk_ge s si;split<;>omega
       ·exact sk_ge s si
      have hml:mI s si 59 sbad≤s.size:=mI_le _ (by omega) ssz;clear r9 fl9;go_wp2_with fail;refine Calls.mono GO ?_;rintro e wz ⟨rfl,rz,gz⟩;have AZ:=qH<|A9.next AB0 rz (HF9.on hmi) gz;have HRZ:=qH<|rz.rdI;clear rz gz GO;have HN1:Hid (AI s kind L R b1 (gB s si 59 sbad) (mI s si 59 sbad) sbad (addF f1 7 sat) (a1) (seen1)):=by have:=HND.1;rw[HFA.out]at this;exact this
      have HN2:=qH<|HND.2;obtain⟨gb,hgb⟩:=nmd (gB s si 59 sbad);rw[hgb]at HN1 HN2⊢;clear hgb;go_wp2_with fail;go_roundw;case rel=>exact⟨gb,mI s si 59 sbad,sbad,_,_,_,rfl,hml,HN1,AZ⟩
      case measure=>
       rw[HRZ.out,HRd.out];cases gb with
       |false=>show 0<s.size+1-i1;omega
       |true=>have:=HN2 rfl;show s.size+1-mI s si 59 sbad<s.size+1-i1;omega
     ·have hd0:=decide_eq_false h0;have OW:Hid (Calls prog 76 #[Iq (kind:Int),Iq (x:Int)] w8 fun e w'=>e=.returned (.bool false)∧w'=w8):=by have:=owns_any kind x hk hx12 w8;rw[hown]at this;exact this
      go_wp2_with(go_at_call 76;refine Calls.mono OW ?_;rintro e wo ⟨rfl,hwo⟩;obtain rfl:=hwo.symm);refine Calls.mono WR ?_;rintro e w9 ⟨rfl,r9',g9'⟩;have A9:=qH<|A8.next AB0 r9' HF8 g9';clear r9' g9' WR OW;obtain⟨er9,at9,r9,fl9⟩:=A9.rs;have GO:Hid (Calls prog 73 #[Pq rb,.int .u8 59] w9 fun e w'=>e=.returned (.bool (gB s si 59 sbad))∧RS w' rb s (mI s si 59 sbad) lv sbad er9 at9 dep∧w9.grownBy w' (some rb)):=got_all rb s si lv sbad er9 at9 dep 59 w9 r9 (by omega) ssz (by omega);have HF9:=qH<|fl9;have hmi:si≤mI s si 59 sbad:=by
       unfold mI;split;·unfold gotI;have:=sk_ge s si;split<;>omega
       ·exact sk_ge s si
      have hml:mI s si 59 sbad≤s.size:=mI_le _ (by omega) ssz;clear r9 fl9;go_wp2_with fail;refine Calls.mono GO ?_;rintro e wz ⟨rfl,rz,gz⟩;have AZ:=qH<|A9.next AB0 rz (HF9.on hmi) gz;have HRZ:=qH<|rz.rdI;clear rz gz GO;have HN1:Hid (AI s kind L R b1 (gB s si 59 sbad) (mI s si 59 sbad) sbad (addF f1 7 sat) (a1) (seen1)):=by have:=HND.1;rw[HFA.out]at this;exact this
      have HN2:=qH<|HND.2;obtain⟨gb,hgb⟩:=nmd (gB s si 59 sbad);rw[hgb]at HN1 HN2⊢;clear hgb;go_wp2_with fail;go_roundw;case rel=>exact⟨gb,mI s si 59 sbad,sbad,_,_,_,rfl,hml,HN1,AZ⟩
      case measure=>
       rw[HRZ.out,HRd.out];cases gb with
       |false=>show 0<s.size+1-i1;omega
       |true=>have:=HN2 rfl;show s.size+1-mI s si 59 sbad<s.size+1-i1;omega
    ·obtain⟨x,rfl⟩:∃x:Nat,sx=x:=⟨sx.toNat,by omega⟩;have hx12:x<12:=by omega
     have hown:ownsB kind x=true:=by have:¬ownsB kind ((x:Int)).toNat=false:=fun e=>hA (.inr e);simpa using this
     have HFA:Hid (fa kind L f1 a1 seen1 ⟨si,sbad,sN,sp,sat,x⟩=(addIf (decide ((x:Int)=0∧0<sN)&&hasId L sN) (addIf (decide (mostL[x]?.getD 0<sN)) (addIf (seen1.contains x) f1 5 sat) 6 sp) 5 sp,a1.set x sN,x::seen1)):=if_neg hA;have hd0:decide ((x:Int)<0)=false:=decide_eq_false (by omega);have OW:Hid (Calls prog 76 #[Iq (kind:Int),Iq (x:Int)] w8 fun e w'=>e=.returned (.bool true)∧w'=w8):=by have:=owns_any kind x hk hx12 w8;rw[hown]at this;exact this
     clear hA hown six;have hsr:w8.cell? ⟨sb,x,none⟩=some (.bool (seen1.contains x)):=(A8.sr.2 x hx12).1;obtain⟨bs,hbs⟩:=nmd (seen1.contains x);rw[hbs]at HFA hsr;clear hbs;go_upto_if 64 with(go_at_call 76;refine Calls.mono OW ?_;rintro e wo ⟨rfl,hwo⟩;obtain rfl:=hwo.symm);clear hsr OW;go_cut[67]from 65 to 66 (fun _ wx=>Hid (AS w wx rb ab sb s si lv sbad dep (addIf bs f1 5 sat) sat a1 seen1));case first=>
      cases bs with
      |false=>go_wp2_with fail;go_meet;exact A8.on pl.1
      |true=>obtain⟨er8,at8,r8,fl8⟩:=A8.rs;have WR:=qH<|wrong_any rb s si lv sbad er8 at8 dep 5 sat w8 r8;have HF8:Hid (FL (wrE er8 at8 5 sat) (wrA at8 sat) (addIf true f1 5 sat) sat):=fl8.add 5 sat pl.1;clear r8 fl8;go_wp2_with fail;refine Calls.mono WR ?_;rintro e w9 ⟨rfl,r9,g9⟩;have A9:=qH<|A8.next AB0 r9 HF8 g9;clear r9 g9 WR;go_wp2_with fail;go_meet;exact A9
     case rest=>
      obtain⟨f2,hf2⟩:=nmd (addIf bs f1 5 sat);rw[hf2]at hcut HFA;have A9:=hcut;clear hf2 hcut;have hs0:wc.cell? ⟨sb,x,none⟩=some (.bool (seen1.contains x)):=(A9.sr.2 x hx12).1;have hs1:=(A9.sr.2 x hx12).2;obtain⟨wd,hwd⟩:=nmd (wc.setCell ⟨sb,x,none⟩ (.bool true));have AD:Hid (AS w wd rb ab sb s si lv sbad dep (f2) sat a1 (x::seen1)):=by rw[<-hwd];exact A9.setS AB0 hx12
      go_wp2_with fail;clear hwd hs0 hs1;refine Calls.mono (most_any wd) ?_;rintro e we ⟨rfl,hm,hml,be⟩;have AE:=qH<|AD.below be;have hmx:=(hm x hx12).1;rw[Nat.zero_add]at hmx;obtain⟨mo,hmo⟩:=nmd (mostL[x]?.getD 0);rw[hmo]at hmx HFA;clear hmo hm hml be;go_upto_if 76 with fail;clear hmx;go_cut[76,79]from 77 to 78 (fun _ _ wx=>Hid (AS w wx rb ab sb s si lv sbad dep (addIf (decide (mo<sN)) f2 6 sp) sp a1 (x::seen1)));case first=>
       by_cases hgt:mo<sN
       ·have hde:=decide_eq_true hgt;obtain⟨er8,at8,r8,fl8⟩:=AE.rs;have WR:=qH<|wrong_any rb s si lv sbad er8 at8 dep 6 sp we r8;have HF8:Hid (FL (wrE er8 at8 6 sp) (wrA at8 sp) (addIf (decide (mo<sN)) f2 6 sp) sp):=by rw[hde];exact fl8.add 6 sp pl.2.1
        clear r8 fl8;go_wp2_with fail;refine Calls.mono WR ?_;rintro e w9 ⟨rfl,r9,g9⟩;have A9:=qH<|AE.next AB0 r9 HF8 g9;clear r9 g9 WR;go_wp2_with fail;go_meet;exact A9
       ·have hde:=decide_eq_false hgt;have A9:Hid (AS w we rb ab sb s si lv sbad dep (addIf (decide (mo<sN)) f2 6 sp) sp a1 (x::seen1)):=by rw[hde];exact AE.on pl.2.1
        go_wp2_with fail;go_meet;exact A9
      case rest=>
       obtain⟨f3,hf3⟩:=nmd (addIf (decide (mo<sN)) f2 6 sp);rw[hf3]at hcut HFA;have A9:=hcut;clear hf3 hcut;go_upto_region 21 with fail;go_cut[85]from 80 to 84 (fun v wx=>v=.bool (decide ((x:Int)=0∧0<sN))∧Hid (AS w wx rb ab sb s si lv sbad dep (f3) sp a1 (x::seen1)));case first=>
        have hx2:(((x:Int)==0)=false∧decide ((x:Int)=0∧0<sN)=false)∨(((x:Int)==0)=true∧decide (0<sN)=false∧decide ((x:Int)=0∧0<sN)=false)∨(((x:Int)==0)=true∧decide (0<sN)=true∧decide ((x:Int)=0∧0<sN)=true):=by simp only[beq_eq_false_iff_ne,beq_iff_eq,decide_eq_false_iff_not,decide_eq_true_eq];omega
        rcases hx2 with⟨e1,e3⟩|⟨e1,e2,e3⟩|⟨e1,e2,e3⟩;all_goals have E3:=qH<|e3;clear e3;go_wp2_with fail;go_meet;exact⟨by rw[E3.out],A9⟩
       case rest=>
        obtain⟨rfl,A10⟩:=hcut;clear A9;have A9:=qH<|A10.out;clear A10;obtain⟨bd,hbd⟩:=nmd (decide ((x:Int)=0∧0<sN));have HBD:Hid (bd=true->x=0∧0<sN):=fun e=>by have:=hbd.trans e;have:=of_decide_eq_true this;omega
        rw[hbd]at HFA⊢;clear hbd;go_upto_if 85 with fail;go_cut[13]from 86 to 109 (fun _ wx=>Hid (AS w wx rb ab sb s si lv sbad dep (addIf (bd&&hasId L sN) f3 5 sp) sp a1 (x::seen1)));case first=>
         cases bd with
         |true=>
          obtain⟨rfl,hn0⟩:=HBD rfl;go_wp2_with fail;go_loopw[13] (fun iv wi=>∃k:Nat,k≤L.length∧iv=Iq k∧Hid (AS w wi rb ab sb s si lv sbad dep (addIf (hasId (L.take k) sN) f3 5 sp) sp a1 (0::seen1))) (fun iv _=>L.length-(intOf iv).toNat);case atStart=>exact⟨0,Nat.zero_le _,rfl,A9⟩
          case round=>
           obtain⟨k,hkL,rfl,HI⟩:=hrel;obtain⟨er8,at8,r8,fl8⟩:=HI.rs;have c2:=r8.c2;rcases HL.out with⟨rfl,rfl⟩|⟨g,cap,AV,rfl,hg,hgr,hcells⟩
           ·have hk0:k=0:=by simpa using hkL
            subst hk0;clear r8 fl8;go_wp2_with fail;go_meet;exact HI
           ·by_cases hlt:k<L.length
            ·have hlt':(k:Int)<(L.length:Int):=by omega
             obtain⟨d1,d2,d3,d4⟩:=hcells k hlt;have q1:=HI.gr.cell d1 (by simpa using hgr);have q4:=HI.gr.cell d4 (by simpa using d3);have HT:=qH<|hasId_take L sN k hlt;obtain⟨vv,hvv⟩:=nmd ((L.map (fun d=>d.attr[0]?.getD 0))[k]?.getD 0);rw[hvv]at q4 HT;clear hvv hcells d1 d2 d3 d4;by_cases heq:vv=sN
             ·have hbe:(vv==sN)=true:=by simpa using heq
              have WR:=qH<|wrong_any rb s si (Sq g L.length cap) sbad er8 at8 dep 5 sp wr r8;have HF8:Hid (FL (wrE er8 at8 5 sp) (wrA at8 sp) (addIf (hasId (L.take (k+1)) sN) f3 5 sp) sp):=by show FL _ _ _ _;rw[HT.out,hbe,addIf_or];exact fl8.add 5 sp (Nat.le_refl _)
              clear r8 fl8;go_wp2_with fail;refine Calls.mono WR ?_;rintro e w9 ⟨rfl,r9,g9⟩;have AX:=qH<|HI.next AB0 r9 HF8 g9;clear r9 g9 WR;go_wp2_with fail;go_roundw;case rel=>exact⟨k+1,by omega,by go_num,AX⟩
              case measure=>simp[intOf];omega
             ·have hbe:(vv==sN)=false:=by simpa using heq
              have AX:Hid (AS w wr rb ab sb s si (Sq g L.length cap) sbad dep (addIf (hasId (L.take (k+1)) sN) f3 5 sp) sp a1 (0::seen1)):=by show AS _ _ _ _ _ _ _ _ _ _ _ _ _ _;rw[HT.out,hbe,Bool.or_false];exact HI
              clear r8 fl8;go_wp2_with fail;go_roundw;case rel=>exact⟨k+1,by omega,by go_num,AX⟩
              case measure=>simp[intOf];omega
            ·have hlt':¬(k:Int)<(L.length:Int):=by omega
             have hkk:k=L.length:=by omega
             subst hkk;have AX:Hid (AS w wr rb ab sb s si (Sq g L.length cap) sbad dep (addIf (hasId L sN) f3 5 sp) sp a1 (0::seen1)):=by have:=HI.out;rw[List.take_length]at this;exact this
             clear r8 fl8;go_wp2_with fail;go_meet;exact AX
         |false=>have AX:Hid (AS w wc rb ab sb s si lv sbad dep (addIf (false&&hasId L sN) f3 5 sp) sp a1 (x::seen1)):=A9.out;go_wp2_with fail;go_meet;exact AX
        case rest=>
         have AF:=qH<|(hcut:Hid (AS w wc rb ab sb s si lv sbad dep (addIf (bd&&hasId L sN) f3 5 sp) sp a1 (x::seen1))).out.on pl.2.2;clear hcut;have ha0:wc.cell? ⟨ab,x,none⟩=some (Iq (a1[x]?.getD 0)):=(AF.ar.2 x hx12).1;have ha1:=(AF.ar.2 x hx12).2;obtain⟨wd2,hwd2⟩:=nmd (wc.setCell ⟨ab,x,none⟩ (Iq sN));have AG:Hid (AS w wd2 rb ab sb s si lv sbad dep (addIf (bd&&hasId L sN) f3 5 sp) si (a1.set x sN) (x::seen1)):=by rw[<-hwd2];exact AF.setA AB0 hx12 sN
         obtain⟨er9,at9,r9,fl9⟩:=AG.rs;have GO:Hid (Calls prog 73 #[Pq rb,.int .u8 59] wd2 fun e w'=>e=.returned (.bool (gB s si 59 sbad))∧RS w' rb s (mI s si 59 sbad) lv sbad er9 at9 dep∧wd2.grownBy w' (some rb)):=got_all rb s si lv sbad er9 at9 dep 59 wd2 r9 (by omega) ssz (by omega);have HF9:=qH<|fl9;have hmi:si≤mI s si 59 sbad:=by
          unfold mI;split;·unfold gotI;have:=sk_ge s si;split<;>omega
          ·exact sk_ge s si
         have hml:mI s si 59 sbad≤s.size:=mI_le _ (by omega) ssz;clear r9 fl9;go_wp2_with fail;clear hwd2 ha0 ha1;refine Calls.mono GO ?_;rintro e wz ⟨rfl,rz,gz⟩;have AZ:=qH<|AG.next AB0 rz (HF9.on hmi) gz;have HRZ:=qH<|rz.rdI;clear rz gz GO;have HN1:Hid (AI s kind L R b1 (gB s si 59 sbad) (mI s si 59 sbad) sbad (addIf (bd&&hasId L sN) f3 5 sp) (a1.set x sN) (x::seen1)):=by have:=HND.1;rw[HFA.out]at this;exact this
         have HN2:=qH<|HND.2;obtain⟨gb,hgb⟩:=nmd (gB s si 59 sbad);rw[hgb]at HN1 HN2⊢;clear hgb;go_wp2_with fail;go_roundw;case rel=>exact⟨gb,mI s si 59 sbad,sbad,_,_,_,rfl,hml,HN1,AZ⟩
         case measure=>
          rw[HRZ.out,HRd.out];cases gb with
          |false=>show 0<s.size+1-i1;omega
          |true=>have:=HN2 rfl;show s.size+1-mI s si 59 sbad<s.size+1-i1;omega
   ·have hbt:=decide_eq_true hb;have MU:Hid (Calls prog 48 #[Pq rb,.int .u8 125] wr fun e w'=>e=.returned (.tuple #[])∧RS w' rb s (mI s i1 125 b1) lv (mB s i1 125 b1) er1 at1 dep∧wr.grownBy w' (some rb)):=must_all rb s i1 lv b1 er1 at1 dep 125 wr r1 (by omega) hi1 (by omega);have HF1:=qH<|fl1;have HCL:=qH<|hcl;clear r1 fl1 hcl HI;go_wp2_with fail;refine Calls.mono MU ?_;rintro e w4 ⟨rfl,r4,g4⟩;have H4:Hid (RS w4 rb s (mI s i1 125 b1) lv (mB s i1 125 b1) er1 at1 dep∧wr.grownBy w4 (some rb)):=⟨r4,g4⟩;clear r4 g4 MU;go_wp2;go_ret;have A5:=HA.next AB0 H4.1 HF1 H4.2;refine⟨ab,a1,mI s i1 125 b1,mB s i1 125 b1,er1,at1,rfl,AB0.a,HA.len,A5.ar,A5.gr,H4.1,mI_le _ (by omega) hi1,?_⟩;have hm:mI s i1 125 b1=gotI s i1 125:=by unfold mI;rw[if_pos hb]
    have hB:mB s i1 125 b1=mustB s i1 125 b1:=by unfold mB;rw[if_pos hb]
    rw[<-HCL.out,hm,hB];unfold closeR mustR mustB;by_cases hat:isAt s i1 125=true;·rw[if_pos hat,if_pos hat];exact⟨rfl,rfl,rfl,HF1.on (by unfold gotI;have:=sk_ge s i1;split<;>omega)⟩
    ·rw[if_neg hat,if_neg hat]
   ·have hbf:decide (b1<0)=false:=decide_eq_false (by omega);have MU:Hid (Calls prog 48 #[Pq rb,.int .u8 125] wr fun e w'=>e=.returned (.tuple #[])∧RS w' rb s (mI s i1 125 b1) lv (mB s i1 125 b1) er1 at1 dep∧wr.grownBy w' (some rb)):=must_all rb s i1 lv b1 er1 at1 dep 125 wr r1 (by omega) hi1 (by omega);have HF1:=qH<|fl1;have HCL:=qH<|hbad;clear r1 fl1 hbad HI;go_wp2_with fail;refine Calls.mono MU ?_;rintro e w4 ⟨rfl,r4,g4⟩;have H4:Hid (RS w4 rb s (mI s i1 125 b1) lv (mB s i1 125 b1) er1 at1 dep∧wr.grownBy w4 (some rb)):=⟨r4,g4⟩;clear r4 g4 MU;go_wp2;go_ret;have A5:=HA.next AB0 H4.1 HF1 H4.2;refine⟨ab,a1,mI s i1 125 b1,mB s i1 125 b1,er1,at1,rfl,AB0.a,HA.len,A5.ar,A5.gr,H4.1,mI_le _ (by omega) hi1,?_⟩;rw[HCL.out];show mB s i1 125 b1=_;unfold mB;rw[if_neg (by omega)];omega
end
end Go.Proofs.YtmbefonnkkhfgaaGreatDoor
