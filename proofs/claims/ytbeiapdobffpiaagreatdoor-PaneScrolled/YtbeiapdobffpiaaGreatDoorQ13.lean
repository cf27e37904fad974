import Derived.Test.YtbeiapdobffpiaaGreatDoorQ07
import Derived.Deep.CutRange
set_option linter.all false
set_option maxRecDepth 100000
set_option maxHeartbeats 16000000
namespace Go.Proofs.YtbeiapdobffpiaaGreatDoor
open Go.RowKit Go.Proofs.Tryz
def ew(W:World)(b:Nat)(v:Nat->Value):Prop:=b<W.heap.size/\∀k,k<12->W.cell? (az b k)=some (v k)/\W.frozen? (az b k)=false
theorem ni{W W':World}{b}(h:W'.heap[b]?=W.heap[b]?)  k  :W'.frozen? (az b k)=W.frozen? (az b k):=by unfold World.frozen?;rw[h]
theorem ew.keep{W W'}{b}{v}(h:ew W b v)(hz:W.heap.size<=W'.heap.size)(hb:W'.heap[b]?=W.heap[b]?):ew W' b v:=
 ⟨bn h.1 hz,fun k hk=>⟨(bU (a:=(az b k)) hb).trans (h.2 k hk).1,(ni hb k).trans (h.2 k hk).2⟩⟩
theorem ew.grown{W W'}{b r}{v}(h:ew W b v)(g:W.grownBy W' (some r))(hr:b≠r):ew W' b v:=h.keep g.size (g.block b h.1 (fun e=>hr (by grind)))
theorem ew.below{W W'}{b}{v}(h:ew W b v)(g:Bt W W'):ew W' b v:=h.keep g.size (g.block b h.1)
theorem ew.set{W}{b k}{v}(h:ew W b v)(hk:k<12)  u  :ew (W.setCell (az b k) u) b (fun j=>if j=k then u else v j):=by
 refine⟨by simpa[World.setCell]using h.1,fun j hj=>⟨?_,(gN _ _ _ _).trans (h.2 j hj).2⟩⟩;by_cases e:j=k;·subst e;show _=some (if j=j then u else v j);rw[if_pos rfl];exact vu _ _ _ (h.2 j hj).1
 ·show _=some (if j=k then u else v j);rw[if_neg e,dX _ _ _ _ (fun q=>by grind)];exact(h.2 j hj).1
theorem ew.other{W}{b b' k}{v}(h:ew W b v)(hb:b≠b')  u  :ew (W.setCell (az b' k) u) b v:=
 h.keep (by simp_all) (cF W (az b' k) u b hb)
theorem RS.other{W}{rb b k}{s}{i}{lv}{bad er at_ aI}(h:RS W rb s i lv bad er at_ aI)(hb:rb≠b)  u  :RS (W.setCell (az b k) u) rb s i lv bad er at_ aI:=by have hh:=cF W (az b k) u rb hb;have c:=fun j=>bU (a:=(az rb j)) hh;exact⟨by simpa[World.setCell]using h.lt,(c 0).trans h.c0,(c 1).trans h.c1,(c 2).trans h.c2,(c 3).trans h.c3,(c 4).trans h.c4,(c 5).trans h.c5,(c 6).trans h.c6,fun j=>(ni hh j).trans (h.fz j)⟩
structure AS(w wi:World)(rb ab sb:Nat)(s:ByteArray)(i:Nat)(lv:Value)(bad aI:Int)(f:fP)(j:Nat)(a:List Int)(seen:List Nat):Prop where
 rs:∃er at_,RS wi rb s i lv bad er at_ aI/\FL er at_ f j
 len:a.length=12
 ar:ew wi ab (fun k=>Iq (a[k]?.getD 0))
 sr:ew wi sb (fun k=>.bool (seen.contains k))
 gr:w.grownBy wi (some rb)
structure AB(w:World)(rb ab sb:Nat):Prop where
 r:rb<w.heap.size
 a:w.heap.size<=ab
 s:w.heap.size<=sb
 ne:ab≠sb
section
variable{w wi wj:World} {rb ab sb:Nat} {s:ByteArray} {i i' j j':Nat} {lv:Value} {bad FJ aI:Int} {f f':fP} {a:List Int} {seen:List Nat}
theorem AS.next(h:AS w wi rb ab sb s i lv bad aI f j a seen)(hB:AB w rb ab sb){er at_}(hr:RS wj rb s i' lv FJ er at_ aI)(hf:FL er at_ f' j')(hg:wi.grownBy wj (some rb)):AS w wj rb ab sb s i' lv FJ aI f' j' a seen:=
 ⟨⟨er,at_,hr,hf⟩,h.len,h.ar.grown hg (by have:=hB.r;have:=hB.a;omega),h.sr.grown hg (by have:=hB.r;have:=hB.s;omega),gr_trans h.gr hg⟩
theorem AS.below(h:AS w wi rb ab sb s i lv bad aI f j a seen)(hb:Bt wi wj):AS w wj rb ab sb s i lv bad aI f j a seen:=by obtain⟨er,at_,h1,h2⟩:=h.rs;exact⟨⟨er,at_,h1.below hb,h2⟩,h.len,h.ar.below hb,h.sr.below hb,gr_trans h.gr (eF hb)⟩
theorem AS.on(h:AS w wi rb ab sb s i lv bad aI f j a seen)(hj:j<=j'):AS w wi rb ab sb s i lv bad aI f j' a seen:=by obtain⟨er,at_,h1,h2⟩:=h.rs;exact⟨⟨er,at_,h1,h2.on hj⟩,h.len,h.ar,h.sr,h.gr⟩
theorem JU{W0 W:World}{r b k}{u}(h:W0.grownBy W (some r))(hb:W0.heap.size<=b):W0.grownBy (W.setCell (az b k) u) (some r):=
 ⟨h.os,h.tape,h.output,by simpa[World.setCell]using h.size,fun c hc hr=>(cF W (az b k) u c (by grind)).trans (h.block c hc hr)⟩
theorem AS.setA(h:AS w wi rb ab sb s i lv bad aI f j a seen)(hB:AB w rb ab sb){k}(hk:k<12)  n  :AS w (wi.setCell (az ab k) (Iq n)) rb ab sb s i lv bad aI f j (a.set k n) seen:=by
 obtain⟨er,at_,h1,h2⟩:=h.rs;have hr:=hB.r;have ha:=hB.a;refine⟨⟨er,at_,h1.other (by omega) _,h2⟩,by rw[Mh];exact h.len,?_,h.sr.other (fun e=>hB.ne e.symm) _,JU h.gr ha⟩;have e:(fun j=>if j=k then Iq n else Iq (a[j]?.getD 0))=fun j=>Iq ((a.set k n)[j]?.getD 0):=by
  funext j;by_cases hj:j=k;·subst hj;rw[if_pos rfl,List.getElem?_set_self (by rw[h.len];exact hk)];rfl
  ·grind
 have:=h.ar.set hk (Iq n);grind
theorem AS.setS(h:AS w wi rb ab sb s i lv bad aI f j a seen)(hB:AB w rb ab sb){k}(hk:k<12):AS w (wi.setCell (az sb k) (.bool true)) rb ab sb s i lv bad aI f j a (k::seen):=by
 obtain⟨er,at_,h1,h2⟩:=h.rs;have hr:=hB.r;have ha:=hB.s;refine⟨⟨er,at_,h1.other (by omega) _,h2⟩,h.len,h.ar.other hB.ne _,?_,JU h.gr ha⟩;have e:(fun j=>if j=k then Value.bool true else .bool (seen.contains j))=fun j=>.bool ((k::seen).contains j):=by
  funext j;by_cases hj:j=k;·grind
  ·grind
 have:=h.sr.set hk (.bool true);grind
end
def Qs(w:World)(rb:Nat)(lv:Value)(L:List Nd):Prop:=(L=[]/\lv=.slice none 0 0)\/∃(g al:Nat) (AV:Nat->Nat),lv=Sq g L.length al/\g<w.heap.size/\g≠rb/\∀k,k<L.length->w.cell? (az g (k*5+1))=some (Sq (AV k) 12 12)/\AV k<w.heap.size/\AV k≠rb/\w.cell? (az (AV k) 0)=some (Iq ((L.map (fun d=>d.attr[0]?.getD 0))[k]?.getD 0))
theorem hasId_take(L:List Nd)  n   k  (hk:k<L.length):eJ (L.take (k+1)) n=(eJ (L.take k) n||((L.map (fun d=>d.attr[0]?.getD 0))[k]?.getD 0==n)):=by unfold eJ;rw[l_ hk,Mi];simp[hk]
theorem I'  f   b b'   c p  :bD (b||b') f c p=bD b' (bD b f c p) c p:=by cases b<;>cases b'<;>cases f<;>rfl
def AI(s:ByteArray)(kind:Nat)(L:List Nd)(R:Except Nat (Nat×fP×List Int))(dW:Int)(more:Bool)(i:Nat)(bad:Int)(f:fP)(a:List Int)(seen:List Nat):Prop:=
 (bad=dW/\more=true/\∃jh,s.size-i<jh/\dy s kind L jh i f a seen=R)\/(bad=dW/\more=false/\kB s i f a=R)\/(0<=bad/\more=false/\R=.error bad.toNat)
theorem AI.round{s}{kind}{L}{R}{dW}(hb:dW<0){i}{f}{a}{seen}(hi:i<=s.size){jh}(hf:s.size-i<jh)(h:dy s kind L jh i f a seen=R):
 AI s kind L R dW (gB s (bm s i dW).i 59 (bm s i dW).bad) (mI s (bm s i dW).i 59 (bm s i dW).bad) (bm s i dW).bad (fa kind L f a seen (bm s i dW)).1 (fa kind L f a seen (bm s i dW)).2.1 (fa kind L f a seen (bm s i dW)).2.2
 /\(gB s (bm s i dW).i 59 (bm s i dW).bad=true->i<mI s (bm s i dW).i 59 (bm s i dW).bad):=by
 obtain⟨g,rfl⟩:∃g,jh=g+1:=⟨jh-1,by omega⟩;have pl:=jY s i dW;have sz:=sY s i dW hi;have hst:=ma s kind L i f a seen dW hb;obtain⟨q,hq⟩:=aj (fa kind L f a seen (bm s i dW));rw[hq]at hst⊢;clear hq;obtain⟨f2,a2,s2⟩:=q;simp only;rcases hst with⟨h1,h2⟩|⟨h1,h2⟩
 ·rw[h1];have hg:gB s (bm s i dW).i 59 dW=aM s (bm s i dW).i 59:=by unfold gB;rw[if_pos hb]
  have hm:mI s (bm s i dW).i 59 dW=ao s (bm s i dW).i 59:=by unfold mI;rw[if_pos hb]
  rw[hg,hm];by_cases bY:aM s (bm s i dW).i 59=true
  ·have Xs:ao s (bm s i dW).i 59=sk s (bm s i dW).i+1:=by unfold ao;rw[if_pos (by grind[aM])]
   have:=dx s (bm s i dW).i;have hle:=dP (c:=59) (by omega) sz;rw[Xs]at hle;refine⟨.inl ⟨rfl,bY,g,?_,?_⟩,fun _=>by omega⟩;all_goals grind[kw]
  ·have Xs:ao s (bm s i dW).i 59=sk s (bm s i dW).i:=by unfold ao;rw[if_neg (by grind[aM])]
   refine⟨.inr (.inl ⟨rfl,by grind,?_⟩),fun e=>absurd e bY⟩;grind[FP,ku]
 ·have hn:¬(bm s i dW).bad<0:=by omega
  have hg:gB s (bm s i dW).i 59 (bm s i dW).bad=false:=by unfold gB;rw[if_neg hn]
  rw[hg];refine⟨.inr (.inr ⟨h1,rfl,?_⟩),fun e=>by cases e⟩;grind[mc]
def KU:Value->Bool
 |.bool b=>b
 |_=>false
def Vu(w w':World)(e:Ending)(rb:Nat)(s:ByteArray)(lv:Value)(dW aI:Int)(R:Except Nat (Nat×fP×List Int)):Prop:=
 ∃(ab:Nat) (a:List Int) (i:Nat) (bad er at_:Int),e=Rw (Sq ab 12 12)/\w.heap.size<=ab/\a.length=12/\ew w' ab (fun k=>Iq (a[k]?.getD 0))/\w.grownBy w' (some rb)/\RS w' rb s i lv bad er at_ aI/\i<=s.size/\
  match R with
  |.error b=>bad=(b:Int)
  |.ok (i2,f2,a2)=>bad=dW/\i=i2/\a=a2/\FL er at_ f2 i2
theorem attrs_any(rb:Nat)(s:ByteArray)(i:Nat)(lv:Value)(bad er at_ aI:Int)(kind:Nat)(L:List Nd)(f:fP)(w:World)(h:RS w rb s i lv bad er at_ aI)(hf:FL er at_ f i)(hL:Qs w rb lv L)(hs:s.size<=1073741824)(hi:i<=s.size)(hb:bad<0)(hk:kind<7)(hLl:L.length<=1073741824):
 Cw 51 #[Pq rb,Iq (kind:Int)] w fun e w'=>Vu w w' e rb s lv bad aI (cY s kind L i f):=by
 have HR0:=qH<|h;have HF0:=qH<|hf;have HL:=qH<|hL;obtain⟨R,hR⟩:=aj (cY s kind L i f);have lL:=qH<|hR;rw[hR];go_enter func51,ntmps51;go_wp2_with fail;refine am (AR w) ?_;rintro e w1 ⟨rfl,hw,fT,b1⟩;obtain⟨ab,hab⟩:=aj w.heap.size;rw[hab]at hw fT⊢;have HAB:=qH<|hab;have HB1:=qH<|b1;have Iw:Hid (ew w1 ab (fun k=>Iq (aV[k]?.getD 0))):=⟨fT,fun k hk=>by grind⟩;have GO:Hid (Cw 93 #[Pq rb,.int .u8 123] w1 fun e w'=>e=Rw (.bool (gB s i 123 bad))/\RS w' rb s (mI s i 123 bad) lv bad er at_ aI/\w1.grownBy w' (some rb)):=qW rb s i lv bad er at_ aI 123 w1 (HR0.below HB1) (by omega) hi (by omega);have V9:=qH<|HR0.lt;go_wp2_with fail;refine am GO ?_;rintro e w2 ⟨rfl,r2,g2⟩;have H2:Hid (RS w2 rb s (mI s i 123 bad) lv bad er at_ aI/\w.grownBy w2 (some rb)/\ew w2 ab (fun k=>Iq (aV[k]?.getD 0))):=⟨r2,gr_trans (eF HB1) g2,Iw.grown g2 (by have:=V9.out;omega)⟩;have HM:Hid (mI s i 123 bad=ao s i 123/\gB s i 123 bad=aM s i 123):=by unfold mI gB;rw[if_pos hb,if_pos hb];exact⟨rfl,rfl⟩
 obtain⟨gg,mw⟩:=aj (gB s i 123 bad);have _y:Hid (aM s i 123=gg):=by show _=_;rw[<-HM.2];exact mw
 rw[mw];cases gg with
 |false=>
  go_wp2;go_ret;have hR:cY s kind L i f=.ok (sk s i,f,aV):=by unfold cY;rw[if_neg (by rw[_y.out];simp)]
  have xN:ao s i 123=sk s i:=by unfold ao;rw[if_neg (by have:=_y.out;grind[aM])]
  have hH:=H2.out;rw[HM.1,xN]at hH;refine⟨ab,aV,sk s i,bad,er,at_,rfl,by omega,rfl,hH.2.2,hH.2.1,hH.1,eh s i hi,?_⟩;rw[<-lL.out,hR];exact⟨rfl,rfl,rfl,HF0.on (dx s i)⟩
 |true=>
  have HFU:Hid (dy s kind L (s.size+1) (ao s i 123) f aV []=R):=by show _=_;rw[<-lL.out];unfold cY;rw[if_pos _y.out]
  have iU:ao s i 123<=s.size:=dP (by omega) hi;have xN:i<=ao s i 123:=by unfold ao;have:=dx s i;split<;>omega
  have H3:Hid (RS w2 rb s (ao s i 123) lv bad er at_ aI/\w.grownBy w2 (some rb)/\ew w2 ab (fun k=>Iq (aV[k]?.getD 0))):=by have:=H2.out;rw[HM.1]at this;exact this
  obtain⟨i0,Gj⟩:=aj (ao s i 123);rw[Gj]at HFU iU xN H3;have HF1:=qH<|HF0.on xN;have gR:∀w:World,(Instr.makeSlice 86 (Iq 12) (Iq 12)).run prog w=.ok (Sq w.heap.size 12 12) (w.alloc (.cells #[.bool false,.bool false,.bool false,.bool false,.bool false,.bool false,.bool false,.bool false,.bool false,.bool false,.bool false,.bool false] 4)):=fun w=>by kernel_rfl
  obtain⟨sb,OT⟩:=aj w2.heap.size;obtain⟨w3,qE⟩:=aj (w2.alloc (.cells #[.bool false,.bool false,.bool false,.bool false,.bool false,.bool false,.bool false,.bool false,.bool false,.bool false,.bool false,.bool false] 4));have xU:Hid (AB w rb ab sb):=by have h3:=H3.2.2.1;exact⟨V9,by omega,by omega,by omega⟩
  have A0:Hid (AS w w3 rb ab sb s i0 lv bad aI f i0 aV []):=by
   have b3:Bt w2 w3:=by rw[<-qE];exact(ag _ _).alloc (ai _) _
   have uG:w3.heap[sb]?=some (.cells #[.bool false,.bool false,.bool false,.bool false,.bool false,.bool false,.bool false,.bool false,.bool false,.bool false,.bool false,.bool false] 4 (0,0)):=by rw[<-qE,<-OT];exact heap_alloc_new _ _
   refine⟨⟨er,at_,H3.1.below b3,HF1⟩,rfl,H3.2.2.below b3,⟨(aS.1 uG).1,fun k hk=>⟨?_,frozen_of_row _ _ _ _ _ uG⟩⟩,gr_trans H3.2.1 (eF b3)⟩;rcases(by omega:k=0\/k=1\/k=2\/k=3\/k=4\/k=5\/k=6\/k=7\/k=8\/k=9\/k=10\/k=11)with rfl|rfl|rfl|rfl|rfl|rfl|rfl|rfl|rfl|rfl|rfl|rfl<;>simp[World.cell?,uG]
  go_wp2_with fail;go_loopw[7] (fun mv wi=>∃(more:Bool) (i1:Nat) (b1:Int) (f1:fP) (a1:List Int) (dJ:List Nat),mv=.bool more/\i1<=s.size/\Hid (AI s kind L R bad more i1 b1 f1 a1 dJ)/\Hid (AS w wi rb ab sb s i1 lv b1 aI f1 i1 a1 dJ)) (fun mv wi=>if KU mv then s.size+1-rdI wi rb else 0);case atStart=>exact⟨true,i0,bad,f,aV,[],rfl,iU,.inl ⟨rfl,rfl,s.size+1,by omega,HFU⟩,A0⟩
  case round=>
   obtain⟨more,i1,b1,f1,a1,dJ,rfl,BD,HI,HA⟩:=hrel;obtain⟨kD,BU,r1,fl1⟩:=HA.rs;have c3:=r1.c3;have Uu:=qH<|r1.rdI;rcases HI.out with⟨rfl,rfl,jh,hfu,bY⟩|⟨rfl,rfl,hcl⟩|⟨hb1,rfl,hbad⟩
   ·have HND:=qH<|AI.round hb BD hfu bY;have SK:=qH<|skip_any rb s i1 lv b1 kD BU aI wr r1 (by omega) BD;have HF1:=qH<|fl1;have pl:=jY s i1 b1;have Vq:=sY s i1 b1 BD;have six:=LJ s i1 b1;have sn:=PK s i1 b1;have EF:=eh s i1 BD;go_wp2_with fail;refine am SK ?_;rintro e w4 ⟨rfl,r4,g4⟩;have A4:Hid (AS w w4 rb ab sb s (sk s i1) lv b1 aI f1 i1 a1 dJ/\RS w4 rb s (sk s i1) lv b1 kD BU aI):=⟨HA.next xU r4 HF1 g4,r4⟩;have c1:=r4.c1;have WO:=qH<|word_all rb s (sk s i1) lv b1 kD BU aI w4 r4 (by omega) EF;go_wp2_with fail;refine am WO ?_;rintro e w5 ⟨rfl,r5,g5⟩;have A5:=qH<|A4.1.next xU r5 HF1 g5;have MU:Hid (Cw 53 #[Pq rb,.int .u8 61] w5 fun e w'=>e=Rw (.tuple #[])/\RS w' rb s (mI s (wI s (sk s i1) b1) 61 (wB s (sk s i1) b1)) lv (mB s (wI s (sk s i1) b1) 61 (wB s (sk s i1) b1)) kD BU aI/\w5.grownBy w' (some rb)):=nM rb s (wI s (sk s i1) b1) lv (wB s (sk s i1) b1) kD BU aI 61 w5 r5 (by omega) (E8 _ EF) (by omega);go_wp2_with fail;refine am MU ?_;rintro e w6 ⟨rfl,r6,g6⟩;have A6:=qH<|A5.next xU r6 HF1 g6;have NU:Hid (Cw 94 #[Pq rb] w6 fun e w'=>e=Rw (.tuple #[Iq (bm s i1 b1).n,Iq ((bm s i1 b1).p:Int)])/\RS w' rb s (bm s i1 b1).i lv (bm s i1 b1).bad kD BU aI/\w6.grownBy w' (some rb)):=Dh rb s (mI s (wI s (sk s i1) b1) 61 (wB s (sk s i1) b1)) lv (mB s (wI s (sk s i1) b1) 61 (wB s (sk s i1) b1)) kD BU aI w6 r6 (by omega) (pY _ (by omega) (E8 _ EF));have ND:Hid (aJ bZ (wS s (sk s i1) b1) 0=(bm s i1 b1).ix/\sk s i1=(bm s i1 b1).at_):=⟨rfl,rfl⟩;clear r6 g6 MU A5;obtain⟨st,hst⟩:=aj (bm s i1 b1);rw[hst]at HND pl Vq six sn NU ND;clear hst;go_wp2_with fail;refine am NU ?_;rintro e w7 ⟨rfl,r7,g7⟩;have A7:=qH<|A6.next xU r7 HF1 g7;clear r7 g7 NU A6;go_wp2_with fail;refine am (GW w7) ?_;rintro e w8 ⟨rfl,hn8,hl8,b8⟩;have A8:=qH<|A7.below b8;have FI:Hid (Cw 48 #[Sq w7.heap.size 12 12,.string (wS s (sk s i1) b1)] w8 fun e w'=>e=Rw (Iq st.ix)/\w'=w8):=by have:=find_any bZ (wS s (sk s i1) b1) w7.heap.size 0 12 12 w8 hl8 hn8 rfl (by omega);rw[ND.1]at this;exact this
    clear hn8 hl8 b8 A7;go_wp2_with fail;refine am FI ?_;rintro e w9 ⟨rfl,X_⟩;obtain rfl:=X_.symm;clear FI;rw[ND.2];obtain⟨si,dw,sN,sp,ub,sx⟩:=st;simp only at HND pl Vq six sn ND A8⊢;generalize wS s ub b1=tx;clear ND EF;by_cases hA:sx<0\/gn kind sx.toNat=false
    ·have Qi:Hid (fa kind L f1 a1 dJ ⟨si,dw,sN,sp,ub,sx⟩=(ib f1 7 ub,a1,dJ)):=if_pos hA;obtain⟨JM,BV,r8,Em⟩:=A8.rs;have WR:=qH<|wrong_any rb s si lv dw JM BV aI 7 ub w8 r8;have Bm:Hid (FL (Is JM BV 7 ub) (Ir BV ub) (ib f1 7 ub) si):=(Em.add 7 ub (by omega)).on (by omega);clear r8 Em;have Et:sx<0\/(¬sx<0/\∃x:Nat,sx=x/\x<12/\gn kind x=false):=by
      by_cases h0:sx<0;·exact .inl h0
      ·refine .inr ⟨h0,sx.toNat,by omega,by omega,hA.resolve_left h0⟩
     clear hA;rcases Et with h0|⟨h0,x,rfl,o7,bi⟩;focus have Cq:=decide_eq_true h0;go_wp2_with fail;refine am WR ?_;rintro e w9 ⟨rfl,Yo,WI⟩;have A9:=qH<|A8.next xU Yo Bm WI;clear Yo WI WR
     rotate_left;focus
      have Cq:=decide_eq_false h0;have OW:Hid (Cw 96 #[Iq (kind:Int),Iq (x:Int)] w8 fun e w'=>e=Rw (.bool false)/\w'=w8):=by have:=zS kind x hk o7 w8;rw[bi]at this;exact this
      go_wp2_with(go_at_call 96;refine am OW ?_;rintro e wo ⟨rfl,hwo⟩;obtain rfl:=hwo.symm);refine am WR ?_;rintro e w9 ⟨rfl,Yo,WI⟩;have A9:=qH<|A8.next xU Yo Bm WI;clear Yo WI WR OW
     rotate_left;all_goals
      obtain⟨UM,UJ,r9,fl9⟩:=A9.rs;have GO:Hid (Cw 93 #[Pq rb,.int .u8 59] w9 fun e w'=>e=Rw (.bool (gB s si 59 dw))/\RS w' rb s (mI s si 59 dw) lv dw UM UJ aI/\w9.grownBy w' (some rb)):=qW rb s si lv dw UM UJ aI 59 w9 r9 (by omega) Vq (by omega);have _x:=qH<|fl9;have Gs:si<=mI s si 59 dw:=by
       unfold mI;split;·unfold ao;have:=dx s si;split<;>omega
       ·exact dx s si
      have Gt:mI s si 59 dw<=s.size:=pY _ (by omega) Vq;clear r9 fl9;go_wp2_with fail;refine am GO ?_;rintro e wz ⟨rfl,rz,gz⟩;have AZ:=qH<|A9.next xU rz (_x.on Gs) gz;have HRZ:=qH<|rz.rdI;clear rz gz GO;have HN1:Hid (AI s kind L R b1 (gB s si 59 dw) (mI s si 59 dw) dw (ib f1 7 ub) (a1) (dJ)):=by have:=HND.1;rw[Qi.out]at this;exact this
      have oC:=qH<|HND.2;obtain⟨gb,lz⟩:=aj (gB s si 59 dw);rw[lz]at HN1 oC⊢;clear lz;go_wp2_with fail;go_roundw;case rel=>exact⟨gb,mI s si 59 dw,dw,_,_,_,rfl,Gt,HN1,AZ⟩
      case measure=>
       rw[HRZ.out,Uu.out];cases gb with
       |false=>show 0<s.size+1-i1;omega
       |true=>have:=oC rfl;show s.size+1-mI s si 59 dw<s.size+1-i1;omega
    ·obtain⟨x,rfl⟩:∃x:Nat,sx=x:=⟨sx.toNat,by omega⟩;have o7:x<12:=by omega
     have bi:gn kind x=true:=by have:¬gn kind ((x:Int)).toNat=false:=fun e=>hA (.inr e);simpa using this
     have Qi:Hid (fa kind L f1 a1 dJ ⟨si,dw,sN,sp,ub,x⟩=(bD (decide ((x:Int)=0/\0<sN)&&eJ L sN) (bD (decide (iE[x]?.getD 0<sN)) (bD (dJ.contains x) f1 5 ub) 6 sp) 5 sp,a1.set x sN,x::dJ)):=if_neg hA;have Cq:decide ((x:Int)<0)=false:=decide_eq_false (by omega);have OW:Hid (Cw 96 #[Iq (kind:Int),Iq (x:Int)] w8 fun e w'=>e=Rw (.bool true)/\w'=w8):=by have:=zS kind x hk o7 w8;rw[bi]at this;exact this
     clear hA bi six;have BH:w8.cell? (az sb x)=some (.bool (dJ.contains x)):=(A8.sr.2 x o7).1;obtain⟨bs,hbs⟩:=aj (dJ.contains x);rw[hbs]at Qi BH;clear hbs;go_upto_if 64 with(go_at_call 96;refine am OW ?_;rintro e wo ⟨rfl,hwo⟩;obtain rfl:=hwo.symm);clear BH OW;go_cut[67]from 65 to 66 (fun _ wx=>Hid (AS w wx rb ab sb s si lv dw aI (bD bs f1 5 ub) ub a1 dJ));case first=>
      cases bs with
      |false=>go_wp2_with fail;go_meet;exact A8.on pl.1
      |true=>obtain⟨JM,BV,r8,Em⟩:=A8.rs;have WR:=qH<|wrong_any rb s si lv dw JM BV aI 5 ub w8 r8;have Bm:Hid (FL (Is JM BV 5 ub) (Ir BV ub) (bD true f1 5 ub) ub):=Em.add 5 ub pl.1;clear r8 Em;go_wp2_with fail;refine am WR ?_;rintro e w9 ⟨rfl,r9,g9⟩;have A9:=qH<|A8.next xU r9 Bm g9;clear r9 g9 WR;go_wp2_with fail;go_meet;exact A9
     case rest=>
      obtain⟨f2,hf2⟩:=aj (bD bs f1 5 ub);rw[hf2]at hcut Qi;have A9:=hcut;clear hf2 hcut;have Gy:wc.cell? (az sb x)=some (.bool (dJ.contains x)):=(A9.sr.2 x o7).1;have hs1:=(A9.sr.2 x o7).2;obtain⟨wd,Rb⟩:=aj (wc.setCell (az sb x) (.bool true));have AD:Hid (AS w wd rb ab sb s si lv dw aI (f2) ub a1 (x::dJ)):=by rw[<-Rb];exact A9.setS xU o7
      go_wp2_with fail;clear Rb Gy hs1;refine am (KX wd) ?_;rintro e we ⟨rfl,hm,Gt,be⟩;have AE:=qH<|AD.below be;have mY:=(hm x o7).1;rw[bC]at mY;obtain⟨mo,hmo⟩:=aj (iE[x]?.getD 0);rw[hmo]at mY Qi;clear hmo hm Gt be;go_upto_if 76 with fail;clear mY;go_cut[76,79]from 77 to 78 (fun _ _ wx=>Hid (AS w wx rb ab sb s si lv dw aI (bD (decide (mo<sN)) f2 6 sp) sp a1 (x::dJ)));case first=>
       by_cases yU:mo<sN
       ·have QP:=decide_eq_true yU;obtain⟨JM,BV,r8,Em⟩:=AE.rs;have WR:=qH<|wrong_any rb s si lv dw JM BV aI 6 sp we r8;have Bm:Hid (FL (Is JM BV 6 sp) (Ir BV sp) (bD (decide (mo<sN)) f2 6 sp) sp):=by rw[QP];exact Em.add 6 sp pl.2.1
        clear r8 Em;go_wp2_with fail;refine am WR ?_;rintro e w9 ⟨rfl,r9,g9⟩;have A9:=qH<|AE.next xU r9 Bm g9;clear r9 g9 WR;go_wp2_with fail;go_meet;exact A9
       ·have QP:=decide_eq_false yU;have A9:Hid (AS w we rb ab sb s si lv dw aI (bD (decide (mo<sN)) f2 6 sp) sp a1 (x::dJ)):=by rw[QP];exact AE.on pl.2.1
        go_wp2_with fail;go_meet;exact A9
      case rest=>
       obtain⟨f3,J6⟩:=aj (bD (decide (mo<sN)) f2 6 sp);rw[J6]at hcut Qi;have A9:=hcut;clear J6 hcut;go_upto_region 21 with fail;go_cut[85]from 80 to 84 (fun v wx=>v=.bool (decide ((x:Int)=0/\0<sN))/\Hid (AS w wx rb ab sb s si lv dw aI (f3) sp a1 (x::dJ)));case first=>
        have m6:(((x:Int)==0)=false/\decide ((x:Int)=0/\0<sN)=false)\/(((x:Int)==0)=true/\decide (0<sN)=false/\decide ((x:Int)=0/\0<sN)=false)\/(((x:Int)==0)=true/\decide (0<sN)=true/\decide ((x:Int)=0/\0<sN)=true):=by simp only[beq_eq_false_iff_ne,beq_iff_eq,decide_eq_false_iff_not,decide_eq_true_eq];omega
        rcases m6 with⟨e1,e3⟩|⟨e1,e2,e3⟩|⟨e1,e2,e3⟩;all_goals have E3:=qH<|e3;clear e3;go_wp2_with fail;go_meet;exact⟨by rw[E3.out],A9⟩
       case rest=>
        obtain⟨rfl,A10⟩:=hcut;clear A9;have A9:=qH<|A10.out;clear A10;obtain⟨bd,hbd⟩:=aj (decide ((x:Int)=0/\0<sN));have iW:Hid (bd=true->x=0/\0<sN):=fun e=>by have:=hbd.trans e;have:=of_decide_eq_true this;omega
        rw[hbd]at Qi⊢;clear hbd;go_upto_if 85 with fail;go_cut[13]from 86 to 109 (fun _ wx=>Hid (AS w wx rb ab sb s si lv dw aI (bD (bd&&eJ L sN) f3 5 sp) sp a1 (x::dJ)));case first=>
         cases bd with
         |true=>
          obtain⟨rfl,y_⟩:=iW rfl;go_wp2_with fail;go_loopw[13] (fun iv wi=>∃k:Nat,k<=L.length/\iv=Iq k/\Hid (AS w wi rb ab sb s si lv dw aI (bD (eJ (L.take k) sN) f3 5 sp) sp a1 (0::dJ))) (fun iv _=>L.length-(intOf iv).toNat);case atStart=>exact⟨0,bc _,rfl,A9⟩
          case round=>
           obtain⟨k,hkL,rfl,HI⟩:=hrel;obtain⟨JM,BV,r8,Em⟩:=HI.rs;have c2:=r8.c2;rcases HL.out with⟨rfl,rfl⟩|⟨g,al,AV,rfl,hg,fQ,jk⟩
           ·have S9:k=0:=by simpa using hkL
            subst S9;clear r8 Em;go_wp2_with fail;go_meet;exact HI
           ·by_cases hlt:k<L.length
            ·have aK:(k:Int)<(L.length:Int):=by omega
             obtain⟨d1,d2,d3,d4⟩:=jk k hlt;have q1:=HI.gr.cell d1 (by simpa using fQ);have q4:=HI.gr.cell d4 (by simpa using d3);have HT:=qH<|hasId_take L sN k hlt;obtain⟨vv,Ra⟩:=aj ((L.map (fun d=>d.attr[0]?.getD 0))[k]?.getD 0);rw[Ra]at q4 HT;clear Ra jk d1 d2 d3 d4;by_cases UT:vv=sN
             ·have hbe:(vv==sN)=true:=by simpa using UT
              have WR:=qH<|wrong_any rb s si (Sq g L.length al) dw JM BV aI 5 sp wr r8;have Bm:Hid (FL (Is JM BV 5 sp) (Ir BV sp) (bD (eJ (L.take (k+1)) sN) f3 5 sp) sp):=by show FL _ _ _ _;rw[HT.out,hbe,I'];exact Em.add 5 sp (ai _)
              clear r8 Em;go_wp2_with fail;refine am WR ?_;rintro e w9 ⟨rfl,r9,g9⟩;have AX:=qH<|HI.next xU r9 Bm g9;clear r9 g9 WR;go_wp2_with fail;go_roundw;case rel=>exact⟨k+1,by omega,by go_num,AX⟩
              case measure=>simp[intOf];omega
             ·have hbe:(vv==sN)=false:=by simpa using UT
              have AX:Hid (AS w wr rb ab sb s si (Sq g L.length al) dw aI (bD (eJ (L.take (k+1)) sN) f3 5 sp) sp a1 (0::dJ)):=by show AS _ _ _ _ _ _ _ _ _ _ _ _ _ _;rw[HT.out,hbe,Bool.or_false];exact HI
              clear r8 Em;go_wp2_with fail;go_roundw;case rel=>exact⟨k+1,by omega,by go_num,AX⟩
              case measure=>simp[intOf];omega
            ·have aK:¬(k:Int)<(L.length:Int):=by omega
             have oE:k=L.length:=by omega
             subst oE;have AX:Hid (AS w wr rb ab sb s si (Sq g L.length al) dw aI (bD (eJ L sN) f3 5 sp) sp a1 (0::dJ)):=by have:=HI.out;rw[qj]at this;exact this
             clear r8 Em;go_wp2_with fail;go_meet;exact AX
         |false=>have AX:Hid (AS w wc rb ab sb s si lv dw aI (bD (false&&eJ L sN) f3 5 sp) sp a1 (x::dJ)):=A9.out;go_wp2_with fail;go_meet;exact AX
        case rest=>
         have AF:=qH<|(hcut:Hid (AS w wc rb ab sb s si lv dw aI (bD (bd&&eJ L sN) f3 5 sp) sp a1 (x::dJ))).out.on pl.2.2;clear hcut;have MS:wc.cell? (az ab x)=some (Iq (a1[x]?.getD 0)):=(AF.ar.2 x o7).1;have ha1:=(AF.ar.2 x o7).2;obtain⟨Yy,X'⟩:=aj (wc.setCell (az ab x) (Iq sN));have AG:Hid (AS w Yy rb ab sb s si lv dw aI (bD (bd&&eJ L sN) f3 5 sp) si (a1.set x sN) (x::dJ)):=by rw[<-X'];exact AF.setA xU o7 sN
         obtain⟨UM,UJ,r9,fl9⟩:=AG.rs;have GO:Hid (Cw 93 #[Pq rb,.int .u8 59] Yy fun e w'=>e=Rw (.bool (gB s si 59 dw))/\RS w' rb s (mI s si 59 dw) lv dw UM UJ aI/\Yy.grownBy w' (some rb)):=qW rb s si lv dw UM UJ aI 59 Yy r9 (by omega) Vq (by omega);have _x:=qH<|fl9;have Gs:si<=mI s si 59 dw:=by
          unfold mI;split;·unfold ao;have:=dx s si;split<;>omega
          ·exact dx s si
         have Gt:mI s si 59 dw<=s.size:=pY _ (by omega) Vq;clear r9 fl9;go_wp2_with fail;clear X' MS ha1;refine am GO ?_;rintro e wz ⟨rfl,rz,gz⟩;have AZ:=qH<|AG.next xU rz (_x.on Gs) gz;have HRZ:=qH<|rz.rdI;clear rz gz GO;have HN1:Hid (AI s kind L R b1 (gB s si 59 dw) (mI s si 59 dw) dw (bD (bd&&eJ L sN) f3 5 sp) (a1.set x sN) (x::dJ)):=by have:=HND.1;rw[Qi.out]at this;exact this
         have oC:=qH<|HND.2;obtain⟨gb,lz⟩:=aj (gB s si 59 dw);rw[lz]at HN1 oC⊢;clear lz;go_wp2_with fail;go_roundw;case rel=>exact⟨gb,mI s si 59 dw,dw,_,_,_,rfl,Gt,HN1,AZ⟩
         case measure=>
          rw[HRZ.out,Uu.out];cases gb with
          |false=>show 0<s.size+1-i1;omega
          |true=>have:=oC rfl;show s.size+1-mI s si 59 dw<s.size+1-i1;omega
   ·have hbt:=decide_eq_true hb;have MU:Hid (Cw 53 #[Pq rb,.int .u8 125] wr fun e w'=>e=Rw (.tuple #[])/\RS w' rb s (mI s i1 125 b1) lv (mB s i1 125 b1) kD BU aI/\wr.grownBy w' (some rb)):=nM rb s i1 lv b1 kD BU aI 125 wr r1 (by omega) BD (by omega);have HF1:=qH<|fl1;have HCL:=qH<|hcl;clear r1 fl1 hcl HI;go_wp2_with fail;refine am MU ?_;rintro e w4 ⟨rfl,r4,g4⟩;have H4:Hid (RS w4 rb s (mI s i1 125 b1) lv (mB s i1 125 b1) kD BU aI/\wr.grownBy w4 (some rb)):=⟨r4,g4⟩;clear r4 g4 MU;go_wp2;go_ret;have A5:=HA.next xU H4.1 HF1 H4.2;refine⟨ab,a1,mI s i1 125 b1,mB s i1 125 b1,kD,BU,rfl,xU.a,HA.len,A5.ar,A5.gr,H4.1,pY _ (by omega) BD,?_⟩;have hm:mI s i1 125 b1=ao s i1 125:=by unfold mI;rw[if_pos hb]
    have hB:mB s i1 125 b1=gZ s i1 125 b1:=by unfold mB;rw[if_pos hb]
    rw[<-HCL.out,hm,hB];unfold kB cz gZ;by_cases bY:aM s i1 125=true;·rw[if_pos bY,if_pos bY];exact⟨rfl,rfl,rfl,HF1.on (by unfold ao;have:=dx s i1;split<;>omega)⟩
    ·rw[if_neg bY,if_neg bY]
   ·have ZB:decide (b1<0)=false:=decide_eq_false (by omega);have MU:Hid (Cw 53 #[Pq rb,.int .u8 125] wr fun e w'=>e=Rw (.tuple #[])/\RS w' rb s (mI s i1 125 b1) lv (mB s i1 125 b1) kD BU aI/\wr.grownBy w' (some rb)):=nM rb s i1 lv b1 kD BU aI 125 wr r1 (by omega) BD (by omega);have HF1:=qH<|fl1;have HCL:=qH<|hbad;clear r1 fl1 hbad HI;go_wp2_with fail;refine am MU ?_;rintro e w4 ⟨rfl,r4,g4⟩;have H4:Hid (RS w4 rb s (mI s i1 125 b1) lv (mB s i1 125 b1) kD BU aI/\wr.grownBy w4 (some rb)):=⟨r4,g4⟩;clear r4 g4 MU;go_wp2;go_ret;have A5:=HA.next xU H4.1 HF1 H4.2;refine⟨ab,a1,mI s i1 125 b1,mB s i1 125 b1,kD,BU,rfl,xU.a,HA.len,A5.ar,A5.gr,H4.1,pY _ (by omega) BD,?_⟩;rw[HCL.out];show mB s i1 125 b1=_;unfold mB;rw[if_neg (by omega)];omega
