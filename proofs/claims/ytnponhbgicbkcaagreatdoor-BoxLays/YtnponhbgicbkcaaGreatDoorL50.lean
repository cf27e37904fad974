import Derived.Test.YtnponhbgicbkcaaGreatDoorL37
import Derived.Test.YtnponhbgicbkcaaGreatDoorL29
import Derived.Test.YtnponhbgicbkcaaGreatDoorL48
import Derived.Test.YtnponhbgicbkcaaGreatDoorL49
set_option linter.unusedVariables false
set_option maxRecDepth 100000
set_option maxHeartbeats 16000000
namespace Go.Proofs.YtnponhbgicbkcaaGreatDoor
section
open Go.RowKit Go.Sort
theorem sz_pick t :∃Wd H,∀L,pTree t=.ok L->Sz L Wd H:=by
 cases hp:pTree t with
 |error x=>exact⟨fun _=>0,fun _ _=>0,fun L q=>by cases q⟩
 |ok L=>obtain⟨Wd,H,hS⟩:=sz_ex (parse_tree (parse_of_ok hp)).nest;exact⟨Wd,H,fun L' q=>by cases q;exact hS⟩
end
section
open Go.RowKit Go.Sort Go.Proofs.Tryz
def LyOut(U U':World)(w h:Int)(idf off:Nat->Int)(sn:Nat)(r:Except (Option (Nat×Nat)) (List Nd))(e:Ending):Prop:=Below U.heap.size U U'∧match r with
 |.error x=>e=.returned (.tuple #[.slice none 0 0,Iq (errC x:Int),Iq (errP x:Int)])
 |.ok L=>(¬(1≤w∧w≤400∧1≤h∧h≤400)∧e=.returned (.tuple #[.slice none 0 0,Iq 6,Iq 0]))∨((1≤w∧w≤400∧1≤h∧h≤400)∧∃pb P Wd H,Sz L Wd H∧e=.returned (.tuple #[Sq pb L.length L.length,Iq 0,Iq 0])∧U'.rowIs pb 50 (L.length*10) (pcF P)∧PlTo L Wd H w h idf off sn P L.length∧U.heap.size≤pb)
def LyAt(U U':World)(w h:Int)(idf off:Nat->Int)(sn:Nat)(Wd:Nat->Int)(H:Nat->Int->Int)(r:Except (Option (Nat×Nat)) (List Nd))(e:Ending):Prop:=Below U.heap.size U U'∧match r with
 |.error x=>e=.returned (.tuple #[.slice none 0 0,Iq (errC x:Int),Iq (errP x:Int)])
 |.ok L=>(¬(1≤w∧w≤400∧1≤h∧h≤400)∧e=.returned (.tuple #[.slice none 0 0,Iq 6,Iq 0]))∨((1≤w∧w≤400∧1≤h∧h≤400)∧∃pb P,e=.returned (.tuple #[Sq pb L.length L.length,Iq 0,Iq 0])∧U'.rowIs pb 50 (L.length*10) (pcF P)∧PlTo L Wd H w h idf off sn P L.length∧U.heap.size≤pb)
theorem layout_at t  w h  sp  sn sc  idf off  E  U (hG:Glo U E)(hA:Apart U E)(hE:ErT U)(ht:TabAt U)(hsc:Scr U sp sn idf off)(hsn:sn≤4611686018427387904)(hsp:∀a,sp=some a->a.block<U.heap.size) Wd  H (hSz:∀L,pTree t=.ok L->Sz L Wd H):
 Calls prog 13 #[.string t,Iq w,Iq h,.slice sp sn sc] U fun e U'=>LyAt U U' w h idf off sn Wd H (pTree t) e:=by
 have HSz:Hid (∀L,pTree t=.ok L->Sz L Wd H):=hSz;clear hSz;have TP:Hid (Calls prog 21 #[.string t] U fun e w'=>TpOut U w' e (pTree t)):=tparse_any t E U hG hA hE;have SD:Hid (∀n u,Calls prog 35 #[Iq n] u fun e w'=>e=.returned (.bool (decide (1≤n∧n≤400)))∧w'=u):=isSide_any;have HT:Hid (TabAt U∧Scr U sp sn idf off):=⟨ht,hsc⟩;clear hG hA hE ht hsc;go_enter func13,ntmps13;go_wp2_with fail;refine TP.mono ?_;rintro e U1 ⟨hb1,hr⟩;have HB1:Hid (Below U.heap.size U U1):=hb1;clear hb1 TP;cases hp:pTree t with
 |error x=>
  rw[hp]at hr;subst hr;have hx:(errC x:Int)≠0:=by have:=err_pos hp;omega
  have hx2:((errC x:Int)!=0)=true:=by simpa using hx
  have HPP:Hid (pTree t=.error x):=hp;obtain⟨c,hc⟩:∃z:Int,(errC x:Int)=z:=⟨_,rfl⟩;have HCE:Hid ((errC x:Int)=c):=hc;rw[hc]at hx hx2⊢;clear hp hc;go_wp2;refine bodyPost_ret (results_tmp3 rfl _ _ _) rfl ?_;rw[HPP.out];exact⟨HB1,by show _=_;rw[HCE.out];rfl⟩
 |ok L=>
  rw[hp]at hr;obtain⟨nv,KV,rfl,hn⟩:=hr;have hT:Tree t L:=parse_tree (parse_of_ok hp);have hS:=HSz L hp;have hpos:=hT.pos;obtain⟨g,cap,rfl⟩:∃g cap,nv=Sq g L.length cap:=by
   obtain⟨xs,hx⟩:=hn.nr.row;rcases own_form hx with⟨_,h0⟩|⟨g,cap,e,_⟩;·omega
   ·exact⟨g,cap,e⟩
  have HN:Hid (PN U1 U.heap.size (Sq g L.length cap) L KV):=hn;have HPP:Hid (pTree t=.ok L):=hp;clear hn hp;by_cases hw:1≤w∧w≤400
  ·by_cases hh:1≤h∧h≤400
   ·have S1:Hid (∀u,Calls prog 35 #[Iq w] u fun e w'=>e=.returned (.bool true)∧w'=u):=fun u=>by have:=SD w u;rw[decide_eq_true hw]at this;exact this
    have S2:Hid (∀u,Calls prog 35 #[Iq h] u fun e w'=>e=.returned (.bool true)∧w'=u):=fun u=>by have:=SD h u;rw[decide_eq_true hh]at this;exact this
    have NM:Hid (Calls prog 22 #[Sq g L.length cap] U1 fun e u'=>∃mb r wb,e=.returned (Pq mb)∧Hid (Below U1.heap.size U1 u'∧Hs u' mb r g cap wb L KV Wd H 0∧U1.heap.size≤r)):=by refine(newMeasure_any g cap hT hS U1 _ HN (HT.1.below HB1)).mono ?_;rintro e u' ⟨mb,r,wb,h1,h2,h3,h4⟩;exact⟨mb,r,wb,h1,h2,h3,h4⟩
    have PL:Hid (∀u mb r wb,Below U1.heap.size U1 u->Hs u mb r g cap wb L KV Wd H 0->Calls prog 36 #[Pq mb,Iq w,Iq h,.slice sp sn sc] u fun e u'=>∃pb,e=.returned (Sq pb L.length L.length)∧Hid (∃P,u'.rowIs pb 50 (L.length*10) (pcF P)∧PlTo L Wd H w h idf off sn P L.length∧u.grownBy u' (some r)∧u.heap.size≤pb)):=fun u mb r wb hu hHs=>by have hbu:=HB1.trans (hu.mono HB1.size);refine(places_any mb r g cap wb hT hS w h sp sn sc idf off u hHs hw hh (HT.2.below hbu) hsn (fun a e=>Nat.lt_of_lt_of_le (hsp a e) hbu.size)).mono ?_;rintro e u' ⟨pb,P,h1,h2,h3,h4,h5⟩;exact⟨pb,h1,P,h2,h3,h4,h5⟩
    clear SD HT;go_wp2_with(first|(go_at_call 35;(with_reducible refine Calls.mono (S1.out _) ?_);rintro e u5 ⟨rfl,h5⟩;obtain rfl:=h5.symm)|(go_at_call 35;(with_reducible refine Calls.mono (S2.out _) ?_);rintro e u5 ⟨rfl,h5⟩;obtain rfl:=h5.symm)|(go_at_call 22;refine Calls.mono NM.out ?_;rintro e u6 ⟨mb,r,wb,rfl,HH⟩)|(go_at_call 36;refine Calls.mono (PL.out _ _ _ _ HH.out.1 HH.out.2.1) ?_;rintro e u7 ⟨pb,rfl,HZ⟩));all_goals refine bodyPost_ret (results_tmp3 rfl _ _ _) rfl ?_;rw[HPP.out];obtain⟨P,z1,z2,z3,z4⟩:=HZ.out;obtain⟨q1,q2,q3⟩:=HH.out;have hb1:=HB1.out;have hb6:=hb1.trans (q1.mono hb1.size);have hle:=hb1.size;have hle6:=hb6.size;refine⟨hb6.grown z3 hle6 (fun k hk=>by injection hk with hk;omega),?_⟩;exact .inr ⟨⟨hw.1,hw.2,hh.1,hh.2⟩,pb,P,rfl,z1,z2,by omega⟩
   ·have S1:Hid (∀u,Calls prog 35 #[Iq w] u fun e w'=>e=.returned (.bool true)∧w'=u):=fun u=>by have:=SD w u;rw[decide_eq_true hw]at this;exact this
    have S2:Hid (∀u,Calls prog 35 #[Iq h] u fun e w'=>e=.returned (.bool false)∧w'=u):=fun u=>by have:=SD h u;rw[decide_eq_false hh]at this;exact this
    clear SD HT HN;go_wp2_with(first|(go_at_call 35;(with_reducible refine Calls.mono (S1.out _) ?_);rintro e u5 ⟨rfl,h5⟩;obtain rfl:=h5.symm)|(go_at_call 35;(with_reducible refine Calls.mono (S2.out _) ?_);rintro e u5 ⟨rfl,h5⟩;obtain rfl:=h5.symm));all_goals refine bodyPost_ret (results_tmp3 rfl _ _ _) rfl ?_;rw[HPP.out];exact⟨HB1,.inl ⟨fun q=>hh ⟨q.2.2.1,q.2.2.2⟩,rfl⟩⟩
  ·have S1:Hid (∀u,Calls prog 35 #[Iq w] u fun e w'=>e=.returned (.bool false)∧w'=u):=fun u=>by have:=SD w u;rw[decide_eq_false hw]at this;exact this
   clear SD HT HN;go_wp2_with(go_at_call 35;refine Calls.mono (S1 _) ?_;rintro e u5 ⟨rfl,h5⟩;obtain rfl:=h5.symm);all_goals refine bodyPost_ret (results_tmp3 rfl _ _ _) rfl ?_;rw[HPP.out];exact⟨HB1,.inl ⟨fun q=>hw ⟨q.1,q.2.1⟩,rfl⟩⟩
theorem layout_any t  w h  sp  sn sc  idf off  E  U (hG:Glo U E)(hA:Apart U E)(hE:ErT U)(ht:TabAt U)(hsc:Scr U sp sn idf off)(hsn:sn≤4611686018427387904)(hsp:∀a,sp=some a->a.block<U.heap.size):
 Calls prog 13 #[.string t,Iq w,Iq h,.slice sp sn sc] U fun e U'=>LyOut U U' w h idf off sn (pTree t) e:=by
 obtain⟨Wd,H,hS⟩:=sz_pick t;refine(layout_at t w h sp sn sc idf off E U hG hA hE ht hsc hsn hsp Wd H hS).mono ?_;rintro e U' ⟨hb,q⟩;refine⟨hb,?_⟩;cases hp:pTree t with
 |error x=>rw[hp]at q;exact q
 |ok L=>
  rw[hp]at q;rcases q with q|⟨q1,pb,P,q2,q3,q4,q5⟩;·exact .inl q
  ·exact .inr ⟨q1,pb,P,Wd,H,hS L hp,q2,q3,q4,q5⟩
theorem results_tmp4{fn:Func}{t u v x}(h:fn.results=#[.tmp t,.tmp u,.tmp v,.tmp x]) tmps  P  w :
 (results fn tmps).run P w=.ok (.tuple #[tmps.getD t undef,tmps.getD u undef,tmps.getD v undef,tmps.getD x undef]) w:=by simp[results,h]
def RLyAt(U U':World)(w h:Int)(idf off:Nat->Int)(sn:Nat)(Wd:Nat->Int)(H:Nat->Int->Int)(r:Except (Option (Nat×Nat)) (List Nd))(e:Ending):Prop:=Below U.heap.size U U'∧match r with
 |.error x=>e=.returned (.tuple #[.slice none 0 0,.slice none 0 0,Iq (errC x:Int),Iq (errP x:Int)])
 |.ok L=>(¬(1≤w∧w≤400∧1≤h∧h≤400)∧e=.returned (.tuple #[.slice none 0 0,.slice none 0 0,Iq 6,Iq 0]))∨((1≤w∧w≤400∧1≤h∧h≤400)∧∃nv pb P,e=.returned (.tuple #[nv,Sq pb L.length L.length,Iq 0,Iq 0])∧U'.rowIs pb 47 (L.length*10) (pcF P)∧PlTo L Wd H w h idf off sn P L.length)
theorem rlayout_at t  w h  sp  sn sc  idf off  U (hsc:Scr U sp sn idf off)(hsn:sn≤4611686018427387904) Wd  H (hSz:∀L,pTree t=.ok L->Sz L Wd H):
 Calls prog 14 #[.string t,Iq w,Iq h,.slice sp sn sc] U fun e U'=>RLyAt U U' w h idf off sn Wd H (pTree t) e:=by
 have RP:=rparse_any t U;cases hp:pTree t with
 |error x=>
  have hx:(errC x:Int)≠0:=by have:=err_pos hp;omega
  rw[parse_of_err hp]at RP;obtain⟨c,hc⟩:∃z:Int,(errC x:Int)=z:=⟨_,rfl⟩;obtain⟨d,hd⟩:∃z:Int,(errP x:Int)=z:=⟨_,rfl⟩;have RP2:Hid (Calls prog 8 #[.string t] U fun e w'=>e=.returned (.tuple #[.slice none 0 0,Iq c,Iq d])∧Hid (Below U.heap.size U w')):=RP.mono fun e w' q=>⟨by have:=q.2;dsimp only at this;rw[hc,hd]at this;exact this,q.1⟩;have HCD:Hid ((errC x:Int)=c∧(errP x:Int)=d):=⟨hc,hd⟩;rw[hc]at hx;go_enter func14,ntmps14;go_wp2_with(go_at_call 8;refine RP2.mono ?_;rintro e U1 ⟨rfl,HB1⟩);all_goals refine bodyPost_ret (results_tmp4 rfl _ _ _) rfl ?_;exact⟨HB1,by show _=_;rw[HCD.1,HCD.2];rfl⟩
 |ok L=>
  have hT:Tree t L:=parse_tree (parse_of_ok hp);have hZ:=hSz L hp;have hpos:=hT.pos;rw[parse_of_ok hp]at RP;have RP2:Hid (Calls prog 8 #[.string t] U fun e w'=>∃g cap,e=.returned (.tuple #[Sq g L.length cap,Iq 0,Iq 0])∧Hid (NdsR w' g L.length (nth L))∧Hid (Below U.heap.size U w')):=RP.mono fun e w' q=>by
   obtain⟨h1,nv,AV,KV,h2,h3⟩:=q;obtain⟨g,cap,hv,hgl⟩:∃g cap,nv=Sq g L.length cap∧g<w'.heap.size:=by
    obtain⟨xs,hx⟩:=h3.nr.row;rcases own_form hx with⟨_,h0⟩|⟨g,cap,e,_,h5,_⟩;·omega
    ·exact⟨g,cap,e,h5⟩
   subst hv;exact⟨g,cap,h2,h3.nds hgl,h1⟩
  by_cases hs:1≤w∧w≤400∧1≤h∧h≤400
  ·have PL:Hid (∀g cap u,NdsR u g L.length (nth L)->Below U.heap.size U u->Calls prog 37 #[Sq g L.length cap,Iq w,Iq h,.slice sp sn sc] u fun e U'=>∃pb,e=.returned (Sq pb L.length L.length)∧Hid (RPlOut u U' L Wd H w h idf off sn pb)):=fun g cap u hu hb=>rplaced_any hT hZ g cap sp sn sc idf off w h u hu (hsc.below hb) hsn ⟨hs.1,hs.2.1⟩ hs.2.2;have HS:=qH<|hs;obtain⟨s1,s2,s3,s4⟩:=hs;have t1:¬w<1:=by omega
   have t2:¬400<w:=by omega
   have t3:¬h<1:=by omega
   have t4:¬400<h:=by omega
   go_enter func14,ntmps14;go_wp2_with(first|(go_at_call 8;refine RP2.mono ?_;rintro e U1 ⟨g,cap,rfl,HN1,HB1⟩)|(go_at_call 37;refine(PL _ _ _ HN1 HB1).mono ?_;rintro e U2 ⟨pb,rfl,HO⟩));all_goals refine bodyPost_ret (results_tmp4 rfl _ _ _) rfl ?_;obtain⟨z1,P,z2,z3⟩:=HO.out;exact⟨HB1.trans (z1.mono HB1.size),.inr ⟨HS,_,pb,P,rfl,z2,z3⟩⟩
  ·have hb:w<1∨(¬w<1∧400<w)∨((¬w<1∧¬400<w)∧h<1)∨((¬w<1∧¬400<w)∧¬h<1∧400<h):=by omega
   have HS:Hid (¬(1≤w∧w≤400∧1≤h∧h≤400)):=hs;rcases hb with t1|⟨t1,t2⟩|⟨⟨t1,t2⟩,t3⟩|⟨⟨t1,t2⟩,t3,t4⟩;all_goals go_enter func14,ntmps14;go_wp2_with(go_at_call 8;refine RP2.mono ?_;rintro e U1 ⟨g,cap,rfl,HN1,HB1⟩);all_goals refine bodyPost_ret (results_tmp4 rfl _ _ _) rfl ?_;exact⟨HB1,.inl ⟨HS,rfl⟩⟩
theorem lay_both s  w h  idf off  sn  Wd  H :∃(n:Nat) (c d:Int) (G:(Nat->Nat->Int)->Prop),n≤100∧(∀P Q,G P->G Q->∀i t,i<n->t<10->P i t=Q i t)∧
 (∀U U' e,LyAt U U' w h idf off sn Wd H (pTree s) e->∃lp,e=.returned (.tuple #[.slice lp n n,Iq c,Iq d])∧Hid (Below U.heap.size U U')∧Hid (n=0∨∃pb P,lp=some ⟨pb,0,none⟩∧U.heap.size≤pb∧U'.rowIs pb 50 (n*10) (pcF P)∧G P))∧
 ∀U U' e,RLyAt U U' w h idf off sn Wd H (pTree s) e->∃nv mp,e=.returned (.tuple #[nv,.slice mp n n,Iq c,Iq d])∧Hid (Below U.heap.size U U')∧Hid (n=0∨∃pb P,mp=some ⟨pb,0,none⟩∧U'.rowIs pb 47 (n*10) (pcF P)∧G P):=by
 cases hp:pTree s with
 |error q=>exact⟨0,_,_,fun _=>False,by omega,fun _ _ z=>z.elim,fun U U' e z=>⟨none,z.2,z.1,.inl rfl⟩,fun U U' e z=>⟨_,none,z.2,z.1,.inl rfl⟩⟩
 |ok L=>
  have hT:Tree s L:=parse_tree (parse_of_ok hp);by_cases hs:1≤w∧w≤400∧1≤h∧h≤400
  ·refine⟨L.length,0,0,fun P=>PlTo L Wd H w h idf off sn P L.length,hT.vl.cnt,fun P Q p q i t hi ht=>PlTo.uniq hT p q (i+1) i (by omega) hi t ht,fun U U' e z=>?_,fun U U' e z=>?_⟩
   ·rcases z.2 with⟨q,_⟩|⟨_,pb,P,q1,q2,q3,q4⟩;·exact absurd hs q
    ·exact⟨_,q1,z.1,.inr ⟨pb,P,rfl,q4,q2,q3⟩⟩
   ·rcases z.2 with⟨q,_⟩|⟨_,nv,pb,P,q1,q2,q3⟩;·exact absurd hs q
    ·exact⟨nv,_,q1,z.1,.inr ⟨pb,P,rfl,q2,q3⟩⟩
  ·refine⟨0,6,0,fun _=>False,by omega,fun _ _ z=>z.elim,fun U U' e z=>?_,fun U U' e z=>?_⟩
   ·rcases z.2 with⟨_,q⟩|⟨q,_⟩;·exact⟨none,q,z.1,.inl rfl⟩
    ·exact absurd q hs
   ·rcases z.2 with⟨_,q⟩|⟨q,_⟩;·exact⟨_,none,q,z.1,.inl rfl⟩
    ·exact absurd q hs
theorem row_ne{W:World}{a b}{T T'}{n m}{f g}(h:W.rowIs a T n f)(h':W.rowIs b T' m g)(ht:T≠T'):a≠b:=fun e=>by subst e;obtain⟨_,h1,_⟩:=h;obtain⟨_,h2,_⟩:=h';rw[h1]at h2;injection h2 with h2;injection h2 with _ h3 _;exact ht h3
theorem lays_walk s  w h  sp  sn sc  idf off  E  W (hG:Glo W E)(hA:Apart W E)(hE:ErT W)(ht:TabAt W)(hsc:Scr W sp sn idf off)(hsn:sn≤8796093022208):
 Calls prog 4 #[.string s,Iq w,Iq h,.slice sp sn sc] W fun e W'=>e=.returned (.bool true)∧Below W.heap.size W W':=by
 have hmix:prog.follows .mixedOrders=true:=by kernel_rfl
 obtain⟨Wd,H,hSz⟩:=sz_pick s;obtain⟨n,c,d,G,hn,hG1,e1,e2⟩:=lay_both s w h idf off sn Wd H;have NU:Hid (∀n u,Calls prog 9 #[Iq n] u fun e w'=>e=.returned (Iq n)∧w'=u):=lnum_any;have SC:Hid (Calls prog 12 #[.slice sp sn sc] W fun e u'=>∃p c,e=.returned (.slice p sn c)∧Hid (Scr u' p sn idf off∧(∀a:Addr,p=some a->a.block<u'.heap.size)∧Below W.heap.size W u')):=(scrolls_any sp sn sc idf off W hsc hsn).mono (by rintro e u' ⟨p,c,h1,h2,h3,h4⟩;exact⟨p,c,h1,h2,fun a e=>(h3 a e).2,h4⟩);have LY:Hid (∀u p q,Below W.heap.size W u->Scr u p sn idf off->(∀a:Addr,p=some a->a.block<u.heap.size)->Calls prog 13 #[.string s,Iq w,Iq h,.slice p sn q] u fun e u'=>∃lp,e=.returned (.tuple #[.slice lp n n,Iq c,Iq d])∧Hid (Below u.heap.size u u')∧Hid (n=0∨∃pb P,lp=some ⟨pb,0,none⟩∧u.heap.size≤pb∧u'.rowIs pb 50 (n*10) (pcF P)∧G P)):=fun u p q hu h1 h2=>(layout_at s w h p sn q idf off E u (hG.cells hu) (hA.below hu) (hE.below hu) (ht.below hu) h1 (by omega) h2 Wd H hSz).mono fun e u' z=>e1 u u' e z;have LX:Hid (∀t u,Below W.heap.size W u->Calls prog 13 #[.string t,Iq 9,Iq 3,.slice none 0 0] u fun e u'=>∃v,e=.returned v∧Hid (Below u.heap.size u u')):=fun t u hu=>(layout_any t 9 3 none 0 0 idf off E u (hG.cells hu) (hA.below hu) (hE.below hu) (ht.below hu) (.inl rfl) (by omega) (fun a e=>by cases e)).mono fun e u' z=>by
  obtain⟨hb,z⟩:=z;cases hp:pTree t with
  |error q=>rw[hp]at z;exact⟨_,z,hb⟩
  |ok L=>
   rw[hp]at z;rcases z with⟨_,z⟩|⟨_,pb,P,Wd',H',_,z,_⟩;·exact⟨_,z,hb⟩
   ·exact⟨_,z,hb⟩
 have RL:Hid (∀u,Below W.heap.size W u->Calls prog 14 #[.string s,Iq w,Iq h,.slice sp sn sc] u fun e u'=>∃nv mp,e=.returned (.tuple #[nv,.slice mp n n,Iq c,Iq d])∧Hid (Below u.heap.size u u')∧Hid (n=0∨∃pb P,mp=some ⟨pb,0,none⟩∧u'.rowIs pb 47 (n*10) (pcF P)∧G P)):=fun u hu=>(rlayout_at s w h sp sn sc idf off u (hsc.below hu) (by omega) Wd H hSz).mono fun e u' z=>e2 u u' e z;have HSP:Hid (∀u,Below W.heap.size W u->Scr u sp sn idf off):=fun u hu=>hsc.below hu;have TH:Hid (∀x y a b u,Calls prog 15 #[.agg #[Iq x,Iq y,Iq a,Iq b]] u fun e w'=>e=.returned (.agg #[Iq x,Iq y,Iq a,Iq b])∧Gr u w'):=fun x y a b u=>theirs_any x y a b u;have HEQ:=qH<|hG1;go_enter func4,ntmps4;go_wp2_with fail;refine SC.mono ?_;rintro e U1 ⟨p1,c1,rfl,HB1⟩;go_wp2_with fail;refine(LY _ _ _ HB1.2.2 HB1.1 HB1.2.1).mono ?_;rintro e U2 ⟨lp,rfl,HB2,HL2⟩;have HC2:=qH<|HB1.2.2.trans (HB2.mono HB1.2.2.size);go_wp2_with fail;refine(LX _ _ HC2).mono ?_;rintro e U3 ⟨v3,rfl,HB3⟩;have HC3:=qH<|HC2.trans (HB3.mono HC2.size);go_wp2_with fail;refine(RL _ HC3).mono ?_;rintro e U4 ⟨nv,mp,rfl,HB4,HM4⟩;have HC4:=qH<|HC3.trans (HB4.mono HC3.size);have HS4:Hid (Scr U4 p1 sn idf off):=((HB1.1.below HB2).below HB3).below HB4;have HZ4:=qH<|HSP U4 HC4;have HRW:Hid (n=0∨∃pb pb2 P,lp=some ⟨pb,0,none⟩∧mp=some ⟨pb2,0,none⟩∧W.heap.size≤pb∧U4.rowIs pb 50 (n*10) (pcF P)∧U4.rowIs pb2 47 (n*10) (pcF P)):=by
  by_cases h0:n=0;·exact .inl h0
  ·obtain⟨pb,P,q1,q2,q3,q4⟩:=HL2.resolve_left h0;obtain⟨pb2,Q,r1,r2,r3⟩:=HM4.resolve_left h0;refine .inr ⟨pb,pb2,P,q1,r1,Nat.le_trans HB1.2.2.size q2,rowIs_below (rowIs_below q3 HB3) HB4,r2.congr fun i hi=>?_⟩;unfold pcF;rw[HEQ P Q q4 r3 (i/10) (i %10) (by omega) (by omega)]
 go_wp2_with(go_at_call 9;refine(NU _ _).mono ?_;rintro e U5 ⟨rfl,h5⟩;obtain rfl:=h5.symm);go_loopw[17] (fun iv wr=>∃j:Nat,j≤sn∧iv=Iq (j:Int)∧Hid (Below U4.heap.size U4 wr)) (fun iv _=>sn-(intOf iv).toNat);case atStart=>exact⟨0,Nat.zero_le _,rfl,Below.refl _ _⟩
 case round=>
  obtain⟨j,hj,rfl,HBj⟩:=hrel;by_cases hlt:j<sn
  ·have hlt':(j:Int)<(sn:Int):=by omega
   obtain⟨b,o,rfl,hbl,hc⟩:=(HS4.below HBj).resolve_left (by omega);obtain⟨b2,o2,rfl,hbl2,hc2⟩:=(HZ4.below HBj).resolve_left (by omega);obtain⟨c0,c1⟩:=hc j hlt;obtain⟨d0,d1⟩:=hc2 j hlt;obtain⟨x,hx⟩:=nmd (idf j);obtain⟨y,hy⟩:=nmd (off j);rw[hx]at c0 d0;rw[hy]at c1 d1;go_wp2_with fail;go_quiet(fail);go_wp2;go_roundw;case rel=>exact⟨j+1,by omega,by go_num,below_drewN' HBj _⟩
   case measure=>simp[intOf];omega
  ·have hlt':¬(j:Int)<(sn:Int):=by omega
   obtain rfl:j=sn:=by omega
   obtain⟨U6,rfl⟩:=dmn wr;have HC6:=qH<|HC4.trans (HBj.mono HC4.size);rcases HRW.out with h0|⟨pb,pb2,P,rfl,rfl,hpb,hr1,hr2⟩
   ·subst h0;go_wp2;go_loopw[18] (fun iv wr=>iv=Iq 0∧Hid (Below W.heap.size W wr)) (fun _ _=>0);case atStart=>exact⟨rfl,HC6⟩
    case round=>obtain⟨rfl,HB⟩:=hrel;go_wp2;go_ret;exact⟨rfl,HB⟩
   ·have HR1:=qH<|rowIs_below hr1 HBj;have HR2:=qH<|rowIs_below hr2 HBj;have hne:pb≠pb2:=row_ne hr1 hr2 (by decide);go_wp2;go_loopw[18] (fun iv wr=>∃(j:Nat) (P1:Nat->Nat->Int),j≤n∧iv=Iq (j:Int)∧Hid (Below W.heap.size W wr)∧Hid (wr.rowIs pb 50 (n*10) (pcF P1))∧Hid (wr.rowIs pb2 47 (n*10) (pcF P))∧Hid (∀i t,j≤i->P1 i t=P i t)) (fun iv _=>n-(intOf iv).toNat);case atStart=>exact⟨0,P,Nat.zero_le _,rfl,HC6,HR1,HR2,fun i t _=>rfl⟩
    case round=>
     obtain⟨j,P1,hj,rfl,HB,HR1,HR2,HPe⟩:=hrel;by_cases hlt:j<n
     ·have hlt':(j:Int)<(n:Int):=by omega
      obtain⟨v0,hv0⟩:=nmd (P j 0);obtain⟨v1,hv1⟩:=nmd (P j 1);obtain⟨v2,hv2⟩:=nmd (P j 2);obtain⟨v3,hv3⟩:=nmd (P j 3);obtain⟨v4,hv4⟩:=nmd (P j 4);obtain⟨v5,hv5⟩:=nmd (P j 5);obtain⟨v6,hv6⟩:=nmd (P j 6);obtain⟨v7,hv7⟩:=nmd (P j 7);obtain⟨v8,hv8⟩:=nmd (P j 8);obtain⟨v9,hv9⟩:=nmd (P j 9);have m0:wr.cell? ⟨pb2,j*10,none⟩=some (Iq v0):=by have:=pc_cell HR2 hlt (t:=0) (by omega);rw[hv0]at this;exact this
      have m1:wr.cell? ⟨pb2,j*10+1,none⟩=some (Iq v1):=by have:=pc_cell HR2 hlt (t:=1) (by omega);rw[hv1]at this;exact this
      have m2:wr.cell? ⟨pb2,j*10+2,none⟩=some (Iq v2):=by have:=pc_cell HR2 hlt (t:=2) (by omega);rw[hv2]at this;exact this
      have m3:wr.cell? ⟨pb2,j*10+3,none⟩=some (Iq v3):=by have:=pc_cell HR2 hlt (t:=3) (by omega);rw[hv3]at this;exact this
      have m4:wr.cell? ⟨pb2,j*10+4,none⟩=some (Iq v4):=by have:=pc_cell HR2 hlt (t:=4) (by omega);rw[hv4]at this;exact this
      have m5:wr.cell? ⟨pb2,j*10+5,none⟩=some (Iq v5):=by have:=pc_cell HR2 hlt (t:=5) (by omega);rw[hv5]at this;exact this
      have m6:wr.cell? ⟨pb2,j*10+6,none⟩=some (Iq v6):=by have:=pc_cell HR2 hlt (t:=6) (by omega);rw[hv6]at this;exact this
      have m7:wr.cell? ⟨pb2,j*10+7,none⟩=some (Iq v7):=by have:=pc_cell HR2 hlt (t:=7) (by omega);rw[hv7]at this;exact this
      have m8:wr.cell? ⟨pb2,j*10+8,none⟩=some (Iq v8):=by have:=pc_cell HR2 hlt (t:=8) (by omega);rw[hv8]at this;exact this
      have m9:wr.cell? ⟨pb2,j*10+9,none⟩=some (Iq v9):=by have:=pc_cell HR2 hlt (t:=9) (by omega);rw[hv9]at this;exact this
      obtain⟨Aq,hAq⟩:=nmd wr.heap.size;obtain⟨Wq,hWq⟩:=nmd (wr.alloc (.cells #[Iq v0,Iq v1,Iq v2,Iq v3,Iq v4,Iq v5,Iq v6,Iq v7,Iq v8,Iq v9] 47));have hat:Wq.heap[Aq]?=some (.cells #[Iq v0,Iq v1,Iq v2,Iq v3,Iq v4,Iq v5,Iq v6,Iq v7,Iq v8,Iq v9] 47 (0,0)):=by rw[<-hWq,<-hAq];exact heap_alloc_new _ _
      have hAl:Aq<Wq.heap.size:=(Array.getElem?_eq_some_iff.1 hat).1;have HBq:Hid (Below wr.heap.size wr Wq):=by rw[<-hWq];exact((Gr.refl wr).alloc _).below
      have HRq:=qH<|rowIs_below HR1 HBq;have l0:∀n' os',(grow (Wq.drewN n') os').cell? ⟨pb,j*10,none⟩=some (Iq v0):=cell_grown HRq.lt (by have:=pc_cell HRq hlt (t:=0) (by omega);rw[HPe j 0 (Nat.le_refl _),hv0]at this;exact this);have l1:∀n' os',(grow (Wq.drewN n') os').cell? ⟨pb,j*10+1,none⟩=some (Iq v1):=cell_grown HRq.lt (by have:=pc_cell HRq hlt (t:=1) (by omega);rw[HPe j 1 (Nat.le_refl _),hv1]at this;exact this);have l2:∀n' os',(grow (Wq.drewN n') os').cell? ⟨pb,j*10+2,none⟩=some (Iq v2):=cell_grown HRq.lt (by have:=pc_cell HRq hlt (t:=2) (by omega);rw[HPe j 2 (Nat.le_refl _),hv2]at this;exact this);have l3:∀n' os',(grow (Wq.drewN n') os').cell? ⟨pb,j*10+3,none⟩=some (Iq v3):=cell_grown HRq.lt (by have:=pc_cell HRq hlt (t:=3) (by omega);rw[HPe j 3 (Nat.le_refl _),hv3]at this;exact this);have l4:∀n' os',(grow (Wq.drewN n') os').cell? ⟨pb,j*10+4,none⟩=some (Iq v4):=cell_grown HRq.lt (by have:=pc_cell HRq hlt (t:=4) (by omega);rw[HPe j 4 (Nat.le_refl _),hv4]at this;exact this);have l5:∀n' os',(grow (Wq.drewN n') os').cell? ⟨pb,j*10+5,none⟩=some (Iq v5):=cell_grown HRq.lt (by have:=pc_cell HRq hlt (t:=5) (by omega);rw[HPe j 5 (Nat.le_refl _),hv5]at this;exact this);have l6:∀n' os',(grow (Wq.drewN n') os').cell? ⟨pb,j*10+6,none⟩=some (Iq v6):=cell_grown HRq.lt (by have:=pc_cell HRq hlt (t:=6) (by omega);rw[HPe j 6 (Nat.le_refl _),hv6]at this;exact this);have l7:∀n' os',(grow (Wq.drewN n') os').cell? ⟨pb,j*10+7,none⟩=some (Iq v7):=cell_grown HRq.lt (by have:=pc_cell HRq hlt (t:=7) (by omega);rw[HPe j 7 (Nat.le_refl _),hv7]at this;exact this);have l8:∀n' os',(grow (Wq.drewN n') os').cell? ⟨pb,j*10+8,none⟩=some (Iq v8):=cell_grown HRq.lt (by have:=pc_cell HRq hlt (t:=8) (by omega);rw[HPe j 8 (Nat.le_refl _),hv8]at this;exact this);have l9:∀n' os',(grow (Wq.drewN n') os').cell? ⟨pb,j*10+9,none⟩=some (Iq v9):=cell_grown HRq.lt (by have:=pc_cell HRq hlt (t:=9) (by omega);rw[HPe j 9 (Nat.le_refl _),hv9]at this;exact this);have x0:∀n' os',(grow (Wq.drewN n') os').cell? ⟨Aq,0,none⟩=some (Iq v0):=cell_grown hAl (by rw[Lib.cell_of_heap hat];rfl);have x1:∀n' os',(grow (Wq.drewN n') os').cell? ⟨Aq,1,none⟩=some (Iq v1):=cell_grown hAl (by rw[Lib.cell_of_heap hat];rfl);have x2:∀n' os',(grow (Wq.drewN n') os').cell? ⟨Aq,2,none⟩=some (Iq v2):=cell_grown hAl (by rw[Lib.cell_of_heap hat];rfl);have x3:∀n' os',(grow (Wq.drewN n') os').cell? ⟨Aq,3,none⟩=some (Iq v3):=cell_grown hAl (by rw[Lib.cell_of_heap hat];rfl);have x4:∀n' os',(grow (Wq.drewN n') os').cell? ⟨Aq,4,none⟩=some (Iq v4):=cell_grown hAl (by rw[Lib.cell_of_heap hat];rfl);have x5:∀n' os',(grow (Wq.drewN n') os').cell? ⟨Aq,5,none⟩=some (Iq v5):=cell_grown hAl (by rw[Lib.cell_of_heap hat];rfl);have x6:∀n' os',(grow (Wq.drewN n') os').cell? ⟨Aq,6,none⟩=some (Iq v6):=cell_grown hAl (by rw[Lib.cell_of_heap hat];rfl);have x7:∀n' os',(grow (Wq.drewN n') os').cell? ⟨Aq,7,none⟩=some (Iq v7):=cell_grown hAl (by rw[Lib.cell_of_heap hat];rfl);have x8:∀n' os',(grow (Wq.drewN n') os').cell? ⟨Aq,8,none⟩=some (Iq v8):=cell_grown hAl (by rw[Lib.cell_of_heap hat];rfl);have x9:∀n' os',(grow (Wq.drewN n') os').cell? ⟨Aq,9,none⟩=some (Iq v9):=cell_grown hAl (by rw[Lib.cell_of_heap hat];rfl);clear hat hv0 hv1 hv2 hv3 hv4 hv5 hv6 hv7 hv8 hv9;go_wp2_with fail;clear hWq hAq m0 m1 m2 m3 m4 m5 m6 m7 m8 m9;go_quiet_grown(first|(go_at_call 15;exact Calls.grown_of (TH _ _ _ _ _)));have HBg:Hid (Below wr.heap.size wr (grow (Wq.drewN nq) osq)):=HBq.trans ((Gr.below (⟨nq,osq,rfl⟩:Gr Wq _)).mono HBq.size);have g0:=l0 nq osq;have g1:=l1 nq osq;have g2:=l2 nq osq;have g3:=l3 nq osq;have g4:=l4 nq osq;have g5:=l5 nq osq;have g6:=l6 nq osq;have g7:=l7 nq osq;have g8:=l8 nq osq;have g9:=l9 nq osq;clear l0 x0 l1 x1 l2 x2 l3 x3 l4 x4 l5 x5 l6 x6 l7 x7 l8 x8 l9 x9;obtain⟨Wg,hWg⟩:=nmd (grow (Wq.drewN nq) osq);rw[hWg]at HBg g0 g1 g2 g3 g4 g5 g6 g7 g8 g9⊢;clear hWg;have HRg:=qH<|rowIs_below HR1 HBg;have HRh:=qH<|rowIs_below HR2 HBg;have gf:=HRg.frozen;have gl:=HRg.lt;have HBG:=qH<|HB.trans (HBg.mono HB.size);go_wp2;go_roundw;case rel=>
       refine⟨j+1,putAt (putAt (putAt (putAt (putAt (putAt (putAt (putAt (putAt (putAt P1 j 0 0) j 1 (0)) j 2 (0)) j 3 (0)) j 4 (0)) j 5 (0)) j 6 (0)) j 7 (0)) j 8 (-9)) j 9 (0),by omega,by go_num,?_,pc_set (pc_set (pc_set (pc_set (pc_set (pc_set (pc_set (pc_set (pc_set (pc_set (HRg) j 0 (by omega) (0)) j 1 (by omega) (0)) j 2 (by omega) (0)) j 3 (by omega) (0)) j 4 (by omega) (0)) j 5 (by omega) (0)) j 6 (by omega) (0)) j 7 (by omega) (0)) j 8 (by omega) (-9)) j 9 (by omega) (0),?_,fun i t hi=>?_⟩;·have k:∀{X:World} {o:Nat} {v:Value},Below W.heap.size W X->Below W.heap.size W (X.setCell ⟨pb,o,none⟩ v):=fun hX=>hX.setCell (by show W.heap.size≤pb;omega) _;exact k (k (k (k (k (k (k (k (k (k HBG)))))))))
       ·refine HRh.of_block ?_;have k:∀(X:World) (o:Nat) (v:Value),(X.setCell ⟨pb,o,none⟩ v).heap[pb2]?=X.heap[pb2]?:=fun X o v=>Below.heap_setCell X ⟨pb,o,none⟩ v pb2 (fun e=>hne e.symm);rw[k,k,k,k,k,k,k,k,k,k]
       ·unfold putAt;simp only[show¬i=j by omega,false_and,if_false];exact HPe i t (by omega)
      case measure=>simp[intOf];omega
     ·have hlt':¬(j:Int)<(n:Int):=by omega
      go_wp2;go_ret;exact⟨rfl,HB⟩
