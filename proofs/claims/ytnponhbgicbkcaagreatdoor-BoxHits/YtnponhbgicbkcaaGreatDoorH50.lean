import Derived.Test.YtnponhbgicbkcaaGreatDoorL37
import Derived.Test.YtnponhbgicbkcaaGreatDoorL29
import Derived.Test.YtnponhbgicbkcaaGreatDoorL48
import Derived.Test.YtnponhbgicbkcaaGreatDoorL49
set_option linter.unusedVariables false
set_option maxRecDepth 100000
set_option maxHeartbeats 16000000
namespace Go.Proofs.YtnponhbgicbkcaaGreatDoor
section
open Go.RowKit Go.Sort
theorem sz_pick t :∃Wd H,∀L,pTree t=.ok L->Sz L Wd H:=by
 cases hp:pTree t with
 |error x=>exact⟨fun _=>0,fun _ _=>0,fun L q=>by cases q⟩
 |ok L=>obtain⟨Wd,H,hS⟩:=sz_ex (parse_tree (parse_of_ok hp)).nest;exact⟨Wd,H,fun L' q=>by cases q;exact hS⟩
end
section
open Go.RowKit Go.Sort Go.Proofs.Tryz
def LyOut(U U':World)(w h:Int)(idf off:Nat->Int)(sn:Nat)(r:Except (Option (Nat×Nat)) (List Nd))(e:Ending):Prop:=Below U.heap.size U U'∧match r with
 |.error x=>e=.returned (.tuple #[.slice none 0 0,Iq (errC x:Int),Iq (errP x:Int)])
 |.ok L=>(¬(1≤w∧w≤400∧1≤h∧h≤400)∧e=.returned (.tuple #[.slice none 0 0,Iq 6,Iq 0]))∨((1≤w∧w≤400∧1≤h∧h≤400)∧∃pb P Wd H,Sz L Wd H∧e=.returned (.tuple #[Sq pb L.length L.length,Iq 0,Iq 0])∧U'.rowIs pb 50 (L.length*10) (pcF P)∧PlTo L Wd H w h idf off sn P L.length∧U.heap.size≤pb)
def LyAt(U U':World)(w h:Int)(idf off:Nat->Int)(sn:Nat)(Wd:Nat->Int)(H:Nat->Int->Int)(r:Except (Option (Nat×Nat)) (List Nd))(e:Ending):Prop:=Below U.heap.size U U'∧match r with
 |.error x=>e=.returned (.tuple #[.slice none 0 0,Iq (errC x:Int),Iq (errP x:Int)])
 |.ok L=>(¬(1≤w∧w≤400∧1≤h∧h≤400)∧e=.returned (.tuple #[.slice none 0 0,Iq 6,Iq 0]))∨((1≤w∧w≤400∧1≤h∧h≤400)∧∃pb P,e=.returned (.tuple #[Sq pb L.length L.length,Iq 0,Iq 0])∧U'.rowIs pb 50 (L.length*10) (pcF P)∧PlTo L Wd H w h idf off sn P L.length∧U.heap.size≤pb)
theorem layout_at t  w h  sp  sn sc  idf off  E  U (hG:Glo U E)(hA:Apart U E)(hE:ErT U)(ht:TabAt U)(hsc:Scr U sp sn idf off)(hsn:sn≤4611686018427387904)(hsp:∀a,sp=some a->a.block<U.heap.size) Wd  H (hSz:∀L,pTree t=.ok L->Sz L Wd H):
 Calls prog 13 #[.string t,Iq w,Iq h,.slice sp sn sc] U fun e U'=>LyAt U U' w h idf off sn Wd H (pTree t) e:=by
 have HSz:Hid (∀L,pTree t=.ok L->Sz L Wd H):=hSz;clear hSz;have TP:Hid (Calls prog 21 #[.string t] U fun e w'=>TpOut U w' e (pTree t)):=tparse_any t E U hG hA hE;have SD:Hid (∀n u,Calls prog 35 #[Iq n] u fun e w'=>e=.returned (.bool (decide (1≤n∧n≤400)))∧w'=u):=isSide_any;have HT:Hid (TabAt U∧Scr U sp sn idf off):=⟨ht,hsc⟩;clear hG hA hE ht hsc;go_enter func13,ntmps13;go_wp2_with fail;refine TP.mono ?_;rintro e U1 ⟨hb1,hr⟩;have HB1:Hid (Below U.heap.size U U1):=hb1;clear hb1 TP;cases hp:pTree t with
 |error x=>
  rw[hp]at hr;subst hr;have hx:(errC x:Int)≠0:=by have:=err_pos hp;omega
  have hx2:((errC x:Int)!=0)=true:=by simpa using hx
  have HPP:Hid (pTree t=.error x):=hp;obtain⟨c,hc⟩:∃z:Int,(errC x:Int)=z:=⟨_,rfl⟩;have HCE:Hid ((errC x:Int)=c):=hc;rw[hc]at hx hx2⊢;clear hp hc;go_wp2;refine bodyPost_ret (results_tmp3 rfl _ _ _) rfl ?_;rw[HPP.out];exact⟨HB1,by show _=_;rw[HCE.out];rfl⟩
 |ok L=>
  rw[hp]at hr;obtain⟨nv,KV,rfl,hn⟩:=hr;have hT:Tree t L:=parse_tree (parse_of_ok hp);have hS:=HSz L hp;have hpos:=hT.pos;obtain⟨g,cap,rfl⟩:∃g cap,nv=Sq g L.length cap:=by
   obtain⟨xs,hx⟩:=hn.nr.row;rcases own_form hx with⟨_,h0⟩|⟨g,cap,e,_⟩;·omega
   ·exact⟨g,cap,e⟩
  have HN:Hid (PN U1 U.heap.size (Sq g L.length cap) L KV):=hn;have HPP:Hid (pTree t=.ok L):=hp;clear hn hp;by_cases hw:1≤w∧w≤400
  ·by_cases hh:1≤h∧h≤400
   ·have S1:Hid (∀u,Calls prog 35 #[Iq w] u fun e w'=>e=.returned (.bool true)∧w'=u):=fun u=>by have:=SD w u;rw[decide_eq_true hw]at this;exact this
    have S2:Hid (∀u,Calls prog 35 #[Iq h] u fun e w'=>e=.returned (.bool true)∧w'=u):=fun u=>by have:=SD h u;rw[decide_eq_true hh]at this;exact this
    have NM:Hid (Calls prog 22 #[Sq g L.length cap] U1 fun e u'=>∃mb r wb,e=.returned (Pq mb)∧Hid (Below U1.heap.size U1 u'∧Hs u' mb r g cap wb L KV Wd H 0∧U1.heap.size≤r)):=by refine(newMeasure_any g cap hT hS U1 _ HN (HT.1.below HB1)).mono ?_;rintro e u' ⟨mb,r,wb,h1,h2,h3,h4⟩;exact⟨mb,r,wb,h1,h2,h3,h4⟩
    have PL:Hid (∀u mb r wb,Below U1.heap.size U1 u->Hs u mb r g cap wb L KV Wd H 0->Calls prog 36 #[Pq mb,Iq w,Iq h,.slice sp sn sc] u fun e u'=>∃pb,e=.returned (Sq pb L.length L.length)∧Hid (∃P,u'.rowIs pb 50 (L.length*10) (pcF P)∧PlTo L Wd H w h idf off sn P L.length∧u.grownBy u' (some r)∧u.heap.size≤pb)):=fun u mb r wb hu hHs=>by have hbu:=HB1.trans (hu.mono HB1.size);refine(places_any mb r g cap wb hT hS w h sp sn sc idf off u hHs hw hh (HT.2.below hbu) hsn (fun a e=>Nat.lt_of_lt_of_le (hsp a e) hbu.size)).mono ?_;rintro e u' ⟨pb,P,h1,h2,h3,h4,h5⟩;exact⟨pb,h1,P,h2,h3,h4,h5⟩
    clear SD HT;go_wp2_with(first|(go_at_call 35;(with_reducible refine Calls.mono (S1.out _) ?_);rintro e u5 ⟨rfl,h5⟩;obtain rfl:=h5.symm)|(go_at_call 35;(with_reducible refine Calls.mono (S2.out _) ?_);rintro e u5 ⟨rfl,h5⟩;obtain rfl:=h5.symm)|(go_at_call 22;refine Calls.mono NM.out ?_;rintro e u6 ⟨mb,r,wb,rfl,HH⟩)|(go_at_call 36;refine Calls.mono (PL.out _ _ _ _ HH.out.1 HH.out.2.1) ?_;rintro e u7 ⟨pb,rfl,HZ⟩));all_goals refine bodyPost_ret (results_tmp3 rfl _ _ _) rfl ?_;rw[HPP.out];obtain⟨P,z1,z2,z3,z4⟩:=HZ.out;obtain⟨q1,q2,q3⟩:=HH.out;have hb1:=HB1.out;have hb6:=hb1.trans (q1.mono hb1.size);have hle:=hb1.size;have hle6:=hb6.size;refine⟨hb6.grown z3 hle6 (fun k hk=>by injection hk with hk;omega),?_⟩;exact .inr ⟨⟨hw.1,hw.2,hh.1,hh.2⟩,pb,P,rfl,z1,z2,by omega⟩
   ·have S1:Hid (∀u,Calls prog 35 #[Iq w] u fun e w'=>e=.returned (.bool true)∧w'=u):=fun u=>by have:=SD w u;rw[decide_eq_true hw]at this;exact this
    have S2:Hid (∀u,Calls prog 35 #[Iq h] u fun e w'=>e=.returned (.bool false)∧w'=u):=fun u=>by have:=SD h u;rw[decide_eq_false hh]at this;exact this
    clear SD HT HN;go_wp2_with(first|(go_at_call 35;(with_reducible refine Calls.mono (S1.out _) ?_);rintro e u5 ⟨rfl,h5⟩;obtain rfl:=h5.symm)|(go_at_call 35;(with_reducible refine Calls.mono (S2.out _) ?_);rintro e u5 ⟨rfl,h5⟩;obtain rfl:=h5.symm));all_goals refine bodyPost_ret (results_tmp3 rfl _ _ _) rfl ?_;rw[HPP.out];exact⟨HB1,.inl ⟨fun q=>hh ⟨q.2.2.1,q.2.2.2⟩,rfl⟩⟩
  ·have S1:Hid (∀u,Calls prog 35 #[Iq w] u fun e w'=>e=.returned (.bool false)∧w'=u):=fun u=>by have:=SD w u;rw[decide_eq_false hw]at this;exact this
   clear SD HT HN;go_wp2_with(go_at_call 35;refine Calls.mono (S1 _) ?_;rintro e u5 ⟨rfl,h5⟩;obtain rfl:=h5.symm);all_goals refine bodyPost_ret (results_tmp3 rfl _ _ _) rfl ?_;rw[HPP.out];exact⟨HB1,.inl ⟨fun q=>hw ⟨q.1,q.2.1⟩,rfl⟩⟩
theorem layout_any t  w h  sp  sn sc  idf off  E  U (hG:Glo U E)(hA:Apart U E)(hE:ErT U)(ht:TabAt U)(hsc:Scr U sp sn idf off)(hsn:sn≤4611686018427387904)(hsp:∀a,sp=some a->a.block<U.heap.size):
 Calls prog 13 #[.string t,Iq w,Iq h,.slice sp sn sc] U fun e U'=>LyOut U U' w h idf off sn (pTree t) e:=by
 obtain⟨Wd,H,hS⟩:=sz_pick t;refine(layout_at t w h sp sn sc idf off E U hG hA hE ht hsc hsn hsp Wd H hS).mono ?_;rintro e U' ⟨hb,q⟩;refine⟨hb,?_⟩;cases hp:pTree t with
 |error x=>rw[hp]at q;exact q
 |ok L=>
  rw[hp]at q;rcases q with q|⟨q1,pb,P,q2,q3,q4,q5⟩;·exact .inl q
  ·exact .inr ⟨q1,pb,P,Wd,H,hS L hp,q2,q3,q4,q5⟩
def clipHas(P:Nat->Nat->Int)(x y:Int)(i:Nat):Bool:=holdB (P i 4) (P i 5) (P i 6) (P i 7) x y
def HitIs(P:Nat->Nat->Int)(n:Nat)(x y:Int)(k:Nat)(c:Int):Prop:=
 (c=0∧k<n∧clipHas P x y k=true∧∀j,k<j->j<n->clipHas P x y j=false)∨(c=6∧k=0∧∀j,j<n->clipHas P x y j=false)
def HtAt(U U':World)(w h:Int)(idf off:Nat->Int)(sn:Nat)(Wd:Nat->Int)(H:Nat->Int->Int)(x y:Int)(r:Except (Option (Nat×Nat)) (List Nd))(e:Ending):Prop:=Below U.heap.size U U'∧match r with
 |.error q=>e=.returned (.tuple #[Iq 0,Iq (errC q:Int),Iq (errP q:Int)])
 |.ok L=>(¬(1≤w∧w≤400∧1≤h∧h≤400)∧e=.returned (.tuple #[Iq 0,Iq 6,Iq 0]))∨((1≤w∧w≤400∧1≤h∧h≤400)∧∃P k c,PlTo L Wd H w h idf off sn P L.length∧HitIs P L.length x y k c∧e=.returned (.tuple #[Iq (k:Int),Iq c,Iq 0]))
theorem hit_at t  w h  sp  sn sc  idf off  x y  E  U (hG:Glo U E)(hA:Apart U E)(hE:ErT U)(ht:TabAt U)(hsc:Scr U sp sn idf off)(hsn:sn≤4611686018427387904)(hsp:∀a,sp=some a->a.block<U.heap.size) Wd  H (hSz:∀L,pTree t=.ok L->Sz L Wd H):
 Calls prog 16 #[.string t,Iq w,Iq h,.slice sp sn sc,Iq x,Iq y] U fun e U'=>HtAt U U' w h idf off sn Wd H x y (pTree t) e:=by
 have LY:Hid (Calls prog 13 #[.string t,Iq w,Iq h,.slice sp sn sc] U fun e U'=>LyAt U U' w h idf off sn Wd H (pTree t) e):=layout_at t w h sp sn sc idf off E U hG hA hE ht hsc hsn hsp Wd H hSz;clear hG hA hE ht hsc;cases hp:pTree t with
 |error q=>
  rw[hp]at LY;have hx:((errC q:Int)!=0)=true:=by have:=err_pos hp;simp;omega
  obtain⟨c,hc⟩:∃z:Int,(errC q:Int)=z:=⟨_,rfl⟩;obtain⟨d,hd⟩:∃z:Int,(errP q:Int)=z:=⟨_,rfl⟩;have HCD:Hid ((errC q:Int)=c∧(errP q:Int)=d):=⟨hc,hd⟩;have LY2:Hid (Calls prog 13 #[.string t,Iq w,Iq h,.slice sp sn sc] U fun e U'=>e=.returned (.tuple #[.slice none 0 0,Iq c,Iq d])∧Hid (Below U.heap.size U U')):=LY.mono fun e w' q=>⟨by have:=q.2;dsimp only at this;rw[hc,hd]at this;exact this,q.1⟩;rw[hc]at hx;clear LY hp hc hd;go_enter func16,ntmps16;go_wp2_with(go_at_call 13;refine LY2.mono ?_;rintro e U1 ⟨rfl,HB⟩);refine bodyPost_ret (results_tmp3 rfl _ _ _) rfl ?_;exact⟨HB,by show _=_;rw[HCD.1,HCD.2];rfl⟩
 |ok L=>
  rw[hp]at LY;have hT:Tree t L:=parse_tree (parse_of_ok hp);have hcnt:=hT.vl.cnt;have hpos:=hT.pos;by_cases hr:1≤w∧w≤400∧1≤h∧h≤400
  ·have LY2:Hid (Calls prog 13 #[.string t,Iq w,Iq h,.slice sp sn sc] U fun e U'=>∃pb,e=.returned (.tuple #[Sq pb L.length L.length,Iq 0,Iq 0])∧Hid (Below U.heap.size U U'∧∃P,U'.rowIs pb 50 (L.length*10) (pcF P)∧PlTo L Wd H w h idf off sn P L.length)):=LY.mono fun e w' q=>by
    obtain⟨hb,q⟩:=q;rcases q with⟨q,_⟩|⟨_,pb,P,q2,q3,q4,_⟩;·exact absurd hr q
    ·exact⟨pb,q2,hb,P,q3,q4⟩
   have HR:Hid (1≤w∧w≤400∧1≤h∧h≤400):=hr;obtain⟨N,hN⟩:=nmd L.length;have HN:Hid (L.length=N):=hN;rw[hN]at hcnt hpos LY2;clear LY hp hr hT hN;go_enter func16,ntmps16;go_wp2_with(go_at_call 13;refine LY2.mono ?_;rintro e U1 ⟨pb,rfl,HL⟩);obtain⟨P,HP⟩:∃P,Hid (Below U.heap.size U U1∧U1.rowIs pb 50 (N*10) (pcF P)∧PlTo L Wd H w h idf off sn P N):=by obtain⟨a,P,b,c⟩:=HL.out;exact⟨P,a,b,c⟩
   clear HL LY2;go_loopw[18] (fun iv wr=>∃m:Nat,m≤N∧iv=Iq ((m:Int)-1)∧Hid (∀j,m≤j->j<N->clipHas P x y j=false)∧Hid (Below U1.heap.size U1 wr)) (fun iv _=>(intOf iv+1).toNat);case atStart=>exact⟨N,Nat.le_refl _,rfl,fun j h1 h2=>by omega,Below.refl _ _⟩
   case round=>
    obtain⟨m,hm,rfl,HF,HB⟩:=hrel;by_cases h0:m=0;·subst h0;have e1:decide (0≤((0:Nat):Int)-1)=false:=rfl;go_wp2;refine bodyPost_ret (results_tmp3 rfl _ _ _) rfl ?_;obtain⟨a,b,c⟩:=HP.out;refine⟨a.trans (HB.mono a.size),.inr ⟨HR,P,0,6,by rw[HN.out];exact c,.inr ⟨rfl,rfl,fun j hj=>HF j (by omega) (by have:=HN.out;omega)⟩,rfl⟩⟩
    ·obtain⟨i,rfl⟩:∃i,m=i+1:=⟨m-1,by omega⟩;have ei:((i+1:Nat):Int)-1=(i:Int):=by omega
     rw[ei];have hi0:(0:Int)≤(i:Int):=by omega
     have hiN:(i:Int)<(N:Int):=by omega
     have hcell:∀t,t<10->wr.cell? ⟨pb,i*10+t,none⟩=some (Iq (P i t)):=fun t ht=>by have:=pc_cell HP.2.1 (c:=i) (t:=t) (by omega) ht;exact(World.cell?_of_block (HB.block pb (World.block_lt_of_cell? U1 _ this))).trans this
     have y4:=hcell 4 (by omega);have y5:=hcell 5 (by omega);have y6:=hcell 6 (by omega);have y7:=hcell 7 (by omega);have HO:Hid (∀u,Calls prog 20 #[.agg #[Iq (P i 4),Iq (P i 5),Iq (P i 6),Iq (P i 7)],Iq x,Iq y] u fun e u'=>e=.returned (.bool (clipHas P x y i))∧Hid (Below u.heap.size u u')):=fun u=>(holds_any (P i 4) (P i 5) (P i 6) (P i 7) x y u).mono fun e u' q=>⟨q.1,q.2.below⟩;obtain⟨bb,hbb⟩:=nmd (clipHas P x y i);rw[hbb]at HO;have HBB:Hid (clipHas P x y i=bb):=hbb;generalize P i 4=c4 at y4 HO;generalize P i 5=c5 at y5 HO;generalize P i 6=c6 at y6 HO;generalize P i 7=c7 at y7 HO;clear hcell hbb ei;cases bb with
     |true=>go_wp2_with(go_at_call 20;refine(HO _).mono ?_;rintro e u2 ⟨rfl,HB2⟩);refine bodyPost_ret (results_tmp3 rfl _ _ _) rfl ?_;obtain⟨a,b,c⟩:=HP.out;have hb1:=a.trans (HB.mono a.size);exact⟨hb1.trans (HB2.mono hb1.size),.inr ⟨HR,P,i,0,by rw[HN.out];exact c,.inl ⟨rfl,by have:=HN.out;omega,HBB,fun j h1 h2=>HF j (by omega) (by have:=HN.out;omega)⟩,rfl⟩⟩
     |false=>
      have HF2:Hid (∀j,i≤j->j<N->clipHas P x y j=false):=fun j h1 h2=>by
       by_cases e:j=i;·rw[e];exact HBB
       ·exact HF j (by omega) h2
      go_wp2_with(go_at_call 20;refine(HO _).mono ?_;rintro e u2 ⟨rfl,HB2⟩);go_roundw;case rel=>exact⟨i,by omega,by go_num,HF2,HB.trans (HB2.mono HB.size)⟩
      case measure=>simp[intOf]
  ·have LY2:Hid (Calls prog 13 #[.string t,Iq w,Iq h,.slice sp sn sc] U fun e U'=>e=.returned (.tuple #[.slice none 0 0,Iq 6,Iq 0])∧Hid (Below U.heap.size U U')):=LY.mono fun e w' q=>by
    obtain⟨hb,q⟩:=q;rcases q with⟨_,q⟩|⟨q,_⟩;·exact⟨q,hb⟩
    ·exact absurd q hr
   have HR:Hid (¬(1≤w∧w≤400∧1≤h∧h≤400)):=hr;clear LY hp hr;go_enter func16,ntmps16;go_wp2_with(go_at_call 13;refine LY2.mono ?_;rintro e U1 ⟨rfl,HB⟩);refine bodyPost_ret (results_tmp3 rfl _ _ _) rfl ?_;exact⟨HB,.inl ⟨HR,rfl⟩⟩
theorem results_tmp4{fn:Func}{t u v x}(h:fn.results=#[.tmp t,.tmp u,.tmp v,.tmp x]) tmps  P  w :
 (results fn tmps).run P w=.ok (.tuple #[tmps.getD t undef,tmps.getD u undef,tmps.getD v undef,tmps.getD x undef]) w:=by simp[results,h]
def RLyAt(U U':World)(w h:Int)(idf off:Nat->Int)(sn:Nat)(Wd:Nat->Int)(H:Nat->Int->Int)(r:Except (Option (Nat×Nat)) (List Nd))(e:Ending):Prop:=Below U.heap.size U U'∧match r with
 |.error x=>e=.returned (.tuple #[.slice none 0 0,.slice none 0 0,Iq (errC x:Int),Iq (errP x:Int)])
 |.ok L=>(¬(1≤w∧w≤400∧1≤h∧h≤400)∧e=.returned (.tuple #[.slice none 0 0,.slice none 0 0,Iq 6,Iq 0]))∨((1≤w∧w≤400∧1≤h∧h≤400)∧∃nv pb P,e=.returned (.tuple #[nv,Sq pb L.length L.length,Iq 0,Iq 0])∧U'.rowIs pb 47 (L.length*10) (pcF P)∧PlTo L Wd H w h idf off sn P L.length)
theorem rlayout_at t  w h  sp  sn sc  idf off  U (hsc:Scr U sp sn idf off)(hsn:sn≤4611686018427387904) Wd  H (hSz:∀L,pTree t=.ok L->Sz L Wd H):
 Calls prog 14 #[.string t,Iq w,Iq h,.slice sp sn sc] U fun e U'=>RLyAt U U' w h idf off sn Wd H (pTree t) e:=by
 have RP:=rparse_any t U;cases hp:pTree t with
 |error x=>
  have hx:(errC x:Int)≠0:=by have:=err_pos hp;omega
  rw[parse_of_err hp]at RP;obtain⟨c,hc⟩:∃z:Int,(errC x:Int)=z:=⟨_,rfl⟩;obtain⟨d,hd⟩:∃z:Int,(errP x:Int)=z:=⟨_,rfl⟩;have RP2:Hid (Calls prog 8 #[.string t] U fun e w'=>e=.returned (.tuple #[.slice none 0 0,Iq c,Iq d])∧Hid (Below U.heap.size U w')):=RP.mono fun e w' q=>⟨by have:=q.2;dsimp only at this;rw[hc,hd]at this;exact this,q.1⟩;have HCD:Hid ((errC x:Int)=c∧(errP x:Int)=d):=⟨hc,hd⟩;rw[hc]at hx;go_enter func14,ntmps14;go_wp2_with(go_at_call 8;refine RP2.mono ?_;rintro e U1 ⟨rfl,HB1⟩);all_goals refine bodyPost_ret (results_tmp4 rfl _ _ _) rfl ?_;exact⟨HB1,by show _=_;rw[HCD.1,HCD.2];rfl⟩
 |ok L=>
  have hT:Tree t L:=parse_tree (parse_of_ok hp);have hZ:=hSz L hp;have hpos:=hT.pos;rw[parse_of_ok hp]at RP;have RP2:Hid (Calls prog 8 #[.string t] U fun e w'=>∃g cap,e=.returned (.tuple #[Sq g L.length cap,Iq 0,Iq 0])∧Hid (NdsR w' g L.length (nth L))∧Hid (Below U.heap.size U w')):=RP.mono fun e w' q=>by
   obtain⟨h1,nv,AV,KV,h2,h3⟩:=q;obtain⟨g,cap,hv,hgl⟩:∃g cap,nv=Sq g L.length cap∧g<w'.heap.size:=by
    obtain⟨xs,hx⟩:=h3.nr.row;rcases own_form hx with⟨_,h0⟩|⟨g,cap,e,_,h5,_⟩;·omega
    ·exact⟨g,cap,e,h5⟩
   subst hv;exact⟨g,cap,h2,h3.nds hgl,h1⟩
  by_cases hs:1≤w∧w≤400∧1≤h∧h≤400
  ·have PL:Hid (∀g cap u,NdsR u g L.length (nth L)->Below U.heap.size U u->Calls prog 37 #[Sq g L.length cap,Iq w,Iq h,.slice sp sn sc] u fun e U'=>∃pb,e=.returned (Sq pb L.length L.length)∧Hid (RPlOut u U' L Wd H w h idf off sn pb)):=fun g cap u hu hb=>rplaced_any hT hZ g cap sp sn sc idf off w h u hu (hsc.below hb) hsn ⟨hs.1,hs.2.1⟩ hs.2.2;have HS:=qH<|hs;obtain⟨s1,s2,s3,s4⟩:=hs;have t1:¬w<1:=by omega
   have t2:¬400<w:=by omega
   have t3:¬h<1:=by omega
   have t4:¬400<h:=by omega
   go_enter func14,ntmps14;go_wp2_with(first|(go_at_call 8;refine RP2.mono ?_;rintro e U1 ⟨g,cap,rfl,HN1,HB1⟩)|(go_at_call 37;refine(PL _ _ _ HN1 HB1).mono ?_;rintro e U2 ⟨pb,rfl,HO⟩));all_goals refine bodyPost_ret (results_tmp4 rfl _ _ _) rfl ?_;obtain⟨z1,P,z2,z3⟩:=HO.out;exact⟨HB1.trans (z1.mono HB1.size),.inr ⟨HS,_,pb,P,rfl,z2,z3⟩⟩
  ·have hb:w<1∨(¬w<1∧400<w)∨((¬w<1∧¬400<w)∧h<1)∨((¬w<1∧¬400<w)∧¬h<1∧400<h):=by omega
   have HS:Hid (¬(1≤w∧w≤400∧1≤h∧h≤400)):=hs;rcases hb with t1|⟨t1,t2⟩|⟨⟨t1,t2⟩,t3⟩|⟨⟨t1,t2⟩,t3,t4⟩;all_goals go_enter func14,ntmps14;go_wp2_with(go_at_call 8;refine RP2.mono ?_;rintro e U1 ⟨g,cap,rfl,HN1,HB1⟩);all_goals refine bodyPost_ret (results_tmp4 rfl _ _ _) rfl ?_;exact⟨HB1,.inl ⟨HS,rfl⟩⟩
def RHtAt(U U':World)(w h:Int)(idf off:Nat->Int)(sn:Nat)(Wd:Nat->Int)(H:Nat->Int->Int)(x y:Int)(r:Except (Option (Nat×Nat)) (List Nd))(e:Ending):Prop:=Below U.heap.size U U'∧match r with
 |.error q=>e=.returned (.tuple #[Iq 0,Iq (errC q:Int),Iq (errP q:Int)])
 |.ok L=>(¬(1≤w∧w≤400∧1≤h∧h≤400)∧e=.returned (.tuple #[Iq 0,Iq 6,Iq 0]))∨((1≤w∧w≤400∧1≤h∧h≤400)∧((¬(0≤x∧x<w∧0≤y∧y<h)∧e=.returned (.tuple #[Iq 0,Iq 6,Iq 0]))∨((0≤x∧x<w∧0≤y∧y<h)∧∃P k,PlTo L Wd H w h idf off sn P L.length∧HitIs P L.length x y k 0∧e=.returned (.tuple #[Iq (k:Int),Iq 0,Iq 0]))))
def lastHit(P:Nat->Nat->Int)(x y:Int):Nat->Nat
 |0=>0
 |n+1=>if clipHas P x y n=true then n else lastHit P x y n
theorem lastHit_is{P}{x y}(h0:clipHas P x y 0=true):∀n,0<n->lastHit P x y n<n∧clipHas P x y (lastHit P x y n)=true∧∀j,lastHit P x y n<j->j<n->clipHas P x y j=false
 |0,h=>by omega
 |n+1,_=>by
  unfold lastHit;by_cases e:clipHas P x y n=true;·rw[if_pos e];exact⟨by omega,e,fun j a b=>by omega⟩
  ·rw[if_neg e];have hn:0<n:=Nat.pos_of_ne_zero fun q=>e (by rw[q];exact h0);obtain⟨a,b,c⟩:=lastHit_is h0 n hn;refine⟨by omega,b,fun j q1 q2=>?_⟩;by_cases z:j=n;·rw[z];simpa using e
   ·exact c j q1 (by omega)
theorem rhit_at t  w h  sp  sn sc  idf off  x y  U (hsc:Scr U sp sn idf off)(hsn:sn≤4611686018427387904) Wd  H (hSz:∀L,pTree t=.ok L->Sz L Wd H):
 Calls prog 17 #[.string t,Iq w,Iq h,.slice sp sn sc,Iq x,Iq y] U fun e U'=>RHtAt U U' w h idf off sn Wd H x y (pTree t) e:=by
 have LY:=rlayout_at t w h sp sn sc idf off U hsc hsn Wd H hSz;cases hp:pTree t with
 |error q=>
  rw[hp]at LY;have hx:((errC q:Int)!=0)=true:=by have:=err_pos hp;simp;omega
  obtain⟨c,hc⟩:∃z:Int,(errC q:Int)=z:=⟨_,rfl⟩;obtain⟨d,hd⟩:∃z:Int,(errP q:Int)=z:=⟨_,rfl⟩;have HCD:Hid ((errC q:Int)=c∧(errP q:Int)=d):=⟨hc,hd⟩;have LY2:Hid (Calls prog 14 #[.string t,Iq w,Iq h,.slice sp sn sc] U fun e U'=>e=.returned (.tuple #[.slice none 0 0,.slice none 0 0,Iq c,Iq d])∧Hid (Below U.heap.size U U')):=LY.mono fun e w' q=>⟨by have:=q.2;dsimp only at this;rw[hc,hd]at this;exact this,q.1⟩;rw[hc]at hx;go_enter func17,ntmps17;go_wp2_with(go_at_call 14;refine LY2.mono ?_;rintro e U1 ⟨rfl,HB⟩);all_goals refine bodyPost_ret (results_tmp3 rfl _ _ _) rfl ?_;exact⟨HB,by show _=_;rw[HCD.1,HCD.2];rfl⟩
 |ok L=>
  rw[hp]at LY;have hT:Tree t L:=parse_tree (parse_of_ok hp);have hpos:=hT.pos;have hcnt:=hT.vl.cnt;by_cases hs:1≤w∧w≤400∧1≤h∧h≤400
  ·have LY2:Hid (Calls prog 14 #[.string t,Iq w,Iq h,.slice sp sn sc] U fun e U'=>∃nv pb,e=.returned (.tuple #[nv,Sq pb L.length L.length,Iq 0,Iq 0])∧Hid (Below U.heap.size U U')∧Hid (∃P,U'.rowIs pb 47 (L.length*10) (pcF P)∧PlTo L Wd H w h idf off sn P L.length)):=LY.mono fun e U' q=>by
    rcases q.2 with⟨z,_⟩|⟨_,nv,pb,P,z1,z2,z3⟩;·exact absurd hs z
    ·exact⟨nv,pb,z1,q.1,P,z2,z3⟩
   have HS:=qH<|hs;obtain⟨s1,s2,s3,s4⟩:=hs;by_cases hxy:0≤x∧x<w∧0≤y∧y<h
   ·have HO:Hid (∀a b c d u,Calls prog 38 #[.agg #[Iq a,Iq b,Iq c,Iq d],Iq x,Iq y] u fun e w'=>e=.returned (.bool (holdB a b c d x y))∧Hid (Below u.heap.size u w')):=fun a b c d u=>(rHolds_any a b c d x y u).mono fun e w' q=>⟨q.1,q.2.below⟩;have HXY:=qH<|hxy;obtain⟨x1,x2,x3,x4⟩:=hxy;have t1:¬x<0:=by omega
    have t2:¬w≤x:=by omega
    have t3:¬y<0:=by omega
    have t4:¬h≤y:=by omega
    go_enter func17,ntmps17;go_wp2_with(go_at_call 14;refine LY2.mono ?_;rintro e U1 ⟨nv,pb,rfl,HB1,HPL⟩);obtain⟨P,hrow,hpl⟩:=HPL.out;have HRW:=qH<|hrow;have HPT:=qH<|hpl;clear hrow hpl HPL LY2;obtain⟨N,hN⟩:=nmd L.length;have HNe:=qH<|hN;rw[hN]at HRW hpos hcnt;rw[hN];clear hN;go_loopw[19,20] (fun kv iv wr=>∃j:Nat,j≤N∧iv=Iq (j:Int)∧kv=Iq (lastHit P x y j:Int)∧Hid (Below U1.heap.size U1 wr)) (fun _ iv _=>N-(intOf iv).toNat);case atStart=>exact⟨0,Nat.zero_le _,rfl,rfl,Below.refl _ _⟩
    case round=>
     obtain⟨j,hj,rfl,rfl,HBj⟩:=hrel;by_cases hlt:j<N
     ·have hlt':(j:Int)<(N:Int):=by omega
      have hr:=rowIs_below HRW HBj;have c4:=pc_cell hr hlt (t:=4) (by omega);have c5:=pc_cell hr hlt (t:=5) (by omega);have c6:=pc_cell hr hlt (t:=6) (by omega);have c7:=pc_cell hr hlt (t:=7) (by omega);have HOJ:=HO (P j 4) (P j 5) (P j 6) (P j 7);obtain⟨b,hb⟩:=nmd (holdB (P j 4) (P j 5) (P j 6) (P j 7) x y);have HLH:Hid (lastHit P x y (j+1)=if b=true then j else lastHit P x y j):=by rw[<-hb];exact(rfl:(if clipHas P x y j=true then j else lastHit P x y j)=_)
      rw[hb]at HOJ;have HOJ:=qH<|HOJ;clear hb hr;cases b
      ·go_wp2_with(go_at_call 38;refine(HOJ _).mono ?_;rintro e u5 ⟨rfl,HB5⟩);go_roundw;case rel=>exact⟨j+1,by omega,by go_num,by rw[HLH.out];rfl,HBj.trans (HB5.mono HBj.size)⟩
       case measure=>simp[intOf];omega
      ·go_wp2_with(go_at_call 38;refine(HOJ _).mono ?_;rintro e u5 ⟨rfl,HB5⟩);go_roundw;case rel=>exact⟨j+1,by omega,by go_num,by rw[HLH.out];rfl,HBj.trans (HB5.mono HBj.size)⟩
       case measure=>simp[intOf];omega
     ·have hlt':¬(j:Int)<(N:Int):=by omega
      obtain rfl:j=N:=by omega
      go_wp2;refine bodyPost_ret (results_tmp3 rfl _ _ _) rfl ?_;refine⟨HB1.trans (HBj.mono HB1.size),.inr ⟨HS,.inr ⟨HXY,P,lastHit P x y j,HPT,?_,rfl⟩⟩⟩;have h0:clipHas P x y 0=true:=by obtain⟨_,_,_,_,e4,e5,e6,e7⟩:=HPT.root;have q:=HXY.out;have z:=HS.out;unfold clipHas;rw[e4,e5,e6,e7];refine holdB_yes ?_;unfold posI lenI;omega
      rw[HNe.out];obtain⟨a,b,c⟩:=lastHit_is h0 j hpos;exact .inl ⟨rfl,a,b,c⟩
   ·have hb:x<0∨(¬x<0∧w≤x)∨((¬x<0∧¬w≤x)∧y<0)∨((¬x<0∧¬w≤x)∧¬y<0∧h≤y):=by omega
    have HXY:Hid (¬(0≤x∧x<w∧0≤y∧y<h)):=hxy;clear LY hp hT hsc hSz hxy;rcases hb with t1|⟨t1,t2⟩|⟨⟨t1,t2⟩,t3⟩|⟨⟨t1,t2⟩,t3,t4⟩;all_goals go_enter func17,ntmps17;go_wp2_with(go_at_call 14;refine LY2.mono ?_;rintro e U1 ⟨nv,pb,rfl,HB1,HPL⟩);all_goals refine bodyPost_ret (results_tmp3 rfl _ _ _) rfl ?_;exact⟨HB1,.inr ⟨HS,.inl ⟨HXY,rfl⟩⟩⟩
  ·have LY2:Hid (Calls prog 14 #[.string t,Iq w,Iq h,.slice sp sn sc] U fun e U'=>e=.returned (.tuple #[.slice none 0 0,.slice none 0 0,Iq 6,Iq 0])∧Hid (Below U.heap.size U U')):=LY.mono fun e U' q=>by
    rcases q.2 with⟨_,z⟩|⟨z,_⟩;·exact⟨z,q.1⟩
    ·exact absurd z hs
   have HS:Hid (¬(1≤w∧w≤400∧1≤h∧h≤400)):=hs;clear LY hp hT hsc hSz hs;go_enter func17,ntmps17;go_wp2_with(go_at_call 14;refine LY2.mono ?_;rintro e U1 ⟨rfl,HB1⟩);all_goals refine bodyPost_ret (results_tmp3 rfl _ _ _) rfl ?_;exact⟨HB1,.inl ⟨HS,rfl⟩⟩
end
section
section
variable{s:ByteArray} {L:List Nd} {Wd:Nat->Int} {H:Nat->Int->Int} {w h:Int} {idf off:Nat->Int} {sn:Nat} {P:Nat->Nat->Int}
theorem PlTo.scroll(hT:Tree s L)(hp:PlTo L Wd H w h idf off sn P L.length){i}(hi:i<L.length)(h4:(nth L i).kind=4):
 (nth L i).kids.length=1∧0≤P i 8∧P i 8≤P i 9∧P (kdn (nth L i).kids 0) 0=P i 0∧P (kdn (nth L i).kids 0) 1=P i 1-P i 8∧P (kdn (nth L i).kids 0) 2=P i 2∧P (kdn (nth L i).kids 0) 3=P i 3+P i 9∧(atN (nth L i) 0=0->P i 8=0):=by
 have hk1:(nth L i).kids.length=1:=by
  rcases hT.kidok i hi with q|⟨_,_,q⟩|⟨q,_⟩;·omega
  ·exact q
  ·omega
 obtain⟨r1,r2⟩:=hp.sc i hi hi h4;obtain⟨R0,R1,R2,R3,hs,hk⟩:=hp.kr i hi hi;obtain⟨e0,e1,e2,e3⟩:=hs.scr (by omega) 0 (by omega);have k0:=hk 0 (by omega) 0 (by omega);have k1:=hk 0 (by omega) 1 (by omega);have k2:=hk 0 (by omega) 2 (by omega);have k3:=hk 0 (by omega) 3 (by omega);have k0:P (kdn (nth L i).kids 0) 0=R0 0:=k0;have k1:P (kdn (nth L i).kids 0) 1=R1 0:=k1;have k2:P (kdn (nth L i).kids 0) 2=R2 0:=k2;have k3:P (kdn (nth L i).kids 0) 3=R3 0:=k3;have hr0:0≤P i 9:=by rw[r1];unfold roomI;omega
 refine⟨hk1,by omega,by omega,by omega,by omega,by omega,by omega,fun h0=>?_⟩;have:offI (atN (nth L i) 0) idf off sn=0:=by unfold offI;rw[if_pos h0]
 omega
theorem cl_id{x}(h0:0≤x)(h1:x≤100000):cl x=x:=by unfold cl;rw[if_neg (by omega),if_neg (by omega)]
theorem PlTo.inRow(hT:Tree s L)(hp:PlTo L Wd H w h idf off sn P L.length){i}(hi:i<L.length)(h0:(nth L i).kind=0):
 ∃G,((nth L i).kids=[]∨KidSpl L (nth L i).kids (fun j=>Wd (kdn (nth L i).kids j)) (P i 2) (atN (nth L i) 4) G)∧(∀j,j<(nth L i).kids.length->0≤G j∧G j≤100000)∧∀j,j<(nth L i).kids.length->P (kdn (nth L i).kids j) 0=P i 0+offs G (atN (nth L i) 4) j∧P (kdn (nth L i).kids j) 1=P i 1∧P (kdn (nth L i).kids j) 2=G j∧P (kdn (nth L i).kids j) 3=P i 3:=by obtain⟨R0,R1,R2,R3,hs,hk⟩:=hp.kr i hi hi;obtain⟨G,g1,g2,g3⟩:=hs.row (by omega);have hb:=(hT.vl.nv i hi).bd.2.1;rw[cl_id hb.1 (by omega)]at g3;refine⟨G,g1,g2,fun j hj=>?_⟩;obtain⟨e0,e1,e2,e3⟩:=g3 j hj;have k0:P (kdn (nth L i).kids j) 0=R0 j:=hk j hj 0 (by omega);have k1:P (kdn (nth L i).kids j) 1=R1 j:=hk j hj 1 (by omega);have k2:P (kdn (nth L i).kids j) 2=R2 j:=hk j hj 2 (by omega);have k3:P (kdn (nth L i).kids j) 3=R3 j:=hk j hj 3 (by omega);rw[k0,k1,k2,k3];exact⟨e0,e1,e2,e3⟩
theorem sumL_one{f}{l}(hf:∀j∈l,0≤f j){k}(hk:k∈l):f k≤sumL f l:=by
 induction l with
 |nil=>cases hk
 |cons a l ih=>
  have h0:0≤f a:=hf a (by simp);have h1:0≤sumL f l:=sumL_nonneg fun j hj=>hf j (by simp[hj]);have e:sumL f (a::l)=f a+sumL f l:=rfl;rcases List.mem_cons.1 hk with rfl|hk;·omega
  ·have:=ih (fun j hj=>hf j (by simp[hj])) hk;omega
theorem tiles_key{r S1 S2 S:Int}(h1:r≤S1∨r≤S2->S=r)(h2:S1<r->S2<r->S=S2):S≤r:=by
 by_cases a:r≤S1;·exact Int.le_of_eq (h1 (.inl a))
 ·by_cases b:r≤S2;·exact Int.le_of_eq (h1 (.inr b))
  ·have:=h2 (by omega) (by omega);omega
theorem KidSpl.tiles{L}{ks}{N}{room gap}{G}(g1:KidSpl L ks N room gap G)(hk:0<ks.length):
 sumL G (List.range ks.length)≤rm room gap ks.length∧((∃j,j<ks.length∧0<atN (nth L (kdn ks j)) 3∧atN (nth L (kdn ks j)) 2<0)->sumL G (List.range ks.length)=rm room gap ks.length):=by
 have hr:=rm_le room gap ks.length hk;obtain⟨t1,t2,t3⟩:=SplitIs.tiles g1 (held_bds _ _ _);refine⟨tiles_key t2 t3,fun⟨j,hj,q1,q2⟩=>t2 (.inr (Int.le_trans hr ?_))⟩;have hcl:0<cl (atN (nth L (kdn ks j)) 3):=by unfold cl;split;omega;split<;>omega
 have hm:hMax (wMn (nth L (kdn ks j)) (N j)) (atN (nth L (kdn ks j)) 2)=100000:=by unfold hMax;rw[if_pos q2]
 refine Int.le_trans ?_ (sumL_one (k:=j) (fun x _=>?_) (List.mem_range.2 hj));·show(100000:Int)≤if 0<cl (atN (nth L (kdn ks j)) 3)then hMax (wMn (nth L (kdn ks j)) (N j)) (atN (nth L (kdn ks j)) 2)else cl (wMn (nth L (kdn ks j)) (N j));rw[if_pos hcl,hm];exact Int.le_refl _
 ·have a1:=hMax_bd (wMn (nth L (kdn ks x)) (N x)) (atN (nth L (kdn ks x)) 2);have a2:=cl_bd (wMn (nth L (kdn ks x)) (N x));show(0:Int)≤if 0<cl (atN (nth L (kdn ks x)) 3)then hMax (wMn (nth L (kdn ks x)) (N x)) (atN (nth L (kdn ks x)) 2)else cl (wMn (nth L (kdn ks x)) (N x));split<;>omega
theorem PlTo.tiles(hT:Tree s L)(hp:PlTo L Wd H w h idf off sn P L.length){i}(hi:i<L.length)(h0:(nth L i).kind=0)(hk:0<(nth L i).kids.length):
 ∃G,(∀j,j<(nth L i).kids.length->0≤G j∧G j≤100000)∧(∀j,j<(nth L i).kids.length->P (kdn (nth L i).kids j) 2=G j)∧sumL G (List.range (nth L i).kids.length)≤rm (P i 2) (atN (nth L i) 4) (nth L i).kids.length∧((∃j,j<(nth L i).kids.length∧0<atN (nth L (kdn (nth L i).kids j)) 3∧atN (nth L (kdn (nth L i).kids j)) 2<0)->sumL G (List.range (nth L i).kids.length)=rm (P i 2) (atN (nth L i) 4) (nth L i).kids.length):=by obtain⟨G,g1,g2,g3⟩:=hp.inRow hT hi h0;have g1:=g1.resolve_left (fun e=>by rw[e]at hk;cases hk);exact⟨G,g2,fun j hj=>(g3 j hj).2.2.1,g1.tiles hk⟩
def OnScr(P:Nat->Nat->Int)(w h:Int)(i:Nat):Prop:=0≤P i 4∧0≤P i 5∧0≤P i 6∧0≤P i 7∧P i 4+P i 6≤w∧P i 5+P i 7≤h
def InsB(x y a b X Y A B:Int):Prop:=a≤0∨b≤0∨(X≤x∧Y≤y∧x+a≤X+A∧y+b≤Y+B)
theorem cap_ins{x y a b cx cy cw ch w h}(hw:1≤w∧w≤400)(hh:1≤h∧h≤400)(ha:0≤a∧a≤100000)(hb:0≤b∧b≤100000)(hc:0≤cx∧0≤cy∧0≤cw∧0≤ch∧cx+cw≤w∧cy+ch≤h):
 let c0:=cap0 x y a b cx cy cw ch
 let c1:=cap1 x y a b cx cy cw ch
 let c2:=cap2 x y a b cx cy cw ch
 let c3:=cap3 x y a b cx cy cw ch
 (0≤c0∧0≤c1∧0≤c2∧0≤c3∧c0+c2≤w∧c1+c3≤h)∧InsB c0 c1 c2 c3 x y a b∧InsB c0 c1 c2 c3 cx cy cw ch:=by
 dsimp only;unfold cap0 cap1 cap2 cap3 InsB;by_cases q:capL x a cx cw≥capR x a cx cw∨capL y b cy ch≥capR y b cy ch;·rw[if_pos q,if_pos q,if_pos q,if_pos q];omega
 ·rw[if_neg q,if_neg q,if_neg q,if_neg q];unfold capL capR posI lenI at*;omega
theorem PlTo.onScr(hT:Tree s L)(hp:PlTo L Wd H w h idf off sn P L.length)(hw:1≤w∧w≤400)(hh:1≤h∧h≤400):∀n i,i<n->i<L.length->OnScr P w h i
 |0,i,h,_=>by omega
 |n+1,i,hn,hi=>by
  by_cases e:i=0;·subst e;obtain⟨r0,r1,r2,r3,r4,r5,r6,r7⟩:=hp.root;unfold OnScr;omega
  ·obtain⟨u,k,hu,hk,hc,hup⟩:=hT.kid_of i (by omega) hi;have hu2:=PlTo.onScr hT hp hw hh n u (by omega) (by omega);obtain⟨R0,R1,R2,R3,hs,hkk⟩:=hp.kr u (by omega) (by omega);have hbi:=hp.bd i hi;rw[<-hc]at hbi⊢;have k2:P (kdn (nth L u).kids k) 2=R2 k:=hkk k hk 2 (by omega);have k3:P (kdn (nth L u).kids k) 3=R3 k:=hkk k hk 3 (by omega);have k4:P (kdn (nth L u).kids k) 4=cap0 (R0 k) (R1 k) (R2 k) (R3 k) (P u 4) (P u 5) (P u 6) (P u 7):=hkk k hk 4 (by omega);have k5:P (kdn (nth L u).kids k) 5=cap1 (R0 k) (R1 k) (R2 k) (R3 k) (P u 4) (P u 5) (P u 6) (P u 7):=hkk k hk 5 (by omega);have k6:P (kdn (nth L u).kids k) 6=cap2 (R0 k) (R1 k) (R2 k) (R3 k) (P u 4) (P u 5) (P u 6) (P u 7):=hkk k hk 6 (by omega);have k7:P (kdn (nth L u).kids k) 7=cap3 (R0 k) (R1 k) (R2 k) (R3 k) (P u 4) (P u 5) (P u 6) (P u 7):=hkk k hk 7 (by omega);unfold OnScr;rw[k4,k5,k6,k7];exact(cap_ins hw hh (by omega) (by omega) hu2).1
theorem PlTo.clip(hT:Tree s L)(hp:PlTo L Wd H w h idf off sn P L.length)(hw:1≤w∧w≤400)(hh:1≤h∧h≤400){i}(hi:i<L.length)(h0:0<i):
 ∃u,u<i∧(nth L i).up=(u:Int)∧InsB (P i 4) (P i 5) (P i 6) (P i 7) (P i 0) (P i 1) (P i 2) (P i 3)∧InsB (P i 4) (P i 5) (P i 6) (P i 7) (P u 4) (P u 5) (P u 6) (P u 7):=by obtain⟨u,k,hu,hk,hc,hup⟩:=hT.kid_of i h0 hi;have hu2:=PlTo.onScr hT hp hw hh (u+1) u (by omega) (by omega);obtain⟨R0,R1,R2,R3,hs,hkk⟩:=hp.kr u (by omega) (by omega);have hbi:=hp.bd i hi;refine⟨u,hu,hup,?_⟩;rw[<-hc]at hbi⊢;have k0:P (kdn (nth L u).kids k) 0=R0 k:=hkk k hk 0 (by omega);have k1:P (kdn (nth L u).kids k) 1=R1 k:=hkk k hk 1 (by omega);have k2:P (kdn (nth L u).kids k) 2=R2 k:=hkk k hk 2 (by omega);have k3:P (kdn (nth L u).kids k) 3=R3 k:=hkk k hk 3 (by omega);have k4:P (kdn (nth L u).kids k) 4=cap0 (R0 k) (R1 k) (R2 k) (R3 k) (P u 4) (P u 5) (P u 6) (P u 7):=hkk k hk 4 (by omega);have k5:P (kdn (nth L u).kids k) 5=cap1 (R0 k) (R1 k) (R2 k) (R3 k) (P u 4) (P u 5) (P u 6) (P u 7):=hkk k hk 5 (by omega);have k6:P (kdn (nth L u).kids k) 6=cap2 (R0 k) (R1 k) (R2 k) (R3 k) (P u 4) (P u 5) (P u 6) (P u 7):=hkk k hk 6 (by omega);have k7:P (kdn (nth L u).kids k) 7=cap3 (R0 k) (R1 k) (R2 k) (R3 k) (P u 4) (P u 5) (P u 6) (P u 7):=hkk k hk 7 (by omega);rw[k4,k5,k6,k7,k0,k1,k2,k3];exact(cap_ins hw hh (by omega) (by omega) hu2).2
end
end
section
open Go.RowKit Go.Sort
section
variable{s:ByteArray} {L:List Nd} {Wd:Nat->Int} {H:Nat->Int->Int} {w h:Int} {idf off:Nat->Int} {sn:Nat} {P Q:Nat->Nat->Int} {x y:Int}
theorem PlTo.has0(hp:PlTo L Wd H w h idf off sn P L.length)(hw:1≤w∧w≤400)(hh:1≤h∧h≤400)(hx:0≤x∧x<w)(hy:0≤y∧y<h):clipHas P x y 0=true:=by obtain⟨r0,r1,r2,r3,r4,r5,r6,r7⟩:=hp.root;unfold clipHas;rw[r4,r5,r6,r7];refine holdB_yes ?_;unfold posI lenI;omega
theorem PlTo.hasno(hT:Tree s L)(hp:PlTo L Wd H w h idf off sn P L.length)(hw:1≤w∧w≤400)(hh:1≤h∧h≤400)(hx:¬(0≤x∧x<w∧0≤y∧y<h)){i}(hi:i<L.length):clipHas P x y i=false:=by have ho:=hp.onScr hT hw hh (i+1) i (by omega) hi;unfold OnScr at ho;unfold clipHas;refine holdB_no ?_;unfold posI lenI;omega
theorem PlTo.hitIs(hT:Tree s L)(hp:PlTo L Wd H w h idf off sn P L.length)(hq:PlTo L Wd H w h idf off sn Q L.length){k}{c}(hh:HitIs Q L.length x y k c):HitIs P L.length x y k c:=by
 have key:∀i,i<L.length->clipHas Q x y i=clipHas P x y i:=fun i hi=>by have hu:=PlTo.uniq hT hq hp (i+1) i (by omega) hi;unfold clipHas;rw[hu 4 (by omega),hu 5 (by omega),hu 6 (by omega),hu 7 (by omega)]
 rcases hh with⟨h1,h2,h3,h4⟩|⟨h1,h2,h3⟩;·exact .inl ⟨h1,h2,by rw[<-key k h2];exact h3,fun j a b=>by rw[<-key j b];exact h4 j a b⟩
 ·exact .inr ⟨h1,h2,fun j b=>by rw[<-key j b];exact h3 j b⟩
end
end
section
open Go.RowKit Go.Sort Go.Proofs.Tryz
theorem HitIs.uniq{P}{n k k'}{x y c}(h:HitIs P n x y k 0)(h':HitIs P n x y k' c):k'=k∧c=0:=by
 rcases h with⟨_,a1,a2,a3⟩|⟨a,_⟩
 ·rcases h' with⟨b0,b1,b2,b3⟩|⟨b0,b1,b2⟩
  ·refine⟨?_,b0⟩;rcases Nat.lt_trichotomy k k' with q|q|q;·rw[a3 k' q b1]at b2;cases b2
   ·exact q.symm
   ·rw[b3 k q a1]at a2;cases a2
  ·rw[b2 k a1]at a2;cases a2
 ·omega
theorem hit_both s  w h x y  idf off  sn  Wd  H :∃a c d,(∀U U' e,HtAt U U' w h idf off sn Wd H x y (pTree s) e->e=.returned (.tuple #[Iq a,Iq c,Iq d])∧Below U.heap.size U U')∧∀U U' e,RHtAt U U' w h idf off sn Wd H x y (pTree s) e->e=.returned (.tuple #[Iq a,Iq c,Iq d])∧Below U.heap.size U U':=by
 cases hp:pTree s with
 |error q=>exact⟨0,_,_,fun U U' e z=>⟨z.2,z.1⟩,fun U U' e z=>⟨z.2,z.1⟩⟩
 |ok L=>
  have hT:Tree s L:=parse_tree (parse_of_ok hp);by_cases hs:1≤w∧w≤400∧1≤h∧h≤400
  ·by_cases hxy:0≤x∧x<w∧0≤y∧y<h
   ·by_cases ex:∃P k,PlTo L Wd H w h idf off sn P L.length∧HitIs P L.length x y k 0
    ·obtain⟨P,k,p1,p2⟩:=ex;refine⟨k,0,0,fun U U' e z=>?_,fun U U' e z=>?_⟩
     ·rcases z.2 with⟨q,_⟩|⟨_,Q,k',c,q1,q2,q3⟩;·exact absurd hs q
      ·obtain⟨rfl,rfl⟩:=p2.uniq (PlTo.hitIs hT p1 q1 q2);exact⟨q3,z.1⟩
     ·rcases z.2 with⟨q,_⟩|⟨_,⟨q,_⟩|⟨_,Q,k',q1,q2,q3⟩⟩;·exact absurd hs q
      ·exact absurd hxy q
      ·obtain⟨rfl,_⟩:=p2.uniq (PlTo.hitIs hT p1 q1 q2);exact⟨q3,z.1⟩
    ·refine⟨0,0,0,fun U U' e z=>?_,fun U U' e z=>?_⟩
     ·rcases z.2 with⟨q,_⟩|⟨_,Q,k',c,q1,q2,q3⟩;·exact absurd hs q
      ·have h0:=q1.has0 ⟨hs.1,hs.2.1⟩ hs.2.2 ⟨hxy.1,hxy.2.1⟩ hxy.2.2;rcases q2 with⟨rfl,a,b,c⟩|⟨_,_,c⟩;·exact absurd ⟨Q,k',q1,.inl ⟨rfl,a,b,c⟩⟩ ex
       ·rw[c 0 hT.pos]at h0;cases h0
     ·rcases z.2 with⟨q,_⟩|⟨_,⟨q,_⟩|⟨_,Q,k',q1,q2,q3⟩⟩;·exact absurd hs q
      ·exact absurd hxy q
      ·exact absurd ⟨Q,k',q1,q2⟩ ex
   ·refine⟨0,6,0,fun U U' e z=>?_,fun U U' e z=>?_⟩
    ·rcases z.2 with⟨q,_⟩|⟨_,Q,k',c,q1,q2,q3⟩;·exact absurd hs q
     ·rcases q2 with⟨_,a,b,_⟩|⟨rfl,rfl,_⟩;·rw[q1.hasno hT ⟨hs.1,hs.2.1⟩ hs.2.2 hxy a]at b;cases b
      ·exact⟨q3,z.1⟩
    ·rcases z.2 with⟨q,_⟩|⟨_,⟨_,q⟩|⟨q,_⟩⟩;·exact absurd hs q
     ·exact⟨q,z.1⟩
     ·exact absurd q hxy
  ·refine⟨0,6,0,fun U U' e z=>?_,fun U U' e z=>?_⟩
   ·rcases z.2 with⟨_,q⟩|⟨q,_⟩;·exact⟨q,z.1⟩
    ·exact absurd q hs
   ·rcases z.2 with⟨_,q⟩|⟨q,_⟩;·exact⟨q,z.1⟩
    ·exact absurd q hs
theorem hits_walk s  w h  sp  sn sc  x y  idf off  E  W (hG:Glo W E)(hA:Apart W E)(hE:ErT W)(ht:TabAt W)(hsc:Scr W sp sn idf off)(hsn:sn≤8796093022208):
 Calls prog 5 #[.string s,Iq w,Iq h,.slice sp sn sc,Iq x,Iq y] W fun e W'=>e=.returned (.bool true)∧Below W.heap.size W W':=by
 have hmix:prog.follows .mixedOrders=true:=by kernel_rfl
 obtain⟨Wd,H,hSz⟩:=sz_pick s;obtain⟨a,c,d,e1,e2⟩:=hit_both s w h x y idf off sn Wd H;have NU:Hid (∀n u,Calls prog 9 #[Iq n] u fun e w'=>e=.returned (Iq n)∧w'=u):=lnum_any;have SC:Hid (Calls prog 12 #[.slice sp sn sc] W fun e u'=>∃p c,e=.returned (.slice p sn c)∧Hid (Scr u' p sn idf off∧(∀a:Addr,p=some a->a.block<u'.heap.size)∧Below W.heap.size W u')):=(scrolls_any sp sn sc idf off W hsc hsn).mono (by rintro e u' ⟨p,c,h1,h2,h3,h4⟩;exact⟨p,c,h1,h2,fun a e=>(h3 a e).2,h4⟩);have HT:Hid (∀u p q,Below W.heap.size W u->Scr u p sn idf off->(∀a:Addr,p=some a->a.block<u.heap.size)->Calls prog 16 #[.string s,Iq w,Iq h,.slice p sn q,Iq x,Iq y] u fun e u'=>e=.returned (.tuple #[Iq a,Iq c,Iq d])∧Hid (Below u.heap.size u u')):=fun u p q hu h1 h2=>(hit_at s w h p sn q idf off x y E u (hG.cells hu) (hA.below hu) (hE.below hu) (ht.below hu) h1 (by omega) h2 Wd H hSz).mono fun e u' z=>e1 u u' e z;have RT:Hid (∀u,Below W.heap.size W u->Calls prog 17 #[.string s,Iq w,Iq h,.slice sp sn sc,Iq x,Iq y] u fun e u'=>e=.returned (.tuple #[Iq a,Iq c,Iq d])∧Hid (Below u.heap.size u u')):=fun u hu=>(rhit_at s w h sp sn sc idf off x y u (hsc.below hu) (by omega) Wd H hSz).mono fun e u' z=>e2 u u' e z;clear hG hA hE ht hsc e1 e2 hSz;go_enter func5,ntmps5;go_wp2_with(first|(go_at_call 12;refine SC.mono ?_;rintro e U1 ⟨p1,c1,rfl,HB1⟩)|(go_at_call 16;refine(HT _ _ _ HB1.2.2 HB1.1 HB1.2.1).mono ?_;rintro e U2 ⟨rfl,HB2⟩;have HC2:Hid (Below W.heap.size W U2):=HB1.2.2.trans (HB2.mono HB1.2.2.size))|(go_at_call 17;refine(RT _ HC2).mono ?_;rintro e U3 ⟨rfl,HB3⟩)|(go_at_call 9;refine(NU _ _).mono ?_;rintro e U4 ⟨rfl,h4⟩;obtain rfl:=h4.symm));all_goals go_ret;exact⟨by simp,HC2.trans (HB3.mono HC2.size)⟩
